import PyProof.Rows.All
import Wide.All
import OpenK.AllK
import Wide.FinOn
import PyProof.EqAt
import PyProof.EqKinds
import PyProof.TupleCall
import KE.BitLaws
import PyQl65
import PySem.Builtin.Tuple.Common
import KE.KDictOf
import PyProof.DictRoadsH
import PyProof.Rows.TupTab
import PyProof.ExcBaseAll.Exception
import KE.OsGo
import Open.SpecLaws
import PySem.Challenge.RW_shortline_s01_answers
set_option Elab.async false
set_option linter.all false
set_option maxRecDepth 100000
namespace L2
open PySem PySem.Spec PyProof.Rows
/-- a key: an int or a str -/
abbrev Key := Sum Int Str
def keyIs : Key → Value → Bool
  | .inl k, v => Value.isInt k v
  | .inr x, v => Value.isStrOf x v
def keyH (w : World) : Key → Int
  | .inl k => hashInt k
  | .inr x => hashStr w x
theorem keyIs_shape : ∀ {k : Key} {v : Value}, keyIs k v = true → (∃ i t, k = Sum.inl i ∧ v = Value.int i t) ∨ (∃ x t, k = Sum.inr x ∧ v = Value.str x t)
  | .inl i, v, h => by
    obtain ⟨t, e⟩ := Value.isInt_shape (k := i) (v := v) h
    exact .inl ⟨i, t, rfl, e⟩
  | .inr x, v, h => by
    obtain ⟨t, e⟩ := Value.isStrOf_shape (x := x) (v := v) h
    exact .inr ⟨x, t, rfl, e⟩
theorem keyIs_int (i : Int) (t : Tok) : keyIs (.inl i) (.int i t) = true := by simp [keyIs, Value.isInt]
theorem keyIs_str (x : Str) (t : Tok) : keyIs (.inr x) (.str x t) = true := by simp [keyIs, Value.isStrOf]
theorem key_ll (a b : Int) : decide ((Sum.inl a : Key) = Sum.inl b) = (a == b) := by
  by_cases e : a = b
  · subst e; simp
  · have h : ¬ (Sum.inl a : Key) = Sum.inl b := fun q => e (Sum.inl.inj q)
    rw [decide_eq_false h]
    exact (beq_eq_false_iff_ne.mpr e).symm
theorem key_rr (a b : Str) : decide ((Sum.inr a : Key) = Sum.inr b) = decide (a = b) := by
  by_cases e : a = b
  · subst e; simp
  · have h : ¬ (Sum.inr a : Key) = Sum.inr b := fun q => e (Sum.inr.inj q)
    rw [decide_eq_false h, decide_eq_false e]
theorem key_lr (a : Int) (b : Str) : decide ((Sum.inl a : Key) = Sum.inr b) = false := decide_eq_false (fun q => nomatch q)
theorem key_rl (a : Str) (b : Int) : decide ((Sum.inr a : Key) = Sum.inl b) = false := decide_eq_false (fun q => nomatch q)
def mixKind (prog : Program) (w : World) : PySem.KeyKind prog w Key where
  is := keyIs
  hash := keyH w
  inj := fun v a b ha hb => by
    rcases keyIs_shape ha with ⟨i, t, rfl, rfl⟩ | ⟨x, t, rfl, rfl⟩
    · rcases keyIs_shape hb with ⟨j, u, rfl, e⟩ | ⟨y, u, rfl, e⟩
      · injection e with e1 _; rw [e1]
      · exact nomatch e
    · rcases keyIs_shape hb with ⟨j, u, rfl, e⟩ | ⟨y, u, rfl, e⟩
      · exact nomatch e
      · injection e with e1 _; rw [e1]
  byValue := fun k v h => by
    rcases keyIs_shape h with ⟨i, t, rfl, rfl⟩ | ⟨x, t, rfl, rfl⟩ <;> rfl
  pyHash := fun hv h => by
    rcases keyIs_shape hv with ⟨i, t, rfl, rfl⟩ | ⟨x, t, rfl, rfl⟩
    · exact wpAny_pyHash_int h
    · exact wpAny_pyHash_str h
  eqBool := fun hu hv h => by
    rcases keyIs_shape hu with ⟨i, t, rfl, rfl⟩ | ⟨x, t, rfl, rfl⟩
    · rcases keyIs_shape hv with ⟨j, u, rfl, rfl⟩ | ⟨y, u, rfl, rfl⟩
      · rw [key_ll] at h; exact wpAny_eqBool_int h
      · rw [key_lr] at h; exact SeqAt.EqAt.int_str i t y u _ _ _ _ h
    · rcases keyIs_shape hv with ⟨j, u, rfl, rfl⟩ | ⟨y, u, rfl, rfl⟩
      · rw [key_rl] at h; exact SeqAt.EqAt.str_int x t j u _ _ _ _ h
      · rw [key_rr] at h; exact wpAny_eqBool_str h
  «strs» := fun k x t v h => by
    rcases keyIs_shape h with ⟨i, u, rfl, e⟩ | ⟨y, u, rfl, e⟩
    · exact nomatch e
    · injection e with e1 _
      subst e1
      cases v <;> rfl
theorem mixKind_int (prog : Program) (w : World) (i : Int) (t : Tok) : (mixKind prog w).is (.inl i) (.int i t) = true := keyIs_int i t
theorem mixKind_str (prog : Program) (w : World) (x : Str) (t : Tok) : (mixKind prog w).is (.inr x) (.str x t) = true := keyIs_str x t
end L2
namespace L2
open PySem PySem.Spec PyProof.Rows
/-- a value, without the heap -/
inductive V where
  | non | bl (b : Bool) | int (i : Int) | str (x : Str) | byt (b : Array UInt8) | flt (b : UInt64) | ref (a : Addr) | ty (n : String)
  deriving DecidableEq
def RelV : V → Value → Prop
  | .non, u => u = Value.none
  | .bl b, u => u = Value.bool b
  | .int i, u => ∃ t, u = Value.int i t
  | .str x, u => ∃ t, u = Value.str x t
  | .byt b, u => ∃ t, u = Value.bytes b t
  | .flt b, u => ∃ t, u = Value.float b t
  | .ref a, u => u = Value.ref a
  | .ty n, u => u = Value.type n
abbrev Vals : List V → List Value → Prop := Paired RelV
theorem Vals.length {xs : List V} {us : List Value} (r : Vals xs us) : xs.length = us.length := Paired.length r
theorem Vals.get : ∀ {xs : List V} {us : List Value} {i : Nat} {x : V}, Vals xs us → xs[i]? = some x → ∃ u, us[i]? = some u ∧ RelV x u
  | _, _, _, _, .nil, e => by simp at e
  | _, _, 0, _, .cons r _, e => by simp at e; subst e; exact ⟨_, rfl, r⟩
  | _, _, i + 1, x, .cons _ t, e => by
    obtain ⟨u, h1, h2⟩ := Vals.get (i := i) (x := x) t (by simpa using e)
    exact ⟨u, by simpa using h1, h2⟩
theorem Vals.append : ∀ {xs ys : List V} {us ws : List Value}, Vals xs us → Vals ys ws → Vals (xs ++ ys) (us ++ ws)
  | _, _, _, _, .nil, s => s
  | _, _, _, _, .cons r t, s => .cons r (Vals.append t s)
theorem Vals.take : ∀ {xs : List V} {us : List Value} (n : Nat), Vals xs us → Vals (xs.take n) (us.take n)
  | _, _, 0, _ => .nil
  | _, _, _ + 1, .nil => .nil
  | _, _, n + 1, .cons r t => .cons r (Vals.take n t)
theorem Vals.drop : ∀ {xs : List V} {us : List Value} (n : Nat), Vals xs us → Vals (xs.drop n) (us.drop n)
  | _, _, 0, r => r
  | _, _, _ + 1, .nil => .nil
  | _, _, n + 1, .cons _ t => Vals.drop n t
def RelO : Option V → Option Value → Prop
  | some v, some u => RelV v u
  | none, none => True
  | _, _ => False
def KV {κ : Type} : List (κ × V) → List (κ × Value) → Prop := Paired fun (p : κ × V) (q : κ × Value) => p.1 = q.1 ∧ RelV p.2 q.2
/-- a key of a dict (00_mix): an int or a text -/
def kV : Key → V
  | .inl i => .int i
  | .inr x => .str x
/-- what stands at a tracked address -/
inductive HO where
  /-- a list -/
  | lst (xs : List V)
  /-- a tuple (never changes) -/
  | tup (xs : List V)
  /-- a dict whose keys are ints and texts; one whose keys are tuples of ints and texts (the empty one is both) -/
  | dK (kvs : List (Key × V)) | dT (kvs : List (List Key × V))
  /-- a set of ints: its members, its size -/
  | set (S : Int → Bool) (n : Nat)
  /-- an instance of the class at C, its dict at dx, its attributes -/
  | ins (C dx : Addr) (fs : List (Str × V))
  /-- the dict of the instance at x -/
  | own (x : Addr)
  /-- the dict of an exception -/
  | xd (fs : List (Str × V))
  /-- a bound method, f of x -/
  | met (f x : Addr)
  /-- a range object lo, lo + 1, .. below hi -/
  | rng (lo hi : Int)
  /-- a thing that is known to the object (the script; a dict while a loop walks it): read, never written while it is so -/
  | frz (o : Obj) (u : HO)
  /-- a code object's table -/
  | tbl (ps : Array Value)
  /-- any other thing, by what is true of its one object (a def of one's own: SetO a S n := HO.ext fun h => ..) -/
  | ext (φ : Heap → Prop)
abbrev Hp := Addr → Option HO
def upd (H : Hp) (a : Addr) (o : HO) : Hp := fun b => if b = a then some o else H b
theorem upd_same {H : Hp} {a : Addr} {o : HO} : upd H a o a = some o := by unfold upd; rw [if_pos rfl]
theorem upd_ne {H : Hp} {a b : Addr} {o : HO} (h : b ≠ a) : upd H a o b = H b := by unfold upd; rw [if_neg h]
theorem upd_upd {H : Hp} {a : Addr} {o u : HO} : upd (upd H a o) a u = upd H a u := by
  funext b; unfold upd; split <;> rfl
/-- two objects of different content stand apart -/
theorem ne_of {H : Hp} {a b : Addr} {o u : HO} (h : H a = some o) (h' : H b = some u) (d : o ≠ u) : a ≠ b := by
  intro e; subst e; rw [h] at h'; exact d (Option.some.inj h')
theorem ne_of_none {H : Hp} {a b : Addr} {o : HO} (h : H a = some o) (h' : H b = none) : a ≠ b := by
  intro e; subst e; rw [h] at h'; cases h'
section
variable (P : Program) (w : World)
def ObjOk (H : Hp) (h : Heap) (a : Addr) : HO → Prop
  | .lst xs => xs.length ≤ sizeLine ∧ ∃ (its : List Value) (n : Nat), Vals xs its ∧ h.get? a = some { cls := .type "list", data := .seq its.toArray n }
  | .tup xs => xs.length ≤ sizeLine ∧ ∃ its : List Value, Vals xs its ∧ IsTup h a its.toArray
  | .dK kvs => kvs.length ≤ sizeLine ∧ (a == sysModules) = false ∧ ∃ vs, KV kvs vs ∧ h.DictOf (mixKind P w) a vs
  | .dT kvs => kvs.length ≤ sizeLine ∧ (a == sysModules) = false ∧ ∃ xs : List (List Key × Addr × Value),
      Paired (fun (p : List Key × V) (q : List Key × Addr × Value) => p.1 = q.1 ∧ H q.2.1 = some (.tup (p.1.map kV)) ∧ RelV p.2 q.2.2) kvs xs ∧
      ∃ o es ep, h.get? a = some o ∧ o.ExactDict ∧ o.data = .dict es ep ∧ es.toList = xs.map (entryOfKey (tupleKind (mixKind P w))) ∧ (xs.map (·.1)).Nodup
  | .set S n => h.SetOf (intKind P w) a S n
  | .ins C dx fs => H dx = some (.own a) ∧ fs.length ≤ 1000 ∧ dx ≠ a ∧ h.get? a = some (PySem.W.instObj C dx) ∧
      ∃ mA, h.Ns1 dx mA ∧ (∀ f, RelO (fs.lookup f) (mA f)) ∧ PySem.Within mA (fs.map (·.1))
  | .own _ => ∃ o, h.get? a = some o
  | .xd fs => ∃ mA, h.Ns1 a mA ∧ ∀ f, RelO (fs.lookup f) (mA f)
  | .rng lo hi => ∃ t u v, h.get? a = some { cls := .type "range", data := .fields #[.int lo t, .int hi u, .int 1 v] }
  | .frz o u => h.get? a = some o ∧ ObjOk H h a u
  | .tbl ps => h.get? a = some { cls := .none, data := .fields ps }
  | .met f x => h.get? a = some (PySem.W.methodObj (.ref f) (.ref x))
  | .ext φ => φ h ∧ (∃ o, h.get? a = some o) ∧ ∀ h1 h2 : Heap, φ h1 → (∀ o, h1.get? a = some o → h2.get? a = some o) → φ h2
/-- the abstract heap is held -/
def HOk (H : Hp) (h : Heap) : Prop := ∀ a o, H a = some o → ObjOk P w H h a o
end
section
variable {P : Program} {w : World} {H H' : Hp} {h h' : Heap} {a : Addr} {o : HO}
theorem ObjOk.lt (x : ObjOk P w H h a o) : a < h.objs.size := by
  cases o with
  | lst xs => obtain ⟨_, _, _, _, e⟩ := x; exact Heap.lt_size e
  | tup xs => obtain ⟨_, _, _, p⟩ := x; exact p.lt
  | dK kvs => obtain ⟨_, _, _, _, o, _, _, e, _⟩ := x; exact Heap.lt_size e
  | dT kvs => obtain ⟨_, _, _, _, o, _, _, e, _⟩ := x; exact Heap.lt_size e
  | set S n => obtain ⟨o, _, _, _, e, _⟩ := x; exact Heap.lt_size e
  | ins C dx fs => obtain ⟨_, _, _, e, _⟩ := x; exact Heap.lt_size e
  | own y => obtain ⟨_, e⟩ := x; exact Heap.lt_size e
  | xd fs => obtain ⟨_, ⟨_, _, _, e, _⟩, _⟩ := x; exact Heap.lt_size e
  | rng lo hi => obtain ⟨_, _, _, e⟩ := x; exact Heap.lt_size e
  | frz ob u => obtain ⟨e, _⟩ := x; exact Heap.lt_size e
  | tbl ps => exact Heap.lt_size (show h.get? a = some _ from x)
  | met f y => exact Heap.lt_size (show h.get? a = some _ from x)
  | ext φ => obtain ⟨_, ⟨_, e⟩, _⟩ := x; exact Heap.lt_size e
theorem Paired.mapP {α β : Type} {F G : α → β → Prop} : ∀ {l₁ : List α} {l₂ : List β}, Paired F l₁ l₂ → (∀ a b, F a b → G a b) → Paired G l₁ l₂
  | _, _, .nil, _ => .nil
  | _, _, .cons r t, f => .cons (f _ _ r) (Paired.mapP t f)
/-- what an object's description leans on: its own object, its own dict, the tuples -/
theorem ObjOk.stay (x : ObjOk P w H h a o) (k : ∀ b u, (b = a ∨ H b = some (.own a)) → h.get? b = some u → h'.get? b = some u)
    (ho : ∀ b, H b = some (.own a) → H' b = some (.own a)) (ht : ∀ b xs, H b = some (.tup xs) → H' b = some (.tup xs)) : ObjOk P w H' h' a o := by
  induction o with
  | lst xs => obtain ⟨z, its, n, r, e⟩ := x; exact ⟨z, its, n, r, k _ _ (.inl rfl) e⟩
  | tup xs => obtain ⟨z, its, r, ob, e, c⟩ := x; exact ⟨z, its, r, ob, k _ _ (.inl rfl) e, c⟩
  | dK kvs => obtain ⟨z, y, vs, r, ob, es, ep, e, c⟩ := x; exact ⟨z, y, vs, r, ob, es, ep, k _ _ (.inl rfl) e, c⟩
  | dT kvs =>
    obtain ⟨z, y, xs, r, ob, es, ep, e, c⟩ := x
    exact ⟨z, y, xs, Paired.mapP r fun p q z => ⟨z.1, ht _ _ z.2.1, z.2.2⟩, ob, es, ep, k _ _ (.inl rfl) e, c⟩
  | set S n => obtain ⟨ob, es, ep, t, e, c⟩ := x; exact ⟨ob, es, ep, t, k _ _ (.inl rfl) e, c⟩
  | ins C dx fs =>
    obtain ⟨d, z, ne, e, mA, ⟨od, es, ep, e2, c⟩, r⟩ := x
    exact ⟨ho _ d, z, ne, k _ _ (.inl rfl) e, mA, ⟨od, es, ep, k _ _ (.inr d) e2, c⟩, r⟩
  | own y => obtain ⟨ob, e⟩ := x; exact ⟨ob, k _ _ (.inl rfl) e⟩
  | xd fs => obtain ⟨mA, ⟨od, es, ep, e, c⟩, r⟩ := x; exact ⟨mA, ⟨od, es, ep, k _ _ (.inl rfl) e, c⟩, r⟩
  | rng lo hi => obtain ⟨t, u, v, e⟩ := x; exact ⟨t, u, v, k _ _ (.inl rfl) e⟩
  | frz ob u ih => obtain ⟨e, q⟩ := x; exact ⟨k _ _ (.inl rfl) e, ih q⟩
  | tbl ps =>
    have e : h.get? a = some { cls := .none, data := .fields ps } := x
    show h'.get? a = some { cls := .none, data := .fields ps }
    exact k a _ (.inl rfl) e
  | met f y =>
    have e : h.get? a = some (PySem.W.methodObj (.ref f) (.ref y)) := x
    show h'.get? a = some (PySem.W.methodObj (.ref f) (.ref y))
    exact k a _ (.inl rfl) e
  | ext φ => obtain ⟨p, ⟨o, e⟩, st⟩ := x; exact ⟨st _ _ p fun o q => k _ _ (.inl rfl) q, ⟨o, k _ _ (.inl rfl) e⟩, st⟩
theorem HOk.lt (x : HOk P w H h) (e : H a = some o) : a < h.objs.size := (x a o e).lt
theorem HOk.fresh (x : HOk P w H h) (e : h.objs.size ≤ a) : H a = none := by
  cases q : H a with
  | none => rfl
  | some u => exact absurd (Nat.lt_of_lt_of_le (x.lt q) e) (Nat.lt_irrefl _)
/-- every object of the heap is kept -/
theorem HOk.kept (x : HOk P w H h) (k : ∀ b u, h.get? b = some u → h'.get? b = some u) : HOk P w H h' := fun a o e =>
  (x a o e).stay (fun b u _ q => k b u q) (fun _ q => q) fun _ _ q => q
/-- a new object is laid and tracked -/
theorem HOk.laid (x : HOk P w H h) (k : ∀ b u, h.get? b = some u → h'.get? b = some u) (hp : h.objs.size ≤ a) (new : ObjOk P w (upd H a o) h' a o) : HOk P w (upd H a o) h' := fun b u e => by
  have hn := x.fresh hp
  by_cases hb : b = a
  · subst hb; rw [upd_same] at e; cases e; exact new
  · rw [upd_ne hb] at e
    exact (x b u e).stay (fun c v _ q => k c v q) (fun c q => by rw [upd_ne (ne_of_none q hn)]; exact q) fun c xs q => by rw [upd_ne (ne_of_none q hn)]; exact q
end
/-- what may be read as u: it is u, or a known u -/
def Rd (H : Hp) (a : Addr) (u : HO) : Prop := H a = some u ∨ ∃ o, H a = some (.frz o u)
theorem Rd.of {H : Hp} {a : Addr} {u : HO} (h : H a = some u) : Rd H a u := .inl h
theorem Rd.ok {P : Program} {w : World} {H : Hp} {h : Heap} {a : Addr} {u : HO} (r : Rd H a u) (x : HOk P w H h) : ObjOk P w H h a u := by
  rcases r with r | ⟨o, r⟩
  · exact x a u r
  · obtain ⟨_, q⟩ := x a _ r
    exact q
/-- what may be written -/
def Mut : Option HO → Prop
  | some (.lst _) => True
  | some (.dK _) => True
  | some (.dT _) => True
  | some (.set _ _) => True
  | some (.ins _ _ _) => True
  | some (.ext _) => True
  | _ => False
section
variable {P : Program} {w : World} {H : Hp} {h h' : Heap} {x e : Addr} {o' : HO}
/-- the object at e is changed: x itself, or the dict of the instance x -/
theorem HOk.write (ok : HOk P w H h) (mu : Mut (H x)) (he : e = x ∨ H e = some (.own x)) (k : ∀ b u, b ≠ e → h.get? b = some u → h'.get? b = some u) (heo : ∃ u, h'.get? e = some u)
    (new : ObjOk P w (upd H x o') h' x o') : HOk P w (upd H x o') h' := fun b u q => by
  have nown : ∀ c y, H c = some (.own y) → c ≠ x := fun c y r z => by subst z; rw [r] at mu; exact mu
  have ntup : ∀ c xs, H c = some (.tup xs) → c ≠ x := fun c xs r z => by subst z; rw [r] at mu; exact mu
  by_cases hb : b = x
  · subst hb; rw [upd_same] at q; cases q; exact new
  · rw [upd_ne hb] at q
    by_cases hbe : b = e
    · have q' : H b = some (.own x) := by
        rcases he with z | z
        · exact absurd (hbe.trans z) hb
        · rw [hbe]; exact z
      rw [q] at q'; cases q'
      obtain ⟨v, hv⟩ := heo
      exact ⟨v, by rw [hbe]; exact hv⟩
    · refine (ok b u q).stay (fun c v hc r => k c v ?_ r) (fun c r => by rw [upd_ne (nown c b r)]; exact r) fun c xs r => by rw [upd_ne (ntup c xs r)]; exact r
      rcases hc with rfl | hc
      · exact hbe
      · rintro rfl
        rcases he with z | z
        · exact nown c b hc z
        · rw [hc] at z; cases z; exact hb rfl
end
structure Un (fs ex : List Addr) (H H' : Hp) (h h' : Heap) : Prop where
  keep : ∀ b o, h.get? b = some o → H b = none → b ∉ fs → b ∉ ex → h'.get? b = some o
  slot : ∀ b o, h.get? b = some o → H b = none → b ∈ fs → b ∉ ex → ∃ sl, h'.get? b = some { o with slots := sl }
  free : ∀ b o, h.get? b = some o → H b = none → b ∉ ex → H' b = none
  there : ∀ b o, h.get? b = some o → b ∉ ex → ∃ o', h'.get? b = some o'
  tups : ∀ b xs, H b = some (.tup xs) → H' b = some (.tup xs)
  frzs : ∀ b o u, H b = some (.frz o u) → H' b = some (.frz o u)
  tbls : ∀ b ps, H b = some (.tbl ps) → ∃ more, H' b = some (.tbl (ps ++ more))
section
variable {fs fs' ex ex' : List Addr} {H H1 H2 : Hp} {h h1 h2 h' : Heap} {a x e : Addr} {o : HO}
theorem Un.any (u : Un fs ex H H1 h h1) {b : Addr} {ob : Obj} (q : h.get? b = some ob) (n : H b = none) (hx : b ∉ ex) : ∃ sl, h1.get? b = some { ob with slots := sl } := by
  by_cases hb : b ∈ fs
  · exact u.slot b ob q n hb hx
  · exact ⟨ob.slots, u.keep b ob q n hb hx⟩
theorem Un.kept (k : ∀ b u, h.get? b = some u → h'.get? b = some u) : Un fs ex H H h h' :=
  ⟨fun b ob q _ _ _ => k b ob q, fun b ob q _ _ _ => ⟨ob.slots, k b ob q⟩, fun _ _ _ n _ => n, fun b ob q _ => ⟨ob, k b ob q⟩, fun _ _ q => q, fun _ _ _ q => q, fun _ ps q => ⟨#[], by rw [q]; simp⟩⟩
theorem Un.refl : Un fs ex H H h h := Un.kept fun _ _ q => q
theorem Un.laid (k : ∀ b u, h.get? b = some u → h'.get? b = some u) (hp : h.objs.size ≤ a) (hn : H a = none) : Un fs ex H (upd H a o) h h' where
  keep := fun b u q _ _ _ => k b u q
  slot := fun b u q _ _ _ => ⟨u.slots, k b u q⟩
  free := fun b u q n _ => by rw [upd_ne (Nat.ne_of_lt (Nat.lt_of_lt_of_le (Heap.lt_size q) hp))]; exact n
  there := fun b u q _ => ⟨u, k b u q⟩
  tups := fun b xs q => by rw [upd_ne (ne_of_none q hn)]; exact q
  frzs := fun b u xs q => by rw [upd_ne (ne_of_none q hn)]; exact q
  tbls := fun b ps q => ⟨#[], by rw [upd_ne (ne_of_none q hn), q]; simp⟩
theorem Un.write (mu : Mut (H x)) (he : e = x ∨ H e = some (.own x)) (k : ∀ b u, b ≠ e → h.get? b = some u → h'.get? b = some u) (heo : ∃ u, h'.get? e = some u) : Un fs ex H (upd H x o) h h' := by
  have hx : ∀ b, H b = none → b ≠ x := fun b n z => by subst z; rw [n] at mu; exact mu
  have hb : ∀ b, H b = none → b ≠ e := fun b n z => by
    subst z
    rcases he with r | r
    · exact hx b n r
    · rw [n] at r; cases r
  have hm : ∀ b u, H b = some u → ¬ Mut (some u) → b ≠ x := fun b u q nm z => by subst z; rw [q] at mu; exact nm mu
  refine ⟨fun b u q n _ _ => k b u (hb b n) q, fun b u q n _ _ => ⟨u.slots, k b u (hb b n) q⟩, fun b u q n _ => by rw [upd_ne (hx b n)]; exact n, fun b u q _ => ?_,
    fun b xs q => by rw [upd_ne (hm b _ q fun z => z)]; exact q, fun b u xs q => by rw [upd_ne (hm b _ q fun z => z)]; exact q, fun b ps q => ⟨#[], by rw [upd_ne (hm b _ q fun z => z), q]; simp⟩⟩
  by_cases hbe : b = e
  · subst hbe; exact heo
  · exact ⟨u, k b u hbe q⟩
end
def trk (h : Heap) (H : Hp) : List Addr := (List.range h.objs.size).filter fun a => (H a).isSome
def hidT (h : Heap) (H : Hp) : Heap := PySem.W.hideAll h (trk h H)
theorem hidT_size (h : Heap) (H : Hp) : (hidT h H).objs.size = h.objs.size := PySem.W.hideAll_size _ _
theorem hidT_get {h : Heap} {H : Hp} {b : Addr} {o : Obj} (e : h.get? b = some o) (n : H b = none) : (hidT h H).get? b = some o :=
  PySem.W.hideAll_get _ e fun hm => by
    have q : (H b).isSome = true := (List.mem_filter.mp hm).2
    rw [n] at q; simp at q
theorem of_hidT {h : Heap} {H : Hp} {b : Addr} {o : Obj} (e : (hidT h H).get? b = some o) : h.get? b = some o ∧ H b = none := by
  have e' : h.get? b = some o := PySem.W.of_hideAll (trk h H) e
  refine ⟨e', ?_⟩
  cases q : H b with
  | none => rfl
  | some x =>
    have hm : b ∈ trk h H := List.mem_filter.mpr ⟨List.mem_range.mpr (Heap.lt_size e'), by simp [q]⟩
    have z : (hidT h H).get? b = none := PySem.W.hideAll_none (trk h H) hm
    rw [z] at e; cases e
end L2
namespace L2
open PySem PySem.Spec PyProof.Rows
/-- the module's facts, over the base: the heap at the law's entry without what is tracked there -/
structure Mod (K : PySem.W.Frag) (mg : Str → Option Value) (base : Heap) : Prop where
  kin : K.In base
  glob : base.Ns mainGlobals mg
  blt : ∃ mb, base.Ns builtinsNs mb ∧ ∀ x : Str, x ≠ "__name__" → mb x = bootBuiltins x
  nolimit : base.NoLimit
/-- the context: a def's body (or a comprehension's block) running. base: fixed through the whole law; s₀, H₀: the entry; outer: the frames whose slots others may change (a def's callers); stack: all frames that run;
   ex: iterators that were made ahead of the entry and are walked here (a comprehension's); fn: the names whose cells were made at the entry (a def: all; a comprehension's block: its own); calm: not within an except suite; pn: pins that every state bears; xe: what is wanted of an exception that leaves the code -/
structure Cx where
  prog : Program
  w : World
  K : PySem.W.Frag
  mg : Str → Option Value
  base : Heap
  A : Around
  N : List Str
  s₀ : Shared
  H₀ : Hp
  env : Env
  outer : List Env
  stack : List Env
  ex : List Addr
  fn : Str → Bool
  calm : Bool
  pn : List (Addr × Obj)
  xe : Value → Shared → Prop
/-- the callers' frames -/
def frs (l : List Env) : List Addr := l.filterMap (·.frame)
abbrev Cx.fs (X : Cx) : List Addr := frs X.outer
def Vis (sc : Scope) (x : Str) : Prop := sc.names.lookup x = some .local ∨ sc.names.lookup x = some .cell ∨ sc.names.lookup x = some .free
def Loc (sc : Scope) (x : Str) : Prop := sc.names.lookup x = some .local ∨ sc.names.lookup x = some .cell
def Look (env : Env) (h : Heap) (m : Str → Option Value) (x : Str) (u : Value) : Prop :=
  (env.kindOf x = some .local ∧ m x = some u) ∨ ((env.kindOf x = some .cell ∨ env.kindOf x = some .free) ∧ ∃ c, env.cells.lookup x = some c ∧ h.IsCell c (some u))
structure Cx.Ok (X : Cx) : Prop where
  mod : Mod X.K X.mg X.base
  kind : X.env.scope.kind = .function
  glob : X.env.globals = mainGlobals
  blt : X.env.builtins = builtinsNs
  above : X.s₀.heap.objs.size ≤ X.env.locals
  inj : ∀ x y c, X.env.cells.lookup x = some c → X.env.cells.lookup y = some c → x = y
  has : ∀ x, (X.env.kindOf x = some .cell ∨ X.env.kindOf x = some .free) → ∃ c, X.env.cells.lookup x = some c
  cab : ∀ x c, X.fn x = true → X.env.cells.lookup x = some c → X.s₀.heap.objs.size ≤ c
  hd : X.calm = true → X.A.handled = none
  frames : X.A.frames = some X.stack
  stk : X.stack = X.outer ∨ (X.stack = X.env :: X.outer ∧ X.env.frame = some X.env.locals)
  exf : ∀ b ∈ X.ex, b ≠ X.env.locals ∧ ∀ x c, X.env.cells.lookup x = some c → c ≠ b
  bs : ∀ b o, X.base.get? b = some o → X.s₀.heap.get? b = some o ∧ X.H₀ b = none
  bsz : X.base.objs.size ≤ X.s₀.heap.objs.size
  noex : ∀ b o, X.base.get? b = some o → b ∉ X.ex
  exfs : ∀ b ∈ X.ex, b ∉ X.fs
  funs : X.s₀.heap.FunFrames X.base X.outer
  frf : ∀ b ∈ X.fs, X.H₀ b = none
structure Inv (X : Cx) (pins : List (Addr × Obj)) (σ : List (Option V)) (H : Hp) (s : Shared) : Prop where
  ok : X.Ok
  os : s.os = X.s₀.os
  bare : AllBare s.gens
  base : Un X.fs X.ex X.H₀ H X.s₀.heap s.heap
  loc : ∃ m, s.heap.Ns X.env.locals m ∧ ∀ (i : Nat) (x : Str) (v : V), X.N[i]? = some x → σ[i]? = some (some v) → Vis X.env.scope x → ∃ u, RelV v u ∧ Look X.env s.heap m x u
  cell : ∀ x c, X.env.cells.lookup x = some c → ∃ v, s.heap.IsCell c v
  free : H X.env.locals = none
  freeC : ∀ x c, X.env.cells.lookup x = some c → H c = none
  pin : ∀ p ∈ X.pn ++ pins, s.heap.get? p.1 = some p.2 ∧ H p.1 = none ∧ p.1 ≠ X.env.locals ∧ p.1 ∉ X.fs ∧ ∀ v, p.2.data ≠ .cell v
  hok : HOk X.prog X.w H s.heap
  len : σ.length = X.N.length
section
variable {X : Cx} {pins : List (Addr × Obj)} {σ : List (Option V)} {H H' : Hp} {s : Shared} {h' : Heap}
theorem Cx.Ok.nofr (ok : X.Ok) {b : Addr} {o : Obj} (e : X.base.get? b = some o) : b ∉ X.fs := fun hb => by
  have := (ok.funs.mem hb).1
  rw [e] at this; cases this
theorem Inv.bs (I : Inv X pins σ H s) : ∀ b o, X.base.get? b = some o → s.heap.get? b = some o ∧ H b = none := fun b o e =>
  ⟨I.base.keep b o (I.ok.bs b o e).1 (I.ok.bs b o e).2 (I.ok.nofr e) (I.ok.noex b o e), I.base.free b o (I.ok.bs b o e).1 (I.ok.bs b o e).2 (I.ok.noex b o e)⟩
theorem Inv.bk (I : Inv X pins σ H s) : ∀ b o, X.base.get? b = some o → s.heap.get? b = some o := fun b o e => (I.bs b o e).1
theorem Inv.mod (I : Inv X pins σ H s) : Mod X.K X.mg X.base := I.ok.mod
theorem Inv.kIn (I : Inv X pins σ H s) : X.K.In s.heap := I.ok.mod.kin.keeps I.bk
theorem Inv.lt (I : Inv X pins σ H s) : X.env.locals < s.heap.objs.size := let ⟨_, hn, _⟩ := I.loc; hn.lt
theorem Inv.sz (I : Inv X pins σ H s) : X.s₀.heap.objs.size ≤ s.heap.objs.size := Nat.le_trans I.ok.above (Nat.le_of_lt I.lt)
theorem Inv.nofs (I : Inv X pins σ H s) {a : Addr} (h : s.heap.objs.size ≤ a) : a ∉ X.fs := fun hb => by
  obtain ⟨_, o, ho, _⟩ := I.ok.funs.mem hb
  exact absurd (Nat.lt_of_lt_of_le (Heap.lt_size ho) (Nat.le_trans I.sz h)) (Nat.lt_irrefl _)
theorem Inv.cne (I : Inv X pins σ H s) : ∀ x c, X.env.cells.lookup x = some c → c ≠ X.env.locals := fun x c e z => by
  obtain ⟨v, o, ho, hd⟩ := I.cell x c e
  obtain ⟨m, ⟨o', es, ep, ho', hd', _⟩, _⟩ := I.loc
  rw [z, ho'] at ho; cases ho; rw [hd'] at hd; cases hd
theorem Inv.funs (I : Inv X pins σ H s) : s.heap.FunFrames X.base X.outer := by
  have all : ∀ (l : List Env), (∀ b ∈ frs l, b ∈ X.fs) → X.s₀.heap.FunFrames X.base l → s.heap.FunFrames X.base l := by
    intro l
    induction l with
    | nil => intro _ _; trivial
    | cons env r ih =>
      intro hs hl
      obtain ⟨hk, ⟨L, o, hf, hn, ho, hd⟩, hr⟩ := hl
      have hL : L ∈ X.fs := hs L (by unfold frs; rw [List.filterMap_cons, hf]; exact List.mem_cons_self)
      obtain ⟨sl, e⟩ := I.base.slot L o ho (I.ok.frf L hL) hL fun z => I.ok.exfs L z hL
      exact ⟨hk, ⟨L, _, hf, hn, e, hd⟩, ih (fun b hb => hs b (by unfold frs; rw [List.filterMap_cons, hf]; exact List.mem_cons_of_mem _ hb)) hr⟩
  exact all X.outer (fun _ hb => hb) I.ok.funs
/-- the frames that run, for a call -/
theorem Inv.stack (I : Inv X pins σ H s) : s.heap.FunFrames X.base X.stack := by
  rcases I.ok.stk with e | ⟨e, hf⟩
  · rw [e]; exact I.funs
  · rw [e]
    obtain ⟨m, hn, _⟩ := I.loc
    refine .cons (by rw [I.ok.kind]; decide) hf hn ?_ I.funs
    exact Heap.get?_none_of_le (Nat.le_trans I.ok.bsz I.ok.above)
theorem Inv.stkSub (I : Inv X pins σ H s) : ∀ b ∈ frs X.stack, b ∈ X.env.locals :: X.fs := fun b hb => by
  rcases I.ok.stk with e | ⟨e, hf⟩
  · rw [e] at hb; exact List.mem_cons_of_mem _ hb
  · rw [e] at hb
    unfold frs at hb
    rw [List.filterMap_cons, hf] at hb
    exact hb
theorem Inv.stkFree (I : Inv X pins σ H s) : ∀ b ∈ frs X.stack, H b = none := fun b hb => by
  rcases List.mem_cons.mp (I.stkSub b hb) with e | hb
  · rw [e]; exact I.free
  · obtain ⟨_, o, ho, _⟩ := I.ok.funs.mem hb
    exact I.base.free b o ho (I.ok.frf b hb) fun z => I.ok.exfs b z hb
/-- THE STEP: the untracked objects but the frame and the records at ch are kept (the callers' frames up to slots), the frame's map is kept, the new abstract heap is held -/
theorem Inv.step {g' : Array GenState} {t' : Nat} {d' : Drawn} {ch : List Addr} (I : Inv X pins σ H s)
    (hch : ∀ b ∈ ch, (b ∈ X.ex ∨ X.s₀.heap.objs.size ≤ b) ∧ b ≠ X.env.locals ∧ (∀ x c, X.env.cells.lookup x = some c → c ≠ b) ∧ ∀ p ∈ X.pn ++ pins, p.1 ≠ b)
    (keep : ∀ b o, b ≠ X.env.locals → b ∉ X.fs → b ∉ ch → s.heap.get? b = some o → H b = none → h'.get? b = some o)
    (slot : ∀ b o, b ≠ X.env.locals → b ∈ X.fs → b ∉ ch → s.heap.get? b = some o → H b = none → ∃ sl, h'.get? b = some { o with slots := sl }) (free : ∀ b o, b ∉ ch → s.heap.get? b = some o → H b = none → H' b = none)
    (there : ∀ b o, b ∉ ch → s.heap.get? b = some o → ∃ o', h'.get? b = some o')
    (tups : ∀ b xs, H b = some (.tup xs) → H' b = some (.tup xs)) (frzs : ∀ b o u, H b = some (.frz o u) → H' b = some (.frz o u)) (tbls : ∀ b ps, H b = some (.tbl ps) → ∃ more, H' b = some (.tbl (ps ++ more)))
    (ns : ∀ m, s.heap.Ns X.env.locals m → h'.Ns X.env.locals m) (hok : HOk X.prog X.w H' h') (hg : AllBare g') :
    Inv X pins σ H' { s with heap := h', gens := g', drawn := d', toks := t' } := by
  have neL : ∀ b o, X.s₀.heap.get? b = some o → b ≠ X.env.locals := fun b o e => Nat.ne_of_lt (Nat.lt_of_lt_of_le (Heap.lt_size e) I.ok.above)
  have neC : ∀ b o, X.s₀.heap.get? b = some o → b ∉ X.ex → b ∉ ch := fun b o e hx hb => by
    rcases (hch b hb).1 with z | z
    · exact hx z
    · exact absurd (Nat.lt_of_lt_of_le (Heap.lt_size e) z) (Nat.lt_irrefl _)
  have cellK : ∀ x c, X.env.cells.lookup x = some c → ∀ v, s.heap.IsCell c v → h'.IsCell c v := fun x c e v ⟨o, ho, hd⟩ => by
    have nch : c ∉ ch := fun z => (hch c z).2.2.1 x c e rfl
    by_cases hc : c ∈ X.fs
    · obtain ⟨sl, q⟩ := slot c o (I.cne x c e) hc nch ho (I.freeC x c e)
      exact ⟨_, q, hd⟩
    · exact ⟨o, keep c o (I.cne x c e) hc nch ho (I.freeC x c e), hd⟩
  refine ⟨I.ok, I.os, hg, ⟨fun b o e n hb hx => ?_, fun b o e n hb hx => ?_, fun b o e n hx => ?_, fun b o e hx => ?_, fun b xs e => tups b xs (I.base.tups b xs e), fun b o xs e => frzs b o xs (I.base.frzs b o xs e), fun b ps e => ?_⟩, ?_, fun x c e => ?_, ?_, fun x c e => ?_, fun p hp => ?_, hok, I.len⟩
  · exact keep b o (neL b o e) hb (neC b o e hx) (I.base.keep b o e n hb hx) (I.base.free b o e n hx)
  · obtain ⟨sl, e1⟩ := I.base.slot b o e n hb hx
    obtain ⟨sl', e2⟩ := slot b _ (neL b o e) hb (neC b o e hx) e1 (I.base.free b o e n hx)
    exact ⟨sl', e2⟩
  · obtain ⟨o', e1⟩ := I.base.there b o e hx
    exact free b o' (neC b o e hx) e1 (I.base.free b o e n hx)
  · obtain ⟨o', e1⟩ := I.base.there b o e hx
    exact there b o' (neC b o e hx) e1
  · obtain ⟨m1, e1⟩ := I.base.tbls b ps e
    obtain ⟨m2, e2⟩ := tbls b _ e1
    exact ⟨m1 ++ m2, by rw [e2, Array.append_assoc]⟩
  · obtain ⟨m, hn, hl⟩ := I.loc
    refine ⟨m, ns m hn, fun i x v e1 e2 e3 => ?_⟩
    obtain ⟨u, r, l⟩ := hl i x v e1 e2 e3
    refine ⟨u, r, ?_⟩
    rcases l with l | ⟨k, c, e, z⟩
    · exact .inl l
    · exact .inr ⟨k, c, e, cellK x c e _ z⟩
  · obtain ⟨v, z⟩ := I.cell x c e
    exact ⟨v, cellK x c e v z⟩
  · obtain ⟨m, ⟨o, _, _, ho, _⟩, _⟩ := I.loc
    exact free _ o (fun z => (hch _ z).2.1 rfl) ho I.free
  · obtain ⟨v, o, ho, hd⟩ := I.cell x c e
    exact free c o (fun z => (hch c z).2.2.1 x c e rfl) ho (I.freeC x c e)
  · obtain ⟨e, n, ne, nf, d⟩ := I.pin p hp
    have nch : p.1 ∉ ch := fun z => (hch p.1 z).2.2.2 p hp rfl
    exact ⟨keep p.1 p.2 ne nf nch e n, free p.1 p.2 nch e n, ne, nf, d⟩
/-- .. where the frame's own object is kept too -/
theorem Inv.un {t' : Nat} (I : Inv X pins σ H s) (u : Un X.fs [] H H' s.heap h') (hok : HOk X.prog X.w H' h') : Inv X pins σ H' { s with heap := h', toks := t' } := by
  obtain ⟨m, ⟨o, es, ep, ho, r⟩, _⟩ := id I.loc
  obtain ⟨sl, hL⟩ := u.any ho I.free (by simp)
  exact I.step (g' := s.gens) (d' := s.drawn) (ch := []) (fun _ z => nomatch z) (fun b o _ hb _ e n => u.keep b o e n hb (by simp)) (fun b o _ hb _ e n => u.slot b o e n hb (by simp)) (fun b o _ e n => u.free b o e n (by simp)) (fun b o _ e => u.there b o e (by simp)) u.tups u.frzs u.tbls (fun m' hm => by
    obtain ⟨o', es', ep', ho', r'⟩ := hm
    rw [ho] at ho'; cases ho'
    exact ⟨_, es', ep', hL, r'⟩) hok I.bare
/-- behind a call (or a comprehension's block): the slots of this frame may have changed too, the records at ch may have turned -/
theorem Inv.call {g' : Array GenState} {t' : Nat} {d' : Drawn} {ch : List Addr} (I : Inv X pins σ H s) (u : Un (frs X.stack) ch H H' s.heap h') (hok : HOk X.prog X.w H' h') (hg : AllBare g')
    (hch : ∀ b ∈ ch, (b ∈ X.ex ∨ X.s₀.heap.objs.size ≤ b) ∧ b ≠ X.env.locals ∧ (∀ x c, X.env.cells.lookup x = some c → c ≠ b) ∧ ∀ p ∈ X.pn ++ pins, p.1 ≠ b) :
    Inv X pins σ H' { s with heap := h', gens := g', drawn := d', toks := t' } := by
  obtain ⟨m, ⟨o, es, ep, ho, r⟩, _⟩ := id I.loc
  obtain ⟨sl, hL⟩ := u.any ho I.free fun z => (hch _ z).2.1 rfl
  exact I.step (ch := ch) hch (fun b o hL hb hc e n => u.keep b o e n (fun z => (List.mem_cons.mp (I.stkSub b z)).elim hL hb) hc) (fun b o _ _ hc e n => u.any e n hc) (fun b o hc e n => u.free b o e n hc) (fun b o hc e => u.there b o e hc) u.tups u.frzs u.tbls (fun m' hm => by
    obtain ⟨o', es', ep', ho', r'⟩ := hm
    rw [ho] at ho'; cases ho'
    exact ⟨_, es', ep', hL, r'⟩) hok hg
/-- an untracked record of ours (an iterator) has turned -/
theorem Inv.turned {t' : Nat} {it : Addr} (I : Inv X pins σ H s) (k : ∀ b o, b ≠ it → s.heap.get? b = some o → h'.get? b = some o) (hn : H it = none) (hL : it ≠ X.env.locals)
    (h1 : it ∈ X.ex ∨ X.s₀.heap.objs.size ≤ it) (h2 : ∀ x c, X.env.cells.lookup x = some c → c ≠ it) (h3 : ∀ p ∈ X.pn ++ pins, p.1 ≠ it) : Inv X pins σ H { s with heap := h', toks := t' } := by
  have nit : ∀ b u, H b = some u → b ≠ it := fun b u e z => by rw [z, hn] at e; cases e
  refine I.step (g' := s.gens) (d' := s.drawn) (ch := [it]) (fun b hb => ?_) (fun b o _ _ hc e _ => k b o (fun z => hc (by simp [z])) e) (fun b o _ _ hc e _ => ⟨o.slots, k b o (fun z => hc (by simp [z])) e⟩) (fun _ _ _ _ n => n)
    (fun b o hc e => ⟨o, k b o (fun z => hc (by simp [z])) e⟩) (fun _ _ e => e) (fun _ _ _ e => e) (fun b ps e => ⟨#[], by rw [e]; simp⟩) (fun m hm => ?_) (fun b u e => ?_) I.bare
  · have e : b = it := by simpa using hb
    subst e
    exact ⟨h1, hL, h2, h3⟩
  · obtain ⟨o, es, ep, ho, r⟩ := hm
    exact ⟨o, es, ep, k _ o (Ne.symm hL) ho, r⟩
  · refine (I.hok b u e).stay (fun c v hc q => k c v ?_ q) (fun _ q => q) fun _ _ q => q
    rcases hc with z | z
    · rw [z]; exact nit b u e
    · exact nit c _ z
theorem Inv.tok (I : Inv X pins σ H s) (t : Nat) : Inv X pins σ H { s with toks := t } := I.un (h' := s.heap) (t' := t) Un.refl I.hok
/-- all objects kept -/
theorem Inv.kept {t' : Nat} (I : Inv X pins σ H s) (k : ∀ b u, s.heap.get? b = some u → h'.get? b = some u) : Inv X pins σ H { s with heap := h', toks := t' } := I.un (Un.kept k) (I.hok.kept k)
/-- a new object laid and tracked -/
theorem Inv.laid {a : Addr} {o : HO} {t' : Nat} (I : Inv X pins σ H s) (k : ∀ b u, s.heap.get? b = some u → h'.get? b = some u) (hp : s.heap.objs.size ≤ a) (new : ObjOk X.prog X.w (upd H a o) h' a o) :
    Inv X pins σ (upd H a o) { s with heap := h', toks := t' } := I.un (Un.laid k hp (I.hok.fresh hp)) (I.hok.laid k hp new)
/-- an object written -/
theorem Inv.write {x e : Addr} {o : HO} {t' : Nat} (I : Inv X pins σ H s) (mu : Mut (H x)) (he : e = x ∨ H e = some (.own x)) (k : ∀ b u, b ≠ e → s.heap.get? b = some u → h'.get? b = some u) (heo : ∃ u, h'.get? e = some u)
    (new : ObjOk X.prog X.w (upd H x o) h' x o) : Inv X pins σ (upd H x o) { s with heap := h', toks := t' } := I.un (Un.write mu he k heo) (I.hok.write mu he k heo new)
theorem Inv.pins_of {pins' : List (Addr × Obj)} (I : Inv X pins σ H s) (h : ∀ p ∈ pins', s.heap.get? p.1 = some p.2 ∧ H p.1 = none ∧ p.1 ≠ X.env.locals ∧ p.1 ∉ X.fs ∧ ∀ v, p.2.data ≠ .cell v) : Inv X pins' σ H s :=
  ⟨I.ok, I.os, I.bare, I.base, I.loc, I.cell, I.free, I.freeC, fun p hp => (List.mem_append.mp hp).elim (fun z => I.pin p (List.mem_append_left _ z)) (h p), I.hok, I.len⟩
theorem nodup_ix {N : List Str} (hN : N.Nodup) {i j : Nat} {x : Str} (a : N[i]? = some x) (b : N[j]? = some x) : i = j := by
  obtain ⟨h1, e1⟩ := List.getElem?_eq_some_iff.mp a
  obtain ⟨h2, e2⟩ := List.getElem?_eq_some_iff.mp b
  exact (List.getElem_inj hN).mp (e1.trans e2.symm)
/-- a name is stored; what changed -/
theorem store_ok2 {M : Model} {A : Around} {E : Value → Shared → Prop} {i : Nat} {x : Str} {v : V} {u : Value} {Q : Unit → Shared → Prop} (I : Inv X pins σ H s) (hN : X.N.Nodup) (hi : X.N[i]? = some x) (hx : Loc X.env.scope x) (r : RelV v u)
    (h : ∀ s', Inv X pins (σ.set i (some v)) H s' → (∃ a, Heap.SameBut a s.heap s'.heap ∧ (a = X.env.locals ∨ X.env.cells.lookup x = some a)) → Q () s') (hf : X.fn x = true ∨ X.env.scope.names.lookup x = some .local := by first | exact .inl rfl | exact .inr rfl | assumption) : wpAny M A (storeName X.env x u) Q E s := by
  obtain ⟨m, hn, hl⟩ := id I.loc
  have hcls : (X.env.scope.kind == .class || (X.env.scope.kind == .module && X.env.locals != X.env.globals)) = false := by rw [I.ok.kind]; rfl
  have hiσ : i < σ.length := by rw [I.len]; exact (List.getElem?_eq_some_iff.mp hi).1
  have cne := I.cne
  have tracked : ∀ {a : Addr} {h' : Heap}, (∃ o, s.heap.get? a = some o ∧ H a = none) → Heap.SameBut a s.heap h' → HOk X.prog X.w H h' := fun {a h'} ha hs b ob e => by
    obtain ⟨_, _, hfree⟩ := ha
    refine (I.hok b ob e).stay (fun c w' hc q => (hs.2 c ?_).trans q) (fun _ q => q) fun _ _ q => q
    rintro rfl
    rcases hc with rfl | hc
    · rw [hfree] at e; cases e
    · rw [hfree] at hc; cases hc
  rcases hx with hk | hk
  · refine wpAny_storeName_local hk hn (fun h' hn' hs => ?_) hcls
    obtain ⟨oL, _, _, hoL, _⟩ := id hn
    refine h _ ⟨I.ok, I.os, I.bare, ⟨fun b o e n hb hx => ?_, fun b o e n hb hx => ?_, I.base.free, fun b o e hx => ?_, I.base.tups, I.base.frzs, I.base.tbls⟩, ⟨_, hn', fun j y v' e1 e2 e3 => ?_⟩, fun y c e => ?_, I.free, I.freeC, fun p hp => ?_, tracked ⟨oL, hoL, I.free⟩ hs, by simpa using I.len⟩ ⟨_, hs, .inl rfl⟩
    · exact (hs.2 b (Nat.ne_of_lt (Nat.lt_of_lt_of_le (Heap.lt_size e) I.ok.above))).trans (I.base.keep b o e n hb hx)
    · obtain ⟨sl, e1⟩ := I.base.slot b o e n hb hx
      exact ⟨sl, (hs.2 b (Nat.ne_of_lt (Nat.lt_of_lt_of_le (Heap.lt_size e) I.ok.above))).trans e1⟩
    · obtain ⟨o', e1⟩ := I.base.there b o e hx
      exact ⟨o', (hs.2 b (Nat.ne_of_lt (Nat.lt_of_lt_of_le (Heap.lt_size e) I.ok.above))).trans e1⟩
    · by_cases hj : j = i
      · subst hj
        rw [hi] at e1; cases e1
        rw [List.getElem?_set_self hiσ] at e2
        cases e2
        exact ⟨u, r, .inl ⟨hk, by simp⟩⟩
      · rw [List.getElem?_set_ne (Ne.symm hj)] at e2
        obtain ⟨u', r', q⟩ := hl j y v' e1 e2 e3
        refine ⟨u', r', ?_⟩
        rcases q with ⟨k, e⟩ | ⟨k, c, e, z⟩
        · refine .inl ⟨k, ?_⟩
          have : y ≠ x := fun e => hj (nodup_ix hN e1 (e ▸ hi))
          simp [this, e]
        · exact .inr ⟨k, c, e, z.sameBut hs (cne y c e)⟩
    · obtain ⟨w', z⟩ := I.cell y c e
      exact ⟨w', z.sameBut hs (cne y c e)⟩
    · obtain ⟨e, n, ne, nf, d⟩ := I.pin p hp
      exact ⟨(hs.2 p.1 ne).trans e, n, ne, nf, d⟩
  · have hfn : X.fn x = true := by
      rcases hf with z | z
      · exact z
      · rw [z] at hk; cases hk
    obtain ⟨c, hc⟩ := I.ok.has x (.inl hk)
    obtain ⟨w', z⟩ := I.cell x c hc
    refine wpAny_storeName_cell I.ok.kind hk hc z (fun h' hc' hs => ?_)
    obtain ⟨oc, hoc, hocd⟩ := id z
    refine h { s with heap := h' } ⟨I.ok, I.os, I.bare, ⟨fun b o e n hb hx => ?_, fun b o e n hb hx => ?_, I.base.free, fun b o e hx => ?_, I.base.tups, I.base.frzs, I.base.tbls⟩, ⟨m, hn.sameBut hs (Ne.symm (cne x c hc)), fun j y v' e1 e2 e3 => ?_⟩, fun y c' e => ?_, I.free, I.freeC, fun p hp => ?_, tracked ⟨oc, hoc, I.freeC x c hc⟩ hs, by simpa using I.len⟩ ⟨c, hs, .inr hc⟩
    · exact (hs.2 b (Nat.ne_of_lt (Nat.lt_of_lt_of_le (Heap.lt_size e) (I.ok.cab x c hfn hc)))).trans (I.base.keep b o e n hb hx)
    · obtain ⟨sl, e1⟩ := I.base.slot b o e n hb hx
      exact ⟨sl, (hs.2 b (Nat.ne_of_lt (Nat.lt_of_lt_of_le (Heap.lt_size e) (I.ok.cab x c hfn hc)))).trans e1⟩
    · obtain ⟨o', e1⟩ := I.base.there b o e hx
      exact ⟨o', (hs.2 b (Nat.ne_of_lt (Nat.lt_of_lt_of_le (Heap.lt_size e) (I.ok.cab x c hfn hc)))).trans e1⟩
    · by_cases hj : j = i
      · subst hj
        rw [hi] at e1; cases e1
        rw [List.getElem?_set_self hiσ] at e2
        cases e2
        exact ⟨u, r, .inr ⟨.inl hk, c, hc, hc'⟩⟩
      · rw [List.getElem?_set_ne (Ne.symm hj)] at e2
        obtain ⟨u', r', q⟩ := hl j y v' e1 e2 e3
        refine ⟨u', r', ?_⟩
        rcases q with q | ⟨k, c', e, z'⟩
        · exact .inl q
        · refine .inr ⟨k, c', e, z'.sameBut hs ?_⟩
          rintro rfl
          exact hj (nodup_ix hN e1 (I.ok.inj _ _ _ e hc ▸ hi))
    · by_cases hcc : c' = c
      · subst hcc; exact ⟨_, hc'⟩
      · obtain ⟨w2, z2⟩ := I.cell y c' e
        exact ⟨w2, z2.sameBut hs hcc⟩
    · obtain ⟨e, n, ne, nf, d⟩ := I.pin p hp
      refine ⟨(hs.2 p.1 ?_).trans e, n, ne, nf, d⟩
      intro q
      rw [q, hoc] at e
      have q' : oc = p.2 := Option.some.inj e
      exact d w' (by rw [← q']; exact hocd)
theorem store_ok {M : Model} {A : Around} {E : Value → Shared → Prop} {i : Nat} {x : Str} {v : V} {u : Value} {Q : Unit → Shared → Prop} (I : Inv X pins σ H s) (hN : X.N.Nodup) (hi : X.N[i]? = some x) (hx : Loc X.env.scope x) (r : RelV v u)
    (h : ∀ s', Inv X pins (σ.set i (some v)) H s' → Q () s') (hf : X.fn x = true ∨ X.env.scope.names.lookup x = some .local := by first | exact .inl rfl | exact .inr rfl | assumption) : wpAny M A (storeName X.env x u) Q E s :=
  store_ok2 I hN hi hx r (fun s' I' _ => h s' I') hf
/-- behind a call or a block, the state as it is -/
theorem Inv.call' {s' : Shared} {ch : List Addr} (I : Inv X pins σ H s) (ho : s'.os = s.os) (u : Un (frs X.stack) ch H H' s.heap s'.heap) (hok : HOk X.prog X.w H' s'.heap) (hg : AllBare s'.gens)
    (hch : ∀ b ∈ ch, (b ∈ X.ex ∨ X.s₀.heap.objs.size ≤ b) ∧ b ≠ X.env.locals ∧ (∀ x c, X.env.cells.lookup x = some c → c ≠ b) ∧ ∀ p ∈ X.pn ++ pins, p.1 ≠ b) : Inv X pins σ H' s' := by
  obtain ⟨h', g', d', t', o'⟩ := s'
  have e : o' = s.os := ho
  subst e
  exact I.call (g' := g') (t' := t') (d' := d') u hok hg hch
end
/-- an exception: its class, its own dict's address (where it has one), the abstract heap behind it -/
abbrev XK := Value → Option Addr → Hp → Prop
abbrev St := List (Option V)
abbrev VK := V → Hp → Prop
/-- an expression's reading; a test's; an argument list's -/
abbrev TE := St → Hp → VK → Prop
abbrev TT := St → Hp → (Bool → Hp → Prop) → Prop
abbrev TA := St → Hp → (List V → Hp → Prop) → Prop
/-- what is wanted behind a statement -/
structure Ends where
  nx : St → Hp → Prop
  rt : VK
  bk : St → Hp → Prop := fun _ _ => False
  ct : St → Hp → Prop := fun _ _ => False
abbrev TS := Ends → St → Hp → Prop
def EP (X : Cx) (pins : List (Addr × Obj)) (σ : St) (Q : VK) (u : Value) (s' : Shared) : Prop := ∃ v H', Inv X pins σ H' s' ∧ RelV v u ∧ Q v H'
def TP (X : Cx) (pins : List (Addr × Obj)) (σ : St) (Q : Bool → Hp → Prop) (b : Bool) (s' : Shared) : Prop := ∃ H', Inv X pins σ H' s' ∧ Q b H'
def AP (X : Cx) (pins : List (Addr × Obj)) (σ : St) (Q : List V → Hp → Prop) (us : List Value) (s' : Shared) : Prop := ∃ vs H', Inv X pins σ H' s' ∧ Vals vs us ∧ Q vs H'
def SP (X : Cx) (pins : List (Addr × Obj)) (D : Ends) (f : Flow) (s' : Shared) : Prop :=
  match f with
  | .next => ∃ σ' H', Inv X pins σ' H' s' ∧ D.nx σ' H'
  | .brk => ∃ σ' H', Inv X pins σ' H' s' ∧ D.bk σ' H'
  | .cont => ∃ σ' H', Inv X pins σ' H' s' ∧ D.ct σ' H'
  | .ret u => ∃ v σ' H', Inv X pins σ' H' s' ∧ RelV v u ∧ D.rt v H'
def PE (X : Cx) (e : Expr) (t : TE) : Prop :=
  ∀ (pins : List (Addr × Obj)) (s : Shared) (σ : St) (H : Hp) (Q : VK), Inv X pins σ H s → t σ H Q → wpAny (model X.prog X.w) X.A (eval e X.env) (EP X pins σ Q) X.xe s
def PT (X : Cx) (e : Expr) (t : TT) : Prop :=
  ∀ (pins : List (Addr × Obj)) (s : Shared) (σ : St) (H : Hp) (Q : Bool → Hp → Prop), Inv X pins σ H s → t σ H Q → wpAny (model X.prog X.w) X.A (isTrue e X.env (eval e X.env)) (TP X pins σ Q) X.xe s
/-- a test whatever its 'whole' is (and, or) -/
def PW (X : Cx) (e : Expr) (t : TT) : Prop :=
  ∀ (whole : Sem Value) (pins : List (Addr × Obj)) (s : Shared) (σ : St) (H : Hp) (Q : Bool → Hp → Prop), Inv X pins σ H s → t σ H Q → wpAny (model X.prog X.w) X.A (isTrue e X.env whole) (TP X pins σ Q) X.xe s
theorem PW.pt {X : Cx} {e : Expr} {t : TT} (h : PW X e t) : PT X e t := h _
/-- an argument list (no star), from the left -/
def PA (X : Cx) (es : List Expr) (t : TA) : Prop :=
  ∀ (pos : Pos) (pins : List (Addr × Obj)) (s : Shared) (σ : St) (H : Hp) (Q : List V → Hp → Prop), Inv X pins σ H s → t σ H Q → wpAny (model X.prog X.w) X.A (spliced (backTo pos (starEach es X.env))) (AP X pins σ Q) X.xe s
def PS (X : Cx) (st : Stmt) (t : TS) : Prop :=
  ∀ (pins : List (Addr × Obj)) (s : Shared) (σ : St) (H : Hp) (D : Ends), Inv X pins σ H s → t D σ H → wpAny (model X.prog X.w) X.A (exec st X.env) (SP X pins D) X.xe s
def PSs (X : Cx) (st : List Stmt) (t : TS) : Prop :=
  ∀ (pins : List (Addr × Obj)) (s : Shared) (σ : St) (H : Hp) (D : Ends), Inv X pins σ H s → t D σ H → wpAny (model X.prog X.w) X.A (execs st X.env) (SP X pins D) X.xe s
/-- weaken the end -/
theorem thn {α : Type} {t : Sem α} {Q Q' : α → Shared → Prop} {M : Model} {A : Around} {E : Value → Shared → Prop} {s : Shared} (h : wpAny M A t Q E s) (hQ : ∀ a s, Q a s → Q' a s) : wpAny M A t Q' E s := wpAny_mono h hQ fun _ _ x => x
end L2
namespace L2
open PySem PySem.Spec PyProof.Rows
section
variable {X : Cx}
def tVar (i : Nat) : TE := fun σ H Q => ∃ v, σ[i]? = some (some v) ∧ Q v H
def tC (v : V) : TE := fun _ H Q => Q v H
theorem pe_var {i : Nat} {x : Str} {pos : Pos} (hN : X.N[i]? = some x) (hv : Vis X.env.scope x) (hd : (x == ("__debug__" : Str)) = false := by decide) (hcd : (x == ("__classdict__" : Str)) = false := by decide) : PE X (.Name x pos) (tVar i) := by
  intro pins s σ H Q I h
  obtain ⟨v, e, h⟩ := h
  obtain ⟨m, hn, hl⟩ := I.loc
  obtain ⟨u, r, l⟩ := hl i x v hN e hv
  have fin : EP X pins σ Q u s := ⟨v, H, I, r, h⟩
  rcases l with ⟨hk, hm⟩ | ⟨hk, c, hc, hcell⟩
  · exact wpAny_Name (wpAny_loadName_local I.ok.kind hk hn hm fin) hd
  · rcases hk with hk | hk
    · exact wpAny_Name (wpAny_loadName_cell I.ok.kind hk hc hcell fin) hd
    · exact wpAny_Name (wpAny_loadName_free I.ok.kind hk hc hcell fin hcd) hd
theorem pe_int {i j pos} : PE X (.Constant (.int i) j pos) (tC (.int i)) := fun _ _ _ H _ I h => wpAny_Constant_int ⟨.int i, H, I.tok _, ⟨_, rfl⟩, h⟩
theorem pe_bl {b j pos} : PE X (.Constant (.bool b) j pos) (tC (.bl b)) := fun _ _ _ H _ I h => Constant_bool ⟨.bl b, H, I, rfl, h⟩
theorem pe_non {j pos} : PE X (.Constant .none j pos) (tC .non) := fun _ _ _ H _ I h => Constant_none ⟨.non, H, I, rfl, h⟩
/-- a global name of the def -/
def Gl (X : Cx) (x : Str) : Prop := X.env.kindOf x = some .globalImplicit
theorem ld_glob {E : Value → Shared → Prop} {pins : List (Addr × Obj)} {s : Shared} {σ : St} {H : Hp} {x : Str} {u : Value} {pos : Pos} {Q : Value → Shared → Prop} (I : Inv X pins σ H s) (hg : Gl X x) (hm : X.mg x = some u) (h : Q u s)
    (hd : (x == ("__debug__" : Str)) = false := by decide) : wpAny (model X.prog X.w) X.A (eval (.Name x pos) X.env) Q E s :=
  Calls.Name_function_global I.ok.kind hg (Calls.loadGlobal_global (by rw [I.ok.glob]; exact I.mod.glob.keeps I.bk) hm h) hd
theorem ld_blt {E : Value → Shared → Prop} {pins : List (Addr × Obj)} {s : Shared} {σ : St} {H : Hp} {x : Str} {u : Value} {pos : Pos} {Q : Value → Shared → Prop} (I : Inv X pins σ H s) (hg : Gl X x) (hm : X.mg x = none) (hv : bootBuiltins x = some u) (h : Q u s)
    (hn : x ≠ "__name__" := by decide) (hd : (x == ("__debug__" : Str)) = false := by decide) : wpAny (model X.prog X.w) X.A (eval (.Name x pos) X.env) Q E s := by
  obtain ⟨mb, h1, h2⟩ := I.mod.blt
  exact Calls.Name_function_global I.ok.kind hg (Calls.loadGlobal_builtin (by rw [I.ok.glob]; exact I.mod.glob.keeps I.bk) hm (by rw [I.ok.blt]; exact h1.keeps I.bk) ((h2 x hn).trans hv) h) hd
/-- a module's constant, a class, a function, as a value -/
theorem pe_glob {x : Str} {v : V} {u : Value} {pos : Pos} (hg : Gl X x) (hm : X.mg x = some u) (r : RelV v u) (hd : (x == ("__debug__" : Str)) = false := by decide) : PE X (.Name x pos) (tC v) :=
  fun _ _ _ H _ I h => ld_glob I hg hm ⟨v, H, I, r, h⟩ hd
variable {a b : Expr} {ta tb : TE} {pos : Pos}
def PC (X : Cx) (op : CmpOp) (a b : Expr) (t : TE) : Prop :=
  ∀ (pins : List (Addr × Obj)) (s : Shared) (σ : St) (H : Hp) (Q : VK), Inv X pins σ H s → t σ H Q →
    wpAny (model X.prog X.w) X.A (eval a X.env) (fun v s₁ => wpAny (model X.prog X.w) X.A (eval b X.env) (fun u s₂ => wpAny (model X.prog X.w) X.A (compareOp op v u) (EP X pins σ Q) X.xe s₂) X.xe s₁) X.xe s
theorem nobehind (b : Expr) {op : CmpOp} (h : op ≠ .In) (h2 : op ≠ .NotIn) : behindInMarks op b = false := by
  have e1 : (op == CmpOp.In) = false := by cases op <;> first | rfl | exact absurd rfl h
  have e2 : (op == CmpOp.NotIn) = false := by cases op <;> first | rfl | exact absurd rfl h2
  cases b <;> simp [behindInMarks, e1, e2]
/-- is None -/
def tIsN (ta : TE) : TE := fun σ H Q => ta σ H fun x H1 => Q (.bl (decide (x = .non))) H1
def tNotN (ta : TE) : TE := fun σ H Q => ta σ H fun x H1 => Q (.bl (!decide (x = .non))) H1
theorem RelV.none_iff {x : V} {v : Value} (r : RelV x v) : (v == Value.none) = decide (x = .non) := by
  cases x with
  | non => cases r; rfl
  | bl _ => cases r; rfl
  | int _ => obtain ⟨t, rfl⟩ := r; rfl
  | str _ => obtain ⟨t, rfl⟩ := r; rfl
  | byt _ => obtain ⟨t, rfl⟩ := r; rfl
  | flt _ => obtain ⟨t, rfl⟩ := r; rfl
  | ref _ => cases r; rfl
  | ty _ => cases r; rfl
theorem pc_isN {j pos'} (ha : PE X a ta) : PC X .Is a (.Constant .none j pos') (tIsN ta) := by
  intro pins s σ H Q I h
  refine thn (ha pins s σ H _ I h) fun v s1 ⟨x, H1, I1, r1, q1⟩ => ?_
  exact Constant_none (is_none_gen ⟨.bl _, H1, I1, by rw [r1.none_iff]; rfl, q1⟩)
theorem pc_notN {j pos'} (ha : PE X a ta) : PC X .IsNot a (.Constant .none j pos') (tNotN ta) := by
  intro pins s σ H Q I h
  refine thn (ha pins s σ H _ I h) fun v s1 ⟨x, H1, I1, r1, q1⟩ => ?_
  exact Constant_none (isnot_none_gen ⟨.bl _, H1, I1, by rw [r1.none_iff]; rfl, q1⟩)
/-- a comparison as a value, as a test -/
def tB (t : TE) : TT := fun σ H Q => t σ H fun x H1 => ∃ c, x = .bl c ∧ Q c H1
theorem pe_cmp {op : CmpOp} {t : TE} (h : PC X op a b t) (h1 : behindInMarks op b = false := by first | exact nobehind _ (by decide) (by decide) | rfl) : PE X (.Compare a [op] [b] pos) t := fun pins s σ H Q I hw => wpAny_Compare1 (h pins s σ H Q I hw) h1
theorem pt_cmp {op : CmpOp} {t : TE} (h : PC X op a b t) (h1 : behindInMarks op b = false := by first | exact nobehind _ (by decide) (by decide) | rfl) : PT X (.Compare a [op] [b] pos) (tB t) := by
  intro pins s σ H Q I hw
  refine wpAny_isTrue_Compare1 (thn (h pins s σ H _ I hw) fun v s1 h1 => thn h1 fun u s2 h2 => thn h2 fun c s3 ⟨x, H1, I1, r1, q1⟩ => ?_) h1
  obtain ⟨d, rfl, q⟩ := q1
  cases r1
  exact wpAny_truthy_bool ⟨H1, I1, q⟩
/-- an expression whose value is a bool, as a test -/
theorem pt_val {e : Expr} {t : TE} (h : PE X e t) (he : ∀ whole, isTrue e X.env whole = (do let v ← whole; standAt e.pos; holding [v] (truthy v)) := by intro _; rfl) : PT X e (tB t) := by
  intro pins s σ H Q I hw
  refine isTrue_plain (thn (h pins s σ H _ I hw) fun v s1 ⟨x, H1, I1, r1, q1⟩ => ?_) (he _)
  obtain ⟨d, rfl, q⟩ := q1
  cases r1
  exact wpAny_truthy_bool ⟨H1, I1, q⟩
variable {tA tB' : TT} {rest : List Expr}
def tAnd (t u : TT) : TT := fun σ H Q => t σ H fun c H1 => if c = true then u σ H1 Q else Q false H1
def tOr (t u : TT) : TT := fun σ H Q => t σ H fun c H1 => if c = true then Q true H1 else u σ H1 Q
def tNot (t : TT) : TT := fun σ H Q => t σ H fun c H1 => Q (!c) H1
theorem pw_and1 (ha : PT X a tA) : PW X (.BoolOp .And [a] pos) tA := by
  intro wh pins s σ H Q I h
  refine isTrue_and (thn (ha pins s σ H Q I h) fun c s1 e => ?_)
  cases c with
  | true => exact isTrue_and_nil e
  | false => exact e
theorem pw_or1 (ha : PT X a tA) : PW X (.BoolOp .Or [a] pos) tA := by
  intro wh pins s σ H Q I h
  refine isTrue_or (thn (ha pins s σ H Q I h) fun c s1 e => ?_)
  cases c with
  | false => exact isTrue_or_nil e
  | true => exact e
theorem pw_and (ha : PT X a tA) (hb : PW X (.BoolOp .And (b :: rest) pos) tB') : PW X (.BoolOp .And (a :: b :: rest) pos) (tAnd tA tB') := by
  intro wh pins s σ H Q I h
  refine isTrue_and (thn (ha pins s σ H _ I h) fun c s1 ⟨H1, I1, q1⟩ => ?_)
  cases c with
  | true => exact hb wh pins s1 σ H1 Q I1 q1
  | false => exact ⟨H1, I1, q1⟩
theorem pw_or (ha : PT X a tA) (hb : PW X (.BoolOp .Or (b :: rest) pos) tB') : PW X (.BoolOp .Or (a :: b :: rest) pos) (tOr tA tB') := by
  intro wh pins s σ H Q I h
  refine isTrue_or (thn (ha pins s σ H _ I h) fun c s1 ⟨H1, I1, q1⟩ => ?_)
  cases c with
  | true => exact ⟨H1, I1, q1⟩
  | false => exact hb wh pins s1 σ H1 Q I1 q1
theorem pt_not (ha : PT X a tA) : PT X (.UnaryOp .Not a pos) (tNot tA) := by
  intro pins s σ H Q I h
  exact isTrue_not (ha pins s σ H (fun c H1 => Q (!c) H1) I h)
def tOrV (ta tb : TE) : TE := fun σ H Q => ta σ H fun x H1 => ∃ c, x = .bl c ∧ if c = true then Q (.bl true) H1 else tb σ H1 Q
theorem pe_one {op} {t : TE} (h : PE X a t) : PE X (.BoolOp op [a] pos) t := fun pins s σ H Q I hw => BoolOp_one (h pins s σ H Q I hw)
theorem pe_or (ha : PE X a ta) (hb : PE X (.BoolOp .Or (b :: rest) pos) tb) : PE X (.BoolOp .Or (a :: b :: rest) pos) (tOrV ta tb) := by
  intro pins s σ H Q I h
  refine BoolOp_or (thn (ha pins s σ H _ I h) fun v s1 ⟨x, H1, I1, r1, q1⟩ => ?_)
  obtain ⟨c, rfl, q1⟩ := q1
  cases r1
  refine wpAny_truthy_bool ?_
  cases c with
  | false => exact hb pins s1 σ H1 Q I1 q1
  | true => exact ⟨.bl true, H1, I1, rfl, q1⟩
/-- a if t else b -/
def tIf (t : TT) (ta tb : TE) : TE := fun σ H Q => t σ H fun c H1 => if c = true then ta σ H1 Q else tb σ H1 Q
theorem pe_ifExp {c : Expr} (hc : PT X c tA) (ha : PE X a ta) (hb : PE X b tb) : PE X (.IfExp c a b pos) (tIf tA ta tb) := by
  intro pins s σ H Q I h
  refine wpAny_IfExp (thn (hc pins s σ H _ I h) fun d s1 ⟨H1, I1, q1⟩ => ?_)
  cases d with
  | true => exact ha pins s1 σ H1 Q I1 q1
  | false => exact hb pins s1 σ H1 Q I1 q1
end
end L2
namespace L2
open PySem PySem.Spec PyProof.Rows
def SqL (K : PySem.W.Frag) (H : Hp) (a : Addr) (xs : List V) : Prop :=
  Rd H a (.lst xs) ∨
    ∃ (o : Obj) (its : Array Value) (n : Nat), K.lookup a = some o ∧ o.cls = .type "list" ∧ o.dict = none ∧ o.data = .seq its n ∧ its.size ≤ sizeLine ∧ Vals xs its.toList
def SqT (K : PySem.W.Frag) (H : Hp) (a : Addr) (xs : List V) : Prop :=
  Rd H a (.tup xs) ∨
    ∃ (o : Obj) (its : Array Value) (n : Nat), K.lookup a = some o ∧ o.cls = .type "tuple" ∧ o.data = .seq its n ∧ its.size ≤ sizeLine ∧ Vals xs its.toList
def absV : Value → Option V
  | .none => some .non
  | .bool b => some (.bl b)
  | .int i _ => some (.int i)
  | .str x _ => some (.str x)
  | .bytes b _ => some (.byt b)
  | .float b _ => some (.flt b)
  | .ref a => some (.ref a)
  | .type n => some (.ty n)
  | _ => none
theorem RelV.abs {x : V} {u : Value} (r : RelV x u) : absV u = some x := by
  cases x with
  | non => cases r; rfl
  | bl _ => cases r; rfl
  | int _ => obtain ⟨t, rfl⟩ := r; rfl
  | str _ => obtain ⟨t, rfl⟩ := r; rfl
  | byt _ => obtain ⟨t, rfl⟩ := r; rfl
  | flt _ => obtain ⟨t, rfl⟩ := r; rfl
  | ref _ => cases r; rfl
  | ty _ => cases r; rfl
theorem RelV.inj {x y : V} {u : Value} (r : RelV x u) (q : RelV y u) : x = y := Option.some.inj (r.abs.symm.trans q.abs)
theorem Vals.inj : ∀ {xs ys : List V} {us : List Value}, Vals xs us → Vals ys us → xs = ys
  | _, _, _, .nil, .nil => rfl
  | _, _, _, .cons r t, .cons r' t' => by rw [r.inj r', Vals.inj t t']
section
variable {X : Cx} {pins : List (Addr × Obj)} {σ : St} {H : Hp} {s : Shared} {a : Addr} {xs ys : List V}
theorem SqL.of {K : PySem.W.Frag} (h : H a = some (.lst xs)) : SqL K H a xs := .inl (.inl h)
theorem SqT.of {K : PySem.W.Frag} (h : H a = some (.tup xs)) : SqT K H a xs := .inl (.inl h)
theorem Inv.list (I : Inv X pins σ H s) (h : SqL X.K H a xs) : ∃ its : List Value, Vals xs its ∧ PlainL s.heap a its.toArray ∧ xs.length ≤ sizeLine := by
  rcases h with h | ⟨o, its, n, hk, hc, hd, hs, hz, r⟩
  · obtain ⟨z, its, n, r, e⟩ := h.ok I.hok
    exact ⟨its, r, ⟨_, n, e, rfl, rfl, rfl⟩, z⟩
  · refine ⟨its.toList, r, ⟨o, n, I.kIn a o hk, hc, hd, by simpa using hs⟩, ?_⟩
    have e := r.length
    simp only [Array.length_toList] at e
    omega
theorem Inv.tuple (I : Inv X pins σ H s) (h : SqT X.K H a xs) : ∃ its : List Value, Vals xs its ∧ IsTup s.heap a its.toArray ∧ xs.length ≤ sizeLine := by
  rcases h with h | ⟨o, its, n, hk, hc, hs, hz, r⟩
  · obtain ⟨z, its, r, p⟩ := h.ok I.hok
    exact ⟨its, r, p, z⟩
  · refine ⟨its.toList, r, ⟨o, I.kIn a o hk, hc, n, by simpa using hs⟩, ?_⟩
    have e := r.length
    simp only [Array.length_toList] at e
    omega
theorem Inv.list_inj (I : Inv X pins σ H s) (h : SqL X.K H a xs) (h' : SqL X.K H a ys) : xs = ys := by
  obtain ⟨its, r, ⟨o, n, e, _, _, d⟩, _⟩ := I.list h
  obtain ⟨its', r', ⟨o', n', e', _, _, d'⟩, _⟩ := I.list h'
  rw [e] at e'; cases e'
  rw [d] at d'
  injection d' with d1 _
  have : its = its' := by simpa using congrArg Array.toList d1
  subst this
  exact r.inj r'
end
abbrev Cx.wish (X : Cx) (E : Value → Shared → Prop) : Cx := { X with xe := E }
/-- no exception leaves -/
abbrev Cx.nox (X : Cx) : Cx := X.wish fun _ _ => False
theorem Cx.Ok.wish {X : Cx} (ok : X.Ok) (E : Value → Shared → Prop) : (X.wish E).Ok :=
  ⟨ok.mod, ok.kind, ok.glob, ok.blt, ok.above, ok.inj, ok.has, ok.cab, ok.hd, ok.frames, ok.stk, ok.exf, ok.bs, ok.bsz, ok.noex, ok.exfs, ok.funs, ok.frf⟩
theorem Cx.Ok.unwish {X : Cx} {E : Value → Shared → Prop} (ok : (X.wish E).Ok) : X.Ok :=
  ⟨ok.mod, ok.kind, ok.glob, ok.blt, ok.above, ok.inj, ok.has, ok.cab, ok.hd, ok.frames, ok.stk, ok.exf, ok.bs, ok.bsz, ok.noex, ok.exfs, ok.funs, ok.frf⟩
section
variable {X : Cx} {pins : List (Addr × Obj)} {σ : St} {H : Hp} {s : Shared} {E : Value → Shared → Prop}
theorem Inv.wish (I : Inv X pins σ H s) (E : Value → Shared → Prop) : Inv (X.wish E) pins σ H s := ⟨I.ok.wish E, I.os, I.bare, I.base, I.loc, I.cell, I.free, I.freeC, I.pin, I.hok, I.len⟩
theorem Inv.unwish (I : Inv (X.wish E) pins σ H s) : Inv X pins σ H s := ⟨I.ok.unwish, I.os, I.bare, I.base, I.loc, I.cell, I.free, I.freeC, I.pin, I.hok, I.len⟩
theorem SP.unwish {D : Ends} {f : Flow} {s' : Shared} (h : SP (X.wish E) pins D f s') : SP X pins D f s' := by
  cases f with
  | next => obtain ⟨σ', H', I, q⟩ := h; exact ⟨σ', H', I.unwish, q⟩
  | brk => obtain ⟨σ', H', I, q⟩ := h; exact ⟨σ', H', I.unwish, q⟩
  | cont => obtain ⟨σ', H', I, q⟩ := h; exact ⟨σ', H', I.unwish, q⟩
  | ret u => obtain ⟨v, σ', H', I, r, q⟩ := h; exact ⟨v, σ', H', I.unwish, r, q⟩
theorem PSs.nox {st : List Stmt} {t : TS} (h : PSs X.nox st t) : PSs X st t := fun pins s σ H D I hw =>
  wpAny_mono (h pins s σ H D (I.wish _) hw) (fun _ _ q => q.unwish) fun _ _ z => False.elim z
end
section
variable {X : Cx} {st : Stmt} {rest : List Stmt} {t u : TS} {e : Expr} {te : TE} {pos : Pos}
def tNext : TS := fun D σ H => D.nx σ H
def tSeq (t u : TS) : TS := fun D σ H => t { D with nx := u D } σ H
theorem pss_nil : PSs X [] tNext := fun _ _ σ H _ I h => wpAny_execs_nil ⟨σ, H, I, h⟩
theorem pss_cons (h1 : PS X st t) (h2 : PSs X rest u) : PSs X (st :: rest) (tSeq t u) := by
  intro pins s σ H D I h
  refine wpAny_execs_cons (thn (h1 pins s σ H { D with nx := u D } I h) fun f s1 q => ?_)
  cases f with
  | next =>
    obtain ⟨σ', H', I', q⟩ := q
    exact h2 pins s1 σ' H' D I' q
  | ret v => exact q
  | brk => exact q
  | cont => exact q
theorem pss_one (h1 : PS X st t) : PSs X [st] t := by
  intro pins s σ H D I h
  refine wpAny_execs_cons (thn (h1 pins s σ H D I h) fun f s1 q => ?_)
  cases f with
  | next => exact wpAny_execs_nil q
  | ret v => exact q
  | brk => exact q
  | cont => exact q
/-- in a def's body nothing is shown -/
theorem Inv.quiet {pins : List (Addr × Obj)} {σ : St} {H : Hp} {s : Shared} (I : Inv X pins σ H s) : interactive X.env = false := by simp [interactive, I.ok.kind]
/-- an expression whose value is dropped -/
def tDrop (te : TE) : TS := fun D σ H => te σ H fun _ H1 => D.nx σ H1
theorem ps_expr (he : PE X e te) (hs : swapsWith e none pos.line X.env = pure false := by rfl) : PS X (.Expr e pos) (tDrop te) := by
  intro pins s σ H D I h
  exact wpAny_Expr_any (thn (he pins s σ H _ I h) fun v s1 ⟨x, H1, I1, r1, q1⟩ => ⟨σ, H1, I1, q1⟩) I.quiet hs
def tRet (te : TE) : TS := fun D σ H => te σ H D.rt
theorem ps_ret (he : PE X e te) : PS X (.Return (some e) pos) (tRet te) := by
  intro pins s σ H D I h
  exact wpAny_Return_some (thn (he pins s σ H _ I h) fun v s1 ⟨x, H1, I1, r1, q1⟩ => ⟨x, σ, H1, I1, r1, q1⟩)
def tRetN : TS := fun D _ H => D.rt .non H
theorem ps_retN : PS X (.Return none pos) tRetN := fun _ _ σ H _ I h => wpAny_Return_none ⟨.non, σ, H, I, rfl, h⟩
def tIfS (c : TT) (t u : TS) : TS := fun D σ H => c σ H fun b H1 => if b = true then t D σ H1 else u D σ H1
theorem ps_if {c : Expr} {a b : List Stmt} {tc : TT} (hc : PT X c tc) (ha : PSs X a t) (hb : PSs X b u) : PS X (.If c a b pos) (tIfS tc t u) := by
  intro pins s σ H D I h
  refine wpAny_If (thn (hc pins s σ H _ I h) fun d s1 ⟨H1, I1, q1⟩ => ?_)
  cases d with
  | true => exact ha pins s1 σ H1 D I1 q1
  | false => exact hb pins s1 σ H1 D I1 q1
end
abbrev TG := V → St → Hp → (St → Hp → Prop) → Prop
def PG (X : Cx) (target : Expr) (t : TG) : Prop :=
  ∀ (pins : List (Addr × Obj)) (s : Shared) (σ : St) (H : Hp) (v : V) (u : Value) (Q : St → Hp → Prop), Inv X pins σ H s → RelV v u → t v σ H Q →
    wpAny (model X.prog X.w) X.A (assign target X.env u) (fun _ s' => ∃ σ' H', Inv X pins σ' H' s' ∧ Q σ' H') X.xe s
section
variable {X : Cx} {pos : Pos}
def gName (i : Nat) : TG := fun v σ H Q => Q (σ.set i (some v)) H
theorem pg_name {i : Nat} {x : Str} (hN : X.N.Nodup) (hi : X.N[i]? = some x) (hx : Loc X.env.scope x) (hf : X.fn x = true ∨ X.env.scope.names.lookup x = some .local := by first | exact .inl rfl | exact .inr rfl | assumption) : PG X (.Name x pos) (gName i) := by
  intro pins s σ H v u Q I r h
  exact wpAny_assign_Name (store_ok I hN hi hx r (fun s' I' => ⟨_, H, I', h⟩) hf)
/-- target = value -/
def tAsg (te : TE) (g : TG) : TS := fun D σ H => te σ H fun x H1 => g x σ H1 D.nx
/-- name = value -/
theorem ps_set {i : Nat} {x : Str} {e : Expr} {te : TE} {pos' : Pos} (hN : X.N.Nodup) (hi : X.N[i]? = some x) (hx : Loc X.env.scope x) (he : PE X e te) (hs : swapsWith e (some (.Name x pos')) pos.line X.env = pure false := by rfl) (hf : X.fn x = true ∨ X.env.scope.names.lookup x = some .local := by first | exact .inl rfl | exact .inr rfl | assumption) :
    PS X (.Assign [.Name x pos'] e pos) (tAsg te (gName i)) := by
  intro pins s σ H D I h
  refine wpAny_Assign_Name (thn (he pins s σ H _ I h) fun v s1 ⟨y, H1, I1, r1, q1⟩ => ?_) hs
  exact store_ok I1 hN hi hx r1 (fun s2 I2 => ⟨_, H1, I2, q1⟩) hf
end
section
variable {X : Cx} {pos : Pos}
/-- the invariant W with its measure -/
def tWhile (c : TT) (tb : TS) : TS := fun D σ H => ∃ W : Nat → St → Hp → Prop, (∃ m, W m σ H) ∧ ∀ m σ H, W m σ H →
  c σ H fun b H1 => if b = true then ∃ N : St → Hp → Prop, (∀ σ' H', N σ' H' → ∃ m', m' < m ∧ W m' σ' H') ∧ tb { D with nx := N, ct := N, bk := D.nx } σ H1 else D.nx σ H1
theorem ps_while {c : Expr} {body : List Stmt} {tc : TT} {tb : TS} (hp : PassesOwn (model X.prog X.w) X.A X.env X.xe) (hc : PT X c tc) (hb : PSs X body tb) : PS X (.While c body [] pos) (tWhile tc tb) := by
  intro pins s σ H D I h
  obtain ⟨W, ⟨m0, w0⟩, turn⟩ := h
  refine wpAny_While (codeAny_whileLoop (fun n s' => ∃ σ' H', Inv X pins σ' H' s' ∧ W n σ' H') ?_ m0 ⟨σ, H, I, w0⟩)
  rintro n s1 ⟨σ1, H1, I1, w1⟩
  refine wpAny_passesOwn hp (thn (hc pins s1 σ1 H1 _ I1 (turn n σ1 H1 w1)) fun b s2 ⟨H2, I2, q2⟩ => ?_)
  cases b with
  | true =>
    obtain ⟨N, hN, q2⟩ := q2
    rw [if_pos rfl]
    refine wpAny_passesOwn hp (thn (hb pins s2 σ1 H2 _ I2 q2) fun f s3 q3 => ?_)
    cases f with
    | next =>
      obtain ⟨σ3, H3, I3, n3⟩ := q3
      obtain ⟨m', hm, w3⟩ := hN σ3 H3 n3
      exact ⟨m', hm, σ3, H3, I3, w3⟩
    | cont =>
      obtain ⟨σ3, H3, I3, n3⟩ := q3
      obtain ⟨m', hm, w3⟩ := hN σ3 H3 n3
      exact ⟨m', hm, σ3, H3, I3, w3⟩
    | brk => exact q3
    | ret v => exact q3
  | false =>
    rw [if_neg Bool.false_ne_true]
    exact wpAny_execs_nil ⟨σ1, H2, I2, q2⟩
end
/-- at turn i: it yields x (the heap may grow), or it stops -/
structure It where
  go : Nat → Hp → Prop
  yld : Nat → Hp → V → Hp → Prop
  stop : Nat → Hp → Prop
/-- the iterator's own objects may turn: they are not the frame's, not pinned, younger than the entry (or a comprehension's own) -/
def FpOk (X : Cx) (pins : List (Addr × Obj)) (H : Hp) (b : Addr) : Prop :=
  H b = none ∧ b ≠ X.env.locals ∧ b ∉ X.fs ∧ (b ∈ X.ex ∨ X.s₀.heap.objs.size ≤ b) ∧ (∀ x c, X.env.cells.lookup x = some c → c ≠ b) ∧ ∀ p ∈ X.pn ++ pins, p.1 ≠ b
theorem Inv.fpOk {X : Cx} {pins : List (Addr × Obj)} {σ : St} {H H' : Hp} {s : Shared} {b : Addr} (I : Inv X pins σ H s) (hb : s.heap.objs.size ≤ b) (hn : H' b = none) : FpOk X pins H' b := by
  refine ⟨hn, Nat.ne_of_gt (Nat.lt_of_lt_of_le I.lt hb), I.nofs hb, .inr (Nat.le_trans I.sz hb), fun x c e z => ?_, fun p hp z => ?_⟩
  · obtain ⟨v, q⟩ := I.cell x c e
    exact absurd (Nat.lt_of_lt_of_le q.lt (by rw [z]; exact hb)) (Nat.lt_irrefl _)
  · exact absurd (Nat.lt_of_lt_of_le (Heap.lt_size (I.pin p hp).1) (by rw [z]; exact hb)) (Nat.lt_irrefl _)
structure Turn (P : Program) (w : World) (K : PySem.W.Frag) (tg : Expr) (J : It) (fp : List Addr) (it : Addr) (tn : Nat → Heap → Prop) : Prop where
  mem : it ∈ fp
  obj : ∀ i h, tn i h → ∀ b ∈ fp, ∃ o, h.get? b = some o ∧ ∀ v, o.data ≠ .cell v
  keep : ∀ i h h', tn i h → (∀ b ∈ fp, ∀ o, h.get? b = some o → h'.get? b = some o) → tn i h'
  item : ∀ (X : Cx), X.prog = P → X.w = w → X.K = K → X.calm = true → ∀ (i : Nat) (pins : List (Addr × Obj)) (s : Shared) (σ : St) (H : Hp) (E : Value → Shared → Prop), Inv X pins σ H s → (∀ b ∈ fp, FpOk X pins H b) → tn i s.heap → J.go i H →
    wpAny (model P w) X.A (pyNext (.ref it)) (fun r s1 => ∃ u, r = some u ∧
      wpAny (model P w) X.A (letOwnedTupleGo tg (.ref it) u) (fun _ s2 => ∃ x H', Inv X pins σ H' s2 ∧ RelV x u ∧ J.yld i H x H' ∧ tn (i + 1) s2.heap ∧ ∀ b ∈ fp, H' b = none) E s1) E s
  done : ∀ (X : Cx), X.prog = P → X.w = w → X.K = K → X.calm = true → ∀ (i : Nat) (pins : List (Addr × Obj)) (s : Shared) (σ : St) (H : Hp) (E : Value → Shared → Prop), Inv X pins σ H s → (∀ b ∈ fp, FpOk X pins H b) → tn i s.heap → J.stop i H →
    wpAny (model P w) X.A (pyNext (.ref it)) (fun r s1 => r = none ∧ Inv X pins σ H s1) E s
  self : ∀ (A : Around) (i : Nat) (s : Shared) (Q : Value → Shared → Prop) (E : Value → Shared → Prop), tn i s.heap → Q (.ref it) s → wpAny (model P w) A (pyIter (.ref it)) Q E s
abbrev TI := St → Hp → (It → Hp → Prop) → Prop
/-- an iterator has come -/
def PIE (X : Cx) (pins : List (Addr × Obj)) (σ : St) (tg : Expr) (R : It → Hp → Prop) (itv : Value) (s2 : Shared) : Prop :=
  ∃ (it : Addr) (fp : List Addr) (tn : Nat → Heap → Prop) (J : It) (H' : Hp), itv = .ref it ∧ Inv X pins σ H' s2 ∧ Turn X.prog X.w X.K tg J fp it tn ∧ tn 0 s2.heap ∧ (∀ b ∈ fp, FpOk X pins H' b) ∧ R J H'
def PI (X : Cx) (tg iter : Expr) (wi : TI) : Prop :=
  ∀ (pins : List (Addr × Obj)) (s : Shared) (σ : St) (H : Hp) (R : It → Hp → Prop), Inv X pins σ H s → wi σ H R →
    wpAny (model X.prog X.w) X.A (eval iter X.env) (fun v s1 => wpAny (model X.prog X.w) X.A (pyIter v) (PIE X pins σ tg R) X.xe s1) X.xe s
/-- the step ahead of the store is nothing for an iterator that keeps no tuple -/
theorem go_of {M : Model} {A : Around} {E : Value → Shared → Prop} {s : Shared} {tg : Expr} {it : Addr} {u : Value} {o : Obj} {n : String} {vs : Array Value} {Q : Unit → Shared → Prop} (ho : s.heap.get? it = some o) (hc : o.cls = .type n) (hd : o.data = .fields vs)
    (hn : ["enumerate", "zip", "dict_itemiterator", "dict_reverseitemiterator", "odict_iterator", "itertools.zip_longest", "itertools.pairwise"].contains n = false) (hQ : Q () s) : wpAny M A (letOwnedTupleGo tg (.ref it) u) Q E s := by
  unfold letOwnedTupleGo
  cases tg <;> first
    | exact wpAny_pure hQ
    | (cases u <;> first
        | exact wpAny_pure hQ
        | (refine wpAny_bind (wpAny_load ho ?_)
           rw [hc, hd]
           show wpAny M A (if (["enumerate", "zip", "dict_itemiterator", "dict_reverseitemiterator", "odict_iterator", "itertools.zip_longest", "itertools.pairwise"].contains n && vs[0]? == some (rawInt _)) = true then _ else _) Q E s
           rw [if_neg (by intro h; rw [hn, Bool.false_and] at h; cases h)]
           exact wpAny_pure hQ))
/-- the list at a, as it stands at each turn (a loop may append to it) -/
def Itl (K : PySem.W.Frag) (a : Addr) : It :=
  ⟨fun i H => ∃ xs x, SqL K H a xs ∧ xs[i]? = some x, fun i H x H' => H' = H ∧ ∀ xs, SqL K H a xs → xs[i]? = some x, fun i H => ∃ xs, SqL K H a xs ∧ xs.length ≤ i⟩
theorem turn_list {P : Program} {w : World} {K : PySem.W.Frag} {tg : Expr} (a it : Addr) : Turn P w K tg (Itl K a) [it] it (fun i h => h.IsListIter it a i) where
  mem := by simp
  obj := fun i h st b hb => by
    have e : b = it := by simpa using hb
    subst e
    obtain ⟨o, e, c, d⟩ := st
    exact ⟨o, e, fun v z => by rw [d] at z; cases z⟩
  keep := fun i h h' st k => st.at fun o e => k it (by simp) o e
  item := by
    intro X hP hw hK hc i pins s σ H E I hf st hg
    subst hP hw hK
    obtain ⟨xs, x, hq, hx⟩ := hg
    obtain ⟨its, rv, p, hz⟩ := I.list hq
    obtain ⟨u, hu, ru⟩ := rv.get hx
    obtain ⟨f0, f1, f2, f3, f4, f5⟩ := hf it (by simp)
    refine wpAny_pyNext_list_item st p.isList (x := u) (by simpa using hu) fun h' st' sb => ?_
    have I1 : Inv X pins σ H { s with heap := h' } := I.turned (t' := s.toks) (fun b o hb e => (sb.2 b hb).trans e) f0 f1 f3 f4 f5
    obtain ⟨o, e, c, d⟩ := id st'
    exact ⟨u, rfl, go_of (s := { s with heap := h' }) e c d (by decide) ⟨x, H, I1, ru, ⟨rfl, fun ys hy => by rw [I.list_inj hy hq]; exact hx⟩, st', fun b hb => (hf b hb).1⟩⟩
  done := by
    intro X hP hw hK hc i pins s σ H E I hf st hg
    subst hP hw hK
    obtain ⟨xs, hq, hx⟩ := hg
    obtain ⟨its, rv, p, hz⟩ := I.list hq
    obtain ⟨f0, f1, f2, f3, f4, f5⟩ := hf it (by simp)
    have hl := rv.length
    exact wpAny_pyNext_list_end (I.ok.hd hc) st p.isList (by simp; omega) fun h' eb => ⟨rfl, I.turned (t' := s.toks) (fun b o hb e => eb b o hb e) f0 f1 f3 f4 f5⟩
  self := fun _ _ _ _ _ st h => wpAny_pyIter_listiter st h
end L2
namespace L2
open PySem PySem.Spec PyProof.Rows
section
variable {X : Cx} {tg : Expr}
def iList (K : PySem.W.Frag) (tl : TE) : TI := fun σ H R => tl σ H fun x H1 => ∃ a, x = .ref a ∧ (∃ xs, SqL K H1 a xs) ∧ R (Itl K a) H1
theorem pi_list {l : Expr} {tl : TE} (hl : PE X l tl) : PI X tg l (iList X.K tl) := by
  intro pins s σ H R I h
  refine thn (hl pins s σ H _ I h) fun v s1 ⟨x, H1, I1, r1, q1⟩ => ?_
  obtain ⟨a, e, ⟨xs, hq⟩, q⟩ := q1
  subst e
  cases r1
  obtain ⟨its, rv, p, hz⟩ := I1.list hq
  refine wpAny_pyIter_list p.isList ?_
  refine ⟨s1.heap.objs.size, [s1.heap.objs.size], _, _, H1, rfl, I1.kept (t' := s1.toks) fun b o e => Heap.get?_push_of_some _ e, turn_list a _, ⟨_, Heap.get?_push_size _ rfl, rfl, rfl⟩, fun b hb => ?_, q⟩
  have e : b = s1.heap.objs.size := by simpa using hb
  subst e
  exact I1.fpOk (Nat.le_refl _) (I1.hok.fresh (Nat.le_refl _))
/-- W: the invariant by the turn and a measure; N: what the body is to reach -/
def tFor (wi : TI) (g : TG) (tb : TS) : TS := fun D σ H => wi σ H fun J H1 => ∃ W : Nat → Nat → St → Hp → Prop, (∃ m, W 0 m σ H1) ∧ ∀ i m σ H, W i m σ H →
  (J.stop i H ∧ D.nx σ H) ∨ (J.go i H ∧ ∃ N : St → Hp → Prop, (∀ σ' H', N σ' H' → ∃ m', m' < m ∧ W (i + 1) m' σ' H') ∧ ∀ x H', J.yld i H x H' → g x σ H' fun σ2 H2 => tb { D with nx := N, ct := N, bk := D.nx } σ2 H2)
/-- the records at fp as they stand -/
def pinsAt (fp : List Addr) (h : Heap) : List (Addr × Obj) := fp.filterMap fun b => (h.get? b).map fun o => (b, o)
theorem mem_pinsAt {fp : List Addr} {h : Heap} {b : Addr} {o : Obj} (hb : b ∈ fp) (e : h.get? b = some o) : (b, o) ∈ pinsAt fp h := List.mem_filterMap.mpr ⟨b, hb, by rw [e]; rfl⟩
theorem of_pinsAt {fp : List Addr} {h : Heap} {p : Addr × Obj} (hp : p ∈ pinsAt fp h) : p.1 ∈ fp ∧ h.get? p.1 = some p.2 := by
  obtain ⟨b, hb, e⟩ := List.mem_filterMap.mp hp
  cases q : h.get? b with
  | none => rw [q] at e; cases e
  | some o =>
    rw [q] at e
    have e' : (b, o) = p := Option.some.inj e
    subst e'
    exact ⟨hb, q⟩
theorem Inv.pinned {pins : List (Addr × Obj)} {σ : St} {H : Hp} {s : Shared} {fp : List Addr} (I : Inv X pins σ H s) (hf : ∀ b ∈ fp, FpOk X pins H b) (ho : ∀ b ∈ fp, ∃ o, s.heap.get? b = some o ∧ ∀ v, o.data ≠ .cell v) : Inv X (pins ++ pinsAt fp s.heap) σ H s :=
  I.pins_of fun p hp => (List.mem_append.mp hp).elim (fun z => I.pin p (List.mem_append_right _ z)) fun z => by
    obtain ⟨hb, e⟩ := of_pinsAt z
    obtain ⟨f0, f1, f2, _⟩ := hf p.1 hb
    obtain ⟨o, e', d⟩ := ho p.1 hb
    rw [e] at e'; cases e'
    exact ⟨e, f0, f1, f2, d⟩
theorem Inv.unpinned {pins pl : List (Addr × Obj)} {σ : St} {H : Hp} {s : Shared} (I : Inv X (pins ++ pl) σ H s) : Inv X pins σ H s := I.pins_of fun p hp => I.pin p (List.mem_append_right _ (List.mem_append_left _ hp))
theorem ps_for {iter : Expr} {body : List Stmt} {wi : TI} {g : TG} {tb : TS} {pos : Pos} (hp : PassesOwn (model X.prog X.w) X.A X.env X.xe) (hc : X.calm = true) (hi : PI X tg iter wi) (hg : PG X tg g) (hb : PSs X body tb)
    (hs : ∀ x, foldedSetIterable iter X.env x = pure x := by intro _; rfl) : PS X (.For tg iter body [] pos) (tFor wi g tb) := by
  intro pins s σ H D I h
  refine wpAny_For (thn (hi pins s σ H _ I h) fun v s1 h1 => thn h1 fun itv s2 h2 => ?_) hs
  obtain ⟨it, fp, tn, J, H2, e, I2, T, st2, f2, W, ⟨m0, w0⟩, turn⟩ := h2
  subst e
  -- what stays true of the iterator's objects through the loop
  have stat : ∀ {H' : Hp}, (∀ b ∈ fp, H' b = none) → ∀ b ∈ fp, FpOk X pins H' b := fun hn b hb => ⟨hn b hb, (f2 b hb).2⟩
  refine codeAny_forLoop_any (fun n s' => ∃ i σ' H', Inv X pins σ' H' s' ∧ tn i s'.heap ∧ (∀ b ∈ fp, H' b = none) ∧ W i n σ' H') ?_ m0 ⟨0, σ, H2, I2, st2, fun b hb => (f2 b hb).1, w0⟩
  rintro n s3 ⟨i, σ3, H3, I3, st3, fr3, w3⟩
  rcases turn i n σ3 H3 w3 with ⟨stop, qn⟩ | ⟨go, N, hN, step⟩
  · refine wpAny_passesOwn hp (thn (T.done X rfl rfl rfl hc i pins s3 σ3 H3 X.xe I3 (stat fr3) st3 stop) fun r s4 ⟨hr, I4⟩ => ?_)
    subst hr
    exact wpAny_execs_nil ⟨σ3, H3, I4, qn⟩
  · refine wpAny_passesOwn hp (thn (T.item X rfl rfl rfl hc i pins s3 σ3 H3 X.xe I3 (stat fr3) st3 go) fun r s4 ⟨u, hr, h4⟩ => ?_)
    subst hr
    refine wpAny_passesOwn hp (thn h4 fun _ s5 ⟨x, H5, I5, r5, y5, st5, fr5⟩ => ?_)
    have I5' := I5.pinned (stat fr5) (T.obj _ _ st5)
    refine wpAny_passesOwn hp (thn (hg _ s5 σ3 H5 x u _ I5' r5 (step x H5 y5)) fun _ s6 ⟨σ6, H6, I6, q6⟩ => ?_)
    refine wpAny_passesOwn hp (thn (hb _ s6 σ6 H6 _ I6 q6) fun f s7 q7 => ?_)
    have again : ∀ {σ7 : St} {H7 : Hp}, Inv X (pins ++ pinsAt fp s5.heap) σ7 H7 s7 → N σ7 H7 → ∃ m, m < n ∧ ∃ i σ' H', Inv X pins σ' H' s7 ∧ tn i s7.heap ∧ (∀ b ∈ fp, H' b = none) ∧ W i m σ' H' := fun {σ7 H7} I7 n7 => by
      obtain ⟨m', hm, w7⟩ := hN σ7 H7 n7
      refine ⟨m', hm, i + 1, σ7, H7, I7.unpinned, T.keep _ _ _ st5 fun b hb o e => (I7.pin (b, o) (List.mem_append_right _ (List.mem_append_right _ (mem_pinsAt hb e)))).1, fun b hb => ?_, w7⟩
      obtain ⟨o, e, d⟩ := T.obj _ _ st5 b hb
      exact (I7.pin (b, o) (List.mem_append_right _ (List.mem_append_right _ (mem_pinsAt hb e)))).2.1
    cases f with
    | next => obtain ⟨σ7, H7, I7, n7⟩ := q7; exact again I7 n7
    | cont => obtain ⟨σ7, H7, I7, n7⟩ := q7; exact again I7 n7
    | brk => obtain ⟨σ7, H7, I7, q7⟩ := q7; exact ⟨σ7, H7, I7.unpinned, q7⟩
    | ret v => obtain ⟨x7, σ7, H7, I7, r7, q7⟩ := q7; exact ⟨x7, σ7, H7, I7.unpinned, r7, q7⟩
end
/-- over a list that the body leaves as it is -/
theorem for_list {K : PySem.W.Frag} {a : Addr} {xs : List V} {g : TG} {tb : TS} {D : Ends} {σ : St} {H : Hp} (Pv : Nat → St → Hp → Prop) (h0 : Pv 0 σ H) (hl : ∀ i σ H, i ≤ xs.length → Pv i σ H → SqL K H a xs)
    (hs : ∀ i x σ H, xs[i]? = some x → Pv i σ H → g x σ H fun σ2 H2 => tb { D with nx := Pv (i + 1), ct := Pv (i + 1), bk := D.nx } σ2 H2) (hd : ∀ σ H, Pv xs.length σ H → D.nx σ H) :
    ∃ W : Nat → Nat → St → Hp → Prop, (∃ m, W 0 m σ H) ∧ ∀ i m σ H, W i m σ H →
      ((Itl K a).stop i H ∧ D.nx σ H) ∨ ((Itl K a).go i H ∧ ∃ N : St → Hp → Prop, (∀ σ' H', N σ' H' → ∃ m', m' < m ∧ W (i + 1) m' σ' H') ∧ ∀ x H', (Itl K a).yld i H x H' → g x σ H' fun σ2 H2 => tb { D with nx := N, ct := N, bk := D.nx } σ2 H2) := by
  refine ⟨fun i m σ H => m = xs.length - i ∧ i ≤ xs.length ∧ Pv i σ H, ⟨xs.length, by simp, Nat.zero_le _, h0⟩, ?_⟩
  rintro i m σ H ⟨rfl, hi, p⟩
  have q := hl i σ H hi p
  by_cases hlt : i < xs.length
  · refine .inr ⟨⟨xs, xs[i], q, by simp [hlt]⟩, Pv (i + 1), fun σ' H' p' => ⟨xs.length - (i + 1), by omega, rfl, hlt, p'⟩, fun x H' y => ?_⟩
    obtain ⟨e, y⟩ := y
    subst e
    exact hs i x σ _ (y xs q) p
  · have e : i = xs.length := by omega
    subst e
    exact .inl ⟨⟨xs, q, Nat.le_refl _⟩, hd σ H p⟩
end L2
namespace L2
open PySem PySem.Spec PyProof.Rows
abbrev R2 := V → V → Hp → VK → Prop
/-- a two-place operation on values: f is binaryOp op, inplaceOp op or compareOp op -/
def OpR (X : Cx) (f : Value → Value → Sem Value) (r : R2) : Prop :=
  ∀ (pins : List (Addr × Obj)) (s : Shared) (σ : St) (H : Hp) (x y : V) (v u : Value) (Q : VK), Inv X pins σ H s → RelV x v → RelV y u → r x y H Q →
    wpAny (model X.prog X.w) X.A (f v u) (EP X pins σ Q) X.xe s
/-- a call of a value that is known (a builtin, a type) with values -/
def CallR (X : Cx) (f : Value) (r : List V → Hp → VK → Prop) : Prop :=
  ∀ (pins : List (Addr × Obj)) (s : Shared) (σ : St) (H : Hp) (xs : List V) (us : List Value) (Q : VK), Inv X pins σ H s → Vals xs us → r xs H Q →
    wpAny (model X.prog X.w) X.A (call f us) (EP X pins σ Q) X.xe s
def tOp (r : R2) (ta tb : TE) : TE := fun σ H Q => ta σ H fun x H1 => tb σ H1 fun y H2 => r x y H2 Q
/-- ints in, under C, and a value out -/
def rI (C : Int → Int → Prop) (g : Int → Int → V) : R2 := fun x y H Q => ∃ i j, x = .int i ∧ y = .int j ∧ C i j ∧ Q (g i j) H
def rI0 (g : Int → Int → V) : R2 := fun x y H Q => ∃ i j, x = .int i ∧ y = .int j ∧ Q (g i j) H
section
variable {X : Cx} {a b c : Expr} {ta tb tc : TE} {pos : Pos}
theorem binT (ha : PE X a ta) (hb : PE X b tb) {pins : List (Addr × Obj)} {s : Shared} {σ : St} {H : Hp} {R : V → V → Hp → Prop} (I : Inv X pins σ H s)
    (h : ta σ H fun x H1 => tb σ H1 fun y H2 => R x y H2) {Q : Value → Shared → Prop} {f : Value → Value → Sem Value}
    (hf : ∀ v u s2 x y H2, Inv X pins σ H2 s2 → RelV x v → RelV y u → R x y H2 → wpAny (model X.prog X.w) X.A (f v u) Q X.xe s2) :
    wpAny (model X.prog X.w) X.A (eval a X.env) (fun v s₁ => wpAny (model X.prog X.w) X.A (eval b X.env) (fun u s₂ => wpAny (model X.prog X.w) X.A (f v u) Q X.xe s₂) X.xe s₁) X.xe s := by
  refine thn (ha pins s σ H _ I h) fun v s1 ⟨x, H1, I1, r1, q1⟩ => ?_
  refine thn (hb pins s1 σ H1 _ I1 q1) fun u s2 ⟨y, H2, I2, r2, q2⟩ => ?_
  exact hf v u s2 x y H2 I2 r1 r2 q2
theorem pe_op {op : Operator} {r : R2} (ho : OpR X (binaryOp op) r) (ha : PE X a ta) (hb : PE X b tb) : PE X (.BinOp a op b pos) (tOp r ta tb) := by
  intro pins s σ H Q I h
  exact wpAny_BinOp (binT ha hb I h fun v u s2 x y H2 I2 rx ry q => ho pins s2 σ H2 x y v u Q I2 rx ry q)
theorem opI {f : Value → Value → Sem Value} {C : Int → Int → Prop} {g : Int → Int → Int}
    (rule : ∀ (i j : Int) (t u : Tok) (s : Shared) (Q : Value → Shared → Prop) (E : Value → Shared → Prop), C i j → Q (.int (g i j) s.toks) { s with toks := s.toks + 1 } → wpAny (model X.prog X.w) X.A (f (.int i t) (.int j u)) Q E s) :
    OpR X f (rI C fun i j => .int (g i j)) := by
  intro pins s σ H x y v u Q I rx ry h
  obtain ⟨i, j, rfl, rfl, hc, q⟩ := h
  obtain ⟨t, rfl⟩ := rx
  obtain ⟨t', rfl⟩ := ry
  exact rule i j t t' s _ _ hc ⟨.int (g i j), H, I.tok _, ⟨_, rfl⟩, q⟩
theorem opI0 {f : Value → Value → Sem Value} {g : Int → Int → Int}
    (rule : ∀ (i j : Int) (t u : Tok) (s : Shared) (Q : Value → Shared → Prop) (E : Value → Shared → Prop), Q (.int (g i j) s.toks) { s with toks := s.toks + 1 } → wpAny (model X.prog X.w) X.A (f (.int i t) (.int j u)) Q E s) :
    OpR X f (rI0 fun i j => .int (g i j)) := by
  intro pins s σ H x y v u Q I rx ry h
  obtain ⟨i, j, rfl, rfl, q⟩ := h
  obtain ⟨t, rfl⟩ := rx
  obtain ⟨t', rfl⟩ := ry
  exact rule i j t t' s _ _ ⟨.int (g i j), H, I.tok _, ⟨_, rfl⟩, q⟩
theorem opB0 {f : Value → Value → Sem Value} {g : Int → Int → Bool}
    (rule : ∀ (i j : Int) (t u : Tok) (s : Shared) (Q : Value → Shared → Prop) (E : Value → Shared → Prop), Q (.bool (g i j)) s → wpAny (model X.prog X.w) X.A (f (.int i t) (.int j u)) Q E s) :
    OpR X f (rI0 fun i j => .bl (g i j)) := by
  intro pins s σ H x y v u Q I rx ry h
  obtain ⟨i, j, rfl, rfl, q⟩ := h
  obtain ⟨t, rfl⟩ := rx
  obtain ⟨t', rfl⟩ := ry
  exact rule i j t t' s _ _ ⟨.bl (g i j), H, I, rfl, q⟩
def CDiv (i j : Int) : Prop := 0 < j ∧ j < 1073741824
def CPow (i j : Int) : Prop := 0 ≤ j ∧ j ≤ 1000000 ∧ i.natAbs < 2 ^ 64
theorem two_pow_nn (k : Nat) : (0 : Int) ≤ 2 ^ k := by
  rw [two_pow_cast]
  exact Int.natCast_nonneg _
theorem op_add : OpR X (binaryOp .Add) (rI0 fun i j => .int (i + j)) := opI0 fun _ _ _ _ _ _ _ q => add_int q
theorem op_sub : OpR X (binaryOp .Sub) (rI0 fun i j => .int (i - j)) := opI0 fun _ _ _ _ _ _ _ q => sub_int q
/-- % by a positive divisor of any size -/
theorem op_mod : OpR X (binaryOp .Mod) (rI (fun _ j => 0 < j) fun i j => .int (i % j)) := opI fun i j _ _ _ _ _ hc q => by
  have h1 : (0 : Int) < j := hc
  exact mod_int' (by omega) (by rw [Int.fmod_eq_emod_of_nonneg i (by omega)]; exact q)
theorem op_shl : OpR X (binaryOp .LShift) (rI CPow fun i j => .int (i * 2 ^ j.toNat)) := opI fun _ _ _ _ _ _ _ hc q => lshift_int_small hc.1 hc.2.1 hc.2.2 q
theorem op_and : OpR X (binaryOp .BitAnd) (rI0 fun i j => .int (Builtin.bitAnd i j)) := opI0 fun _ _ _ _ _ _ _ q => and_int q
theorem iop_fdiv : OpR X (inplaceOp .FloorDiv) (rI CDiv fun i j => .int (i / j)) := opI fun i j _ _ _ _ _ hc q => by
  have h1 : (0 : Int) < j := hc.1
  have h2 : j < 1073741824 := hc.2
  exact ifloordiv_int (by omega) (by rw [Int.fdiv_eq_ediv_of_nonneg i (by omega)]; exact q) (.inl (PyProof.noPylong_small (by omega)))
theorem iop_shr : OpR X (inplaceOp .RShift) (rI (fun _ j => 0 ≤ j) fun i j => .int (i / 2 ^ j.toNat)) := opI fun i j _ _ _ _ _ hc q =>
  irshift_int hc (by rw [Int.fdiv_eq_ediv_of_nonneg i (two_pow_nn _)]; exact q)
end
/-- the scalars that == tells apart as data does -/
def scal : V → V → Bool
  | .non, .non => true | .non, .int _ => true | .int _, .non => true | .non, .bl _ => true | .bl _, .non => true | .non, .str _ => true | .str _, .non => true
  | .int _, .int _ => true | .bl _, .bl _ => true | .str _, .str _ => true | .byt _, .byt _ => true
  | .int _, .str _ => true | .str _, .int _ => true | .bl _, .str _ => true | .str _, .bl _ => true
  | _, _ => false
def rEq : R2 := fun x y H Q => scal x y = true ∧ Q (.bl (decide (x = y))) H
def rNe : R2 := fun x y H Q => scal x y = true ∧ Q (.bl (!decide (x = y))) H
theorem dec_int {i j : Int} : decide (V.int i = V.int j) = (i == j) := by
  rw [Bool.eq_iff_iff]
  simp
theorem dec_bl {i j : Bool} : decide (V.bl i = V.bl j) = (i == j) := by
  rw [Bool.eq_iff_iff]
  simp
theorem dec_str {i j : Str} : decide (V.str i = V.str j) = (i == j) := by
  rw [Bool.eq_iff_iff]
  simp
theorem dec_byt {i j : Array UInt8} : decide (V.byt i = V.byt j) = (i.toList == j.toList) := by
  rw [Bool.eq_iff_iff]
  cases i
  cases j
  simp
section
variable {X : Cx} {a b c : Expr} {ta tb tc : TE} {pos : Pos}
theorem fin_bl {pins : List (Addr × Obj)} {σ : St} {H : Hp} {s : Shared} {Q : VK} {k k' : Bool} (I : Inv X pins σ H s) (q : Q (.bl k) H) (e : k = k') : EP X pins σ Q (.bool k') s := by
  subst e
  exact ⟨.bl k, H, I, rfl, q⟩
theorem op_eq : OpR X (compareOp .Eq) rEq := by
  intro pins s σ H x y v u Q I rx ry h
  obtain ⟨hs, q⟩ := h
  cases x with
  | non =>
    cases rx
    cases y with
    | non => cases ry; exact PySem.EqNone.eq_none_none (fin_bl I q (by simp))
    | bl j => cases ry; exact PySem.EqNone.eq_none_bool (fin_bl I q (by simp))
    | int j => obtain ⟨t', rfl⟩ := ry; exact PySem.EqNone.eq_none_int (fin_bl I q (by simp))
    | str j => obtain ⟨t', rfl⟩ := ry; exact PySem.EqNone.eq_none_str (fin_bl I q (by simp))
    | _ => exact absurd (show false = true from hs) Bool.false_ne_true
  | bl i =>
    cases rx
    cases y with
    | non => cases ry; exact PySem.EqNone.eq_bool_none (fin_bl I q (by simp))
    | bl j => cases ry; exact eq_bool (fin_bl I q dec_bl)
    | str j => obtain ⟨t', rfl⟩ := ry; exact PySem.EqMixed.eq_bool_str (fin_bl I q (by simp))
    | _ => exact absurd (show false = true from hs) Bool.false_ne_true
  | int i =>
    obtain ⟨t, rfl⟩ := rx
    cases y with
    | non => cases ry; exact PySem.EqNone.eq_int_none (fin_bl I q (by simp))
    | int j => obtain ⟨t', rfl⟩ := ry; exact eq_int (fin_bl I q dec_int)
    | str j => obtain ⟨t', rfl⟩ := ry; exact PySem.EqMixed.eq_int_str (fin_bl I q (by simp))
    | _ => exact absurd (show false = true from hs) Bool.false_ne_true
  | str i =>
    obtain ⟨t, rfl⟩ := rx
    cases y with
    | non => cases ry; exact PySem.EqNone.eq_str_none (fin_bl I q (by simp))
    | bl j => cases ry; exact PySem.EqMixed.eq_str_bool (fin_bl I q (by simp))
    | int j => obtain ⟨t', rfl⟩ := ry; exact PySem.EqMixed.eq_str_int (fin_bl I q (by simp))
    | str j => obtain ⟨t', rfl⟩ := ry; exact eq_str (fin_bl I q dec_str)
    | _ => exact absurd (show false = true from hs) Bool.false_ne_true
  | byt i =>
    obtain ⟨t, rfl⟩ := rx
    cases y with
    | byt j => obtain ⟨t', rfl⟩ := ry; exact PySem.W.eq_bytes (fin_bl I q dec_byt)
    | _ => exact absurd (show false = true from hs) Bool.false_ne_true
  | _ => cases y <;> exact absurd (show false = true from hs) Bool.false_ne_true
theorem op_ne : OpR X (compareOp .NotEq) rNe := by
  intro pins s σ H x y v u Q I rx ry h
  obtain ⟨hs, q⟩ := h
  cases x with
  | non =>
    cases rx
    cases y with
    | non => cases ry; exact PySem.EqNone.ne_none_none (fin_bl I q (by simp))
    | bl j => cases ry; exact PySem.EqNone.ne_none_bool (fin_bl I q (by simp))
    | int j => obtain ⟨t', rfl⟩ := ry; exact PySem.EqNone.ne_none_int (fin_bl I q (by simp))
    | str j => obtain ⟨t', rfl⟩ := ry; exact PySem.EqNone.ne_none_str (fin_bl I q (by simp))
    | _ => exact absurd (show false = true from hs) Bool.false_ne_true
  | bl i =>
    cases rx
    cases y with
    | non => cases ry; exact PySem.EqNone.ne_bool_none (fin_bl I q (by simp))
    | bl j => cases ry; exact ne_bool (fin_bl I q (congrArg not dec_bl))
    | str j => obtain ⟨t', rfl⟩ := ry; exact PySem.EqMixed.ne_bool_str (fin_bl I q (by simp))
    | _ => exact absurd (show false = true from hs) Bool.false_ne_true
  | int i =>
    obtain ⟨t, rfl⟩ := rx
    cases y with
    | non => cases ry; exact PySem.EqNone.ne_int_none (fin_bl I q (by simp))
    | int j => obtain ⟨t', rfl⟩ := ry; exact ne_int (fin_bl I q (congrArg not dec_int))
    | str j => obtain ⟨t', rfl⟩ := ry; exact PySem.EqMixed.ne_int_str (fin_bl I q (by simp))
    | _ => exact absurd (show false = true from hs) Bool.false_ne_true
  | str i =>
    obtain ⟨t, rfl⟩ := rx
    cases y with
    | non => cases ry; exact PySem.EqNone.ne_str_none (fin_bl I q (by simp))
    | bl j => cases ry; exact PySem.EqMixed.ne_str_bool (fin_bl I q (by simp))
    | int j => obtain ⟨t', rfl⟩ := ry; exact PySem.EqMixed.ne_str_int (fin_bl I q (by simp))
    | str j => obtain ⟨t', rfl⟩ := ry; exact ne_str (fin_bl I q (congrArg not dec_str))
    | _ => exact absurd (show false = true from hs) Bool.false_ne_true
  | byt i =>
    obtain ⟨t, rfl⟩ := rx
    cases y with
    | byt j => obtain ⟨t', rfl⟩ := ry; exact PySem.W.ne_bytes (fin_bl I q (congrArg not dec_byt))
    | _ => exact absurd (show false = true from hs) Bool.false_ne_true
  | _ => cases y <;> exact absurd (show false = true from hs) Bool.false_ne_true
theorem op_lt : OpR X (compareOp .Lt) (rI0 fun i j => .bl (decide (i < j))) := opB0 fun _ _ _ _ _ _ _ q => lt_int q
theorem op_le : OpR X (compareOp .LtE) (rI0 fun i j => .bl (decide (i ≤ j))) := opB0 fun _ _ _ _ _ _ _ q => le_int q
theorem op_gt : OpR X (compareOp .Gt) (rI0 fun i j => .bl (decide (j < i))) := opB0 fun _ _ _ _ _ _ _ q => gt_int q
theorem op_ge : OpR X (compareOp .GtE) (rI0 fun i j => .bl (decide (j ≤ i))) := opB0 fun _ _ _ _ _ _ _ q => ge_int q
theorem nomark (b : Expr) {op : CmpOp} (h : op ≠ .In := by decide) (h2 : op ≠ .NotIn := by decide) : behindInMarks op b = false := by
  have e1 : (op == CmpOp.In) = false := by cases op <;> first | rfl | exact absurd rfl h
  have e2 : (op == CmpOp.NotIn) = false := by cases op <;> first | rfl | exact absurd rfl h2
  cases b <;> simp [behindInMarks, e1, e2]
/-- a comparison as a value; hm: nomark b, or (for in, not in) by with_unfolding_all rfl -/
theorem pe_cmpR {op : CmpOp} {r : R2} (ho : OpR X (compareOp op) r) (ha : PE X a ta) (hb : PE X b tb) (hm : behindInMarks op b = false) : PE X (.Compare a [op] [b] pos) (tOp r ta tb) := by
  intro pins s σ H Q I h
  exact wpAny_Compare1 (binT ha hb I h fun v u s2 x y H2 I2 rx ry q => ho pins s2 σ H2 x y v u Q I2 rx ry q) hm
/-- a reading of a value as a test -/
def tTest (t : TE) : TT := fun σ H Q => t σ H fun x H' => ∃ k, x = .bl k ∧ Q k H'
theorem pt_cmpR {op : CmpOp} {r : R2} (ho : OpR X (compareOp op) r) (ha : PE X a ta) (hb : PE X b tb) (hm : behindInMarks op b = false) : PT X (.Compare a [op] [b] pos) (tTest (tOp r ta tb)) := by
  intro pins s σ H Q I h
  refine wpAny_isTrue_Compare1 (thn (ha pins s σ H _ I h) fun v s1 ⟨x, H1, I1, r1, q1⟩ => thn (hb pins s1 σ H1 _ I1 q1) fun u s2 ⟨y, H2, I2, r2, q2⟩ =>
    thn (ho pins s2 σ H2 x y v u _ I2 r1 r2 q2) fun c s3 ⟨z, H3, I3, r3, k, e, q3⟩ => ?_) hm
  subst e
  cases r3
  exact wpAny_truthy_bool ⟨H3, I3, q3⟩
/-- a op1 b op2 c -/
def tChain (r r' : R2) (ta tb tc : TE) : TE := fun σ H Q => ta σ H fun x H1 => tb σ H1 fun y H2 => r x y H2 fun z H3 => ∃ k, z = .bl k ∧
  (if k = true then tc σ H3 fun w' H4 => r' y w' H4 Q else Q (.bl false) H3)
theorem pe_chain {op op' : CmpOp} {r r' : R2} (ho : OpR X (compareOp op) r) (ho' : OpR X (compareOp op') r') (ha : PE X a ta) (hb : PE X b tb) (hc : PE X c tc)
    (hm : lastMarks [op, op'] [b, c] = false := by with_unfolding_all rfl) : PE X (.Compare a [op, op'] [b, c] pos) (tChain r r' ta tb tc) := by
  intro pins s σ H Q I h
  refine Compare_chain (thn (ha pins s σ H _ I h) fun v s1 ⟨x, H1, I1, r1, q1⟩ => chain_link (thn (hb pins s1 σ H1 _ I1 q1) fun u s2 ⟨y, H2, I2, r2, q2⟩ =>
    thn (ho pins s2 σ H2 x y v u _ I2 r1 r2 q2) fun d s3 ⟨z, H3, I3, r3, k, e, q3⟩ => ?_)) hm
  subst e
  cases r3
  refine wpAny_truthy_bool ?_
  cases k with
  | false => exact ite_ff ⟨.bl false, H3, I3, rfl, q3⟩
  | true => exact ite_tt (chain_last (thn (hc pins s3 σ H3 _ I3 q3) fun w' s4 ⟨z', H4, I4, r4, q4⟩ => ho' pins s4 σ H4 y z' u w' Q I4 r2 r4 q4))
theorem line63 : (sizeLine : Nat) < 2 ^ 63 := by rw [sizeLine_eq]; decide
theorem vals1 {x : V} {us : List Value} (r : Vals [x] us) : ∃ u, us = [u] ∧ RelV x u := by
  cases r with
  | cons r1 r2 => cases r2; exact ⟨_, rfl, r1⟩
end
end L2
namespace L2
open PySem PySem.Spec PyProof.Rows
structure ObjM (h : Heap) (x dx C : Addr) (mA : Str → Option Value) : Prop where
  obj : h.get? x = some (PySem.W.instObj C dx)
  ns : h.Ns1 dx mA
  ne : dx ≠ x
theorem lookIn_ns {h : Heap} {dx : Addr} {mA : Str → Option Value} (n : h.Ns1 dx mA) : ∃ od, h.get? dx = some od ∧ ∀ name, PySem.W.lookIn name od = some (mA name) := by
  obtain ⟨o, es, ep, ho, hd, hk, _, hm⟩ := n
  refine ⟨o, ho, fun name => ?_⟩
  have e := hm name
  unfold nsFind findBy at e
  rw [← Array.find?_toList] at e
  unfold PySem.W.lookIn
  rw [hd]
  dsimp only
  split
  · rename_i y q
    rw [q] at e
    exact congrArg some e
  · rename_i q
    rw [q] at e
    have a : es.toList.any (·.refKey) = false := by
      rw [List.any_eq_false]
      intro y hy
      obtain ⟨z, t, hkey⟩ := hk y (Array.mem_toList_iff.mp hy)
      simp [DictEntry.refKey, hkey]
    have a' : ¬ es.toList.any (·.refKey) = true := by rw [a]; exact Bool.false_ne_true
    rw [if_neg a']
    exact congrArg some e
theorem ObjM.look {h : Heap} {x dx C : Addr} {mA : Str → Option Value} (I : ObjM h x dx C mA) : ∃ od, PySem.W.InstAt h x (PySem.W.instObj C dx) C (some od) ∧ ∀ name, PySem.W.lookIn name od = some (mA name) :=
  let ⟨od, ho, hl⟩ := lookIn_ns I.ns
  ⟨od, ⟨I.obj, rfl, rfl, ho⟩, hl⟩
section
variable {prog : Program} {w : World} {A : Around} {E : Value → Shared → Prop} {s : Shared} {K : PySem.W.Frag} {x dx C f : Addr} {mA : Str → Option Value} {name : Str} {v : Value}
theorem get_map {expr : Bool} {Q : Value → Shared → Prop} (X : K.In s.heap) (I : ObjM s.heap x dx C mA) (hg : PySem.W.plainGet K C name = true) (hh : PySem.W.hasDictIn K C = true)
    (ha : PySem.W.findIn K (.ref C) name = some none) (hv : mA name = some v) (hv' : PySem.W.handedIn v = true) (h : Q v { s with toks := s.toks + 1 }) :
    wpAny (model prog w) A (getAttr (.ref x) name expr) Q E s := by
  obtain ⟨od, J, hl⟩ := I.look
  exact PySem.W.get_value X J (PySem.W.plainGet_of hg).1 (PySem.W.findObj_own hh ha rfl (by rw [hl, hv])) hv' h
theorem get_meth {pl : Sem Bool} {Q : Value × List Value → Shared → Prop} (X : K.In s.heap) (I : ObjM s.heap x dx C mA) (hg : PySem.W.plainGet K C name = true)
    (hf : PySem.W.findIn K (.ref C) name = some (some (.ref f))) (ht : PySem.W.isFn K (.ref f) = true) (hv : mA name = none) (h : Q (.ref f, [.ref x]) s) :
    wpAny (model prog w) A (getMethod (.ref x) name pl) Q E s := by
  obtain ⟨od, J, hl⟩ := I.look
  exact PySem.W.method_fn X J (PySem.W.plainGet_of hg).1 (PySem.W.plainGet_of hg).2 hf (beq_iff_eq.mp ht) (by show (PySem.W.lookIn name od).map (·.isSome) = some false; rw [hl, hv]; rfl) h
theorem set_map {ns : List Str} {Q : Unit → Shared → Prop} (X : K.In s.heap) (I : ObjM s.heap x dx C mA)
    (hs : PySem.W.findIn K (.ref C) "__setattr__" = some (some (.builtin "object.__setattr__"))) (hp : PySem.W.plainOver K C = true) (ht : PySem.W.takerIn K C name = some none) (hh : PySem.W.hasDictIn K C = true)
    (hw : PySem.Within mA ns) (hsz : ns.length ≤ sizeLine)
    (h : ∀ h', ObjM h' x dx C (fun y => if y = name then some v else mA y) → Heap.SameBut dx s.heap h' → Q () { s with heap := h', toks := s.toks + 2 }) :
    wpAny (model prog w) A (setAttr (.ref x) name v) Q E s := by
  obtain ⟨od, J, hl⟩ := I.look
  refine PySem.W.set_plain X J hs (PySem.W.osa_open (s := { s with toks := s.toks + 1 }) (r := none) X J hp ht fun b => ?_)
  obtain ⟨cd, hc, hd'⟩ := PySem.W.any_some hh
  have hx : s.heap.get? x = some ⟨.ref C, some dx, .plain, #[]⟩ := I.obj
  refine wpAny_bind (wpAny_pure (wpAny_bind (wpAny_bind (wpAny_loadPart hx (wpAny_bind (PySem.W.Looks.here (s := { s with toks := s.toks + 1 }) (PySem.W.looks_clsIn X hc) ?_))))))
  rw [hd']
  refine wpAny_pure (a := some dx) (wpAny_bind (wpAny_pure (wpAny_bind ?_)))
  refine wpAny_nsSet1 (s := { s with toks := s.toks + 1 }) I.ns fun h' hn2 hs2 => ?_
  obtain ⟨oD, esD, epD, hoD, hdD, hcD⟩ := hn2.count (PySem.Within.cons name v hw)
  refine wpAny_bind (wpAny_lookBehind hoD (by rw [hdD]; exact pastItsLine_dict (Nat.le_trans hcD (by rw [List.length_cons]; omega))) ?_)
  exact wpAny_pure (h _ ⟨(hs2.2 _ (Ne.symm I.ne)).trans I.obj, hn2, I.ne⟩ hs2)
/-- C(..): the dict at the heap's end, the instance behind it; then its __init__ -/
theorem make_map {R : Result → Shared → Prop} {vs : List Value} {kw : List (Str × Value)} (X : K.In s.heap) (hm : PySem.W.makesIn K C = true)
    (hi : PySem.W.findIn K (.ref C) "__init__" = some (some (.ref f))) (hf : PySem.W.typeIn K (.ref f) = some (.type "function"))
    (h : codeAny (model prog w) (A.under (.builtin "type.__call__" ⟨.ref C :: vs, kw⟩)) (.call (.ref f) ⟨.ref (s.heap.objs.size + 1) :: vs, kw⟩) (PySem.W.InitBack (s.heap.objs.size + 1) R)
      { s with heap := (s.heap.push PySem.W.emptyDict).push (PySem.W.instObj C s.heap.objs.size) }) :
    codeAny (model prog w) A (.call (.ref C) ⟨vs, kw⟩) R s := by
  obtain ⟨hh, g, d, t, os⟩ := s
  exact PySem.W.make_core (PySem.W.makes_of X hm) (PySem.W.looks_findIn X hi) (fun self => PySem.W.bind_fn X self hf) (.inl rfl) h
end
def putF (f : Str) (v : V) : List (Str × V) → List (Str × V)
  | [] => [(f, v)]
  | (g, x) :: r => if g = f then (g, v) :: r else (g, x) :: putF f v r
theorem lookup_putF (f g : Str) (v : V) : ∀ fs : List (Str × V), (putF f v fs).lookup g = if g = f then some v else fs.lookup g
  | [] => by
    show List.lookup g [(f, v)] = _
    by_cases h : g = f
    · have hb : (g == f) = true := beq_iff_eq.mpr h
      simp only [List.lookup, hb, if_pos h]
    · have hb : (g == f) = false := beq_eq_false_iff_ne.mpr h
      simp only [List.lookup, hb, if_neg h]
  | (k, x) :: r => by
    have ih := lookup_putF f g v r
    rw [show putF f v ((k, x) :: r) = (if k = f then (k, v) :: r else (k, x) :: putF f v r) from rfl]
    by_cases hk : k = f
    · rw [if_pos hk]
      by_cases h : g = k
      · have hb : (g == k) = true := beq_iff_eq.mpr h
        simp only [List.lookup, hb, if_pos (h.trans hk)]
      · have hb : (g == k) = false := beq_eq_false_iff_ne.mpr h
        simp only [List.lookup, hb, if_neg (fun e : g = f => h (e.trans hk.symm))]
    · rw [if_neg hk]
      by_cases h : g = k
      · have hb : (g == k) = true := beq_iff_eq.mpr h
        simp only [List.lookup, hb, if_neg (fun e : g = f => hk (h.symm.trans e))]
      · have hb : (g == k) = false := beq_eq_false_iff_ne.mpr h
        simp only [List.lookup, hb]
        exact ih
theorem keys_putF (f : Str) (v : V) : ∀ fs : List (Str × V), f ∈ (putF f v fs).map (·.1) ∧ ∀ g, g ∈ fs.map (·.1) → g ∈ (putF f v fs).map (·.1)
  | [] => ⟨by simp [putF], fun g h => by simp at h⟩
  | (k, x) :: r => by
    obtain ⟨i1, i2⟩ := keys_putF f v r
    rw [show putF f v ((k, x) :: r) = (if k = f then (k, v) :: r else (k, x) :: putF f v r) from rfl]
    by_cases hk : k = f
    · rw [if_pos hk]
      subst hk
      exact ⟨by simp, fun g h => by simpa using h⟩
    · rw [if_neg hk]
      refine ⟨?_, fun g h => ?_⟩
      · rw [List.map_cons]
        exact List.mem_cons_of_mem _ i1
      · rw [List.map_cons] at h ⊢
        rcases List.mem_cons.mp h with e | e
        · exact List.mem_cons.mpr (.inl e)
        · exact List.mem_cons_of_mem _ (i2 g e)
theorem length_putF (f : Str) (v : V) : ∀ fs : List (Str × V), (putF f v fs).length ≤ fs.length + 1
  | [] => by simp [putF]
  | (k, x) :: r => by
    have ih := length_putF f v r
    rw [show putF f v ((k, x) :: r) = (if k = f then (k, v) :: r else (k, x) :: putF f v r) from rfl]
    by_cases hk : k = f
    · rw [if_pos hk, List.length_cons, List.length_cons]; omega
    · rw [if_neg hk, List.length_cons, List.length_cons]; omega
theorem RelO.some_of {v : V} {o : Option Value} (r : RelO (some v) o) : ∃ u, o = some u ∧ RelV v u := by
  cases o with
  | none => exact (show False from r).elim
  | some u => exact ⟨u, rfl, r⟩
theorem RelO.none_of {o : Option Value} (r : RelO none o) : o = none := by
  cases o with
  | none => rfl
  | some u => exact (show False from r).elim
theorem handed_of {v : V} {u : Value} (r : RelV v u) : PySem.W.handedIn u = true := by
  cases v with
  | non => cases (show u = Value.none from r); rfl
  | bl b => cases (show u = Value.bool b from r); rfl
  | int i => obtain ⟨t, e⟩ := (show ∃ t, u = Value.int i t from r); cases e; rfl
  | str x => obtain ⟨t, e⟩ := (show ∃ t, u = Value.str x t from r); cases e; rfl
  | byt b => obtain ⟨t, e⟩ := (show ∃ t, u = Value.bytes b t from r); cases e; rfl
  | flt b => obtain ⟨t, e⟩ := (show ∃ t, u = Value.float b t from r); cases e; rfl
  | ref a => cases (show u = Value.ref a from r); rfl
  | ty n => cases (show u = Value.type n from r); rfl
section
variable {P : Program} {w : World} {H H' : Hp} {h h' : Heap} {a C dx : Addr} {fs fs' : List (Str × V)}
theorem ins_get (hok : HOk P w H h) (e : H a = some (.ins C dx fs)) : ∃ mA, ObjM h a dx C mA ∧ (∀ f, RelO (fs.lookup f) (mA f)) ∧ PySem.Within mA (fs.map (·.1)) ∧ fs.length ≤ 1000 ∧ H dx = some (.own a) := by
  obtain ⟨d, z, ne, ob, mA, n, r, q⟩ := (show ObjOk P w H h a (.ins C dx fs) from hok a _ e)
  exact ⟨mA, ⟨ob, n, ne⟩, r, q, z, d⟩
end
structure Cls (K : PySem.W.Frag) (C : Addr) : Prop where
  pg : PySem.W.plainGet K C Str.empty = true
  hd : PySem.W.hasDictIn K C = true
  po : PySem.W.plainOver K C = true
  sa : PySem.W.findIn K (.ref C) "__setattr__" = some (some (.builtin "object.__setattr__"))
theorem Cls.get {K : PySem.W.Frag} {C : Addr} (c : Cls K C) (f : Str) : PySem.W.plainGet K C f = true := c.pg
/-- no class of it has the name -/
def NoAttr (K : PySem.W.Frag) (C : Addr) (f : Str) : Prop := PySem.W.findIn K (.ref C) f = some none
theorem NoAttr.taker {K : PySem.W.Frag} {C : Addr} {f : Str} (n : NoAttr K C f) : PySem.W.takerIn K C f = some none := by
  unfold PySem.W.takerIn
  rw [show PySem.W.findIn K (.ref C) f = some none from n]
  rfl
/-- a method: a plain def of the class or of one above it -/
structure Meth (K : PySem.W.Frag) (C : Addr) (m : Str) (f : Addr) : Prop where
  at_ : PySem.W.findIn K (.ref C) m = some (some (.ref f))
  fn : PySem.W.isFn K (.ref f) = true
  kp : PySem.W.keepIn K (.ref f) = true
section
variable {X : Cx} {pins : List (Addr × Obj)} {σ : St} {H : Hp} {s : Shared} {a C dx : Addr} {fs : List (Str × V)} {f : Str} {v : V} {A : Around} {E : Value → Shared → Prop}
theorem getattr_ok {b : Bool} {Q : Value → Shared → Prop} (I : Inv X pins σ H s) (e : H a = some (.ins C dx fs)) (c : Cls X.K C) (n : NoAttr X.K C f) (l : fs.lookup f = some v)
    (h : ∀ u s', Inv X pins σ H s' → RelV v u → Q u s') : wpAny (model X.prog X.w) A (getAttr (.ref a) f b) Q E s := by
  obtain ⟨mA, O, r, _, _, _⟩ := ins_get I.hok e
  obtain ⟨u, hu, ru⟩ := RelO.some_of (v := v) (o := mA f) (by rw [← l]; exact r f)
  exact get_map I.kIn O (c.get f) c.hd n hu (handed_of ru) (h u _ (I.tok _) ru)
theorem getmeth_ok {m : Str} {g : Addr} {pl : Sem Bool} {Q : Value × List Value → Shared → Prop} (I : Inv X pins σ H s) (e : H a = some (.ins C dx fs)) (c : Cls X.K C) (k : Meth X.K C m g) (l : fs.lookup m = none)
    (h : Q (.ref g, [.ref a]) s) : wpAny (model X.prog X.w) A (getMethod (.ref a) m pl) Q E s := by
  obtain ⟨mA, O, r, _, _, _⟩ := ins_get I.hok e
  have hn : mA m = none := RelO.none_of (by rw [← l]; exact r m)
  exact get_meth I.kIn O (c.get m) k.at_ k.fn hn h
theorem setattr_ok {y : V} {u : Value} {Q : Unit → Shared → Prop} (I : Inv X pins σ H s) (e : H a = some (.ins C dx fs)) (c : Cls X.K C) (n : NoAttr X.K C f) (hl : fs.length < 1000) (ry : RelV y u)
    (h : ∀ s', Inv X pins σ (upd H a (.ins C dx (putF f y fs))) s' → Q () s') : wpAny (model X.prog X.w) A (setAttr (.ref a) f u) Q E s := by
  obtain ⟨mA, O, r, wi, _, ho⟩ := ins_get I.hok e
  have hz : (fs.map (·.1)).length ≤ sizeLine := by rw [List.length_map, sizeLine_eq]; omega
  refine set_map I.kIn O c.sa c.po n.taker c.hd wi hz fun h' O' sb => h _ ?_
  have hd : ∃ o, h'.get? dx = some o := let ⟨o, _, _, e', _⟩ := O'.ns; ⟨o, e'⟩
  refine I.write (x := a) (e := dx) (by rw [e]; exact True.intro) (.inr ho) (fun b q hb z => (sb.2 b hb).trans z) hd ?_
  refine ⟨by rw [upd_ne O.ne]; exact ho, ?_, O.ne, O'.obj, _, O'.ns, fun g => ?_, fun g hg => ?_⟩
  · have := length_putF f y fs; omega
  · show RelO ((putF f y fs).lookup g) (if g = f then some u else mA g)
    rw [lookup_putF]
    by_cases q : g = f
    · rw [if_pos q, if_pos q]; exact ry
    · rw [if_neg q, if_neg q]; exact r g
  · by_cases q : g = f
    · rw [q]; exact (keys_putF f y fs).1
    · refine (keys_putF f y fs).2 g (wi g fun z => hg ?_)
      show (if g = f then some u else mA g) = none
      rw [if_neg q]; exact z
/-- a new instance, tracked, without attributes -/
theorem Inv.made (I : Inv X pins σ H s) : Inv X pins σ (upd (upd H s.heap.objs.size (.own (s.heap.objs.size + 1))) (s.heap.objs.size + 1) (.ins C s.heap.objs.size []))
    { s with heap := (s.heap.push PySem.W.emptyDict).push (PySem.W.instObj C s.heap.objs.size) } := by
  have e1 : (s.heap.push PySem.W.emptyDict).get? s.heap.objs.size = some PySem.W.emptyDict := Heap.get?_push_size s.heap rfl
  have e2 : ((s.heap.push PySem.W.emptyDict).push (PySem.W.instObj C s.heap.objs.size)).get? (s.heap.objs.size + 1) = some (PySem.W.instObj C s.heap.objs.size) := by
    have := Heap.get?_push_size (s.heap.push PySem.W.emptyDict) (o := PySem.W.instObj C s.heap.objs.size) rfl
    rwa [Heap.size_push] at this
  have e3 : (s.heap.push PySem.W.emptyDict).Ns s.heap.objs.size (fun _ => none) := ⟨PySem.W.emptyDict, #[], _, e1, rfl, (fun e he => absurd he (by simp)), fun _ => rfl⟩
  have I1 := I.laid (a := s.heap.objs.size) (o := .own (s.heap.objs.size + 1)) (h' := s.heap.push PySem.W.emptyDict) (t' := s.toks) (fun b u q => Heap.get?_push_of_some _ q) (Nat.le_refl _) ⟨_, e1⟩
  refine I1.laid (a := s.heap.objs.size + 1) (o := .ins C s.heap.objs.size []) (t' := s.toks) (fun b u q => Heap.get?_push_of_some _ q) (Nat.le_of_eq (Heap.size_push _ _)) ?_
  have ne : s.heap.objs.size ≠ s.heap.objs.size + 1 := Nat.ne_of_lt (Nat.lt_succ_self _)
  refine ⟨by rw [upd_ne ne, upd_same], Nat.zero_le _, ne, e2, fun _ => none, (Heap.Ns1.of_empty e3).at fun o q => Heap.get?_push_of_some _ q, fun _ => True.intro, fun y hy => absurd rfl hy⟩
/-- e.f where nothing but the object is asked: through attributeBase (super) and the last hold -/
theorem attr_of {prog : Program} {w : World} {env : Env} {e : Expr} {f : Str} {pos : Pos} {s : Shared} {Q : Value → Shared → Prop} (hb : attributeBase e f env (eval e env) = eval e env)
    (h : wpAny (model prog w) A (eval e env) (fun o s₁ => wpAny (model prog w) A (getAttr o f true) Q E s₁) E s) : wpAny (model prog w) A (eval (.Attribute e f pos) env) Q E s :=
  Attribute_any_ h (by rw [arm_eval_Attribute, hb])
end
/-- e.f, an attribute of the instance -/
def tFld (K : PySem.W.Frag) (ta : TE) (f : Str) : TE := fun σ H Q => ta σ H fun x H1 => ∃ a C dx fs v, x = .ref a ∧ H1 a = some (.ins C dx fs) ∧ Cls K C ∧ NoAttr K C f ∧ fs.lookup f = some v ∧ Q v H1
/-- e.f = value -/
def sFld (K : PySem.W.Frag) (ta tv : TE) (f : Str) : TS := fun D σ H => tv σ H fun y H1 => ta σ H1 fun x H2 => ∃ a C dx fs, x = .ref a ∧ H2 a = some (.ins C dx fs) ∧ Cls K C ∧ NoAttr K C f ∧ fs.length < 1000 ∧
  D.nx σ (upd H2 a (.ins C dx (putF f y fs)))
/-- an augmented operator on two values -/
def InOp (X : Cx) (op : Operator) (rd : V → V → Hp → VK → Prop) : Prop :=
  ∀ (pins : List (Addr × Obj)) (s : Shared) (σ : St) (H : Hp) (x y : V) (u v : Value) (Q : VK), Inv X pins σ H s → RelV x u → RelV y v → rd x y H Q → wpAny (model X.prog X.w) X.A (inplaceOp op u v) (EP X pins σ Q) X.xe s
/-- e.f op= value -/
def sFldAug (K : PySem.W.Frag) (ta tv : TE) (rd : V → V → Hp → VK → Prop) (f : Str) : TS := fun D σ H => ta σ H fun x H1 => ∃ a C dx fs v, x = .ref a ∧ H1 a = some (.ins C dx fs) ∧ Cls K C ∧ NoAttr K C f ∧ fs.lookup f = some v ∧
  tv σ H1 fun y H2 => rd v y H2 fun z H3 => ∃ dx' fs', H3 a = some (.ins C dx' fs') ∧ fs'.length < 1000 ∧ D.nx σ (upd H3 a (.ins C dx' (putF f z fs')))
section
variable {X : Cx} {o e value : Expr} {f : Str} {pos pos' tpos : Pos} {ta tv : TE}
theorem pe_fld (he : PE X e ta) (hb : attributeBase e f X.env (eval e X.env) = eval e X.env) : PE X (.Attribute e f pos) (tFld X.K ta f) := by
  intro pins s σ H Q I h
  refine attr_of hb (thn (he pins s σ H _ I h) fun u s1 ⟨x, H1, I1, rx, a, C, dx, fs, v, ex, ea, c, n, l, q⟩ => ?_)
  subst ex
  obtain rfl : u = Value.ref a := rx
  exact getattr_ok I1 ea c n l fun u' s2 I2 ru => ⟨v, H1, I2, ru, q⟩
theorem ps_fld (ha : PE X o ta) (hv : PE X value tv) (hs : swapsWith value (some (.Attribute o f pos')) pos.line X.env = pure false) : PS X (.Assign [.Attribute o f pos'] value pos) (sFld X.K ta tv f) := by
  intro pins s σ H D I h
  refine plainObj_wpAny_Assign_Attribute (thn (hv pins s σ H _ I h) fun u s1 ⟨y, H1, I1, ry, q⟩ => thn (ha pins s1 σ H1 _ I1 q) fun ov s2 ⟨x, H2, I2, rx, a, C, dx, fs, ex, ea, c, n, l, q2⟩ => ?_) hs
  subst ex
  obtain rfl : ov = Value.ref a := rx
  exact setattr_ok I2 ea c n l ry fun s3 I3 => ⟨σ, _, I3, q2⟩
theorem ps_fldaug {op : Operator} {rd : V → V → Hp → VK → Prop} (ha : PE X o ta) (hv : PE X value tv) (hop : InOp X op rd) : PS X (.AugAssign (.Attribute o f tpos) op value pos) (sFldAug X.K ta tv rd f) := by
  intro pins s σ H D I h
  refine wpAny_AugAssign_AttributeAny (thn (ha pins s σ H _ I h) fun ov s1 ⟨x, H1, I1, rx, a, C, dx, fs, v, ex, ea, c, n, l, q⟩ => ?_)
  subst ex
  obtain rfl : ov = Value.ref a := rx
  refine getattr_ok I1 ea c n l fun u s2 I2 ru => thn (hv pins s2 σ H1 _ I2 q) fun w3 s3 ⟨y, H2, I3, ry, q3⟩ => thn (hop pins s3 σ H2 v y u w3 _ I3 ru ry q3) fun w4 s4 ⟨z, H3, I4, rz, dx', fs', ea', l', q4⟩ => ?_
  exact setattr_ok I4 ea' c n l' rz fun s5 I5 => ⟨σ, _, I5, q4⟩
def rAdd : V → V → Hp → VK → Prop := fun x y H Q => ∃ i j, x = .int i ∧ y = .int j ∧ Q (.int (i + j)) H
def rSub : V → V → Hp → VK → Prop := fun x y H Q => ∃ i j, x = .int i ∧ y = .int j ∧ Q (.int (i - j)) H
theorem in_add : InOp X .Add rAdd := by
  rintro pins s σ H x y u v Q I rx ry ⟨i, j, rfl, rfl, q⟩
  obtain ⟨t, rfl⟩ := (show ∃ t, u = Value.int i t from rx)
  obtain ⟨t', rfl⟩ := (show ∃ t', v = Value.int j t' from ry)
  exact PyProof.Rows.iadd_int ⟨.int (i + j), H, I.tok _, ⟨_, rfl⟩, q⟩
theorem in_sub : InOp X .Sub rSub := by
  rintro pins s σ H x y u v Q I rx ry ⟨i, j, rfl, rfl, q⟩
  obtain ⟨t, rfl⟩ := (show ∃ t, u = Value.int i t from rx)
  obtain ⟨t', rfl⟩ := (show ∃ t', v = Value.int j t' from ry)
  exact PyProof.Rows.isub_int ⟨.int (i - j), H, I.tok _, ⟨_, rfl⟩, q⟩
end
end L2
namespace L2
open PySem PySem.Spec PyProof.Rows
structure Room (k : Nat) (A : Around) : Prop where
  hd : A.handled = none
  dp : A.depth + 3 * k + 5 < recursionLimit
  un : A.units + 16 * k + 200 < cLine
theorem Room.mono {j k : Nat} {A : Around} (r : Room k A) (h : j ≤ k) : Room j A := ⟨r.hd, by have := r.dp; omega, by have := r.un; omega⟩
theorem Room.deeper {k : Nat} {A : Around} (r : Room (k + 1) A) (env : Env) : Room k (A.deeper env) :=
  ⟨r.hd, by have := r.dp; show A.depth + 1 + 3 * k + 5 < _; omega, by have := r.un; show A.units + 3 + 16 * k + 200 < _; omega⟩
theorem make_depth {A : Around} {C : Addr} {us : List Value} {kw : List (Str × Value)} : (A.under (.builtin "type.__call__" ⟨.ref C :: us, kw⟩)).depth = A.depth + 1 := by
  first | rfl | simp [Around.under, Code.weight, Code.isCreation, Code.isGuard, Code.isCaller, Code.frames, Code.isFrame, guardIds]
theorem make_units {A : Around} {C : Addr} {us : List Value} {kw : List (Str × Value)} : (A.under (.builtin "type.__call__" ⟨.ref C :: us, kw⟩)).units = A.units + 1 := by
  first | rfl | simp [Around.under, Code.cUnits, Code.frames, Code.isFrame]
theorem Room.make {k : Nat} {A : Around} (r : Room (k + 1) A) (C : Addr) (us : List Value) (kw : List (Str × Value)) : Room k (A.under (.builtin "type.__call__" ⟨.ref C :: us, kw⟩)) :=
  ⟨r.hd, by have := r.dp; rw [make_depth]; omega, by have := r.un; rw [make_units]; omega⟩
theorem Room.depth {k : Nat} {A : Around} (r : Room k A) : A.depth < recursionLimit := by have := r.dp; omega
theorem Room.units {k : Nat} {A : Around} (r : Room k A) : A.units + 64 < cLine := by have := r.un; omega
def tNil : TA := fun _ H Q => Q [] H
def tCons (ta : TE) (tr : TA) : TA := fun σ H Q => ta σ H fun x H1 => tr σ H1 fun xs H2 => Q (x :: xs) H2
section
variable {X : Cx} {e : Expr} {es : List Expr} {te : TE} {t : TA} {pos : Pos}
theorem pa_nil : PA X [] tNil := fun _ _ _ _ H Q I h => Calls.spliced_nil ⟨[], H, I, .nil, h⟩
theorem pa_cons (ha : PE X e te) (hr : PA X es t) (hs : starEach (e :: es) X.env = (false, eval e X.env) :: starEach es X.env := by rfl) : PA X (e :: es) (tCons te t) := by
  intro pos pins s σ H Q I h
  rw [hs]
  show wpAny _ _ (spliced ((false, eval e X.env) :: backTo pos (starEach es X.env))) _ _ s
  refine Calls.spliced_cons (thn (ha pins s σ H _ I h) fun u s1 ⟨x, H1, I1, r1, q1⟩ => ?_)
  exact thn (hr pos pins s1 σ H1 _ I1 q1) fun us s2 ⟨xs, H2, I2, r2, q2⟩ => ⟨x :: xs, H2, I2, .cons r1 r2, q2⟩
/-- a tuple, a list of written items -/
def tTup (t : TA) : TE := fun σ H Q => t σ H fun xs H1 => xs.length ≤ sizeLine ∧ ∀ p, H1 p = none → Q (.ref p) (upd H1 p (.tup xs))
def tLst (t : TA) : TE := fun σ H Q => t σ H fun xs H1 => xs.length ≤ sizeLine ∧ ∀ p, H1 p = none → Q (.ref p) (upd H1 p (.lst xs))
theorem pe_tup {x1} (h : PA X es t) : PE X (.Tuple es x1 pos) (tTup t) := by
  intro pins s σ H Q I hq
  refine wpAny_Tuple_spliced (thn (h pos pins s σ H _ I hq) fun us s1 ⟨xs, H1, I1, r, z, q⟩ => ⟨by rw [← r.length]; exact z, ?_⟩)
  have hf : H1 s1.heap.objs.size = none := I1.hok.fresh (Nat.le_refl _)
  refine ⟨.ref s1.heap.objs.size, upd H1 s1.heap.objs.size (.tup xs), I1.laid (t' := s1.toks) (fun b u e => Heap.get?_push_of_some _ e) (Nat.le_refl _) ?_, rfl, q _ hf⟩
  exact ⟨z, us, r, ⟨_, Heap.get?_push_size _ rfl, rfl, _, rfl⟩⟩
theorem pe_lst (h : PA X es t) : PE X (.List es pos) (tLst t) := by
  intro pins s σ H Q I hq
  refine wpAny_List_spliced (thn (h pos pins s σ H _ I hq) fun us s1 ⟨xs, H1, I1, r, z, q⟩ => ⟨by rw [← r.length]; exact z, ?_⟩)
  have hf : H1 s1.heap.objs.size = none := I1.hok.fresh (Nat.le_refl _)
  refine ⟨.ref s1.heap.objs.size, upd H1 s1.heap.objs.size (.lst xs), I1.laid (t' := s1.toks) (fun b u e => Heap.get?_push_of_some _ e) (Nat.le_refl _) ?_, rfl, q _ hf⟩
  exact ⟨z, us, 0, r, Heap.get?_push_size _ rfl⟩
end
/-- a def's promise: the bound arguments in the parameters' order, the heap, the wanted end, the wanted exception -/
abbrev Sp := List V → Hp → VK → XK → Prop
/-- how an exception lies behind a call (file 08 gives it): the callers' frames, abstract heap and state ahead of the call, the wish, the exception, the state -/
abbrev CXT := List Env → Hp → Shared → XK → Value → Shared → Prop
/-- the state at a call -/
structure Env0 (P : Program) (w : World) (K : PySem.W.Frag) (mg : Str → Option Value) (base : Heap) (A : Around) (outer : List Env) (s : Shared) (H : Hp) : Prop where
  frames : A.frames = some outer
  mod : Mod K mg base
  bs : ∀ b o, base.get? b = some o → s.heap.get? b = some o ∧ H b = none
  bsz : base.objs.size ≤ s.heap.objs.size
  funs : s.heap.FunFrames base outer
  frf : ∀ b ∈ frs outer, H b = none
  hok : HOk P w H s.heap
  bare : AllBare s.gens
/-- a call's end -/
def CE (outer : List Env) (P : Program) (w : World) (H : Hp) (s : Shared) (Q : VK) (u : Value) (s' : Shared) : Prop :=
  ∃ v H', s'.os = s.os ∧ AllBare s'.gens ∧ Un (frs outer) [] H H' s.heap s'.heap ∧ HOk P w H' s'.heap ∧ RelV v u ∧ Q v H'
def CR (CX : CXT) (outer : List Env) (P : Program) (w : World) (H : Hp) (s : Shared) (Q : VK) (E : XK) (r : Result) (s' : Shared) : Prop :=
  match r with
  | .ok (.ret u) => CE outer P w H s Q u s'
  | .ok _ => False
  | .error e => CX outer H s E e s'
structure FnOk (P : Program) (w : World) (K : PySem.W.Frag) (mg : Str → Option Value) (base : Heap) (CX : CXT) (k : Nat) (f : Addr) (fd : FuncData) (ps : List Str) (sp : Sp) : Prop where
  len : ∀ vs H Q E, sp vs H Q E → vs.length = ps.length
  run : ∀ (A : Around) (outer : List Env) (s : Shared) (H : Hp) (args : Args) (us : List Value) (vs : List V) (Q : VK) (E : XK), Room k A → Env0 P w K mg base A outer s H → BindsTo s fd args (ps.zip us) → Vals vs us → sp vs H Q E →
    codeAny (model P w) A (.call (.ref f) args) (CR CX outer P w H s Q E) s
theorem Env0.make {P : Program} {w : World} {K : PySem.W.Frag} {mg : Str → Option Value} {base : Heap} {A : Around} {outer : List Env} {s : Shared} {H : Hp} (e : Env0 P w K mg base A outer s H) (C : Addr) (us : List Value) (kw : List (Str × Value)) :
    Env0 P w K mg base (A.under (.builtin "type.__call__" ⟨.ref C :: us, kw⟩)) outer s H := ⟨by first | exact e.frames | (simpa [Around.under, Code.envs, Code.isFrame, pushEnvs] using e.frames), e.mod, e.bs, e.bsz, e.funs, e.frf, e.hok, e.bare⟩
section
variable {X : Cx} {pins : List (Addr × Obj)} {σ : St} {H : Hp} {s s' : Shared}
/-- from a body: what a callee wants -/
theorem Inv.env0 (I : Inv X pins σ H s) : Env0 X.prog X.w X.K X.mg X.base X.A X.stack s H :=
  ⟨I.ok.frames, I.ok.mod, I.bs, Nat.le_trans I.ok.bsz I.sz, I.stack, I.stkFree, I.hok, I.bare⟩
/-- behind a call -/
theorem Inv.after {Q : VK} {u : Value} (I : Inv X pins σ H s) (h : CE X.stack X.prog X.w H s Q u s') : EP X pins σ Q u s' := by
  obtain ⟨v, H', os, bare, un, hok, r, q⟩ := h
  obtain ⟨hh, g, d, t, os'⟩ := s'
  obtain rfl : os' = s.os := os
  exact ⟨v, H', I.call (h' := hh) (g' := g) (d' := d) (t' := t) (ch := []) un hok bare (fun b z => absurd z (by simp)), r, q⟩
end
/-- f(..): the written arguments, then the defaults dvs; E: what is wanted of an exception -/
def tCall (sp : Sp) (dvs : List V) (E : XK) (t : TA) : TE := fun σ H Q => t σ H fun vs H1 => sp (vs ++ dvs) H1 Q E
/-- o.m(..) of an instance of the class at C -/
def tMeth (C : Addr) (m : Str) (sp : Sp) (dvs : List V) (E : XK) (ta : TE) (t : TA) : TE := fun σ H Q => ta σ H fun x H1 => ∃ a dx fs, x = .ref a ∧ H1 a = some (.ins C dx fs) ∧ fs.lookup m = none ∧
  t σ H1 fun vs H2 => sp (x :: (vs ++ dvs)) H2 Q E
/-- C(..): a new instance and its dict, then __init__ -/
def tMake (C : Addr) (sp : Sp) (dvs : List V) (E : XK) (t : TA) : TE := fun σ H Q => t σ H fun vs H1 => ∀ x dx, H1 x = none → H1 dx = none → dx ≠ x →
  sp (.ref x :: (vs ++ dvs)) (upd (upd H1 dx (.own x)) x (.ins C dx [])) (fun v H2 => v = .non ∧ Q (.ref x) H2) E
/-- how the parameters are bound: us the positional arguments, kw the keywords' values by name, ds the defaults that fill up -/
def Binds (K : PySem.W.Frag) (fd : FuncData) (ps : List Str) (ds : List Value) : Prop :=
  ∀ (s : Shared) (us : List Value), K.In s.heap → (us ++ ds).length = ps.length → BindsTo s fd ⟨us, []⟩ (ps.zip (us ++ ds))
/-- every parameter is given -/
theorem Binds.all {K : PySem.W.Frag} {fd : FuncData} {ps : List Str} (h : ∀ us : List Value, us.length = ps.length → bindArgs fd ⟨us, []⟩ = pure (ps.zip us)) : Binds K fd ps [] := fun s us _ hl => by
  rw [List.append_nil] at hl ⊢
  exact .of_eq (h us hl)
/-- an exception of a callee reaches what this body wants of exceptions -/
def Passes (CX : CXT) (X : Cx) (E : XK) : Prop := ∀ (pins : List (Addr × Obj)) (σ : St) (H : Hp) (s : Shared) (e : Value) (s' : Shared), Inv X pins σ H s → CX X.stack H s E e s' → X.xe e s'
section
variable {X : Cx} {CX : CXT} {k : Nat} {f C : Addr} {fd : FuncData} {ps : List Str} {sp : Sp} {dvs : List V} {ds : List Value} {E : XK} {x m : Str} {p pos apos : Pos} {e o : Expr} {es : List Expr} {ta : TE} {t : TA}
/-- the callee runs -/
theorem run_fn {pins : List (Addr × Obj)} {σ : St} {H : Hp} {s : Shared} {Q : VK} {us : List Value} {vs : List V} (F : FnOk X.prog X.w X.K X.mg X.base CX k f fd ps sp) (hr : Room k X.A) (hb : Binds X.K fd ps ds) (hd : Vals dvs ds) (hx : Passes CX X E)
    (I : Inv X pins σ H s) (r : Vals vs us) (h : sp (vs ++ dvs) H Q E) : wpAny (model X.prog X.w) X.A (call (.ref f) us) (EP X pins σ Q) X.xe s := by
  have r2 : Vals (vs ++ dvs) (us ++ ds) := r.append hd
  have hl : (us ++ ds).length = ps.length := by rw [← r2.length]; exact F.len _ _ _ _ h
  refine wpAny_call (codeAny_mono (F.run X.A X.stack s H ⟨us, []⟩ (us ++ ds) (vs ++ dvs) Q E hr I.env0 (hb s us I.kIn hl) r2 h) fun r s' hq => ?_)
  cases r with
  | error e => exact hx pins σ H s e s' I hq
  | ok fl =>
    cases fl with
    | ret u => exact I.after hq
    | next => exact False.elim hq
    | brk => exact False.elim hq
    | cont => exact False.elim hq
/-- o.m(e, ..) -/
theorem pe_meth {pl : Sem Bool} (he : PE X o ta) (c : Cls X.K C) (hm : Meth X.K C m f) (F : FnOk X.prog X.w X.K X.mg X.base CX k f fd ps sp) (hr : Room k X.A) (hb : Binds X.K fd ps ds) (hd : Vals dvs ds) (hx : Passes CX X E) (ha : PA X (e :: es) t)
    (hst : starEach (e :: es) X.env = (false, eval e X.env) :: starEach es X.env := by rfl) (hpl : (backTo pos (starEach es X.env)).any (·.1) = false := by rfl)
    (ht : eval (.Call (.Attribute o m apos) (e :: es) [] pos) X.env = (do
      let ov ← eval o X.env
      standAt apos.atName
      let (f, first) ← holding [ov] (getMethod ov m pl)
      callWith pos f first (backTo pos (starEach (e :: es) X.env)) (backToKw pos (keywordEach [] X.env))) := by rfl) :
    PE X (.Call (.Attribute o m apos) (e :: es) [] pos) (tMeth C m sp dvs E ta t) := by
  intro pins s σ H Q I h
  refine PySem.W.methodCall_KW (pl := pl) (thn (he pins s σ H _ I h) fun u s1 ⟨x, H1, I1, rx, a, dx, fs, ex, ea, l, q⟩ => ?_) ht
  subst ex
  obtain rfl : u = Value.ref a := rx
  refine getmeth_ok I1 ea c hm l ?_
  refine PySem.W.callWith_K (first := [.ref a]) (h₀ := X.base) I.ok.mod.kin hm.kp (thn (ha pos pins s1 σ H1 _ I1 q) fun us s2 ⟨vs, H2, I2, r, q2⟩ => ⟨I2.kIn, ?_⟩) hst hpl
  exact run_fn (us := .ref a :: us) (vs := .ref a :: vs) F hr hb hd hx I2 (.cons rfl r) q2
/-- o.m() -/
theorem pe_meth0 {pl : Sem Bool} (he : PE X o ta) (c : Cls X.K C) (hm : Meth X.K C m f) (F : FnOk X.prog X.w X.K X.mg X.base CX k f fd ps sp) (hr : Room k X.A) (hb : Binds X.K fd ps ds) (hd : Vals dvs ds) (hx : Passes CX X E)
    (ht : eval (.Call (.Attribute o m apos) [] [] pos) X.env = (do
      let ov ← eval o X.env
      standAt apos.atName
      let (f, first) ← holding [ov] (getMethod ov m pl)
      callWith pos f first (backTo pos (starEach [] X.env)) (backToKw pos (keywordEach [] X.env))) := by rfl) :
    PE X (.Call (.Attribute o m apos) [] [] pos) (tMeth C m sp dvs E ta tNil) := by
  intro pins s σ H Q I h
  refine PySem.W.methodCall_KW (pl := pl) (thn (he pins s σ H _ I h) fun u s1 ⟨x, H1, I1, rx, a, dx, fs, ex, ea, l, q⟩ => ?_) ht
  subst ex
  obtain rfl : u = Value.ref a := rx
  refine getmeth_ok I1 ea c hm l ?_
  exact PySem.W.callWith_K0 (first := [.ref a]) I1.kIn hm.kp (run_fn (us := [.ref a]) (vs := [.ref a]) F hr hb hd hx I1 (.cons rfl .nil) q)
/-- what a class must have to be made -/
structure Mk (K : PySem.W.Frag) (C f : Addr) : Prop where
  makes : PySem.W.makesIn K C = true
  init : PySem.W.findIn K (.ref C) "__init__" = some (some (.ref f))
  fn : PySem.W.isFn K (.ref f) = true
  kp : PySem.W.keepIn K (.ref C) = true
theorem run_make {pins : List (Addr × Obj)} {σ : St} {H : Hp} {s : Shared} {Q : VK} {us : List Value} {vs : List V} (M : Mk X.K C f) (F : FnOk X.prog X.w X.K X.mg X.base CX k f fd ps sp) (hr : Room (k + 1) X.A) (hb : Binds X.K fd ps ds) (hd : Vals dvs ds)
    (hx : Passes CX X E) (I : Inv X pins σ H s) (r : Vals vs us)
    (h : ∀ x dx, H x = none → H dx = none → dx ≠ x → sp (.ref x :: (vs ++ dvs)) (upd (upd H dx (.own x)) x (.ins C dx [])) (fun v H2 => v = .non ∧ Q (.ref x) H2) E) :
    wpAny (model X.prog X.w) X.A (call (.ref C) us) (EP X pins σ Q) X.xe s := by
  have hq := h (s.heap.objs.size + 1) s.heap.objs.size (I.hok.fresh (Nat.le_succ _)) (I.hok.fresh (Nat.le_refl _)) (Nat.ne_of_lt (Nat.lt_succ_self _))
  have I2 := Inv.made (C := C) I
  have r2 : Vals (V.ref (s.heap.objs.size + 1) :: (vs ++ dvs)) (Value.ref (s.heap.objs.size + 1) :: (us ++ ds)) := .cons rfl (r.append hd)
  have hl : (Value.ref (s.heap.objs.size + 1) :: us ++ ds).length = ps.length := by
    have e := r2.length
    rw [F.len _ _ _ _ hq] at e
    exact e.symm
  refine wpAny_call (make_map (f := f) I.kIn M.makes M.init (beq_iff_eq.mp M.fn) (codeAny_mono (F.run _ X.stack _ _ ⟨Value.ref (s.heap.objs.size + 1) :: us, []⟩ (Value.ref (s.heap.objs.size + 1) :: (us ++ ds)) _ _ E (hr.make C us [])
    (I2.env0.make C us []) (hb _ (Value.ref (s.heap.objs.size + 1) :: us) I2.kIn hl) r2 hq) fun r s' hq' => ?_))
  cases r with
  | error e => exact hx pins σ _ _ e s' I2 hq'
  | ok fl =>
    cases fl with
    | ret u =>
      obtain ⟨v, H', I3, rv, ev, q3⟩ := I2.after hq'
      subst ev
      exact ⟨rv, ⟨V.ref (s.heap.objs.size + 1), H', I3, rfl, q3⟩⟩
    | next => exact False.elim hq'
    | brk => exact False.elim hq'
    | cont => exact False.elim hq'
theorem pe_make (M : Mk X.K C f) (F : FnOk X.prog X.w X.K X.mg X.base CX k f fd ps sp) (hr : Room (k + 1) X.A) (hg : Gl X x) (hm : X.mg x = some (.ref C)) (hb : Binds X.K fd ps ds) (hd : Vals dvs ds) (hx : Passes CX X E)
    (ha : PA X (e :: es) t) (hdb : (x == ("__debug__" : Str)) = false := by decide) (he : starEach (e :: es) X.env = (false, eval e X.env) :: starEach es X.env := by rfl) (hpl : (backTo pos (starEach es X.env)).any (·.1) = false := by rfl) :
    PE X (.Call (.Name x p) (e :: es) [] pos) (tMake C sp dvs E t) := by
  intro pins s σ H Q I h
  refine wpAny_Call_Name_kw (ld_glob I hg hm ?_ hdb)
  refine PySem.W.callWith_K (h₀ := X.base) I.ok.mod.kin M.kp (thn (ha pos pins s σ H _ I h) fun us s1 ⟨vs, H1, I1, r, q⟩ => ⟨I1.kIn, ?_⟩) he hpl
  exact run_make M F hr hb hd hx I1 r q
theorem pe_make0 (M : Mk X.K C f) (F : FnOk X.prog X.w X.K X.mg X.base CX k f fd ps sp) (hr : Room (k + 1) X.A) (hg : Gl X x) (hm : X.mg x = some (.ref C)) (hb : Binds X.K fd ps ds) (hd : Vals dvs ds) (hx : Passes CX X E)
    (hdb : (x == ("__debug__" : Str)) = false := by decide) : PE X (.Call (.Name x p) [] [] pos) (tMake C sp dvs E tNil) := by
  intro pins s σ H Q I h
  refine wpAny_Call_Name_kw (ld_glob I hg hm ?_ hdb)
  exact PySem.W.callWith_K0 I.kIn M.kp (run_make (us := []) M F hr hb hd hx I .nil h)
end
/-- names: the parameters first -/
structure FnScope (N P : List Str) (sc : Scope) : Prop where
  kind : sc.kind = .function
  co : sc.isCoroutine = false
  gen : sc.isGenerator = false
  nd : N.Nodup
  pre : N.take P.length = P
  par : ∀ x ∈ P, sc.names.lookup x = some .local ∨ sc.names.lookup x = some .cell
  nofree : ∀ y ∈ sc.names, y.2 ≠ .free
theorem bindL_out {kindOf : Str → Option NameKind} {x : Str} : ∀ {binds : List (Str × Value)} {m : Str → Option Value}, (∀ v, (x, v) ∉ binds) → bindL kindOf binds m x = m x
  | [], _, _ => rfl
  | (n, v) :: r, m, h => by
    unfold bindL
    rw [bindL_out fun w hw => h w (List.mem_cons_of_mem _ hw)]
    split
    · have : x ≠ n := by rintro rfl; exact h v List.mem_cons_self
      simp [this]
    · rfl
theorem bindC_out {kindOf : Str → Option NameKind} {x : Str} : ∀ {binds : List (Str × Value)} {m : Str → Option Value}, (∀ v, (x, v) ∉ binds) → bindC kindOf binds m x = m x
  | [], _, _ => rfl
  | (n, v) :: r, m, h => by
    unfold bindC
    rw [bindC_out fun w hw => h w (List.mem_cons_of_mem _ hw)]
    split
    · rfl
    · have : x ≠ n := by rintro rfl; exact h v List.mem_cons_self
      simp [this]
theorem bindL_get {kindOf : Str → Option NameKind} {x : Str} {v : Value} : ∀ {P : List Str} {vs : List Value} {i : Nat} {m : Str → Option Value}, P.Nodup → P[i]? = some x → vs[i]? = some v → kindOf x = some .local →
    bindL kindOf (P.zip vs) m x = some v
  | [], _, _, _, _, h, _, _ => by simp at h
  | _ :: _, [], _, _, _, _, h, _ => by simp at h
  | p :: P, w :: vs, 0, m, nd, h1, h2, hk => by
    simp at h1 h2; subst h1; subst h2
    show bindL kindOf ((p, w) :: P.zip vs) m p = _
    unfold bindL
    rw [bindL_out fun v hv => (List.nodup_cons.mp nd).1 (List.of_mem_zip hv).1, if_pos hk]
    simp
  | p :: P, w :: vs, i + 1, m, nd, h1, h2, hk => by
    show bindL kindOf ((p, w) :: P.zip vs) m x = _
    unfold bindL
    exact bindL_get (i := i) (List.nodup_cons.mp nd).2 (by simpa using h1) (by simpa using h2) hk
theorem bindC_get {kindOf : Str → Option NameKind} {x : Str} {v : Value} : ∀ {P : List Str} {vs : List Value} {i : Nat} {m : Str → Option Value}, P.Nodup → P[i]? = some x → vs[i]? = some v → kindOf x ≠ some .local →
    bindC kindOf (P.zip vs) m x = some v
  | [], _, _, _, _, h, _, _ => by simp at h
  | _ :: _, [], _, _, _, _, h, _ => by simp at h
  | p :: P, w :: vs, 0, m, nd, h1, h2, hk => by
    simp at h1 h2; subst h1; subst h2
    show bindC kindOf ((p, w) :: P.zip vs) m p = _
    unfold bindC
    rw [bindC_out fun v hv => (List.nodup_cons.mp nd).1 (List.of_mem_zip hv).1, if_neg hk]
    simp
  | p :: P, w :: vs, i + 1, m, nd, h1, h2, hk => by
    show bindC kindOf ((p, w) :: P.zip vs) m x = _
    unfold bindC
    exact bindC_get (i := i) (List.nodup_cons.mp nd).2 (by simpa using h1) (by simpa using h2) hk
/-- the names' values at the entry -/
def start (N : List Str) (vs : List V) : St := vs.map some ++ List.replicate (N.length - vs.length) none
/-- the context of a def's body, at its entry; an exception leaves the frame, then lies as CX says -/
def cxOf (CX : CXT) (P : Program) (w : World) (K : PySem.W.Frag) (mg : Str → Option Value) (base : Heap) (N : List Str) (qual : Str) (scope : Scope) (f : Addr) (cd : Value) (A : Around) (outer : List Env) (s : Shared) (H : Hp) (E : XK) : Cx where
  prog := P
  w := w
  K := K
  mg := mg
  base := base
  A := A.deeper (envOfC qual scope s.heap.objs.size f cd)
  N := N
  s₀ := s
  H₀ := H
  env := envOfC qual scope s.heap.objs.size f cd
  outer := outer
  stack := envOfC qual scope s.heap.objs.size f cd :: outer
  ex := []
  calm := true
  fn := fun _ => true
  pn := []
  xe := fun e s' => wpAny (model P w) (A.deeper (envOfC qual scope s.heap.objs.size f cd)) (leaving (envOfC qual scope s.heap.objs.size f cd) e) (fun _ s'' => CX outer H s E e s'') (fun e' s'' => CX outer H s E e' s'') s'
theorem cell_has {sc : Scope} {n : Nat} {x : Str} (h : sc.names.lookup x = some .cell) : ∃ c, (cellsFrom n sc.names []).lookup x = some c := by
  have q := PySem.W.cellsFrom_some sc.names n [] (.inl h)
  exact Option.isSome_iff_exists.mp q
theorem inv_start {CX : CXT} {P : Program} {w : World} {K : PySem.W.Frag} {mg : Str → Option Value} {base : Heap} {N ps : List Str} {qual : Str} {scope : Scope} {f : Addr} {cd : Value} {A : Around} {outer : List Env} {s s1 : Shared} {H : Hp} {E : XK} {us : List Value} {vs : List V}
    (S : FnScope N ps scope) (hd : A.handled = none) (e0 : Env0 P w K mg base A outer s H) (hl : vs.length = ps.length) (r : Vals vs us)
    (x : InCallC s s.heap.objs.size (bindL (envOfC qual scope s.heap.objs.size f cd).kindOf (ps.zip us) fun _ => none) (cellsFrom (s.heap.objs.size + 1) scope.names []) (bindC (envOfC qual scope s.heap.objs.size f cd).kindOf (ps.zip us) fun _ => none) s1) :
    Inv (cxOf CX P w K mg base N qual scope f cd A outer s H E) [] (start N vs) H s1 := by
  have hpl : ps.length ≤ N.length := by have := congrArg List.length S.pre; rw [List.length_take] at this; omega
  obtain ⟨h1, tk, rfl, hk⟩ := x.done
  have noA : ∀ b : Addr, b ∉ (cxOf CX P w K mg base N qual scope f cd A outer s H E).ex := fun b z => absurd (show b ∈ ([] : List Addr) from z) (by simp)
  refine ⟨⟨e0.mod, S.kind, rfl, rfl, Nat.le_refl _, fun y z c h1 h2 => ?_, fun y hy => ?_, fun y c _ h => ?_, fun _ => hd, Around.frames_deeper e0.frames, .inr ⟨rfl, rfl⟩, fun b z => absurd z (noA b), e0.bs, e0.bsz, fun b _ _ => noA b, fun b z => absurd z (noA b), e0.funs, e0.frf⟩,
    rfl, e0.bare, Un.kept hk, ⟨_, x.toInCall.ns, fun i y v h1 h2 h3 => ?_⟩, fun y c h => ⟨_, x.cell y c h⟩, e0.hok.fresh (Nat.le_refl _), fun y c h => ?_, fun p hp => absurd (show p ∈ ([] : List (Addr × Obj)) from hp) (by simp), e0.hok.kept hk, ?_⟩
  · exact name_of_addr x.apart (PySem.mem_of_lookup h1) (PySem.mem_of_lookup h2)
  · have hy : scope.names.lookup y = some .cell ∨ scope.names.lookup y = some .free := hy
    rcases hy with hy | hy
    · exact cell_has hy
    · exact absurd rfl (S.nofree _ (PySem.mem_of_lookup hy))
  · exact Nat.le_of_lt (x.above y c (PySem.mem_of_lookup h))
  · have hi : i < vs.length := by
      unfold start at h2
      by_cases hi : i < vs.length
      · exact hi
      · rw [List.getElem?_append_right (by simpa using hi)] at h2
        rw [List.getElem?_replicate] at h2
        split at h2 <;> cases h2
    have ha : vs[i]? = some v := by
      unfold start at h2
      rw [List.getElem?_append_left (by simpa using hi), List.getElem?_map] at h2
      cases e : vs[i]? with
      | none => rw [e] at h2; cases h2
      | some a => rw [e] at h2; cases h2; rfl
    obtain ⟨u, hu, rv⟩ := r.get ha
    have hp : ps[i]? = some y := by
      rw [← S.pre, List.getElem?_take_of_lt (by omega)]; exact h1
    have ndP : ps.Nodup := by rw [← S.pre]; exact S.nd.sublist (List.take_sublist _ _)
    refine ⟨u, rv, ?_⟩
    rcases S.par y (List.mem_of_getElem? hp) with k | k
    · exact .inl ⟨k, bindL_get ndP hp hu k⟩
    · obtain ⟨c, e⟩ := cell_has (n := s.heap.objs.size + 1) k
      refine .inr ⟨.inl k, c, e, ?_⟩
      have q := x.cell y c e
      rw [bindC_get ndP hp hu (by show scope.names.lookup y ≠ _; rw [k]; decide)] at q
      exact q
  · exact e0.hok.fresh (Nat.le_of_lt (x.above y c (PySem.mem_of_lookup h)))
  · unfold start
    show _ = N.length
    rw [List.length_append, List.length_map, List.length_replicate]
    omega
/-- THE RULE: a def (or a method) of the text, by its body. The body's reading t is chosen for each entry; it is run at the parameters' values -/
theorem fn_of {CX : CXT} {P : Program} {w : World} {K : PySem.W.Frag} {mg : Str → Option Value} {base : Heap} {k : Nat} {f : Addr} {name qual : Str} {params : Arguments} {body : List Stmt} {scope : Scope} {dV kV doc pm cdv ct oc : Value} {an od : Option Addr}
    {osl : Array (Option Value)} {N ps : List Str} {sp : Sp} (lk : K.lookup f = some ⟨oc, od, .func (PySem.W.fnOf name qual params body scope dV kV doc pm an cdv ct), osl⟩) (hcd : PySem.W.codeIn K cdv qual = true) (S : FnScope N ps scope)
    (len : ∀ vs H Q E, sp vs H Q E → vs.length = ps.length)
    (hbody : ∀ (A : Around) (outer : List Env) (s : Shared) (H : Hp) (vs : List V) (Q : VK) (E : XK), Room k (A.deeper (envOfC qual scope s.heap.objs.size f cdv)) → sp vs H Q E →
      ∃ t, PSs (cxOf CX P w K mg base N qual scope f cdv A outer s H E) body t ∧ t { nx := fun _ H' => Q .non H', rt := Q } (start N vs) H) :
    FnOk P w K mg base CX (k + 1) f (PySem.W.fnOf name qual params body scope dV kV doc pm an cdv ct) ps sp := by
  refine ⟨len, fun A outer s H args us vs Q E hr e0 hb r hsp => ?_⟩
  have hl := len _ _ _ _ hsp
  have KX : K.In s.heap := e0.mod.kin.keeps fun b o e => (e0.bs b o e).1
  have lim : s.heap.NoLimit := e0.mod.nolimit.keeps fun b o e => (e0.bs b o e).1
  have hkind : ∀ y ∈ ps.zip us, scope.names.lookup y.1 = some .local ∨ (scope.names.lookup y.1 = some .cell ∧ ((cellsFrom (s.heap.objs.size + 1) scope.names []).lookup y.1).isSome = true) := fun ⟨n, v⟩ hy => by
    rcases S.par n (List.of_mem_zip hy).1 with q | q
    · exact .inl q
    · exact .inr ⟨q, PySem.W.cellsFrom_some _ _ _ (.inl q)⟩
  refine codeAny_call_function hr.depth (KX _ _ lk) rfl S.co S.gen rfl (PySem.W.codeRec_of KX hcd) (hb _ _ _ _ ?_)
  refine wpAny_newFunctionEnv_cells S.kind hkind fun env he s1 x => ?_
  subst he
  refine ⟨lim.keeps x.toInCall.keep, codeAny_func ?_⟩
  obtain ⟨t, ht, hq⟩ := hbody A outer s H vs Q E (hr.deeper _) hsp
  have I : Inv (cxOf CX P w K mg base N qual scope f cdv A outer s H E) [] (start N vs) H s1 := inv_start S hr.hd e0 hl r x
  refine wpAny_mono (ht [] s1 (start N vs) H _ I hq) (fun fl s' hs => ?_) fun e s' hs => hs
  have fin : ∀ {σ' : St} {H' : Hp} {v : V} {u : Value}, Inv (cxOf CX P w K mg base N qual scope f cdv A outer s H E) [] σ' H' s' → RelV v u → Q v H' → CE outer P w H s Q u s' :=
    fun {σ' H' v u} J rv q => ⟨v, H', J.os, J.bare, J.base, J.hok, rv, q⟩
  cases fl with
  | ret u =>
    obtain ⟨v, σ', H', J, rv, q⟩ := hs
    exact fin J rv q
  | next =>
    obtain ⟨σ', H', J, q⟩ := hs
    exact fin (v := V.non) (u := Value.none) J rfl q
  | brk =>
    obtain ⟨_, _, _, q⟩ := hs
    exact False.elim q
  | cont =>
    obtain ⟨_, _, _, q⟩ := hs
    exact False.elim q
end L2
namespace L2
open PySem PySem.Spec PyProof.Rows
section
variable {X : Cx} {x : Str} {p pos : Pos} {e : Expr} {es : List Expr} {t : TA} {id T : String} {r : List V → Hp → VK → Prop}
def tCB (r : List V → Hp → VK → Prop) (t : TA) : TE := fun σ H Q => t σ H fun vs H1 => r vs H1 Q
/-- f(e, ..), f a built-in function -/
theorem pe_callB (hc : CallR X (.builtin id) r) (hg : Gl X x) (hm : X.mg x = none) (hv : bootBuiltins x = some (.builtin id)) (ha : PA X (e :: es) t) (hn : x ≠ "__name__" := by decide) (hdb : (x == ("__debug__" : Str)) = false := by decide)
    (he : starEach (e :: es) X.env = (false, eval e X.env) :: starEach es X.env := by rfl) (hpl : (backTo pos (starEach es X.env)).any (·.1) = false := by rfl) : PE X (.Call (.Name x p) (e :: es) [] pos) (tCB r t) := by
  intro pins s σ H Q I h
  refine wpAny_Call_Name_kw (ld_blt I hg hm hv ?_ hn hdb)
  exact PyProof.Rows.callWith_builtin1 (thn (ha pos pins s σ H _ I h) fun us s1 ⟨vs, H1, I1, r1, q1⟩ => hc pins s1 σ H1 vs us Q I1 r1 q1) he hpl
/-- T(e, ..), T a built-in type -/
theorem pe_callTy (hc : CallR X (.type T) r) (hg : Gl X x) (hm : X.mg x = none) (hv : bootBuiltins x = some (.type T)) (ha : PA X (e :: es) t) (hn : x ≠ "__name__" := by decide) (hdb : (x == ("__debug__" : Str)) = false := by decide)
    (he : starEach (e :: es) X.env = (false, eval e X.env) :: starEach es X.env := by rfl) (hpl : (backTo pos (starEach es X.env)).any (·.1) = false := by rfl) : PE X (.Call (.Name x p) (e :: es) [] pos) (tCB r t) := by
  intro pins s σ H Q I h
  refine wpAny_Call_Name_kw (ld_blt I hg hm hv ?_ hn hdb)
  exact PyProof.Rows.callWith_type1 (thn (ha pos pins s σ H _ I h) fun us s1 ⟨vs, H1, I1, r1, q1⟩ => hc pins s1 σ H1 vs us Q I1 r1 q1) he hpl
end
end L2
namespace HT
open PySem PyProof.Rows
section
variable {prog : Program} {w : World} {A : Around} {E : Value → Shared → Prop} {s : Shared}
/-- a slice's bound as a place among n (d where it is left out) -/
def sIx (n d : Nat) : Option Int → Nat
  | none => d
  | some v => if v < 0 then (v + (n : Int)).toNat else min v.toNat n
theorem sIx_nat (n d k : Nat) : sIx n d (some (k : Int)) = min k n := by
  show (if (k : Int) < 0 then ((k : Int) + (n : Int)).toNat else min (k : Int).toNat n) = min k n
  rw [if_neg (by omega), Int.toNat_natCast]
end
end HT
namespace L2
open PySem PySem.Spec PyProof.Rows
abbrev TO := St → Hp → (Option Int → Hp → Prop) → Prop
/-- a slice's part (left out, or an int) -/
def PO (X : Cx) (e : Option Expr) (t : TO) : Prop :=
  ∀ (pins : List (Addr × Obj)) (s : Shared) (σ : St) (H : Hp) (Q : Option Int → Hp → Prop), Inv X pins σ H s → t σ H Q →
    wpAny (model X.prog X.w) X.A (evalPart e X.env) (fun u s' => ∃ o H', Inv X pins σ H' s' ∧ IsPart u o ∧ Q o H') X.xe s
def tPart (t : TE) : TO := fun σ H Q => t σ H fun x H1 => ∃ i, x = .int i ∧ Q (some i) H1
section
variable {X : Cx} {e : Expr} {te : TE} {lo hi : Option Expr} {tl th : TO} {pos p2 : Pos}
theorem po_some (h : PE X e te) : PO X (some e) (tPart te) := by
  intro pins s σ H Q I hw
  rw [evalPart_some]
  refine thn (h pins s σ H _ I hw) fun u s1 ⟨x, H1, I1, r1, q1⟩ => ?_
  obtain ⟨i, rfl, q⟩ := q1
  obtain ⟨t, rfl⟩ := r1
  exact ⟨some i, H1, I1, .int i t, q⟩
/-- what a slice of a value is, by values: the slice object stands at sl -/
def SlR (X : Cx) (r : V → Option Int → Option Int → Hp → VK → Prop) : Prop :=
  ∀ (pins : List (Addr × Obj)) (s : Shared) (σ : St) (H : Hp) (x : V) (v vl vu : Value) (lo hi : Option Int) (sl : Addr) (Q : VK), Inv X pins σ H s → RelV x v → s.heap.IsSliceOf sl vl vu .none → IsPart vl lo → IsPart vu hi → r x lo hi H Q →
    ∃ T id, typeLookup (.type T) "__getitem__" = pure (some (.builtin id)) ∧ s.TypeIs v T ∧ wpAny (model X.prog X.w) X.A (getItem v (.ref sl)) (EP X pins σ Q) X.xe s
def tSl (r : V → Option Int → Option Int → Hp → VK → Prop) (te : TE) (tl th : TO) : TE := fun σ H Q => te σ H fun x H1 => tl σ H1 fun l H2 => th σ H2 fun u H3 => r x l u H3 Q
/-- a[lo:hi], any a -/
theorem pe_slice {r : V → Option Int → Option Int → Hp → VK → Prop} (hr : SlR X r) (he : PE X e te) (hl : PO X lo tl) (hu : PO X hi th) : PE X (.Subscript e (.Slice lo hi none p2) pos) (tSl r te tl th) := by
  intro pins s σ H Q I h
  refine Subscript_ (thn (he pins s σ H _ I h) fun v s1 ⟨x, H1, I1, r1, q1⟩ => ?_)
  refine wpAny_Slice (thn (hl pins s1 σ H1 _ I1 q1) fun vl s2 ⟨l, H2, I2, pl, q2⟩ => thn (hu pins s2 σ H2 _ I2 q2) fun vu s3 ⟨u, H3, I3, pu, q3⟩ => ?_)
  rw [evalPart_none]
  refine wpAny_pure ?_
  have I4 : Inv X pins σ H3 { s3 with heap := s3.heap.push { cls := .type "slice", data := .fields #[vl, vu, .none] } } := I3.kept (t' := s3.toks) fun b ob q => Heap.get?_push_of_some _ q
  obtain ⟨T, id, hT, ht, hg⟩ := hr pins { s3 with heap := s3.heap.push { cls := .type "slice", data := .fields #[vl, vu, .none] } } σ H3 x v vl vu l u s3.heap.objs.size Q I4 r1 (Heap.IsSliceOf.new ..) pl pu q3
  show wpAny (model X.prog X.w) X.A (subscriptTail e (.Slice lo hi none p2) v (.ref s3.heap.objs.size)) (EP X pins σ Q) X.xe { s3 with heap := s3.heap.push { cls := .type "slice", data := .fields #[vl, vu, .none] } }
  exact tail_any (ops := [.ref s3.heap.objs.size, v]) ht hT hg (by with_unfolding_all rfl)
/-- the items of xs[lo:hi] -/
def cutV (xs : List V) (lo hi : Option Int) : List V := (xs.drop (HT.sIx xs.length 0 lo)).take (HT.sIx xs.length xs.length hi - HT.sIx xs.length 0 lo)
theorem cutV_length (xs : List V) (lo hi : Option Int) : (cutV xs lo hi).length ≤ xs.length := by
  unfold cutV
  rw [List.length_take, List.length_drop]
  omega
end
end L2
namespace L2
open PySem PySem.Spec PyProof.Rows
/-- the place that an index of any sign means -/
def ixN (n : Nat) (i : Int) : Option Nat := if 0 ≤ i then (if i < n then some i.toNat else none) else if -(n : Int) ≤ i then some (i + n).toNat else none
def atI {α : Type} (xs : List α) (i : Int) : Option α := (ixN xs.length i).bind fun j => xs[j]?
theorem ixN_seq {n : Nat} {i : Int} {j : Nat} (h : ixN n i = some j) : seqIndex? i n = some j ∧ j < n ∧ -(n : Int) ≤ i ∧ i < n := by
  unfold ixN at h
  by_cases h0 : 0 ≤ i
  · rw [if_pos h0] at h
    by_cases h1 : i < n
    · rw [if_pos h1] at h
      have e : i.toNat = j := Option.some.inj h
      exact ⟨by rw [seqIndex_of h0 h1, e], by omega, by omega, h1⟩
    · rw [if_neg h1] at h; cases h
  · rw [if_neg h0] at h
    by_cases h1 : -(n : Int) ≤ i
    · rw [if_pos h1] at h
      have e : (i + n).toNat = j := Option.some.inj h
      exact ⟨by rw [seqIndex_neg (by omega) h1, e], by omega, h1, by omega⟩
    · rw [if_neg h1] at h; cases h
theorem atI_get {α : Type} {xs : List α} {i : Int} {v : α} (h : atI xs i = some v) : ∃ j, seqIndex? i xs.length = some j ∧ xs[j]? = some v ∧ j < xs.length ∧ -(xs.length : Int) ≤ i ∧ i < xs.length := by
  unfold atI at h
  cases e : ixN xs.length i with
  | none => rw [e] at h; cases h
  | some j =>
    rw [e] at h
    obtain ⟨h1, h2, h3, h4⟩ := ixN_seq e
    exact ⟨j, h1, h, h2, h3, h4⟩
theorem atI_nat {α : Type} {xs : List α} {j : Nat} {v : α} (h : xs[j]? = some v) : atI xs (j : Int) = some v := by
  have hj : j < xs.length := (List.getElem?_eq_some_iff.mp h).1
  have e : ixN xs.length (j : Int) = some j := by
    unfold ixN
    rw [if_pos (by omega), if_pos (by omega)]; simp
  unfold atI; rw [e]; exact h
/-- what stands as an index of a plain subscript -/
def PlainIx (b : Expr) : Prop := ∀ o i, subscripted b false o i = operate [o, i] (getItem o i)
/-- a subscript by values -/
def IxR (X : Cx) (r : R2) : Prop :=
  ∀ (value slice : Expr) (pins : List (Addr × Obj)) (s : Shared) (σ : St) (H : Hp) (x y : V) (v u : Value) (Q : VK), Inv X pins σ H s → RelV x v → RelV y u → r x y H Q →
    subscripted slice false v u = operate [v, u] (getItem v u) → wpAny (model X.prog X.w) X.A (subscriptTail value slice v u) (EP X pins σ Q) X.xe s
/-- a call of a builtin's method by values: the receiver, the arguments -/
def MtR (X : Cx) (id : String) (r : V → List V → Hp → VK → Prop) : Prop :=
  ∀ (pins : List (Addr × Obj)) (s : Shared) (σ : St) (H : Hp) (x : V) (xs : List V) (v : Value) (us : List Value) (Q : VK), Inv X pins σ H s → RelV x v → Vals xs us → r x xs H Q →
    wpAny (model X.prog X.w) X.A (call (.builtin id) (v :: us)) (EP X pins σ Q) X.xe s
section
variable {X : Cx} {a b : Expr} {ta tb : TE} {pos : Pos}
/-- a[b] -/
theorem pe_ix {r : R2} (hr : IxR X r) (ha : PE X a ta) (hb : PE X b tb) (hs : PlainIx b) : PE X (.Subscript a b pos) (tOp r ta tb) := by
  intro pins s σ H Q I h
  exact Subscript_ (binT ha hb I h fun v u s2 x y H2 I2 rx ry q => hr a b pins s2 σ H2 x y v u Q I2 rx ry q (hs _ _))
def rIxL (K : PySem.W.Frag) : R2 := fun x y H Q => ∃ p xs i v, x = .ref p ∧ y = .int i ∧ SqL K H p xs ∧ atI xs i = some v ∧ Q v H
def rIxT (K : PySem.W.Frag) : R2 := fun x y H Q => ∃ p xs i v, x = .ref p ∧ y = .int i ∧ SqT K H p xs ∧ atI xs i = some v ∧ Q v H
theorem ix_list : IxR X (rIxL X.K) := by
  intro value slice pins s σ H x y v u Q I rx ry h hs
  obtain ⟨p, xs, i, z, rfl, rfl, hq, he, q⟩ := h
  cases rx
  obtain ⟨t, rfl⟩ := ry
  obtain ⟨its, r, pl, hz⟩ := I.list hq
  obtain ⟨j, h1, h2, h3, h4, h5⟩ := atI_get he
  obtain ⟨w, ew, rw'⟩ := r.get h2
  have hl := r.length
  have hn := line63
  have fin : EP X pins σ Q w s := ⟨z, H, I, rw', q⟩
  by_cases h0 : 0 ≤ i
  · have hj : i.toNat = j := by
      rw [seqIndex_of h0 h5] at h1
      exact Option.some.inj h1
    exact item_listR pl.isList h0 (by omega) (by rw [hj]; simpa using ew) fin hs
  · have hj : (i + (its.toArray.size : Int)).toNat = j := by
      rw [seqIndex_neg (by omega) h4] at h1
      rw [List.size_toArray, ← hl]
      exact Option.some.inj h1
    exact subscriptTail_builtinR (x := w) pl.isList.typeIs slot_list_getitem.lookup
      (wpAny_getItem_list_neg (Q := fun r s' => r = w ∧ EP X pins σ Q r s') pl.isList (by omega) (by rw [List.size_toArray] <;> omega) (by omega) (by rw [hj]; simpa using ew) ⟨rfl, fin⟩) hs
theorem ix_tup : IxR X (rIxT X.K) := by
  intro value slice pins s σ H x y v u Q I rx ry h hs
  obtain ⟨p, xs, i, z, rfl, rfl, hq, he, q⟩ := h
  cases rx
  obtain ⟨t, rfl⟩ := ry
  obtain ⟨its, r, pl, hz⟩ := I.tuple hq
  obtain ⟨j, h1, h2, h3, h4, h5⟩ := atI_get he
  obtain ⟨w, ew, rw'⟩ := r.get h2
  have hl := r.length
  have hn := line63
  have fin : EP X pins σ Q w s := ⟨z, H, I, rw', q⟩
  exact subscriptTail_builtinR (x := w) pl.typeIs slot_tuple_getitem.lookup
    (getItem_tuple (j := j) (Q := fun r s' => r = w ∧ EP X pins σ Q r s') pl (by omega) (by omega) (by rw [List.size_toArray, ← hl]; exact h1) (by simpa using ew) ⟨rfl, fin⟩) hs
theorem slice_bounds (lo hi : Option Int) (n : Nat) : (sliceBounds lo hi none n).1 = ((HT.sIx n 0 lo : Nat) : Int) ∧ (sliceBounds lo hi none n).2.1 = ((HT.sIx n n hi : Nat) : Int) ∧ (sliceBounds lo hi none n).2.2 = 1 := by
  refine ⟨?_, ?_, rfl⟩
  · cases lo with
    | none => simp [sliceBounds, HT.sIx]
    | some i =>
      simp only [sliceBounds, HT.sIx, Option.getD_none, show (1 : Int) > 0 by decide, if_true]
      by_cases h : i < 0
      · simp only [h, if_true] <;> omega
      · simp only [h, if_false] <;> omega
  · cases hi with
    | none => simp [sliceBounds, HT.sIx]
    | some i =>
      simp only [sliceBounds, HT.sIx, Option.getD_none, show (1 : Int) > 0 by decide, if_true]
      by_cases h : i < 0
      · simp only [h, if_true] <;> omega
      · simp only [h, if_false] <;> omega
theorem slicePick_cut (its : List Value) (lo hi : Option Int) : slicePick its.toArray lo hi none = ((its.drop (HT.sIx its.length 0 lo)).take (HT.sIx its.length its.length hi - HT.sIx its.length 0 lo)).toArray := by
  obtain ⟨h1, h2, h3⟩ := slice_bounds lo hi its.toArray.size
  unfold slicePick
  rw [h1, h2, h3]
  simp only [sliceRange_one, pick_run, List.size_toArray] <;> rfl
/-- xs[lo:hi] of a list: a new list -/
def rSlL (K : PySem.W.Frag) : V → Option Int → Option Int → Hp → VK → Prop := fun x lo hi H Q => ∃ a xs, x = .ref a ∧ SqL K H a xs ∧ ∀ p, H p = none → Q (.ref p) (upd H p (.lst (cutV xs lo hi)))
theorem sl_list : SlR X (rSlL X.K) := by
  intro pins s σ H x v vl vu lo hi sl Q I rx hs pl pu h
  obtain ⟨a, xs, rfl, hx, q⟩ := h
  cases rx
  obtain ⟨its, r, ht, hz⟩ := I.list hx
  have hlen := r.length
  refine ⟨"list", _, slot_list_getitem.lookup, ht.isList.typeIs, ?_⟩
  refine wpAny_getItem_list_slice ht.isList hs pl pu .none (by simp) ?_ (by rw [List.size_toArray] <;> omega)
  rw [slicePick_cut, ← hlen]
  refine ⟨.ref s.heap.objs.size, _, I.laid (t' := s.toks) (o := .lst (cutV xs lo hi)) (fun b ob q => Heap.get?_push_of_some _ q) (Nat.le_refl _) ?_, rfl, q _ (I.hok.fresh (Nat.le_refl _))⟩
  exact ⟨Nat.le_trans (cutV_length xs lo hi) hz, _, 0, (r.drop (HT.sIx xs.length 0 lo)).take (HT.sIx xs.length xs.length hi - HT.sIx xs.length 0 lo), Heap.get?_push_size _ rfl⟩
theorem call_len_seq : CallR X (.builtin "len") (fun xs H Q => ∃ p ys, xs = [.ref p] ∧ (SqL X.K H p ys ∨ SqT X.K H p ys) ∧ Q (.int ys.length) H) := by
  intro pins s σ H xs us Q I r h
  obtain ⟨p, ys, rfl, hq, q⟩ := h
  obtain ⟨u, rfl, rx⟩ := vals1 r
  cases rx
  have hn := line63
  rcases hq with hq | hq
  · obtain ⟨its, r', pl, hz⟩ := I.list hq
    have hlen := r'.length
    exact Calls.call_len_list pl.isList (by simp only [List.size_toArray] <;> omega) ⟨.int ys.length, H, I.tok _, ⟨s.toks + 1, by rw [List.size_toArray, hlen]⟩, q⟩
  · obtain ⟨its, r', pl, hz⟩ := I.tuple hq
    have hlen := r'.length
    exact len_tuple pl (by simp only [List.size_toArray] <;> omega) ⟨.int ys.length, H, I.tok _, ⟨s.toks + 1, by rw [List.size_toArray, hlen]⟩, q⟩
theorem call_list_of : CallR X (.type "list") (fun xs H Q => ∃ p ys, xs = [.ref p] ∧ (SqL X.K H p ys ∨ SqT X.K H p ys) ∧ ∀ l, H l = none → Q (.ref l) (upd H l (.lst ys))) := by
  intro pins s σ H xs us Q I r h
  obtain ⟨p, ys, rfl, hq, q⟩ := h
  obtain ⟨u, rfl, rx⟩ := vals1 r
  cases rx
  have fin : ∀ (its : List Value), Vals ys its → ys.length ≤ sizeLine → ∀ (h' : Heap) (c' : Nat), (∀ b o', s.heap.get? b = some o' → h'.get? b = some o') →
      h'.get? s.heap.objs.size = some { cls := .type "list", dict := none, data := .seq its.toArray c', slots := #[] } → EP X pins σ Q (.ref s.heap.objs.size) { s with heap := h' } := fun its r' hz h' c' kp e =>
    ⟨.ref s.heap.objs.size, _, I.laid (t' := s.toks) kp (Nat.le_refl _) (show ObjOk X.prog X.w _ h' _ (.lst ys) from ⟨hz, its, c', r', e⟩), rfl, q _ (I.hok.fresh (Nat.le_refl _))⟩
  rcases hq with hq | hq
  · obtain ⟨its, r', pl, hz⟩ := I.list hq
    have hlen := r'.length
    obtain ⟨o, ho, hc, n, hd⟩ := pl.isList
    exact call_list_seq p (.inl rfl) ho hc hd (fun h' c' kp e => fin its r' hz h' c' kp e) (by simp only [List.size_toArray] <;> omega)
  · obtain ⟨its, r', pl, hz⟩ := I.tuple hq
    have hlen := r'.length
    obtain ⟨o, ho, hc, n, hd⟩ := pl
    exact call_list_seq p (.inr rfl) ho hc hd (fun h' c' kp e => fin its r' hz h' c' kp e) (by simp only [List.size_toArray] <;> omega)
/-- the value is of that builtin type -/
def tyV (K : PySem.W.Frag) (T : String) (x : V) (H : Hp) : Prop := match x with
  | .str _ => T = "str"
  | .int _ => T = "int"
  | .ref p => (T = "list" ∧ ∃ xs, SqL K H p xs) ∨ (T = "tuple" ∧ ∃ o, K.lookup p = some o ∧ o.cls = .type "tuple" ∧ o.dict = none) ∨
      (T = "dict" ∧ ((∃ kvs, H p = some (.dK kvs)) ∨ ∃ kvs, H p = some (.dT kvs))) ∨ (T = "set" ∧ ∃ S n, H p = some (.set S n))
  | _ => False
theorem tyV_is {pins : List (Addr × Obj)} {σ : St} {H : Hp} {s : Shared} {T : String} {x : V} {v : Value} (I : Inv X pins σ H s) (r : RelV x v) (ty : tyV X.K T x H) :
    s.TypeIs v T ∧ ∀ a, v = .ref a → ∃ ob, s.heap.get? a = some ob ∧ ob.dict = none := by
  cases x with
  | str z =>
    obtain ⟨t, rfl⟩ := r
    cases (show T = "str" from ty)
    exact ⟨typeIs_str s z t, fun _ e => nomatch e⟩
  | int i =>
    obtain ⟨t, rfl⟩ := r
    cases (show T = "int" from ty)
    exact ⟨typeIs_int s i t, fun _ e => nomatch e⟩
  | ref p =>
    cases r
    rcases ty with ⟨rfl, xs, hq⟩ | ⟨rfl, o, hk, hc, hd⟩ | ⟨rfl, hk⟩ | ⟨rfl, S, n, hk⟩
    · obtain ⟨its, _, pl, _⟩ := I.list hq
      refine ⟨pl.isList.typeIs, fun a e => ?_⟩
      cases e
      obtain ⟨o, n, e, c, hd, _⟩ := pl
      exact ⟨o, e, hd⟩
    · refine ⟨⟨o, I.kIn p o hk, hc⟩, fun a e => ?_⟩
      cases e
      exact ⟨o, I.kIn _ o hk, hd⟩
    · have z : ∃ o, s.heap.get? p = some o ∧ o.ExactDict := by
        rcases hk with ⟨kvs, hk⟩ | ⟨kvs, hk⟩
        · obtain ⟨_, _, _, _, o, _, _, e, ex, _⟩ := I.hok p _ hk
          exact ⟨o, e, ex⟩
        · obtain ⟨_, _, _, _, o, _, _, e, ex, _⟩ := I.hok p _ hk
          exact ⟨o, e, ex⟩
      obtain ⟨o, e, ex⟩ := z
      refine ⟨⟨o, e, ex.1⟩, fun a e2 => ?_⟩
      cases e2
      exact ⟨o, e, ex.2.1⟩
    · obtain ⟨o, _, _, _, e, ex, _⟩ := I.hok p _ hk
      refine ⟨⟨o, e, ex.1⟩, fun a e2 => ?_⟩
      cases e2
      exact ⟨o, e, ex.2.1⟩
  | _ => exact False.elim ty
def tBM0 (K : PySem.W.Frag) (T : String) (r : V → List V → Hp → VK → Prop) (to : TE) : TE := fun σ H Q => to σ H fun x H1 => tyV K T x H1 ∧ r x [] H1 Q
def tBM (K : PySem.W.Frag) (T : String) (r : V → List V → Hp → VK → Prop) (to : TE) (t : TA) : TE := fun σ H Q => to σ H fun x H1 => tyV K T x H1 ∧ t σ H1 fun xs H2 => r x xs H2 Q
variable {o e : Expr} {es : List Expr} {to : TE} {t : TA} {name : Str} {apos cpos : Pos} {T id : String} {r : V → List V → Hp → VK → Prop}
theorem pe_bm0 (pa : PlainAttrs T) (slot : Slot T name id) (hty : typeOf (.builtin id) = pure (.type "method_descriptor")) (hm : MtR X id r) (ho : PE X o to)
    (hbase : attributeBase o name X.env (eval o X.env) = eval o X.env := by rfl) (hline : (apos.endLine == cpos.line) = true := by rfl) : PE X (.Call (.Attribute o name apos) [] [] cpos) (tBM0 X.K T r to) := by
  intro pins s σ H Q I h
  refine wpAny_Call_method0_late hbase hline (thn (ho pins s σ H _ I h) fun v s1 ⟨x, H1, I1, r1, ty, q1⟩ => ?_)
  obtain ⟨h1, h2⟩ := tyV_is I1 r1 ty
  exact ⟨T, id, pa, slot, hty, h1, h2, Calls.callWith_builtin rfl (PySem.evalArgs_none (hm pins s1 σ H1 x [] v [] Q I1 r1 .nil q1))⟩
theorem pe_bm (pa : PlainAttrs T) (slot : Slot T name id) (hty : typeOf (.builtin id) = pure (.type "method_descriptor")) (hm : MtR X id r) (ho : PE X o to) (ha : PA X (e :: es) t)
    (hbase : attributeBase o name X.env (eval o X.env) = eval o X.env := by rfl)
    (hfew : ((backTo cpos (starEach (e :: es) X.env)).all (fun x => !x.1) && (backToKw cpos (keywordEach [] X.env)).all (fun x => x.1.isSome)
      && decide ((e :: es).length + ([] : List Keyword).length + (if ([] : List Keyword).isEmpty then 0 else 1) < 30)) = true := by rfl)
    (hline : (apos.endLine == cpos.line) = true := by rfl) (hs : starEach (e :: es) X.env = (false, eval e X.env) :: starEach es X.env := by rfl) (hplain : (backTo cpos (starEach es X.env)).any (·.1) = false := by rfl) :
    PE X (.Call (.Attribute o name apos) (e :: es) [] cpos) (tBM X.K T r to t) := by
  intro pins s σ H Q I h
  refine wpAny_Call_method_late hbase hfew hline rfl (thn (ho pins s σ H _ I h) fun v s1 ⟨x, H1, I1, r1, ty, q1⟩ => ?_)
  obtain ⟨h1, h2⟩ := tyV_is I1 r1 ty
  refine ⟨T, id, pa, slot, hty, h1, h2, ?_⟩
  have hA := ha cpos pins s1 σ H1 _ I1 q1
  rw [hs] at hA ⊢
  refine Calls.callWith_builtin (by show (false || (backTo cpos (starEach es X.env)).any (·.1)) = false; rw [hplain] <;> rfl) (Calls.evalArgs_plain ?_)
  exact thn hA fun us s2 ⟨vs, H2, I2, r2, q2⟩ => hm pins s2 σ H2 x vs v us Q I2 r1 r2 q2
/- xs.append(e), list.index on a module's tuple .. are MtR facts of 06m -/
end
end L2
namespace L2
open PySem PySem.Spec PyProof.Rows
def MtM (X : Cx) (id : String) (r : V → List V → Hp → VK → Prop) : Prop :=
  ∀ (pins : List (Addr × Obj)) (s : Shared) (σ : St) (H : Hp) (x : V) (xs : List V) (v : Value) (us : List Value) (Q : VK), Inv X pins σ H s → RelV x v → Vals xs us → r x xs H Q →
    wpAny (model X.prog X.w) X.A (call (.builtin id) (v :: us)) (EP X pins σ Q) X.xe s
theorem Vals.one : ∀ {x : V} {us : List Value}, Vals [x] us → ∃ u, us = [u] ∧ RelV x u
  | _, _, .cons r .nil => ⟨_, rfl, r⟩
theorem Vals.zero : ∀ {us : List Value}, Vals [] us → us = []
  | _, .nil => rfl
theorem Vals.reverse {xs : List V} {us : List Value} (h : Vals xs us) : Vals xs.reverse us.reverse := by
  induction h with
  | nil => exact .nil
  | cons r t ih => rw [List.reverse_cons, List.reverse_cons]; exact Vals.append ih (.cons r .nil)
section
variable {X : Cx} {pins : List (Addr × Obj)} {σ : St} {H : Hp} {s : Shared} {l b : Addr} {xs ys zs : List V}
theorem Inv.lset {its its' : List Value} {n : Nat} {f : Array Value → Array Value} {t' : Nat} (I : Inv X pins σ H s) (hH : H l = some (.lst xs))
    (e : s.heap.get? l = some { cls := .type "list", data := .seq its.toArray n }) (hf : f its.toArray = its'.toArray) (hv : Vals ys its') (hz : ys.length ≤ sizeLine) :
    Inv X pins σ (upd H l (.lst ys)) { s with heap := s.heap.update l (Obj.mapSeq f), toks := t' } := by
  have q := PySem.IsL.update e f
  rw [hf] at q
  refine I.write (x := l) (e := l) (by rw [hH]; exact trivial) (.inl rfl) (fun b' u hb hu => (Heap.get?_update_other s.heap (Obj.mapSeq f) (Ne.symm hb)).trans hu) ⟨_, q⟩ ?_
  exact ⟨hz, its', _, hv, q⟩
theorem Inv.lnew {its : List Value} {t' : Nat} (I : Inv X pins σ H s) (hv : Vals ys its) (hz : ys.length ≤ sizeLine) :
    Inv X pins σ (upd H s.heap.objs.size (.lst ys)) { s with heap := s.heap.push { cls := .type "list", data := .seq its.toArray }, toks := t' } :=
  I.laid (fun _ _ q => Heap.get?_push_of_some _ q) (Nat.le_refl _) ⟨hz, its, 0, hv, Heap.get?_push_size _ rfl⟩
theorem Inv.fresh (I : Inv X pins σ H s) : H s.heap.objs.size = none := I.hok.fresh (Nat.le_refl _)
theorem Inv.lstM (I : Inv X pins σ H s) (hH : H l = some (.lst xs)) : xs.length ≤ sizeLine ∧ ∃ (its : List Value) (n : Nat), Vals xs its ∧ xs.length = its.length ∧ s.heap.get? l = some { cls := .type "list", data := .seq its.toArray n } := by
  obtain ⟨z, its, n, r, e⟩ := I.hok l _ hH
  exact ⟨z, its, n, r, r.length, e⟩
theorem notLongL {n : Nat} (h : n ≤ sizeLine) : Builtin.List.listTooLong n = false := by
  unfold Builtin.List.listTooLong
  exact decide_eq_false (by omega)
end
section
variable {X : Cx}
def rAppend : V → List V → Hp → VK → Prop := fun x vs H Q => ∃ l xs y, x = .ref l ∧ vs = [y] ∧ H l = some (.lst xs) ∧ xs.length < sizeLine ∧ Q .non (upd H l (.lst (xs ++ [y])))
theorem mt_append : MtM X "list.append" rAppend := by
  intro pins s σ H x vs v us Q I rx rv h
  obtain ⟨l, xs, y, rfl, rfl, hH, hz, q⟩ := h
  cases rx
  obtain ⟨u, rfl, ru⟩ := rv.one
  obtain ⟨z, its, n, r, hl, e⟩ := I.lstM hH
  refine call_meets F.slot_list_append ⟨_, e, rfl⟩ F.entry_list_append (F.args_list_append_2 _ _) (PySem.list_append l its.toArray n u (by rw [List.size_toArray]; omega)) ⟨e, ?_⟩
  refine ⟨.non, _, I.lset (its' := its ++ [u]) hH e (by simp) (r.append (.cons ru .nil)) ?_, rfl, q⟩
  rw [List.length_append, List.length_singleton]
  omega
def rExtend : V → List V → Hp → VK → Prop := fun x vs H Q => ∃ l b xs zs, x = .ref l ∧ vs = [.ref b] ∧ H l = some (.lst xs) ∧ H b = some (.lst zs) ∧ xs.length + zs.length ≤ sizeLine ∧ Q .non (upd H l (.lst (xs ++ zs)))
theorem mt_extend : MtM X "list.extend" rExtend := by
  intro pins s σ H x vs v us Q I rx rv h
  obtain ⟨l, b, xs, zs, rfl, rfl, hH, hB, hz, q⟩ := h
  cases rx
  obtain ⟨u, rfl, ru⟩ := rv.one
  cases ru
  obtain ⟨z, its, n, r, hl, e⟩ := I.lstM hH
  obtain ⟨z2, its2, n2, r2, hl2, e2⟩ := I.lstM hB
  have hsz : its.toArray.size + its2.toArray.size ≤ sizeLine := by rw [List.size_toArray, List.size_toArray]; omega
  have hlong : ¬ (!its.toArray.isEmpty && Builtin.List.listTooLong (its.toArray.size + its2.toArray.size)) = true := by
    rw [notLongL hsz, Bool.and_false]
    exact Bool.false_ne_true
  refine call_meets F.slot_list_extend ⟨_, e, rfl⟩ F.entry_list_extend (F.args_list_extend_2 _ _)
    (AutoSeq1.list_extend_list_list_0 l its.toArray n b its2.toArray n2 hlong (by rw [List.size_toArray]; omega) (by omega)) ⟨e, e2, ?_⟩
  refine ⟨.non, _, I.lset (its' := its ++ its2) hH e (by simp) (r.append r2) ?_, rfl, q⟩
  rw [List.length_append]
  omega
def rReverse : V → List V → Hp → VK → Prop := fun x vs H Q => ∃ l xs, x = .ref l ∧ vs = [] ∧ H l = some (.lst xs) ∧ Q .non (upd H l (.lst xs.reverse))
theorem mt_reverse : MtM X "list.reverse" rReverse := by
  intro pins s σ H x vs v us Q I rx rv h
  obtain ⟨l, xs, rfl, rfl, hH, q⟩ := h
  cases rx
  have hus := rv.zero
  subst hus
  obtain ⟨z, its, n, r, hl, e⟩ := I.lstM hH
  refine call_meets F.slot_list_reverse ⟨_, e, rfl⟩ F.entry_list_reverse (F.args_list_reverse_1 _) (AutoSeq1.list_reverse_list_0 l its.toArray n (by rw [List.size_toArray]; omega)) ⟨e, ?_⟩
  refine ⟨.non, _, I.lset (its' := its.reverse) hH e (by simp) r.reverse ?_, rfl, q⟩
  rw [List.length_reverse]
  omega
def rCat : R2 := fun x y H Q => ∃ l b xs zs, x = .ref l ∧ y = .ref b ∧ H l = some (.lst xs) ∧ H b = some (.lst zs) ∧ xs.length + zs.length ≤ sizeLine ∧ ∀ p, H p = none → Q (.ref p) (upd H p (.lst (xs ++ zs)))
theorem op_cat : OpR X (binaryOp .Add) rCat := by
  intro pins s σ H x y v u Q I rx ry h
  obtain ⟨l, b, xs, zs, rfl, rfl, hH, hB, hz, q⟩ := h
  cases rx
  cases ry
  obtain ⟨z, its, n, r, hl, e⟩ := I.lstM hH
  obtain ⟨z2, its2, n2, r2, hl2, e2⟩ := I.lstM hB
  refine PySem.P.add_list e e2 ?_ (by rw [List.size_toArray, List.size_toArray]; omega)
  have ea : its.toArray ++ its2.toArray = (its ++ its2).toArray := by simp
  rw [ea]
  exact ⟨.ref _, _, I.lnew (t' := s.toks) (r.append r2) (by rw [List.length_append]; omega), rfl, q _ I.fresh⟩
end
end L2
namespace L2
open PySem PySem.Spec PyProof.Rows
theorem Vals.ints : ∀ {ns : List Int} {us : List Value}, Vals (ns.map V.int) us → IntsAre us ns
  | [], us, h => by
    rw [List.map_nil] at h
    cases h
    exact IntsAre.nil
  | n :: ns, us, h => by
    rw [List.map_cons] at h
    cases h with
    | cons r t =>
      obtain ⟨k, rfl⟩ := r
      exact IntsAre.cons n k (Vals.ints t)
end L2
namespace L2
open PySem PySem.Spec PyProof.Rows
end L2
namespace L2
open PySem PySem.Spec PyProof.Rows
end L2
namespace L2
open PySem PySem.Spec PyProof.Rows
section
variable {κ : Type} [DecidableEq κ]
def valV (kvs : List (κ × V)) (k : κ) : Option V := (kvs.find? fun kv => decide (kv.1 = k)).map (·.2)
/-- in its place, or at the end -/
def putK (kvs : List (κ × V)) (k : κ) (v : V) : List (κ × V) :=
  if (kvs.any fun kv => decide (kv.1 = k)) = true then kvs.map (fun kv => if kv.1 = k then (kv.1, v) else kv) else kvs ++ [(k, v)]
def dropK (kvs : List (κ × V)) (k : κ) : List (κ × V) := kvs.filter fun kv => decide (kv.1 ≠ k)
theorem valV_pos {p : κ × V} {r : List (κ × V)} {k : κ} (e : p.1 = k) : valV (p :: r) k = some p.2 := by simp [valV, List.find?_cons, e]
theorem valV_neg {p : κ × V} {r : List (κ × V)} {k : κ} (e : ¬ p.1 = k) : valV (p :: r) k = valV r k := by simp [valV, List.find?_cons, e]
theorem valV_any (k : κ) : ∀ kvs : List (κ × V), (kvs.any fun kv => decide (kv.1 = k)) = (valV kvs k).isSome
  | [] => rfl
  | p :: r => by
    rw [List.any_cons]
    by_cases e : p.1 = k
    · simp only [valV_pos e, decide_eq_true e, Bool.true_or, Option.isSome_some]
    · rw [valV_neg e, decide_eq_false e, Bool.false_or]; exact valV_any k r
theorem valV_map (k j : κ) (y : V) : ∀ kvs : List (κ × V), valV (kvs.map fun kv => if kv.1 = k then (kv.1, y) else kv) j = (valV kvs j).map fun x => if j = k then y else x
  | [] => rfl
  | p :: r => by
    have ih := valV_map k j y r
    rw [List.map_cons]
    by_cases h : p.1 = k
    · rw [if_pos h]
      by_cases e : p.1 = j
      · rw [valV_pos (p := (p.1, y)) e, valV_pos e, Option.map_some, if_pos (e.symm.trans h)]
      · rw [valV_neg (p := (p.1, y)) e, valV_neg e, ih]
    · rw [if_neg h]
      by_cases e : p.1 = j
      · rw [valV_pos (p := p) e, valV_pos e, Option.map_some, if_neg (fun z => h (e.trans z))]
      · rw [valV_neg (p := p) e, valV_neg e, ih]
theorem valV_snoc (k j : κ) (y : V) : ∀ kvs : List (κ × V), valV kvs k = none → valV (kvs ++ [(k, y)]) j = if j = k then some y else valV kvs j
  | [], _ => by
    by_cases e : k = j
    · rw [if_pos e.symm]; exact valV_pos (p := (k, y)) e
    · rw [if_neg (fun z => e z.symm)]; exact valV_neg (p := (k, y)) e
  | p :: r, hn => by
    rw [List.cons_append]
    have hk : ¬ p.1 = k := fun z => by rw [valV_pos z] at hn; cases hn
    rw [valV_neg hk] at hn
    have ih := valV_snoc k j y r hn
    by_cases e : p.1 = j
    · rw [valV_pos e, valV_pos e, if_neg (fun z => hk (e.trans z))]
    · rw [valV_neg e, valV_neg e, ih]
theorem valV_put (kvs : List (κ × V)) (k j : κ) (y : V) : valV (putK kvs k y) j = if j = k then some y else valV kvs j := by
  unfold putK
  by_cases a : (kvs.any fun kv => decide (kv.1 = k)) = true
  · rw [if_pos a, valV_map]
    rw [valV_any] at a
    by_cases e : j = k
    · obtain ⟨x, hx⟩ := Option.isSome_iff_exists.mp a
      rw [if_pos e, e, hx, Option.map_some, if_pos rfl]
    · rw [if_neg e]
      cases valV kvs j with
      | none => rfl
      | some x => rw [Option.map_some, if_neg e]
  · rw [if_neg a]
    refine valV_snoc k j y kvs ?_
    rw [valV_any] at a
    cases q : valV kvs k with
    | none => rfl
    | some x => rw [q] at a; exact (a rfl).elim
theorem length_putK (kvs : List (κ × V)) (k : κ) (v : V) : (putK kvs k v).length ≤ kvs.length + 1 := by
  unfold putK
  split
  · rw [List.length_map]; omega
  · rw [List.length_append, List.length_cons, List.length_nil]; omega
theorem putK_new {kvs : List (κ × V)} {k : κ} (v : V) (h : valV kvs k = none) : putK kvs k v = kvs ++ [(k, v)] := by
  unfold putK
  rw [valV_any, h]
  exact if_neg (by decide)
theorem RelO.isSome_eq {o : Option V} {u : Option Value} (r : RelO o u) : o.isSome = u.isSome := by
  cases o with
  | none => cases u with
    | none => rfl
    | some _ => exact (show False from r).elim
  | some _ => cases u with
    | none => exact (show False from r).elim
    | some _ => rfl
theorem RelO.getD {o : Option V} {u : Option Value} {d : V} {d' : Value} (r : RelO o u) (rd : RelV d d') : RelV (o.getD d) (u.getD d') := by
  cases o with
  | none => cases u with
    | none => exact rd
    | some _ => exact (show False from r).elim
  | some _ => cases u with
    | none => exact (show False from r).elim
    | some _ => exact r
/-- raw tables of the same keys -/
theorem KV.val {kvs : List (κ × V)} {vs : List (κ × Value)} (r : KV kvs vs) (k : κ) : RelO (valV kvs k) (valueAt vs k) := by
  unfold KV at r
  induction r with
  | nil => exact True.intro
  | @cons p q ps qs h t ih =>
    obtain ⟨h1, h2⟩ := h
    by_cases e : p.1 = k
    · have e' : q.1 = k := h1.symm.trans e
      have b : valueAt (q :: qs) k = some q.2 := by simp [valueAt, List.find?_cons, e']
      rw [valV_pos e, b]; exact h2
    · have e' : ¬ q.1 = k := fun z => e (h1.trans z)
      have b : valueAt (q :: qs) k = valueAt qs k := by simp [valueAt, List.find?_cons, e']
      rw [valV_neg e, b]; exact ih
theorem KV.any {kvs : List (κ × V)} {vs : List (κ × Value)} (r : KV kvs vs) (k : κ) : (kvs.any fun kv => decide (kv.1 = k)) = vs.any fun kv => decide (kv.1 = k) := by
  unfold KV at r
  induction r with
  | nil => rfl
  | cons h t ih => rw [List.any_cons, List.any_cons, ih, h.1]
theorem KV.repl {kvs : List (κ × V)} {vs : List (κ × Value)} (r : KV kvs vs) (k : κ) {y : V} {u : Value} (ry : RelV y u) :
    KV (kvs.map fun kv => if kv.1 = k then (kv.1, y) else kv) (vs.map fun kv => if kv.1 = k then (kv.1, u) else kv) := by
  unfold KV at r ⊢
  induction r with
  | nil => exact .nil
  | @cons p q ps qs h t ih =>
    rw [List.map_cons, List.map_cons]
    refine .cons ?_ ih
    obtain ⟨h1, h2⟩ := h
    by_cases e : p.1 = k
    · rw [if_pos e, if_pos (h1.symm.trans e)]; exact ⟨h1, ry⟩
    · rw [if_neg e, if_neg (fun z => e (h1.trans z))]; exact ⟨h1, h2⟩
theorem KV.put {kvs : List (κ × V)} {vs : List (κ × Value)} (r : KV kvs vs) (k : κ) {y : V} {u : Value} (ry : RelV y u) : KV (putK kvs k y) (stored vs k u) := by
  unfold putK stored
  rw [r.any k]
  by_cases e : (vs.any fun kv => decide (kv.1 = k)) = true
  · rw [if_pos e, if_pos e]; exact r.repl k ry
  · rw [if_neg e, if_neg e]; exact Paired.snoc r ⟨rfl, ry⟩
theorem KV.drop {kvs : List (κ × V)} {vs : List (κ × Value)} (r : KV kvs vs) (k : κ) : KV (dropK kvs k) (without vs k) := by
  unfold KV at r ⊢
  unfold dropK without
  induction r with
  | nil => exact .nil
  | @cons p q ps qs h t ih =>
    obtain ⟨h1, h2⟩ := h
    rw [List.filter_cons, List.filter_cons]
    by_cases e : p.1 = k
    · have a : ¬ decide (p.1 ≠ k) = true := by simp [e]
      have b : ¬ decide (q.1 ≠ k) = true := by simp [h1.symm.trans e]
      rw [if_neg a, if_neg b]; exact ih
    · have e' : ¬ q.1 = k := fun z => e (h1.trans z)
      have a : decide (p.1 ≠ k) = true := by simp [e]
      have b : decide (q.1 ≠ k) = true := by simp [e']
      rw [if_pos a, if_pos b]; exact .cons ⟨h1, h2⟩ ih
theorem KV.length {kvs : List (κ × V)} {vs : List (κ × Value)} (r : KV kvs vs) : kvs.length = vs.length := Paired.length r
theorem dropK_le (kvs : List (κ × V)) (k : κ) : (dropK kvs k).length ≤ kvs.length := List.length_filter_le _ _
end
theorem kV_is {P : Program} {w : World} {k : Key} {u : Value} (r : RelV (kV k) u) : (mixKind P w).is k u = true := by
  cases k with
  | inl i => obtain ⟨t, e⟩ := (show ∃ t, u = Value.int i t from r); subst e; exact mixKind_int P w i t
  | inr x => obtain ⟨t, e⟩ := (show ∃ t, u = Value.str x t from r); subst e; exact mixKind_str P w x t
theorem items_are {P : Program} {w : World} : ∀ {ks : List Key} {us : List Value}, Vals (ks.map kV) us → ItemsAre (mixKind P w) ks us
  | [], _, r => by rw [List.map_nil] at r; cases r; exact .nil
  | k :: ks, _, r => by
    rw [List.map_cons] at r
    cases r with
    | cons h t => exact .cons (kV_is h) (items_are t)
/-- raw entries of a dict with tuple keys -/
abbrev KT (H : Hp) : List (List Key × V) → List (List Key × Addr × Value) → Prop := Paired fun p q => p.1 = q.1 ∧ H q.2.1 = some (.tup (p.1.map kV)) ∧ RelV p.2 q.2.2
theorem KT.val {H : Hp} {kvs : List (List Key × V)} {xs : List (List Key × Addr × Value)} (r : KT H kvs xs) (k : List Key) : RelO (valV kvs k) ((atKey xs k).map (·.2)) := by
  induction r with
  | nil => exact True.intro
  | @cons p q ps qs h t ih =>
    obtain ⟨h1, _, h2⟩ := h
    by_cases e : p.1 = k
    · have e' : q.1 = k := h1.symm.trans e
      have b : atKey (q :: qs) k = some q.2 := by simp [atKey, List.find?_cons, e']
      rw [valV_pos e, b]; exact h2
    · have e' : ¬ q.1 = k := fun z => e (h1.trans z)
      have b : atKey (q :: qs) k = atKey qs k := by simp [atKey, List.find?_cons, e']
      rw [valV_neg e, b]; exact ih
theorem KT.repl {H : Hp} {kvs : List (List Key × V)} {xs : List (List Key × Addr × Value)} (r : KT H kvs xs) (k : List Key) {y : V} {u : Value} (ry : RelV y u) :
    KT H (kvs.map fun kv => if kv.1 = k then (kv.1, y) else kv) (xs.map (putAt k u)) := by
  induction r with
  | nil => exact .nil
  | @cons p q ps qs h t ih =>
    rw [List.map_cons, List.map_cons]
    refine .cons ?_ ih
    obtain ⟨h1, h2, h3⟩ := h
    unfold putAt
    by_cases e : p.1 = k
    · rw [if_pos e, if_pos (h1.symm.trans e)]; exact ⟨h1, h2, ry⟩
    · rw [if_neg e, if_neg (fun z => e (h1.trans z))]; exact ⟨h1, h2, h3⟩
theorem KT.put {H : Hp} {kvs : List (List Key × V)} {xs : List (List Key × Addr × Value)} (r : KT H kvs xs) (k : List Key) {b : Addr} {y : V} {u : Value} (hb : H b = some (.tup (k.map kV))) (ry : RelV y u) :
    KT H (putK kvs k y) (storedH xs k b u) := by
  have e : (kvs.any fun kv => decide (kv.1 = k)) = (atKey xs k).isSome := by
    rw [valV_any, (r.val k).isSome_eq, Option.isSome_map]
  unfold putK storedH
  rw [e]
  by_cases q : (atKey xs k).isSome = true
  · rw [if_pos q, if_pos q]; exact r.repl k ry
  · rw [if_neg q, if_neg q]; exact Paired.snoc r ⟨rfl, hb, ry⟩
theorem KT.keeps {H H' : Hp} {kvs : List (List Key × V)} {xs : List (List Key × Addr × Value)} (r : KT H kvs xs) (ht : ∀ b ys, H b = some (.tup ys) → H' b = some (.tup ys)) : KT H' kvs xs :=
  Paired.mapP r fun _ _ z => ⟨z.1, ht _ _ z.2.1, z.2.2⟩
section
variable {P : Program} {w : World} {H : Hp} {h : Heap} {a : Addr}
theorem rd_of {u : HO} (ok : HOk P w H h) (e : Rd H a u) : ObjOk P w H h a u := e.ok ok
theorem dk_rd {kvs : List (Key × V)} (ok : HOk P w H h) (e : Rd H a (.dK kvs)) : kvs.length ≤ sizeLine ∧ (a == sysModules) = false ∧ ∃ vs, KV kvs vs ∧ h.DictOf (mixKind P w) a vs :=
  show ObjOk P w H h a (.dK kvs) from rd_of ok e
theorem dk_of {kvs : List (Key × V)} (ok : HOk P w H h) (e : H a = some (.dK kvs)) : kvs.length ≤ sizeLine ∧ (a == sysModules) = false ∧ ∃ vs, KV kvs vs ∧ h.DictOf (mixKind P w) a vs := dk_rd ok (.inl e)
/-- a tracked tuple of ints and texts is a key -/
theorem key_of {ks : List Key} (ok : HOk P w H h) (e : H a = some (.tup (ks.map kV))) : (tupleKind (mixKind P w)).is h ks a := by
  obtain ⟨_, its, r, o, h1, h2, n, h3⟩ := (show ObjOk P w H h a (.tup (ks.map kV)) from ok a _ e)
  exact ⟨o, its.toArray, n, h1, h2, h3, by simpa using items_are r⟩
theorem dt_rd {kvs : List (List Key × V)} (ok : HOk P w H h) (e : Rd H a (.dT kvs)) : kvs.length ≤ sizeLine ∧ (a == sysModules) = false ∧
    ∃ xs, KT H kvs xs ∧ h.DictOfH (tupleKind (mixKind P w)) a xs := by
  obtain ⟨z, y, xs, r, o, es, ep, h1, h2, h3, h4, h5⟩ := (show ObjOk P w H h a (.dT kvs) from rd_of ok e)
  refine ⟨z, y, xs, r, o, es, ep, h1, h2, h3, h4, fun x hx => ?_, h5⟩
  have all : ∀ {l : List (List Key × V)} {m : List (List Key × Addr × Value)}, KT H l m → ∀ x ∈ m, (tupleKind (mixKind P w)).is h x.1 x.2.1 := by
    intro l m q
    induction q with
    | nil => intro x hx; exact nomatch hx
    | @cons p q ps qs hq t ih =>
      intro x hx
      rcases List.mem_cons.mp hx with e | hx
      · subst e
        exact key_of ok (by rw [← hq.1]; exact hq.2.1)
      · exact ih x hx
  exact all r x hx
theorem dt_of {kvs : List (List Key × V)} (ok : HOk P w H h) (e : H a = some (.dT kvs)) : kvs.length ≤ sizeLine ∧ (a == sysModules) = false ∧
    ∃ xs, KT H kvs xs ∧ h.DictOfH (tupleKind (mixKind P w)) a xs := dt_rd ok (.inl e)
end
/-- what the dict at a holds at the key y -/
def DGet (H : Hp) (a : Addr) (y : V) (r : Option V) : Prop :=
  (∃ kvs k, Rd H a (.dK kvs) ∧ y = kV k ∧ r = valV kvs k) ∨ ∃ kvs k b, Rd H a (.dT kvs) ∧ y = .ref b ∧ H b = some (.tup (k.map kV)) ∧ r = valV kvs k
/-- the heap behind a[y] = v -/
def DPut (H : Hp) (a : Addr) (y v : V) (H' : Hp) : Prop :=
  (∃ kvs k, H a = some (.dK kvs) ∧ y = kV k ∧ kvs.length < sizeLine ∧ H' = upd H a (.dK (putK kvs k v))) ∨
  ∃ kvs k b, H a = some (.dT kvs) ∧ y = .ref b ∧ H b = some (.tup (k.map kV)) ∧ kvs.length < sizeLine ∧ H' = upd H a (.dT (putK kvs k v))
theorem DGet.k {H : Hp} {a : Addr} {kvs : List (Key × V)} {k : Key} (e : H a = some (.dK kvs)) : DGet H a (kV k) (valV kvs k) := .inl ⟨kvs, k, .inl e, rfl, rfl⟩
theorem DGet.t {H : Hp} {a b : Addr} {kvs : List (List Key × V)} {k : List Key} (e : H a = some (.dT kvs)) (eb : H b = some (.tup (k.map kV))) : DGet H a (.ref b) (valV kvs k) := .inr ⟨kvs, k, b, .inl e, rfl, eb, rfl⟩
theorem DPut.k {H : Hp} {a : Addr} {kvs : List (Key × V)} {k : Key} {v : V} (e : H a = some (.dK kvs)) (hl : kvs.length < sizeLine) : DPut H a (kV k) v (upd H a (.dK (putK kvs k v))) := .inl ⟨kvs, k, e, rfl, hl, rfl⟩
theorem DPut.t {H : Hp} {a b : Addr} {kvs : List (List Key × V)} {k : List Key} {v : V} (e : H a = some (.dT kvs)) (eb : H b = some (.tup (k.map kV))) (hl : kvs.length < sizeLine) :
    DPut H a (.ref b) v (upd H a (.dT (putK kvs k v))) := .inr ⟨kvs, k, b, e, rfl, eb, hl, rfl⟩
section
variable {X : Cx} {pins : List (Addr × Obj)} {σ : St} {H : Hp} {s : Shared} {a : Addr} {y v : V} {u r : Value} {o : Option V} {A : Around} {E : Value → Shared → Prop}
theorem Inv.big (I : Inv X pins σ H s) : sysModules < s.heap.objs.size := by
  have h : mainGlobals < s.heap.objs.size := (I.mod.glob.keeps I.bk).lt
  exact Nat.lt_trans (by decide) h
/-- d[y], there -/
theorem d_getItem {Q : Value → Shared → Prop} (hu : A.units + 1 < cLine) (I : Inv X pins σ H s) (g : DGet H a y (some v)) (ry : RelV y u) (h : ∀ w' s', Inv X pins σ H s' → RelV v w' → Q w' s') :
    wpAny (model X.prog X.w) A (getItem (.ref a) u) Q E s := by
  rcases g with ⟨kvs, k, e, ey, l⟩ | ⟨kvs, k, b, e, ey, eb, l⟩
  · subst ey
    obtain ⟨z, hd, vs, rel, dd⟩ := dk_rd I.hok e
    obtain ⟨w', hw, rw'⟩ := RelO.some_of (v := v) (o := valueAt vs k) (by rw [l]; exact rel.val k)
    exact wpAny_getItem_of (kV_is ry) dd.mapOf hw (h w' _ (I.tok _) rw')
  · subst ey
    cases (show u = Value.ref b from ry)
    obtain ⟨z, hd, xs, rel, dd⟩ := dt_rd I.hok e
    obtain ⟨w', hw, rw'⟩ := RelO.some_of (v := v) (o := (atKey xs k).map (·.2)) (by rw [l]; exact rel.val k)
    obtain ⟨p, hp, hp2⟩ := Option.map_eq_some_iff.mp hw
    refine wpAny_getItem_heap (tupleKind_room_in1 hu) (key_of I.hok eb) dd hp ?_
    rw [hp2]
    exact h w' _ (I.tok _) rw'
/-- y in d -/
theorem d_in {Q : Value → Shared → Prop} (hu : A.units + 1 < cLine) (I : Inv X pins σ H s) (g : DGet H a y o) (ry : RelV y u) (h : ∀ s', Inv X pins σ H s' → Q (.bool o.isSome) s') :
    wpAny (model X.prog X.w) A (compareOp .In u (.ref a)) Q E s := by
  rcases g with ⟨kvs, k, e, ey, l⟩ | ⟨kvs, k, b, e, ey, eb, l⟩
  · subst ey
    obtain ⟨z, hd, vs, rel, dd⟩ := dk_rd I.hok e
    refine wpAny_in_of (kV_is ry) hd dd.mapOf ?_
    rw [← (rel.val k).isSome_eq, ← l]
    exact h _ (I.tok _)
  · subst ey
    cases (show u = Value.ref b from ry)
    obtain ⟨z, hd, xs, rel, dd⟩ := dt_rd I.hok e
    refine wpAny_in_heap (tupleKind_room_in1 hu) (key_of I.hok eb) hd dd ?_
    have q := (rel.val k).isSome_eq
    rw [Option.isSome_map] at q
    rw [← q, ← l]
    exact h _ (I.tok _)
/-- a dict's object is replaced -/
theorem d_write {h' : Heap} {t' : Nat} {ob : HO} (I : Inv X pins σ H s) (mu : Mut (H a)) (hs : Heap.SameBut a s.heap h') (he : ∃ q, h'.get? a = some q) (new : ObjOk X.prog X.w (upd H a ob) h' a ob) :
    Inv X pins σ (upd H a ob) { s with heap := h', toks := t' } :=
  I.write (x := a) (e := a) mu (.inl rfl) (fun b q hb z => (hs.2 b hb).trans z) he new
theorem dk_new {P : Program} {w : World} {H' : Hp} {h' : Heap} {kvs : List (Key × V)} {vs : List (Key × Value)} (z : kvs.length ≤ sizeLine) (hd : (a == sysModules) = false) (rel : KV kvs vs) (dd : h'.DictOf (mixKind P w) a vs) :
    ObjOk P w H' h' a (.dK kvs) := ⟨z, hd, vs, rel, dd⟩
/-- d[y] = v -/
theorem d_setItem {H' : Hp} {Q : Unit → Shared → Prop} (hu : A.units + 1 < cLine) (I : Inv X pins σ H s) (g : DPut H a y v H') (ry : RelV y u) (rv : RelV v r) (h : ∀ s', Inv X pins σ H' s' → Q () s') :
    wpAny (model X.prog X.w) A (setItem (.ref a) u r) Q E s := by
  rcases g with ⟨kvs, k, e, ey, l, eH⟩ | ⟨kvs, k, b, e, ey, eb, l, eH⟩
  · subst ey eH
    obtain ⟨z, hd, vs, rel, dd⟩ := dk_of I.hok e
    have hz : vs.length ≤ sizeLine := by rw [← rel.length]; exact z
    have hl : (putK kvs k v).length ≤ sizeLine := by have := length_putK kvs k v; omega
    refine wpAny_setItem_pairs (hsz := hz) (kV_is ry) dd fun h' dd' hs => h _ ?_
    have he : ∃ q, h'.get? a = some q := let ⟨q, _, _, hq, _⟩ := dd'; ⟨q, hq⟩
    exact d_write I (by rw [e]; exact True.intro) hs he (dk_new hl hd (rel.put k rv) dd')
  · subst ey eH
    cases (show u = Value.ref b from ry)
    obtain ⟨z, hd, xs, rel, dd⟩ := dt_of I.hok e
    have hz : xs.length ≤ sizeLine := by rw [← Paired.length rel]; exact z
    have hl : (putK kvs k v).length ≤ sizeLine := by have := length_putK kvs k v; omega
    refine wpAny_setItem_heap (hsz := hz) (tupleKind_room_in1 hu) (key_of I.hok eb) dd fun h' dd' hs => h _ ?_
    obtain ⟨q, es, ep, hq, h2, h3, h4, _, h5⟩ := dd'
    refine d_write I (by rw [e]; exact True.intro) hs ⟨q, hq⟩ ⟨hl, hd, _, (rel.put k eb rv).keeps fun c ys ec => ?_, q, es, ep, hq, h2, h3, h4, h5⟩
    rw [upd_ne (ne_of ec e (fun z => nomatch z))]
    exact ec
end
section
variable {X : Cx} {pins : List (Addr × Obj)} {σ : St} {H : Hp} {s : Shared} {a : Addr} {kvs : List (Key × V)} {k : Key} {u : Value} {A : Around} {E : Value → Shared → Prop}
/-- d.pop(k[, x]), there -/
theorem d_pop {v : V} {more : List Value} {Q : Value → Shared → Prop} (I : Inv X pins σ H s) (e : H a = some (.dK kvs)) (ry : RelV (kV k) u) (l : valV kvs k = some v) (hm : more = [] ∨ ∃ x, more = [x])
    (h : ∀ w' s', Inv X pins σ (upd H a (.dK (dropK kvs k))) s' → RelV v w' → Q w' s') : wpAny (model X.prog X.w) A (call (.builtin "dict.pop") (.ref a :: u :: more)) Q E s := by
  obtain ⟨z, hd, vs, rel, dd⟩ := dk_of I.hok e
  obtain ⟨w', hw, rw'⟩ := RelO.some_of (v := v) (o := valueAt vs k) (by rw [← l]; exact rel.val k)
  have hp : (keyPart u).isSome = true := by
    cases k with
    | inl i => obtain ⟨t, q⟩ := (show ∃ t, u = Value.int i t from ry); subst q; rfl
    | inr x => obtain ⟨t, q⟩ := (show ∃ t, u = Value.str x t from ry); subst q; rfl
  have ha : argsOk "dict.pop" ⟨.ref a :: u :: more, []⟩ := by
    rcases hm with q | ⟨x, q⟩
    · subst q; exact PySem.F.args_dict_pop_2 _ _
    · subst q; exact PySem.F.args_dict_pop_3 _ _ _
  refine call_meetsIn PySem.F.slot_dict_pop dd.typeIs PySem.F.entry_dict_pop ha (meets_dict_pop_there (mixKind X.prog X.w) a (kV_is ry) more hm hp)
    ⟨vs, w', dd, by rw [← rel.length]; exact z, hw, fun h' dd' hs => h w' _ ?_ rw'⟩
  have he : ∃ q, h'.get? a = some q := let ⟨q, _, _, hq, _⟩ := dd'; ⟨q, hq⟩
  exact d_write I (by rw [e]; exact True.intro) hs he (dk_new (Nat.le_trans (dropK_le kvs k) z) hd (rel.drop k) dd')
end
/-- the element of a subscription, not a slice -/
def NoSl (i : Expr) : Prop := ∀ ov iv, subscripted i false ov iv = operate [ov, iv] (getItem ov iv)
theorem subD_of {prog : Program} {w : World} {A : Around} {E : Value → Shared → Prop} {s : Shared} {env : Env} {value slice : Expr} {pos : Pos} {T id : String} {Q : Value → Shared → Prop}
    (hl : typeLookup (.type T) "__getitem__" = pure (some (.builtin id))) (hs : NoSl slice)
    (h : wpAny (model prog w) A (eval value env) (fun o s₁ => wpAny (model prog w) A (eval slice env) (fun i s₂ => s₂.TypeIs o T ∧ wpAny (model prog w) A (getItem o i) Q E s₂) E s₁) E s) :
    wpAny (model prog w) A (eval (.Subscript value slice pos) env) Q E s := by
  refine Subscript_ (wpAny_mono h (fun o s₁ h₁ => wpAny_mono h₁ (fun i s₂ h₂ => ?_) fun _ _ x => x) fun _ _ x => x)
  obtain ⟨hT, h₂⟩ := h₂
  unfold subscriptTail
  refine wpAny_bind ?_
  rw [getitemInPython_of_ne hT.not_modules]
  refine wpAny_bind (wpAny_specialOf hT hl ?_)
  have fin : wpAny (model prog w) A (subscripted slice false o i) (fun r s₃ => wpAny (model prog w) A (letTemporaryGo value o r >>= fun _ => pure r) Q E s₃) E s₂ := by
    rw [hs o i]
    exact wpAny_operating (wpAny_mono h₂ (fun r s₃ h₃ => wpAny_bind (wpAny_letTemporaryGo (wpAny_pure h₃))) fun _ _ x => x)
  first
    | exact wpAny_pure (wpAny_bind fin)
    | exact wpAny_bind (wpAny_pure (wpAny_bind fin))
    | exact wpAny_bind fin
theorem dict_typeIs {X : Cx} {pins : List (Addr × Obj)} {σ : St} {H : Hp} {s : Shared} {a : Addr} {y : V} {o : Option V} (I : Inv X pins σ H s) (g : DGet H a y o) : s.TypeIs (.ref a) "dict" := by
  rcases g with ⟨kvs, k, e, _, _⟩ | ⟨kvs, k, b, e, _, _, _⟩
  · obtain ⟨_, _, vs, _, dd⟩ := dk_rd I.hok e
    exact dd.typeIs
  · obtain ⟨_, _, xs, _, dd⟩ := dt_rd I.hok e
    exact dd.typeIs
/-- d[y] -/
def tDGet (td ty : TE) : TE := fun σ H Q => td σ H fun x H1 => ty σ H1 fun y H2 => ∃ a v, x = .ref a ∧ DGet H2 a y (some v) ∧ Q v H2
/-- y in d, y not in d -/
def tDIn (ty td : TE) : TE := fun σ H Q => ty σ H fun y H1 => td σ H1 fun x H2 => ∃ a o, x = .ref a ∧ DGet H2 a y o ∧ Q (.bl o.isSome) H2
/-- d[y] = v -/
def sDPut (td ty tv : TE) : TS := fun D σ H => tv σ H fun v H1 => td σ H1 fun x H2 => ty σ H2 fun y H3 => ∃ a H4, x = .ref a ∧ DPut H3 a y v H4 ∧ D.nx σ H4
/-- d[y] op= v -/
def sDAug (td ty tv : TE) (rd : V → V → Hp → VK → Prop) : TS := fun D σ H => td σ H fun x H1 => ty σ H1 fun y H2 => ∃ a v, x = .ref a ∧ DGet H2 a y (some v) ∧
  tv σ H2 fun y2 H3 => rd v y2 H3 fun z H4 => ∃ H5, DPut H4 a y z H5 ∧ D.nx σ H5
section
variable {X : Cx} {o i e value : Expr} {pos pos' tpos : Pos} {td ty tv : TE}
theorem pe_dget (hu : X.A.units + 1 < cLine) (ho : PE X o td) (hi : PE X i ty) (hs : NoSl i) : PE X (.Subscript o i pos) (tDGet td ty) := by
  intro pins s σ H Q I h
  refine subD_of PySem.F.slot_dict_getitem.lookup hs (thn (ho pins s σ H _ I h) fun u s1 ⟨x, H1, I1, rx, q1⟩ => thn (hi pins s1 σ H1 _ I1 q1) fun iv s2 ⟨y, H2, I2, ry, a, v, ex, g, q2⟩ => ?_)
  subst ex
  obtain rfl : u = Value.ref a := rx
  exact ⟨dict_typeIs I2 g, d_getItem hu I2 g ry fun w' s3 I3 rw' => ⟨v, H2, I3, rw', q2⟩⟩
theorem pc_din (hu : X.A.units + 1 < cLine) (hi : PE X i ty) (ho : PE X o td) : PC X .In i o (tDIn ty td) := by
  intro pins s σ H Q I h
  refine thn (hi pins s σ H _ I h) fun iv s1 ⟨y, H1, I1, ry, q1⟩ => thn (ho pins s1 σ H1 _ I1 q1) fun u s2 ⟨x, H2, I2, rx, a, ov, ex, g, q2⟩ => ?_
  subst ex
  obtain rfl : u = Value.ref a := rx
  exact d_in hu I2 g ry fun s3 I3 => ⟨.bl ov.isSome, H2, I3, rfl, q2⟩
theorem ps_dput (hu : X.A.units + 1 < cLine) (ho : PE X o td) (hi : PE X i ty) (hv : PE X value tv) (hs : swapsWith value (some (.Subscript o i pos')) pos.line X.env = pure false) :
    PS X (.Assign [.Subscript o i pos'] value pos) (sDPut td ty tv) := by
  intro pins s σ H D I h
  refine wpAny_Assign_Subscript (thn (hv pins s σ H _ I h) fun r s1 ⟨v, H1, I1, rv, q1⟩ => thn (ho pins s1 σ H1 _ I1 q1) fun u s2 ⟨x, H2, I2, rx, q2⟩ => thn (hi pins s2 σ H2 _ I2 q2) fun iv s3 ⟨y, H3, I3, ry, a, H4, ex, g, q3⟩ => ?_) hs
  subst ex
  obtain rfl : u = Value.ref a := rx
  exact d_setItem hu I3 g ry rv fun s4 I4 => ⟨σ, H4, I4, q3⟩
theorem ps_daug {op : Operator} {rd : V → V → Hp → VK → Prop} (hu : X.A.units + 1 < cLine) (ho : PE X o td) (hi : PE X i ty) (hv : PE X value tv) (hop : InOp X op rd)
    (ha : ∀ ov iv new, augStore i ov iv new = (do holding [new, ov, iv] (setItem ov iv new); release [new, ov, iv] []; pure .next)) : PS X (.AugAssign (.Subscript o i tpos) op value pos) (sDAug td ty tv rd) := by
  intro pins s σ H D I h
  refine wpAny_AugAssign_SubscriptAny (thn (ho pins s σ H _ I h) fun u s1 ⟨x, H1, I1, rx, q1⟩ => thn (hi pins s1 σ H1 _ I1 q1) fun iv s2 ⟨y, H2, I2, ry, a, v, ex, g, q2⟩ => ?_) ha
  subst ex
  obtain rfl : u = Value.ref a := rx
  refine d_getItem hu I2 g ry fun w' s3 I3 rw' => thn (hv pins s3 σ H2 _ I3 q2) fun w2 s4 ⟨y2, H3, I4, ry2, q3⟩ => thn (hop pins s4 σ H3 v y2 w' w2 _ I4 rw' ry2 q3) fun w3 s5 ⟨z, H4, I5, rz, H5, g5, q4⟩ => ?_
  exact d_setItem hu I5 g5 ry rz fun s6 I6 => ⟨σ, H5, I6, q4⟩
end
theorem dk_empty {P : Program} {w : World} {H : Hp} (h : Heap) (hb : sysModules < h.objs.size) : ObjOk P w H (h.push { cls := .type "dict", data := .dict #[] }) h.objs.size (.dK []) :=
  ⟨Nat.zero_le _, beq_eq_false_iff_ne.mpr (Ne.symm (Nat.ne_of_lt hb)), [], .nil, Heap.DictOf.new h⟩
theorem dt_empty {P : Program} {w : World} {H : Hp} (h : Heap) (hb : sysModules < h.objs.size) : ObjOk P w H (h.push { cls := .type "dict", data := .dict #[] }) h.objs.size (.dT []) :=
  ⟨Nat.zero_le _, beq_eq_false_iff_ne.mpr (Ne.symm (Nat.ne_of_lt hb)), [], .nil, _, #[], 0, Heap.get?_push_size _ rfl, ⟨rfl, rfl, rfl⟩, rfl, rfl, List.nodup_nil⟩
/-- {}, to be a dict of the kind that is wanted -/
def tDNewK : TE := fun _ H Q => ∀ p, H p = none → Q (.ref p) (upd H p (.dK []))
def tDNewT : TE := fun _ H Q => ∀ p, H p = none → Q (.ref p) (upd H p (.dT []))
section
variable {X : Cx} {pos : Pos}
theorem pe_dnewK : PE X (.Dict [] [] pos) tDNewK := fun pins s σ H Q I h =>
  wpAny_Dict_empty ⟨.ref s.heap.objs.size, _, I.laid (a := s.heap.objs.size) (o := .dK []) (t' := s.toks) (fun _ _ q => Heap.get?_push_of_some _ q) (Nat.le_refl _) (dk_empty s.heap I.big), rfl, h _ (I.hok.fresh (Nat.le_refl _))⟩
theorem pe_dnewT : PE X (.Dict [] [] pos) tDNewT := fun pins s σ H Q I h =>
  wpAny_Dict_empty ⟨.ref s.heap.objs.size, _, I.laid (a := s.heap.objs.size) (o := .dT []) (t' := s.toks) (fun _ _ q => Heap.get?_push_of_some _ q) (Nat.le_refl _) (dt_empty s.heap I.big), rfl, h _ (I.hok.fresh (Nat.le_refl _))⟩
end
/-- a method call o.m(e) of a built-in, with one argument: what must be seen of the text -/
structure M1 (X : Cx) (o : Expr) (m : Str) (apos : Pos) (e : Expr) (cpos : Pos) : Prop where
  base : attributeBase o m X.env (eval o X.env) = eval o X.env
  few : ((backTo cpos (starEach [e] X.env)).all (fun x => !x.1) && (backToKw cpos (keywordEach [] X.env)).all (fun x => x.1.isSome)
    && decide (([e] : List Expr).length + ([] : List Keyword).length + (if ([] : List Keyword).isEmpty then 0 else 1) < 30)) = true
  line : (apos.endLine == cpos.line) = true
  trees : backTo cpos (starEach [e] X.env) = [(false, eval e X.env)]
structure M2 (X : Cx) (o : Expr) (m : Str) (apos : Pos) (e f : Expr) (cpos : Pos) : Prop where
  base : attributeBase o m X.env (eval o X.env) = eval o X.env
  few : ((backTo cpos (starEach [e, f] X.env)).all (fun x => !x.1) && (backToKw cpos (keywordEach [] X.env)).all (fun x => x.1.isSome)
    && decide (([e, f] : List Expr).length + ([] : List Keyword).length + (if ([] : List Keyword).isEmpty then 0 else 1) < 30)) = true
  line : (apos.endLine == cpos.line) = true
  trees : backTo cpos (starEach [e, f] X.env) = [(false, eval e X.env), (false, eval f X.env)]
/-- a is a dict, whatever its keys -/
def IsD (H : Hp) (a : Addr) : Prop := (∃ kvs, Rd H a (.dK kvs)) ∨ ∃ kvs, Rd H a (.dT kvs)
theorem isD_at {X : Cx} {pins : List (Addr × Obj)} {σ : St} {H : Hp} {s : Shared} {a : Addr} (I : Inv X pins σ H s) (d : IsD H a) :
    s.TypeIs (.ref a) "dict" ∧ (∀ b, Value.ref a = .ref b → ∃ ob, s.heap.get? b = some ob ∧ ob.dict = none) ∧ (a == sysModules) = false := by
  rcases d with ⟨kvs, e⟩ | ⟨kvs, e⟩
  · obtain ⟨_, hd, vs, _, dd⟩ := dk_rd I.hok e
    refine ⟨dd.typeIs, fun b q => ?_, hd⟩
    cases q
    obtain ⟨ob, _, _, h1, h2, _⟩ := dd
    exact ⟨ob, h1, h2.2.1⟩
  · obtain ⟨_, hd, xs, _, dd⟩ := dt_rd I.hok e
    refine ⟨dd.typeIs, fun b q => ?_, hd⟩
    cases q
    obtain ⟨ob, _, _, h1, h2, _⟩ := dd
    exact ⟨ob, h1, h2.2.1⟩
section
variable {X : Cx} {pins : List (Addr × Obj)} {σ : St} {H : Hp} {s : Shared} {a : Addr} {y d : V} {u r : Value} {o : Option V} {A : Around} {E : Value → Shared → Prop}
/-- d.get(y) -/
theorem d_get1 {Q : Value → Shared → Prop} (hu : A.units + 1 < cLine) (I : Inv X pins σ H s) (g : DGet H a y o) (ry : RelV y u) (h : ∀ w' s', Inv X pins σ H s' → RelV (o.getD .non) w' → Q w' s') :
    wpAny (model X.prog X.w) A (call (.builtin "dict.get") [.ref a, u]) Q E s := by
  rcases g with ⟨kvs, k, e, ey, l⟩ | ⟨kvs, k, b, e, ey, eb, l⟩
  · subst ey
    obtain ⟨z, hd, vs, rel, dd⟩ := dk_rd I.hok e
    refine call_meetsIn PySem.F.slot_dict_get dd.typeIs PySem.F.entry_dict_get (PySem.F.args_dict_get_2 _ _) (meets_dict_get (mixKind X.prog X.w) a (kV_is ry) hd) ⟨_, dd.mapOf, h _ _ (I.tok _) ?_⟩
    rw [l]
    exact (rel.val k).getD rfl
  · subst ey
    cases (show u = Value.ref b from ry)
    obtain ⟨z, hd, xs, rel, dd⟩ := dt_rd I.hok e
    refine call_meetsIn PySem.F.slot_dict_get dd.typeIs PySem.F.entry_dict_get (PySem.F.args_dict_get_2 _ _) (meetsH_dict_get (tupleKind (mixKind X.prog X.w)) a b hd) ⟨tupleKind_room_in1 hu, k, xs, key_of I.hok eb, dd, h _ _ (I.tok _) ?_⟩
    rw [l]
    exact (rel.val k).getD rfl
/-- d.get(y, x) -/
theorem d_get2 {Q : Value → Shared → Prop} (hu : A.units + 1 < cLine) (I : Inv X pins σ H s) (g : DGet H a y o) (ry : RelV y u) (rd : RelV d r) (h : ∀ w' s', Inv X pins σ H s' → RelV (o.getD d) w' → Q w' s') :
    wpAny (model X.prog X.w) A (call (.builtin "dict.get") [.ref a, u, r]) Q E s := by
  rcases g with ⟨kvs, k, e, ey, l⟩ | ⟨kvs, k, b, e, ey, eb, l⟩
  · subst ey
    obtain ⟨z, hd, vs, rel, dd⟩ := dk_rd I.hok e
    refine call_meetsIn PySem.F.slot_dict_get dd.typeIs PySem.F.entry_dict_get (PySem.F.args_dict_get_3 _ _ _) (meets_dict_get_default (mixKind X.prog X.w) a (kV_is ry) hd r) ⟨_, dd.mapOf, h _ _ (I.tok _) ?_⟩
    rw [l]
    exact (rel.val k).getD rd
  · subst ey
    cases (show u = Value.ref b from ry)
    obtain ⟨z, hd, xs, rel, dd⟩ := dt_rd I.hok e
    refine call_meetsIn PySem.F.slot_dict_get dd.typeIs PySem.F.entry_dict_get (PySem.F.args_dict_get_3 _ _ _) (meetsH_dict_get_default (tupleKind (mixKind X.prog X.w)) a b hd r) ⟨tupleKind_room_in1 hu, k, xs, key_of I.hok eb, dd, h _ _ (I.tok _) ?_⟩
    rw [l]
    exact (rel.val k).getD rd
end
def tDGet1 (td ty : TE) : TE := fun σ H Q => td σ H fun x H1 => ∃ a, x = .ref a ∧ IsD H1 a ∧ ty σ H1 fun y H2 => ∃ o, DGet H2 a y o ∧ Q (o.getD .non) H2
def tDGet2 (td ty tx : TE) : TE := fun σ H Q => td σ H fun x H1 => ∃ a, x = .ref a ∧ IsD H1 a ∧ ty σ H1 fun y H2 => tx σ H2 fun z H3 => ∃ o, DGet H3 a y o ∧ Q (o.getD z) H3
/-- d.pop(k): there; d.pop(k, x): there or not -/
def tDPop1 (td ty : TE) : TE := fun σ H Q => td σ H fun x H1 => ∃ a, x = .ref a ∧ IsD H1 a ∧ ty σ H1 fun y H2 => ∃ kvs k v, H2 a = some (.dK kvs) ∧ y = kV k ∧ valV kvs k = some v ∧ Q v (upd H2 a (.dK (dropK kvs k)))
section
variable {X : Cx} {o e f : Expr} {apos cpos : Pos} {td ty tx : TE}
theorem pe_dget1 (hu : X.A.units + 1 < cLine) (ho : PE X o td) (he : PE X e ty) (m : M1 X o "get" apos e cpos) : PE X (.Call (.Attribute o "get" apos) [e] [] cpos) (tDGet1 td ty) := by
  intro pins s σ H Q I h
  refine wpAny_Call_method m.base m.few m.line PySem.F.plainAttrs_dict PySem.F.slot_dict_get PySem.F.type_dict_get (thn (ho pins s σ H _ I h) fun u s1 ⟨x, H1, I1, rx, a, ex, d, q1⟩ => ?_)
  subst ex
  obtain rfl : u = Value.ref a := rx
  obtain ⟨t1, t2, _⟩ := isD_at I1 d
  refine ⟨t1, t2, ?_⟩
  rw [m.trees]
  refine Calls.callWith_builtin rfl (Calls.evalArgs_plain (Calls.spliced_cons (thn (he pins s1 σ H1 _ I1 q1) fun iv s2 ⟨y, H2, I2, ry, ov, g, q2⟩ => Calls.spliced_nil ?_)))
  exact d_get1 hu I2 g ry fun w' s3 I3 rw' => ⟨_, H2, I3, rw', q2⟩
theorem pe_dget2 (hu : X.A.units + 1 < cLine) (ho : PE X o td) (he : PE X e ty) (hf : PE X f tx) (m : M2 X o "get" apos e f cpos) : PE X (.Call (.Attribute o "get" apos) [e, f] [] cpos) (tDGet2 td ty tx) := by
  intro pins s σ H Q I h
  refine wpAny_Call_method m.base m.few m.line PySem.F.plainAttrs_dict PySem.F.slot_dict_get PySem.F.type_dict_get (thn (ho pins s σ H _ I h) fun u s1 ⟨x, H1, I1, rx, a, ex, d, q1⟩ => ?_)
  subst ex
  obtain rfl : u = Value.ref a := rx
  obtain ⟨t1, t2, _⟩ := isD_at I1 d
  refine ⟨t1, t2, ?_⟩
  rw [m.trees]
  refine Calls.callWith_builtin rfl (Calls.evalArgs_plain (Calls.spliced_cons (thn (he pins s1 σ H1 _ I1 q1) fun iv s2 ⟨y, H2, I2, ry, q2⟩ =>
    Calls.spliced_cons (thn (hf pins s2 σ H2 _ I2 q2) fun fv s3 ⟨z, H3, I3, rz, ov, g, q3⟩ => Calls.spliced_nil ?_))))
  exact d_get2 hu I3 g ry rz fun w' s4 I4 rw' => ⟨_, H3, I4, rw', q3⟩
theorem pe_dpop1 (ho : PE X o td) (he : PE X e ty) (m : M1 X o "pop" apos e cpos) : PE X (.Call (.Attribute o "pop" apos) [e] [] cpos) (tDPop1 td ty) := by
  intro pins s σ H Q I h
  refine wpAny_Call_method m.base m.few m.line PySem.F.plainAttrs_dict PySem.F.slot_dict_pop PySem.F.type_dict_pop (thn (ho pins s σ H _ I h) fun u s1 ⟨x, H1, I1, rx, a, ex, d, q1⟩ => ?_)
  subst ex
  obtain rfl : u = Value.ref a := rx
  obtain ⟨t1, t2, _⟩ := isD_at I1 d
  refine ⟨t1, t2, ?_⟩
  rw [m.trees]
  refine Calls.callWith_builtin rfl (Calls.evalArgs_plain (Calls.spliced_cons (thn (he pins s1 σ H1 _ I1 q1) fun iv s2 ⟨y, H2, I2, ry, kvs, k, v, ea, ey, l, q2⟩ => Calls.spliced_nil ?_)))
  subst ey
  exact d_pop I2 ea ry l (.inl rfl) fun w' s3 I3 rw' => ⟨v, _, I3, rw', q2⟩
end
section
variable {X : Cx} {pins : List (Addr × Obj)} {σ : St} {H : Hp} {s : Shared} {a : Addr} {kvs : List (Key × V)} {A : Around} {E : Value → Shared → Prop}
theorem d_copyOf {Q : Value → Shared → Prop} (I : Inv X pins σ H s) (e : Rd H a (.dK kvs)) (h : ∀ p s', H p = none → Inv X pins σ (upd H p (.dK kvs)) s' → Q (.ref p) s') : wpAny (model X.prog X.w) A (call (.type "dict") [.ref a]) Q E s := by
  obtain ⟨z, hd, vs, rel, dd⟩ := dk_rd I.hok e
  refine kt_call_dict hd dd (by rw [← rel.length]; exact z) fun h' dd' hs => ?_
  refine h _ _ (I.hok.fresh (Nat.le_refl _)) (I.laid (a := s.heap.objs.size) (o := .dK kvs) (t' := s.toks) (fun b q hq => ?_) (Nat.le_refl _) (dk_new z (beq_eq_false_iff_ne.mpr (Ne.symm (Nat.ne_of_lt I.big))) rel dd'))
  exact (hs.2 b (Nat.ne_of_lt (Heap.lt_size hq))).trans (Heap.get?_push_of_some _ hq)
end
end L2
namespace L2
open PySem PySem.Spec PyProof.Rows
end L2
namespace L2
open PySem PySem.Spec PyProof.Rows
end L2
section 
namespace Bits
open PySem PyProof.Rows
theorem natCast_mul_pow (m k : Nat) : (m : Int) * 2 ^ k = ((m * 2 ^ k : Nat) : Int) := by
  rw [two_pow_cast]
  first
    | exact (Int.natCast_mul _ _).symm
    | simp
/-- x & ((1 << k) - 1) -/
theorem bitAnd_mask {x : Int} (k : Nat) (hx : 0 ≤ x) : Builtin.bitAnd x (2 ^ k - 1) = x % 2 ^ k := by
  obtain ⟨n, rfl⟩ := Int.eq_ofNat_of_zero_le hx
  have hp : 0 < 2 ^ k := Nat.two_pow_pos k
  rw [two_pow_cast]
  have e : ((2 ^ k : Nat) : Int) - 1 = ((2 ^ k - 1 : Nat) : Int) := by
    generalize (2 : Nat) ^ k = m at hp
    omega
  rw [e, bitAnd_pp (by omega) (by omega), Int.toNat_natCast, Int.toNat_natCast, Nat.and_two_pow_sub_one_eq_mod]
  first
    | rfl
    | exact Int.natCast_emod _ _
    | simp
end Bits
end 
section 
namespace TL
open PySem PySem.Builtin PySem.Builtin.Str PySem.StrLaws
end TL
end 
namespace L2
open PySem PySem.Spec PyProof.Rows
end L2
namespace L2
open PySem PySem.Spec PyProof.Rows
end L2
namespace Att
open PySem PySem.W PySem.Calls PyProof.Rows
theorem ints_of_wellAll {P : Params} {h : Heap} : ∀ (ns : List Int) (vs : List Value), WellAll P h vs (ns.map WData.int) → IntsAre vs ns := by
  intro ns
  induction ns with
  | nil =>
    intro vs w
    rw [List.map_nil] at w
    cases w
    exact .nil
  | cons n ns ih =>
    intro vs w
    rw [List.map_cons] at w
    cases w with
    | cons a b =>
      cases a
      exact .cons _ _ (ih _ b)
end Att
namespace L2
open PySem PySem.Spec PyProof.Rows
theorem vals_ints : ∀ {vs : List Value} {ns : List Int}, IntsAre vs ns → Vals (ns.map V.int) vs
  | _, _, .nil => .nil
  | _, _, .cons n t h => .cons ⟨t, rfl⟩ (vals_ints h)
/-- nothing is tracked but the script, known to the object (or it is an object of the module) -/
def Only (H : Hp) : Prop := ∀ b, H b = none ∨ ∃ o xs, H b = some (.frz o (.lst xs))
end L2
namespace L2
open PySem PySem.Spec PyProof.Rows
end L2
/- THE LAST THEOREM (shape; LID, My.* are yours):
   My.Adr: a structure of the addresses that your layer names (classes, functions); My.Txt K t: a structure (Prop) of the equations over K;
   My.txt_mk : {K} {implicit addresses ..} (e1 : nsIn K mainGlobals "law" = some (some (.ref f))) (e2 : K.lookup f = some ⟨oc, od, .func (fnOf "law" "law" params body scope dV kV doc pm an cdv ct), sl⟩) (e3 : codeIn K cdv "law" = true) .. : ∃ t, My.Txt K t
set_option maxRecDepth 100000 in
set_option maxHeartbeats 0 in
theorem PySem.Challenge.cw_LID_holds : PySem.Challenge.rw_LID.Holds := by
  w_on; o_law; k_head; (case hw => w_witness2)
  k_fill
  refine L2.walk_of (l := PySem.Challenge.rw_LID) (n := 63) (k := 40) (x := "script") (CX := fun w => ..) (sp := fun _ => My.sp_law) rfl (by decide) rfl ⟨rfl, by decide, by decide⟩ (fun w h Y => PySem.W.kIn_of Y) ?F ?S ?C
  case F =>
    intro w mg fa h KX G hmg
    have T : ∃ t, My.Txt (L2.KOf KX) t := by
      dsimp only [L2.KOf]                          -- K must stand as «<heap const> w.params» for k_is
      refine' My.txt_mk ?e1 ?e2 ?e3 ..
      (case e1 => PySem.W.k_is)                    -- in the order: a name -> its address -> its object -> its parts
      (case e2 => PySem.W.k_is)
      ..
    obtain ⟨t, T⟩ := T
    have e0 := hmg.symm.trans (PySem.W.mg_of KX G T.law)
    cases e0                                       -- fa is the law's own address
    exact ⟨_, fun s u => .of_eq rfl, fun base kb nb => My.law_fn T kb nb⟩     -- if «.of_eq rfl» comes too early: refine' ⟨_, ?b, fun base kb nb => My.law_fn T kb nb⟩; exact fun s u => .of_eq rfl
  case S => exact fun w H a ns hl hO hS => ..
  case C => exact ..
(the tactic k_is has no namespace: write k_is) -/
namespace L2
open PySem PySem.Spec PyProof.Rows
/-- the j-th statement of a class's body -/
def inClass (s : Stmt) (j : Nat) : Stmt := match s with
  | .ClassDef _ _ _ body _ _ _ _ _ _ _ => body.getD j (.Pass ⟨0, 0, 0, 0⟩)
  | _ => .Pass ⟨0, 0, 0, 0⟩
def defArgs (s : Stmt) : Arguments := match s with
  | .FunctionDef _ a _ _ _ _ _ _ _ _ => a
  | _ => { posonlyargs := [], args := [], vararg := none, kwonlyargs := [], kw_defaults := [], kwarg := none, defaults := [] }
def defBody (s : Stmt) : List Stmt := match s with
  | .FunctionDef _ _ b _ _ _ _ _ _ _ => b
  | _ => []
def defScope (s : Stmt) : Scope := match s with
  | .FunctionDef _ _ _ _ _ _ sc _ _ _ => sc
  | _ => { kind := .function, names := [], isGenerator := false, isCoroutine := false }
abbrev CX0 : CXT := fun _ _ _ _ _ _ => False
abbrev E0 : XK := fun _ _ _ => False
theorem pass0 {X : Cx} : Passes CX0 X E0 := fun _ _ _ _ _ _ _ h => h.elim
structure Fun (K : PySem.W.Frag) (x qual : Str) (st : Stmt) (f : Addr) (fd : FuncData) : Prop where
  ex : ∃ (oc : Value) (od : Option Addr) (kV doc pm : Value) (an : Option Addr) (cdv ct : Value) (osl : Array (Option Value)),
    fd = PySem.W.fnOf x qual (defArgs st) (defBody st) (defScope st) .none kV doc pm an cdv ct ∧ K.lookup f = some ⟨oc, od, .func fd, osl⟩ ∧ PySem.W.codeIn K cdv qual = true
  kp : PySem.W.keepIn K (.ref f) = true
section
variable {P : Program} {w : World} {K : PySem.W.Frag} {mg : Str → Option Value} {base : Heap}
/-- THE RULE for a def: its body as a term of rules, and the reading of that term -/
theorem Fun.ok {x qual : Str} {st : Stmt} {f : Addr} {fd : FuncData} {N ps : List Str} {k : Nat} {sp : Sp} (F : Fun K x qual st f fd) (S : FnScope N ps (defScope st)) (len : ∀ vs H Q E, sp vs H Q E → vs.length = ps.length)
    (hbody : ∀ (cdv : Value) (A : Around) (outer : List Env) (s : Shared) (H : Hp) (vs : List V) (Q : VK) (E : XK), Room k (A.deeper (envOfC qual (defScope st) s.heap.objs.size f cdv)) → sp vs H Q E →
      ∃ t, PSs (cxOf CX0 P w K mg base N qual (defScope st) f cdv A outer s H E).nox (defBody st) t ∧ t { nx := fun _ H' => Q .non H', rt := Q } (start N vs) H) : FnOk P w K mg base CX0 (k + 1) f fd ps sp := by
  obtain ⟨oc, od, kV, doc, pm, an, cdv, ct, osl, rfl, lk, hcd⟩ := F.ex
  refine fn_of lk hcd S len fun A outer s H vs Q E hr hsp => ?_
  obtain ⟨t, h, q⟩ := hbody cdv A outer s H vs Q E hr hsp
  exact ⟨t, h.nox, q⟩
/-- how its arguments bind (no defaults): h is «fun _ _ _ _ _ _ us hl => match us, hl with | [_, _], _ => rfl», one _ a parameter -/
theorem Fun.binds {x qual : Str} {st : Stmt} {f : Addr} {fd : FuncData} {ps : List Str} (F : Fun K x qual st f fd)
    (h : ∀ (kV doc pm : Value) (an : Option Addr) (cdv ct : Value) (us : List Value), us.length = ps.length → bindArgs (PySem.W.fnOf x qual (defArgs st) (defBody st) (defScope st) .none kV doc pm an cdv ct) ⟨us, []⟩ = pure (ps.zip us)) : Binds K fd ps [] := by
  obtain ⟨oc, od, kV, doc, pm, an, cdv, ct, osl, rfl, lk, hcd⟩ := F.ex
  exact .all (h kV doc pm an cdv ct)
theorem fun_mk {x qual : Str} {st : Stmt} {f : Addr} {oc : Value} {od an : Option Addr} {osl : Array (Option Value)} {kV doc pm cdv ct : Value} (l : K.lookup f = some ⟨oc, od, .func (PySem.W.fnOf x qual (defArgs st) (defBody st) (defScope st) .none kV doc pm an cdv ct), osl⟩)
    (c : PySem.W.codeIn K cdv qual = true) (k : PySem.W.keepIn K (.ref f) = true) : Fun K x qual st f (PySem.W.fnOf x qual (defArgs st) (defBody st) (defScope st) .none kV doc pm an cdv ct) := ⟨⟨oc, od, kV, doc, pm, an, cdv, ct, osl, rfl, l, c⟩, k⟩
end
theorem hu_of {A : Around} {k : Nat} (hr : Room k A) : A.units + 1 < cLine := Nat.lt_of_le_of_lt (Nat.add_le_add_left (by decide : 1 ≤ 64) _) hr.units
theorem small1000 {n : Nat} (h : n ≤ 1000) : n < sizeLine := Nat.lt_of_le_of_lt h (by decide)
section
variable {X : Cx}
theorem pv (i : Nat) {x : Str} {pos : Pos} (hN : X.N[i]? = some x := by rfl) (hv : Vis X.env.scope x := by first | exact Or.inl rfl | exact Or.inr (Or.inl rfl) | exact Or.inr (Or.inr rfl)) (hd : (x == ("__debug__" : Str)) = false := by decide)
    (hcd : (x == ("__classdict__" : Str)) = false := by decide) : PE X (.Name x pos) (tVar i) := pe_var hN hv hd hcd
end
theorem iteF {A B : Prop} (h : B) : if false = true then A else B := by
  rw [if_neg Bool.false_ne_true]
  exact h
theorem iteT {A B : Prop} (h : A) : if true = true then A else B := by
  rw [if_pos rfl]
  exact h
theorem ite2 {c A B : Prop} [Decidable c] (h1 : c → A) (h2 : ¬ c → B) : if c then A else B := by
  by_cases h : c
  · rw [if_pos h]
    exact h1 h
  · rw [if_neg h]
    exact h2 h
/-- all that was tracked is as it was -/
def Same (H H' : Hp) : Prop := ∀ b o, H b = some o → H' b = some o
theorem Same.trans {H H1 H2 : Hp} (a : Same H H1) (b : Same H1 H2) : Same H H2 := fun c o h => b c o (a c o h)
theorem Same.free {H H' : Hp} (e : Same H H') {l : Addr} (h : H' l = Option.none) : H l = Option.none := by
  cases q : H l with
  | none => rfl
  | some o =>
    rw [e l o q] at h
    cases h
theorem Same.seq {K : PySem.W.Frag} {H H' : Hp} {a : Addr} {xs : List V} (e : Same H H') (h : SqL K H a xs) : SqL K H' a xs := by
  rcases h with (h | ⟨o, h⟩) | h
  · exact .inl (.inl (e _ _ h))
  · exact .inl (.inr ⟨o, e _ _ h⟩)
  · exact .inr h
section
variable {κ : Type} [DecidableEq κ]
theorem valV_not {kvs : List (κ × V)} {k : κ} (h : valV kvs k = none) : ¬ k ∈ kvs.map (·.1) := by
  intro m
  obtain ⟨p, hp, e⟩ := List.mem_map.mp m
  have q : (kvs.any fun kv => decide (kv.1 = k)) = true := List.any_eq_true.mpr ⟨p, hp, decide_eq_true e⟩
  rw [valV_any, h] at q
  exact absurd q (by simp)
theorem nd_snoc : ∀ {l : List κ} {k : κ}, l.Nodup → ¬ k ∈ l → (l ++ [k]).Nodup
  | [], k, _, _ => by simp
  | a :: r, k, h, hk => by
    obtain ⟨h1, h2⟩ := List.nodup_cons.mp h
    show (a :: (r ++ [k])).Nodup
    refine List.nodup_cons.mpr ⟨fun m => ?_, nd_snoc h2 fun m => hk (List.mem_cons.mpr (Or.inr m))⟩
    rcases List.mem_append.mp m with q | q
    · exact h1 q
    · exact hk (List.mem_cons.mpr (Or.inl (List.mem_singleton.mp q).symm))
theorem dropK_pos {p : κ × V} {r : List (κ × V)} {k : κ} (e : p.1 = k) : dropK (p :: r) k = dropK r k := by
  unfold dropK
  rw [List.filter_cons, if_neg (by simp [e])]
theorem dropK_neg {p : κ × V} {r : List (κ × V)} {k : κ} (e : ¬ p.1 = k) : dropK (p :: r) k = p :: dropK r k := by
  unfold dropK
  rw [List.filter_cons, if_pos (by simp [e])]
end
end L2
namespace Sl
open Ql65
/-! bits and octets -/
theorem valueOf_nil : valueOf [] = 0 := rfl
theorem valueOf_cons (b : Bool) (l : List Bool) : valueOf (b :: l) = (if b = true then 1 else 0) + 2 * valueOf l := rfl
theorem valueOf_append : ∀ (a b : List Bool), valueOf (a ++ b) = valueOf a + 2 ^ a.length * valueOf b
  | [], b => by simp [valueOf_nil]
  | x :: a, b => by
    rw [List.cons_append, valueOf_cons, valueOf_cons, valueOf_append a b, List.length_cons, Nat.pow_succ, Nat.mul_add]
    have e : 2 ^ a.length * 2 * valueOf b = 2 * (2 ^ a.length * valueOf b) := by
      rw [Nat.mul_comm (2 ^ a.length) 2, Nat.mul_assoc]
    omega
theorem valueOf_lt : ∀ (l : List Bool), valueOf l < 2 ^ l.length
  | [] => by decide
  | x :: a => by
    have h := valueOf_lt a
    rw [valueOf_cons, List.length_cons, Nat.pow_succ]
    split <;> omega
theorem bitsOf_length : ∀ (k n : Nat), (bitsOf k n).length = k
  | 0, _ => rfl
  | k + 1, n => by
    show (bitsOf k (n / 2)).length + 1 = k + 1
    rw [bitsOf_length k]
theorem valueOf_bitsOf : ∀ (k n : Nat), n < 2 ^ k → valueOf (bitsOf k n) = n
  | 0, n, h => by
    have : n = 0 := by simpa using h
    subst this
    rfl
  | k + 1, n, h => by
    show (if (n % 2 == 1) = true then 1 else 0) + 2 * valueOf (bitsOf k (n / 2)) = n
    rw [Nat.pow_succ] at h
    rw [valueOf_bitsOf k (n / 2) (by omega)]
    by_cases e : n % 2 = 1
    · rw [if_pos (by simpa using e)]
      omega
    · rw [if_neg (by simpa using e)]
      omega
theorem valueOf_falses : ∀ n, valueOf (List.replicate n false) = 0
  | 0 => rfl
  | n + 1 => by
    rw [List.replicate_succ, valueOf_cons, valueOf_falses n]
    rfl
theorem bitsOf_zero : ∀ n, bitsOf n 0 = List.replicate n false
  | 0 => rfl
  | n + 1 => by
    rw [List.replicate_succ, ← bitsOf_zero n]
    rfl
theorem valueOf_inj : ∀ {a b : List Bool}, a.length = b.length → valueOf a = valueOf b → a = b
  | [], [], _, _ => rfl
  | x :: a, y :: b, hl, h => by
    rw [valueOf_cons, valueOf_cons] at h
    have hl' : a.length = b.length := by simpa using hl
    have h1 : valueOf a = valueOf b := by
      cases x <;> cases y <;> simp at h <;> omega
    have h2 : x = y := by
      cases x <;> cases y <;> simp at h ⊢ <;> omega
    rw [h2, valueOf_inj hl' h1]
/-- all 0 as a number -/
theorem valueOf_zero : ∀ (l : List Bool), valueOf l = 0 ↔ (l.all fun b => !b) = true
  | [] => by simp [valueOf_nil]
  | x :: a => by
    have ih := valueOf_zero a
    rw [valueOf_cons, List.all_cons]
    cases x
    · simp only [Bool.false_eq_true, if_false, Bool.not_false, Bool.true_and]
      rw [← ih]
      omega
    · simp only [if_true, Bool.not_true, Bool.false_and]
      constructor
      · intro h; omega
      · intro h; exact absurd h (by decide)
theorem octets_fuel : ∀ (f g : Nat) (l : List Bool), l.length < 8 * f → l.length < 8 * g → octets f l = octets g l
  | 0, _, _, h, _ => absurd h (by omega)
  | _ + 1, 0, _, _, h => absurd h (by omega)
  | f + 1, g + 1, l, h1, h2 => by
    unfold octets
    by_cases e : l.length < 8
    · rw [if_pos e, if_pos e]
    · rw [if_neg e, if_neg e]
      have hd : (l.drop 8).length = l.length - 8 := List.length_drop
      rw [octets_fuel f g (l.drop 8) (by omega) (by omega)]
theorem pack_short {l : List Bool} (h : l.length < 8) : pack l = ([], l) := by
  unfold pack octets
  rw [if_pos h]
theorem pack_long {l : List Bool} (h : 8 ≤ l.length) : pack l = (valueOf (l.take 8) :: (pack (l.drop 8)).1, (pack (l.drop 8)).2) := by
  have hd : (l.drop 8).length = l.length - 8 := List.length_drop
  unfold pack
  rw [show octets (l.length + 1) l = _ from by unfold octets; rfl]
  rw [if_neg (by omega), octets_fuel l.length ((l.drop 8).length + 1) (l.drop 8) (by omega) (by omega)]
theorem pack_append (a b : List Bool) : pack (a ++ b) = ((pack a).1 ++ (pack ((pack a).2 ++ b)).1, (pack ((pack a).2 ++ b)).2) := by
  generalize hn : a.length = n
  induction n using Nat.strongRecOn generalizing a with
  | _ n ih =>
    by_cases h : a.length < 8
    · rw [pack_short h]
      rfl
    · have h8 : 8 ≤ a.length := by omega
      have hd : (a.drop 8).length = a.length - 8 := List.length_drop
      have e1 : (a ++ b).take 8 = a.take 8 := by rw [List.take_append_of_le_length h8]
      have e2 : (a ++ b).drop 8 = a.drop 8 ++ b := by rw [List.drop_append_of_le_length h8]
      have i := ih (a.drop 8).length (by omega) (a.drop 8) rfl
      rw [pack_long (l := a ++ b) (by rw [List.length_append]; omega), e1, e2, i, pack_long h8]
      rfl
theorem pack_rest (a : List Bool) : (pack a).2.length < 8 ∧ 8 * (pack a).1.length + (pack a).2.length = a.length ∧ ∀ x, x ∈ (pack a).1 → x < 256 := by
  generalize hn : a.length = n
  induction n using Nat.strongRecOn generalizing a with
  | _ n ih =>
    by_cases h : a.length < 8
    · rw [pack_short h]
      exact ⟨h, by simpa using hn, by simp⟩
    · have h8 : 8 ≤ a.length := by omega
      have hd : (a.drop 8).length = a.length - 8 := List.length_drop
      obtain ⟨i1, i2, i3⟩ := ih (a.drop 8).length (by omega) (a.drop 8) rfl
      rw [pack_long h8]
      refine ⟨i1, ?_, ?_⟩
      · show 8 * ((pack (a.drop 8)).1.length + 1) + (pack (a.drop 8)).2.length = n
        omega
      · intro x hx
        rcases List.mem_cons.mp hx with e | e
        · have := valueOf_lt (a.take 8)
          rw [List.length_take, Nat.min_eq_left h8] at this
          rw [e]
          exact this
        · exact i3 x e
/-- the lowest octet, and what is behind it, as numbers -/
theorem value_mod {l : List Bool} (h : 8 ≤ l.length) : valueOf l % 256 = valueOf (l.take 8) ∧ valueOf l / 256 = valueOf (l.drop 8) := by
  have e : valueOf l = valueOf (l.take 8) + 2 ^ (l.take 8).length * valueOf (l.drop 8) := by
    rw [← valueOf_append, List.take_append_drop]
  have ht : (l.take 8).length = 8 := by rw [List.length_take, Nat.min_eq_left h]
  have lt := valueOf_lt (l.take 8)
  rw [ht] at e lt
  have e256 : (2 : Nat) ^ 8 = 256 := by decide
  rw [e256] at e lt
  omega
theorem numbered_lt {f b k : Nat} (h : k < 2 ^ b) : numbered f b k = (bitsOf b k, b) := by
  cases f with
  | zero => rfl
  | succ f =>
    unfold numbered
    rw [if_pos h]
theorem numbered_ge {f b k : Nat} (h : ¬ k < 2 ^ b) : numbered (f + 1) b k = (bitsOf b 2 ++ (numbered f (b + 1) k).1, (numbered f (b + 1) k).2) := by
  rw [show numbered (f + 1) b k = _ from by unfold numbered; rfl]
  rw [if_neg h]
end Sl
namespace Sl
open Ql65
/-! lists with keys -/
theorem find_key {β : Type} : ∀ {l : List (Nat × β)} {k : Nat} {v : β}, (l.map (·.1)).Nodup → (k, v) ∈ l → l.find? (fun x => x.1 == k) = some (k, v)
  | [], _, _, _, h => by simp at h
  | (j, w) :: r, k, v, hn, h => by
    have hn' : (j :: r.map (·.1)).Nodup := hn
    obtain ⟨h1, h2⟩ := List.nodup_cons.mp hn'
    rw [List.find?_cons]
    by_cases e : j = k
    · subst e
      have : (j, w) = (j, v) := by
        rcases List.mem_cons.mp h with q | q
        · exact q.symm
        · exact absurd (List.mem_map.mpr ⟨_, q, rfl⟩) h1
      simp [this]
    · have : (j == k) = false := by simpa using e
      simp only [this]
      refine find_key h2 ?_
      rcases List.mem_cons.mp h with q | q
      · exact absurd (congrArg Prod.fst q).symm e
      · exact q
theorem find_pair : ∀ {l : List (Nat × (Nat × Nat))} {k : Nat} {v : Nat × Nat}, (l.map (·.2)).Nodup → (k, v) ∈ l → l.find? (fun x => x.2 == v) = some (k, v)
  | [], _, _, _, h => by simp at h
  | (j, w) :: r, k, v, hn, h => by
    have hn' : (w :: r.map (·.2)).Nodup := hn
    obtain ⟨h1, h2⟩ := List.nodup_cons.mp hn'
    rw [List.find?_cons]
    by_cases e : w = v
    · subst e
      have : (j, w) = (k, w) := by
        rcases List.mem_cons.mp h with q | q
        · exact q.symm
        · exact absurd (List.mem_map.mpr ⟨_, q, rfl⟩) h1
      simp [this]
    · have : (w == v) = false := by simpa using e
      simp only [this]
      refine find_pair h2 ?_
      rcases List.mem_cons.mp h with q | q
      · exact absurd (congrArg Prod.snd q).symm e
      · exact q
theorem key_inj {β : Type} {l : List (Nat × β)} {x y : Nat × β} (hn : (l.map (·.1)).Nodup) (hx : x ∈ l) (hy : y ∈ l) (e : x.1 = y.1) : x = y := by
  have a : l.find? (fun q => q.1 == x.1) = some x := find_key (k := x.1) (v := x.2) hn hx
  have b : l.find? (fun q => q.1 == y.1) = some y := find_key (k := y.1) (v := y.2) hn hy
  rw [e, b] at a
  exact (Option.some.inj a).symm
theorem pair_inj {l : List (Nat × (Nat × Nat))} {x y : Nat × (Nat × Nat)} (hn : (l.map (·.2)).Nodup) (hx : x ∈ l) (hy : y ∈ l) (e : x.2 = y.2) : x = y := by
  have a : l.find? (fun q => q.2 == x.2) = some x := find_pair (k := x.1) (v := x.2) hn hx
  have b : l.find? (fun q => q.2 == y.2) = some y := find_pair (k := y.1) (v := y.2) hn hy
  rw [e, b] at a
  exact (Option.some.inj a).symm
/-- numbers below n, no two alike: n of them at most -/
theorem pigeon : ∀ (n : Nat) (l : List Nat), l.Nodup → (∀ x, x ∈ l → x < n) → l.length ≤ n
  | 0, l, _, h => by
    cases l with
    | nil => simp
    | cons a r => exact absurd (h a (List.mem_cons_self)) (by omega)
  | n + 1, l, hn, h => by
    by_cases hm : n ∈ l
    · have hl : (l.erase n).length = l.length - 1 := List.length_erase_of_mem hm
      have hp : 0 < l.length := List.length_pos_of_mem hm
      have i := pigeon n (l.erase n) (hn.erase n) fun x hx => by
        have h1 : x < n + 1 := h x (List.mem_of_mem_erase hx)
        have h2 : x ≠ n := fun e => by
          rw [e] at hx
          exact (List.Nodup.not_mem_erase hn) hx
        omega
      omega
    · have i := pigeon n l hn fun x hx => by
        have h1 : x < n + 1 := h x hx
        have h2 : x ≠ n := fun e => hm (by rw [← e]; exact hx)
        omega
      omega
/-! trees -/
inductive Spell (t : Tree) : Nat → B → Prop where
  | byte {k : Nat} : 3 ≤ k → k < FIRST → Spell t k [k - 3]
  | node {k p b : Nat} {s : B} : (k, (p, b)) ∈ t.nodes → FIRST ≤ k → Spell t p s → Spell t k (s ++ [b])
theorem Spell.pos {t : Tree} {k : Nat} {s : B} (h : Spell t k s) : 1 ≤ s.length := by
  cases h with
  | byte _ _ => simp
  | node _ _ _ => simp
theorem Spell.text {t : Tree} (hn : (t.nodes.map (·.1)).Nodup) {k : Nat} {s : B} (h : Spell t k s) : ∀ f, s.length ≤ f → t.text f k = s := by
  induction h with
  | @byte k h1 h2 =>
    intro f hf
    cases f with
    | zero => simp at hf
    | succ f =>
      unfold Tree.text
      rw [if_pos h2]
  | @node k p b s h1 h2 _ ih =>
    intro f hf
    cases f with
    | zero => simp at hf
    | succ f =>
      unfold Tree.text
      rw [if_neg (by omega), find_key hn h1]
      show t.text f p ++ [b] = s ++ [b]
      rw [ih f (by simpa using hf)]
theorem Spell.mono {t u : Tree} {k : Nat} {s : B} (h : Spell t k s) (m : ∀ x, x ∈ t.nodes → x ∈ u.nodes) : Spell u k s := by
  induction h with
  | byte h1 h2 => exact .byte h1 h2
  | node h1 h2 _ ih => exact .node (m _ h1) h2 ih
theorem Spell.real {t : Tree} {k : Nat} {s : B} (h : Spell t k s) : Ql65.real t k = true := by
  cases h with
  | byte h1 h2 => simp [Ql65.real, h1, h2]
  | node h1 h2 _ =>
    simp only [Ql65.real, Tree.has, Bool.or_eq_true]
    right
    exact List.any_eq_true.mpr ⟨_, h1, by simp⟩
/-- what holds of a tree at all times but for the free place -/
structure Wf0 (z : Sizes) (t : Tree) : Prop where
  keys : (t.nodes.map (·.1)).Nodup
  pairs : (t.nodes.map (·.2)).Nodup
  rng : ∀ x, x ∈ t.nodes → FIRST ≤ x.1 ∧ x.1 < z.codes
  nxt : FIRST ≤ t.next ∧ t.next < z.codes
  byt : ∀ x, x ∈ t.nodes → x.2.2 < 256
  spell : ∀ x, x ∈ t.nodes → ∃ s, Spell t x.1 s ∧ s.length ≤ z.longest
structure Wf (z : Sizes) (t : Tree) : Prop extends Wf0 z t where
  free : t.has t.next = false
/-- sizes as vb_begin takes them -/
structure Good (z : Sizes) : Prop where
  c1 : 512 ≤ z.codes
  c2 : z.codes ≤ 65536
  l1 : 6 ≤ z.longest
  l2 : z.longest ≤ 250
theorem good_of {z : Sizes} (h : right z = true) : Good z := by
  have h := of_decide_eq_true h
  exact ⟨h.1, h.2.1, h.2.2.1, h.2.2.2⟩
theorem wf_empty {z : Sizes} (g : Good z) : Wf z emptyTree where
  keys := List.nodup_nil
  pairs := List.nodup_nil
  rng := fun x h => by simp [emptyTree] at h
  nxt := ⟨Nat.le_refl _, Nat.lt_of_lt_of_le (by decide) g.c1⟩
  byt := fun x h => by simp [emptyTree] at h
  spell := fun x h => by simp [emptyTree] at h
  free := rfl
theorem has_iff {t : Tree} {k : Nat} : t.has k = true ↔ ∃ v, (k, v) ∈ t.nodes := by
  unfold Tree.has
  rw [List.any_eq_true]
  constructor
  · rintro ⟨x, h, e⟩
    have e' : x.1 = k := by simpa using e
    exact ⟨x.2, by rw [← e']; exact h⟩
  · rintro ⟨v, h⟩
    exact ⟨_, h, by simp⟩
theorem parent_iff {t : Tree} {k : Nat} : t.parent k = true ↔ ∃ j b, (j, (k, b)) ∈ t.nodes := by
  unfold Tree.parent
  rw [List.any_eq_true]
  constructor
  · rintro ⟨x, h, e⟩
    have e' : x.2.1 = k := by simpa using e
    exact ⟨x.1, x.2.2, by rw [← e']; exact h⟩
  · rintro ⟨j, b, h⟩
    exact ⟨_, h, by simp⟩
section
variable {z : Sizes} {t : Tree}
theorem Wf0.string_len (w : Wf0 z t) (g : Good z) {k : Nat} (h : Ql65.real t k = true) : ∃ s, Spell t k s ∧ s.length ≤ z.longest ∧ t.string k = s := by
  have hl : z.longest ≤ LONG + 1 := Nat.le_trans g.l2 (by decide)
  simp only [Ql65.real, Bool.or_eq_true, decide_eq_true_eq] at h
  rcases h with h | h
  · refine ⟨[k - 3], .byte h.1 h.2, ?_, ?_⟩
    · have := g.l1
      simp only [List.length_singleton]
      omega
    · exact (Spell.byte (t := t) h.1 h.2).text w.keys _ (by simp [LONG])
  · obtain ⟨v, hv⟩ := has_iff.mp h
    obtain ⟨s, h1, h2⟩ := w.spell _ hv
    exact ⟨s, h1, h2, h1.text w.keys _ (Nat.le_trans h2 hl)⟩
theorem Wf0.string_of (w : Wf0 z t) (g : Good z) {k : Nat} {s : B} (h : Spell t k s) (hl : s.length ≤ z.longest) : t.string k = s :=
  h.text w.keys _ (Nat.le_trans hl (Nat.le_trans g.l2 (by decide)))
theorem Wf0.string_node (w : Wf0 z t) (g : Good z) {k p b : Nat} (h : (k, (p, b)) ∈ t.nodes) : t.string k = t.string p ++ [b] ∧ Ql65.real t p = true := by
  obtain ⟨s, h1, h2⟩ := w.spell _ h
  have e := w.string_of g h1 h2
  have hk := (w.rng _ h).1
  cases h1 with
  | byte a c => exact absurd hk (Nat.not_le_of_lt c)
  | @node _ p' b' s' m _ q =>
    have := key_inj w.keys h m rfl
    cases this
    have e2 := w.string_of g q (by
      rw [List.length_append] at h2
      exact Nat.le_trans (Nat.le_add_right _ _) h2)
    exact ⟨by rw [e, e2], q.real⟩
theorem string_byte {k : Nat} (h : k < FIRST) : t.string k = [k - 3] := by
  unfold Tree.string Tree.text
  rw [if_pos h]
theorem Wf0.child (w : Wf0 z t) {p b k : Nat} : t.child p b = some k ↔ (k, (p, b)) ∈ t.nodes := by
  unfold Tree.child
  constructor
  · intro h
    cases e : t.nodes.find? (fun x => x.2 == (p, b)) with
    | none => rw [e] at h; cases h
    | some x =>
      rw [e] at h
      have h1 : x.1 = k := Option.some.inj h
      have h2 := List.find?_some e
      have h3 := List.mem_of_find?_eq_some e
      have h4 : x.2 = (p, b) := by simpa using h2
      rw [← h1, ← h4]
      exact h3
  · intro h
    rw [find_pair w.pairs h]
    rfl
theorem child_none {p b : Nat} : t.child p b = none ↔ ¬ (p, b) ∈ t.nodes.map (·.2) := by
  unfold Tree.child
  rw [Option.map_eq_none_iff, List.find?_eq_none]
  constructor
  · intro h m
    obtain ⟨x, hx, e⟩ := List.mem_map.mp m
    exact h x hx (by simpa using e)
  · intro h x hx e
    exact h (List.mem_map.mpr ⟨x, hx, by simpa using e⟩)
/-- a tree that has a node has one that is nobody's parent -/
theorem leaf (w : Wf0 z t) (g : Good z) (h : t.nodes ≠ []) : ∃ L, FIRST ≤ L ∧ L < z.codes ∧ t.parent L = false := by
  -- the one whose string is longest
  have main : ∀ n, (∃ x, x ∈ t.nodes ∧ z.longest ≤ (t.string x.1).length + n) → ∃ L, FIRST ≤ L ∧ L < z.codes ∧ t.parent L = false := by
    intro n
    induction n with
    | zero =>
      rintro ⟨x, hx, hl⟩
      refine ⟨x.1, (w.rng _ hx).1, (w.rng _ hx).2, ?_⟩
      cases e : t.parent x.1 with
      | false => rfl
      | true =>
        obtain ⟨j, b, hj⟩ := parent_iff.mp e
        have e1 := (w.string_node g hj).1
        obtain ⟨s, h1, h2, h3⟩ := w.string_len g (k := j) (by
          simp only [Ql65.real, Bool.or_eq_true]
          exact .inr (has_iff.mpr ⟨_, hj⟩))
        rw [← h3, e1, List.length_append] at h2
        simp only [List.length_singleton] at h2
        omega
    | succ n ih =>
      rintro ⟨x, hx, hl⟩
      cases e : t.parent x.1 with
      | false => exact ⟨x.1, (w.rng _ hx).1, (w.rng _ hx).2, e⟩
      | true =>
        obtain ⟨j, b, hj⟩ := parent_iff.mp e
        have e1 := (w.string_node g hj).1
        refine ih ⟨_, hj, ?_⟩
        show z.longest ≤ (t.string j).length + n
        rw [e1, List.length_append]
        simp only [List.length_singleton]
        omega
  cases e : t.nodes with
  | nil => exact absurd e h
  | cons x r => exact main z.longest ⟨x, by rw [e]; exact List.mem_cons_self, Nat.le_add_left _ _⟩
end
/-! next goes on -/
theorem after_rng {z : Sizes} (g : Good z) {k : Nat} (h : FIRST ≤ k) : FIRST ≤ after z k ∧ after z k < z.codes := by
  unfold after
  have := g.c1
  have hf : FIRST = 259 := rfl
  split <;> omega
/-- how far it is from k to L, round and round -/
def dist (z : Sizes) (L k : Nat) : Nat := if k ≤ L then L - k else (z.codes - k) + (L - FIRST)
theorem dist_after {z : Sizes} {L k : Nat} (hL : FIRST ≤ L) (hL2 : L < z.codes) (hk : FIRST ≤ k) (hk2 : k < z.codes) (h : k ≠ L) : dist z L (after z k) + 1 = dist z L k := by
  have hf : FIRST = 259 := rfl
  unfold dist after
  by_cases a : k + 1 < z.codes
  · rw [if_pos a]
    split <;> split <;> omega
  · rw [if_neg a]
    split <;> split <;> omega
theorem dist_lt {z : Sizes} {L k : Nat} (hL : FIRST ≤ L) (hL2 : L < z.codes) (hk : FIRST ≤ k) (hk2 : k < z.codes) : dist z L k < z.codes := by
  have hf : FIRST = 259 := rfl
  unfold dist
  split <;> omega
theorem goOn_past {z : Sizes} {f : Nat} {t : Tree} (h1 : t.has (after z t.next) = true) (h2 : t.parent (after z t.next) = true) : goOn z (f + 1) t = goOn z f { t with next := after z t.next } := by
  rw [show goOn z (f + 1) t = _ from by unfold goOn; rfl]
  rw [if_pos ⟨h1, h2⟩]
theorem goOn_here {z : Sizes} {f : Nat} {t : Tree} (h2 : t.parent (after z t.next) = false) : goOn z (f + 1) t = ⟨t.nodes.filter fun x => x.1 != after z t.next, after z t.next⟩ := by
  rw [show goOn z (f + 1) t = _ from by unfold goOn; rfl]
  rw [if_neg (by rw [h2]; simp)]
section
variable {z : Sizes} {t : Tree}
theorem Wf0.parent_has (w : Wf0 z t) (g : Good z) {k : Nat} (hk : FIRST ≤ k) (h : t.parent k = true) : t.has k = true := by
  obtain ⟨j, b, hj⟩ := parent_iff.mp h
  have := (w.string_node g hj).2
  simp only [Ql65.real, Bool.or_eq_true, decide_eq_true_eq] at this
  rcases this with q | q
  · exact absurd hk (Nat.not_le_of_lt q.2)
  · exact q
theorem Wf0.moved (w : Wf0 z t) {k : Nat} (h : FIRST ≤ k ∧ k < z.codes) : Wf0 z { t with next := k } where
  keys := w.keys
  pairs := w.pairs
  rng := w.rng
  nxt := h
  byt := w.byt
  spell := fun x hx => by
    obtain ⟨s, h1, h2⟩ := w.spell x hx
    exact ⟨s, h1.mono fun _ q => q, h2⟩
/-- strings of others stay where a node that is nobody's parent goes -/
theorem Spell.without {k : Nat} (h : t.parent k = false) {y : Nat} {s : B} (q : Spell t y s) (hy : y ≠ k) {n : Nat} : Spell ⟨t.nodes.filter fun x => x.1 != k, n⟩ y s := by
  induction q with
  | byte h1 h2 => exact .byte h1 h2
  | @node y p b s h1 h2 _ ih =>
    refine .node (List.mem_filter.mpr ⟨h1, by simpa using hy⟩) h2 (ih ?_)
    intro e
    rw [e] at h1
    rw [parent_iff.mpr ⟨_, _, h1⟩] at h
    cases h
theorem Wf0.without (w : Wf0 z t) {k : Nat} (hk : FIRST ≤ k ∧ k < z.codes) (h : t.parent k = false) : Wf z ⟨t.nodes.filter fun x => x.1 != k, k⟩ where
  keys := w.keys.sublist (List.filter_sublist.map _)
  pairs := w.pairs.sublist (List.filter_sublist.map _)
  rng := fun x hx => w.rng x (List.mem_filter.mp hx).1
  nxt := hk
  byt := fun x hx => w.byt x (List.mem_filter.mp hx).1
  spell := fun x hx => by
    obtain ⟨h1, h2⟩ := List.mem_filter.mp hx
    obtain ⟨s, q1, q2⟩ := w.spell x h1
    exact ⟨s, q1.without h (by simpa using h2), q2⟩
  free := by
    cases e : Tree.has ⟨t.nodes.filter fun x => x.1 != k, k⟩ k with
    | false => rfl
    | true =>
      obtain ⟨v, hv⟩ := has_iff.mp e
      have := (List.mem_filter.mp hv).2
      simp at this
/-- one more node -/
theorem Wf.more (w : Wf z t) (g : Good z) {p b : Nat} (hp : Ql65.real t p = true) (hb : b < 256) (ha : adds z t p b = true) : Wf0 z { t with nodes := t.nodes ++ [(t.next, (p, b))] } := by
  simp only [adds, Bool.and_eq_true, decide_eq_true_eq, Option.isNone_iff_eq_none] at ha
  obtain ⟨hc, hl⟩ := ha
  have hc' := child_none.mp hc
  have hfree : ¬ t.next ∈ t.nodes.map (·.1) := fun m => by
    obtain ⟨x, hx, e⟩ := List.mem_map.mp m
    have : t.has t.next = true := has_iff.mpr ⟨x.2, by rw [← e]; exact hx⟩
    rw [w.free] at this
    cases this
  have sub : ∀ x, x ∈ t.nodes → x ∈ t.nodes ++ [(t.next, (p, b))] := fun x hx => List.mem_append.mpr (.inl hx)
  constructor
  · rw [List.map_append]
    refine List.nodup_append.mpr ⟨w.keys, by simp, ?_⟩
    intro a ha c hc e
    simp at hc
    rw [e, hc] at ha
    exact hfree ha
  · rw [List.map_append]
    refine List.nodup_append.mpr ⟨w.pairs, by simp, ?_⟩
    intro a ha c hc e
    simp at hc
    rw [e, hc] at ha
    exact hc' ha
  · intro x hx
    rcases List.mem_append.mp hx with q | q
    · exact w.rng x q
    · have : x = (t.next, (p, b)) := by simpa using q
      rw [this]
      exact w.nxt
  · exact w.nxt
  · intro x hx
    rcases List.mem_append.mp hx with q | q
    · exact w.byt x q
    · have : x = (t.next, (p, b)) := by simpa using q
      rw [this]
      exact hb
  · intro x hx
    rcases List.mem_append.mp hx with q | q
    · obtain ⟨s, h1, h2⟩ := w.spell x q
      exact ⟨s, h1.mono sub, h2⟩
    · have : x = (t.next, (p, b)) := by simpa using q
      rw [this]
      obtain ⟨s, h1, h2, h3⟩ := w.string_len g hp
      refine ⟨s ++ [b], .node (List.mem_append.mpr (.inr (by simp))) w.nxt.1 (h1.mono sub), ?_⟩
      rw [h3] at hl
      rw [List.length_append]
      simp only [List.length_singleton]
      omega
end
end Sl
namespace Sl
open Ql65
/-- the tree with one more node, before next goes on -/
def grown (t : Tree) (p b : Nat) : Tree := { t with nodes := t.nodes ++ [(t.next, (p, b))] }
/-- node is k while next goes on in t: what is still to come is what goOn gives -/
structure Seek (z : Sizes) (t : Tree) (L k f : Nat) : Prop where
  rng : FIRST ≤ k ∧ k < z.codes
  run : ∃ prev, after z prev = k ∧ goOn z (f + 1) { t with next := prev } = goOn z z.codes t
  far : dist z L k ≤ f
section
variable {z : Sizes} {t : Tree} {L k f : Nat}
theorem Seek.start (g : Good z) (w : Wf0 z t) (hL : FIRST ≤ L ∧ L < z.codes) : Seek z t L (after z t.next) (z.codes - 1) := by
  have hr := after_rng g w.nxt.1
  have hd := dist_lt hL.1 hL.2 hr.1 hr.2
  have hc := g.c1
  refine ⟨hr, ⟨t.next, rfl, ?_⟩, by omega⟩
  rw [show z.codes - 1 + 1 = z.codes by omega]
theorem Seek.past (g : Good z) (w : Wf0 z t) (hL : FIRST ≤ L ∧ L < z.codes) (pL : t.parent L = false) (s : Seek z t L k f) (h : t.parent k = true) : 1 ≤ f ∧ Seek z t L (after z k) (f - 1) := by
  obtain ⟨hr, ⟨prev, hp, hg⟩, hf⟩ := s
  have ne : k ≠ L := fun e => by
    rw [e, pL] at h
    cases h
  have hd := dist_after hL.1 hL.2 hr.1 hr.2 ne
  have f1 : 1 ≤ f := by omega
  refine ⟨f1, after_rng g hr.1, ⟨k, rfl, ?_⟩, by omega⟩
  rw [← hg, show f - 1 + 1 = f by omega]
  have e := goOn_past (z := z) (f := f) (t := { t with next := prev }) (by
    show t.has (after z prev) = true
    rw [hp]
    exact w.parent_has g hr.1 h) (by
    show t.parent (after z prev) = true
    rw [hp]
    exact h)
  rw [e]
  show _ = goOn z f { t with next := after z prev }
  rw [hp]
theorem Seek.here (s : Seek z t L k f) (h : t.parent k = false) : goOn z z.codes t = ⟨t.nodes.filter fun x => x.1 != k, k⟩ := by
  obtain ⟨hr, ⟨prev, hp, hg⟩, hf⟩ := s
  have e := goOn_here (z := z) (f := f) (t := { t with next := prev }) (by
    show t.parent (after z prev) = false
    rw [hp]
    exact h)
  rw [← hg, e]
  show (⟨t.nodes.filter fun x => x.1 != after z prev, after z prev⟩ : Tree) = _
  rw [hp]
end
section
variable {z : Sizes} {t : Tree}
theorem real_more {p b y : Nat} (h : Ql65.real t y = true) : Ql65.real (grown t p b) y = true := by
  simp only [Ql65.real, Bool.or_eq_true, decide_eq_true_eq] at h ⊢
  rcases h with h | h
  · exact .inl h
  · obtain ⟨v, hv⟩ := has_iff.mp h
    exact .inr (has_iff.mpr ⟨v, List.mem_append.mpr (.inl hv)⟩)
theorem Wf.string_more (w : Wf z t) (g : Good z) {p b y : Nat} (w1 : Wf0 z (grown t p b)) (h : Ql65.real t y = true) : (grown t p b).string y = t.string y := by
  obtain ⟨s, h1, h2, h3⟩ := w.string_len g h
  rw [h3]
  exact w1.string_of g (h1.mono fun x hx => List.mem_append.mpr (.inl hx)) h2
theorem Wf.string_new (w : Wf z t) (g : Good z) {p b : Nat} (w1 : Wf0 z (grown t p b)) (h : Ql65.real t p = true) : (grown t p b).string t.next = t.string p ++ [b] := by
  have e := (w1.string_node g (k := t.next) (p := p) (b := b) (List.mem_append.mpr (.inr (by simp)))).1
  rw [e, w.string_more g w1 h]
theorem Wf0.string_without (w : Wf0 z t) (g : Good z) {k y : Nat} (hk : FIRST ≤ k ∧ k < z.codes) (hp : t.parent k = false) (h : Ql65.real t y = true) (hy : y ≠ k) : Tree.string ⟨t.nodes.filter fun x => x.1 != k, k⟩ y = t.string y := by
  obtain ⟨s, h1, h2, h3⟩ := w.string_len g h
  rw [h3]
  have w2 := w.without hk hp
  have w3 : Wf0 z ⟨t.nodes.filter fun x => x.1 != k, k⟩ := w2.toWf0
  have e := w3.string_of g (h1.without hp hy) h2
  exact e
theorem real_without {k y n : Nat} (h : Ql65.real t y = true) (hy : y ≠ k) : Ql65.real ⟨t.nodes.filter fun x => x.1 != k, n⟩ y = true := by
  simp only [Ql65.real, Bool.or_eq_true, decide_eq_true_eq] at h ⊢
  rcases h with h | h
  · exact .inl h
  · obtain ⟨v, hv⟩ := has_iff.mp h
    exact .inr (has_iff.mpr ⟨v, List.mem_filter.mpr ⟨hv, by simpa using hy⟩⟩)
theorem real_lt (w : Wf0 z t) (g : Good z) {y : Nat} (h : Ql65.real t y = true) : 3 ≤ y ∧ y < z.codes := by
  have := g.c1
  have hf : FIRST = 259 := rfl
  simp only [Ql65.real, Bool.or_eq_true, decide_eq_true_eq] at h
  rcases h with h | h
  · omega
  · obtain ⟨v, hv⟩ := has_iff.mp h
    have := w.rng _ hv
    have h1 : FIRST ≤ y := this.1
    have h2 : y < z.codes := this.2
    omega
/-- how many nodes have p for their parent -/
def heirs (t : Tree) (p : Nat) : Nat := (t.nodes.filter fun x => x.2.1 == p).length
theorem heirs_parent {p : Nat} : t.parent p = decide (0 < heirs t p) := by
  cases e : t.parent p with
  | true =>
    obtain ⟨j, b, h⟩ := parent_iff.mp e
    exact (decide_eq_true (List.length_pos_of_mem (List.mem_filter.mpr ⟨h, by simp⟩))).symm
  | false =>
    refine (decide_eq_false fun h => ?_).symm
    obtain ⟨x, hx⟩ := List.exists_mem_of_length_pos h
    obtain ⟨h1, h2⟩ := List.mem_filter.mp hx
    have h3 : x.2.1 = p := by simpa using h2
    rw [parent_iff.mpr ⟨x.1, x.2.2, by rw [← h3]; exact h1⟩] at e
    cases e
theorem heirs_more {p b q : Nat} : heirs (grown t p b) q = heirs t q + if p = q then 1 else 0 := by
  unfold heirs grown
  rw [List.filter_append, List.length_append]
  congr 1
  by_cases e : p = q
  · subst e
    simp
  · rw [if_neg e]
    simp [e]
theorem heirs_without {k p b q n : Nat} (hk : (t.nodes.map (·.1)).Nodup) (h : (k, (p, b)) ∈ t.nodes) : heirs ⟨t.nodes.filter fun x => x.1 != k, n⟩ q + (if p = q then 1 else 0) = heirs t q := by
  unfold heirs
  show ((t.nodes.filter fun x => x.1 != k).filter fun x => x.2.1 == q).length + _ = _
  revert hk h
  generalize t.nodes = l
  induction l with
  | nil => intro _ h; simp at h
  | cons x r ih =>
    intro hk h
    have hk' : (x.1 :: r.map (·.1)).Nodup := hk
    obtain ⟨h1, h2⟩ := List.nodup_cons.mp hk'
    rcases List.mem_cons.mp h with e | e
    · subst e
      have hf : r.filter (fun x => x.1 != k) = r := by
        refine List.filter_eq_self.mpr fun y hy => ?_
        have : y.1 ≠ k := fun q => h1 (List.mem_map.mpr ⟨y, hy, q⟩)
        simpa using this
      rw [List.filter_cons, if_neg (by simp), hf, List.filter_cons]
      by_cases c : p = q
      · rw [if_pos c, if_pos (by simpa using c)]
        rfl
      · rw [if_neg c, if_neg (by simpa using c)]
        rfl
    · have xk : x.1 ≠ k := fun q => h1 (List.mem_map.mpr ⟨_, e, q.symm⟩)
      have i := ih h2 e
      rw [List.filter_cons, if_pos (by simpa using xk), List.filter_cons, List.filter_cons]
      by_cases c : (x.2.1 == q) = true
      · rw [if_pos c, if_pos c, List.length_cons, List.length_cons]
        omega
      · rw [if_neg c, if_neg c]
        exact i
theorem without_none {k : Nat} (h : t.has k = false) : (t.nodes.filter fun x => x.1 != k) = t.nodes := by
  refine List.filter_eq_self.mpr fun y hy => ?_
  have : y.1 ≠ k := fun q => by
    rw [has_iff.mpr ⟨y.2, by rw [← q]; exact hy⟩] at h
    cases h
  simpa using this
/-- by its pair it is found just as by its number -/
theorem without_pair {k p b : Nat} (hk : (t.nodes.map (·.1)).Nodup) (hp : (t.nodes.map (·.2)).Nodup) (h : (k, (p, b)) ∈ t.nodes) : (t.nodes.filter fun x => decide (x.2 ≠ (p, b))) = t.nodes.filter fun x => x.1 != k := by
  refine List.filter_congr fun x hx => ?_
  by_cases c : x.1 = k
  · have := key_inj hk hx h c
    subst this
    simp
  · have c2 : x.2 ≠ (p, b) := fun e => c (congrArg Prod.fst (pair_inj hp hx h e))
    simp [c, c2]
theorem nodes_len (w : Wf0 z t) : t.nodes.length ≤ z.codes := by
  have := pigeon z.codes (t.nodes.map (·.1)) w.keys fun x hx => by
    obtain ⟨y, hy, e⟩ := List.mem_map.mp hx
    rw [← e]
    exact (w.rng y hy).2
  rwa [List.length_map] at this
/-- **a string added**: what comes of it -/
theorem Wf.added (w : Wf z t) (g : Good z) {p b : Nat} (hp : Ql65.real t p = true) (hb : b < 256) (ha : adds z t p b = true) :
    Wf0 z (grown t p b) ∧ (∃ L, (FIRST ≤ L ∧ L < z.codes) ∧ (grown t p b).parent L = false) ∧ t.add z p b = goOn z z.codes (grown t p b) := by
  have w1 := w.more g hp hb ha
  obtain ⟨L, h1, h2, h3⟩ := leaf w1 g (by simp)
  exact ⟨w1, ⟨L, ⟨h1, h2⟩, h3⟩, rfl⟩
theorem Wf.add (w : Wf z t) (g : Good z) {p b : Nat} (hp : Ql65.real t p = true) (hb : b < 256) (ha : adds z t p b = true) :
    ∃ k, FIRST ≤ k ∧ k < z.codes ∧ (grown t p b).parent k = false ∧ t.add z p b = ⟨(grown t p b).nodes.filter fun x => x.1 != k, k⟩ ∧ Wf z (t.add z p b) := by
  obtain ⟨w1, ⟨L, hL, pL⟩, e⟩ := w.added g hp hb ha
  have run : ∀ f k, Seek z (grown t p b) L k f → ∃ k', FIRST ≤ k' ∧ k' < z.codes ∧ (grown t p b).parent k' = false ∧ goOn z z.codes (grown t p b) = ⟨(grown t p b).nodes.filter fun x => x.1 != k', k'⟩ := by
    intro f
    induction f with
    | zero =>
      intro k s
      cases q : (grown t p b).parent k with
      | false => exact ⟨k, s.rng.1, s.rng.2, q, s.here q⟩
      | true => exact absurd (s.past g w1 hL pL q).1 (by decide)
    | succ f ih =>
      intro k s
      cases q : (grown t p b).parent k with
      | false => exact ⟨k, s.rng.1, s.rng.2, q, s.here q⟩
      | true => exact ih _ (s.past g w1 hL pL q).2
  obtain ⟨k, h1, h2, h3, h4⟩ := run _ _ (Seek.start g w1 hL)
  rw [← e] at h4
  exact ⟨k, h1, h2, h3, h4, by rw [h4]; exact w1.without ⟨h1, h2⟩ h3⟩
end
end Sl
namespace Sl
open Ql65
theorem pack_byte {n : Nat} (h : n < 256) : pack (bitsOf 8 n) = ([n], []) := by
  have hl : (bitsOf 8 n).length = 8 := bitsOf_length 8 n
  rw [pack_long (by omega)]
  have e1 : (bitsOf 8 n).take 8 = bitsOf 8 n := List.take_of_length_le (by omega)
  have e2 : (bitsOf 8 n).drop 8 = [] := List.drop_of_length_le (by omega)
  rw [e1, e2, valueOf_bitsOf 8 n (by omega), pack_short (by decide)]
/-- what holds of a sender between two calls -/
structure SOk (z : Sizes) (s : Sender) : Prop where
  tree : Wf z s.tree
  b1 : 9 ≤ s.bits
  b2 : s.bits ≤ 16
  esc : s.escape < 256
  wt : s.waits.length < 8
  pl : s.short = false → s.string = none ∧ s.waits = [] ∧ s.last = none
  st : ∀ k, s.string = some k → Ql65.real s.tree k = true
theorem sok_start {z : Sizes} (g : Good z) : SOk z startS where
  tree := wf_empty g
  b1 := Nat.le_refl _
  b2 := by decide
  esc := by decide
  wt := by decide
  pl := fun _ => ⟨rfl, rfl, rfl⟩
  st := fun k h => by cases h
theorem turn_lt (e : Nat) : turn e < 256 := Nat.mod_lt _ (by decide)
/-- the bits behind a number sent -/
theorem numbered_bits : ∀ (f b k : Nat), 9 ≤ b → b ≤ 16 → k < 65536 → 16 ≤ f + b → 9 ≤ (numbered f b k).2 ∧ (numbered f b k).2 ≤ 16 ∧ k < 2 ^ (numbered f b k).2 ∧ b ≤ (numbered f b k).2
  | 0, b, k, h1, h2, h3, h4 => by
    have : b = 16 := by omega
    subst this
    exact ⟨(by show 9 ≤ 16; decide), (by show 16 ≤ 16; decide), h3, Nat.le_refl _⟩
  | f + 1, b, k, h1, h2, h3, h4 => by
    by_cases h : k < 2 ^ b
    · rw [numbered_lt h]
      exact ⟨h1, h2, h, Nat.le_refl _⟩
    · have hb : b ≠ 16 := fun e => by
        rw [e] at h
        exact h h3
      rw [numbered_ge h]
      have i := numbered_bits f (b + 1) k (by omega) (by omega) h3 (by omega)
      exact ⟨i.1, i.2.1, i.2.2.1, by show b ≤ (numbered f (b + 1) k).2; omega⟩
section
variable {z : Sizes} {s : Sender}
theorem SOk.lt (o : SOk z s) (g : Good z) {k : Nat} (h : s.string = some k) : k < 65536 := by
  have := real_lt o.tree.toWf0 g (o.st k h)
  have := g.c2
  omega
theorem number_tree {k : Nat} : (s.number k).1.tree = s.tree := rfl
theorem number_waits {k : Nat} : (s.number k).1.waits.length < 8 := (pack_rest _).1
theorem number_bits (h1 : 9 ≤ s.bits) (h2 : s.bits ≤ 16) {k : Nat} (hk : k < 65536) : 9 ≤ (s.number k).1.bits ∧ (s.number k).1.bits ≤ 16 := by
  have := numbered_bits 16 s.bits k h1 h2 hk (by omega)
  exact ⟨this.1, this.2.1⟩
theorem SOk.byte (o : SOk z s) (g : Good z) {b : Nat} (hb : b < 256) : SOk z (s.byte z b).1 := by
  unfold Sender.byte
  cases hs : s.short with
  | false =>
    rw [if_pos rfl]
    by_cases e : b = s.escape
    · rw [if_pos e]
      exact ⟨o.tree, o.b1, o.b2, turn_lt _, o.wt, fun _ => o.pl hs, o.st⟩
    · rw [if_neg e]
      exact o
  | true =>
    rw [if_neg (by decide)]
    cases hk : s.string with
    | none =>
      refine ⟨o.tree, o.b1, o.b2, o.esc, o.wt, fun h => ?_, fun k h => ?_⟩
      · have : true = false := h
        cases this
      · have : b + 3 = k := Option.some.inj h
        rw [← this]
        have hf : FIRST = 259 := rfl
        simp only [Ql65.real, Bool.or_eq_true, decide_eq_true_eq]
        exact .inl ⟨by omega, by omega⟩
    | some k =>
      have hr := o.st k hk
      dsimp only
      by_cases hc : (s.tree.child k b).isSome = true ∧ s.tree.child k b ≠ s.last
      · rw [if_pos hc]
        refine ⟨o.tree, o.b1, o.b2, o.esc, o.wt, fun h => ?_, fun j h => ?_⟩
        · have : true = false := h
          cases this
        · have h' : s.tree.child k b = some j := h
          have m := o.tree.toWf0.child.mp h'
          simp only [Ql65.real, Bool.or_eq_true]
          exact .inr (has_iff.mpr ⟨_, m⟩)
      · rw [if_neg hc]
        have nb := number_bits o.b1 o.b2 (o.lt g hk)
        refine ⟨?_, nb.1, nb.2, o.esc, number_waits, fun h => ?_, fun j h => ?_⟩
        · show Wf z (if adds z s.tree k b = true then s.tree.add z k b else s.tree)
          by_cases ha : adds z s.tree k b = true
          · rw [if_pos ha]
            obtain ⟨_, _, _, _, _, w⟩ := o.tree.add g hr hb ha
            exact w
          · rw [if_neg ha]
            exact o.tree
        · have : s.short = false := h
          rw [hs] at this
          cases this
        · have : b + 3 = j := Option.some.inj h
          rw [← this]
          have hf : FIRST = 259 := rfl
          simp only [Ql65.real, Bool.or_eq_true, decide_eq_true_eq]
          exact .inl ⟨by omega, by omega⟩
theorem put_snoc : ∀ (l : B) (s : Sender) (b : Nat), s.put z (l ++ [b]) = (((s.put z l).1.byte z b).1, (s.put z l).2 ++ ((s.put z l).1.byte z b).2)
  | [], s, b => by
    show ((s.byte z b).1, (s.byte z b).2 ++ []) = ((s.byte z b).1, [] ++ (s.byte z b).2)
    rw [List.append_nil, List.nil_append]
  | x :: r, s, b => by
    have i := put_snoc r (s.byte z x).1 b
    show ((Sender.put z (s.byte z x).1 (r ++ [b])).1, (s.byte z x).2 ++ (Sender.put z (s.byte z x).1 (r ++ [b])).2) = _
    rw [i]
    show (_, (s.byte z x).2 ++ (_ ++ _)) = (_, ((s.byte z x).2 ++ _) ++ _)
    rw [List.append_assoc]
    rfl
theorem SOk.put (g : Good z) : ∀ (l : B) (s : Sender), SOk z s → (∀ x, x ∈ l → x < 256) → SOk z (s.put z l).1
  | [], _, o, _ => o
  | x :: r, s, o, h => SOk.put g r _ (o.byte g (h x List.mem_cons_self)) fun y hy => h y (List.mem_cons_of_mem _ hy)
theorem padded_len (l : List Bool) (h : l.length < 8) : pack (padded l) = (if l = [] then [] else [valueOf l], []) := by
  cases l with
  | nil => rfl
  | cons x r =>
    rw [if_neg (by simp)]
    have hl : (x :: r).length = r.length + 1 := rfl
    have hp : (padded (x :: r)).length = 8 := by
      unfold padded
      rw [List.length_append, List.length_replicate]
      omega
    rw [pack_long (by omega)]
    have e1 : (padded (x :: r)).take 8 = padded (x :: r) := List.take_of_length_le (by omega)
    have e2 : (padded (x :: r)).drop 8 = [] := List.drop_of_length_le (by omega)
    rw [e1, e2, pack_short (by decide)]
    congr 1
    congr 1
    unfold padded
    rw [valueOf_append, valueOf_falses]
    omega
theorem SOk.ends (o : SOk z s) (g : Good z) {sign : Nat} (hs : sign < 512) : SOk z { (s.ends sign).1 with short := s.short } ∧ (s.ends sign).1.waits = [] ∧ (s.ends sign).1.string = none ∧ (s.ends sign).1.last = none ∧ (s.ends sign).1.short = s.short := by
  unfold Sender.ends
  cases hk : s.string with
  | none =>
    have nb := number_bits o.b1 o.b2 (k := sign) (by omega)
    refine ⟨⟨o.tree, nb.1, nb.2, o.esc, (by show 0 < 8; decide), fun _ => ⟨rfl, rfl, rfl⟩, fun k h => by cases h⟩, rfl, rfl, rfl, rfl⟩
  | some k =>
    have n1 := number_bits o.b1 o.b2 (o.lt g hk)
    have nb := number_bits (s := (s.number k).1) n1.1 n1.2 (k := sign) (by omega)
    refine ⟨⟨o.tree, nb.1, nb.2, o.esc, (by show 0 < 8; decide), fun _ => ⟨rfl, rfl, rfl⟩, fun k h => by cases h⟩, rfl, rfl, rfl, rfl⟩
theorem SOk.flush (o : SOk z s) (g : Good z) : SOk z s.flush.1 := by
  unfold Sender.flush
  by_cases h : s.short = false ∨ s.string = none
  · rw [if_pos h]
    exact o
  · rw [if_neg h]
    obtain ⟨q, h1, h2, h3, h4⟩ := o.ends g (sign := 1) (by decide)
    refine ⟨q.tree, q.b1, q.b2, q.esc, q.wt, fun _ => ⟨h2, h1, h3⟩, fun k e => ?_⟩
    rw [h2] at e
    cases e
theorem SOk.mode (o : SOk z s) (g : Good z) {m : Bool} {x : Sender × B} (h : s.mode m = some x) : SOk z x.1 := by
  unfold Sender.mode at h
  by_cases h1 : s.short = m
  · rw [if_pos h1] at h
    cases h
  · rw [if_neg h1] at h
    by_cases h2 : m = true
    · rw [if_pos h2] at h
      have := Option.some.inj h
      subst this
      exact ⟨o.tree, o.b1, o.b2, o.esc, o.wt, fun q => (by cases q), o.st⟩
    · rw [if_neg h2] at h
      have := Option.some.inj h
      subst this
      obtain ⟨q, h1, h2, h3, h4⟩ := o.ends g (sign := 0) (by decide)
      refine ⟨q.tree, q.b1, q.b2, q.esc, q.wt, fun _ => ⟨h2, h1, h3⟩, fun k e => ?_⟩
      rw [show Sender.string { (s.ends 0).1 with short := false } = none from h2] at e
      cases e
theorem SOk.reset (g : Good z) {x : Sender × B} (h : s.reset = some x) : SOk z x.1 := by
  unfold Sender.reset at h
  by_cases h1 : s.short = true
  · rw [if_pos h1] at h
    cases h
  · rw [if_neg h1] at h
    have := Option.some.inj h
    subst this
    exact sok_start g
end
end Sl
namespace Sl
open Ql65
/-- what holds of a receiver between two octets -/
structure ROk (z : Sizes) (r : Receiver) : Prop where
  tree : Wf z r.tree
  b1 : 9 ≤ r.bits
  b2 : r.bits ≤ 16
  esc : r.escape < 256
  wt : r.waits.length < r.bits
  bf : ∀ k, r.before = some k → Ql65.real r.tree k = true
  pl : r.short = false → r.waits = [] ∧ r.before = none
  hf : r.short = true → r.half = false
theorem rok_start {z : Sizes} (g : Good z) : ROk z startR where
  tree := wf_empty g
  b1 := Nat.le_refl _
  b2 := by decide
  esc := by decide
  wt := by decide
  bf := fun k h => by cases h
  pl := fun _ => ⟨rfl, rfl⟩
  hf := fun h => by cases h
section
variable {z : Sizes} {r : Receiver}
/-- the tree behind a string's number -/
def grownBy (z : Sizes) (t : Tree) (p : Option Nat) (b : Nat) : Tree := match p with
  | some p => if adds z t p b = true then t.add z p b else t
  | none => t
theorem Wf.grownBy {t : Tree} (w : Wf z t) (g : Good z) {p : Option Nat} {b : Nat} (hp : ∀ k, p = some k → Ql65.real t k = true) (hb : b < 256) : Wf z (grownBy z t p b) := by
  cases p with
  | none => exact w
  | some p =>
    show Wf z (if adds z t p b = true then t.add z p b else t)
    by_cases ha : adds z t p b = true
    · rw [if_pos ha]
      obtain ⟨_, _, _, _, _, w'⟩ := w.add g (hp p rfl) hb ha
      exact w'
    · rw [if_neg ha]
      exact w
/-- the bytes of a string are bytes -/
theorem Spell.bytes {t : Tree} (w : Wf0 z t) {k : Nat} {s : B} (h : Spell t k s) : ∀ x, x ∈ s → x < 256 := by
  induction h with
  | byte h1 h2 =>
    intro x hx
    have hf : FIRST = 259 := rfl
    simp at hx
    omega
  | node h1 h2 _ ih =>
    intro x hx
    rcases List.mem_append.mp hx with q | q
    · exact ih x q
    · have := w.byt _ h1
      simp at q
      rw [q]
      exact this
theorem Wf0.first {t : Tree} (w : Wf0 z t) (g : Good z) {k : Nat} (h : Ql65.real t k = true) : ∃ b s, t.string k = b :: s ∧ b < 256 ∧ (t.string k).headD 0 = b := by
  obtain ⟨s, h1, h2, h3⟩ := w.string_len g h
  cases s with
  | nil => exact absurd h1.pos (by simp)
  | cons b s => exact ⟨b, s, h3, h1.bytes w b List.mem_cons_self, by rw [h3]; rfl⟩
theorem string_eq (r : Receiver) (k : Nat) : Receiver.string z r k = if Ql65.real r.tree k = false then none
    else if Ql65.real (grownBy z r.tree r.before ((r.tree.string k).headD 0)) k = false then none
    else some ({ r with tree := grownBy z r.tree r.before ((r.tree.string k).headD 0), before := some k }, (grownBy z r.tree r.before ((r.tree.string k).headD 0)).string k) := rfl
theorem ROk.string (o : ROk z r) (g : Good z) {k : Nat} {x : Receiver × B} (hs : r.short = true) (h : Receiver.string z r k = some x) :
    ROk z x.1 ∧ x.1.bits = r.bits ∧ x.1.waits = r.waits ∧ x.1.short = r.short := by
  rw [string_eq] at h
  by_cases h1 : Ql65.real r.tree k = false
  · rw [if_pos h1] at h
    cases h
  · rw [if_neg h1] at h
    have h1' : Ql65.real r.tree k = true := by simpa using h1
    by_cases h2 : Ql65.real (grownBy z r.tree r.before ((r.tree.string k).headD 0)) k = false
    · rw [if_pos h2] at h
      cases h
    · rw [if_neg h2] at h
      have := Option.some.inj h
      subst this
      obtain ⟨b, s, e1, e2, e3⟩ := o.tree.toWf0.first g h1'
      refine ⟨⟨o.tree.grownBy g o.bf (by rw [e3]; exact e2), o.b1, o.b2, o.esc, o.wt, fun j e => ?_, fun q => ?_, o.hf⟩, rfl, rfl, rfl⟩
      · have : k = j := Option.some.inj e
        rw [← this]
        simpa using h2
      · have : r.short = false := q
        rw [hs] at this
        cases this
/-- one number at most is whole behind an octet -/
def oneNumber (z : Sizes) (r : Receiver) (l : List Bool) : Option (Receiver × B) :=
  if l.length < r.bits then some ({ r with waits := l }, []) else
    if valueOf (l.take r.bits) ≤ 1 then (if ((l.drop r.bits).all fun b => !b) = true then some ({ r with waits := [], before := none, short := valueOf (l.take r.bits) == 1 }, []) else none)
    else if valueOf (l.take r.bits) = 2 then (if z.codes ≤ 2 ^ r.bits then none else some ({ r with waits := l.drop r.bits, bits := r.bits + 1 }, []))
    else Receiver.string z { r with waits := l.drop r.bits } (valueOf (l.take r.bits))
theorem numbers_stop {f : Nat} (h : r.waits.length < r.bits) : Receiver.numbers z f r = some (r, []) := by
  cases f with
  | zero => rfl
  | succ f =>
    unfold Receiver.numbers
    rw [if_pos h]
theorem numbers_one (o : ROk z r) (g : Good z) (hs : r.short = true) {c : Nat} : Receiver.numbers z 8 { r with waits := r.waits ++ bitsOf 8 c } = oneNumber z r (r.waits ++ bitsOf 8 c) := by
  have hl : (r.waits ++ bitsOf 8 c).length = r.waits.length + 8 := by rw [List.length_append, bitsOf_length]
  generalize r.waits ++ bitsOf 8 c = l at hl
  have hw := o.wt
  have hb := o.b1
  have hd : (l.drop r.bits).length = l.length - r.bits := List.length_drop
  unfold oneNumber
  rw [show Receiver.numbers z 8 { r with waits := l } = _ from by unfold Receiver.numbers; rfl]
  by_cases h : l.length < r.bits
  · rw [if_pos h, if_pos h]
  · rw [if_neg h, if_neg h]
    dsimp only
    by_cases h1 : valueOf (l.take r.bits) ≤ 1
    · rw [if_pos h1, if_pos h1]
      by_cases h2 : ((l.drop r.bits).all fun b => !b) = true
      · rw [if_pos h2, if_pos ⟨h2, by omega⟩]
      · rw [if_neg h2, if_neg fun q => h2 q.1]
    · rw [if_neg h1, if_neg h1]
      by_cases h2 : valueOf (l.take r.bits) = 2
      · rw [if_pos h2, if_pos h2]
        by_cases h3 : z.codes ≤ 2 ^ r.bits
        · rw [if_pos h3, if_pos h3]
        · rw [if_neg h3, if_neg h3]
          exact numbers_stop (by show (l.drop r.bits).length < r.bits + 1; omega)
      · rw [if_neg h2, if_neg h2]
        have o' : ROk z { r with waits := l.drop r.bits } := ⟨o.tree, o.b1, o.b2, o.esc, (by show (l.drop r.bits).length < r.bits; omega), o.bf, fun q => (by
          have : r.short = false := q
          rw [hs] at this
          cases this), o.hf⟩
        cases e : Receiver.string z { r with waits := l.drop r.bits } (valueOf (l.take r.bits)) with
        | none => rfl
        | some x =>
          obtain ⟨q1, q2, q3, q4⟩ := o'.string g hs e
          show (Receiver.numbers z 7 x.1).map (fun y => (y.1, x.2 ++ y.2)) = some x
          rw [numbers_stop q1.wt]
          show some (x.1, x.2 ++ []) = some x
          rw [List.append_nil]
theorem ROk.one (o : ROk z r) (g : Good z) (hs : r.short = true) {c : Nat} {x : Receiver × B} (h : oneNumber z r (r.waits ++ bitsOf 8 c) = some x) : ROk z x.1 := by
  have hl : (r.waits ++ bitsOf 8 c).length = r.waits.length + 8 := by rw [List.length_append, bitsOf_length]
  generalize r.waits ++ bitsOf 8 c = l at hl h
  have hw := o.wt
  have hb := o.b1
  have hd : (l.drop r.bits).length = l.length - r.bits := List.length_drop
  have ns : ∀ {P : Prop}, r.short = false → P := fun {P} q => by
    rw [hs] at q
    cases q
  unfold oneNumber at h
  by_cases h0 : l.length < r.bits
  · rw [if_pos h0] at h
    have := Option.some.inj h
    subst this
    exact ⟨o.tree, o.b1, o.b2, o.esc, h0, o.bf, fun q => ns q, o.hf⟩
  · rw [if_neg h0] at h
    by_cases h1 : valueOf (l.take r.bits) ≤ 1
    · rw [if_pos h1] at h
      by_cases h2 : ((l.drop r.bits).all fun b => !b) = true
      · rw [if_pos h2] at h
        have := Option.some.inj h
        subst this
        exact ⟨o.tree, o.b1, o.b2, o.esc, (by show 0 < r.bits; omega), (fun k q => by cases q), fun _ => ⟨rfl, rfl⟩, fun _ => o.hf hs⟩
      · rw [if_neg h2] at h
        cases h
    · rw [if_neg h1] at h
      by_cases h2 : valueOf (l.take r.bits) = 2
      · rw [if_pos h2] at h
        by_cases h3 : z.codes ≤ 2 ^ r.bits
        · rw [if_pos h3] at h
          cases h
        · rw [if_neg h3] at h
          have := Option.some.inj h
          subst this
          have hb16 : r.bits ≠ 16 := fun e => by
            rw [e] at h3
            exact h3 g.c2
          have := o.b2
          exact ⟨o.tree, (by show 9 ≤ r.bits + 1; omega), (by show r.bits + 1 ≤ 16; omega), o.esc, (by show (l.drop r.bits).length < r.bits + 1; omega), o.bf, fun q => ns q, o.hf⟩
      · rw [if_neg h2] at h
        have o' : ROk z { r with waits := l.drop r.bits } := ⟨o.tree, o.b1, o.b2, o.esc, (by show (l.drop r.bits).length < r.bits; omega), o.bf, fun q => ns q, o.hf⟩
        exact (o'.string g hs h).1
theorem octet_short (o : ROk z r) (g : Good z) (hs : r.short = true) {c : Nat} : r.octet z c = oneNumber z r (r.waits ++ bitsOf 8 c) := by
  unfold Receiver.octet
  rw [if_pos hs]
  exact numbers_one o g hs
theorem ROk.octet (o : ROk z r) (g : Good z) {c : Nat} {x : Receiver × B} (h : r.octet z c = some x) : ROk z x.1 := by
  cases hs : r.short with
  | true =>
    rw [octet_short o g hs] at h
    exact o.one g hs h
  | false =>
    obtain ⟨p1, p2⟩ := o.pl hs
    have b1 := o.b1
    unfold Receiver.octet at h
    rw [if_neg (by rw [hs]; decide)] at h
    by_cases h1 : r.half = false
    · rw [if_pos h1] at h
      by_cases h2 : c = r.escape
      · rw [if_pos h2] at h
        have := Option.some.inj h
        subst this
        exact ⟨o.tree, o.b1, o.b2, o.esc, o.wt, o.bf, o.pl, fun q => (by
          have q' : r.short = true := q
          rw [hs] at q'
          cases q')⟩
      · rw [if_neg h2] at h
        have := Option.some.inj h
        subst this
        exact o
    · rw [if_neg h1] at h
      by_cases h2 : c = 0
      · rw [if_pos h2] at h
        have := Option.some.inj h
        subst this
        exact ⟨o.tree, o.b1, o.b2, o.esc, (by show 0 < r.bits; omega), (fun k q => by cases q), fun _ => ⟨rfl, rfl⟩, fun _ => rfl⟩
      · rw [if_neg h2] at h
        by_cases h3 : c = 1
        · rw [if_pos h3] at h
          have := Option.some.inj h
          subst this
          exact ⟨o.tree, o.b1, o.b2, turn_lt _, o.wt, o.bf, o.pl, fun _ => rfl⟩
        · rw [if_neg h3] at h
          by_cases h4 : c = 2
          · rw [if_pos h4] at h
            have := Option.some.inj h
            subst this
            exact rok_start g
          · rw [if_neg h4] at h
            cases h
theorem ROk.take (g : Good z) : ∀ (l : B) (r : Receiver) (x : Receiver × B), ROk z r → r.take z l = some x → ROk z x.1
  | [], r, x, o, h => by
    have : (r, []) = x := Option.some.inj h
    subst this
    exact o
  | c :: l, r, x, o, h => by
    cases e : r.octet z c with
    | none =>
      have h' : (r.octet z c).bind (fun x => (Receiver.take z x.1 l).map fun y => (y.1, x.2 ++ y.2)) = some x := h
      rw [e] at h'
      cases h'
    | some y =>
      have h' : (r.octet z c).bind (fun x => (Receiver.take z x.1 l).map fun y => (y.1, x.2 ++ y.2)) = some x := h
      rw [e] at h'
      have h2 : (Receiver.take z y.1 l).map (fun w => (w.1, y.2 ++ w.2)) = some x := h'
      cases e2 : Receiver.take z y.1 l with
      | none =>
        rw [e2] at h2
        cases h2
      | some w =>
        rw [e2] at h2
        have : (w.1, y.2 ++ w.2) = x := Option.some.inj h2
        subst this
        exact ROk.take g l y.1 w (o.octet g e) e2
/-- octet by octet: what was taken so far, then one more -/
theorem take_snoc : ∀ (l : B) (r : Receiver) (c : Nat), r.take z (l ++ [c]) = (r.take z l).bind fun x => (x.1.octet z c).map fun y => (y.1, x.2 ++ y.2)
  | [], r, c => by
    show (r.octet z c).bind (fun x => (some (x.1, ([] : B))).map fun y => (y.1, x.2 ++ y.2)) = (r.octet z c).map fun y => (y.1, [] ++ y.2)
    cases r.octet z c with
    | none => rfl
    | some x =>
      show some (x.1, x.2 ++ []) = some (x.1, [] ++ x.2)
      rw [List.append_nil, List.nil_append]
  | d :: l, r, c => by
    show (r.octet z d).bind (fun x => (Receiver.take z x.1 (l ++ [c])).map fun y => (y.1, x.2 ++ y.2)) = ((r.octet z d).bind (fun x => (Receiver.take z x.1 l).map fun y => (y.1, x.2 ++ y.2))).bind _
    cases r.octet z d with
    | none => rfl
    | some x =>
      show (Receiver.take z x.1 (l ++ [c])).map (fun y => (y.1, x.2 ++ y.2)) = ((Receiver.take z x.1 l).map fun y => (y.1, x.2 ++ y.2)).bind _
      rw [take_snoc l x.1 c]
      cases Receiver.take z x.1 l with
      | none => rfl
      | some y =>
        show ((y.1.octet z c).map fun w => (w.1, y.2 ++ w.2)).map (fun w => (w.1, x.2 ++ w.2)) = (y.1.octet z c).map fun w => (w.1, (x.2 ++ y.2) ++ w.2)
        cases y.1.octet z c with
        | none => rfl
        | some w =>
          show some (w.1, x.2 ++ (y.2 ++ w.2)) = some (w.1, (x.2 ++ y.2) ++ w.2)
          rw [List.append_assoc]
/-- what is refused once is refused with more behind it -/
theorem take_none : ∀ (l m : B) (r : Receiver), r.take z l = none → r.take z (l ++ m) = none
  | [], _, _, h => by cases h
  | d :: l, m, r, h => by
    have h' : (r.octet z d).bind (fun x => (Receiver.take z x.1 l).map fun y => (y.1, x.2 ++ y.2)) = none := h
    show (r.octet z d).bind (fun x => (Receiver.take z x.1 (l ++ m)).map fun y => (y.1, x.2 ++ y.2)) = none
    cases e : r.octet z d with
    | none => rfl
    | some x =>
      rw [e] at h'
      have h2 : (Receiver.take z x.1 l).map (fun y => (y.1, x.2 ++ y.2)) = none := h'
      show (Receiver.take z x.1 (l ++ m)).map (fun y => (y.1, x.2 ++ y.2)) = none
      rw [Option.map_eq_none_iff] at h2 ⊢
      exact take_none l m x.1 h2
end
end Sl
namespace Sl
open Ql65
abbrev Raw := List (List Int)
/-- the call that stands at a list's head, and what stands behind it -/
inductive Head : List Int → Raw → List Int → Prop where
  | begin_ (x y : Int) (t : List Int) : Head (0 :: x :: y :: t) [[0, x, y]] t
  | put (m n : Int) (t : List Int) : 0 ≤ n → n.toNat ≤ t.length → Head (1 :: m :: n :: t) [[1, m], t.take n.toNat] (t.drop n.toNat)
  | flush (m : Int) (t : List Int) : Head (2 :: m :: t) [[2, m]] t
  | mode (x m : Int) (t : List Int) : Head (3 :: x :: m :: t) [[3, x, m]] t
  | reset (m : Int) (t : List Int) : Head (4 :: m :: t) [[4, m]] t
  | take (m n : Int) (t : List Int) : 0 ≤ n → n.toNat ≤ t.length → Head (5 :: m :: n :: t) [[5, m], t.take n.toNat] (t.drop n.toNat)
theorem row_of {r : List Int} {x s : List Int} (h : PyFlat.row r = some (x, s)) : ∃ n t, r = n :: t ∧ 0 ≤ n ∧ n.toNat ≤ t.length ∧ x = t.take n.toNat ∧ s = t.drop n.toNat := by
  cases r with
  | nil => cases h
  | cons n t =>
    by_cases c : 0 ≤ n ∧ n.toNat ≤ t.length
    · have h' : (if 0 ≤ n ∧ n.toNat ≤ t.length then some (t.take n.toNat, t.drop n.toNat) else none) = some (x, s) := h
      rw [if_pos c] at h'
      have e := Option.some.inj h'
      cases e
      exact ⟨n, t, rfl, c.1, c.2, rfl, rfl⟩
    · have h' : (if 0 ≤ n ∧ n.toNat ≤ t.length then some (t.take n.toNat, t.drop n.toNat) else none) = some (x, s) := h
      rw [if_neg c] at h'
      cases h'
theorem head_of {p : Int} {r : List Int} {c : Raw} {t : List Int} (h : PyFlat.call PyQl65.shape (p :: r) = some (c, t)) : Head (p :: r) c t := by
  unfold PyFlat.call at h
  have two : ∀ {l : List Int}, ¬ l.length < 2 → ∃ x y u, l = x :: y :: u := fun {l} q => by
    match l, q with
    | [], q => exact absurd (by simp) q
    | [_], q => exact absurd (by simp) q
    | x :: y :: u, _ => exact ⟨x, y, u, rfl⟩
  have one : ∀ {l : List Int}, ¬ l.length < 1 → ∃ x u, l = x :: u := fun {l} q => by
    match l, q with
    | [], q => exact absurd (by simp) q
    | x :: u, _ => exact ⟨x, u, rfl⟩
  unfold PyQl65.shape at h
  dsimp only at h
  by_cases p0 : p = 0
  · subst p0
    simp only [if_true] at h
    by_cases q : r.length < 2
    · rw [if_pos q] at h; cases h
    · rw [if_neg q] at h
      obtain ⟨x, y, u, rfl⟩ := two q
      have e := Option.some.inj h
      cases e
      exact .begin_ x y u
  by_cases p1 : p = 1
  · subst p1
    rw [if_neg p0] at h
    simp only [if_true] at h
    by_cases q : r.length < 1
    · rw [if_pos q] at h; cases h
    · rw [if_neg q] at h
      obtain ⟨m, u, rfl⟩ := one q
      cases e : PyFlat.row u with
      | none =>
        simp [PyFlat.rows, e] at h
      | some xs =>
        obtain ⟨x, s⟩ := xs
        obtain ⟨n, t', rfl, h1, h2, rfl, rfl⟩ := row_of e
        simp [PyFlat.rows, e] at h
        obtain ⟨rfl, rfl⟩ := h
        exact .put m n t' h1 h2
  by_cases p2 : p = 2
  · subst p2
    rw [if_neg p0, if_neg p1] at h
    simp only [if_true] at h
    by_cases q : r.length < 1
    · rw [if_pos q] at h; cases h
    · rw [if_neg q] at h
      obtain ⟨m, u, rfl⟩ := one q
      have e := Option.some.inj h
      cases e
      exact .flush m u
  by_cases p3 : p = 3
  · subst p3
    rw [if_neg p0, if_neg p1, if_neg p2] at h
    simp only [if_true] at h
    by_cases q : r.length < 2
    · rw [if_pos q] at h; cases h
    · rw [if_neg q] at h
      obtain ⟨x, y, u, rfl⟩ := two q
      have e := Option.some.inj h
      cases e
      exact .mode x y u
  by_cases p4 : p = 4
  · subst p4
    rw [if_neg p0, if_neg p1, if_neg p2, if_neg p3] at h
    simp only [if_true] at h
    by_cases q : r.length < 1
    · rw [if_pos q] at h; cases h
    · rw [if_neg q] at h
      obtain ⟨m, u, rfl⟩ := one q
      have e := Option.some.inj h
      cases e
      exact .reset m u
  by_cases p5 : p = 5
  · subst p5
    rw [if_neg p0, if_neg p1, if_neg p2, if_neg p3, if_neg p4] at h
    simp only [if_true] at h
    by_cases q : r.length < 1
    · rw [if_pos q] at h; cases h
    · rw [if_neg q] at h
      obtain ⟨m, u, rfl⟩ := one q
      cases e : PyFlat.row u with
      | none =>
        simp [PyFlat.rows, e] at h
      | some xs =>
        obtain ⟨x, s⟩ := xs
        obtain ⟨n, t', rfl, h1, h2, rfl, rfl⟩ := row_of e
        simp [PyFlat.rows, e] at h
        obtain ⟨rfl, rfl⟩ := h
        exact .take m n t' h1 h2
  · rw [if_neg p0, if_neg p1, if_neg p2, if_neg p3, if_neg p4, if_neg p5] at h
    cases h
/-- a list of calls, one behind another -/
inductive Calls : List Int → List Raw → Prop where
  | nil : Calls [] []
  | cons {l : List Int} {c : Raw} {t : List Int} {cs : List Raw} : Head l c t → Calls t cs → Calls l (c :: cs)
theorem calls_of : ∀ (f : Nat) (l : List Int) (cs : List Raw), PyFlat.calls PyQl65.shape f l = some cs → Calls l cs
  | f, [], cs, h => by
    have : cs = [] := by
      cases f <;> exact (Option.some.inj h).symm
    rw [this]
    exact .nil
  | 0, _ :: _, cs, h => by cases h
  | f + 1, p :: r, cs, h => by
    unfold PyFlat.calls at h
    cases e : PyFlat.call PyQl65.shape (p :: r) with
    | none =>
      rw [e] at h
      cases h
    | some ct =>
      obtain ⟨c, t⟩ := ct
      rw [e] at h
      cases e2 : PyFlat.calls PyQl65.shape f t with
      | none =>
        simp [e2] at h
      | some cs' =>
        simp [e2] at h
        subst h
        exact .cons (head_of e) (calls_of f t cs' e2)
theorem asked_of {l : List Int} (h : PyQl65.answers_asked l = true) : ∃ cs, Calls l cs ∧ cs.length ≤ 400 ∧ Ql65Neutral.asked (cs.map PyQl65.whole) = true ∧
    PyQl65.answers l = PyFlat.told (PyFlat.played Ql65Neutral.step Ql65Neutral.start (cs.map PyQl65.whole)) := by
  unfold PyQl65.answers_asked PyQl65.calls at h
  unfold PyQl65.answers PyQl65.calls
  cases e : PyFlat.calls PyQl65.shape l.length l with
  | none =>
    rw [e] at h
    cases h
  | some cs =>
    rw [e] at h
    simp only [Bool.and_eq_true] at h
    refine ⟨cs, calls_of _ _ _ e, ?_, h.2, rfl⟩
    have := h.1
    simp [PyFlat.atMost] at this
    exact this
end Sl
namespace Sl
/-! Python's hash of a pair of small numbers: no two pairs have the same -/
abbrev M64 : Nat := 18446744073709551616
abbrev Pr1 : Nat := 11400714785074694791
abbrev Pr2 : Nat := 14029467366897019727
abbrev Pr5 : Nat := 2870177450012600261
abbrev Pr1i : Nat := 614540362697595703
abbrev Pr2i : Nat := 839798700976720815
abbrev CC : Nat := 315278520150392649
def rot (a : Nat) : Nat := (a * 2147483648) % 18446744073709551616 + a / 8589934592
def lane (acc h : Nat) : Nat := (rot ((acc + h * Pr2) % M64) * Pr1) % M64
/-- not within 256 of 0, round and round -/
def away (W : Nat) : Bool := Nat.ble 256 W && Nat.ble W 18446744073709551360
/-- how far a step of d numbers moves it; the four ways of carrying -/
def stepOk (T : Nat) : Bool :=
  away (T % M64) && away ((T + 315278520150392649) % M64) && away ((T + 11281517459552600064) % M64) && away ((T + 11596795979702992713) % M64)
noncomputable def steps (n : Nat) : Bool := Nat.rec (motive := fun _ => Bool) true (fun n r => stepOk ((rot ((n + 1) * Pr2 % M64) * CC) % M64) && r) n
theorem steps_ok : steps 65535 = true := by decide +kernel
/-- the number before the last, of the pair's hash that Python turns into another -/
abbrev VV : Nat := 15746002411462551884
noncomputable def apart (n : Nat) : Bool := Nat.rec (motive := fun _ => Bool) true (fun n r => Nat.ble 256 ((VV + M64 - (rot ((Pr5 + n * Pr2) % M64) * CC) % M64) % M64) && r) n
theorem apart_ok : apart 65536 = true := by decide +kernel
end Sl
namespace Sl
theorem steps_all : ∀ (n d : Nat), steps n = true → 1 ≤ d → d ≤ n → stepOk ((rot (d * Pr2 % M64) * CC) % M64) = true
  | 0, d, _, h1, h2 => by omega
  | n + 1, d, h, h1, h2 => by
    have h' : (stepOk ((rot ((n + 1) * Pr2 % M64) * CC) % M64) && steps n) = true := h
    rw [Bool.and_eq_true] at h'
    by_cases e : d = n + 1
    · rw [e]
      exact h'.1
    · exact steps_all n d h'.2 h1 (by omega)
theorem apart_all : ∀ (n p : Nat), apart n = true → p < n → 256 ≤ (VV + M64 - (rot ((Pr5 + p * Pr2) % M64) * CC) % M64) % M64
  | 0, p, _, h2 => by omega
  | n + 1, p, h, h2 => by
    have h' : (Nat.ble 256 ((VV + M64 - (rot ((Pr5 + n * Pr2) % M64) * CC) % M64) % M64) && apart n) = true := h
    rw [Bool.and_eq_true] at h'
    by_cases e : p = n
    · rw [e]
      exact Nat.le_of_ble_eq_true h'.1
    · exact apart_all n p h'.2 (by omega)
theorem rot_lt {a : Nat} (h : a < M64) : rot a < M64 := by
  unfold rot
  unfold M64 at *
  omega
theorem rot_eq (a : Nat) : rot a = (a % 8589934592) * 2147483648 + a / 8589934592 := by
  unfold rot
  rw [show (18446744073709551616 : Nat) = 8589934592 * 2147483648 by decide, Nat.mul_mod_mul_right]
theorem rot_inj {a b : Nat} (ha : a < M64) (hb : b < M64) (h : rot a = rot b) : a = b := by
  rw [rot_eq, rot_eq] at h
  unfold M64 at *
  omega
theorem times_back {x q r : Nat} (hq : q * r % M64 = 1) (hx : x < M64) : ((x * q) % M64 * r) % M64 = x := by
  rw [Nat.mod_mul_mod, Nat.mul_assoc, Nat.mul_mod, hq, Nat.mul_one, Nat.mod_mod, Nat.mod_eq_of_lt hx]
theorem times_inj {x y q r : Nat} (hq : q * r % M64 = 1) (hx : x < M64) (hy : y < M64) (h : (x * q) % M64 = (y * q) % M64) : x = y := by
  rw [← times_back hq hx, h, times_back hq hy]
/-- the turn of a sum -/
theorem rot_add {u d : Nat} (hu : u < M64) (hd : d < M64) : ∃ c1 c2, (c1 = 0 ∨ c1 = 1) ∧ (c2 = 0 ∨ c2 = 1) ∧ rot ((u + d) % M64) + c2 * 2147483648 + c1 * M64 = rot u + rot d + c1 := by
  rw [rot_eq, rot_eq, rot_eq]
  unfold M64 at *
  by_cases h1 : u % 8589934592 + d % 8589934592 < 8589934592
  · by_cases h2 : u / 8589934592 + d / 8589934592 < 2147483648
    · exact ⟨0, 0, by omega, by omega, by omega⟩
    · exact ⟨0, 1, by omega, by omega, by omega⟩
  · by_cases h2 : u / 8589934592 + d / 8589934592 + 1 < 2147483648
    · exact ⟨1, 0, by omega, by omega, by omega⟩
    · exact ⟨1, 1, by omega, by omega, by omega⟩
theorem away_of {W : Nat} (h : away W = true) : 256 ≤ W ∧ W ≤ 18446744073709551360 := by
  unfold away at h
  rw [Bool.and_eq_true] at h
  exact ⟨Nat.le_of_ble_eq_true h.1, Nat.le_of_ble_eq_true h.2⟩
theorem add_back {x X Y : Nat} (h : (x + X) % M64 = (x + Y) % M64) : X % M64 = Y % M64 := by
  unfold M64 at *
  omega
/-- one p: its bytes stand apart -/
theorem same_first {x b c : Nat} (hb : b < 256) (hc : c < 256) (h : (x + b * Pr2) % M64 = (x + c * Pr2) % M64) : b = c := by
  have e : (b * Pr2) % M64 = (c * Pr2) % M64 := by
    exact add_back h
  exact times_inj (r := Pr2i) (by decide +kernel) (by unfold M64; omega) (by unfold M64; omega) e
/-- what a lane is, times the inverse of the second prime -/
theorem lane_back (p b : Nat) : ((lane Pr5 p + b * Pr2) % M64 * Pr2i) % M64 = (rot ((Pr5 + p * Pr2) % M64) * CC + b) % M64 := by
  unfold lane
  generalize rot ((Pr5 + p * Pr2) % M64) = x
  have e1 : Pr2 * Pr2i % M64 = 1 := by decide +kernel
  have e2 : Pr1 * Pr2i % M64 = CC := by decide +kernel
  rw [Nat.mod_mul_mod, Nat.add_mul, Nat.add_mod, Nat.mod_mul_mod, Nat.mul_assoc x, Nat.mul_mod x, e2, Nat.mul_assoc b, Nat.mul_mod b, e1]
  rw [Nat.mul_one, Nat.mod_mod, ← Nat.add_mod_mod, Nat.mod_mod, Nat.add_mod (_ * CC) b, Nat.mod_mul_mod]
theorem four {c1 c2 : Nat} (h1 : c1 = 0 ∨ c1 = 1) (h2 : c2 = 0 ∨ c2 = 1) {T : Nat} (h : stepOk T = true) : ∃ k, (k + c2 * 2147483648 * CC) % M64 = (c1 * CC) % M64 ∧ away ((T + k) % M64) = true := by
  unfold stepOk at h
  simp only [Bool.and_eq_true] at h
  obtain ⟨⟨⟨a1, a2⟩, a3⟩, a4⟩ := h
  rcases h1 with rfl | rfl <;> rcases h2 with rfl | rfl
  · exact ⟨0, by decide +kernel, a1⟩
  · exact ⟨11281517459552600064, by decide +kernel, a3⟩
  · exact ⟨315278520150392649, by decide +kernel, a2⟩
  · exact ⟨11596795979702992713, by decide +kernel, a4⟩
theorem last_sum {A B S G Z I k b c : Nat} (hk : (k + G) % M64 = I % M64) (aw : 256 ≤ (S % M64 + k) % M64 ∧ (S % M64 + k) % M64 ≤ 18446744073709551360) (hb : b < 256) (hc : c < 256)
    (e : (A + c) % M64 = (B + b) % M64) (em : A + G + Z = B + S + I) (e3 : Z % M64 = 0) : False := by
  unfold M64 at *
  omega
theorem lt_apart {p d b c : Nat} (hd : 1 ≤ d) (hp : d ≤ 65535) (hb : b < 256) (hc : c < 256) (h : (lane Pr5 p + b * Pr2) % M64 = (lane Pr5 (p + d) + c * Pr2) % M64) : False := by
  have e := lane_back p b
  rw [h, lane_back] at e
  have hs := steps_all 65535 d steps_ok hd hp
  have eu : (Pr5 + (p + d) * Pr2) % M64 = ((Pr5 + p * Pr2) % M64 + (d * Pr2) % M64) % M64 := by
    rw [Nat.add_mul, ← Nat.add_assoc, Nat.add_mod]
  have hu : (Pr5 + p * Pr2) % M64 < M64 := Nat.mod_lt _ (by decide)
  have hdd : (d * Pr2) % M64 < M64 := Nat.mod_lt _ (by decide)
  rw [eu] at e
  obtain ⟨c1, c2, h1, h2, er⟩ := rot_add hu hdd
  obtain ⟨k, hk, aw⟩ := four h1 h2 hs
  have aw := away_of aw
  have em : (rot (((Pr5 + p * Pr2) % M64 + (d * Pr2) % M64) % M64) + c2 * 2147483648 + c1 * M64) * CC = (rot ((Pr5 + p * Pr2) % M64) + rot ((d * Pr2) % M64) + c1) * CC := by rw [er]
  rw [Nat.add_mul, Nat.add_mul, Nat.add_mul, Nat.add_mul] at em
  have e3 : (c1 * M64 * CC) % M64 = 0 := by rw [Nat.mul_right_comm, Nat.mul_mod_left]
  exact last_sum hk aw hb hc e em e3
/-- **no two pairs go the same way** -/
theorem lanes_inj {p q b c : Nat} (hp : p < 65536) (hq : q < 65536) (hb : b < 256) (hc : c < 256) (h : lane (lane Pr5 p) b = lane (lane Pr5 q) c) : p = q ∧ b = c := by
  have h1 : (lane Pr5 p + b * Pr2) % M64 = (lane Pr5 q + c * Pr2) % M64 := by
    refine rot_inj (Nat.mod_lt _ (by decide)) (Nat.mod_lt _ (by decide)) ?_
    have h' : (rot ((lane Pr5 p + b * Pr2) % M64) * Pr1) % M64 = (rot ((lane Pr5 q + c * Pr2) % M64) * Pr1) % M64 := h
    exact times_inj (r := Pr1i) (by decide +kernel) (rot_lt (Nat.mod_lt _ (by decide))) (rot_lt (Nat.mod_lt _ (by decide))) h'
  rcases Nat.lt_trichotomy p q with l | l | l
  · obtain ⟨d, rfl⟩ : ∃ d, q = p + d := ⟨q - p, by omega⟩
    exact (lt_apart (by omega) (by omega) hb hc h1).elim
  · subst l
    exact ⟨rfl, same_first hb hc h1⟩
  · obtain ⟨d, rfl⟩ : ∃ d, p = q + d := ⟨p - q, by omega⟩
    exact (lt_apart (by omega) (by omega) hc hb h1.symm).elim
theorem far_sum {B b : Nat} (hb : b < 256) (e : VV = (B + b) % M64) (a : 256 ≤ (VV + M64 - B % M64) % M64) : False := by
  unfold M64 VV at *
  omega
abbrev Last : Nat := 2870177450013471924
/-- and none comes to the one that Python turns into another -/
theorem lanes_last {p b : Nat} (hp : p < 65536) (hb : b < 256) : (lane (lane Pr5 p) b + Last) % M64 ≠ 18446744073709551615 := by
  intro h
  have h0 : lane (lane Pr5 p) b < M64 := Nat.mod_lt _ (by decide)
  have h1 : lane (lane Pr5 p) b = 15576566623696079691 := by
    unfold M64 Last at *
    omega
  have h2 : (lane Pr5 p + b * Pr2) % M64 = VV * Pr2 % M64 := by
    refine rot_inj (Nat.mod_lt _ (by decide)) (Nat.mod_lt _ (by decide)) ?_
    have h' : (rot ((lane Pr5 p + b * Pr2) % M64) * Pr1) % M64 = (rot (VV * Pr2 % M64) * Pr1) % M64 := by
      refine Eq.trans (show _ = lane (lane Pr5 p) b from rfl) (h1.trans ?_)
      decide +kernel
    exact times_inj (r := Pr1i) (by decide +kernel) (rot_lt (Nat.mod_lt _ (by decide))) (rot_lt (Nat.mod_lt _ (by decide))) h'
  have e := lane_back p b
  rw [h2, show VV * Pr2 % M64 * Pr2i % M64 = VV by decide +kernel] at e
  have a := apart_all 65536 p apart_ok hp
  exact far_sum hb e a
end Sl
namespace Sl
theorem fin_of {n : Nat} (h : n ≠ 18446744073709551615) : (if n == 2 ^ 64 - 1 then (1546275796 : Int) else if n < 2 ^ 63 then (n : Int) else (n : Int) - ((2 ^ 64 : Nat) : Int)) =
    if n < 9223372036854775808 then (n : Int) else (n : Int) - 18446744073709551616 := by
  have e : (n == 2 ^ 64 - 1) = false := by
    rw [beq_eq_false_iff_ne]
    exact h
  rw [e, if_neg Bool.false_ne_true]
  rfl
theorem lane_def (acc h : Nat) : (((acc + h * 14029467366897019727) % 2 ^ 64 * 2 ^ 31) % 2 ^ 64 + (acc + h * 14029467366897019727) % 2 ^ 64 / 2 ^ 33) * 11400714785074694791 % 2 ^ 64 = lane acc h := by
  unfold lane rot
  rfl
theorem hash_fold (p b : Nat) (hp : p < 65536) (hb : b < 256) : ([(p : Int), (b : Int)].foldl (init := (2870177450012600261 : Nat)) fun acc h =>
    let acc := (acc + (h % ((2 ^ 64 : Nat) : Int)).toNat * 14029467366897019727) % 2 ^ 64
    let acc := (acc * 2 ^ 31) % 2 ^ 64 + acc / 2 ^ 33
    (acc * 11400714785074694791) % 2 ^ 64) = lane (lane Pr5 p) b := by
  have e1 : ((p : Int) % ((2 ^ 64 : Nat) : Int)).toNat = p := by omega
  have e2 : ((b : Int) % ((2 ^ 64 : Nat) : Int)).toNat = b := by omega
  rw [List.foldl_cons, List.foldl_cons, List.foldl_nil]
  dsimp only
  rw [e1, e2, lane_def, lane_def]
theorem hash_pair {p b : Nat} (hp : p < 65536) (hb : b < 256) : PySem.Builtin.Tuple.tupleHashOf [(p : Int), (b : Int)] =
    if (lane (lane Pr5 p) b + Last) % M64 < 9223372036854775808 then (((lane (lane Pr5 p) b + Last) % M64 : Nat) : Int) else (((lane (lane Pr5 p) b + Last) % M64 : Nat) : Int) - 18446744073709551616 := by
  have hn := lanes_last hp hb
  have e := hash_fold p b hp hb
  unfold PySem.Builtin.Tuple.tupleHashOf
  dsimp only
  dsimp only at e
  rw [e]
  have e3 : ([(p : Int), (b : Int)].length ^^^ (2870177450012600261 ^^^ 3527539) : Nat) = Last := by
    show (2 ^^^ (2870177450012600261 ^^^ 3527539) : Nat) = Last
    decide +kernel
  rw [e3]
  exact fin_of hn
theorem hash_inj {p q b c : Nat} (hp : p < 65536) (hq : q < 65536) (hb : b < 256) (hc : c < 256) (h : PySem.Builtin.Tuple.tupleHashOf [(p : Int), (b : Int)] = PySem.Builtin.Tuple.tupleHashOf [(q : Int), (c : Int)]) : p = q ∧ b = c := by
  rw [hash_pair hp hb, hash_pair hq hc] at h
  refine lanes_inj hp hq hb hc ?_
  have h0 : lane (lane Pr5 p) b < M64 := Nat.mod_lt _ (by decide)
  have h1 : lane (lane Pr5 q) c < M64 := Nat.mod_lt _ (by decide)
  revert h h0 h1
  generalize lane (lane Pr5 p) b = A
  generalize lane (lane Pr5 q) c = B
  intro h h0 h1
  have h2 : (A + Last) % M64 < M64 := Nat.mod_lt _ (by decide)
  have h3 : (B + Last) % M64 < M64 := Nat.mod_lt _ (by decide)
  have h4 : (A + Last) % M64 = (B + Last) % M64 := by
    revert h h2 h3
    generalize (A + Last) % M64 = X
    generalize (B + Last) % M64 = Y
    intro h h2 h3
    unfold M64 at *
    split at h <;> split at h <;> omega
  unfold M64 Last at *
  omega
/-- within the range where Python keeps it as it is -/
theorem hash_rng {p b : Nat} (hp : p < 65536) (hb : b < 256) : -9223372036854775808 ≤ PySem.Builtin.Tuple.tupleHashOf [(p : Int), (b : Int)] ∧ PySem.Builtin.Tuple.tupleHashOf [(p : Int), (b : Int)] < 9223372036854775808 ∧ PySem.Builtin.Tuple.tupleHashOf [(p : Int), (b : Int)] ≠ -1 := by
  have hn := lanes_last hp hb
  rw [hash_pair hp hb]
  have h2 : (lane (lane Pr5 p) b + Last) % M64 < M64 := Nat.mod_lt _ (by decide)
  revert hn h2
  generalize (lane (lane Pr5 p) b + Last) % M64 = X
  intro hn h2
  unfold M64 at *
  split <;> omega
end Sl
namespace Sl
open PySem
/-! dicts whose keys are tuples: taken out, copied -/
section
variable {K : Type} [DecidableEq K]
theorem erase_without {β : Type} : ∀ {xs : List (K × β)} {j : Nat} {k : K} {p : β}, (xs.map (·.1)).Nodup → xs[j]? = some (k, p) → xs.eraseIdx j = xs.filter fun x => decide (x.1 ≠ k)
  | [], _, _, _, _, h => by simp at h
  | x :: r, 0, k, p, hn, h => by
    have e : x = (k, p) := Option.some.inj h
    subst e
    have hn' : (k :: r.map (·.1)).Nodup := hn
    obtain ⟨h1, h2⟩ := List.nodup_cons.mp hn'
    rw [List.eraseIdx_cons_zero, List.filter_cons, if_neg (by simp)]
    refine (List.filter_eq_self.mpr fun y hy => ?_).symm
    exact decide_eq_true fun e => h1 (List.mem_map.mpr ⟨y, hy, e⟩)
  | x :: r, j + 1, k, p, hn, h => by
    have hn' : (x.1 :: r.map (·.1)).Nodup := hn
    obtain ⟨h1, h2⟩ := List.nodup_cons.mp hn'
    have hj : r[j]? = some (k, p) := by simpa using h
    have ne : x.1 ≠ k := fun e => h1 (by rw [e]; exact List.mem_map.mpr ⟨_, List.mem_of_getElem? hj, rfl⟩)
    rw [List.eraseIdx_cons_succ, List.filter_cons, if_pos (decide_eq_true ne), erase_without h2 hj]
theorem erase_map {α β : Type} (f : α → β) : ∀ (l : List α) (j : Nat), (l.eraseIdx j).map f = (l.map f).eraseIdx j
  | [], _ => by simp
  | _ :: _, 0 => by simp
  | x :: r, j + 1 => by
    rw [List.eraseIdx_cons_succ, List.map_cons, List.map_cons, List.eraseIdx_cons_succ, erase_map f r j]
theorem few_of {β : Type} {p : K × β → Bool} : ∀ {xs : List (K × β)}, (xs.map (·.1)).Nodup → (∀ x, x ∈ xs → ∀ y, y ∈ xs → p x = true → p y = true → x.1 = y.1) → (xs.filter p).length ≤ 1
  | [], _, _ => by simp
  | x :: r, hn, h => by
    have hn' : (x.1 :: r.map (·.1)).Nodup := hn
    obtain ⟨h1, h2⟩ := List.nodup_cons.mp hn'
    have i := few_of h2 fun a ha b hb => h a (List.mem_cons_of_mem _ ha) b (List.mem_cons_of_mem _ hb)
    rw [List.filter_cons]
    by_cases c : p x = true
    · rw [if_pos c]
      have : r.filter p = [] := by
        refine List.filter_eq_nil_iff.mpr fun y hy q => ?_
        have e := h x List.mem_cons_self y (List.mem_cons_of_mem _ hy) c q
        exact h1 (List.mem_map.mpr ⟨y, hy, e.symm⟩)
      rw [this]
      simp
    · rw [if_neg c]
      exact i
end
section
variable {prog : Program} {w : World} {K : Type} [DecidableEq K] {knd : HeapKind prog w K} {A : Around} {E : Value → Shared → Prop} {s : Shared}
/-- a key that is there taken out -/
theorem takeOut_heap {d a : Addr} {xs : List (K × Addr × Value)} {k : K} {p : Addr × Value} {Q : Option DictEntry → Shared → Prop} (hu : knd.room A) (hkey : knd.is s.heap k a) (hm : s.heap.DictOfH knd d xs) (hp : atKey xs k = some p)
    (h : ∀ h', h'.DictOfH knd d (xs.filter fun x => decide (x.1 ≠ k)) → Heap.SameBut d s.heap h' → Q (some (entryOfKey knd (k, p))) { s with heap := h', toks := s.toks + knd.draws k })
    (hsz : xs.length ≤ sizeLine) :
    wpAny (model prog w) A (Builtin.Dict.takeOut d (.ref a)) Q E s := by
  obtain ⟨o, es, ep, ho, hc, hd, he, his, hn⟩ := hm
  unfold Builtin.Dict.takeOut
  try with_reducible refine wpAny_holding ?_
  refine wpAny_bind (knd.pyHash hu hkey (wpAny_bind (wpAny_dictFind_heap (s := { s with toks := s.toks + knd.draws k }) hu hkey ho hd he his hn ?_ ?_)))
  · intro hno
    rw [atKey_none_of_get hno] at hp
    cases hp
  · intro j q hj
    have eq : q = p := by
      rw [atKey_of_get hn hj] at hp
      exact Option.some.inj hp
    subst eq
    refine wpAny_bind (wpAny_dictEntries (s := { s with toks := s.toks + knd.draws k }) ho hd ?_)
    rw [entry_at he j, hj]
    have hes : es.size = xs.length := size_of_entries he
    refine wpAny_bind (wpAny_updateDictKeys (hz := by omega) (s := { s with toks := s.toks + knd.draws k }) ho hd (wpAny_pure (h _ ⟨_, _, ep + 1, Heap.get?_update_self _ ho (Obj.isFreed_of_dict (Obj.data_mapDictKeys hd _)),
      hc.mapDictKeys _, Obj.data_mapDictKeys hd _, ?_, ?_, ?_⟩ (Heap.SameBut.update ..))))
    · have hlt : j < es.size := by
        rw [hes]
        exact (List.getElem?_eq_some_iff.mp hj).1
      rw [← erase_without hn hj, erase_map, ← he]
      simp [Array.eraseIdxIfInBounds, hlt]
    · intro x hx
      exact knd.keeps (his x (List.mem_filter.mp hx).1) ho hd (Heap.SameBut.update ..)
    · exact hn.sublist (List.filter_sublist.map _)
theorem pop_heap {d a : Addr} {xs : List (K × Addr × Value)} {k : K} {p : Addr × Value} {Q : Value → Shared → Prop} (hu : knd.room A.in1) (hkey : knd.is s.heap k a) (hm : s.heap.DictOfH knd d xs) (hp : atKey xs k = some p) (hsz : xs.length ≤ sizeLine)
    (h : ∀ h', h'.DictOfH knd d (xs.filter fun x => decide (x.1 ≠ k)) → Heap.SameBut d s.heap h' → Q p.2 { s with heap := h', toks := s.toks + knd.draws k }) :
    wpAny (model prog w) A (call (.builtin "dict.pop") [.ref d, .ref a]) Q E s := by
  refine wpAny_call_entry PySem.F.slot_dict_pop hm.typeIs PySem.F.entry_dict_pop ?_ (PySem.F.args_dict_pop_2 _ _)
  unfold Builtin.«dict.pop»
  refine wpAny_bind ?_
  unfold Builtin.Dict.keyAndDefault
  refine wpAny_bind (wpAny_notOrdered_dict hm.typeIs ?_)
  show wpAny _ _ (pure (d, Value.ref a, none)) _ _ s
  refine wpAny_pure ?_
  simp only [keyPart, Option.isSome_none, Bool.false_eq_true, if_false]
  obtain ⟨o, es, ep, ho, hc, hd, he, his, hn⟩ := id hm
  refine wpAny_bind (wpAny_dictEntries ho hd (wpAny_bind (wpAny_pure ?_)))
  have hne : es.isEmpty = false := by
    cases q : es.isEmpty with
    | false => rfl
    | true =>
      have h0 : es = #[] := Array.isEmpty_iff.mp q
      have h1 : xs = [] := List.length_eq_zero_iff.mp (by rw [← size_of_entries he, h0]; rfl)
      rw [h1] at hp
      cases hp
  rw [hne]
  simp only [Bool.false_eq_true, if_false]
  refine wpAny_bind (takeOut_heap hu hkey hm hp (fun h' hm' hs' => ?_) hsz)
  simp only [Option.isNone_some, Bool.false_eq_true, if_false]
  exact wpAny_bind (wpAny_letGo (wpAny_pure ⟨p.2, rfl, h h' hm' hs'⟩))
end
section
variable {prog : Program} {w : World} {K : Type} [DecidableEq K] {knd : KeyKind prog w K} {A : Around} {E : Value → Shared → Prop} {s : Shared}
/-- its entries, for an empty dict: no two of one hash -/
theorem entries_heap {id : String} {d : Addr} {xs : List (List K × Addr × Value)} {Q : Array DictEntry → Shared → Prop} {o : Obj} {es ep} (ho : s.heap.get? d = some o) (hd : o.data = .dict es ep) (he : es.toList = xs.map (entryOfKey (tupleKind knd)))
    (his : ∀ x ∈ xs, (tupleKind knd).is s.heap x.1 x.2.1) (hn : (xs.map (·.1)).Nodup)
    (hh : ∀ x, x ∈ xs → ∀ y, y ∈ xs → (tupleKind knd).hash x.1 = (tupleKind knd).hash y.1 → x.1 = y.1) (h : Q es s) :
    wpAny (model prog w) A (Builtin.Dict.entriesForEmpty id d) Q E s := by
  unfold Builtin.Dict.entriesForEmpty
  refine wpAny_bind (wpAny_dictEntries ho hd ?_)
  refine wpAny_bind ?_
  rw [← Array.forIn_toList]
  refine wpAny_forIn_list _ (fun rest r s' => s' = s ∧ ∀ e ∈ rest, ∃ x ∈ xs, e = entryOfKey (tupleKind knd) x) _ ?_ ?_ _ _ ⟨rfl, fun e q => ?_⟩
  · rintro e rest r s' ⟨rfl, hr⟩
    obtain ⟨x, hx, rfl⟩ := hr e List.mem_cons_self
    have hT : s'.TypeIs (.ref x.2.1) "tuple" := IsTupleKey.typeIs (his x hx)
    show wpAny _ _ (Builtin.Dict.quietEq (.ref x.2.1) >>= _) _ _ _
    refine wpAny_bind ?_
    unfold Builtin.Dict.quietEq
    refine wpAny_bind (wpAny_specialOf hT F.slot_tuple_eq.lookup (wpAny_pure ?_))
    have ef : ((some (Value.builtin "tuple.__eq__") : Option Value) == some (.builtin "object.__eq__")) = false := by decide +kernel
    rw [ef]
    simp only [Bool.not_false, if_true]
    have few : (es.filter fun y => y.hash == (entryOfKey (tupleKind knd) x).hash).size ≤ 1 := by
      rw [← Array.length_toList, Array.toList_filter, he, List.filter_map, List.length_map]
      refine few_of hn fun a ha b hb pa pb => ?_
      have ea : (tupleKind knd).hash a.1 = (tupleKind knd).hash x.1 := by simpa [entryOfKey] using pa
      have eb : (tupleKind knd).hash b.1 = (tupleKind knd).hash x.1 := by simpa [entryOfKey] using pb
      exact hh a ha b hb (ea.trans eb.symm)
    rw [if_neg (Nat.not_lt_of_le few)]
    exact wpAny_pure ⟨rfl, fun e' q => hr e' (List.mem_cons_of_mem _ q)⟩
  · rintro r s' ⟨rfl, _⟩
    exact wpAny_pure h
  · rw [he] at q
    obtain ⟨x, hx, rfl⟩ := List.mem_map.mp q
    exact ⟨x, hx, rfl⟩
/-- dict(d) -/
theorem dict_heap {o : Addr} {xs : List (List K × Addr × Value)} {Q : Value → Shared → Prop} (hoS : (o == sysModules) = false) (hm : s.heap.DictOfH (tupleKind knd) o xs) (hsz : xs.length ≤ sizeLine)
    (hh : ∀ x, x ∈ xs → ∀ y, y ∈ xs → (tupleKind knd).hash x.1 = (tupleKind knd).hash y.1 → x.1 = y.1)
    (h : ∀ h', h'.DictOfH (tupleKind knd) s.heap.objs.size xs → Heap.SameBut s.heap.objs.size (s.heap.push { cls := .type "dict", data := .dict #[] }) h' → Q (.ref s.heap.objs.size) { s with heap := h' }) :
    wpAny (model prog w) A (call (.type "dict") [.ref o]) Q E s := by
  refine callType_codes (Q₁ := fun obj s₁ => obj = .ref s.heap.objs.size ∧ s₁ = { s with heap := s.heap.push { cls := .type "dict", data := .dict #[] } }) PySem.F.kt_called_dict (PySem.F.kt_typeCall_dict_1 _) PySem.F.entry_dict_init (kt_code_dict_new _ ⟨rfl, rfl⟩) ?_
  rintro obj s₁ ⟨rfl, rfl⟩
  have hnew : (s.heap.push { cls := .type "dict", data := .dict #[] }).DictOfH (tupleKind knd) s.heap.objs.size [] := Heap.DictOfH.new s.heap
  obtain ⟨oo, es, ep, ho, hc, hd, he, his, hn⟩ := id hm
  have hlt : o < s.heap.objs.size := Heap.lt_size ho
  have ho' : (s.heap.push { cls := .type "dict", data := .dict #[] }).get? o = some oo := Heap.get?_push_of_some _ ho
  have keep : ∀ {k : List K} {a : Addr} {u : Obj}, (tupleKind knd).is s.heap k a → (tupleKind knd).is (s.heap.push u) k a := fun {k a u} q => by
    obtain ⟨ob, items, n, h1, h2⟩ := q
    exact ⟨ob, items, n, Heap.get?_push_of_some _ h1, h2⟩
  have hm' : (s.heap.push { cls := .type "dict", data := .dict #[] }).DictOfH (tupleKind knd) o xs := ⟨oo, es, ep, ho', hc, hd, he, fun x hx => keep (his x hx), hn⟩
  have hes : es.size = xs.length := size_of_entries he
  refine ⟨hnew.typeIs, PySem.F.args_dict_init_2 _ _, ?_⟩
  unfold Builtin.«dict.__init__»
  refine wpAny_bind ?_
  unfold Builtin.Dict.selfAndRest
  refine wpAny_bind (wpAny_notOrdered_dict hnew.typeIs ?_)
  show wpAny _ _ (pure (s.heap.objs.size, [Value.ref o])) _ _ _
  refine wpAny_pure ?_
  show wpAny _ _ (Builtin.Dict.updateFrom "dict.__init__" s.heap.objs.size (.ref o) [] .none) _ _ _
  unfold Builtin.Dict.updateFrom
  refine wpAny_bind (wpAny_typeOf hm'.typeIs ?_)
  rw [if_neg (by decide)]
  refine wpAny_bind ?_
  unfold Builtin.Dict.merge
  refine wpAny_bind ?_
  unfold Builtin.Dict.readDirectly
  refine wpAny_bind (wpAny_isInstance hm'.typeIs isSubtype_dict_dict ?_)
  simp only [Bool.not_true, Bool.false_eq_true, if_false]
  refine wpAny_bind (wpAny_specialOf hm'.typeIs PySem.F.slot_dict_iter.lookup (wpAny_pure ?_))
  simp only [beq_self_eq_true, if_true]
  refine wpAny_bind (wpAny_pure ?_)
  unfold Builtin.Dict.mergeDict
  rw [if_neg (by simpa using (Nat.ne_of_lt hlt).symm)]
  unfold Builtin.Dict.showsAll
  rw [if_neg (by rw [hoS]; exact Bool.false_ne_true)]
  refine wpAny_bind (wpAny_pure ?_)
  refine wpAny_bind (wpAny_dictEntries (s := { s with heap := s.heap.push { cls := .type "dict", data := .dict #[] } }) ho' hd ?_)
  obtain ⟨od, esd, epd, hod, hcd, hdd, hed, _, _⟩ := id hnew
  have esd0 : esd = #[] := by
    have : esd.toList = [] := hed
    exact Array.toList_eq_nil_iff.mp this
  subst esd0
  dsimp only
  cases hx : xs with
  | nil =>
    have es0 : es = #[] := by
      rw [hx] at he
      exact Array.toList_eq_nil_iff.mp he
    subst es0
    rw [if_neg (by simp)]
    refine wpAny_bind (wpAny_dictEpoch (s := { s with heap := s.heap.push { cls := .type "dict", data := .dict #[] } }) ho' hd ?_)
    refine wpAny_bind (wpAny_dictEntries (s := { s with heap := s.heap.push { cls := .type "dict", data := .dict #[] } }) ho' hd ?_)
    rw [Std.Legacy.Range.forIn_eq_forIn_range']
    refine wpAny_bind ?_
    show wpAny _ _ (pure PUnit.unit) _ _ _
    refine wpAny_pure (wpAny_pure ?_)
    rw [hx] at h
    exact wpAny_bind (wpAny_pure (wpAny_pure ⟨rfl, h _ hnew (Heap.SameBut.refl _ _)⟩))
  | cons x r =>
    have few : (decide (es.size ≤ 8) && es.all fun e => (keyPart e.key).isSome) = false := by
      rw [Bool.and_eq_false_iff]
      right
      rw [← Array.all_toList, he, hx, List.map_cons, List.all_cons]
      rfl
    rw [few]
    rw [if_pos (by rfl)]
    refine wpAny_bind (wpAny_dictEntries (s := { s with heap := s.heap.push { cls := .type "dict", data := .dict #[] } }) hod hdd ?_)
    rw [if_pos (by rfl)]
    refine wpAny_bind (entries_heap (s := { s with heap := s.heap.push { cls := .type "dict", data := .dict #[] } }) ho' hd he (fun x hx => keep (his x hx)) hn hh ?_)
    have hne : es.isEmpty = false := by
      cases q : es.isEmpty with
      | false => rfl
      | true =>
        have h0 : es = #[] := Array.isEmpty_iff.mp q
        rw [h0, hx] at he
        cases he
    rw [hne, if_pos (by rfl)]
    have hto : es.size ≤ sizeLine + 1 := by omega
    refine wpAny_bind (wpAny_updateDictKeysTo (s := { s with heap := s.heap.push { cls := .type "dict", data := .dict #[] } }) hod hdd (wpAny_pure ?_) hto)
    rw [hx] at h
    exact wpAny_bind (wpAny_pure (wpAny_pure ⟨rfl, h _ ⟨_, _, epd + 1, Heap.get?_update_self _ hod (Obj.isFreed_of_dict (Obj.data_mapDictKeys hdd _)), hcd.mapDictKeys _,
          Obj.data_mapDictKeys hdd _, by rw [← hx]; exact he, fun y hy => (tupleKind knd).keeps (keep (his y (by rw [hx]; exact hy))) hod hdd (Heap.SameBut.update ..), by rw [← hx]; exact hn⟩ (Heap.SameBut.update ..)⟩))
end
end Sl
namespace L2
open PySem PySem.Spec PyProof.Rows
/-! rules beyond the layer: bit_length, dict(d), d.pop with tuple keys, a call of what an expression gives, a dict of the module -/
section
variable {X : Cx}
theorem mt_bit_length : MtR X "int.bit_length" (fun x xs H Q => ∃ i, x = .int i ∧ xs = [] ∧ Q (.int ((Builtin.Int.intBits i : Nat) : Int)) H) := by
  intro pins s σ H x xs v us Q I rx rs h
  obtain ⟨i, rfl, rfl, q⟩ := h
  obtain ⟨t, rfl⟩ := rx
  cases rs
  exact call_int_bit_length ⟨.int _, H, I.tok _, ⟨_, rfl⟩, q⟩
theorem call_dictK : CallR X (.type "dict") (fun xs H Q => ∃ a kvs, xs = [V.ref a] ∧ H a = some (.dK kvs) ∧ ∀ p, H p = none → Q (.ref p) (upd H p (.dK kvs))) := by
  intro pins s σ H xs us Q I r h
  obtain ⟨a, kvs, rfl, ha, q⟩ := h
  obtain ⟨u, rfl, ru⟩ := vals1 r
  cases ru
  exact d_copyOf I (.inl ha) fun p s' hp I' => ⟨.ref p, _, I', rfl, q p hp⟩
/-- a key that is a pair of a number and a byte -/
def PairKey (k : List Key) : Prop := ∃ p b : Nat, p < 65536 ∧ b < 256 ∧ k = [Sum.inl (p : Int), Sum.inl (b : Int)]
theorem hash_small {n : Nat} (h : n < 65536) : hashInt (n : Int) = (n : Int) := by
  have e : rawHash (n : Int) = (n : Int) := by
    unfold rawHash
    have h1 : (((n : Int)).natAbs : Int) % ((2 ^ 61 - 1 : Nat) : Int) = n := by
      rw [Int.natAbs_natCast]
      refine Int.emod_eq_of_lt (Int.natCast_nonneg _) ?_
      have : ((2 ^ 61 - 1 : Nat) : Int) = 2305843009213693951 := by decide +kernel
      rw [this]
      omega
    dsimp only
    rw [h1, if_neg (show ¬ (n : Int) < 0 by omega), if_neg (by
      intro z
      have z' : (n : Int) = -1 := by simpa using z
      omega)]
  unfold hashInt
  rw [e, if_neg (by
    intro z
    have z' : (n : Int) = -1 := by simpa using z
    omega)]
theorem pair_hash {P : Program} {w : World} {k k' : List Key} (h : PairKey k) (h' : PairKey k') (e : (tupleKind (mixKind P w)).hash k = (tupleKind (mixKind P w)).hash k') : k = k' := by
  obtain ⟨p, b, hp, hb, rfl⟩ := h
  obtain ⟨q, c, hq, hc, rfl⟩ := h'
  have e' : reduceHash (Builtin.Tuple.tupleHashOf [hashInt (p : Int), hashInt (b : Int)]) = reduceHash (Builtin.Tuple.tupleHashOf [hashInt (q : Int), hashInt (c : Int)]) := e
  rw [hash_small hp, hash_small (Nat.lt_trans hb (by decide)), hash_small hq, hash_small (Nat.lt_trans hc (by decide))] at e'
  have red : ∀ {i : Int}, -9223372036854775808 ≤ i ∧ i < 9223372036854775808 ∧ i ≠ -1 → reduceHash i = i := fun {i} hi => by
    unfold reduceHash
    rw [if_pos (by
      rw [Bool.and_eq_true, decide_eq_true_eq, decide_eq_true_eq]
      exact ⟨hi.1, hi.2.1⟩), if_neg (by
      intro z
      exact hi.2.2 (by simpa using z))]
  rw [red (Sl.hash_rng hp hb), red (Sl.hash_rng hq hc)] at e'
  obtain ⟨rfl, rfl⟩ := Sl.hash_inj hp hq hb hc e'
  rfl
theorem call_dictT : CallR X (.type "dict") (fun xs H Q => ∃ a kvs, xs = [V.ref a] ∧ H a = some (.dT kvs) ∧ (∀ x, x ∈ kvs → PairKey x.1) ∧ ∀ p, H p = none → Q (.ref p) (upd H p (.dT kvs))) := by
  intro pins s σ H xs us Q I r h
  obtain ⟨a, kvs, rfl, ha, hk, q⟩ := h
  obtain ⟨u, rfl, ru⟩ := vals1 r
  cases ru
  obtain ⟨z, hd, xs, rel, dd⟩ := dt_of I.hok ha
  have keys : ∀ x, x ∈ xs → PairKey x.1 := by
    intro x hx
    have all : ∀ {l : List (List Key × V)} {m : List (List Key × Addr × Value)}, KT H l m → ∀ x ∈ m, ∃ y ∈ l, y.1 = x.1 := by
      intro l m q
      induction q with
      | nil => intro x hx; exact nomatch hx
      | @cons p q ps qs hq t ih =>
        intro x hx
        rcases List.mem_cons.mp hx with e | hx
        · subst e
          exact ⟨p, List.mem_cons_self, hq.1⟩
        · obtain ⟨y, hy, e⟩ := ih x hx
          exact ⟨y, List.mem_cons_of_mem _ hy, e⟩
    obtain ⟨y, hy, e⟩ := all rel x hx
    rw [← e]
    exact hk y hy
  refine Sl.dict_heap hd dd (by rw [← Paired.length rel]; exact z) (fun x hx y hy e => pair_hash (keys x hx) (keys y hy) e) fun h' dd' hs => ?_
  obtain ⟨ob, es, ep, hq, h2, h3, h4, _, h5⟩ := dd'
  have fr : H s.heap.objs.size = none := I.hok.fresh (Nat.le_refl _)
  refine ⟨.ref s.heap.objs.size, _, I.laid (a := s.heap.objs.size) (o := .dT kvs) (t' := s.toks) (fun b q hq => ?_) (Nat.le_refl _) ⟨z, beq_eq_false_iff_ne.mpr (Ne.symm (Nat.ne_of_lt I.big)), xs, rel.keeps fun c ys ec => ?_, ob, es, ep, hq, h2, h3, h4, h5⟩, rfl, q _ fr⟩
  · exact (hs.2 b (Nat.ne_of_lt (Heap.lt_size hq))).trans (Heap.get?_push_of_some _ hq)
  · rw [upd_ne (ne_of_none ec fr)]
    exact ec
end
theorem KT.drop {H : Hp} {kvs : List (List Key × V)} {xs : List (List Key × Addr × Value)} (r : KT H kvs xs) (k : List Key) : KT H (dropK kvs k) (xs.filter fun x => decide (x.1 ≠ k)) := by
  unfold dropK
  induction r with
  | nil => exact .nil
  | @cons p q ps qs h t ih =>
    rw [List.filter_cons, List.filter_cons]
    by_cases e : p.1 = k
    · rw [if_neg (by simp [e]), if_neg (by simp [← h.1, e])]
      exact ih
    · rw [if_pos (by simp [e]), if_pos (by simp [← h.1, e])]
      exact .cons h ih
section
variable {X : Cx} {pins : List (Addr × Obj)} {σ : St} {H : Hp} {s : Shared} {a b : Addr} {kvs : List (List Key × V)} {k : List Key} {A : Around} {E : Value → Shared → Prop}
theorem d_popT {v : V} {Q : Value → Shared → Prop} (hu : A.units + 1 < cLine) (I : Inv X pins σ H s) (e : H a = some (.dT kvs)) (eb : H b = some (.tup (k.map kV))) (l : valV kvs k = some v)
    (h : ∀ w' s', Inv X pins σ (upd H a (.dT (dropK kvs k))) s' → RelV v w' → Q w' s') : wpAny (model X.prog X.w) A (call (.builtin "dict.pop") [.ref a, .ref b]) Q E s := by
  obtain ⟨z, hd, xs, rel, dd⟩ := dt_of I.hok e
  obtain ⟨w', hw, rw'⟩ := RelO.some_of (v := v) (o := (atKey xs k).map (·.2)) (by rw [← l]; exact rel.val k)
  obtain ⟨p, hp, hp2⟩ := Option.map_eq_some_iff.mp hw
  refine Sl.pop_heap (tupleKind_room_in1 hu) (key_of I.hok eb) dd hp (by rw [← Paired.length rel]; exact z) fun h' dd' hs => h p.2 _ ?_ (by rw [hp2]; exact rw')
  obtain ⟨q, es, ep, hq, h2, h3, h4, _, h5⟩ := dd'
  have hl : (dropK kvs k).length ≤ sizeLine := Nat.le_trans (List.length_filter_le _ _) z
  refine d_write I (by rw [e]; exact True.intro) hs ⟨q, hq⟩ ⟨hl, hd, _, (rel.drop k).keeps fun c ys ec => ?_, q, es, ep, hq, h2, h3, h4, h5⟩
  rw [upd_ne (ne_of ec e (fun z => nomatch z))]
  exact ec
end
/-- d.pop(t), t a tuple that is there -/
def tDPopT (td ty : TE) : TE := fun σ H Q => td σ H fun x H1 => ∃ a, x = .ref a ∧ IsD H1 a ∧ ty σ H1 fun y H2 => ∃ kvs k b v, H2 a = some (.dT kvs) ∧ y = .ref b ∧ H2 b = some (.tup (k.map kV)) ∧ valV kvs k = some v ∧ Q v (upd H2 a (.dT (dropK kvs k)))
section
variable {X : Cx} {o e f : Expr} {apos cpos : Pos} {td ty tx : TE}
theorem pe_dpopT (hu : X.A.units + 1 < cLine) (ho : PE X o td) (he : PE X e ty) (m : M1 X o "pop" apos e cpos) : PE X (.Call (.Attribute o "pop" apos) [e] [] cpos) (tDPopT td ty) := by
  intro pins s σ H Q I h
  refine wpAny_Call_method m.base m.few m.line PySem.F.plainAttrs_dict PySem.F.slot_dict_pop PySem.F.type_dict_pop (thn (ho pins s σ H _ I h) fun u s1 ⟨x, H1, I1, rx, a, ex, d, q1⟩ => ?_)
  subst ex
  obtain rfl : u = Value.ref a := rx
  obtain ⟨t1, t2, _⟩ := isD_at I1 d
  refine ⟨t1, t2, ?_⟩
  rw [m.trees]
  refine Calls.callWith_builtin rfl (Calls.evalArgs_plain (Calls.spliced_cons (thn (he pins s1 σ H1 _ I1 q1) fun iv s2 ⟨y, H2, I2, ry, kvs, k, b, v, ea, ey, eb, l, q2⟩ => Calls.spliced_nil ?_)))
  subst ey
  obtain rfl : iv = Value.ref b := ry
  exact d_popT hu I2 ea eb l fun w' s3 I3 rw' => ⟨v, _, I3, rw', q2⟩
end
/-- F(e, ..), F an expression that gives a def -/
def tCallE (X : Cx) (tf : TE) (t : TA) : TE := fun σ H Q => tf σ H fun v H1 => ∃ (f : Addr) (k : Nat) (fd : FuncData) (ps : List Str) (sp : Sp), v = .ref f ∧ FnOk X.prog X.w X.K X.mg X.base CX0 k f fd ps sp ∧ Room k X.A ∧ PySem.W.keepIn X.K (.ref f) = true ∧ Binds X.K fd ps [] ∧
  t σ H1 fun vs H2 => sp vs H2 Q E0
theorem pe_callE {X : Cx} {fn e : Expr} {es : List Expr} {pos : Pos} {tf : TE} {t : TA} (hf : PE X fn tf) (ha : PA X (e :: es) t)
    (hc : eval (.Call fn (e :: es) [] pos) X.env = (do callWith pos (← eval fn X.env) [] (backTo pos (starEach (e :: es) X.env)) (backToKw pos (keywordEach [] X.env))) := by rfl)
    (he : starEach (e :: es) X.env = (false, eval e X.env) :: starEach es X.env := by rfl) (hpl : (backTo pos (starEach es X.env)).any (·.1) = false := by rfl) :
    PE X (.Call fn (e :: es) [] pos) (tCallE X tf t) := by
  intro pins s σ H Q I h
  rw [hc]
  refine wpAny_bind (thn (hf pins s σ H _ I h) fun u s1 ⟨v, H1, I1, rv, f, k, fd, ps, sp, ev, F, hr, hk, hb, q⟩ => ?_)
  subst ev
  obtain rfl : u = Value.ref f := rv
  refine PySem.W.callWith_K (h₀ := X.base) I1.ok.mod.kin hk (thn (ha pos pins s1 σ H1 _ I1 q) fun us s2 ⟨vs, H2, I2, r, q2⟩ => ⟨I2.kIn, ?_⟩) he hpl
  exact run_fn (ds := []) (dvs := []) F hr hb .nil pass0 I2 r (by rw [List.append_nil]; exact q2)
/-- D[e], D a dict of the module: numbers to defs -/
def tKGet (vs : List (Key × Value)) (ty : TE) : TE := fun σ H Q => ty σ H fun y H1 => ∃ (i : Int) (f : Addr), y = .int i ∧ valueAt vs (Sum.inl i : Key) = some (.ref f) ∧ Q (.ref f) H1
theorem pe_kget {X : Cx} {x : Str} {d : Addr} {p pos : Pos} {i : Expr} {ty : TE} {vs : List (Key × Value)} (hg : Gl X x) (hm : X.mg x = some (.ref d)) (hd : ∀ h : Heap, X.K.In h → h.DictOf (mixKind X.prog X.w) d vs) (hi : PE X i ty) (hs : NoSl i)
    (hdb : (x == ("__debug__" : Str)) = false := by decide) : PE X (.Subscript (.Name x p) i pos) (tKGet vs ty) := by
  intro pins s σ H Q I h
  refine subD_of PySem.F.slot_dict_getitem.lookup hs (ld_glob I hg hm (thn (hi pins s σ H _ I h) fun iv s2 ⟨y, H2, I2, ry, n, f, ey, g, q2⟩ => ?_) hdb)
  subst ey
  have dd := hd s2.heap I2.kIn
  obtain ⟨t, rfl⟩ := ry
  exact ⟨dd.typeIs, wpAny_getItem_of (k := (Sum.inl n : Key)) (mixKind_int _ _ n t) dd.mapOf g ⟨.ref f, H2, I2.tok _, rfl, q2⟩⟩
end L2
namespace L2
open PySem PySem.Spec PyProof.Rows
/-! rules beyond the layer: a class's own method by the class's name; exceptions of an own class: raised, passed on, caught -/
/-- C.m, C a class of the module -/
structure ClsM (K : PySem.W.Frag) (C : Addr) (m : Str) (f : Addr) : Prop where
  ga : PySem.W.specialIn K (.ref C) "__getattribute__" = some (some (.builtin "type.__getattribute__"))
  rd : PySem.W.readsIn K C (.type "type") = true
  at_ : PySem.W.findCls K (.ref C) (.type "type") m = some (.val (.ref f))
  kp : PySem.W.keepIn K (.ref f) = true
section
variable {X : Cx} {CX : CXT} {k : Nat} {f C : Addr} {fd : FuncData} {ps : List Str} {sp : Sp} {dvs : List V} {ds : List Value} {E : XK} {x m : Str} {p pos apos : Pos} {e : Expr} {es : List Expr} {t : TA}
theorem pe_clsm {pl : Sem Bool} (c : ClsM X.K C m f) (F : FnOk X.prog X.w X.K X.mg X.base CX k f fd ps sp) (hr : Room k X.A) (hg : Gl X x) (hm : X.mg x = some (.ref C)) (hb : Binds X.K fd ps ds) (hd : Vals dvs ds) (hx : Passes CX X E) (ha : PA X (e :: es) t)
    (hdb : (x == ("__debug__" : Str)) = false := by decide) (hst : starEach (e :: es) X.env = (false, eval e X.env) :: starEach es X.env := by rfl) (hpl : (backTo pos (starEach es X.env)).any (·.1) = false := by rfl)
    (ht : eval (.Call (.Attribute (.Name x p) m apos) (e :: es) [] pos) X.env = (do
      let ov ← eval (.Name x p) X.env
      standAt apos.atName
      let (f, first) ← holding [ov] (getMethod ov m pl)
      callWith pos f first (backTo pos (starEach (e :: es) X.env)) (backToKw pos (keywordEach [] X.env))) := by rfl) :
    PE X (.Call (.Attribute (.Name x p) m apos) (e :: es) [] pos) (tCall sp dvs E t) := by
  intro pins s σ H Q I h
  refine PySem.W.methodCall_KW (pl := pl) (ld_glob I hg hm ?_ hdb) ht
  refine PySem.W.method_cls I.kIn c.ga (PySem.W.cls_value I.kIn c.rd c.at_ rfl ?_)
  have I1 := I.tok (s.toks + 1)
  refine PySem.W.callWith_K (first := []) (h₀ := X.base) I.ok.mod.kin c.kp (thn (ha pos pins _ σ H _ I1 h) fun us s2 ⟨vs, H2, I2, r, q2⟩ => ⟨I2.kIn, ?_⟩) hst hpl
  exact run_fn (us := us) (vs := vs) F hr hb hd hx I2 r q2
end
/-- more augmented operators on attributes -/
theorem inop_of {X : Cx} {op : Operator} {r : R2} (ho : OpR X (inplaceOp op) r) : InOp X op r := by
  intro pins s σ H x y u v Q I rx ry h
  exact ho pins s σ H x y u v Q I rx ry h
/-! ### how an exception of the class at C lies -/
structure XAt (P : Program) (w : World) (C : Addr) (outer : List Env) (H H1 : Hp) (h B h' : Heap) (a : Addr) (a0 : Value) : Prop where
  un : Un (frs outer) (frs outer) H H1 h B
  sl : ∀ b, b ∈ frs outer → ∀ o, h.get? b = some o → ∃ sl, h'.get? b = some { o with slots := sl }
  fr : ∀ b, b ∈ frs outer → H1 b = none
  ok : HOk P w H1 B
  fly : Heap.FlyingW B outer a (.ref C) a0 h'
def CXW (P : Program) (w : World) (C : Addr) : CXT := fun outer H s E e s' => ∃ (a : Addr) (B : Heap) (a0 : Value) (H1 : Hp), e = .ref a ∧ s'.os = s.os ∧ AllBare s'.gens ∧ XAt P w C outer H H1 s.heap B s'.heap a a0 ∧ E (.ref C) none H1
section
variable {P : Program} {w : World} {C a : Addr} {outer : List Env} {H H1 : Hp} {h B h' h2 : Heap} {a0 : Value}
theorem XAt.un' (x : XAt P w C outer H H1 h B h' a a0) : Un (frs outer) [] H H1 h h' := by
  have st := x.fly.1
  refine ⟨fun b o q n hb _ => st b o (x.un.keep b o q n hb hb), fun b o q n hb _ => x.sl b hb o q, fun b o q n _ => ?_, fun b o q _ => ?_, x.un.tups, x.un.frzs, x.un.tbls⟩
  · by_cases hb : b ∈ frs outer
    · exact x.fr b hb
    · exact x.un.free b o q n hb
  · by_cases hb : b ∈ frs outer
    · obtain ⟨sl, e⟩ := x.sl b hb o q
      exact ⟨_, e⟩
    · obtain ⟨o', e⟩ := x.un.there b o q hb
      exact ⟨o', st b o' e⟩
theorem XAt.hok (x : XAt P w C outer H H1 h B h' a a0) : HOk P w H1 h' := x.ok.kept x.fly.1
/-- the heap goes on, but for slots and records -/
theorem XAt.on (x : XAt P w C outer H H1 h B h' a a0) (f : Heap.FlyingW B outer a (.ref C) a0 h2) (u : h'.UpToSlots h2) : XAt P w C outer H H1 h B h2 a a0 := by
  refine ⟨x.un, fun b hb o q => ?_, x.fr, x.ok, f⟩
  obtain ⟨sl, e⟩ := x.sl b hb o q
  obtain ⟨_, o2, e2, d2⟩ := x.fly.2.2.1.mem hb
  rw [e] at e2
  cases e2
  obtain ⟨sl2, e3⟩ := u b _ e d2
  exact ⟨sl2, e3⟩
end
/-- what is in a def's context -/
structure Plain (X : Cx) : Prop where
  stk : X.stack = X.env :: X.outer ∧ X.env.frame = some X.env.locals
  ex : X.ex = []
section
variable {X : Cx} {pins : List (Addr × Obj)} {σ : St} {H : Hp} {s s' : Shared} {C a : Addr} {B : Heap} {a0 : Value} {H1 : Hp}
theorem mem_frs {env : Env} {outer : List Env} {L b : Addr} (hf : env.frame = some L) (hb : b ∈ frs (env :: outer)) : b = L ∨ b ∈ frs outer := by
  unfold frs at hb
  rw [List.filterMap_cons, hf] at hb
  exact List.mem_cons.mp hb
theorem frs_tail {env : Env} {outer : List Env} {L b : Addr} (hf : env.frame = some L) (hb : b ∈ frs outer) : b ∈ frs (env :: outer) := by
  unfold frs
  rw [List.filterMap_cons, hf]
  exact List.mem_cons_of_mem _ hb
/-- back in the body behind a call that raised -/
theorem XAt.inv (I : Inv X pins σ H s) (x : XAt X.prog X.w C X.stack H H1 s.heap B s'.heap a a0) (os : s'.os = s.os) (hg : AllBare s'.gens) : Inv X pins σ H1 s' :=
  I.call' (ch := []) os x.un' x.hok hg fun b z => nomatch z
/-- raised here -/
theorem XAt.raised (I : Inv X pins σ H s) (p : Plain X) {A : Around} {E : Value → Shared → Prop} {hx : Heap} {Q : Unit → Shared → Prop} {vs : List Value} (hfr : A.frames = some X.stack) (m : Heap.MadeExcOf s.heap hx a (.ref C) vs)
    (h : ∀ h' B t, XAt X.prog X.w C X.outer X.H₀ H X.s₀.heap B h' a (.ref t) → Q () { s with heap := h' }) : wpAny (model X.prog X.w) A (leaving X.env (.ref a)) Q E { s with heap := hx } := by
  obtain ⟨⟨st, hf⟩, ex⟩ := p
  have fr := I.stack
  have nf : ∀ b o, X.s₀.heap.get? b = some o → b ∉ frs X.outer → b ∉ frs X.stack := fun b o e n z => by
    rw [st] at z
    rcases mem_frs hf z with z | z
    · have := Nat.lt_of_lt_of_le (Heap.lt_size e) I.ok.above
      rw [z] at this
      exact Nat.lt_irrefl _ this
    · exact n z
  have nex : ∀ b : Addr, b ∉ X.ex := fun b z => by
    rw [ex] at z
    exact nomatch z
  have hin : ∀ env ∈ X.stack, ∀ b, env.frame = some b → b ∈ frs X.stack := fun env he b hb => List.mem_filterMap.mpr ⟨env, he, hb⟩
  have FF : s.heap.FunFrames (PySem.W.hideAll s.heap (frs X.stack)) (X.env :: X.outer) := by
    rw [← st]
    exact PySem.W.funFrames_hide fr hin
  refine wpAny_leaves_madeW (s := { s with heap := hx }) (base := PySem.W.hideAll s.heap (frs X.stack)) (h := s.heap) (outer := X.outer) (L := X.env.locals) (hfr.trans (by rw [st])) hf (fun b o q => PySem.W.of_hideAll _ q) FF m fun h' t x1 _ _ x4 => ?_
  refine h h' _ t ⟨⟨fun b o q n hb _ => ?_, fun b o q n hb hc => absurd hb hc, fun b o q n hb => ?_, fun b o q hb => ?_, I.base.tups, I.base.frzs, I.base.tbls⟩, fun b hb o q => ?_, fun b hb => ?_, fun b o q => ?_, x1⟩
  · exact PySem.W.hideAll_get _ (I.base.keep b o q n hb (nex b)) (nf b o q hb)
  · exact I.base.free b o q n (nex b)
  · obtain ⟨o', e⟩ := I.base.there b o q (nex b)
    exact ⟨o', PySem.W.hideAll_get _ e (nf b o q hb)⟩
  · obtain ⟨_, o1, e1, d1⟩ := I.ok.funs.mem hb
    rw [q] at e1
    cases e1
    obtain ⟨sl, e2⟩ := I.base.slot b o q (I.ok.frf b hb) hb (nex b)
    obtain ⟨sl2, e3⟩ := x4 b _ (m.keeps _ _ e2) d1
    exact ⟨sl2, e3⟩
  · obtain ⟨_, o1, e1, d1⟩ := I.ok.funs.mem hb
    exact I.base.free b o1 e1 (I.ok.frf b hb) (nex b)
  · refine (I.hok b o q).stay (fun c u hc e => PySem.W.hideAll_get _ e fun z => ?_) (fun _ q => q) fun _ _ q => q
    have n := I.stkFree c z
    rcases hc with hc | hc
    · rw [hc, q] at n
      cases n
    · rw [hc] at n
      cases n
/-- passed on -/
theorem XAt.passed (I : Inv X pins σ H s) (p : Plain X) {A : Around} {E : Value → Shared → Prop} {Q : Unit → Shared → Prop} (hfr : A.frames = some X.stack) (x : XAt X.prog X.w C X.stack H H1 s.heap B s'.heap a a0)
    (h : ∀ h', XAt X.prog X.w C X.outer X.H₀ H1 X.s₀.heap B h' a a0 → Q () { s' with heap := h' }) : wpAny (model X.prog X.w) A (leaving X.env (.ref a)) Q E s' := by
  obtain ⟨⟨st, hf⟩, ex⟩ := p
  have nf : ∀ b o, X.s₀.heap.get? b = some o → b ∉ frs X.outer → b ∉ frs X.stack := fun b o e n z => by
    rw [st] at z
    rcases mem_frs hf z with z | z
    · have := Nat.lt_of_lt_of_le (Heap.lt_size e) I.ok.above
      rw [z] at this
      exact Nat.lt_irrefl _ this
    · exact n z
  have nex : ∀ b : Addr, b ∉ X.ex := fun b z => by
    rw [ex] at z
    exact nomatch z
  have up : ∀ b, b ∈ frs X.outer → b ∈ frs X.stack := fun b hb => by
    rw [st]
    exact frs_tail hf hb
  have fl := x.fly
  rw [st] at fl
  refine wpAny_leaves_onW (outer := X.outer) (L := X.env.locals) (hfr.trans (by rw [st])) hf fl fun h' x1 x4 => ?_
  refine h h' ⟨⟨fun b o q n hb _ => ?_, fun b o q n hb hc => absurd hb hc, fun b o q n hb => ?_, fun b o q hb => ?_, fun b xs q => x.un.tups b xs (I.base.tups b xs q), fun b o u q => x.un.frzs b o u (I.base.frzs b o u q), fun b ps q => ?_⟩, fun b hb o q => ?_, fun b hb => x.fr b (up b hb), x.ok, x1⟩
  · exact x.un.keep b o (I.base.keep b o q n hb (nex b)) (I.base.free b o q n (nex b)) (nf b o q hb) (nf b o q hb)
  · obtain ⟨o', e⟩ := I.base.there b o q (nex b)
    exact x.un.free b o' e (I.base.free b o q n (nex b)) (nf b o q hb)
  · obtain ⟨o', e⟩ := I.base.there b o q (nex b)
    exact x.un.there b o' e (nf b o q hb)
  · obtain ⟨m1, e1⟩ := I.base.tbls b ps q
    obtain ⟨m2, e2⟩ := x.un.tbls b _ e1
    exact ⟨m1 ++ m2, by rw [e2, Array.append_assoc]⟩
  · obtain ⟨_, o1, e1, d1⟩ := I.ok.funs.mem hb
    rw [q] at e1
    cases e1
    obtain ⟨sl, e2⟩ := I.base.slot b o q (I.ok.frf b hb) hb (nex b)
    obtain ⟨sl2, e3⟩ := x.sl b (up b hb) _ e2
    obtain ⟨sl3, e4⟩ := x4 b _ e3 d1
    exact ⟨sl3, e4⟩
end
/-- the class of the exception -/
structure ExcC (K : PySem.W.Frag) (mg : Str → Option Value) (x : Str) (C : Addr) : Prop where
  at_ : mg x = some (.ref C)
  ex : PySem.W.excIn K C [.type "Exception", .type "BaseException", .type "object"] "Exception.__new__" = true
theorem ExcC.obj {K : PySem.W.Frag} {mg : Str → Option Value} {x : Str} {C : Addr} (c : ExcC K mg x C) {h : Heap} (X : K.In h) :
    ∃ bm N nm q bs hdct sn sub ab col dd k0 k1 k2 k3 k5 mN, h.get? C = some (excClassObj nm q C N bs bm hdct sn sub ab col dd k0 k1 k2 k3 k5 "Exception.__new__") ∧ h.Ns N mN ∧ mN "__init__" = none ∧ OwnTail h [.type "Exception", .type "BaseException", .type "object"] bm := by
  have q := c.ex
  unfold PySem.W.excIn at q
  split at q
  · rename_i dd cd sl ho
    split at q
    · rename_i C' bm k0 k1 k2 k3 n k5 hm hs
      simp only [Bool.and_eq_true, beq_iff_eq, Bool.not_eq_true'] at q
      obtain ⟨⟨⟨⟨⟨rfl, rfl⟩, hdel⟩, ht⟩, hok⟩, hni⟩ := q
      obtain ⟨nm, bs, mro, ns, qn, hd, sn, sub, ab, col, del⟩ := cd
      dsimp only at hm hdel hok hni
      subst hm hdel
      have hsl : sl = #[k0, k1, k2, k3, some (.builtin "Exception.__new__"), k5] := by
        obtain ⟨l⟩ := sl
        simp only at hs
        rw [hs]
      subst hsl
      exact ⟨bm, ns, nm, qn, bs, hd, sn, sub, ab, col, dd, k0, k1, k2, k3, k5, _, X _ _ ho, .of_isNs (PySem.W.isNs_of_in X hok), PySem.W.nsMap_none_of_in X hok hni, PySem.W.tail_of_in X ht⟩
    · cases q
  · cases q
/-- raise C() -/
theorem exec_raise {X : Cx} {pins : List (Addr × Obj)} {σ : St} {H : Hp} {s : Shared} {x : Str} {C : Addr} {np cpos pos : Pos} {Q : Flow → Shared → Prop} (I : Inv X pins σ H s) (c : ExcC X.K X.mg x C) (hh : X.A.handled = none) (hg : Gl X x)
    (h : ∀ h' e, Heap.MadeExcOf s.heap h' e (.ref C) [] → X.xe (.ref e) { s with heap := h' }) (hdb : (x == ("__debug__" : Str)) = false := by decide) :
    wpAny (model X.prog X.w) X.A (exec (.Raise (some (.Call (.Name x np) [] [] cpos)) none pos) X.env) Q X.xe s := by
  obtain ⟨bm, N, nm, q, bs, hdct, sn, sub, ab, col, dd, k0, k1, k2, k3, k5, mN, hC, hN, hni, T⟩ := c.obj I.kIn
  refine wpAny_Raise_call_subT (C := C) (nm := nm) (q := q) (N := N) (bs := bs) (bm := bm) (hdct := hdct) (sn := sn) (sub := sub) (ab := ab) (col := col) (dd := dd) (k0 := k0) (k1 := k1) (k2 := k2) (k3 := k3) (k5 := k5)
    PySem.F.excBase_Exception (mN := mN) (T.hasType PySem.F.excBase_Exception.hasBase) hh rfl hni (ld_glob I hg c.at_ ⟨rfl, ?_⟩ hdb)
  exact evalArgs_empty ⟨rfl, Nat.zero_le _, hC, hN, T, h⟩
/-! ### a def that may raise -/
section
variable {P : Program} {w : World} {K : PySem.W.Frag} {mg : Str → Option Value} {base : Heap} {N : List Str} {qual : Str} {scope : Scope} {f C : Addr} {cdv : Value} {A : Around} {outer : List Env} {s : Shared} {H : Hp} {E : XK}
theorem plain_cx : Plain (cxOf (CXW P w C) P w K mg base N qual scope f cdv A outer s H E) := ⟨⟨rfl, rfl⟩, rfl⟩
theorem passW : Passes (CXW P w C) (cxOf (CXW P w C) P w K mg base N qual scope f cdv A outer s H E) E := by
  intro pins σ H2 s2 e s' I h
  obtain ⟨a, B, a0, H1, rfl, os, g, x, q⟩ := h
  refine XAt.passed I plain_cx I.ok.frames x fun h' y => ?_
  exact ⟨a, B, a0, H1, rfl, os.trans I.os, g, y, q⟩
def tRaise (C : Addr) (E : XK) : TS := fun _ _ H => E (.ref C) none H
theorem ps_raise {x : Str} {np cpos pos : Pos} (c : ExcC K mg x C) (hh : A.handled = none) (hg : Gl (cxOf (CXW P w C) P w K mg base N qual scope f cdv A outer s H E) x := by rfl) (hdb : (x == ("__debug__" : Str)) = false := by decide) :
    PS (cxOf (CXW P w C) P w K mg base N qual scope f cdv A outer s H E) (.Raise (some (.Call (.Name x np) [] [] cpos)) none pos) (tRaise C E) := by
  intro pins s2 σ H2 D I h
  refine exec_raise I c hh hg (fun hx e m => ?_) hdb
  refine XAt.raised I plain_cx I.ok.frames m fun h' B t y => ?_
  exact ⟨e, B, .ref t, H2, rfl, I.os, I.bare, y, h⟩
theorem ownW : PassesOwn (model P w) (cxOf (CXW P w C) P w K mg base N qual scope f cdv A outer s H E).A (cxOf (CXW P w C) P w K mg base N qual scope f cdv A outer s H E).env (cxOf (CXW P w C) P w K mg base N qual scope f cdv A outer s H E).xe :=
  PassesOwn.leaving (Q₁ := fun e s'' => CXW P w C outer H s E e s'') (E₁ := fun e s'' => CXW P w C outer H s E e s'')
theorem Fun.okX {x qual : Str} {st : Stmt} {f : Addr} {fd : FuncData} {N ps : List Str} {k : Nat} {sp : Sp} (F : Fun K x qual st f fd) (S : FnScope N ps (defScope st)) (len : ∀ vs H Q E, sp vs H Q E → vs.length = ps.length)
    (hbody : ∀ (cdv : Value) (A : Around) (outer : List Env) (s : Shared) (H : Hp) (vs : List V) (Q : VK) (E : XK), Room k (A.deeper (envOfC qual (defScope st) s.heap.objs.size f cdv)) → sp vs H Q E →
      ∃ t, PSs (cxOf (CXW P w C) P w K mg base N qual (defScope st) f cdv A outer s H E) (defBody st) t ∧ t { nx := fun _ H' => Q .non H', rt := Q } (start N vs) H) : FnOk P w K mg base (CXW P w C) (k + 1) f fd ps sp := by
  obtain ⟨oc, od, kV, doc, pm, an, cdv, ct, osl, rfl, lk, hcd⟩ := F.ex
  exact fn_of lk hcd S len fun A outer s H vs Q E hr hsp => hbody cdv A outer s H vs Q E hr hsp
end
end L2
namespace L2
open PySem PySem.Spec PyProof.Rows
/-- the context of a try's body: its own wish, and the pins at the try -/
abbrev Cx.tryX (X : Cx) (Ex : Value → Shared → Prop) (pl : List (Addr × Obj)) : Cx := { X with xe := Ex, pn := X.pn ++ pl }
/-- the context of an except's suite -/
abbrev Cx.sui (X : Cx) (e : Value) : Cx := { X with A := X.A.mark (some e), calm := false, xe := fun _ _ => False }
section
variable {X : Cx} {pins pl : List (Addr × Obj)} {σ : St} {H : Hp} {s : Shared} {Ex : Value → Shared → Prop}
theorem Cx.Ok.tryX (ok : X.Ok) : (X.tryX Ex pl).Ok :=
  ⟨ok.mod, ok.kind, ok.glob, ok.blt, ok.above, ok.inj, ok.has, ok.cab, ok.hd, ok.frames, ok.stk, ok.exf, ok.bs, ok.bsz, ok.noex, ok.exfs, ok.funs, ok.frf⟩
theorem Cx.Ok.untryX (ok : (X.tryX Ex pl).Ok) : X.Ok :=
  ⟨ok.mod, ok.kind, ok.glob, ok.blt, ok.above, ok.inj, ok.has, ok.cab, ok.hd, ok.frames, ok.stk, ok.exf, ok.bs, ok.bsz, ok.noex, ok.exfs, ok.funs, ok.frf⟩
theorem Cx.Ok.sui (ok : X.Ok) (e : Value) : (X.sui e).Ok :=
  ⟨ok.mod, ok.kind, ok.glob, ok.blt, ok.above, ok.inj, ok.has, ok.cab, (fun h => nomatch h), ok.frames, ok.stk, ok.exf, ok.bs, ok.bsz, ok.noex, ok.exfs, ok.funs, ok.frf⟩
theorem Inv.tryX (I : Inv X pins σ H s) : Inv (X.tryX Ex pins) pins σ H s :=
  ⟨I.ok.tryX, I.os, I.bare, I.base, I.loc, I.cell, I.free, I.freeC, fun p hp => I.pin p (by
    rcases List.mem_append.mp hp with q | q
    · exact q
    · exact List.mem_append_right _ q), I.hok, I.len⟩
theorem Inv.untryX {pins' : List (Addr × Obj)} (I : Inv (X.tryX Ex pl) pins' σ H s) : Inv X pl σ H s :=
  ⟨I.ok.untryX, I.os, I.bare, I.base, I.loc, I.cell, I.free, I.freeC, fun p hp => I.pin p (List.mem_append_left _ hp), I.hok, I.len⟩
theorem Inv.sui (I : Inv X pins σ H s) (e : Value) : Inv (X.sui e) pins σ H s := ⟨I.ok.sui e, I.os, I.bare, I.base, I.loc, I.cell, I.free, I.freeC, I.pin, I.hok, I.len⟩
theorem Inv.unsui {e : Value} (ok : X.Ok) (I : Inv (X.sui e) pins σ H s) : Inv X pins σ H s := ⟨ok, I.os, I.bare, I.base, I.loc, I.cell, I.free, I.freeC, I.pin, I.hok, I.len⟩
theorem SP.untryX {D : Ends} {f : Flow} {s' : Shared} (h : SP (X.tryX Ex pins) pins D f s') : SP X pins D f s' := by
  cases f with
  | next => obtain ⟨σ', H', I, q⟩ := h; exact ⟨σ', H', I.untryX, q⟩
  | brk => obtain ⟨σ', H', I, q⟩ := h; exact ⟨σ', H', I.untryX, q⟩
  | cont => obtain ⟨σ', H', I, q⟩ := h; exact ⟨σ', H', I.untryX, q⟩
  | ret u => obtain ⟨v, σ', H', I, r, q⟩ := h; exact ⟨v, σ', H', I.untryX, r, q⟩
theorem SP.unsui {D : Ends} {f : Flow} {s' : Shared} {e : Value} (ok : X.Ok) (h : SP (X.sui e) pins D f s') : SP X pins D f s' := by
  cases f with
  | next => obtain ⟨σ', H', I, q⟩ := h; exact ⟨σ', H', I.unsui ok, q⟩
  | brk => obtain ⟨σ', H', I, q⟩ := h; exact ⟨σ', H', I.unsui ok, q⟩
  | cont => obtain ⟨σ', H', I, q⟩ := h; exact ⟨σ', H', I.unsui ok, q⟩
  | ret u => obtain ⟨v, σ', H', I, r, q⟩ := h; exact ⟨v, σ', H', I.unsui ok, r, q⟩
/-- try: body except C: suite; the suite reads none of the names -/
def tTry (tb : XK → TS) (th : TS) : TS := fun D σ H => tb (fun _ _ H1 => ∀ σ', th D σ' H1) D σ H
theorem ps_try {x : Str} {C : Addr} {np hpos pos : Pos} {body suite : List Stmt} {b₀ : Stmt} {tb : XK → TS} {th : TS} (c : ExcC X.K X.mg x C) (p : Plain X) (hg : Gl X x)
    (hb : ∀ (Ex : Value → Shared → Prop) (pl : List (Addr × Obj)) (E : XK), Passes (CXW X.prog X.w C) (X.tryX Ex pl) E → PSs (X.tryX Ex pl) body (tb E)) (hs : ∀ e, PSs (X.sui e) (b₀ :: suite) th) (hdb : (x == ("__debug__" : Str)) = false := by decide) :
    PS X (.Try body [.ExceptHandler (some (.Name x np)) none (b₀ :: suite) hpos] [] [] pos) (tTry tb th) := by
  intro pins s σ H D I h
  refine wpAny_Try_except ?_
  refine wpAny_mono (hb _ pins _ ?_ pins s σ H D (I.tryX (Ex := fun e s₁ => wpAny (model X.prog X.w) X.A (noteFrame e X.env) (fun _ s₂ => wpAny (model X.prog X.w) X.A (setFlight e none) (fun _ s₃ =>
    wpAny (model X.prog X.w) X.A (handleBy e X.env [.ExceptHandler (some (.Name x np)) none (b₀ :: suite) hpos]) (SP X pins D) X.xe s₃) X.xe s₂) X.xe s₁)) h) (fun f s1 q => ?_) fun _ _ z => z
  · intro pins' σ' H' s' e s1 I' hx
    obtain ⟨a, B, a0, H1, rfl, os, g, y, q⟩ := hx
    have J : Inv X pins σ' H' s' := I'.untryX
    obtain ⟨⟨st, hf⟩, ex⟩ := p
    have fl : Heap.FlyingW B (X.env :: X.outer) a (.ref C) a0 s1.heap := by
      have := y.fly
      rw [show (X.tryX _ pins).stack = X.stack from rfl, st] at this
      exact this
    have y0 : XAt X.prog X.w C (X.env :: X.outer) H' H1 s'.heap B s1.heap a a0 := by
      rw [← st]
      exact y
    refine wpAny_looks_onW (L := X.env.locals) (I.ok.frames.trans (by rw [st])) hf fl fun h₄ held₄ sm₄ => ?_
    refine wpAny_landsW held₄ fun h₅ fl₅ sm₅ => ?_
    have y5 : XAt X.prog X.w C X.stack H' H1 s'.heap B h₅ a a0 := by
      rw [st]
      exact y0.on fl₅ (sm₄.trans sm₅)
    have I5 : Inv X pins σ' H1 { s1 with heap := h₅ } := XAt.inv J (s' := { s1 with heap := h₅ }) y5 os g
    obtain ⟨ob, hob, hobc⟩ := fl₅.there
    obtain ⟨bm, N, nm, qn, bs, hdct, sn, sub, ab, col, dd, k0, k1, k2, k3, k5, mN, hC, hN, hni, TL⟩ := c.obj I5.kIn
    refine wpAny_handleBy_cons (codeAny_handlers_test (ld_glob (X := X.sui (.ref a)) (I5.sui (.ref a)) hg c.at_ ?_ hdb)) (by intro q; cases q)
    refine wpAny_excMatches_sub_self hC hob hobc (TL.hasType PySem.F.excBase_Exception.hasBase) (codeAny_handlers_suite ?_)
    refine lands_againW (s := { s1 with heap := h₅ }) fl₅ fun h₆ fl₆ sm₆ => ?_
    have y6 : XAt X.prog X.w C X.stack H' H1 s'.heap B h₆ a a0 := by
      rw [st]
      exact y0.on fl₆ ((sm₄.trans sm₅).trans sm₆)
    have I6 : Inv X pins σ' H1 { s1 with heap := h₆ } := XAt.inv J (s' := { s1 with heap := h₆ }) y6 os g
    exact wpAny_mono (hs (.ref a) pins _ σ' H1 D (I6.sui (.ref a)) (q σ')) (fun f s2 q2 => SP.unsui I.ok q2) fun _ _ z => z.elim
  · have q' := SP.untryX q
    cases f with
    | next => exact wpAny_execs_nil q'
    | brk => exact q'
    | cont => exact q'
    | ret u => exact q'
end
end L2
namespace L2
open PySem PySem.Spec PyProof.Rows
/-! the head for a specification: one list of whole numbers in, one out -/
/-- what is left behind the call: a list of these numbers, all that was there as it was -/
def Left (s₁ : Shared) (out : List Int) (r : Result) (s' : Shared) : Prop :=
  ∃ (p : Addr) (its : List Value) (n : Nat), r = .ok (.ret (.ref p)) ∧ s'.heap.get? p = some { cls := .type "list", data := .seq its.toArray n } ∧ IntsAre its out ∧ OldK s₁.heap s'.heap ∧ s'.os = s₁.os ∧ AllBare s'.gens
theorem spec_call {P : Program} {w : World} {K : PySem.W.Frag} {mg mb : Str → Option Value} {k : Nat} {fa a : Addr} {fd : FuncData} {x : Str} {sp : Sp} {s₁ : Shared} {vs : List Value} {ns out : List Int}
    (KX : K.In s₁.heap) (hns : s₁.heap.Ns mainGlobals mg) (hb : s₁.heap.Ns builtinsNs mb) (hbb : ∀ x : Str, x ≠ "__name__" → mb x = bootBuiltins x) (hlim : s₁.heap.NoLimit) (hg : s₁.gens = #[])
    (ha : s₁.heap.get? a = some { cls := .type "list", data := .seq vs.toArray }) (hi : IntsAre vs ns) (hl : ns.length ≤ sizeLine) (hr : Room k callerA)
    (F : ∀ base : Heap, K.In base → base.Ns mainGlobals mg → FnOk P w K mg base CX0 k fa fd [x] sp) (hbind : ∀ (s : Shared) (u : Value), BindsTo s fd ⟨[u], []⟩ [(x, u)])
    (hsp : ∀ H : Hp, SqL K H a (ns.map V.int) → sp [.ref a] H (fun v H' => ∃ p, v = .ref p ∧ H' p = some (.lst (out.map V.int))) E0) :
    codeAny (model P w) callerA (.call (.ref fa) ⟨[.ref a], []⟩) (Left s₁ out) s₁ := by
  have rv := vals_ints hi
  have lenV := hi.length
  have core : ∀ H : Hp, Only H → SqL K H a (ns.map V.int) → HOk P w H s₁.heap → (∀ b, H b ≠ none → b = a) → (H a ≠ none → K.lookup a = none) →
      codeAny (model P w) callerA (.call (.ref fa) ⟨[.ref a], []⟩) (Left s₁ out) s₁ := by
    intro H hO hS hok hA hK
    have base_of : ∀ {b : Addr} {o : Obj}, s₁.heap.get? b = some o → H b = none → (hidT s₁.heap H).get? b = some o := fun e n => hidT_get e n
    have noA : ∀ {b : Addr} {o : Obj} {es : Array DictEntry} {ep : Nat}, s₁.heap.get? b = some o → o.data = .dict es ep → H b = none := fun {b o es ep} e d => by
      cases q : H b with
      | none => rfl
      | some u =>
        have e' : b = a := hA b (by rw [q]; simp)
        subst e'
        rw [ha] at e; cases e
        have d' : Data.seq vs.toArray _ = Data.dict es ep := d
        cases d'
    have nsK : ∀ {b : Addr} {m : Str → Option Value}, s₁.heap.Ns b m → (hidT s₁.heap H).Ns b m := fun {b m} ⟨o, es, ep, e, d, r⟩ => ⟨o, es, ep, base_of e (noA e d), d, r⟩
    have hKb : K.In (hidT s₁.heap H) := fun b o e => base_of (KX b o e) (by
      cases q : H b with
      | none => rfl
      | some u =>
        have e' : b = a := hA b (by rw [q]; simp)
        subst e'
        rw [hK (by rw [q]; simp)] at e; cases e)
    have hM : Mod K mg (hidT s₁.heap H) := ⟨hKb, nsK hns, ⟨mb, nsK hb, hbb⟩, let ⟨mc, h1, h2⟩ := hlim; ⟨mc, nsK h1, h2⟩⟩
    have e0 : Env0 P w K mg (hidT s₁.heap H) callerA [] s₁ H := ⟨rfl, hM, fun b o e => of_hidT e, Nat.le_of_eq (hidT_size _ _), trivial, fun b hb => absurd (show b ∈ ([] : List Addr) from hb) (by simp), hok, .of_eq hg⟩
    refine codeAny_mono ((F _ hKb (nsK hns)).run callerA [] s₁ H ⟨[.ref a], []⟩ [.ref a] [.ref a] _ _ hr e0 (hbind s₁ (.ref a)) (.cons rfl .nil) (hsp H hS)) fun r s' h => ?_
    cases r with
    | error e => exact False.elim h
    | ok fl =>
      cases fl with
      | next => exact False.elim h
      | brk => exact False.elim h
      | cont => exact False.elim h
      | ret u =>
        obtain ⟨v, H', os, bare, un, hok', r', p, ev, ep⟩ := h
        subst ev
        obtain rfl : u = Value.ref p := r'
        obtain ⟨_, its, n, rl, hp⟩ := hok' p _ ep
        refine ⟨p, its, n, rfl, hp, rl.ints, OldK.of_keep fun b o e => ?_, os, bare⟩
        cases q : H b with
        | none => exact un.keep b o e q (by intro z; exact absurd (show b ∈ ([] : List Addr) from z) (by simp)) (by simp)
        | some u =>
          rcases hO b with z | ⟨ob, xs, z⟩
          · rw [q] at z; cases z
          · have z2 := un.frzs b ob _ z
            obtain ⟨e1, _⟩ := hok b _ z
            obtain ⟨e2, _⟩ := hok' b _ z2
            rw [e] at e1; cases e1
            exact e2
  cases hk : K.lookup a with
  | some o =>
    have e := KX a o hk
    rw [ha] at e
    cases e
    refine core (fun _ => none) (fun _ => .inl rfl) (.inr ⟨_, vs.toArray, _, hk, rfl, rfl, rfl, by rw [List.size_toArray, lenV]; exact hl, by simpa using rv⟩) (fun b u z => by have z' : (none : Option HO) = some u := z; cases z') (fun b z => absurd rfl z) fun z => absurd rfl z
  | none =>
    refine core (fun b => if b = a then some (.frz { cls := .type "list", data := .seq vs.toArray } (.lst (ns.map V.int))) else none) (fun b => ?_) (.inl (.inr ⟨{ cls := .type "list", data := .seq vs.toArray }, if_pos rfl⟩)) (fun b u z => ?_) (fun b z => ?_) fun _ => hk
    · by_cases hb : b = a
      · exact .inr ⟨_, _, if_pos hb⟩
      · exact .inl (if_neg hb)
    · by_cases hb : b = a
      · have z' := (if_pos hb).symm.trans z
        cases z'
        subst hb
        exact ⟨ha, by rw [List.length_map]; exact hl, vs, _, rv, ha⟩
      · have z' := (if_neg hb).symm.trans z
        cases z'
    · by_cases hb : b = a
      · exact hb
      · exact absurd (if_neg hb) z
theorem reads_ints {R : PySem.W.WRecords} {cl : Str → Option Addr} {h : Heap} : ∀ {us : List Value} {ns : List Int}, IntsAre us ns → PySem.W.ReadsAllW R cl h us (ns.map PySem.W.WData.int) []
  | _, _, .nil => .nil
  | _, _, .cons n t r => by
    have q := PySem.W.ReadsAllW.cons (PySem.W.ReadsW.int (R := R) (cl := cl) (h := h) n t) (reads_ints r)
    exact q
/-- the goal that the head leaves, from the promise of the def -/
theorem walk_spec {r : PySem.W.OpenSpec} {most : Nat} {lo hi : Int} {k : Nat} {q : Program} {loose : List Str} {XP : (Str → Option Value) → Heap → Prop} {YP : World → Heap → Prop} {d : DefRec} {K : Params → PySem.W.Frag} {sp : World → Sp} {x : Str}
    (f : List Int → List Int) (asked : List Int → Bool) (said : r.wellSaid = true) (hpr : ∀ as, r.pre as = true → ∃ ns : List Int, as = [.list (ns.map PySem.W.WData.int)] ∧ ns.length ≤ most ∧ (∀ z ∈ ns, lo ≤ z ∧ z ≤ hi) ∧ asked ns = true)
    (hpo : ∀ ns : List Int, r.pre [.list (ns.map PySem.W.WData.int)] = true → r.post [.list (ns.map PySem.W.WData.int)] (.list ((f ns).map PySem.W.WData.int)) = true)
    (hn2 : most ≤ sizeLine) (hdf : d.params.defaults = []) (hr : Room k callerA)
    (hY : ∀ (w : World) (h : Heap), YP w h → (K w.params).In h)
    (F : ∀ (w : World) (mg : Str → Option Value) (fa : Addr) (h : Heap), (K w.params).In h → h.Ns mainGlobals mg → mg d.name = some (.ref fa) →
      ∃ fd : FuncData, (∀ (s : Shared) (u : Value), BindsTo s fd ⟨[u], []⟩ [(x, u)]) ∧ ∀ base : Heap, (K w.params).In base → base.Ns mainGlobals mg → FnOk r.prog w (K w.params) mg base CX0 k fa fd [x] (sp w))
    (hsp : ∀ (w : World) (H : Hp) (a : Addr) (ns : List Int), ns.length ≤ most → (∀ z ∈ ns, lo ≤ z ∧ z ≤ hi) → asked ns = true → SqL (K w.params) H a (ns.map V.int) → sp w [.ref a] H (fun v H' => ∃ p, v = .ref p ∧ H' p = some (.lst ((f ns).map V.int))) E0) :
    PySem.W.WalkOS q loose XP YP r d [] (fun f vs => PySem.call f vs) := by
  intro w s₀ s₁ mg mb G Y fa o pm cd doc dV kV ho hd hcd hD hmg hg args vals as hpre hlay hrd hwl hlo
  obtain rfl : dV = .none := PySem.W.Dflts.none hD hdf
  obtain rfl : kV = .none := PySem.W.Dflts.noKw hD
  obtain ⟨ns, rfl, hlen, hrng, hask⟩ := hpr args hpre
  obtain ⟨a, vs, rfl, hobj, hints⟩ : ∃ a vs, vals = [Value.ref a] ∧ s₁.heap.get? a = some { cls := .type "list", data := .seq vs.toArray } ∧ IntsAre vs ns := by
    cases hwl with
    | cons w1 w2 =>
      cases w2
      cases w1 with
      | list ho hall => exact ⟨_, _, rfl, ho, Att.ints_of_wellAll ns _ hall⟩
  have KX := hY w _ Y
  obtain ⟨fd, hb, hF⟩ := F w mg fa _ KX G.T.g hmg
  refine PySem.W.enter_call (codeAny_mono (spec_call KX G.T.g G.T.b G.T.builtins G.T.nolimit hg hobj hints (Nat.le_trans hlen hn2) hr hF hb fun H hS => hsp w H a ns hlen hrng hask hS) fun res s' hq => ?_)
  obtain ⟨p, its, n, rfl, hp, hi2, h2, h3, h4⟩ := hq
  have q := PySem.W.ReadsW.list (R := []) (cl := classAt s₀.heap) hp rfl rfl (reads_ints hi2)
  exact ⟨.inl ⟨.ref p, _, _, rfl, fun _ => rfl, q, hpo ns hpre, fun z => absurd z Bool.false_ne_true⟩, h2, h3, h4⟩
end L2
namespace SL
open PySem L2
/-! the text by places; the attributes; what is known of the classes and defs behind the top -/
def top (i : Nat) : Stmt := PySem.Challenge.pw_shortline_s01_answers.main.body.getD i (.Pass ⟨0, 0, 0, 0⟩)
/-- a whole number of the module -/
def GI (mg : Str → Option Value) (x : Str) (n : Int) : Prop := ∃ t, mg x = some (Value.int n t)
theorem pe_gi {X : Cx} {x : Str} {n : Int} {pos : Pos} (h : GI X.mg x n) (hg : Gl X x := by rfl) (hd : (x == ("__debug__" : Str)) = false := by decide) : PE X (.Name x pos) (tC (.int n)) := by
  obtain ⟨t, e⟩ := h
  exact pe_glob hg e ⟨t, rfl⟩ hd
/-- a def or method of the text -/
structure FnR (K : PySem.W.Frag) (x qual : Str) (st : Stmt) (ps : List Str) where
  f : Addr
  fd : FuncData
  F : Fun K x qual st f fd
  b : Binds K fd ps []
def fnr {K : PySem.W.Frag} {x qual : Str} {st : Stmt} {f : Addr} {oc : Value} {od an : Option Addr} {osl : Array (Option Value)} {kV doc pm cdv ct : Value} (ps : List Str) (l : K.lookup f = some ⟨oc, od, .func (PySem.W.fnOf x qual (defArgs st) (defBody st) (defScope st) .none kV doc pm an cdv ct), osl⟩)
    (c : PySem.W.codeIn K cdv qual = true) (k : PySem.W.keepIn K (.ref f) = true)
    (h : ∀ (kV doc pm : Value) (an : Option Addr) (cdv ct : Value) (us : List Value), us.length = ps.length → bindArgs (PySem.W.fnOf x qual (defArgs st) (defBody st) (defScope st) .none kV doc pm an cdv ct) ⟨us, []⟩ = pure (ps.zip us)) : FnR K x qual st ps :=
  ⟨f, _, fun_mk l c k, (fun_mk l c k).binds h⟩
abbrev sTree_init : Stmt := inClass (top 6) 0
abbrev sTree_copy : Stmt := inClass (top 6) 1
abbrev sTree_find : Stmt := inClass (top 6) 2
abbrev sTree_holds : Stmt := inClass (top 6) 3
abbrev sTree_length_of : Stmt := inClass (top 6) 4
abbrev sTree_bytes_of : Stmt := inClass (top 6) 5
abbrev sTree_add : Stmt := inClass (top 6) 6
abbrev sTree_go_on : Stmt := inClass (top 6) 7
abbrev sTree_number_behind : Stmt := inClass (top 6) 8
abbrev sTree_take_out : Stmt := inClass (top 6) 9
abbrev sLineEnd_init : Stmt := inClass (top 15) 0
abbrev sLineEnd_start : Stmt := inClass (top 15) 1
abbrev sLineEnd_start_anew : Stmt := inClass (top 15) 2
abbrev sLineEnd_become_like : Stmt := inClass (top 15) 3
abbrev sLineEnd_move_escape : Stmt := inClass (top 15) 4
abbrev sPacker_init : Stmt := inClass (top 19) 0
abbrev sPacker_copy : Stmt := inClass (top 19) 1
abbrev sPacker_push : Stmt := inClass (top 19) 2
abbrev sPacker_fill_up : Stmt := inClass (top 19) 3
abbrev sPacker_hand_over : Stmt := inClass (top 19) 4
abbrev sUnpacker_init : Stmt := inClass (top 21) 0
abbrev sUnpacker_copy : Stmt := inClass (top 21) 1
abbrev sUnpacker_push : Stmt := inClass (top 21) 2
abbrev sUnpacker_pull : Stmt := inClass (top 21) 3
abbrev sUnpacker_drop_rest : Stmt := inClass (top 21) 4
abbrev sReceiver_init : Stmt := inClass (top 24) 0
abbrev sReceiver_copy : Stmt := inClass (top 24) 1
abbrev sReceiver_take : Stmt := inClass (top 24) 2
abbrev sReceiver_take_plain : Stmt := inClass (top 24) 3
abbrev sReceiver_take_meaning : Stmt := inClass (top 24) 4
abbrev sReceiver_take_short : Stmt := inClass (top 24) 5
abbrev sReceiver_take_step : Stmt := inClass (top 24) 6
abbrev sReceiver_end_strings : Stmt := inClass (top 24) 7
abbrev sReceiver_take_string : Stmt := inClass (top 24) 8
abbrev sReceiver_give_out : Stmt := inClass (top 24) 9
abbrev sSender_init : Stmt := inClass (top 26) 0
abbrev sSender_copy : Stmt := inClass (top 26) 1
abbrev sSender_put : Stmt := inClass (top 26) 2
abbrev sSender_put_plain : Stmt := inClass (top 26) 3
abbrev sSender_put_short : Stmt := inClass (top 26) 4
abbrev sSender_flush : Stmt := inClass (top 26) 5
abbrev sSender_to_short : Stmt := inClass (top 26) 6
abbrev sSender_to_plain : Stmt := inClass (top 26) 7
abbrev sSender_reset : Stmt := inClass (top 26) 8
abbrev sSender_push_escape : Stmt := inClass (top 26) 9
abbrev sSender_send_string_and_sign : Stmt := inClass (top 26) 10
abbrev sSender_send : Stmt := inClass (top 26) 11
abbrev sModem_init : Stmt := inClass (top 40) 0
abbrev sModem_begin : Stmt := inClass (top 40) 1
abbrev sModem_put : Stmt := inClass (top 40) 2
abbrev sModem_flush : Stmt := inClass (top 40) 3
abbrev sModem_mode : Stmt := inClass (top 40) 4
abbrev sModem_reset : Stmt := inClass (top 40) 5
abbrev sModem_settle_sender : Stmt := inClass (top 40) 6
abbrev sModem_take : Stmt := inClass (top 40) 7
abbrev sReader_init : Stmt := inClass (top 42) 0
abbrev sReader_at_end : Stmt := inClass (top 42) 1
abbrev sReader_take_number : Stmt := inClass (top 42) 2
abbrev sReader_take_row : Stmt := inClass (top 42) 3
abbrev s_answer_begin : Stmt := top 43
abbrev s_answer_put : Stmt := top 44
abbrev s_answer_flush : Stmt := top 45
abbrev s_answer_mode : Stmt := top 46
abbrev s_answer_reset : Stmt := top 47
abbrev s_answer_take : Stmt := top 48
abbrev s_answers : Stmt := top 50
theorem scTree_init : FnScope ["self", "codes", "longest"] ["self", "codes", "longest"] (defScope sTree_init) := ⟨rfl, rfl, rfl, by decide +kernel, rfl, by decide +kernel, by decide +kernel⟩
theorem scTree_copy : FnScope ["self", "twin"] ["self"] (defScope sTree_copy) := ⟨rfl, rfl, rfl, by decide +kernel, rfl, by decide +kernel, by decide +kernel⟩
theorem scTree_find : FnScope ["self", "number", "byte"] ["self", "number", "byte"] (defScope sTree_find) := ⟨rfl, rfl, rfl, by decide +kernel, rfl, by decide +kernel, by decide +kernel⟩
theorem scTree_holds : FnScope ["self", "number"] ["self", "number"] (defScope sTree_holds) := ⟨rfl, rfl, rfl, by decide +kernel, rfl, by decide +kernel, by decide +kernel⟩
theorem scTree_length_of : FnScope ["self", "number"] ["self", "number"] (defScope sTree_length_of) := ⟨rfl, rfl, rfl, by decide +kernel, rfl, by decide +kernel, by decide +kernel⟩
theorem scTree_bytes_of : FnScope ["self", "number", "backward", "end"] ["self", "number"] (defScope sTree_bytes_of) := ⟨rfl, rfl, rfl, by decide +kernel, rfl, by decide +kernel, by decide +kernel⟩
theorem scTree_add : FnScope ["self", "number", "byte", "node"] ["self", "number", "byte"] (defScope sTree_add) := ⟨rfl, rfl, rfl, by decide +kernel, rfl, by decide +kernel, by decide +kernel⟩
theorem scTree_go_on : FnScope ["self", "node"] ["self"] (defScope sTree_go_on) := ⟨rfl, rfl, rfl, by decide +kernel, rfl, by decide +kernel, by decide +kernel⟩
theorem scTree_number_behind : FnScope ["self", "node"] ["self", "node"] (defScope sTree_number_behind) := ⟨rfl, rfl, rfl, by decide +kernel, rfl, by decide +kernel, by decide +kernel⟩
theorem scTree_take_out : FnScope ["self", "node", "end"] ["self", "node"] (defScope sTree_take_out) := ⟨rfl, rfl, rfl, by decide +kernel, rfl, by decide +kernel, by decide +kernel⟩
theorem scLineEnd_init : FnScope ["self", "codes", "longest"] ["self", "codes", "longest"] (defScope sLineEnd_init) := ⟨rfl, rfl, rfl, by decide +kernel, rfl, by decide +kernel, by decide +kernel⟩
theorem scLineEnd_start : FnScope ["self", "codes", "longest"] ["self", "codes", "longest"] (defScope sLineEnd_start) := ⟨rfl, rfl, rfl, by decide +kernel, rfl, by decide +kernel, by decide +kernel⟩
theorem scLineEnd_start_anew : FnScope ["self"] ["self"] (defScope sLineEnd_start_anew) := ⟨rfl, rfl, rfl, by decide +kernel, rfl, by decide +kernel, by decide +kernel⟩
theorem scLineEnd_become_like : FnScope ["self", "other"] ["self", "other"] (defScope sLineEnd_become_like) := ⟨rfl, rfl, rfl, by decide +kernel, rfl, by decide +kernel, by decide +kernel⟩
theorem scLineEnd_move_escape : FnScope ["self"] ["self"] (defScope sLineEnd_move_escape) := ⟨rfl, rfl, rfl, by decide +kernel, rfl, by decide +kernel, by decide +kernel⟩
theorem scPacker_init : FnScope ["self"] ["self"] (defScope sPacker_init) := ⟨rfl, rfl, rfl, by decide +kernel, rfl, by decide +kernel, by decide +kernel⟩
theorem scPacker_copy : FnScope ["self", "twin"] ["self"] (defScope sPacker_copy) := ⟨rfl, rfl, rfl, by decide +kernel, rfl, by decide +kernel, by decide +kernel⟩
theorem scPacker_push : FnScope ["self", "number", "bits"] ["self", "number", "bits"] (defScope sPacker_push) := ⟨rfl, rfl, rfl, by decide +kernel, rfl, by decide +kernel, by decide +kernel⟩
theorem scPacker_fill_up : FnScope ["self"] ["self"] (defScope sPacker_fill_up) := ⟨rfl, rfl, rfl, by decide +kernel, rfl, by decide +kernel, by decide +kernel⟩
theorem scPacker_hand_over : FnScope ["self", "octets"] ["self"] (defScope sPacker_hand_over) := ⟨rfl, rfl, rfl, by decide +kernel, rfl, by decide +kernel, by decide +kernel⟩
theorem scUnpacker_init : FnScope ["self"] ["self"] (defScope sUnpacker_init) := ⟨rfl, rfl, rfl, by decide +kernel, rfl, by decide +kernel, by decide +kernel⟩
theorem scUnpacker_copy : FnScope ["self", "twin"] ["self"] (defScope sUnpacker_copy) := ⟨rfl, rfl, rfl, by decide +kernel, rfl, by decide +kernel, by decide +kernel⟩
theorem scUnpacker_push : FnScope ["self", "octet"] ["self", "octet"] (defScope sUnpacker_push) := ⟨rfl, rfl, rfl, by decide +kernel, rfl, by decide +kernel, by decide +kernel⟩
theorem scUnpacker_pull : FnScope ["self", "bits", "number"] ["self", "bits"] (defScope sUnpacker_pull) := ⟨rfl, rfl, rfl, by decide +kernel, rfl, by decide +kernel, by decide +kernel⟩
theorem scUnpacker_drop_rest : FnScope ["self", "clean"] ["self"] (defScope sUnpacker_drop_rest) := ⟨rfl, rfl, rfl, by decide +kernel, rfl, by decide +kernel, by decide +kernel⟩
theorem scReceiver_init : FnScope ["self", "codes", "longest"] ["self", "codes", "longest"] (defScope sReceiver_init) := ⟨rfl, rfl, rfl, by decide +kernel, rfl, by decide +kernel, by decide +kernel⟩
theorem scReceiver_copy : FnScope ["self", "twin"] ["self"] (defScope sReceiver_copy) := ⟨rfl, rfl, rfl, by decide +kernel, rfl, by decide +kernel, by decide +kernel⟩
theorem scReceiver_take : FnScope ["self", "row", "most", "octet"] ["self", "row", "most"] (defScope sReceiver_take) := ⟨rfl, rfl, rfl, by decide +kernel, rfl, by decide +kernel, by decide +kernel⟩
theorem scReceiver_take_plain : FnScope ["self", "octet"] ["self", "octet"] (defScope sReceiver_take_plain) := ⟨rfl, rfl, rfl, by decide +kernel, rfl, by decide +kernel, by decide +kernel⟩
theorem scReceiver_take_meaning : FnScope ["self", "octet"] ["self", "octet"] (defScope sReceiver_take_meaning) := ⟨rfl, rfl, rfl, by decide +kernel, rfl, by decide +kernel, by decide +kernel⟩
theorem scReceiver_take_short : FnScope ["self", "octet", "number"] ["self", "octet"] (defScope sReceiver_take_short) := ⟨rfl, rfl, rfl, by decide +kernel, rfl, by decide +kernel, by decide +kernel⟩
theorem scReceiver_take_step : FnScope ["self"] ["self"] (defScope sReceiver_take_step) := ⟨rfl, rfl, rfl, by decide +kernel, rfl, by decide +kernel, by decide +kernel⟩
theorem scReceiver_end_strings : FnScope ["self"] ["self"] (defScope sReceiver_end_strings) := ⟨rfl, rfl, rfl, by decide +kernel, rfl, by decide +kernel, by decide +kernel⟩
theorem scReceiver_take_string : FnScope ["self", "number", "string"] ["self", "number"] (defScope sReceiver_take_string) := ⟨rfl, rfl, rfl, by decide +kernel, rfl, by decide +kernel, by decide +kernel⟩
theorem scReceiver_give_out : FnScope ["self", "string"] ["self", "string"] (defScope sReceiver_give_out) := ⟨rfl, rfl, rfl, by decide +kernel, rfl, by decide +kernel, by decide +kernel⟩
theorem scSender_init : FnScope ["self", "codes", "longest"] ["self", "codes", "longest"] (defScope sSender_init) := ⟨rfl, rfl, rfl, by decide +kernel, rfl, by decide +kernel, by decide +kernel⟩
theorem scSender_copy : FnScope ["self", "twin"] ["self"] (defScope sSender_copy) := ⟨rfl, rfl, rfl, by decide +kernel, rfl, by decide +kernel, by decide +kernel⟩
theorem scSender_put : FnScope ["self", "row", "byte"] ["self", "row"] (defScope sSender_put) := ⟨rfl, rfl, rfl, by decide +kernel, rfl, by decide +kernel, by decide +kernel⟩
theorem scSender_put_plain : FnScope ["self", "byte"] ["self", "byte"] (defScope sSender_put_plain) := ⟨rfl, rfl, rfl, by decide +kernel, rfl, by decide +kernel, by decide +kernel⟩
theorem scSender_put_short : FnScope ["self", "byte", "node"] ["self", "byte"] (defScope sSender_put_short) := ⟨rfl, rfl, rfl, by decide +kernel, rfl, by decide +kernel, by decide +kernel⟩
theorem scSender_flush : FnScope ["self"] ["self"] (defScope sSender_flush) := ⟨rfl, rfl, rfl, by decide +kernel, rfl, by decide +kernel, by decide +kernel⟩
theorem scSender_to_short : FnScope ["self"] ["self"] (defScope sSender_to_short) := ⟨rfl, rfl, rfl, by decide +kernel, rfl, by decide +kernel, by decide +kernel⟩
theorem scSender_to_plain : FnScope ["self"] ["self"] (defScope sSender_to_plain) := ⟨rfl, rfl, rfl, by decide +kernel, rfl, by decide +kernel, by decide +kernel⟩
theorem scSender_reset : FnScope ["self"] ["self"] (defScope sSender_reset) := ⟨rfl, rfl, rfl, by decide +kernel, rfl, by decide +kernel, by decide +kernel⟩
theorem scSender_push_escape : FnScope ["self", "meaning"] ["self", "meaning"] (defScope sSender_push_escape) := ⟨rfl, rfl, rfl, by decide +kernel, rfl, by decide +kernel, by decide +kernel⟩
theorem scSender_send_string_and_sign : FnScope ["self", "sign"] ["self", "sign"] (defScope sSender_send_string_and_sign) := ⟨rfl, rfl, rfl, by decide +kernel, rfl, by decide +kernel, by decide +kernel⟩
theorem scSender_send : FnScope ["self", "number"] ["self", "number"] (defScope sSender_send) := ⟨rfl, rfl, rfl, by decide +kernel, rfl, by decide +kernel, by decide +kernel⟩
theorem scModem_init : FnScope ["self"] ["self"] (defScope sModem_init) := ⟨rfl, rfl, rfl, by decide +kernel, rfl, by decide +kernel, by decide +kernel⟩
theorem scModem_begin : FnScope ["self", "codes", "longest"] ["self", "codes", "longest"] (defScope sModem_begin) := ⟨rfl, rfl, rfl, by decide +kernel, rfl, by decide +kernel, by decide +kernel⟩
theorem scModem_put : FnScope ["self", "most", "row", "trial"] ["self", "most", "row"] (defScope sModem_put) := ⟨rfl, rfl, rfl, by decide +kernel, rfl, by decide +kernel, by decide +kernel⟩
theorem scModem_flush : FnScope ["self", "most", "trial"] ["self", "most"] (defScope sModem_flush) := ⟨rfl, rfl, rfl, by decide +kernel, rfl, by decide +kernel, by decide +kernel⟩
theorem scModem_mode : FnScope ["self", "compressed", "most", "trial", "octets"] ["self", "compressed", "most"] (defScope sModem_mode) := ⟨rfl, rfl, rfl, by decide +kernel, rfl, by decide +kernel, by decide +kernel⟩
theorem scModem_reset : FnScope ["self", "most", "trial"] ["self", "most"] (defScope sModem_reset) := ⟨rfl, rfl, rfl, by decide +kernel, rfl, by decide +kernel, by decide +kernel⟩
theorem scModem_settle_sender : FnScope ["self", "trial", "octets", "most"] ["self", "trial", "octets", "most"] (defScope sModem_settle_sender) := ⟨rfl, rfl, rfl, by decide +kernel, rfl, by decide +kernel, by decide +kernel⟩
theorem scModem_take : FnScope ["self", "most", "row", "trial", "out"] ["self", "most", "row"] (defScope sModem_take) := ⟨rfl, rfl, rfl, by decide +kernel, rfl, by decide +kernel, by decide +kernel⟩
theorem scReader_init : FnScope ["self", "numbers"] ["self", "numbers"] (defScope sReader_init) := ⟨rfl, rfl, rfl, by decide +kernel, rfl, by decide +kernel, by decide +kernel⟩
theorem scReader_at_end : FnScope ["self"] ["self"] (defScope sReader_at_end) := ⟨rfl, rfl, rfl, by decide +kernel, rfl, by decide +kernel, by decide +kernel⟩
theorem scReader_take_number : FnScope ["self", "number"] ["self"] (defScope sReader_take_number) := ⟨rfl, rfl, rfl, by decide +kernel, rfl, by decide +kernel, by decide +kernel⟩
theorem scReader_take_row : FnScope ["self", "length", "row"] ["self"] (defScope sReader_take_row) := ⟨rfl, rfl, rfl, by decide +kernel, rfl, by decide +kernel, by decide +kernel⟩
theorem sc_answer_begin : FnScope ["modem", "reader", "codes", "longest"] ["modem", "reader"] (defScope s_answer_begin) := ⟨rfl, rfl, rfl, by decide +kernel, rfl, by decide +kernel, by decide +kernel⟩
theorem sc_answer_put : FnScope ["modem", "reader", "most", "row"] ["modem", "reader"] (defScope s_answer_put) := ⟨rfl, rfl, rfl, by decide +kernel, rfl, by decide +kernel, by decide +kernel⟩
theorem sc_answer_flush : FnScope ["modem", "reader", "most"] ["modem", "reader"] (defScope s_answer_flush) := ⟨rfl, rfl, rfl, by decide +kernel, rfl, by decide +kernel, by decide +kernel⟩
theorem sc_answer_mode : FnScope ["modem", "reader", "compressed", "most"] ["modem", "reader"] (defScope s_answer_mode) := ⟨rfl, rfl, rfl, by decide +kernel, rfl, by decide +kernel, by decide +kernel⟩
theorem sc_answer_reset : FnScope ["modem", "reader", "most"] ["modem", "reader"] (defScope s_answer_reset) := ⟨rfl, rfl, rfl, by decide +kernel, rfl, by decide +kernel, by decide +kernel⟩
theorem sc_answer_take : FnScope ["modem", "reader", "most", "row"] ["modem", "reader"] (defScope s_answer_take) := ⟨rfl, rfl, rfl, by decide +kernel, rfl, by decide +kernel, by decide +kernel⟩
theorem sc_answers : FnScope ["calls", "modem", "reader", "given", "call", "answer"] ["calls"] (defScope s_answers) := ⟨rfl, rfl, rfl, by decide +kernel, rfl, by decide +kernel, by decide +kernel⟩
/-- the attributes of Tree -/
def tfF (c : Int) (l : Int) (n : Int) (a1 : Addr) (a2 : Addr) (a3 : Addr) (a4 : Addr) : List (Str × V) := [("codes", V.int c), ("longest", V.int l), ("next_node", V.int n), ("nodes", V.ref a1), ("ends", V.ref a2), ("heirs", V.ref a3), ("lengths", V.ref a4)]
section
variable {c : Int} {l : Int} {n : Int} {a1 : Addr} {a2 : Addr} {a3 : Addr} {a4 : Addr}
theorem tf_codes : (tfF c l n a1 a2 a3 a4).lookup ("codes" : Str) = some (V.int c) := by kernel_rfl
theorem tfp_codes {y : Int} : putF "codes" (V.int y) (tfF c l n a1 a2 a3 a4) = tfF y l n a1 a2 a3 a4 := by kernel_rfl
theorem tf_longest : (tfF c l n a1 a2 a3 a4).lookup ("longest" : Str) = some (V.int l) := by kernel_rfl
theorem tfp_longest {y : Int} : putF "longest" (V.int y) (tfF c l n a1 a2 a3 a4) = tfF c y n a1 a2 a3 a4 := by kernel_rfl
theorem tf_next_node : (tfF c l n a1 a2 a3 a4).lookup ("next_node" : Str) = some (V.int n) := by kernel_rfl
theorem tfp_next_node {y : Int} : putF "next_node" (V.int y) (tfF c l n a1 a2 a3 a4) = tfF c l y a1 a2 a3 a4 := by kernel_rfl
theorem tf_nodes : (tfF c l n a1 a2 a3 a4).lookup ("nodes" : Str) = some (V.ref a1) := by kernel_rfl
theorem tfp_nodes {y : Addr} : putF "nodes" (V.ref y) (tfF c l n a1 a2 a3 a4) = tfF c l n y a2 a3 a4 := by kernel_rfl
theorem tf_ends : (tfF c l n a1 a2 a3 a4).lookup ("ends" : Str) = some (V.ref a2) := by kernel_rfl
theorem tfp_ends {y : Addr} : putF "ends" (V.ref y) (tfF c l n a1 a2 a3 a4) = tfF c l n a1 y a3 a4 := by kernel_rfl
theorem tf_heirs : (tfF c l n a1 a2 a3 a4).lookup ("heirs" : Str) = some (V.ref a3) := by kernel_rfl
theorem tfp_heirs {y : Addr} : putF "heirs" (V.ref y) (tfF c l n a1 a2 a3 a4) = tfF c l n a1 a2 y a4 := by kernel_rfl
theorem tf_lengths : (tfF c l n a1 a2 a3 a4).lookup ("lengths" : Str) = some (V.ref a4) := by kernel_rfl
theorem tfp_lengths {y : Addr} : putF "lengths" (V.ref y) (tfF c l n a1 a2 a3 a4) = tfF c l n a1 a2 a3 y := by kernel_rfl
theorem tfn_copy : (tfF c l n a1 a2 a3 a4).lookup ("copy" : Str) = none := by kernel_rfl
theorem tfn_find : (tfF c l n a1 a2 a3 a4).lookup ("find" : Str) = none := by kernel_rfl
theorem tfn_holds : (tfF c l n a1 a2 a3 a4).lookup ("holds" : Str) = none := by kernel_rfl
theorem tfn_length_of : (tfF c l n a1 a2 a3 a4).lookup ("length_of" : Str) = none := by kernel_rfl
theorem tfn_bytes_of : (tfF c l n a1 a2 a3 a4).lookup ("bytes_of" : Str) = none := by kernel_rfl
theorem tfn_add : (tfF c l n a1 a2 a3 a4).lookup ("add" : Str) = none := by kernel_rfl
theorem tfn_go_on : (tfF c l n a1 a2 a3 a4).lookup ("go_on" : Str) = none := by kernel_rfl
theorem tfn_number_behind : (tfF c l n a1 a2 a3 a4).lookup ("number_behind" : Str) = none := by kernel_rfl
theorem tfn_take_out : (tfF c l n a1 a2 a3 a4).lookup ("take_out" : Str) = none := by kernel_rfl
theorem tf_made : (putF "lengths" (V.ref a4) (putF "heirs" (V.ref a3) (putF "ends" (V.ref a2) (putF "nodes" (V.ref a1) (putF "next_node" (V.int n) (putF "longest" (V.int l) (putF "codes" (V.int c) []))))))) = tfF c l n a1 a2 a3 a4 := by kernel_rfl
theorem tf_len : (tfF c l n a1 a2 a3 a4).length = 7 := rfl
end
/-- the attributes of Packer -/
def pfF (o : Addr) (r : Int) (b : Int) : List (Str × V) := [("octets", V.ref o), ("rest", V.int r), ("rest_bits", V.int b)]
section
variable {o : Addr} {r : Int} {b : Int}
theorem pf_octets : (pfF o r b).lookup ("octets" : Str) = some (V.ref o) := by kernel_rfl
theorem pfp_octets {y : Addr} : putF "octets" (V.ref y) (pfF o r b) = pfF y r b := by kernel_rfl
theorem pf_rest : (pfF o r b).lookup ("rest" : Str) = some (V.int r) := by kernel_rfl
theorem pfp_rest {y : Int} : putF "rest" (V.int y) (pfF o r b) = pfF o y b := by kernel_rfl
theorem pf_rest_bits : (pfF o r b).lookup ("rest_bits" : Str) = some (V.int b) := by kernel_rfl
theorem pfp_rest_bits {y : Int} : putF "rest_bits" (V.int y) (pfF o r b) = pfF o r y := by kernel_rfl
theorem pfn_copy : (pfF o r b).lookup ("copy" : Str) = none := by kernel_rfl
theorem pfn_push : (pfF o r b).lookup ("push" : Str) = none := by kernel_rfl
theorem pfn_fill_up : (pfF o r b).lookup ("fill_up" : Str) = none := by kernel_rfl
theorem pfn_hand_over : (pfF o r b).lookup ("hand_over" : Str) = none := by kernel_rfl
theorem pf_made : (putF "rest_bits" (V.int b) (putF "rest" (V.int r) (putF "octets" (V.ref o) []))) = pfF o r b := by kernel_rfl
theorem pf_len : (pfF o r b).length = 3 := rfl
end
/-- the attributes of Unpacker -/
def ufF (r : Int) (b : Int) : List (Str × V) := [("rest", V.int r), ("rest_bits", V.int b)]
section
variable {r : Int} {b : Int}
theorem uf_rest : (ufF r b).lookup ("rest" : Str) = some (V.int r) := by kernel_rfl
theorem ufp_rest {y : Int} : putF "rest" (V.int y) (ufF r b) = ufF y b := by kernel_rfl
theorem uf_rest_bits : (ufF r b).lookup ("rest_bits" : Str) = some (V.int b) := by kernel_rfl
theorem ufp_rest_bits {y : Int} : putF "rest_bits" (V.int y) (ufF r b) = ufF r y := by kernel_rfl
theorem ufn_copy : (ufF r b).lookup ("copy" : Str) = none := by kernel_rfl
theorem ufn_push : (ufF r b).lookup ("push" : Str) = none := by kernel_rfl
theorem ufn_pull : (ufF r b).lookup ("pull" : Str) = none := by kernel_rfl
theorem ufn_drop_rest : (ufF r b).lookup ("drop_rest" : Str) = none := by kernel_rfl
theorem uf_made : (putF "rest_bits" (V.int b) (putF "rest" (V.int r) [])) = ufF r b := by kernel_rfl
theorem uf_len : (ufF r b).length = 2 := rfl
end
/-- the attributes of Receiver -/
def rfF (t : Addr) (sh : Bool) (e : Int) (b : Int) (u : Addr) (be : Bool) (bf : V) (ou : Addr) (m : Int) : List (Str × V) := [("tree", V.ref t), ("short", V.bl sh), ("escape", V.int e), ("bits", V.int b), ("unpacker", V.ref u), ("behind_escape", V.bl be), ("before", bf), ("out", V.ref ou), ("most", V.int m)]
section
variable {t : Addr} {sh : Bool} {e : Int} {b : Int} {u : Addr} {be : Bool} {bf : V} {ou : Addr} {m : Int}
theorem rf_tree : (rfF t sh e b u be bf ou m).lookup ("tree" : Str) = some (V.ref t) := by kernel_rfl
theorem rfp_tree {y : Addr} : putF "tree" (V.ref y) (rfF t sh e b u be bf ou m) = rfF y sh e b u be bf ou m := by kernel_rfl
theorem rf_short : (rfF t sh e b u be bf ou m).lookup ("short" : Str) = some (V.bl sh) := by kernel_rfl
theorem rfp_short {y : Bool} : putF "short" (V.bl y) (rfF t sh e b u be bf ou m) = rfF t y e b u be bf ou m := by kernel_rfl
theorem rf_escape : (rfF t sh e b u be bf ou m).lookup ("escape" : Str) = some (V.int e) := by kernel_rfl
theorem rfp_escape {y : Int} : putF "escape" (V.int y) (rfF t sh e b u be bf ou m) = rfF t sh y b u be bf ou m := by kernel_rfl
theorem rf_bits : (rfF t sh e b u be bf ou m).lookup ("bits" : Str) = some (V.int b) := by kernel_rfl
theorem rfp_bits {y : Int} : putF "bits" (V.int y) (rfF t sh e b u be bf ou m) = rfF t sh e y u be bf ou m := by kernel_rfl
theorem rf_unpacker : (rfF t sh e b u be bf ou m).lookup ("unpacker" : Str) = some (V.ref u) := by kernel_rfl
theorem rfp_unpacker {y : Addr} : putF "unpacker" (V.ref y) (rfF t sh e b u be bf ou m) = rfF t sh e b y be bf ou m := by kernel_rfl
theorem rf_behind_escape : (rfF t sh e b u be bf ou m).lookup ("behind_escape" : Str) = some (V.bl be) := by kernel_rfl
theorem rfp_behind_escape {y : Bool} : putF "behind_escape" (V.bl y) (rfF t sh e b u be bf ou m) = rfF t sh e b u y bf ou m := by kernel_rfl
theorem rf_before : (rfF t sh e b u be bf ou m).lookup ("before" : Str) = some (bf) := by kernel_rfl
theorem rfp_before {y : V} : putF "before" (y) (rfF t sh e b u be bf ou m) = rfF t sh e b u be y ou m := by kernel_rfl
theorem rf_out : (rfF t sh e b u be bf ou m).lookup ("out" : Str) = some (V.ref ou) := by kernel_rfl
theorem rfp_out {y : Addr} : putF "out" (V.ref y) (rfF t sh e b u be bf ou m) = rfF t sh e b u be bf y m := by kernel_rfl
theorem rf_most : (rfF t sh e b u be bf ou m).lookup ("most" : Str) = some (V.int m) := by kernel_rfl
theorem rfp_most {y : Int} : putF "most" (V.int y) (rfF t sh e b u be bf ou m) = rfF t sh e b u be bf ou y := by kernel_rfl
theorem rfn_copy : (rfF t sh e b u be bf ou m).lookup ("copy" : Str) = none := by kernel_rfl
theorem rfn_take : (rfF t sh e b u be bf ou m).lookup ("take" : Str) = none := by kernel_rfl
theorem rfn_take_plain : (rfF t sh e b u be bf ou m).lookup ("take_plain" : Str) = none := by kernel_rfl
theorem rfn_take_meaning : (rfF t sh e b u be bf ou m).lookup ("take_meaning" : Str) = none := by kernel_rfl
theorem rfn_take_short : (rfF t sh e b u be bf ou m).lookup ("take_short" : Str) = none := by kernel_rfl
theorem rfn_take_step : (rfF t sh e b u be bf ou m).lookup ("take_step" : Str) = none := by kernel_rfl
theorem rfn_end_strings : (rfF t sh e b u be bf ou m).lookup ("end_strings" : Str) = none := by kernel_rfl
theorem rfn_take_string : (rfF t sh e b u be bf ou m).lookup ("take_string" : Str) = none := by kernel_rfl
theorem rfn_give_out : (rfF t sh e b u be bf ou m).lookup ("give_out" : Str) = none := by kernel_rfl
theorem rfn_start : (rfF t sh e b u be bf ou m).lookup ("start" : Str) = none := by kernel_rfl
theorem rfn_start_anew : (rfF t sh e b u be bf ou m).lookup ("start_anew" : Str) = none := by kernel_rfl
theorem rfn_become_like : (rfF t sh e b u be bf ou m).lookup ("become_like" : Str) = none := by kernel_rfl
theorem rfn_move_escape : (rfF t sh e b u be bf ou m).lookup ("move_escape" : Str) = none := by kernel_rfl
theorem rf_made : (putF "most" (V.int m) (putF "out" (V.ref ou) (putF "before" (bf) (putF "behind_escape" (V.bl be) (putF "unpacker" (V.ref u) (putF "bits" (V.int b) (putF "escape" (V.int e) (putF "short" (V.bl sh) (putF "tree" (V.ref t) []))))))))) = rfF t sh e b u be bf ou m := by kernel_rfl
theorem rf_len : (rfF t sh e b u be bf ou m).length = 9 := rfl
end
/-- the attributes of Sender -/
def sfF (t : Addr) (sh : Bool) (e : Int) (b : Int) (pk : Addr) (st : V) (fr : V) : List (Str × V) := [("tree", V.ref t), ("short", V.bl sh), ("escape", V.int e), ("bits", V.int b), ("packer", V.ref pk), ("string", st), ("fresh", fr)]
section
variable {t : Addr} {sh : Bool} {e : Int} {b : Int} {pk : Addr} {st : V} {fr : V}
theorem sf_tree : (sfF t sh e b pk st fr).lookup ("tree" : Str) = some (V.ref t) := by kernel_rfl
theorem sfp_tree {y : Addr} : putF "tree" (V.ref y) (sfF t sh e b pk st fr) = sfF y sh e b pk st fr := by kernel_rfl
theorem sf_short : (sfF t sh e b pk st fr).lookup ("short" : Str) = some (V.bl sh) := by kernel_rfl
theorem sfp_short {y : Bool} : putF "short" (V.bl y) (sfF t sh e b pk st fr) = sfF t y e b pk st fr := by kernel_rfl
theorem sf_escape : (sfF t sh e b pk st fr).lookup ("escape" : Str) = some (V.int e) := by kernel_rfl
theorem sfp_escape {y : Int} : putF "escape" (V.int y) (sfF t sh e b pk st fr) = sfF t sh y b pk st fr := by kernel_rfl
theorem sf_bits : (sfF t sh e b pk st fr).lookup ("bits" : Str) = some (V.int b) := by kernel_rfl
theorem sfp_bits {y : Int} : putF "bits" (V.int y) (sfF t sh e b pk st fr) = sfF t sh e y pk st fr := by kernel_rfl
theorem sf_packer : (sfF t sh e b pk st fr).lookup ("packer" : Str) = some (V.ref pk) := by kernel_rfl
theorem sfp_packer {y : Addr} : putF "packer" (V.ref y) (sfF t sh e b pk st fr) = sfF t sh e b y st fr := by kernel_rfl
theorem sf_string : (sfF t sh e b pk st fr).lookup ("string" : Str) = some (st) := by kernel_rfl
theorem sfp_string {y : V} : putF "string" (y) (sfF t sh e b pk st fr) = sfF t sh e b pk y fr := by kernel_rfl
theorem sf_fresh : (sfF t sh e b pk st fr).lookup ("fresh" : Str) = some (fr) := by kernel_rfl
theorem sfp_fresh {y : V} : putF "fresh" (y) (sfF t sh e b pk st fr) = sfF t sh e b pk st y := by kernel_rfl
theorem sfn_copy : (sfF t sh e b pk st fr).lookup ("copy" : Str) = none := by kernel_rfl
theorem sfn_put : (sfF t sh e b pk st fr).lookup ("put" : Str) = none := by kernel_rfl
theorem sfn_put_plain : (sfF t sh e b pk st fr).lookup ("put_plain" : Str) = none := by kernel_rfl
theorem sfn_put_short : (sfF t sh e b pk st fr).lookup ("put_short" : Str) = none := by kernel_rfl
theorem sfn_flush : (sfF t sh e b pk st fr).lookup ("flush" : Str) = none := by kernel_rfl
theorem sfn_to_short : (sfF t sh e b pk st fr).lookup ("to_short" : Str) = none := by kernel_rfl
theorem sfn_to_plain : (sfF t sh e b pk st fr).lookup ("to_plain" : Str) = none := by kernel_rfl
theorem sfn_reset : (sfF t sh e b pk st fr).lookup ("reset" : Str) = none := by kernel_rfl
theorem sfn_push_escape : (sfF t sh e b pk st fr).lookup ("push_escape" : Str) = none := by kernel_rfl
theorem sfn_send_string_and_sign : (sfF t sh e b pk st fr).lookup ("send_string_and_sign" : Str) = none := by kernel_rfl
theorem sfn_send : (sfF t sh e b pk st fr).lookup ("send" : Str) = none := by kernel_rfl
theorem sfn_start : (sfF t sh e b pk st fr).lookup ("start" : Str) = none := by kernel_rfl
theorem sfn_start_anew : (sfF t sh e b pk st fr).lookup ("start_anew" : Str) = none := by kernel_rfl
theorem sfn_become_like : (sfF t sh e b pk st fr).lookup ("become_like" : Str) = none := by kernel_rfl
theorem sfn_move_escape : (sfF t sh e b pk st fr).lookup ("move_escape" : Str) = none := by kernel_rfl
theorem sf_made : (putF "fresh" (fr) (putF "string" (st) (putF "packer" (V.ref pk) (putF "bits" (V.int b) (putF "escape" (V.int e) (putF "short" (V.bl sh) (putF "tree" (V.ref t) []))))))) = sfF t sh e b pk st fr := by kernel_rfl
theorem sf_len : (sfF t sh e b pk st fr).length = 7 := rfl
end
/-- the attributes of Modem -/
def mfF (s : V) (r : V) : List (Str × V) := [("sender", s), ("receiver", r)]
section
variable {s : V} {r : V}
theorem mf_sender : (mfF s r).lookup ("sender" : Str) = some (s) := by kernel_rfl
theorem mfp_sender {y : V} : putF "sender" (y) (mfF s r) = mfF y r := by kernel_rfl
theorem mf_receiver : (mfF s r).lookup ("receiver" : Str) = some (r) := by kernel_rfl
theorem mfp_receiver {y : V} : putF "receiver" (y) (mfF s r) = mfF s y := by kernel_rfl
theorem mfn_begin : (mfF s r).lookup ("begin" : Str) = none := by kernel_rfl
theorem mfn_put : (mfF s r).lookup ("put" : Str) = none := by kernel_rfl
theorem mfn_flush : (mfF s r).lookup ("flush" : Str) = none := by kernel_rfl
theorem mfn_mode : (mfF s r).lookup ("mode" : Str) = none := by kernel_rfl
theorem mfn_reset : (mfF s r).lookup ("reset" : Str) = none := by kernel_rfl
theorem mfn_settle_sender : (mfF s r).lookup ("settle_sender" : Str) = none := by kernel_rfl
theorem mfn_take : (mfF s r).lookup ("take" : Str) = none := by kernel_rfl
theorem mf_made : (putF "receiver" (r) (putF "sender" (s) [])) = mfF s r := by kernel_rfl
theorem mf_len : (mfF s r).length = 2 := rfl
end
/-- the attributes of Reader -/
def dfF (n : Addr) (p : Int) : List (Str × V) := [("numbers", V.ref n), ("place", V.int p)]
section
variable {n : Addr} {p : Int}
theorem df_numbers : (dfF n p).lookup ("numbers" : Str) = some (V.ref n) := by kernel_rfl
theorem dfp_numbers {y : Addr} : putF "numbers" (V.ref y) (dfF n p) = dfF y p := by kernel_rfl
theorem df_place : (dfF n p).lookup ("place" : Str) = some (V.int p) := by kernel_rfl
theorem dfp_place {y : Int} : putF "place" (V.int y) (dfF n p) = dfF n y := by kernel_rfl
theorem dfn_at_end : (dfF n p).lookup ("at_end" : Str) = none := by kernel_rfl
theorem dfn_take_number : (dfF n p).lookup ("take_number" : Str) = none := by kernel_rfl
theorem dfn_take_row : (dfF n p).lookup ("take_row" : Str) = none := by kernel_rfl
theorem df_made : (putF "place" (V.int p) (putF "numbers" (V.ref n) [])) = dfF n p := by kernel_rfl
theorem df_len : (dfF n p).length = 2 := rfl
end
/-- what is known of Tree -/
structure TreeTx (K : PySem.W.Frag) (mg : Str → Option Value) where
  C : Addr
  at_ : mg "Tree" = some (.ref C)
  init_ : FnR K "__init__" "Tree.__init__" sTree_init ["self", "codes", "longest"]
  copy_ : FnR K "copy" "Tree.copy" sTree_copy ["self"]
  find_ : FnR K "find" "Tree.find" sTree_find ["self", "number", "byte"]
  holds_ : FnR K "holds" "Tree.holds" sTree_holds ["self", "number"]
  length_of_ : FnR K "length_of" "Tree.length_of" sTree_length_of ["self", "number"]
  bytes_of_ : FnR K "bytes_of" "Tree.bytes_of" sTree_bytes_of ["self", "number"]
  add_ : FnR K "add" "Tree.add" sTree_add ["self", "number", "byte"]
  go_on_ : FnR K "go_on" "Tree.go_on" sTree_go_on ["self"]
  number_behind_ : FnR K "number_behind" "Tree.number_behind" sTree_number_behind ["self", "node"]
  take_out_ : FnR K "take_out" "Tree.take_out" sTree_take_out ["self", "node"]
  cl : Cls K C
  mak : Mk K C init_.f
  n_codes : NoAttr K C "codes"
  n_longest : NoAttr K C "longest"
  n_next_node : NoAttr K C "next_node"
  n_nodes : NoAttr K C "nodes"
  n_ends : NoAttr K C "ends"
  n_heirs : NoAttr K C "heirs"
  n_lengths : NoAttr K C "lengths"
  m_copy : Meth K C "copy" copy_.f
  m_find : Meth K C "find" find_.f
  m_holds : Meth K C "holds" holds_.f
  m_length_of : Meth K C "length_of" length_of_.f
  m_bytes_of : Meth K C "bytes_of" bytes_of_.f
  m_add : Meth K C "add" add_.f
  m_go_on : Meth K C "go_on" go_on_.f
  m_number_behind : Meth K C "number_behind" number_behind_.f
  m_take_out : Meth K C "take_out" take_out_.f
/-- what is known of LineEnd -/
structure LineEndTx (K : PySem.W.Frag) (mg : Str → Option Value) where
  C : Addr
  at_ : mg "LineEnd" = some (.ref C)
  init_ : FnR K "__init__" "LineEnd.__init__" sLineEnd_init ["self", "codes", "longest"]
  start_ : FnR K "start" "LineEnd.start" sLineEnd_start ["self", "codes", "longest"]
  start_anew_ : FnR K "start_anew" "LineEnd.start_anew" sLineEnd_start_anew ["self"]
  become_like_ : FnR K "become_like" "LineEnd.become_like" sLineEnd_become_like ["self", "other"]
  move_escape_ : FnR K "move_escape" "LineEnd.move_escape" sLineEnd_move_escape ["self"]
  cm : ClsM K C "__init__" init_.f
/-- what is known of Packer -/
structure PackerTx (K : PySem.W.Frag) (mg : Str → Option Value) where
  C : Addr
  at_ : mg "Packer" = some (.ref C)
  init_ : FnR K "__init__" "Packer.__init__" sPacker_init ["self"]
  copy_ : FnR K "copy" "Packer.copy" sPacker_copy ["self"]
  push_ : FnR K "push" "Packer.push" sPacker_push ["self", "number", "bits"]
  fill_up_ : FnR K "fill_up" "Packer.fill_up" sPacker_fill_up ["self"]
  hand_over_ : FnR K "hand_over" "Packer.hand_over" sPacker_hand_over ["self"]
  cl : Cls K C
  mak : Mk K C init_.f
  n_octets : NoAttr K C "octets"
  n_rest : NoAttr K C "rest"
  n_rest_bits : NoAttr K C "rest_bits"
  m_copy : Meth K C "copy" copy_.f
  m_push : Meth K C "push" push_.f
  m_fill_up : Meth K C "fill_up" fill_up_.f
  m_hand_over : Meth K C "hand_over" hand_over_.f
/-- what is known of Unpacker -/
structure UnpackerTx (K : PySem.W.Frag) (mg : Str → Option Value) where
  C : Addr
  at_ : mg "Unpacker" = some (.ref C)
  init_ : FnR K "__init__" "Unpacker.__init__" sUnpacker_init ["self"]
  copy_ : FnR K "copy" "Unpacker.copy" sUnpacker_copy ["self"]
  push_ : FnR K "push" "Unpacker.push" sUnpacker_push ["self", "octet"]
  pull_ : FnR K "pull" "Unpacker.pull" sUnpacker_pull ["self", "bits"]
  drop_rest_ : FnR K "drop_rest" "Unpacker.drop_rest" sUnpacker_drop_rest ["self"]
  cl : Cls K C
  mak : Mk K C init_.f
  n_rest : NoAttr K C "rest"
  n_rest_bits : NoAttr K C "rest_bits"
  m_copy : Meth K C "copy" copy_.f
  m_push : Meth K C "push" push_.f
  m_pull : Meth K C "pull" pull_.f
  m_drop_rest : Meth K C "drop_rest" drop_rest_.f
/-- what is known of Receiver -/
structure ReceiverTx (K : PySem.W.Frag) (mg : Str → Option Value) where
  C : Addr
  at_ : mg "Receiver" = some (.ref C)
  init_ : FnR K "__init__" "Receiver.__init__" sReceiver_init ["self", "codes", "longest"]
  copy_ : FnR K "copy" "Receiver.copy" sReceiver_copy ["self"]
  take_ : FnR K "take" "Receiver.take" sReceiver_take ["self", "row", "most"]
  take_plain_ : FnR K "take_plain" "Receiver.take_plain" sReceiver_take_plain ["self", "octet"]
  take_meaning_ : FnR K "take_meaning" "Receiver.take_meaning" sReceiver_take_meaning ["self", "octet"]
  take_short_ : FnR K "take_short" "Receiver.take_short" sReceiver_take_short ["self", "octet"]
  take_step_ : FnR K "take_step" "Receiver.take_step" sReceiver_take_step ["self"]
  end_strings_ : FnR K "end_strings" "Receiver.end_strings" sReceiver_end_strings ["self"]
  take_string_ : FnR K "take_string" "Receiver.take_string" sReceiver_take_string ["self", "number"]
  give_out_ : FnR K "give_out" "Receiver.give_out" sReceiver_give_out ["self", "string"]
  cl : Cls K C
  mak : Mk K C init_.f
  n_tree : NoAttr K C "tree"
  n_short : NoAttr K C "short"
  n_escape : NoAttr K C "escape"
  n_bits : NoAttr K C "bits"
  n_unpacker : NoAttr K C "unpacker"
  n_behind_escape : NoAttr K C "behind_escape"
  n_before : NoAttr K C "before"
  n_out : NoAttr K C "out"
  n_most : NoAttr K C "most"
  m_copy : Meth K C "copy" copy_.f
  m_take : Meth K C "take" take_.f
  m_take_plain : Meth K C "take_plain" take_plain_.f
  m_take_meaning : Meth K C "take_meaning" take_meaning_.f
  m_take_short : Meth K C "take_short" take_short_.f
  m_take_step : Meth K C "take_step" take_step_.f
  m_end_strings : Meth K C "end_strings" end_strings_.f
  m_take_string : Meth K C "take_string" take_string_.f
  m_give_out : Meth K C "give_out" give_out_.f
/-- what is known of Sender -/
structure SenderTx (K : PySem.W.Frag) (mg : Str → Option Value) where
  C : Addr
  at_ : mg "Sender" = some (.ref C)
  init_ : FnR K "__init__" "Sender.__init__" sSender_init ["self", "codes", "longest"]
  copy_ : FnR K "copy" "Sender.copy" sSender_copy ["self"]
  put_ : FnR K "put" "Sender.put" sSender_put ["self", "row"]
  put_plain_ : FnR K "put_plain" "Sender.put_plain" sSender_put_plain ["self", "byte"]
  put_short_ : FnR K "put_short" "Sender.put_short" sSender_put_short ["self", "byte"]
  flush_ : FnR K "flush" "Sender.flush" sSender_flush ["self"]
  to_short_ : FnR K "to_short" "Sender.to_short" sSender_to_short ["self"]
  to_plain_ : FnR K "to_plain" "Sender.to_plain" sSender_to_plain ["self"]
  reset_ : FnR K "reset" "Sender.reset" sSender_reset ["self"]
  push_escape_ : FnR K "push_escape" "Sender.push_escape" sSender_push_escape ["self", "meaning"]
  send_string_and_sign_ : FnR K "send_string_and_sign" "Sender.send_string_and_sign" sSender_send_string_and_sign ["self", "sign"]
  send_ : FnR K "send" "Sender.send" sSender_send ["self", "number"]
  cl : Cls K C
  mak : Mk K C init_.f
  n_tree : NoAttr K C "tree"
  n_short : NoAttr K C "short"
  n_escape : NoAttr K C "escape"
  n_bits : NoAttr K C "bits"
  n_packer : NoAttr K C "packer"
  n_string : NoAttr K C "string"
  n_fresh : NoAttr K C "fresh"
  m_copy : Meth K C "copy" copy_.f
  m_put : Meth K C "put" put_.f
  m_put_plain : Meth K C "put_plain" put_plain_.f
  m_put_short : Meth K C "put_short" put_short_.f
  m_flush : Meth K C "flush" flush_.f
  m_to_short : Meth K C "to_short" to_short_.f
  m_to_plain : Meth K C "to_plain" to_plain_.f
  m_reset : Meth K C "reset" reset_.f
  m_push_escape : Meth K C "push_escape" push_escape_.f
  m_send_string_and_sign : Meth K C "send_string_and_sign" send_string_and_sign_.f
  m_send : Meth K C "send" send_.f
/-- what is known of Modem -/
structure ModemTx (K : PySem.W.Frag) (mg : Str → Option Value) where
  C : Addr
  at_ : mg "Modem" = some (.ref C)
  init_ : FnR K "__init__" "Modem.__init__" sModem_init ["self"]
  begin_ : FnR K "begin" "Modem.begin" sModem_begin ["self", "codes", "longest"]
  put_ : FnR K "put" "Modem.put" sModem_put ["self", "most", "row"]
  flush_ : FnR K "flush" "Modem.flush" sModem_flush ["self", "most"]
  mode_ : FnR K "mode" "Modem.mode" sModem_mode ["self", "compressed", "most"]
  reset_ : FnR K "reset" "Modem.reset" sModem_reset ["self", "most"]
  settle_sender_ : FnR K "settle_sender" "Modem.settle_sender" sModem_settle_sender ["self", "trial", "octets", "most"]
  take_ : FnR K "take" "Modem.take" sModem_take ["self", "most", "row"]
  cl : Cls K C
  mak : Mk K C init_.f
  n_sender : NoAttr K C "sender"
  n_receiver : NoAttr K C "receiver"
  m_begin : Meth K C "begin" begin_.f
  m_put : Meth K C "put" put_.f
  m_flush : Meth K C "flush" flush_.f
  m_mode : Meth K C "mode" mode_.f
  m_reset : Meth K C "reset" reset_.f
  m_settle_sender : Meth K C "settle_sender" settle_sender_.f
  m_take : Meth K C "take" take_.f
/-- what is known of Reader -/
structure ReaderTx (K : PySem.W.Frag) (mg : Str → Option Value) where
  C : Addr
  at_ : mg "Reader" = some (.ref C)
  init_ : FnR K "__init__" "Reader.__init__" sReader_init ["self", "numbers"]
  at_end_ : FnR K "at_end" "Reader.at_end" sReader_at_end ["self"]
  take_number_ : FnR K "take_number" "Reader.take_number" sReader_take_number ["self"]
  take_row_ : FnR K "take_row" "Reader.take_row" sReader_take_row ["self"]
  cl : Cls K C
  mak : Mk K C init_.f
  n_numbers : NoAttr K C "numbers"
  n_place : NoAttr K C "place"
  m_at_end : Meth K C "at_end" at_end_.f
  m_take_number : Meth K C "take_number" take_number_.f
  m_take_row : Meth K C "take_row" take_row_.f
/-- what is known of the defs -/
structure DefsTx (K : PySem.W.Frag) (mg : Str → Option Value) where
  answer_begin_ : FnR K "answer_begin" "answer_begin" s_answer_begin ["modem", "reader"]
  at_answer_begin : mg "answer_begin" = some (.ref answer_begin_.f)
  answer_put_ : FnR K "answer_put" "answer_put" s_answer_put ["modem", "reader"]
  at_answer_put : mg "answer_put" = some (.ref answer_put_.f)
  answer_flush_ : FnR K "answer_flush" "answer_flush" s_answer_flush ["modem", "reader"]
  at_answer_flush : mg "answer_flush" = some (.ref answer_flush_.f)
  answer_mode_ : FnR K "answer_mode" "answer_mode" s_answer_mode ["modem", "reader"]
  at_answer_mode : mg "answer_mode" = some (.ref answer_mode_.f)
  answer_reset_ : FnR K "answer_reset" "answer_reset" s_answer_reset ["modem", "reader"]
  at_answer_reset : mg "answer_reset" = some (.ref answer_reset_.f)
  answer_take_ : FnR K "answer_take" "answer_take" s_answer_take ["modem", "reader"]
  at_answer_take : mg "answer_take" = some (.ref answer_take_.f)
  answers_ : FnR K "answers" "answers" s_answers ["calls"]
  at_answers : mg "answers" = some (.ref answers_.f)
/-- all that is known -/
structure PT (K : PySem.W.Frag) (mg : Str → Option Value) where
  tree : TreeTx K mg
  lineEnd : LineEndTx K mg
  packer : PackerTx K mg
  unpacker : UnpackerTx K mg
  receiver : ReceiverTx K mg
  sender : SenderTx K mg
  modem : ModemTx K mg
  reader : ReaderTx K mg
  receiver_start : Meth K receiver.C "start" lineEnd.start_.f
  receiver_start_anew : Meth K receiver.C "start_anew" lineEnd.start_anew_.f
  receiver_become_like : Meth K receiver.C "become_like" lineEnd.become_like_.f
  receiver_move_escape : Meth K receiver.C "move_escape" lineEnd.move_escape_.f
  sender_start : Meth K sender.C "start" lineEnd.start_.f
  sender_start_anew : Meth K sender.C "start_anew" lineEnd.start_anew_.f
  sender_become_like : Meth K sender.C "become_like" lineEnd.become_like_.f
  sender_move_escape : Meth K sender.C "move_escape" lineEnd.move_escape_.f
  xC : Addr
  exc : ExcC K mg "WrongOctets" xC
  g_END : GI mg "END" (0)
  g_FLUSH : GI mg "FLUSH" (1)
  g_STEP : GI mg "STEP" (2)
  g_FIRST_BYTE : GI mg "FIRST_BYTE" (3)
  g_FIRST_NODE : GI mg "FIRST_NODE" (259)
  g_FIRST_BITS : GI mg "FIRST_BITS" (9)
  g_FIRST_ESCAPE : GI mg "FIRST_ESCAPE" (0)
  g_ESCAPE_STEP : GI mg "ESCAPE_STEP" (51)
  g_BYTE_VALUES : GI mg "BYTE_VALUES" (256)
  g_ESCAPE_SHORT : GI mg "ESCAPE_SHORT" (0)
  g_ESCAPE_ITSELF : GI mg "ESCAPE_ITSELF" (1)
  g_ESCAPE_RESET : GI mg "ESCAPE_RESET" (2)
  g_OCTET_BITS : GI mg "OCTET_BITS" (8)
  g_OCTET_VALUES : GI mg "OCTET_VALUES" (256)
  g_DONE : GI mg "DONE" (0)
  g_NO_SENDER_SENDS_IT : GI mg "NO_SENDER_SENDS_IT" (-1)
  g_OUT_OF_RANGE : GI mg "OUT_OF_RANGE" (-2)
  g_NOT_NOW : GI mg "NOT_NOW" (-3)
  g_MORE_THAN_MOST : GI mg "MORE_THAN_MOST" (-5)
  g_LEAST_CODES : GI mg "LEAST_CODES" (512)
  g_MOST_CODES : GI mg "MOST_CODES" (65536)
  g_LEAST_LONGEST : GI mg "LEAST_LONGEST" (6)
  g_MOST_LONGEST : GI mg "MOST_LONGEST" (250)
  g_MOST_OF_MOST : GI mg "MOST_OF_MOST" (16777216)
  g_TO_PLAIN : GI mg "TO_PLAIN" (0)
  g_TO_SHORT : GI mg "TO_SHORT" (1)
  b_len : mg "len" = none
  b_dict : mg "dict" = none
  b_list : mg "list" = none
  dCalls : Addr
  calls_ : mg "CALLS" = some (.ref dCalls)
end SL
namespace SL
open PySem hiding Tree
open L2 Sl Ql65
/-! what stands in the heap -/
/-- the heap without the things at S -/
def mask (H : Hp) (S : List Addr) : Hp := fun b => if b ∈ S then none else H b
theorem mask_in {H : Hp} {S : List Addr} {b : Addr} (h : b ∈ S) : mask H S b = none := if_pos h
theorem mask_out {H : Hp} {S : List Addr} {b : Addr} (h : ¬ b ∈ S) : mask H S b = H b := if_neg h
theorem mask_same {H : Hp} {S : List Addr} : Same (mask H S) H := fun b o e => by
  unfold mask at e
  split at e
  · cases e
  · exact e
/-- what is kept apart from S is kept by the masked heap -/
theorem same_mask {G H : Hp} {S : List Addr} (s : Same G H) (h : ∀ b, b ∈ S → G b = none) : Same G (mask H S) := fun b o e => by
  rw [mask_out fun m => by rw [h b m] at e; cases e]
  exact s b o e
theorem same_upd {H : Hp} {p : Addr} {o : HO} (h : H p = none) : Same H (upd H p o) := fun b u e => by
  rw [upd_ne (ne_of_none e h)]
  exact e
theorem same_put {G H : Hp} {p : Addr} {o : HO} (s : Same G H) (h : G p = none) : Same G (upd H p o) := fun b u e => by
  rw [upd_ne (ne_of_none e h)]
  exact s b u e
theorem ne_none {G : Hp} {b p : Addr} {o : HO} (e : G b = some o) (h : G p = none) : b ≠ p := ne_of_none e h
/-- no whole number, or one -/
def oV : Option Nat → V
  | none => .non
  | some k => .int k
theorem map_int {l : List Nat} {m : List Int} (h : l.map (fun (x : Nat) => (x : Int)) = m) : l.map (fun (x : Nat) => V.int (x : Int)) = m.map V.int := by
  rw [← h, List.map_map]
  rfl
/-- numbers as values -/
def nV (l : List Nat) : List V := l.map fun (x : Nat) => V.int (x : Int)
theorem nV_len (l : List Nat) : (nV l).length = l.length := List.length_map _
theorem nV_app (a b : List Nat) : nV (a ++ b) = nV a ++ nV b := List.map_append
theorem nV_rev (a : List Nat) : (nV a).reverse = nV a.reverse := by
  unfold nV
  rw [List.map_reverse]
/-! dicts that are a list's image -/
theorem val_map {β : Type} (f : Nat × β → V) (k : Nat) : ∀ l : List (Nat × β), valV (l.map fun x => ((Sum.inl (x.1 : Int) : Key), f x)) (Sum.inl (k : Int)) = (l.find? fun x => x.1 == k).map f
  | [] => rfl
  | x :: r => by
    rw [List.map_cons, List.find?_cons]
    by_cases e : x.1 = k
    · rw [valV_pos (by show (Sum.inl (x.1 : Int) : Key) = _; rw [e])]
      simp [e]
    · rw [valV_neg (by
        intro z
        have z' : (Sum.inl (x.1 : Int) : Key) = Sum.inl (k : Int) := z
        have := Sum.inl.inj z'
        omega), val_map f k r]
      have : (x.1 == k) = false := by simpa using e
      rw [this]
theorem drop_map {β : Type} (f : Nat × β → V) (k : Nat) : ∀ l : List (Nat × β), dropK (l.map fun x => ((Sum.inl (x.1 : Int) : Key), f x)) (Sum.inl (k : Int)) = (l.filter fun x => x.1 != k).map fun x => ((Sum.inl (x.1 : Int) : Key), f x)
  | [] => rfl
  | x :: r => by
    rw [List.map_cons, List.filter_cons]
    by_cases e : x.1 = k
    · rw [dropK_pos (by show (Sum.inl (x.1 : Int) : Key) = _; rw [e]), drop_map f k r, if_neg (by simp [e])]
    · rw [dropK_neg (by
        intro z
        have z' : (Sum.inl (x.1 : Int) : Key) = Sum.inl (k : Int) := z
        have := Sum.inl.inj z'
        omega), drop_map f k r, if_pos (by simpa using e), List.map_cons]
/-- the key of a number and a byte -/
def pk (x : Nat × Nat) : List Key := [Sum.inl (x.1 : Int), Sum.inl (x.2 : Int)]
theorem pk_inj {x y : Nat × Nat} (h : pk x = pk y) : x = y := by
  obtain ⟨a, b⟩ := x
  obtain ⟨c, d⟩ := y
  have h' : ([Sum.inl (a : Int), Sum.inl (b : Int)] : List Key) = [Sum.inl (c : Int), Sum.inl (d : Int)] := h
  have h1 := List.cons.inj h'
  have h2 := List.cons.inj h1.2
  have e1 := Sum.inl.inj h1.1
  have e2 := Sum.inl.inj h2.1
  rw [Int.natCast_inj.mp e1, Int.natCast_inj.mp e2]
def nodesD (t : Tree) : List (List Key × V) := t.nodes.map fun x => (pk x.2, V.int (x.1 : Int))
def endsD (t : Tree) (g : Nat → Addr) : List (Key × V) := t.nodes.map fun x => ((Sum.inl (x.1 : Int) : Key), V.ref (g x.1))
def lensD (t : Tree) : List (Key × V) := t.nodes.map fun x => ((Sum.inl (x.1 : Int) : Key), V.int ((t.string x.1).length : Int))
theorem val_nodes {p b : Nat} {t : Tree} : valV (nodesD t) (pk (p, b)) = (t.child p b).map fun k => V.int (k : Int) := by
  unfold nodesD Tree.child
  generalize t.nodes = l
  induction l with
  | nil => rfl
  | cons x r ih =>
    rw [List.map_cons, List.find?_cons]
    by_cases e : x.2 = (p, b)
    · rw [valV_pos (by show pk x.2 = _; rw [e])]
      simp [e]
    · rw [valV_neg (fun z => e (pk_inj z)), ih]
      have : (x.2 == (p, b)) = false := by simpa using e
      rw [this]
theorem drop_nodes {x : Nat × Nat} : ∀ l : List (Nat × (Nat × Nat)), dropK (l.map fun y => (pk y.2, V.int (y.1 : Int))) (pk x) = (l.filter fun y => decide (y.2 ≠ x)).map fun y => (pk y.2, V.int (y.1 : Int))
  | [] => rfl
  | y :: r => by
    rw [List.map_cons, List.filter_cons]
    by_cases e : y.2 = x
    · rw [dropK_pos (by show pk y.2 = _; rw [e]), drop_nodes r, if_neg (by simp [e])]
    · rw [dropK_neg (fun z => e (pk_inj z)), drop_nodes r, if_pos (by simpa using e), List.map_cons]
theorem pairs_nodes {z : Sizes} {t : Tree} (w : Wf0 z t) (g : Good z) : ∀ x, x ∈ nodesD t → PairKey x.1 := fun x hx => by
  obtain ⟨y, hy, rfl⟩ := List.mem_map.mp hx
  have h1 := real_lt w g (w.string_node g (k := y.1) (p := y.2.1) (b := y.2.2) hy).2
  have := g.c2
  exact ⟨y.2.1, y.2.2, by omega, w.byt y hy, rfl⟩
/-- the heirs' counts -/
structure HeirsOk (z : Sizes) (t : Tree) (D : List (Key × V)) : Prop where
  nd : (D.map (·.1)).Nodup
  rng : ∀ x, x ∈ D → ∃ p : Nat, p < z.codes ∧ x.1 = Sum.inl (p : Int)
  val : ∀ p : Nat, (valV D (Sum.inl (p : Int))).getD (.int 0) = .int (heirs t p : Int)
theorem HeirsOk.len {z : Sizes} {t : Tree} {D : List (Key × V)} (h : HeirsOk z t D) : D.length ≤ z.codes := by
  have hm : ∀ (l : List Key), l.Nodup → (∀ x, x ∈ l → ∃ p : Nat, p < z.codes ∧ x = Sum.inl (p : Int)) → ∃ m : List Nat, m.Nodup ∧ m.length = l.length ∧ (∀ x, x ∈ m → x < z.codes) ∧ ∀ x, x ∈ m → (Sum.inl (x : Int) : Key) ∈ l := by
    intro l
    induction l with
    | nil => intro _ _; exact ⟨[], List.nodup_nil, rfl, (fun _ h => nomatch h), fun _ h => nomatch h⟩
    | cons a r ih =>
      intro hn hr
      obtain ⟨h1, h2⟩ := List.nodup_cons.mp hn
      obtain ⟨m, m1, m2, m3, m4⟩ := ih h2 fun x hx => hr x (List.mem_cons_of_mem _ hx)
      obtain ⟨p, hp, e⟩ := hr a List.mem_cons_self
      refine ⟨p :: m, List.nodup_cons.mpr ⟨fun q => h1 (by rw [e]; exact m4 p q), m1⟩, by simp [m2], fun x hx => ?_, fun x hx => ?_⟩
      · rcases List.mem_cons.mp hx with q | q
        · rw [q]; exact hp
        · exact m3 x q
      · rcases List.mem_cons.mp hx with q | q
        · rw [q, ← e]; exact List.mem_cons_self
        · exact List.mem_cons_of_mem _ (m4 x q)
  obtain ⟨m, m1, m2, m3, _⟩ := hm (D.map (·.1)) h.nd fun x hx => by
    obtain ⟨y, hy, e⟩ := List.mem_map.mp hx
    rw [← e]
    exact h.rng y hy
  have := pigeon z.codes m m1 m3
  rw [m2, List.length_map] at this
  exact this
theorem keys_put {κ : Type} [DecidableEq κ] (D : List (κ × V)) (k : κ) (v : V) : (putK D k v).map (·.1) = if (valV D k).isSome = true then D.map (·.1) else D.map (·.1) ++ [k] := by
  cases e : valV D k with
  | none =>
    rw [putK_new v e]
    simp
  | some y =>
    have ha := valV_any k D
    rw [e] at ha
    have ha : (D.any fun kv => decide (kv.1 = k)) = true := ha
    unfold putK
    rw [if_pos ha]
    simp only [Option.isSome_some, if_true, List.map_map]
    refine List.map_congr_left fun x hx => ?_
    show (if x.1 = k then (x.1, v) else x).1 = x.1
    split <;> rfl
theorem HeirsOk.put {z : Sizes} {t u : Tree} {D : List (Key × V)} (h : HeirsOk z t D) {p : Nat} (hp : p < z.codes) (n : Int) (hn : n = (heirs u p : Int)) (ho : ∀ q, q ≠ p → heirs u q = heirs t q) : HeirsOk z u (putK D (Sum.inl (p : Int)) (.int n)) := by
  refine ⟨?_, fun x hx => ?_, fun q => ?_⟩
  · rw [keys_put]
    split
    · exact h.nd
    · rename_i c
      refine nd_snoc h.nd (valV_not ?_)
      cases e : valV D (Sum.inl (p : Int)) with
      | none => rfl
      | some y => exact absurd (by rw [e]; rfl) c
  · have hk : x.1 ∈ (putK D (Sum.inl (p : Int)) (V.int n)).map (·.1) := List.mem_map.mpr ⟨x, hx, rfl⟩
    rw [keys_put] at hk
    have old : x.1 ∈ D.map (·.1) → ∃ p : Nat, p < z.codes ∧ x.1 = Sum.inl (p : Int) := fun m => by
      obtain ⟨y, hy, e⟩ := List.mem_map.mp m
      rw [← e]
      exact h.rng y hy
    split at hk
    · exact old hk
    · rcases List.mem_append.mp hk with m | m
      · exact old m
      · exact ⟨p, hp, by simpa using m⟩
  · rw [valV_put]
    by_cases e : q = p
    · subst e
      rw [if_pos rfl, hn]
      rfl
    · rw [if_neg (fun z => e (Int.natCast_inj.mp (Sum.inl.inj z))), h.val q, ho q e]
theorem HeirsOk.empty {z : Sizes} : HeirsOk z emptyTree [] := ⟨List.nodup_nil, (fun _ h => nomatch h), fun p => rfl⟩
/-- **a tree stands at p, apart from G** -/
structure TreeAt (C : Addr) (G H : Hp) (p : Addr) (z : Sizes) (t : Tree) : Prop where
  ex : ∃ (dx a1 a2 a3 a4 : Addr) (g : Nat → Addr) (D : List (Key × V)), H p = some (.ins C dx (tfF z.codes z.longest t.next a1 a2 a3 a4)) ∧ H a1 = some (.dT (nodesD t)) ∧ H a2 = some (.dK (endsD t g)) ∧ H a3 = some (.dK D) ∧ H a4 = some (.dK (lensD t)) ∧
    (∀ x, x ∈ t.nodes → H (g x.1) = some (.tup [.int (x.2.1 : Int), .int (x.2.2 : Int)])) ∧ HeirsOk z t D ∧ a2 ≠ a3 ∧ a2 ≠ a4 ∧ a3 ≠ a4 ∧ G p = none ∧ G a1 = none ∧ G a2 = none ∧ G a3 = none ∧ G a4 = none
  wf : Wf0 z t
  gd : Good z
section
variable {C p : Addr} {G G' H H' : Hp} {z : Sizes} {t : Tree}
theorem TreeAt.kept (x : TreeAt C G H p z t) (s : Same H H') : TreeAt C G H' p z t := by
  obtain ⟨⟨dx, a1, a2, a3, a4, g, D, h0, h1, h2, h3, h4, h5, h6⟩, w, gd⟩ := x
  exact ⟨⟨dx, a1, a2, a3, a4, g, D, s _ _ h0, s _ _ h1, s _ _ h2, s _ _ h3, s _ _ h4, fun y hy => s _ _ (h5 y hy), h6⟩, w, gd⟩
theorem free_of_same (s : Same G' G) {b : Addr} (h : G b = none) : G' b = none := s.free h
theorem TreeAt.less (x : TreeAt C G H p z t) (s : Same G' G) : TreeAt C G' H p z t := by
  obtain ⟨⟨dx, a1, a2, a3, a4, g, D, h0, h1, h2, h3, h4, h5, h6, n1, n2, n3, g0, g1, g2, g3, g4⟩, w, gd⟩ := x
  exact ⟨⟨dx, a1, a2, a3, a4, g, D, h0, h1, h2, h3, h4, h5, h6, n1, n2, n3, s.free g0, s.free g1, s.free g2, s.free g3, s.free g4⟩, w, gd⟩
/-- its parts: apart from them all may be kept -/
theorem TreeAt.own (x : TreeAt C G H p z t) (s : Same G H) : ∃ S, Same G (mask H S) ∧ TreeAt C (mask H S) H p z t ∧ ∀ b, b ∈ S → (∃ l, H b = some (.dT l)) ∨ (∃ l, H b = some (.dK l)) ∨ ∃ dx c l n a1 a2 a3 a4, H b = some (.ins C dx (tfF c l n a1 a2 a3 a4)) := by
  obtain ⟨⟨dx, a1, a2, a3, a4, g, D, h0, h1, h2, h3, h4, h5, h6, n1, n2, n3, g0, g1, g2, g3, g4⟩, w, gd⟩ := x
  refine ⟨[p, a1, a2, a3, a4], same_mask s fun b hb => ?_, ⟨⟨dx, a1, a2, a3, a4, g, D, h0, h1, h2, h3, h4, h5, h6, n1, n2, n3, mask_in (by simp), mask_in (by simp), mask_in (by simp), mask_in (by simp), mask_in (by simp)⟩, w, gd⟩, fun b hb => ?_⟩
  · simp at hb
    rcases hb with rfl | rfl | rfl | rfl | rfl <;> assumption
  · simp at hb
    rcases hb with rfl | rfl | rfl | rfl | rfl
    · exact .inr (.inr ⟨_, _, _, _, _, _, _, _, h0⟩)
    · exact .inl ⟨_, h1⟩
    · exact .inr (.inl ⟨_, h2⟩)
    · exact .inr (.inl ⟨_, h3⟩)
    · exact .inr (.inl ⟨_, h4⟩)
end
end SL
namespace SL
open PySem hiding Tree
open L2 Sl Ql65
section
variable {P : Program} {w : World} {K : PySem.W.Frag} {mg : Str → Option Value} {base : Heap}
theorem free' {G H : Hp} {l : Addr} (h : H l = none) (e : Same G H) : G l = none := e.free h
/-! the tree's methods -/
def spTreeInit (C : Addr) : Sp := fun vs H Q _ => ∃ (G : Hp) (p dx : Addr) (z : Sizes), vs = [.ref p, .int z.codes, .int z.longest] ∧ Good z ∧ H p = some (.ins C dx []) ∧ Same G H ∧ G p = none ∧
  ∀ H', Same G H' → TreeAt C G H' p z emptyTree → Q .non H'
theorem ok_treeInit (T : PT K mg) : FnOk P w K mg base CX0 1 T.tree.init_.f T.tree.init_.fd ["self", "codes", "longest"] (spTreeInit T.tree.C) := by
  refine T.tree.init_.F.ok scTree_init (fun vs H Q E h => ?_) (fun cdv A outer s H vs Q E hr h => ?_)
  · obtain ⟨G, p, dx, z, rfl, _⟩ := h
    rfl
  · obtain ⟨G, p, dx, z, rfl, gd, hp, sG, gp, k⟩ := h
    have cl := T.tree.cl
    refine ⟨_, pss_cons (ps_fld (pv 0) (pv 1) rfl) (pss_cons (ps_fld (pv 0) (pv 2) rfl) (pss_cons (ps_fld (pv 0) (pe_gi T.g_FIRST_NODE) rfl)
      (pss_cons (ps_fld (pv 0) pe_dnewT rfl) (pss_cons (ps_fld (pv 0) pe_dnewK rfl) (pss_cons (ps_fld (pv 0) pe_dnewK rfl) (pss_one (ps_fld (pv 0) pe_dnewK rfl))))))), ?_⟩
    refine ⟨_, rfl, _, rfl, p, _, dx, _, rfl, hp, cl, T.tree.n_codes, (by show 0 < 1000; decide), ?_⟩
    refine ⟨_, rfl, _, rfl, p, _, dx, _, rfl, upd_same, cl, T.tree.n_longest, (by show 1 < 1000; decide), ?_⟩
    refine ⟨_, rfl, p, _, dx, _, rfl, upd_same, cl, T.tree.n_next_node, (by show 2 < 1000; decide), ?_⟩
    intro a1 h1
    have n1 : p ≠ a1 := ne_of_none upd_same h1
    refine ⟨_, rfl, p, _, dx, _, rfl, (by rw [upd_ne n1, upd_same]), cl, T.tree.n_nodes, (by show 3 < 1000; decide), ?_⟩
    intro a2 h2
    have n2 : p ≠ a2 := ne_of_none upd_same h2
    have m2 : a1 ≠ a2 := ne_of_none (o := .dT []) (by rw [upd_ne n1.symm, upd_same]) h2
    refine ⟨_, rfl, p, _, dx, _, rfl, (by rw [upd_ne n2, upd_same]), cl, T.tree.n_ends, (by show 4 < 1000; decide), ?_⟩
    intro a3 h3
    have n3 : p ≠ a3 := ne_of_none upd_same h3
    have m3 : a1 ≠ a3 := ne_of_none (o := .dT []) (by rw [upd_ne n1.symm, upd_ne m2, upd_ne n1.symm, upd_same]) h3
    have m4 : a2 ≠ a3 := ne_of_none (o := .dK []) (by rw [upd_ne n2.symm, upd_same]) h3
    refine ⟨_, rfl, p, _, dx, _, rfl, (by rw [upd_ne n3, upd_same]), cl, T.tree.n_heirs, (by show 5 < 1000; decide), ?_⟩
    intro a4 h4
    have n4 : p ≠ a4 := ne_of_none upd_same h4
    have m5 : a1 ≠ a4 := ne_of_none (o := .dT []) (by rw [upd_ne n1.symm, upd_ne m3, upd_ne n1.symm, upd_ne m2, upd_ne n1.symm, upd_same]) h4
    have m6 : a2 ≠ a4 := ne_of_none (o := .dK []) (by rw [upd_ne n2.symm, upd_ne m4, upd_ne n2.symm, upd_same]) h4
    have m7 : a3 ≠ a4 := ne_of_none (o := .dK []) (by rw [upd_ne n3.symm, upd_same]) h4
    refine ⟨_, rfl, p, _, dx, _, rfl, (by rw [upd_ne n4, upd_same]), cl, T.tree.n_lengths, (by show 6 < 1000; decide), ?_⟩
    -- what of G is free at the new places
    have g1 : G a1 = none := free' h1 (same_put (same_put (same_put sG gp) gp) gp)
    have g2 : G a2 = none := free' h2 (same_put (same_put (same_put (same_put (same_put sG gp) gp) gp) g1) gp)
    have g3 : G a3 = none := free' h3 (same_put (same_put (same_put (same_put (same_put (same_put (same_put sG gp) gp) gp) g1) gp) g2) gp)
    have g4 : G a4 = none := free' h4 (same_put (same_put (same_put (same_put (same_put (same_put (same_put (same_put (same_put sG gp) gp) gp) g1) gp) g2) gp) g3) gp)
    refine k _ (same_put (same_put (same_put (same_put (same_put (same_put (same_put (same_put (same_put (same_put (same_put sG gp) gp) gp) g1) gp) g2) gp) g3) gp) g4) gp) ⟨⟨dx, a1, a2, a3, a4, fun _ => 0, [], ?_, ?_, ?_, ?_, ?_, (fun x hx => nomatch hx), HeirsOk.empty, m4, m6, m7, gp, g1, g2, g3, g4⟩, (wf_empty gd).toWf0, gd⟩
    · rw [upd_same]
      exact congrArg (fun l => some (HO.ins T.tree.C dx l)) tf_made
    · rw [upd_ne n1.symm, upd_ne m5, upd_ne n1.symm, upd_ne m3, upd_ne n1.symm, upd_ne m2, upd_ne n1.symm, upd_same]
      rfl
    · rw [upd_ne n2.symm, upd_ne m6, upd_ne n2.symm, upd_ne m4, upd_ne n2.symm, upd_same]
      rfl
    · rw [upd_ne n3.symm, upd_ne m7, upd_ne n3.symm, upd_same]
    · rw [upd_ne n4.symm, upd_same]
      rfl
/-- a copy, apart from all that was there -/
def spTreeCopy (C : Addr) : Sp := fun vs H Q _ => ∃ (G : Hp) (p : Addr) (z : Sizes) (t : Tree), vs = [.ref p] ∧ TreeAt C G H p z t ∧ ∀ q H', Same H H' → TreeAt C H H' q z t → Q (.ref q) H'
theorem ok_treeCopy (T : PT K mg) : FnOk P w K mg base CX0 3 T.tree.copy_.f T.tree.copy_.fd ["self"] (spTreeCopy T.tree.C) := by
  refine T.tree.copy_.F.ok scTree_copy (fun vs H Q E h => ?_) (fun cdv A outer s H vs Q E hr h => ?_)
  · obtain ⟨G, p, z, t, rfl, _⟩ := h
    rfl
  · obtain ⟨G, p, z, t, rfl, ⟨⟨dx, a1, a2, a3, a4, g, D, e0, e1, e2, e3, e4, et, eh, d1, d2, d3, g0, g1, g2, g3, g4⟩, wf, gd⟩, k⟩ := h
    have cl := T.tree.cl
    refine ⟨_, pss_cons (ps_set (i := 1) scTree_copy.nd rfl (Or.inl rfl) (pe_make T.tree.mak (ok_treeInit T) hr rfl T.tree.at_ T.tree.init_.b .nil pass0 (pa_cons (pe_fld (pv 0) rfl) (pa_cons (pe_fld (pv 0) rfl) pa_nil))))
      (pss_cons (ps_fld (pv 1) (pe_fld (pv 0) rfl) rfl)
      (pss_cons (ps_fld (pv 1) (pe_callTy call_dictT rfl T.b_dict PyProof.Rows.boot_dict (pa_cons (pe_fld (pv 0) rfl) pa_nil)) rfl)
      (pss_cons (ps_fld (pv 1) (pe_callTy call_dictK rfl T.b_dict PyProof.Rows.boot_dict (pa_cons (pe_fld (pv 0) rfl) pa_nil)) rfl)
      (pss_cons (ps_fld (pv 1) (pe_callTy call_dictK rfl T.b_dict PyProof.Rows.boot_dict (pa_cons (pe_fld (pv 0) rfl) pa_nil)) rfl)
      (pss_cons (ps_fld (pv 1) (pe_callTy call_dictK rfl T.b_dict PyProof.Rows.boot_dict (pa_cons (pe_fld (pv 0) rfl) pa_nil)) rfl)
      (pss_one (ps_ret (pv 1)))))))), ?_⟩
    -- twin = Tree(self.codes, self.longest)
    refine ⟨_, rfl, p, _, dx, _, _, rfl, e0, cl, T.tree.n_codes, tf_codes, _, rfl, p, _, dx, _, _, rfl, e0, cl, T.tree.n_longest, tf_longest, ?_⟩
    intro q dq nq ndq nne
    have s0 : Same H (upd (upd H dq (.own q)) q (.ins T.tree.C dq [])) := fun b o e => by
      rw [upd_ne (ne_of_none e nq), upd_ne (ne_of_none e ndq)]
      exact e
    refine ⟨H, q, dq, z, rfl, gd, upd_same, s0, nq, fun H1 s1 ⟨⟨dy, b1, b2, b3, b4, _, _, f0, f1, f2, f3, f4, _, _, c1, c2, c3, i0, i1, i2, i3, i4⟩, _, _⟩ => ⟨rfl, ?_⟩⟩
    have pq : p ≠ q := ne_of_none e0 i0
    -- twin.next_node = self.next_node
    refine ⟨_, rfl, p, _, dx, _, _, rfl, s1 _ _ e0, cl, T.tree.n_next_node, tf_next_node, _, rfl, q, _, dy, _, rfl, f0, cl, T.tree.n_next_node, (by rw [tf_len]; decide), ?_⟩
    rw [tfp_next_node]
    have s2 : Same H (upd H1 q (HO.ins T.tree.C dy (tfF z.codes z.longest t.next b1 b2 b3 b4))) := same_put s1 i0
    -- twin.nodes = dict(self.nodes)
    refine ⟨_, rfl, p, _, dx, _, _, rfl, s2 _ _ e0, cl, T.tree.n_nodes, tf_nodes, a1, _, rfl, s2 _ _ e1, pairs_nodes wf gd, fun c1' j1 => ?_⟩
    have q1 : q ≠ c1' := ne_of_none upd_same j1
    refine ⟨_, rfl, q, _, dy, _, rfl, (by rw [upd_ne q1, upd_same]), cl, T.tree.n_nodes, (by rw [tf_len]; decide), ?_⟩
    rw [tfp_nodes]
    have hc1 := s2.free j1
    have s3 : Same H (upd (upd (upd H1 q (HO.ins T.tree.C dy (tfF z.codes z.longest t.next b1 b2 b3 b4))) c1' (HO.dT (nodesD t))) q (HO.ins T.tree.C dy (tfF z.codes z.longest t.next c1' b2 b3 b4))) := same_put (same_put s2 hc1) i0
    -- twin.ends = dict(self.ends)
    refine ⟨_, rfl, p, _, dx, _, _, rfl, s3 _ _ e0, cl, T.tree.n_ends, tf_ends, a2, _, rfl, s3 _ _ e2, fun c2' j2 => ?_⟩
    have q2 : q ≠ c2' := ne_of_none upd_same j2
    refine ⟨_, rfl, q, _, dy, _, rfl, (by rw [upd_ne q2, upd_same]), cl, T.tree.n_ends, (by rw [tf_len]; decide), ?_⟩
    rw [tfp_ends]
    have hc2 := s3.free j2
    have k12 : c1' ≠ c2' := ne_of_none (o := .dT (nodesD t)) (by rw [upd_ne q1.symm, upd_same]) j2
    have s4 := same_put (o := HO.ins T.tree.C dy (tfF z.codes z.longest t.next c1' c2' b3 b4)) (same_put (o := HO.dK (endsD t g)) s3 hc2) i0
    refine ⟨_, rfl, p, _, dx, _, _, rfl, s4 _ _ e0, cl, T.tree.n_heirs, tf_heirs, a3, _, rfl, s4 _ _ e3, fun c3' j3 => ?_⟩
    have q3 : q ≠ c3' := ne_of_none upd_same j3
    refine ⟨_, rfl, q, _, dy, _, rfl, (by rw [upd_ne q3, upd_same]), cl, T.tree.n_heirs, (by rw [tf_len]; decide), ?_⟩
    rw [tfp_heirs]
    have hc3 := s4.free j3
    have k13 : c1' ≠ c3' := ne_of_none (o := .dT (nodesD t)) (by rw [upd_ne q1.symm, upd_ne k12, upd_ne q1.symm, upd_same]) j3
    have k23 : c2' ≠ c3' := ne_of_none (o := .dK (endsD t g)) (by rw [upd_ne q2.symm, upd_same]) j3
    have s5 := same_put (o := HO.ins T.tree.C dy (tfF z.codes z.longest t.next c1' c2' c3' b4)) (same_put (o := HO.dK D) s4 hc3) i0
    refine ⟨_, rfl, p, _, dx, _, _, rfl, s5 _ _ e0, cl, T.tree.n_lengths, tf_lengths, a4, _, rfl, s5 _ _ e4, fun c4' j4 => ?_⟩
    have q4 : q ≠ c4' := ne_of_none upd_same j4
    refine ⟨_, rfl, q, _, dy, _, rfl, (by rw [upd_ne q4, upd_same]), cl, T.tree.n_lengths, (by rw [tf_len]; decide), ?_⟩
    rw [tfp_lengths]
    have hc4 := s5.free j4
    have k14 : c1' ≠ c4' := ne_of_none (o := .dT (nodesD t)) (by rw [upd_ne q1.symm, upd_ne k13, upd_ne q1.symm, upd_ne k12, upd_ne q1.symm, upd_same]) j4
    have k24 : c2' ≠ c4' := ne_of_none (o := .dK (endsD t g)) (by rw [upd_ne q2.symm, upd_ne k23, upd_ne q2.symm, upd_same]) j4
    have k34 : c3' ≠ c4' := ne_of_none (o := .dK D) (by rw [upd_ne q3.symm, upd_same]) j4
    have s6 := same_put (o := HO.ins T.tree.C dy (tfF z.codes z.longest t.next c1' c2' c3' c4')) (same_put (o := HO.dK (lensD t)) s5 hc4) i0
    refine ⟨_, rfl, k q _ s6 ⟨⟨dy, c1', c2', c3', c4', g, D, upd_same, ?_, ?_, ?_, ?_, fun x hx => s6 _ _ (et x hx), eh, k23, k24, k34, i0, hc1, hc2, hc3, hc4⟩, wf, gd⟩⟩
    · rw [upd_ne q1.symm, upd_ne k14, upd_ne q1.symm, upd_ne k13, upd_ne q1.symm, upd_ne k12, upd_ne q1.symm, upd_same]
    · rw [upd_ne q2.symm, upd_ne k24, upd_ne q2.symm, upd_ne k23, upd_ne q2.symm, upd_same]
    · rw [upd_ne q3.symm, upd_ne k34, upd_ne q3.symm, upd_same]
    · rw [upd_ne q4.symm, upd_same]
end
end SL
namespace SL
open PySem hiding Tree
open L2 Sl Ql65
section
variable {P : Program} {w : World} {K : PySem.W.Frag} {mg : Str → Option Value} {base : Heap}
theorem oV_map (o : Option Nat) : (o.map fun k => V.int (k : Int)).getD .non = oV o := by cases o <;> rfl
def spFind (C : Addr) : Sp := fun vs H Q _ => ∃ (G : Hp) (p : Addr) (z : Sizes) (t : Tree) (n b : Nat), vs = [.ref p, .int n, .int b] ∧ TreeAt C G H p z t ∧ ∀ H', Same H H' → Q (oV (t.child n b)) H'
theorem ok_find (T : PT K mg) : FnOk P w K mg base CX0 1 T.tree.find_.f T.tree.find_.fd ["self", "number", "byte"] (spFind T.tree.C) := by
  refine T.tree.find_.F.ok scTree_find (fun vs H Q E h => ?_) (fun cdv A outer s H vs Q E hr h => ?_)
  · obtain ⟨G, p, z, t, n, b, rfl, _⟩ := h
    rfl
  · obtain ⟨G, p, z, t, n, b, rfl, ⟨⟨dx, a1, a2, a3, a4, g, D, e0, e1, e2, e3, e4, et, eh, d1, d2, d3, g0, g1, g2, g3, g4⟩, wf, gd⟩, k⟩ := h
    have hu := hu_of hr
    have cl := T.tree.cl
    refine ⟨_, pss_one (ps_ret (pe_dget1 hu (pe_fld (pv 0) rfl) (pe_tup (pa_cons (pv 1) (pa_cons (pv 2) pa_nil))) ⟨rfl, rfl, rfl, rfl⟩)), ?_⟩
    refine ⟨_, rfl, p, _, dx, _, _, rfl, e0, cl, T.tree.n_nodes, tf_nodes, a1, rfl, .inr ⟨_, Rd.of e1⟩, _, rfl, _, rfl, (by show 2 ≤ sizeLine; decide), fun q hq => ⟨_, DGet.t (k := pk (n, b)) ((same_upd hq) _ _ e1) upd_same, ?_⟩⟩
    rw [val_nodes, oV_map]
    exact k _ (same_upd hq)
theorem val_ends {k : Nat} {t : Tree} {g : Nat → Addr} : valV (endsD t g) (Sum.inl (k : Int)) = (t.nodes.find? fun x => x.1 == k).map fun x => V.ref (g x.1) := val_map (fun x => V.ref (g x.1)) k t.nodes
theorem ends_has {k : Nat} {t : Tree} {g : Nat → Addr} : (valV (endsD t g) (Sum.inl (k : Int))).isSome = t.has k := by
  rw [val_ends, Option.isSome_map]
  unfold Tree.has
  generalize t.nodes = l
  induction l with
  | nil => rfl
  | cons x r ih =>
    rw [List.find?_cons, List.any_cons]
    cases (x.1 == k) with
    | true => rfl
    | false => rw [Bool.false_or]; exact ih
def spHolds (C : Addr) : Sp := fun vs H Q _ => ∃ (G : Hp) (p : Addr) (z : Sizes) (t : Tree) (n : Nat), vs = [.ref p, .int n] ∧ TreeAt C G H p z t ∧ Q (.bl (Ql65.real t n)) H
theorem ok_holds (T : PT K mg) : FnOk P w K mg base CX0 1 T.tree.holds_.f T.tree.holds_.fd ["self", "number"] (spHolds T.tree.C) := by
  refine T.tree.holds_.F.ok scTree_holds (fun vs H Q E h => ?_) (fun cdv A outer s H vs Q E hr h => ?_)
  · obtain ⟨G, p, z, t, n, rfl, _⟩ := h
    rfl
  · obtain ⟨G, p, z, t, n, rfl, ⟨⟨dx, a1, a2, a3, a4, g, D, e0, e1, e2, e3, e4, et, eh, d1, d2, d3, g0, g1, g2, g3, g4⟩, wf, gd⟩, k⟩ := h
    have hu := hu_of hr
    have cl := T.tree.cl
    have hf : FIRST = 259 := rfl
    refine ⟨_, pss_one (ps_ret (pe_or (pe_chain op_le op_lt (pe_gi T.g_FIRST_BYTE) (pv 1) (pe_gi T.g_FIRST_NODE)) (pe_one (pe_cmp (pc_din hu (pv 1) (pe_fld (pv 0) rfl)))))), ?_⟩
    refine ⟨_, rfl, _, _, rfl, rfl, _, rfl, ?_⟩
    have last : ¬ (3 ≤ n ∧ n < FIRST) → Q (.bl ((valV (endsD t g) (Sum.inl (n : Int))).isSome)) H := fun c => by
      rw [ends_has]
      have : Ql65.real t n = t.has n := by
        unfold Ql65.real
        rw [decide_eq_false c, Bool.false_or]
      rw [← this]
      exact k
    refine ite2 (fun c => ?_) (fun c => ?_)
    · have c : (3 : Int) ≤ n := of_decide_eq_true c
      refine ⟨_, _, rfl, rfl, _, rfl, ?_⟩
      refine ite2 (fun c2 => ?_) (fun c2 => ?_)
      · have c2 : (n : Int) < 259 := of_decide_eq_true c2
        have : Ql65.real t n = true := by
          unfold Ql65.real
          rw [decide_eq_true (by omega), Bool.true_or]
        rw [← this]
        exact k
      · have c2 : ¬ (n : Int) < 259 := fun q => c2 (decide_eq_true q)
        exact ⟨_, rfl, _, rfl, p, _, dx, _, _, rfl, e0, cl, T.tree.n_ends, tf_ends, a2, _, rfl, DGet.k (k := Sum.inl (n : Int)) e2, last (by omega)⟩
    · have c : ¬ (3 : Int) ≤ n := fun q => c (decide_eq_true q)
      refine ⟨_, rfl, iteF ?_⟩
      exact ⟨_, rfl, _, rfl, p, _, dx, _, _, rfl, e0, cl, T.tree.n_ends, tf_ends, a2, _, rfl, DGet.k (k := Sum.inl (n : Int)) e2, last (by omega)⟩
theorem val_lens {k : Nat} {t : Tree} : valV (lensD t) (Sum.inl (k : Int)) = (t.nodes.find? fun x => x.1 == k).map fun x => V.int ((t.string x.1).length : Int) := val_map (fun x => V.int ((t.string x.1).length : Int)) k t.nodes
theorem lens_get {z : Sizes} {t : Tree} (w : Wf0 z t) (g : Good z) {k : Nat} (h : Ql65.real t k = true) : (valV (lensD t) (Sum.inl (k : Int))).getD (.int 1) = .int ((t.string k).length : Int) := by
  rw [val_lens]
  cases e : t.nodes.find? (fun x => x.1 == k) with
  | some x =>
    have hk : x.1 = k := by simpa using List.find?_some e
    show V.int ((t.string x.1).length : Int) = _
    rw [hk]
  | none =>
    have nh : t.has k = false := by
      unfold Tree.has
      rw [List.any_eq_false]
      exact fun x hx => List.find?_eq_none.mp e x hx
    have hb : 3 ≤ k ∧ k < FIRST := by
      have h' : (decide (3 ≤ k ∧ k < FIRST) || t.has k) = true := h
      rw [nh, Bool.or_false] at h'
      exact of_decide_eq_true h'
    rw [string_byte hb.2]
    rfl
def spLen (C : Addr) : Sp := fun vs H Q _ => ∃ (p dx : Addr) (c l n : Int) (a1 a2 a3 a4 : Addr) (D : List (Key × V)) (m : Nat) (v : V), vs = [.ref p, .int m] ∧ H p = some (.ins C dx (tfF c l n a1 a2 a3 a4)) ∧ H a4 = some (.dK D) ∧ (valV D (Sum.inl (m : Int))).getD (.int 1) = v ∧ Q v H
theorem ok_len (T : PT K mg) : FnOk P w K mg base CX0 1 T.tree.length_of_.f T.tree.length_of_.fd ["self", "number"] (spLen T.tree.C) := by
  refine T.tree.length_of_.F.ok scTree_length_of (fun vs H Q E h => ?_) (fun cdv A outer s H vs Q E hr h => ?_)
  · obtain ⟨p, dx, c, l, n, a1, a2, a3, a4, D, m, v, rfl, _⟩ := h
    rfl
  · obtain ⟨p, dx, c, l, n, a1, a2, a3, a4, D, m, v, rfl, e0, e4, rfl, k⟩ := h
    have hu := hu_of hr
    refine ⟨_, pss_one (ps_ret (pe_dget2 hu (pe_fld (pv 0) rfl) (pv 1) pe_int ⟨rfl, rfl, rfl, rfl⟩)), ?_⟩
    exact ⟨_, rfl, p, _, dx, _, _, rfl, e0, T.tree.cl, T.tree.n_lengths, tf_lengths, a4, rfl, .inl ⟨_, Rd.of e4⟩, _, rfl, _, DGet.k (k := Sum.inl (m : Int)) e4, k⟩
def spBehind (C : Addr) : Sp := fun vs H Q _ => ∃ (G : Hp) (p : Addr) (z : Sizes) (t : Tree) (n : Nat), vs = [.ref p, .int n] ∧ TreeAt C G H p z t ∧ n < z.codes ∧ Q (.int (after z n : Int)) H
theorem ok_behind (T : PT K mg) : FnOk P w K mg base CX0 1 T.tree.number_behind_.f T.tree.number_behind_.fd ["self", "node"] (spBehind T.tree.C) := by
  refine T.tree.number_behind_.F.ok scTree_number_behind (fun vs H Q E h => ?_) (fun cdv A outer s H vs Q E hr h => ?_)
  · obtain ⟨G, p, z, t, n, rfl, _⟩ := h
    rfl
  · obtain ⟨G, p, z, t, n, rfl, ⟨⟨dx, a1, a2, a3, a4, g, D, e0, e1, e2, e3, e4, et, eh, d1, d2, d3, g0, g1, g2, g3, g4⟩, wf, gd⟩, hn, k⟩ := h
    refine ⟨_, pss_one (ps_ret (pe_ifExp (pt_cmpR op_eq (pv 1) (pe_op op_sub (pe_fld (pv 0) rfl) pe_int) (nomark _)) (pe_gi T.g_FIRST_NODE) (pe_op op_add (pv 1) pe_int))), ?_⟩
    refine ⟨_, rfl, _, rfl, p, _, dx, _, _, rfl, e0, T.tree.cl, T.tree.n_codes, tf_codes, _, _, rfl, rfl, rfl, _, rfl, ?_⟩
    unfold after at k
    refine ite2 (fun c => ?_) (fun c => ?_)
    · have c : V.int (n : Int) = V.int ((z.codes : Int) - 1) := of_decide_eq_true c
      have c := V.int.inj c
      rw [if_neg (by omega)] at k
      exact k
    · have c : ¬ V.int (n : Int) = V.int ((z.codes : Int) - 1) := fun q => c (decide_eq_true q)
      have c : ¬ (n : Int) = (z.codes : Int) - 1 := fun q => c (by rw [q])
      rw [if_pos (by omega)] at k
      exact ⟨_, rfl, _, _, rfl, rfl, k⟩
end
end SL
namespace SL
open PySem hiding Tree
open L2 Sl Ql65
theorem small_codes {z : Sizes} (g : Good z) {n : Nat} (h : n ≤ z.codes) : n < sizeLine := by
  have := g.c2
  rw [sizeLine_eq]
  omega
theorem text_next {l : List (Nat × (Nat × Nat))} {a b : Nat} : ∀ (f k : Nat), Tree.text ⟨l, a⟩ f k = Tree.text ⟨l, b⟩ f k
  | 0, _ => rfl
  | f + 1, k => by
    unfold Tree.text
    split
    · rfl
    · show (match (l.find? fun x => x.1 == k).map fun x => x.2 with | some x => Tree.text ⟨l, a⟩ f x.1 ++ [x.2] | none => []) = (match (l.find? fun x => x.1 == k).map fun x => x.2 with | some x => Tree.text ⟨l, b⟩ f x.1 ++ [x.2] | none => [])
      cases (l.find? fun x => x.1 == k).map fun x => x.2 with
      | none => rfl
      | some x => show Tree.text ⟨l, a⟩ f x.1 ++ [x.2] = _; rw [text_next f x.1]
theorem string_next {t : Tree} {n k : Nat} : Tree.string { t with next := n } k = t.string k := text_next (l := t.nodes) (a := n) (b := t.next) _ _
theorem lens_next {t : Tree} {n : Nat} : lensD { t with next := n } = lensD t := List.map_congr_left fun x _ => by rw [string_next]
section
variable {P : Program} {w : World} {K : PySem.W.Frag} {mg : Str → Option Value} {base : Heap}
theorem real_of_has {t : Tree} {k : Nat} (h : t.has k = true) : Ql65.real t k = true := by
  unfold Ql65.real
  rw [h, Bool.or_true]
def spTakeOut (C : Addr) : Sp := fun vs H Q _ => ∃ (G : Hp) (p : Addr) (z : Sizes) (t : Tree) (n m b : Nat), vs = [.ref p, .int n] ∧ Same G H ∧ TreeAt C G H p z t ∧ (n, (m, b)) ∈ t.nodes ∧ t.parent n = false ∧
  ∀ H', Same G H' → TreeAt C G H' p z ⟨t.nodes.filter fun x => x.1 != n, t.next⟩ → Q .non H'
theorem ok_takeOut (T : PT K mg) : FnOk P w K mg base CX0 1 T.tree.take_out_.f T.tree.take_out_.fd ["self", "node"] (spTakeOut T.tree.C) := by
  refine T.tree.take_out_.F.ok scTree_take_out (fun vs H Q E h => ?_) (fun cdv A outer s H vs Q E hr h => ?_)
  · obtain ⟨G, p, z, t, n, m, b, rfl, _⟩ := h
    rfl
  · obtain ⟨G, p, z, t, n, m, b, rfl, sG, ⟨⟨dx, a1, a2, a3, a4, g, D, e0, e1, e2, e3, e4, et, eh, d1, d2, d3, g0, g1, g2, g3, g4⟩, wf, gd⟩, hn, hp, k⟩ := h
    have hu := hu_of hr
    have cl := T.tree.cl
    refine ⟨_, pss_cons (ps_set (i := 2) scTree_take_out.nd rfl (Or.inl rfl) (pe_dpop1 (pe_fld (pv 0) rfl) (pv 1) ⟨rfl, rfl, rfl, rfl⟩))
      (pss_cons (ps_expr (pe_dpopT hu (pe_fld (pv 0) rfl) (pv 2) ⟨rfl, rfl, rfl, rfl⟩))
      (pss_cons (ps_expr (pe_dpop1 (pe_fld (pv 0) rfl) (pv 1) ⟨rfl, rfl, rfl, rfl⟩))
      (pss_one (ps_daug hu (pe_fld (pv 0) rfl) (pe_ix ix_tup (pv 2) pe_int (fun _ _ => rfl)) pe_int in_sub (fun _ _ _ => rfl))))), ?_⟩
    have f1 : t.nodes.find? (fun x => x.1 == n) = some (n, (m, b)) := find_key wf.keys hn
    have v2 : valV (endsD t g) (Sum.inl (n : Int)) = some (.ref (g n)) := by rw [val_ends, f1]; rfl
    have v4 : valV (lensD t) (Sum.inl (n : Int)) = some (.int ((t.string n).length : Int)) := by rw [val_lens, f1]; rfl
    have v1 : valV (nodesD t) (pk (m, b)) = some (.int (n : Int)) := by rw [val_nodes, wf.child.mpr hn]; rfl
    have tn := et _ hn
    have p2 : p ≠ a2 := ne_of e0 e2 (fun z => nomatch z)
    have p1 : p ≠ a1 := ne_of e0 e1 (fun z => nomatch z)
    have p3 : p ≠ a3 := ne_of e0 e3 (fun z => nomatch z)
    have p4 : p ≠ a4 := ne_of e0 e4 (fun z => nomatch z)
    have q2 : g n ≠ a2 := ne_of tn e2 (fun z => nomatch z)
    have q1 : g n ≠ a1 := ne_of tn e1 (fun z => nomatch z)
    have q4 : g n ≠ a4 := ne_of tn e4 (fun z => nomatch z)
    have e12 : a1 ≠ a2 := ne_of e1 e2 (fun z => nomatch z)
    have e13 : a1 ≠ a3 := ne_of e1 e3 (fun z => nomatch z)
    have e14 : a1 ≠ a4 := ne_of e1 e4 (fun z => nomatch z)
    -- end = self.ends.pop(node)
    refine ⟨_, rfl, p, _, dx, _, _, rfl, e0, cl, T.tree.n_ends, tf_ends, a2, rfl, .inl ⟨_, Rd.of e2⟩, _, rfl, _, Sum.inl (n : Int), _, e2, rfl, v2, ?_⟩
    -- self.nodes.pop(end)
    refine ⟨_, rfl, p, _, dx, _, _, rfl, (by rw [upd_ne p2]; exact e0), cl, T.tree.n_nodes, tf_nodes, a1, rfl, .inr ⟨_, Rd.of (by rw [upd_ne e12]; exact e1)⟩, _, rfl, _, pk (m, b), g n, _, (by rw [upd_ne e12]; exact e1), rfl, (by rw [upd_ne q2]; exact tn), v1, ?_⟩
    -- self.lengths.pop(node)
    refine ⟨_, rfl, p, _, dx, _, _, rfl, (by rw [upd_ne p1, upd_ne p2]; exact e0), cl, T.tree.n_lengths, tf_lengths, a4, rfl, .inl ⟨_, Rd.of (by rw [upd_ne (Ne.symm e14), upd_ne d2.symm]; exact e4)⟩, _, rfl, _, Sum.inl (n : Int), _, (by rw [upd_ne (Ne.symm e14), upd_ne d2.symm]; exact e4), rfl, v4, ?_⟩
    -- self.heirs[end[0]] -= 1
    have hpos : 0 < heirs t m := by
      have : t.parent m = true := parent_iff.mpr ⟨n, b, hn⟩
      rw [heirs_parent] at this
      exact of_decide_eq_true this
    have v3 : valV D (Sum.inl (m : Int)) = some (.int (heirs t m : Int)) := by
      have q := eh.val m
      cases e : valV D (Sum.inl (m : Int)) with
      | some y =>
        rw [e] at q
        exact congrArg some q
      | none =>
        rw [e] at q
        have : (0 : Int) = (heirs t m : Int) := V.int.inj q
        omega
    refine ⟨_, rfl, p, _, dx, _, _, rfl, (by rw [upd_ne p4, upd_ne p1, upd_ne p2]; exact e0), cl, T.tree.n_heirs, tf_heirs, _, rfl, _, _, _, _, rfl, rfl, SqT.of (by rw [upd_ne q4, upd_ne q1, upd_ne q2]; exact tn), atI_nat (j := 0) rfl, a3, _, rfl,
      DGet.k (k := Sum.inl (m : Int)) (by rw [upd_ne d3, upd_ne (Ne.symm e13), upd_ne d1.symm]; exact e3) |> fun z => v3 ▸ z, _, _, rfl, rfl, _, DPut.k (k := Sum.inl (m : Int)) (by rw [upd_ne d3, upd_ne (Ne.symm e13), upd_ne d1.symm]; exact e3) (small_codes gd eh.len), ?_⟩
    have wr := wf.rng _ hn
    have w2 := wf.without ⟨wr.1, wr.2⟩ hp
    have w3 : Wf0 z ⟨t.nodes.filter fun x => x.1 != n, t.next⟩ := w2.toWf0.moved wf.nxt
    have hm := real_lt wf gd (wf.string_node gd hn).2
    refine k _ (same_put (same_put (same_put (same_put sG g2) g1) g4) g3) ⟨⟨dx, a1, a2, a3, a4, g, _, ?_, ?_, ?_, upd_same, ?_, fun x hx => ?_, ?_, d1, d2, d3, g0, g1, g2, g3, g4⟩, w3, gd⟩
    · rw [upd_ne p3, upd_ne p4, upd_ne p1, upd_ne p2]
      exact e0
    · rw [upd_ne e13, upd_ne e14, upd_same]
      refine congrArg (fun l => some (HO.dT l)) ?_
      show dropK (t.nodes.map fun y => (pk y.2, V.int (y.1 : Int))) (pk (m, b)) = _
      rw [drop_nodes, without_pair wf.keys wf.pairs hn]
      rfl
    · rw [upd_ne d1, upd_ne d2, upd_ne (Ne.symm e12), upd_same]
      exact congrArg (fun l => some (HO.dK l)) (drop_map (fun x => V.ref (g x.1)) n t.nodes)
    · rw [upd_ne d3.symm, upd_same]
      refine congrArg (fun l => some (HO.dK l)) ?_
      have q := drop_map (fun x => V.int ((t.string x.1).length : Int)) n t.nodes
      refine q.trans (List.map_congr_left fun x hx => ?_)
      obtain ⟨hx1, hx2⟩ := List.mem_filter.mp hx
      obtain ⟨sp, h1, h2, h3⟩ := wf.string_len gd (real_of_has (has_iff.mpr ⟨x.2, hx1⟩))
      have hxn : x.1 ≠ n := by simpa using hx2
      have q2 := w3.string_of gd (h1.without hp hxn) h2
      rw [h3, q2]
    · have h := et x (List.mem_filter.mp hx).1
      rw [upd_ne (ne_of h e3 (fun z => nomatch z)), upd_ne (ne_of h e4 (fun z => nomatch z)), upd_ne (ne_of h e1 (fun z => nomatch z)), upd_ne (ne_of h e2 (fun z => nomatch z))]
      exact h
    · have hw := fun q => heirs_without (t := t) (n := t.next) (q := q) wf.keys hn
      refine eh.put (t := t) hm.2 _ ?_ fun q hq => ?_
      · have := hw m
        rw [if_pos rfl] at this
        omega
      · have := hw q
        rw [if_neg (Ne.symm hq)] at this
        omega
def spGoOn (C : Addr) : Sp := fun vs H Q _ => ∃ (G : Hp) (p : Addr) (z : Sizes) (t : Tree), vs = [.ref p] ∧ Same G H ∧ TreeAt C G H p z t ∧ (∃ L, (FIRST ≤ L ∧ L < z.codes) ∧ t.parent L = false) ∧
  ∀ H', Same G H' → TreeAt C G H' p z (goOn z z.codes t) → Q .non H'
theorem ok_goOn (T : PT K mg) : FnOk P w K mg base CX0 2 T.tree.go_on_.f T.tree.go_on_.fd ["self"] (spGoOn T.tree.C) := by
  refine T.tree.go_on_.F.ok scTree_go_on (fun vs H Q E h => ?_) (fun cdv A outer s H vs Q E hr h => ?_)
  · obtain ⟨G, p, z, t, rfl, _⟩ := h
    rfl
  · obtain ⟨G, p, z, t, rfl, sG, TA, ⟨L, hL, pL⟩, k⟩ := h
    obtain ⟨⟨dx, a1, a2, a3, a4, g, D, e0, e1, e2, e3, e4, et, eh, d1, d2, d3, g0, g1, g2, g3, g4⟩, wf, gd⟩ := id TA
    have hu := hu_of hr
    have cl := T.tree.cl
    refine ⟨_, pss_cons (ps_set (i := 1) scTree_go_on.nd rfl (Or.inl rfl) (pe_meth (pv 0) cl T.tree.m_number_behind (ok_behind T) hr T.tree.number_behind_.b .nil pass0 (pa_cons (pe_fld (pv 0) rfl) pa_nil)))
      (pss_cons (ps_while PassesOwn.never (pt_cmpR op_gt (pe_dget2 hu (pe_fld (pv 0) rfl) (pv 1) pe_int ⟨rfl, rfl, rfl, rfl⟩) pe_int (nomark _))
        (pss_one (ps_set (i := 1) scTree_go_on.nd rfl (Or.inl rfl) (pe_meth (pv 0) cl T.tree.m_number_behind (ok_behind T) hr T.tree.number_behind_.b .nil pass0 (pa_cons (pv 1) pa_nil)))))
      (pss_cons (ps_if (pt_cmp (pc_din hu (pv 1) (pe_fld (pv 0) rfl))) (pss_one (ps_expr (pe_meth (pv 0) cl T.tree.m_take_out (ok_takeOut T) hr T.tree.take_out_.b .nil pass0 (pa_cons (pv 1) pa_nil)))) pss_nil)
      (pss_one (ps_fld (pv 0) (pv 1) rfl)))), ?_⟩
    -- node = self.number_behind(self.next_node)
    refine ⟨_, rfl, p, dx, _, rfl, e0, tfn_number_behind, _, rfl, p, _, dx, _, _, rfl, e0, cl, T.tree.n_next_node, tf_next_node, G, p, z, t, t.next, rfl, TA, wf.nxt.2, ?_⟩
    -- while
    refine ⟨fun m σ H' => ∃ j f : Nat, σ = [some (.ref p), some (.int (j : Int))] ∧ H = H' ∧ Seek z t L j f ∧ f = m, ⟨_, after z t.next, z.codes - 1, rfl, rfl, Seek.start gd wf hL, rfl⟩, ?_⟩
    rintro m σ H' ⟨j, f, rfl, rfl, sk, rfl⟩
    have hv := eh.val j
    refine ⟨_, rfl, p, _, dx, _, _, rfl, e0, cl, T.tree.n_heirs, tf_heirs, a3, rfl, .inl ⟨_, Rd.of e3⟩, _, rfl, _, DGet.k (k := Sum.inl (j : Int)) e3, _, _, hv, rfl, _, rfl, ?_⟩
    refine ite2 (fun c => ?_) (fun c => ?_)
    · have c : (0 : Int) < (heirs t j : Int) := of_decide_eq_true c
      have pj : t.parent j = true := by
        rw [heirs_parent]
        exact decide_eq_true (by omega)
      obtain ⟨f1, sk'⟩ := sk.past gd wf hL pL pj
      refine ⟨fun σ' H' => ∃ j f' : Nat, f' < f ∧ σ' = [some (.ref p), some (.int (j : Int))] ∧ H = H' ∧ Seek z t L j f', fun σ' H' ⟨j', f', hf, e1, e2, e3⟩ => ⟨f', hf, j', f', e1, e2, e3, rfl⟩, ?_⟩
      exact ⟨_, rfl, p, dx, _, rfl, e0, tfn_number_behind, _, rfl, G, p, z, t, j, rfl, TA, sk.rng.2, _, f - 1, by omega, rfl, rfl, sk'⟩
    · have c : ¬ (0 : Int) < (heirs t j : Int) := fun q => c (decide_eq_true q)
      have pj : t.parent j = false := by
        rw [heirs_parent]
        exact decide_eq_false (by omega)
      have eg := sk.here pj
      rw [eg] at k
      -- if node in self.ends
      refine ⟨_, rfl, _, rfl, p, _, dx, _, _, rfl, e0, cl, T.tree.n_ends, tf_ends, a2, _, rfl, DGet.k (k := Sum.inl (j : Int)) e2, _, rfl, ?_⟩
      rw [ends_has]
      have last : ∀ (H1 : Hp) (u : Tree), Same G H1 → TreeAt T.tree.C G H1 p z u → u.nodes = (t.nodes.filter fun x => x.1 != j) → ∃ v, ([some (V.ref p), some (V.int (j : Int))] : L2.St)[1]? = some (some v) ∧ ∃ v2, ([some (V.ref p), some (V.int (j : Int))] : L2.St)[0]? = some (some v2) ∧ ∃ a C dx fs, v2 = V.ref a ∧ H1 a = some (.ins C dx fs) ∧ Cls K C ∧ NoAttr K C "next_node" ∧ fs.length < 1000 ∧ Q .non (upd H1 a (.ins C dx (putF "next_node" v fs))) := by
        rintro H1 u s1 ⟨⟨dx', b1, b2, b3, b4, g', D', f0, f1, f2, f3, f4, ft, fh, c1, c2, c3, i0, i1, i2, i3, i4⟩, wf', _⟩ eu
        refine ⟨_, rfl, _, rfl, p, _, dx', _, rfl, f0, cl, T.tree.n_next_node, (by rw [tf_len]; decide), ?_⟩
        rw [tfp_next_node]
        have wj := wf'.moved (k := j) sk.rng
        have eu2 : ({ u with next := j } : Tree) = ⟨t.nodes.filter fun x => x.1 != j, j⟩ := by rw [← eu]
        refine k _ (same_put s1 i0) ?_
        rw [← eu2]
        refine ⟨⟨dx', b1, b2, b3, b4, g', D', upd_same, ?_, ?_, ?_, ?_, fun x hx => ?_, ⟨fh.nd, fh.rng, fh.val⟩, c1, c2, c3, i0, i1, i2, i3, i4⟩, wj, gd⟩
        · rw [upd_ne (ne_of f1 f0 (fun z => nomatch z))]; exact f1
        · rw [upd_ne (ne_of f2 f0 (fun z => nomatch z))]; exact f2
        · rw [upd_ne (ne_of f3 f0 (fun z => nomatch z))]; exact f3
        · rw [upd_ne (ne_of f4 f0 (fun z => nomatch z)), lens_next]; exact f4
        · rw [upd_ne (ne_of (ft x hx) f0 (fun z => nomatch z))]; exact ft x hx
      cases hh : t.has j with
      | true =>
        refine iteT ?_
        obtain ⟨⟨m, b⟩, hmb⟩ := has_iff.mp hh
        refine ⟨_, rfl, p, dx, _, rfl, e0, tfn_take_out, _, rfl, G, p, z, t, j, m, b, rfl, sG, TA, hmb, pj, fun H1 s1 TA1 => ?_⟩
        exact last H1 _ s1 TA1 rfl
      | false =>
        refine iteF ?_
        exact last H t sG TA (without_none hh).symm
end
end SL
namespace SL
open PySem hiding Tree
open L2 Sl Ql65
section
variable {P : Program} {w : World} {K : PySem.W.Frag} {mg : Str → Option Value} {base : Heap}
/-- the tree behind a string added, if it is -/
def addT (z : Sizes) (t : Tree) (n b : Nat) : Tree := if adds z t n b = true then t.add z n b else t
def addN (z : Sizes) (t : Tree) (n b : Nat) : Option Nat := if adds z t n b = true then some t.next else none
theorem adds_eq {z : Sizes} {t : Tree} {n b : Nat} : adds z t n b = ((t.child n b).isNone && decide ((t.string n).length < z.longest)) := rfl
theorem next_new {z : Sizes} {t : Tree} (w : Wf z t) : valV (lensD t) (Sum.inl (t.next : Int)) = none ∧ ∀ g, valV (endsD t g) (Sum.inl (t.next : Int)) = none := by
  have : t.nodes.find? (fun x => x.1 == t.next) = none := by
    rw [List.find?_eq_none]
    intro x hx e
    have e' : x.1 = t.next := by simpa using e
    have := has_iff.mpr ⟨x.2, (by rw [← e']; exact hx : (t.next, x.2) ∈ t.nodes)⟩
    rw [w.free] at this
    cases this
  exact ⟨by rw [val_lens, this]; rfl, fun g => by rw [val_ends, this]; rfl⟩
def spAdd (C : Addr) : Sp := fun vs H Q _ => ∃ (G : Hp) (p : Addr) (z : Sizes) (t : Tree) (n b : Nat), vs = [.ref p, .int n, .int b] ∧ Same G H ∧ TreeAt C G H p z t ∧ Wf z t ∧ Ql65.real t n = true ∧ b < 256 ∧
  ∀ H', Same G H' → TreeAt C G H' p z (addT z t n b) → Q (oV (addN z t n b)) H'
theorem ok_add (T : PT K mg) : FnOk P w K mg base CX0 3 T.tree.add_.f T.tree.add_.fd ["self", "number", "byte"] (spAdd T.tree.C) := by
  refine T.tree.add_.F.ok scTree_add (fun vs H Q E h => ?_) (fun cdv A outer s H vs Q E hr h => ?_)
  · obtain ⟨G, p, z, t, n, b, rfl, _⟩ := h
    rfl
  · obtain ⟨G, p, z, t, n, b, rfl, sG, TA, wt, hn, hb, k⟩ := h
    have hu := hu_of hr
    have cl := T.tree.cl
    have hr1 : Room 1 _ := hr.mono (by decide)
    refine ⟨_, pss_cons (ps_if (pw_or (pt_cmp (pc_notN (pe_meth (pv 0) cl T.tree.m_find (ok_find T) hr1 T.tree.find_.b .nil pass0 (pa_cons (pv 1) (pa_cons (pv 2) pa_nil)))))
        (pw_or1 (pt_cmpR op_ge (pe_meth (pv 0) cl T.tree.m_length_of (ok_len T) hr1 T.tree.length_of_.b .nil pass0 (pa_cons (pv 1) pa_nil)) (pe_fld (pv 0) rfl) (nomark _)))).pt (pss_one (ps_ret pe_non)) pss_nil)
      (pss_cons (ps_set (i := 3) scTree_add.nd rfl (Or.inl rfl) (pe_fld (pv 0) rfl))
      (pss_cons (ps_dput hu (pe_fld (pv 0) rfl) (pe_tup (pa_cons (pv 1) (pa_cons (pv 2) pa_nil))) (pv 3) rfl)
      (pss_cons (ps_dput hu (pe_fld (pv 0) rfl) (pv 3) (pe_tup (pa_cons (pv 1) (pa_cons (pv 2) pa_nil))) rfl)
      (pss_cons (ps_dput hu (pe_fld (pv 0) rfl) (pv 1) (pe_op op_add (pe_dget2 hu (pe_fld (pv 0) rfl) (pv 1) pe_int ⟨rfl, rfl, rfl, rfl⟩) pe_int) rfl)
      (pss_cons (ps_dput hu (pe_fld (pv 0) rfl) (pv 3) (pe_op op_add (pe_meth (pv 0) cl T.tree.m_length_of (ok_len T) hr1 T.tree.length_of_.b .nil pass0 (pa_cons (pv 1) pa_nil)) pe_int) rfl)
      (pss_cons (ps_expr (pe_meth0 (pv 0) cl T.tree.m_go_on (ok_goOn T) hr T.tree.go_on_.b .nil pass0))
      (pss_one (ps_ret (pv 3))))))))), ?_⟩
    obtain ⟨⟨dx, a1, a2, a3, a4, g, D, e0, e1, e2, e3, e4, et, eh, d1, d2, d3, g0, g1, g2, g3, g4⟩, wf, gd⟩ := id TA
    have hrl := real_lt wf gd hn
    -- if self.find(number, byte) is not None
    refine ⟨_, rfl, p, dx, _, rfl, e0, tfn_find, _, rfl, _, rfl, G, p, z, t, n, b, rfl, TA, fun H1 s1 => ⟨_, rfl, ?_⟩⟩
    have none_ : addT z t n b = t → addN z t n b = none → ∀ H1, Same H H1 → Q .non H1 := fun q1 q2 H1 s1 => by
      have := k H1 (sG.trans s1) (by rw [q1]; exact TA.kept s1)
      rw [q2] at this
      exact this
    cases hc : t.child n b with
    | some c =>
      have na : adds z t n b = false := by
        rw [adds_eq, hc]
        rfl
      refine iteT (iteT ?_)
      exact none_ (by unfold addT; rw [na]; rfl) (by unfold addN; rw [na]; rfl) H1 s1
    | none =>
      refine iteF ?_
      refine ⟨_, rfl, p, dx, _, rfl, s1 _ _ e0, tfn_length_of, _, rfl, p, dx, _, _, _, a1, a2, a3, a4, _, n, _, rfl, s1 _ _ e0, s1 _ _ e4, lens_get wf gd hn, _, rfl, p, _, dx, _, _, rfl, s1 _ _ e0, cl, T.tree.n_longest, tf_longest, _, _, rfl, rfl, _, rfl, ?_⟩
      refine ite2 (fun c => ?_) (fun c => ?_)
      · have c : (z.longest : Int) ≤ ((t.string n).length : Int) := of_decide_eq_true c
        have na : adds z t n b = false := by
          rw [adds_eq, hc, decide_eq_false (by omega)]
          rfl
        exact none_ (by unfold addT; rw [na]; rfl) (by unfold addN; rw [na]; rfl) H1 s1
      · have c : ¬ (z.longest : Int) ≤ ((t.string n).length : Int) := fun q => c (decide_eq_true q)
        have ha : adds z t n b = true := by
          rw [adds_eq, hc, decide_eq_true (by omega)]
          rfl
        obtain ⟨w1, hleaf, eadd⟩ := wt.added gd hn hb ha
        have sG1 : Same G H1 := sG.trans s1
        obtain ⟨nl, nE⟩ := next_new wt
        have p1 : p ≠ a1 := ne_of e0 e1 (fun z => nomatch z)
        have p2 : p ≠ a2 := ne_of e0 e2 (fun z => nomatch z)
        have p3 : p ≠ a3 := ne_of e0 e3 (fun z => nomatch z)
        have p4 : p ≠ a4 := ne_of e0 e4 (fun z => nomatch z)
        have e12 : a1 ≠ a2 := ne_of e1 e2 (fun z => nomatch z)
        have e13 : a1 ≠ a3 := ne_of e1 e3 (fun z => nomatch z)
        have e14 : a1 ≠ a4 := ne_of e1 e4 (fun z => nomatch z)
        have lenN : t.nodes.length ≤ z.codes := nodes_len wf
        -- node = self.next_node
        refine ⟨_, rfl, p, _, dx, _, _, rfl, s1 _ _ e0, cl, T.tree.n_next_node, tf_next_node, ?_⟩
        -- self.nodes[number, byte] = node
        refine ⟨_, rfl, _, rfl, p, _, dx, _, _, rfl, s1 _ _ e0, cl, T.tree.n_nodes, tf_nodes, _, rfl, _, rfl, (by show 2 ≤ sizeLine; decide), fun x1 hx1 => ⟨a1, _, rfl, DPut.t (k := pk (n, b)) ((same_upd hx1) _ _ (s1 _ _ e1)) upd_same (by unfold nodesD; rw [List.length_map]; exact small_codes gd lenN), ?_⟩⟩
        have vN : valV (nodesD t) (pk (n, b)) = none := by rw [val_nodes, hc]; rfl
        rw [putK_new _ vN]
        have gx1 : G x1 = none := free' hx1 sG1
        have sG2 : Same G (upd (upd H1 x1 (.tup [.int (n : Int), .int (b : Int)])) a1 (.dT (nodesD t ++ [(pk (n, b), .int (t.next : Int))]))) := same_put (same_put sG1 gx1) g1
        have k1 : ∀ c o, H1 c = some o → c ≠ a1 → (upd (upd H1 x1 (.tup [.int (n : Int), .int (b : Int)])) a1 (.dT (nodesD t ++ [(pk (n, b), .int (t.next : Int))]))) c = some o := fun c o e h => by
          rw [upd_ne h, upd_ne (ne_of_none e hx1)]
          exact e
        generalize hH2 : (upd (upd H1 x1 (.tup [.int (n : Int), .int (b : Int)])) a1 (.dT (nodesD t ++ [(pk (n, b), .int (t.next : Int))]))) = H2 at sG2 k1 ⊢
        have n2 : H2 a1 = some (.dT (nodesD t ++ [(pk (n, b), .int (t.next : Int))])) := by rw [← hH2, upd_same]
        -- self.ends[node] = (number, byte)
        refine ⟨_, rfl, _, rfl, (by show 2 ≤ sizeLine; decide), fun x2 hx2 => ⟨_, rfl, p, _, dx, _, _, rfl, (same_upd hx2) _ _ (k1 _ _ (s1 _ _ e0) p1), cl, T.tree.n_ends, tf_ends, _, rfl, a2, _, rfl, DPut.k (k := Sum.inl (t.next : Int)) ((same_upd hx2) _ _ (k1 _ _ (s1 _ _ e2) e12.symm)) (by unfold endsD; rw [List.length_map]; exact small_codes gd lenN), ?_⟩⟩
        rw [putK_new _ (nE g)]
        have gx2 : G x2 = none := free' hx2 sG2
        have sG3 : Same G (upd (upd H2 x2 (.tup [.int (n : Int), .int (b : Int)])) a2 (.dK (endsD t g ++ [(Sum.inl (t.next : Int), .ref x2)]))) := same_put (same_put sG2 gx2) g2
        have k2 : ∀ c o, H2 c = some o → c ≠ a2 → (upd (upd H2 x2 (.tup [.int (n : Int), .int (b : Int)])) a2 (.dK (endsD t g ++ [(Sum.inl (t.next : Int), .ref x2)]))) c = some o := fun c o e h => by
          rw [upd_ne h, upd_ne (ne_of_none e hx2)]
          exact e
        have x2a : x2 ≠ a2 := ne_of_none (k1 _ _ (s1 _ _ e2) e12.symm) hx2 |>.symm
        generalize hH3 : (upd (upd H2 x2 (.tup [.int (n : Int), .int (b : Int)])) a2 (.dK (endsD t g ++ [(Sum.inl (t.next : Int), .ref x2)]))) = H3 at sG3 k2 ⊢
        have n3 : H3 a2 = some (.dK (endsD t g ++ [(Sum.inl (t.next : Int), .ref x2)])) := by rw [← hH3, upd_same]
        have t3 : H3 x2 = some (.tup [.int (n : Int), .int (b : Int)]) := by rw [← hH3, upd_ne x2a, upd_same]
        have q3 : ∀ c o, H1 c = some o → c ≠ a1 → c ≠ a2 → H3 c = some o := fun c o e h h' => k2 c o (k1 c o e h) h'
        have m3 := q3 _ _ (s1 _ _ e3) e13.symm d1.symm
        have m4 := q3 _ _ (s1 _ _ e4) e14.symm d2.symm
        have m0 := q3 _ _ (s1 _ _ e0) p1 p2
        have mN := k2 _ _ n2 e12
        -- self.heirs[number] = self.heirs.get(number, 0) + 1
        refine ⟨_, rfl, p, _, dx, _, _, rfl, m0, cl, T.tree.n_heirs, tf_heirs, a3, rfl, .inl ⟨_, Rd.of m3⟩, _, rfl, _, DGet.k (k := Sum.inl (n : Int)) m3, _, _, eh.val n, rfl, _, rfl, p, _, dx, _, _, rfl, m0, cl, T.tree.n_heirs, tf_heirs, _, rfl, a3, _, rfl, DPut.k (k := Sum.inl (n : Int)) m3 (small_codes gd eh.len), ?_⟩
        have a4' : a4 ≠ a3 := d3.symm
        -- self.lengths[node] = self.length_of(number) + 1
        refine ⟨_, rfl, p, dx, _, rfl, (by rw [upd_ne p3]; exact m0), tfn_length_of, _, rfl, p, dx, _, _, _, a1, a2, a3, a4, _, n, _, rfl, (by rw [upd_ne p3]; exact m0), (by rw [upd_ne a4']; exact m4), lens_get wf gd hn, _, _, rfl, rfl,
          _, rfl, p, _, dx, _, _, rfl, (by rw [upd_ne p3]; exact m0), cl, T.tree.n_lengths, tf_lengths, _, rfl, a4, _, rfl, DPut.k (k := Sum.inl (t.next : Int)) (by rw [upd_ne a4']; exact m4) (by unfold lensD; rw [List.length_map]; exact small_codes gd lenN), ?_⟩
        rw [putK_new _ nl]
        have gd2 : Good z := gd
        have sN := wt.string_new gd w1 hn
        refine ⟨_, rfl, p, dx, _, rfl, (by rw [upd_ne p4, upd_ne p3]; exact m0), tfn_go_on, G, p, z, grown t n b, rfl, same_put (same_put sG3 g3) g4, ⟨⟨dx, a1, a2, a3, a4, fun j => if j = t.next then x2 else g j, _, ?_, ?_, ?_, (by rw [upd_ne d3]; exact upd_same), ?_, fun x hx => ?_, ?_, d1, d2, d3, g0, g1, g2, g3, g4⟩, w1, gd⟩, hleaf, fun H4 s4 TA4 => ?_⟩
        · rw [upd_ne p4, upd_ne p3]
          exact m0
        · rw [upd_ne e14, upd_ne e13, mN]
          unfold nodesD grown
          rw [List.map_append]
          rfl
        · rw [upd_ne d2, upd_ne d1, n3]
          unfold endsD grown
          rw [List.map_append]
          refine congrArg (fun l => some (HO.dK l)) ?_
          congr 1
          · refine List.map_congr_left fun x hx => ?_
            have : x.1 ≠ t.next := fun q => by
              have := has_iff.mpr ⟨x.2, (by rw [← q]; exact hx : (t.next, x.2) ∈ t.nodes)⟩
              rw [wt.free] at this
              cases this
            show ((Sum.inl (x.1 : Int) : Key), V.ref (g x.1)) = ((Sum.inl (x.1 : Int) : Key), V.ref (if x.1 = t.next then x2 else g x.1))
            rw [if_neg this]
          · show [((Sum.inl (t.next : Int) : Key), V.ref x2)] = [((Sum.inl (t.next : Int) : Key), V.ref (if t.next = t.next then x2 else g t.next))]
            rw [if_pos rfl]
        · rw [upd_same]
          refine congrArg (fun l => some (HO.dK l)) ?_
          show _ = (t.nodes ++ [(t.next, (n, b))]).map fun x => ((Sum.inl (x.1 : Int) : Key), V.int (((grown t n b).string x.1).length : Int))
          rw [List.map_append]
          congr 1
          · refine List.map_congr_left fun x hx => ?_
            rw [wt.string_more gd w1 (real_of_has (has_iff.mpr ⟨x.2, hx⟩))]
          · show [((Sum.inl (t.next : Int) : Key), V.int (((t.string n).length : Int) + 1))] = [((Sum.inl (t.next : Int) : Key), V.int (((grown t n b).string t.next).length : Int))]
            rw [sN, List.length_append]
            rfl
        · rcases List.mem_append.mp hx with hx | hx
          · have h := et x hx
            have hne : x.1 ≠ t.next := fun q => by
              have := has_iff.mpr ⟨x.2, (by rw [← q]; exact hx : (t.next, x.2) ∈ t.nodes)⟩
              rw [wt.free] at this
              cases this
            show upd _ a4 _ (if x.1 = t.next then x2 else g x.1) = _
            rw [if_neg hne]
            have h1 := s1 _ _ h
            rw [upd_ne (ne_of h e4 (fun z => nomatch z)), upd_ne (ne_of h e3 (fun z => nomatch z))]
            exact q3 _ _ h1 (ne_of h e1 (fun z => nomatch z)) (ne_of h e2 (fun z => nomatch z))
          · have : x = (t.next, (n, b)) := by simpa using hx
            subst this
            show upd _ a4 _ (if t.next = t.next then x2 else g t.next) = _
            rw [if_pos rfl, upd_ne (ne_of t3 m4 (fun z => nomatch z)), upd_ne (ne_of t3 m3 (fun z => nomatch z))]
            exact t3
        · refine eh.put (t := t) hrl.2 _ ?_ fun q hq => ?_
          · rw [heirs_more, if_pos rfl]
            rfl
          · rw [heirs_more, if_neg (Ne.symm hq)]
            rfl
        · -- return node
          have e5 : addT z t n b = goOn z z.codes (grown t n b) := by
            unfold addT
            rw [ha]
            exact eadd
          have e6 : addN z t n b = some t.next := by
            unfold addN
            rw [ha]
            rfl
          have := k H4 s4 (by rw [e5]; exact TA4)
          rw [e6] at this
          exact ⟨_, rfl, this⟩
/-! a string's bytes -/
def spBytes (C : Addr) : Sp := fun vs H Q _ => ∃ (G : Hp) (p : Addr) (z : Sizes) (t : Tree) (n : Nat), vs = [.ref p, .int n] ∧ TreeAt C G H p z t ∧ Ql65.real t n = true ∧ ∀ l H', Same H H' → H l = none → H' l = some (.lst (nV (t.string n))) → Q (.ref l) H'
theorem ok_bytes (T : PT K mg) : FnOk P w K mg base CX0 1 T.tree.bytes_of_.f T.tree.bytes_of_.fd ["self", "number"] (spBytes T.tree.C) := by
  refine T.tree.bytes_of_.F.ok scTree_bytes_of (fun vs H Q E h => ?_) (fun cdv A outer s H vs Q E hr h => ?_)
  · obtain ⟨G, p, z, t, n, rfl, _⟩ := h
    rfl
  · obtain ⟨G, p, z, t, n, rfl, ⟨⟨dx, a1, a2, a3, a4, g, D, e0, e1, e2, e3, e4, et, eh, d1, d2, d3, g0, g1, g2, g3, g4⟩, wf, gd⟩, hn, k⟩ := h
    have hu := hu_of hr
    have cl := T.tree.cl
    refine ⟨_, pss_cons (ps_set (i := 2) scTree_bytes_of.nd rfl (Or.inl rfl) (pe_lst pa_nil))
      (pss_cons (ps_while PassesOwn.never (pt_cmp (pc_din hu (pv 1) (pe_fld (pv 0) rfl)))
        (pss_cons (ps_set (i := 3) scTree_bytes_of.nd rfl (Or.inl rfl) (pe_dget hu (pe_fld (pv 0) rfl) (pv 1) (fun _ _ => rfl)))
        (pss_cons (ps_expr (pe_bm PySem.F.plainAttrs_list PySem.F.slot_list_append PySem.F.type_list_append mt_append (pv 2) (pa_cons (pe_ix ix_tup (pv 3) pe_int (fun _ _ => rfl)) pa_nil)))
        (pss_one (ps_set (i := 1) scTree_bytes_of.nd rfl (Or.inl rfl) (pe_ix ix_tup (pv 3) pe_int (fun _ _ => rfl)))))))
      (pss_cons (ps_expr (pe_bm PySem.F.plainAttrs_list PySem.F.slot_list_append PySem.F.type_list_append mt_append (pv 2) (pa_cons (pe_op op_sub (pv 1) (pe_gi T.g_FIRST_BYTE)) pa_nil)))
      (pss_cons (ps_expr (pe_bm0 PySem.F.plainAttrs_list PySem.F.slot_list_reverse PySem.F.type_list_reverse mt_reverse (pv 2)))
      (pss_one (ps_ret (pv 2)))))), ?_⟩
    refine ⟨(by show 0 ≤ sizeLine; decide), fun l hl => ?_⟩
    refine ⟨fun m σ H' => ∃ (j : Nat) (acc : List Nat) (v : Option V), σ = [some (.ref p), some (.int (j : Int)), some (.ref l), v] ∧ Same H H' ∧ H' l = some (.lst (nV acc)) ∧ Ql65.real t j = true ∧ t.string n = t.string j ++ acc.reverse ∧ (t.string j).length = m, ⟨_, n, [], none, rfl, same_upd hl, upd_same, hn, (by simp), rfl⟩, ?_⟩
    rintro m σ H' ⟨j, acc, v, rfl, sH, hL, hj, es, rfl⟩
    obtain ⟨sp, h1, h2, h3⟩ := wf.string_len gd hn
    have bound : acc.length ≤ 250 := by
      have := congrArg List.length es
      rw [h3, List.length_append, List.length_reverse] at this
      have := gd.l2
      omega
    have room : (nV acc).length < sizeLine := by rw [nV_len]; exact small1000 (by omega)
    refine ⟨_, rfl, _, rfl, p, _, dx, _, _, rfl, sH _ _ e0, cl, T.tree.n_ends, tf_ends, a2, _, rfl, DGet.k (k := Sum.inl (j : Int)) (sH _ _ e2), _, rfl, ?_⟩
    rw [ends_has]
    cases hh : t.has j with
    | true =>
      refine iteT ?_
      obtain ⟨⟨q, b⟩, hqb⟩ := has_iff.mp hh
      obtain ⟨sj, rq⟩ := wf.string_node gd hqb
      have vj : valV (endsD t g) (Sum.inl (j : Int)) = some (.ref (g j)) := by rw [val_ends, find_key wf.keys hqb]; rfl
      have tj := sH _ _ (et _ hqb)
      have lj : g j ≠ l := ne_of tj hL (fun z => nomatch z)
      refine ⟨fun σ' H'' => ∃ (j' : Nat) (acc : List Nat) (v : Option V), σ' = [some (.ref p), some (.int (j' : Int)), some (.ref l), v] ∧ Same H H'' ∧ H'' l = some (.lst (nV acc)) ∧ Ql65.real t j' = true ∧ t.string n = t.string j' ++ acc.reverse ∧ (t.string j').length < (t.string j).length,
        fun σ' H'' ⟨j', acc, v, b1, b2, b3, b4, b5, b6⟩ => ⟨_, b6, j', acc, v, b1, b2, b3, b4, b5, rfl⟩, ?_⟩
      refine ⟨_, rfl, p, _, dx, _, _, rfl, sH _ _ e0, cl, T.tree.n_ends, tf_ends, _, rfl, a2, _, rfl, vj ▸ DGet.k (k := Sum.inl (j : Int)) (sH _ _ e2), ?_⟩
      refine ⟨_, rfl, .inl ⟨rfl, _, SqL.of hL⟩, _, rfl, _, _, _, _, rfl, rfl, SqT.of tj, atI_nat (j := 1) rfl, l, _, _, rfl, rfl, hL, room, ?_⟩
      refine ⟨_, rfl, _, _, _, _, rfl, rfl, SqT.of (by rw [upd_ne lj]; exact tj), atI_nat (j := 0) rfl, ?_⟩
      refine ⟨q, acc ++ [b], _, rfl, same_put sH hl, ?_, rq, ?_, ?_⟩
      · rw [upd_same, nV_app]
        rfl
      · rw [es, sj]
        simp
      · rw [sj, List.length_append]
        exact Nat.lt_succ_self _
    | false =>
      refine iteF ?_
      have hf : FIRST = 259 := rfl
      have hb : 3 ≤ j ∧ j < FIRST := by
        have h' : (decide (3 ≤ j ∧ j < FIRST) || t.has j) = true := hj
        rw [hh, Bool.or_false] at h'
        exact of_decide_eq_true h'
      refine ⟨_, rfl, .inl ⟨rfl, _, SqL.of hL⟩, _, rfl, _, _, rfl, rfl, l, _, _, rfl, rfl, hL, room, ?_⟩
      refine ⟨_, rfl, .inl ⟨rfl, _, SqL.of upd_same⟩, l, _, rfl, rfl, upd_same, ?_⟩
      refine ⟨_, rfl, k l _ (same_put (same_put sH hl) hl) hl ?_⟩
      rw [upd_same]
      refine congrArg (fun x => some (HO.lst x)) ?_
      have ej : ((j : Int) - 3) = ((j - 3 : Nat) : Int) := by omega
      rw [es, string_byte hb.2]
      show (nV acc ++ [V.int ((j : Int) - 3)]).reverse = nV _
      rw [ej]
      show (nV acc ++ nV [j - 3]).reverse = nV _
      rw [← nV_app, nV_rev, List.reverse_append]
      rfl
end
end SL
namespace SL
open PySem hiding Tree
open L2 Sl Ql65
/-! packer and unpacker -/
structure PackAt (C : Addr) (G H : Hp) (p : Addr) (o : List Nat) (l : List Bool) : Prop where
  ex : ∃ dx a : Addr, H p = some (.ins C dx (pfF a (valueOf l) l.length)) ∧ H a = some (.lst (nV o)) ∧ G p = none ∧ G a = none
structure UnpAt (C : Addr) (G H : Hp) (p : Addr) (l : List Bool) : Prop where
  ex : ∃ dx : Addr, H p = some (.ins C dx (ufF (valueOf l) l.length)) ∧ G p = none
section
variable {C p : Addr} {G G' H H' : Hp} {o : List Nat} {l : List Bool}
theorem PackAt.kept (x : PackAt C G H p o l) (s : Same H H') : PackAt C G H' p o l := by
  obtain ⟨dx, a, h0, h1, h2⟩ := x
  exact ⟨dx, a, s _ _ h0, s _ _ h1, h2⟩
theorem PackAt.less (x : PackAt C G H p o l) (s : Same G' G) : PackAt C G' H p o l := by
  obtain ⟨dx, a, h0, h1, h2, h3⟩ := x
  exact ⟨dx, a, h0, h1, s.free h2, s.free h3⟩
theorem PackAt.own (x : PackAt C G H p o l) (s : Same G H) : ∃ S, Same G (mask H S) ∧ PackAt C (mask H S) H p o l ∧ ∀ b, b ∈ S → (∃ l, H b = some (.lst l)) ∨ ∃ dx a r n, H b = some (.ins C dx (pfF a r n)) := by
  obtain ⟨dx, a, h0, h1, g0, g1⟩ := x
  refine ⟨[p, a], same_mask s fun b hb => ?_, ⟨dx, a, h0, h1, mask_in (by simp), mask_in (by simp)⟩, fun b hb => ?_⟩
  · simp at hb
    rcases hb with rfl | rfl <;> assumption
  · simp at hb
    rcases hb with rfl | rfl
    · exact .inr ⟨_, _, _, _, h0⟩
    · exact .inl ⟨_, h1⟩
theorem UnpAt.kept (x : UnpAt C G H p l) (s : Same H H') : UnpAt C G H' p l := by
  obtain ⟨dx, h0, h1⟩ := x
  exact ⟨dx, s _ _ h0, h1⟩
theorem UnpAt.less (x : UnpAt C G H p l) (s : Same G' G) : UnpAt C G' H p l := by
  obtain ⟨dx, h0, h1⟩ := x
  exact ⟨dx, h0, s.free h1⟩
end
section
variable {P : Program} {w : World} {K : PySem.W.Frag} {mg : Str → Option Value} {base : Heap}
def spPackInit (C : Addr) : Sp := fun vs H Q _ => ∃ (G : Hp) (p dx : Addr), vs = [.ref p] ∧ H p = some (.ins C dx []) ∧ Same G H ∧ G p = none ∧ ∀ H', Same G H' → PackAt C G H' p [] [] → Q .non H'
theorem ok_packInit (T : PT K mg) : FnOk P w K mg base CX0 1 T.packer.init_.f T.packer.init_.fd ["self"] (spPackInit T.packer.C) := by
  refine T.packer.init_.F.ok scPacker_init (fun vs H Q E h => ?_) (fun cdv A outer s H vs Q E hr h => ?_)
  · obtain ⟨G, p, dx, rfl, _⟩ := h
    rfl
  · obtain ⟨G, p, dx, rfl, hp, sG, gp, k⟩ := h
    have cl := T.packer.cl
    refine ⟨_, pss_cons (ps_fld (pv 0) (pe_lst pa_nil) rfl) (pss_cons (ps_fld (pv 0) pe_int rfl) (pss_one (ps_fld (pv 0) pe_int rfl))), ?_⟩
    refine ⟨(by show 0 ≤ sizeLine; decide), fun a ha => ?_⟩
    have pa : p ≠ a := ne_of_none hp ha
    have ga : G a = none := free' ha sG
    refine ⟨_, rfl, p, _, dx, _, rfl, (by rw [upd_ne pa]; exact hp), cl, T.packer.n_octets, (by show 0 < 1000; decide), ?_⟩
    refine ⟨_, rfl, p, _, dx, _, rfl, upd_same, cl, T.packer.n_rest, (by show 1 < 1000; decide), ?_⟩
    refine ⟨_, rfl, p, _, dx, _, rfl, upd_same, cl, T.packer.n_rest_bits, (by show 2 < 1000; decide), ?_⟩
    refine k _ (same_put (same_put (same_put (same_put sG ga) gp) gp) gp) ⟨dx, a, ?_, ?_, gp, ga⟩
    · rw [upd_same]
      exact congrArg (fun l => some (HO.ins T.packer.C dx l)) pf_made
    · rw [upd_ne pa.symm, upd_ne pa.symm, upd_ne pa.symm, upd_same]
      rfl
def spPackCopy (C : Addr) : Sp := fun vs H Q _ => ∃ (G : Hp) (p : Addr) (o : List Nat) (l : List Bool), vs = [.ref p] ∧ PackAt C G H p o l ∧ ∀ q H', Same H H' → PackAt C H H' q o l → Q (.ref q) H'
theorem ok_packCopy (T : PT K mg) : FnOk P w K mg base CX0 3 T.packer.copy_.f T.packer.copy_.fd ["self"] (spPackCopy T.packer.C) := by
  refine T.packer.copy_.F.ok scPacker_copy (fun vs H Q E h => ?_) (fun cdv A outer s H vs Q E hr h => ?_)
  · obtain ⟨G, p, o, l, rfl, _⟩ := h
    rfl
  · obtain ⟨G, p, o, l, rfl, ⟨dx, a, e0, e1, g0, g1⟩, k⟩ := h
    have cl := T.packer.cl
    refine ⟨_, pss_cons (ps_set (i := 1) scPacker_copy.nd rfl (Or.inl rfl) (pe_make0 T.packer.mak (ok_packInit T) hr rfl T.packer.at_ T.packer.init_.b .nil pass0))
      (pss_cons (ps_fld (pv 1) (pe_callTy call_list_of rfl T.b_list PyProof.Rows.boot_list (pa_cons (pe_fld (pv 0) rfl) pa_nil)) rfl)
      (pss_cons (ps_fld (pv 1) (pe_fld (pv 0) rfl) rfl)
      (pss_cons (ps_fld (pv 1) (pe_fld (pv 0) rfl) rfl)
      (pss_one (ps_ret (pv 1)))))), ?_⟩
    intro q dq nq ndq nne
    have s0 : Same H (upd (upd H dq (.own q)) q (.ins T.packer.C dq [])) := fun b o e => by
      rw [upd_ne (ne_of_none e nq), upd_ne (ne_of_none e ndq)]
      exact e
    refine ⟨H, q, dq, rfl, upd_same, s0, nq, fun H1 s1 ⟨dy, b, f0, f1, i0, i1⟩ => ⟨rfl, ?_⟩⟩
    refine ⟨_, rfl, p, _, dx, _, _, rfl, s1 _ _ e0, cl, T.packer.n_octets, pf_octets, a, _, rfl, .inl (SqL.of (s1 _ _ e1)), fun c hc => ?_⟩
    have qc : q ≠ c := ne_of_none f0 hc
    refine ⟨_, rfl, q, _, dy, _, rfl, (by rw [upd_ne qc]; exact f0), cl, T.packer.n_octets, (by rw [pf_len]; decide), ?_⟩
    rw [pfp_octets]
    have gc : H c = none := free' hc s1
    have s2 := same_put (o := HO.ins T.packer.C dy (pfF c (valueOf ([] : List Bool)) ([] : List Bool).length)) (same_put (o := HO.lst (nV o)) s1 gc) i0
    refine ⟨_, rfl, p, _, dx, _, _, rfl, s2 _ _ e0, cl, T.packer.n_rest, pf_rest, _, rfl, q, _, dy, _, rfl, upd_same, cl, T.packer.n_rest, (by rw [pf_len]; decide), ?_⟩
    rw [pfp_rest]
    have s3 := same_put (o := HO.ins T.packer.C dy (pfF c (valueOf l) ([] : List Bool).length)) s2 i0
    refine ⟨_, rfl, p, _, dx, _, _, rfl, s3 _ _ e0, cl, T.packer.n_rest_bits, pf_rest_bits, _, rfl, q, _, dy, _, rfl, upd_same, cl, T.packer.n_rest_bits, (by rw [pf_len]; decide), ?_⟩
    rw [pfp_rest_bits]
    refine ⟨_, rfl, k q _ (same_put s3 i0) ⟨dy, c, upd_same, ?_, i0, gc⟩⟩
    rw [upd_ne qc.symm, upd_ne qc.symm, upd_ne qc.symm, upd_same]
theorem cast_mod (n : Nat) : (n : Int) % 256 = ((n % 256 : Nat) : Int) := by omega
theorem cast_div (n : Nat) : (n : Int) / 256 = ((n / 256 : Nat) : Int) := by omega
theorem cast_pow (n k : Nat) : (n : Int) * 2 ^ ((k : Int).toNat) = ((n * 2 ^ k : Nat) : Int) := by
  rw [Int.toNat_natCast]
  exact Bits.natCast_mul_pow n k
def spPush (C : Addr) : Sp := fun vs H Q _ => ∃ (G : Hp) (p : Addr) (o : List Nat) (l : List Bool) (n b : Nat), vs = [.ref p, .int n, .int b] ∧ Same G H ∧ PackAt C G H p o l ∧ n < 2 ^ b ∧ b ≤ 16 ∧ l.length < 8 ∧ o.length + 8 ≤ sizeLine ∧
  ∀ H', Same G H' → PackAt C G H' p (o ++ (pack (l ++ bitsOf b n)).1) (pack (l ++ bitsOf b n)).2 → Q .non H'
theorem ok_push (T : PT K mg) : FnOk P w K mg base CX0 1 T.packer.push_.f T.packer.push_.fd ["self", "number", "bits"] (spPush T.packer.C) := by
  refine T.packer.push_.F.ok scPacker_push (fun vs H Q E h => ?_) (fun cdv A outer s H vs Q E hr h => ?_)
  · obtain ⟨G, p, o, l, n, b, rfl, _⟩ := h
    rfl
  · obtain ⟨G, p, o, l, n, b, rfl, sG, ⟨dx, a, e0, e1, g0, g1⟩, hn, hb, hl, ho, k⟩ := h
    have cl := T.packer.cl
    refine ⟨_, pss_cons (ps_fldaug (pv 0) (pe_op op_shl (pv 1) (pe_fld (pv 0) rfl)) in_add)
      (pss_cons (ps_fldaug (pv 0) (pv 2) in_add)
      (pss_one (ps_while PassesOwn.never (pt_cmpR op_ge (pe_fld (pv 0) rfl) (pe_gi T.g_OCTET_BITS) (nomark _))
        (pss_cons (ps_expr (pe_bm PySem.F.plainAttrs_list PySem.F.slot_list_append PySem.F.type_list_append mt_append (pe_fld (pv 0) rfl) (pa_cons (pe_op op_mod (pe_fld (pv 0) rfl) (pe_gi T.g_OCTET_VALUES)) pa_nil)))
        (pss_cons (ps_fldaug (pv 0) (pe_gi T.g_OCTET_VALUES) (inop_of iop_fdiv))
        (pss_one (ps_fldaug (pv 0) (pe_gi T.g_OCTET_BITS) in_sub))))))), ?_⟩
    have n64 : n < 2 ^ 64 := Nat.lt_of_lt_of_le hn (Nat.pow_le_pow_right (by decide) (by omega))
    refine ⟨_, rfl, p, _, dx, _, _, rfl, e0, cl, T.packer.n_rest, pf_rest, _, rfl, _, rfl, p, _, dx, _, _, rfl, e0, cl, T.packer.n_rest_bits, pf_rest_bits, _, _, rfl, rfl, ⟨by omega, by omega, by rw [Int.natAbs_natCast]; exact n64⟩, _, _, rfl, rfl, dx, _, e0, (by rw [pf_len]; decide), ?_⟩
    rw [pfp_rest]
    have pa : p ≠ a := ne_of e0 e1 (fun z => nomatch z)
    refine ⟨_, rfl, p, _, dx, _, _, rfl, upd_same, cl, T.packer.n_rest_bits, pf_rest_bits, _, rfl, _, _, rfl, rfl, dx, _, upd_same, (by rw [pf_len]; decide), ?_⟩
    rw [pfp_rest_bits, upd_upd]
    have ev : ((valueOf l : Nat) : Int) + (n : Int) * 2 ^ ((l.length : Int).toNat) = ((valueOf (l ++ bitsOf b n) : Nat) : Int) := by
      rw [cast_pow, valueOf_append, valueOf_bitsOf b n hn, Nat.mul_comm n]
      omega
    have el : ((l.length : Nat) : Int) + (b : Int) = (((l ++ bitsOf b n).length : Nat) : Int) := by
      rw [List.length_append, bitsOf_length]
      omega
    rw [ev, el]
    have ll : (l ++ bitsOf b n).length < 24 := by rw [List.length_append, bitsOf_length]; omega
    generalize l ++ bitsOf b n = l' at ll k
    refine ⟨fun m σ H' => ∃ (o' : List Nat) (l1 : List Bool), σ = [some (.ref p), some (.int (n : Int)), some (.int (b : Int))] ∧ Same G H' ∧ H' p = some (.ins T.packer.C dx (pfF a (valueOf l1) l1.length)) ∧ H' a = some (.lst (nV o')) ∧ o' ++ (pack l1).1 = o ++ (pack l').1 ∧ (pack l1).2 = (pack l').2 ∧ l1.length < 24 ∧ o'.length + l1.length / 8 < sizeLine ∧ l1.length = m,
      ⟨_, o, l', rfl, same_put sG g0, upd_same, by rw [upd_ne pa.symm]; exact e1, rfl, rfl, ll, by omega, rfl⟩, ?_⟩
    rintro m σ H' ⟨o', l1, rfl, s', f0, f1, q1, q2, q3, q4, rfl⟩
    refine ⟨_, rfl, p, _, dx, _, _, rfl, f0, cl, T.packer.n_rest_bits, pf_rest_bits, _, _, rfl, rfl, _, rfl, ?_⟩
    refine ite2 (fun c => ?_) (fun c => ?_)
    · have c : (8 : Int) ≤ (l1.length : Int) := of_decide_eq_true c
      have c8 : 8 ≤ l1.length := by omega
      obtain ⟨v1, v2⟩ := value_mod c8
      have hp := pack_long c8
      have dl : (l1.drop 8).length = l1.length - 8 := List.length_drop
      refine ⟨fun σ' H'' => ∃ (o' : List Nat) (l2 : List Bool), σ' = [some (.ref p), some (.int (n : Int)), some (.int (b : Int))] ∧ Same G H'' ∧ H'' p = some (.ins T.packer.C dx (pfF a (valueOf l2) l2.length)) ∧ H'' a = some (.lst (nV o')) ∧ o' ++ (pack l2).1 = o ++ (pack l').1 ∧ (pack l2).2 = (pack l').2 ∧ l2.length < 24 ∧ o'.length + l2.length / 8 < sizeLine ∧ l2.length < l1.length,
        fun σ' H'' ⟨o', l2, b1, b2, b3, b4, b5, b6, b7, b8, b9⟩ => ⟨_, b9, o', l2, b1, b2, b3, b4, b5, b6, b7, b8, rfl⟩, ?_⟩
      refine ⟨_, rfl, p, _, dx, _, _, rfl, f0, cl, T.packer.n_octets, pf_octets, .inl ⟨rfl, _, SqL.of f1⟩, _, rfl, p, _, dx, _, _, rfl, f0, cl, T.packer.n_rest, pf_rest, _, _, rfl, rfl, (by show (0 : Int) < 256; decide), a, _, _, rfl, rfl, f1, (by rw [nV_len]; omega), ?_⟩
      refine ⟨_, rfl, p, _, dx, _, _, rfl, (by rw [upd_ne pa]; exact f0), cl, T.packer.n_rest, pf_rest, _, _, rfl, rfl, ⟨by decide, by decide⟩, dx, _, (by rw [upd_ne pa]; exact f0), (by rw [pf_len]; decide), ?_⟩
      rw [pfp_rest]
      refine ⟨_, rfl, p, _, dx, _, _, rfl, upd_same, cl, T.packer.n_rest_bits, pf_rest_bits, _, _, rfl, rfl, dx, _, upd_same, (by rw [pf_len]; decide), ?_⟩
      rw [pfp_rest_bits, upd_upd]
      refine ⟨o' ++ [valueOf (l1.take 8)], l1.drop 8, rfl, same_put (same_put s' g1) g0, ?_, ?_, ?_, ?_, by omega, ?_, by omega⟩
      · rw [upd_same, cast_div, v2, show (l1.length : Int) - 8 = ((l1.drop 8).length : Int) by omega]
      · rw [upd_ne pa.symm, upd_same, nV_app]
        show some (HO.lst (nV o' ++ [V.int ((valueOf l1 : Int) % 256)])) = _
        rw [cast_mod, v1]
        rfl
      · rw [← q1, hp, List.append_assoc]
        rfl
      · rw [← q2, hp]
      · rw [List.length_append]
        simp only [List.length_singleton]
        omega
    · have c : ¬ (8 : Int) ≤ (l1.length : Int) := fun q => c (decide_eq_true q)
      have hp := pack_short (l := l1) (by omega)
      rw [hp] at q1 q2
      rw [List.append_nil] at q1
      refine k _ s' ⟨dx, a, ?_, ?_, g0, g1⟩
      · rw [← q2]
        exact f0
      · rw [← q1]
        exact f1
def spFill (C : Addr) : Sp := fun vs H Q _ => ∃ (G : Hp) (p : Addr) (o : List Nat) (l : List Bool), vs = [.ref p] ∧ Same G H ∧ PackAt C G H p o l ∧ l.length < 8 ∧ o.length + 8 ≤ sizeLine ∧
  ∀ H', Same G H' → PackAt C G H' p (o ++ (pack (padded l)).1) [] → Q .non H'
theorem ok_fill (T : PT K mg) : FnOk P w K mg base CX0 2 T.packer.fill_up_.f T.packer.fill_up_.fd ["self"] (spFill T.packer.C) := by
  refine T.packer.fill_up_.F.ok scPacker_fill_up (fun vs H Q E h => ?_) (fun cdv A outer s H vs Q E hr h => ?_)
  · obtain ⟨G, p, o, l, rfl, _⟩ := h
    rfl
  · obtain ⟨G, p, o, l, rfl, sG, PA, hl, ho, k⟩ := h
    obtain ⟨dx, a, e0, e1, g0, g1⟩ := id PA
    have cl := T.packer.cl
    refine ⟨_, pss_one (ps_if (pt_cmpR op_gt (pe_fld (pv 0) rfl) pe_int (nomark _)) (pss_one (ps_expr (pe_meth (pv 0) cl T.packer.m_push (ok_push T) hr T.packer.push_.b .nil pass0 (pa_cons pe_int (pa_cons (pe_op op_sub (pe_gi T.g_OCTET_BITS) (pe_fld (pv 0) rfl)) pa_nil))))) pss_nil), ?_⟩
    refine ⟨_, rfl, p, _, dx, _, _, rfl, e0, cl, T.packer.n_rest_bits, pf_rest_bits, _, _, rfl, rfl, _, rfl, ?_⟩
    have pl := padded_len l hl
    refine ite2 (fun c => ?_) (fun c => ?_)
    · have c : (0 : Int) < (l.length : Int) := of_decide_eq_true c
      have ep : padded l = l ++ bitsOf (8 - l.length) 0 := by
        unfold padded
        rw [bitsOf_zero]
        congr 2
        omega
      refine ⟨_, rfl, p, dx, _, rfl, e0, pfn_push, _, rfl, p, _, dx, _, _, rfl, e0, cl, T.packer.n_rest_bits, pf_rest_bits, _, _, rfl, rfl, G, p, o, l, 0, 8 - l.length, ?_, sG, PA, Nat.pow_pos (by decide), by omega, hl, ho, fun H' s' PA' => ?_⟩
      · show [V.ref p, V.int 0, V.int (8 - (l.length : Int))] = [V.ref p, V.int ((0 : Nat) : Int), V.int ((8 - l.length : Nat) : Int)]
        rw [show (8 - (l.length : Int)) = ((8 - l.length : Nat) : Int) by omega]
        rfl
      · rw [← ep] at PA'
        refine k H' s' ?_
        have : (pack (padded l)).2 = [] := by rw [pl]
        rw [this] at PA'
        exact PA'
    · have c : ¬ (0 : Int) < (l.length : Int) := fun q => c (decide_eq_true q)
      have : l = [] := List.length_eq_zero_iff.mp (by omega)
      subst this
      refine k H sG ?_
      rw [pl, if_pos rfl, List.append_nil]
      exact PA
def spHand (C : Addr) : Sp := fun vs H Q _ => ∃ (G : Hp) (p : Addr) (o : List Nat) (l : List Bool), vs = [.ref p] ∧ Same G H ∧ PackAt C G H p o l ∧ ∀ a H', Same G H' → PackAt C G H' p [] l → H' a = some (.lst (nV o)) → G a = none → Q (.ref a) H'
theorem ok_hand (T : PT K mg) : FnOk P w K mg base CX0 1 T.packer.hand_over_.f T.packer.hand_over_.fd ["self"] (spHand T.packer.C) := by
  refine T.packer.hand_over_.F.ok scPacker_hand_over (fun vs H Q E h => ?_) (fun cdv A outer s H vs Q E hr h => ?_)
  · obtain ⟨G, p, o, l, rfl, _⟩ := h
    rfl
  · obtain ⟨G, p, o, l, rfl, sG, ⟨dx, a, e0, e1, g0, g1⟩, k⟩ := h
    have cl := T.packer.cl
    refine ⟨_, pss_cons (ps_set (i := 1) scPacker_hand_over.nd rfl (Or.inl rfl) (pe_fld (pv 0) rfl)) (pss_cons (ps_fld (pv 0) (pe_lst pa_nil) rfl) (pss_one (ps_ret (pv 1)))), ?_⟩
    refine ⟨_, rfl, p, _, dx, _, _, rfl, e0, cl, T.packer.n_octets, pf_octets, (by show 0 ≤ sizeLine; decide), fun c hc => ?_⟩
    have pc : p ≠ c := ne_of_none e0 hc
    have ac : a ≠ c := ne_of_none e1 hc
    have pa : p ≠ a := ne_of e0 e1 (fun z => nomatch z)
    have gc : G c = none := free' hc sG
    refine ⟨_, rfl, p, _, dx, _, rfl, (by rw [upd_ne pc]; exact e0), cl, T.packer.n_octets, (by rw [pf_len]; decide), ?_⟩
    rw [pfp_octets]
    refine ⟨_, rfl, k a _ (same_put (same_put sG gc) g0) ⟨dx, c, upd_same, ?_, g0, gc⟩ ?_ g1⟩
    · rw [upd_ne pc.symm, upd_same]
      rfl
    · rw [upd_ne pa.symm, upd_ne ac]
      exact e1
/-! the unpacker -/
def spUnpInit (C : Addr) : Sp := fun vs H Q _ => ∃ (G : Hp) (p dx : Addr), vs = [.ref p] ∧ H p = some (.ins C dx []) ∧ Same G H ∧ G p = none ∧ ∀ H', Same G H' → UnpAt C G H' p [] → Q .non H'
theorem ok_unpInit (T : PT K mg) : FnOk P w K mg base CX0 1 T.unpacker.init_.f T.unpacker.init_.fd ["self"] (spUnpInit T.unpacker.C) := by
  refine T.unpacker.init_.F.ok scUnpacker_init (fun vs H Q E h => ?_) (fun cdv A outer s H vs Q E hr h => ?_)
  · obtain ⟨G, p, dx, rfl, _⟩ := h
    rfl
  · obtain ⟨G, p, dx, rfl, hp, sG, gp, k⟩ := h
    have cl := T.unpacker.cl
    refine ⟨_, pss_cons (ps_fld (pv 0) pe_int rfl) (pss_one (ps_fld (pv 0) pe_int rfl)), ?_⟩
    refine ⟨_, rfl, p, _, dx, _, rfl, hp, cl, T.unpacker.n_rest, (by show 0 < 1000; decide), ?_⟩
    refine ⟨_, rfl, p, _, dx, _, rfl, upd_same, cl, T.unpacker.n_rest_bits, (by show 1 < 1000; decide), ?_⟩
    refine k _ (same_put (same_put sG gp) gp) ⟨dx, ?_, gp⟩
    rw [upd_same]
    exact congrArg (fun l => some (HO.ins T.unpacker.C dx l)) uf_made
def spUnpCopy (C : Addr) : Sp := fun vs H Q _ => ∃ (G : Hp) (p : Addr) (l : List Bool), vs = [.ref p] ∧ UnpAt C G H p l ∧ ∀ q H', Same H H' → UnpAt C H H' q l → Q (.ref q) H'
theorem ok_unpCopy (T : PT K mg) : FnOk P w K mg base CX0 3 T.unpacker.copy_.f T.unpacker.copy_.fd ["self"] (spUnpCopy T.unpacker.C) := by
  refine T.unpacker.copy_.F.ok scUnpacker_copy (fun vs H Q E h => ?_) (fun cdv A outer s H vs Q E hr h => ?_)
  · obtain ⟨G, p, l, rfl, _⟩ := h
    rfl
  · obtain ⟨G, p, l, rfl, ⟨dx, e0, g0⟩, k⟩ := h
    have cl := T.unpacker.cl
    refine ⟨_, pss_cons (ps_set (i := 1) scUnpacker_copy.nd rfl (Or.inl rfl) (pe_make0 T.unpacker.mak (ok_unpInit T) hr rfl T.unpacker.at_ T.unpacker.init_.b .nil pass0))
      (pss_cons (ps_fld (pv 1) (pe_fld (pv 0) rfl) rfl)
      (pss_cons (ps_fld (pv 1) (pe_fld (pv 0) rfl) rfl)
      (pss_one (ps_ret (pv 1))))), ?_⟩
    intro q dq nq ndq nne
    have s0 : Same H (upd (upd H dq (.own q)) q (.ins T.unpacker.C dq [])) := fun b o e => by
      rw [upd_ne (ne_of_none e nq), upd_ne (ne_of_none e ndq)]
      exact e
    refine ⟨H, q, dq, rfl, upd_same, s0, nq, fun H1 s1 ⟨dy, f0, i0⟩ => ⟨rfl, ?_⟩⟩
    refine ⟨_, rfl, p, _, dx, _, _, rfl, s1 _ _ e0, cl, T.unpacker.n_rest, uf_rest, _, rfl, q, _, dy, _, rfl, f0, cl, T.unpacker.n_rest, (by rw [uf_len]; decide), ?_⟩
    rw [ufp_rest]
    have s3 := same_put (o := HO.ins T.unpacker.C dy (ufF (valueOf l) ([] : List Bool).length)) s1 i0
    refine ⟨_, rfl, p, _, dx, _, _, rfl, s3 _ _ e0, cl, T.unpacker.n_rest_bits, uf_rest_bits, _, rfl, q, _, dy, _, rfl, upd_same, cl, T.unpacker.n_rest_bits, (by rw [uf_len]; decide), ?_⟩
    rw [ufp_rest_bits]
    exact ⟨_, rfl, k q _ (same_put s3 i0) ⟨dy, upd_same, i0⟩⟩
def spUPush (C : Addr) : Sp := fun vs H Q _ => ∃ (G : Hp) (p : Addr) (l : List Bool) (n : Nat), vs = [.ref p, .int n] ∧ Same G H ∧ UnpAt C G H p l ∧ n < 256 ∧ l.length ≤ 16 ∧ ∀ H', Same G H' → UnpAt C G H' p (l ++ bitsOf 8 n) → Q .non H'
theorem ok_uPush (T : PT K mg) : FnOk P w K mg base CX0 1 T.unpacker.push_.f T.unpacker.push_.fd ["self", "octet"] (spUPush T.unpacker.C) := by
  refine T.unpacker.push_.F.ok scUnpacker_push (fun vs H Q E h => ?_) (fun cdv A outer s H vs Q E hr h => ?_)
  · obtain ⟨G, p, l, n, rfl, _⟩ := h
    rfl
  · obtain ⟨G, p, l, n, rfl, sG, ⟨dx, e0, g0⟩, hn, hl, k⟩ := h
    have cl := T.unpacker.cl
    refine ⟨_, pss_cons (ps_fldaug (pv 0) (pe_op op_shl (pv 1) (pe_fld (pv 0) rfl)) in_add) (pss_one (ps_fldaug (pv 0) (pe_gi T.g_OCTET_BITS) in_add)), ?_⟩
    refine ⟨_, rfl, p, _, dx, _, _, rfl, e0, cl, T.unpacker.n_rest, uf_rest, _, rfl, _, rfl, p, _, dx, _, _, rfl, e0, cl, T.unpacker.n_rest_bits, uf_rest_bits, _, _, rfl, rfl, ⟨by omega, by omega, by rw [Int.natAbs_natCast]; omega⟩, _, _, rfl, rfl, dx, _, e0, (by rw [uf_len]; decide), ?_⟩
    rw [ufp_rest]
    refine ⟨_, rfl, p, _, dx, _, _, rfl, upd_same, cl, T.unpacker.n_rest_bits, uf_rest_bits, _, _, rfl, rfl, dx, _, upd_same, (by rw [uf_len]; decide), ?_⟩
    rw [ufp_rest_bits, upd_upd]
    refine k _ (same_put sG g0) ⟨dx, ?_, g0⟩
    rw [upd_same]
    have ev : ((valueOf l : Nat) : Int) + (n : Int) * 2 ^ ((l.length : Int).toNat) = ((valueOf (l ++ bitsOf 8 n) : Nat) : Int) := by
      rw [cast_pow, valueOf_append, valueOf_bitsOf 8 n hn, Nat.mul_comm n]
      omega
    have el : ((l.length : Nat) : Int) + 8 = (((l ++ bitsOf 8 n).length : Nat) : Int) := by
      rw [List.length_append, bitsOf_length]
      omega
    rw [ev, el]
theorem value_cut (l : List Bool) (b : Nat) (h : b ≤ l.length) : valueOf l % 2 ^ b = valueOf (l.take b) ∧ valueOf l / 2 ^ b = valueOf (l.drop b) := by
  have e : valueOf l = valueOf (l.take b) + 2 ^ (l.take b).length * valueOf (l.drop b) := by
    rw [← valueOf_append, List.take_append_drop]
  have ht : (l.take b).length = b := by rw [List.length_take, Nat.min_eq_left h]
  have lt := valueOf_lt (l.take b)
  rw [ht] at e lt
  rw [e]
  constructor
  · rw [Nat.add_mul_mod_self_left, Nat.mod_eq_of_lt lt]
  · rw [Nat.add_mul_div_left _ _ (Nat.pow_pos (by decide)), Nat.div_eq_of_lt lt, Nat.zero_add]
def spPull (C : Addr) : Sp := fun vs H Q _ => ∃ (G : Hp) (p : Addr) (l : List Bool) (b : Nat), vs = [.ref p, .int b] ∧ Same G H ∧ UnpAt C G H p l ∧ b ≤ 16 ∧
  (l.length < b → Q .non H) ∧ (b ≤ l.length → ∀ H', Same G H' → UnpAt C G H' p (l.drop b) → Q (.int (valueOf (l.take b) : Nat)) H')
theorem ok_pull (T : PT K mg) : FnOk P w K mg base CX0 1 T.unpacker.pull_.f T.unpacker.pull_.fd ["self", "bits"] (spPull T.unpacker.C) := by
  refine T.unpacker.pull_.F.ok scUnpacker_pull (fun vs H Q E h => ?_) (fun cdv A outer s H vs Q E hr h => ?_)
  · obtain ⟨G, p, l, b, rfl, _⟩ := h
    rfl
  · obtain ⟨G, p, l, b, rfl, sG, ⟨dx, e0, g0⟩, hb, k1, k2⟩ := h
    have cl := T.unpacker.cl
    refine ⟨_, pss_cons (ps_if (pt_cmpR op_lt (pe_fld (pv 0) rfl) (pv 1) (nomark _)) (pss_one (ps_ret pe_non)) pss_nil)
      (pss_cons (ps_set (i := 2) scUnpacker_pull.nd rfl (Or.inl rfl) (pe_op op_and (pe_fld (pv 0) rfl) (pe_op op_sub (pe_op op_shl pe_int (pv 1)) pe_int)))
      (pss_cons (ps_fldaug (pv 0) (pv 1) (inop_of iop_shr))
      (pss_cons (ps_fldaug (pv 0) (pv 1) in_sub)
      (pss_one (ps_ret (pv 2)))))), ?_⟩
    refine ⟨_, rfl, p, _, dx, _, _, rfl, e0, cl, T.unpacker.n_rest_bits, uf_rest_bits, _, rfl, _, _, rfl, rfl, _, rfl, ?_⟩
    refine ite2 (fun c => ?_) (fun c => ?_)
    · have c : (l.length : Int) < (b : Int) := of_decide_eq_true c
      exact k1 (by omega)
    · have c : ¬ (l.length : Int) < (b : Int) := fun q => c (decide_eq_true q)
      have c' : b ≤ l.length := by omega
      obtain ⟨v1, v2⟩ := value_cut l b c'
      refine ⟨_, rfl, p, _, dx, _, _, rfl, e0, cl, T.unpacker.n_rest, uf_rest, _, rfl, _, _, rfl, rfl, ⟨by omega, by omega, by decide⟩, _, _, rfl, rfl, _, _, rfl, rfl, ?_⟩
      have em : Builtin.bitAnd ((valueOf l : Nat) : Int) ((1 : Int) * 2 ^ ((b : Int).toNat) - 1) = ((valueOf (l.take b) : Nat) : Int) := by
        rw [Int.toNat_natCast, Int.one_mul, Bits.bitAnd_mask b (by omega), ← v1]
        exact (Int.natCast_emod _ _).symm ▸ by simp
      refine ⟨_, rfl, p, _, dx, _, _, rfl, e0, cl, T.unpacker.n_rest, uf_rest, _, rfl, _, _, rfl, rfl, (by omega), dx, _, e0, (by rw [uf_len]; decide), ?_⟩
      rw [ufp_rest]
      refine ⟨_, rfl, p, _, dx, _, _, rfl, upd_same, cl, T.unpacker.n_rest_bits, uf_rest_bits, _, rfl, _, _, rfl, rfl, dx, _, upd_same, (by rw [uf_len]; decide), ?_⟩
      rw [ufp_rest_bits, upd_upd]
      refine ⟨_, rfl, ?_⟩
      show Q (.int (Builtin.bitAnd ((valueOf l : Nat) : Int) ((1 : Int) * 2 ^ ((b : Int).toNat) - 1))) _
      rw [em]
      refine k2 c' _ (same_put sG g0) ⟨dx, ?_, g0⟩
      rw [upd_same]
      have ev : ((valueOf l : Nat) : Int) / 2 ^ ((b : Int).toNat) = ((valueOf (l.drop b) : Nat) : Int) := by
        rw [Int.toNat_natCast, ← v2]
        simp
      have el : ((l.length : Nat) : Int) - (b : Int) = (((l.drop b).length : Nat) : Int) := by
        rw [List.length_drop]
        omega
      rw [ev, el]
def spDropRest (C : Addr) : Sp := fun vs H Q _ => ∃ (G : Hp) (p : Addr) (l : List Bool), vs = [.ref p] ∧ Same G H ∧ UnpAt C G H p l ∧ ∀ H', Same G H' → UnpAt C G H' p [] → Q (.bl (l.all fun b => !b)) H'
theorem ok_dropRest (T : PT K mg) : FnOk P w K mg base CX0 1 T.unpacker.drop_rest_.f T.unpacker.drop_rest_.fd ["self"] (spDropRest T.unpacker.C) := by
  refine T.unpacker.drop_rest_.F.ok scUnpacker_drop_rest (fun vs H Q E h => ?_) (fun cdv A outer s H vs Q E hr h => ?_)
  · obtain ⟨G, p, l, rfl, _⟩ := h
    rfl
  · obtain ⟨G, p, l, rfl, sG, ⟨dx, e0, g0⟩, k⟩ := h
    have cl := T.unpacker.cl
    refine ⟨_, pss_cons (ps_set (i := 1) scUnpacker_drop_rest.nd rfl (Or.inl rfl) (pe_cmpR op_eq (pe_fld (pv 0) rfl) pe_int (nomark _)))
      (pss_cons (ps_fld (pv 0) pe_int rfl) (pss_cons (ps_fld (pv 0) pe_int rfl) (pss_one (ps_ret (pv 1))))), ?_⟩
    refine ⟨_, rfl, p, _, dx, _, _, rfl, e0, cl, T.unpacker.n_rest, uf_rest, rfl, ?_⟩
    refine ⟨_, rfl, p, _, dx, _, rfl, e0, cl, T.unpacker.n_rest, (by rw [uf_len]; decide), ?_⟩
    refine ⟨_, rfl, p, _, dx, _, rfl, upd_same, cl, T.unpacker.n_rest_bits, (by rw [ufp_rest, uf_len]; decide), ?_⟩
    rw [ufp_rest, ufp_rest_bits]
    refine ⟨_, rfl, ?_⟩
    have eb : decide (V.int ((valueOf l : Nat) : Int) = V.int 0) = (l.all fun b => !b) := by
      cases e : (l.all fun b => !b) with
      | true =>
        have := (valueOf_zero l).mpr e
        rw [this]
        rfl
      | false =>
        refine decide_eq_false fun q => ?_
        have q := V.int.inj q
        have := (valueOf_zero l).mp (by omega)
        rw [e] at this
        cases this
    rw [eb]
    exact k _ (same_put (same_put sG g0) g0) ⟨dx, upd_same, g0⟩
end
end SL
namespace SL
open PySem hiding Tree
open L2 Sl Ql65
/-! what both ends share -/
section
variable {P : Program} {w : World} {K : PySem.W.Frag} {mg : Str → Option Value} {base : Heap}
structure LineC (T : PT K mg) (C : Addr) : Prop where
  cl : Cls K C
  nT : NoAttr K C "tree"
  nS : NoAttr K C "short"
  nE : NoAttr K C "escape"
  nB : NoAttr K C "bits"
  mS : Meth K C "start" T.lineEnd.start_.f
theorem line_S (T : PT K mg) : LineC T T.sender.C := ⟨T.sender.cl, T.sender.n_tree, T.sender.n_short, T.sender.n_escape, T.sender.n_bits, T.sender_start⟩
theorem line_R (T : PT K mg) : LineC T T.receiver.C := ⟨T.receiver.cl, T.receiver.n_tree, T.receiver.n_short, T.receiver.n_escape, T.receiver.n_bits, T.receiver_start⟩
/-- the four of them put -/
def put4 (t : Addr) (sh : Bool) (e b : Int) (fs : List (Str × V)) : List (Str × V) := putF "bits" (.int b) (putF "escape" (.int e) (putF "short" (.bl sh) (putF "tree" (.ref t) fs)))
theorem len_putF1 {f : Str} {v : V} {fs : List (Str × V)} {n : Nat} (h : fs.length ≤ n) : (putF f v fs).length ≤ n + 1 := Nat.le_trans (length_putF f v fs) (Nat.succ_le_succ h)
def spStart (T : PT K mg) : Sp := fun vs H Q _ => ∃ (G : Hp) (C p dx : Addr) (fs : List (Str × V)) (z : Sizes), vs = [.ref p, .int z.codes, .int z.longest] ∧ LineC T C ∧ Good z ∧ Same G H ∧ G p = none ∧ H p = some (.ins C dx fs) ∧ fs.length ≤ 900 ∧ fs.lookup ("start" : Str) = none ∧
  ∀ pt H', Same G H' → TreeAt T.tree.C G H' pt z emptyTree → H' p = some (.ins C dx (put4 pt false 0 9 fs)) → Q .non H'
theorem ok_start (T : PT K mg) : FnOk P w K mg base CX0 3 T.lineEnd.start_.f T.lineEnd.start_.fd ["self", "codes", "longest"] (spStart T) := by
  refine T.lineEnd.start_.F.ok scLineEnd_start (fun vs H Q E h => ?_) (fun cdv A outer s H vs Q E hr h => ?_)
  · obtain ⟨G, C, p, dx, fs, z, rfl, _⟩ := h
    rfl
  · obtain ⟨G, C, p, dx, fs, z, rfl, lc, gd, sG, gp, hp, hl, _, k⟩ := h
    refine ⟨_, pss_cons (ps_fld (pv 0) (pe_make T.tree.mak (ok_treeInit T) hr rfl T.tree.at_ T.tree.init_.b .nil pass0 (pa_cons (pv 1) (pa_cons (pv 2) pa_nil))) rfl)
      (pss_cons (ps_fld (pv 0) pe_bl rfl) (pss_cons (ps_fld (pv 0) (pe_gi T.g_FIRST_ESCAPE) rfl) (pss_one (ps_fld (pv 0) (pe_gi T.g_FIRST_BITS) rfl)))), ?_⟩
    refine ⟨_, rfl, _, rfl, ?_⟩
    intro q dq nq ndq nne
    have s0 : Same H (upd (upd H dq (.own q)) q (.ins T.tree.C dq [])) := fun b o e => by
      rw [upd_ne (ne_of_none e nq), upd_ne (ne_of_none e ndq)]
      exact e
    refine ⟨H, q, dq, z, rfl, gd, upd_same, s0, nq, fun H1 s1 TA => ⟨rfl, ?_⟩⟩
    have l1 : (putF ("tree" : Str) (.ref q) fs).length ≤ 901 := len_putF1 hl
    have l2 : (putF ("short" : Str) (.bl false) (putF ("tree" : Str) (.ref q) fs)).length ≤ 902 := len_putF1 l1
    have l3 : (putF ("escape" : Str) (.int 0) (putF ("short" : Str) (.bl false) (putF ("tree" : Str) (.ref q) fs))).length ≤ 903 := len_putF1 l2
    refine ⟨_, rfl, p, _, dx, _, rfl, s1 _ _ hp, lc.cl, lc.nT, by omega, ?_⟩
    refine ⟨_, rfl, p, _, dx, _, rfl, upd_same, lc.cl, lc.nS, by omega, ?_⟩
    refine ⟨_, rfl, p, _, dx, _, rfl, upd_same, lc.cl, lc.nE, by omega, ?_⟩
    refine ⟨_, rfl, p, _, dx, _, rfl, upd_same, lc.cl, lc.nB, by omega, ?_⟩
    rw [upd_upd, upd_upd, upd_upd]
    have sG1 := sG.trans s1
    refine k q _ (same_put sG1 gp) ?_ upd_same
    -- the tree is elsewhere
    obtain ⟨⟨ex, a1, a2, a3, a4, g, D, e0, e1, e2, e3, e4, et, eh, d1, d2, d3, g0, g1, g2, g3, g4⟩, wf, _⟩ := TA
    have np : ∀ b, H b = none → b ≠ p := fun b h e => by rw [e, hp] at h; cases h
    exact ⟨⟨ex, a1, a2, a3, a4, g, D, by rw [upd_ne (np _ g0)]; exact e0, by rw [upd_ne (np _ g1)]; exact e1, by rw [upd_ne (np _ g2)]; exact e2, by rw [upd_ne (np _ g3)]; exact e3, by rw [upd_ne (np _ g4)]; exact e4, (fun x hx => nomatch hx), eh, d1, d2, d3, sG.free g0, sG.free g1, sG.free g2, sG.free g3, sG.free g4⟩, wf, gd⟩
theorem ok_lineInit (T : PT K mg) : FnOk P w K mg base CX0 4 T.lineEnd.init_.f T.lineEnd.init_.fd ["self", "codes", "longest"] (spStart T) := by
  refine T.lineEnd.init_.F.ok scLineEnd_init (fun vs H Q E h => ?_) (fun cdv A outer s H vs Q E hr h => ?_)
  · obtain ⟨G, C, p, dx, fs, z, rfl, _⟩ := h
    rfl
  · obtain ⟨G, C, p, dx, fs, z, rfl, lc, gd, sG, gp, hp, hl, hn, k⟩ := h
    refine ⟨_, pss_one (ps_expr (pe_meth (pv 0) lc.cl lc.mS (ok_start T) hr T.lineEnd.start_.b .nil pass0 (pa_cons (pv 1) (pa_cons (pv 2) pa_nil)))), ?_⟩
    exact ⟨_, rfl, p, dx, _, rfl, hp, hn, _, rfl, _, rfl, G, C, p, dx, fs, z, rfl, lc, gd, sG, gp, hp, hl, hn, k⟩
def spAnew (T : PT K mg) : Sp := fun vs H Q _ => ∃ (G : Hp) (C p dx pt : Addr) (fs : List (Str × V)) (z : Sizes) (t : Tree), vs = [.ref p] ∧ LineC T C ∧ Same G H ∧ G p = none ∧ H p = some (.ins C dx fs) ∧ fs.length ≤ 900 ∧ fs.lookup ("start" : Str) = none ∧ fs.lookup ("tree" : Str) = some (.ref pt) ∧ (∃ G', TreeAt T.tree.C G' H pt z t) ∧
  ∀ pt H', Same G H' → TreeAt T.tree.C G H' pt z emptyTree → H' p = some (.ins C dx (put4 pt false 0 9 fs)) → Q .non H'
theorem ok_anew (T : PT K mg) : FnOk P w K mg base CX0 4 T.lineEnd.start_anew_.f T.lineEnd.start_anew_.fd ["self"] (spAnew T) := by
  refine T.lineEnd.start_anew_.F.ok scLineEnd_start_anew (fun vs H Q E h => ?_) (fun cdv A outer s H vs Q E hr h => ?_)
  · obtain ⟨G, C, p, dx, pt, fs, z, t, rfl, _⟩ := h
    rfl
  · obtain ⟨G, C, p, dx, pt, fs, z, t, rfl, lc, sG, gp, hp, hl, hn, ht, ⟨_, ⟨ex, a1, a2, a3, a4, g, D, e0, _⟩, wf, gd⟩, k⟩ := h
    have cl := T.tree.cl
    refine ⟨_, pss_one (ps_expr (pe_meth (pv 0) lc.cl lc.mS (ok_start T) hr T.lineEnd.start_.b .nil pass0 (pa_cons (pe_fld (pe_fld (pv 0) rfl) rfl) (pa_cons (pe_fld (pe_fld (pv 0) rfl) rfl) pa_nil)))), ?_⟩
    exact ⟨_, rfl, p, dx, _, rfl, hp, hn, _, rfl, p, _, dx, _, _, rfl, hp, lc.cl, lc.nT, ht, pt, _, ex, _, _, rfl, e0, cl, T.tree.n_codes, tf_codes, _, rfl, p, _, dx, _, _, rfl, hp, lc.cl, lc.nT, ht, pt, _, ex, _, _, rfl, e0, cl, T.tree.n_longest, tf_longest, G, C, p, dx, fs, z, rfl, lc, gd, sG, gp, hp, hl, hn, k⟩
def spLike (T : PT K mg) : Sp := fun vs H Q _ => ∃ (G : Hp) (C p dx D q dy pt : Addr) (fs gs : List (Str × V)) (z : Sizes) (t : Tree) (sh : Bool) (e b : Int), vs = [.ref p, .ref q] ∧ LineC T C ∧ LineC T D ∧ Same G H ∧ G p = none ∧ H p = some (.ins C dx fs) ∧ fs.length ≤ 900 ∧ H q = some (.ins D dy gs) ∧ p ≠ q ∧
  gs.lookup ("tree" : Str) = some (.ref pt) ∧ gs.lookup ("short" : Str) = some (.bl sh) ∧ gs.lookup ("escape" : Str) = some (.int e) ∧ gs.lookup ("bits" : Str) = some (.int b) ∧ (∃ G', TreeAt T.tree.C G' H pt z t) ∧
  ∀ pt' H', Same G H' → TreeAt T.tree.C G H' pt' z t → (∀ c o, H c = some o → c ≠ p → H' c = some o) → H' p = some (.ins C dx (put4 pt' sh e b fs)) → Q .non H'
theorem ok_like (T : PT K mg) : FnOk P w K mg base CX0 4 T.lineEnd.become_like_.f T.lineEnd.become_like_.fd ["self", "other"] (spLike T) := by
  refine T.lineEnd.become_like_.F.ok scLineEnd_become_like (fun vs H Q E h => ?_) (fun cdv A outer s H vs Q E hr h => ?_)
  · obtain ⟨G, C, p, dx, D, q, dy, pt, fs, gs, z, t, sh, e, b, rfl, _⟩ := h
    rfl
  · obtain ⟨G, C, p, dx, D, q, dy, pt, fs, gs, z, t, sh, e, b, rfl, lc, ld, sG, gp, hp, hl, hq, pq, lT, lS, lE, lB, ⟨G', TA⟩, k⟩ := h
    have cl := T.tree.cl
    refine ⟨_, pss_cons (ps_fld (pv 0) (pe_meth0 (pe_fld (pv 1) rfl) cl T.tree.m_copy (ok_treeCopy T) hr T.tree.copy_.b .nil pass0) rfl)
      (pss_cons (ps_fld (pv 0) (pe_fld (pv 1) rfl) rfl) (pss_cons (ps_fld (pv 0) (pe_fld (pv 1) rfl) rfl) (pss_one (ps_fld (pv 0) (pe_fld (pv 1) rfl) rfl)))), ?_⟩
    obtain ⟨⟨ex, a1, a2, a3, a4, g, Dh, e0, _⟩, wf, gd⟩ := id TA
    refine ⟨_, rfl, q, _, dy, _, _, rfl, hq, ld.cl, ld.nT, lT, pt, ex, _, rfl, e0, tfn_copy, G', pt, z, t, rfl, TA, fun pt' H1 s1 TA1 => ?_⟩
    have l1 : (putF ("tree" : Str) (.ref pt') fs).length ≤ 901 := len_putF1 hl
    have l2 : (putF ("short" : Str) (.bl sh) (putF ("tree" : Str) (.ref pt') fs)).length ≤ 902 := len_putF1 l1
    have l3 : (putF ("escape" : Str) (.int e) (putF ("short" : Str) (.bl sh) (putF ("tree" : Str) (.ref pt') fs))).length ≤ 903 := len_putF1 l2
    refine ⟨_, rfl, p, _, dx, _, rfl, s1 _ _ hp, lc.cl, lc.nT, by omega, ?_⟩
    refine ⟨_, rfl, q, _, dy, _, _, rfl, (by rw [upd_ne pq.symm]; exact s1 _ _ hq), ld.cl, ld.nS, lS, _, rfl, p, _, dx, _, rfl, upd_same, lc.cl, lc.nS, by omega, ?_⟩
    rw [upd_upd]
    refine ⟨_, rfl, q, _, dy, _, _, rfl, (by rw [upd_ne pq.symm]; exact s1 _ _ hq), ld.cl, ld.nE, lE, _, rfl, p, _, dx, _, rfl, upd_same, lc.cl, lc.nE, by omega, ?_⟩
    rw [upd_upd]
    refine ⟨_, rfl, q, _, dy, _, _, rfl, (by rw [upd_ne pq.symm]; exact s1 _ _ hq), ld.cl, ld.nB, lB, _, rfl, p, _, dx, _, rfl, upd_same, lc.cl, lc.nB, by omega, ?_⟩
    rw [upd_upd]
    obtain ⟨⟨ex', b1, b2, b3, b4, g', D', f0, f1, f2, f3, f4, ft, fh, d1, d2, d3, i0, i1, i2, i3, i4⟩, wf', _⟩ := TA1
    have np : ∀ b, H b = none → b ≠ p := fun b h e => by rw [e, hp] at h; cases h
    refine k pt' _ (same_put (sG.trans s1) gp) ⟨⟨ex', b1, b2, b3, b4, g', D', by rw [upd_ne (np _ i0)]; exact f0, by rw [upd_ne (np _ i1)]; exact f1, by rw [upd_ne (np _ i2)]; exact f2, by rw [upd_ne (np _ i3)]; exact f3, by rw [upd_ne (np _ i4)]; exact f4, fun x hx => ?_, fh, d1, d2, d3, sG.free i0, sG.free i1, sG.free i2, sG.free i3, sG.free i4⟩, wf', gd⟩ (fun c o h hc => by rw [upd_ne hc]; exact s1 _ _ h) upd_same
    rw [upd_ne (ne_of (ft x hx) (s1 _ _ hp) (fun z => nomatch z))]
    exact ft x hx
def spMove (T : PT K mg) : Sp := fun vs H Q _ => ∃ (C p dx : Addr) (fs : List (Str × V)) (e : Nat), vs = [.ref p] ∧ LineC T C ∧ H p = some (.ins C dx fs) ∧ fs.length ≤ 900 ∧ fs.lookup ("escape" : Str) = some (.int (e : Int)) ∧ Q .non (upd H p (.ins C dx (putF "escape" (.int (turn e : Nat)) fs)))
theorem ok_move (T : PT K mg) : FnOk P w K mg base CX0 1 T.lineEnd.move_escape_.f T.lineEnd.move_escape_.fd ["self"] (spMove T) := by
  refine T.lineEnd.move_escape_.F.ok scLineEnd_move_escape (fun vs H Q E h => ?_) (fun cdv A outer s H vs Q E hr h => ?_)
  · obtain ⟨C, p, dx, fs, e, rfl, _⟩ := h
    rfl
  · obtain ⟨C, p, dx, fs, e, rfl, lc, hp, hl, le, k⟩ := h
    refine ⟨_, pss_one (ps_fld (pv 0) (pe_op op_mod (pe_op op_add (pe_fld (pv 0) rfl) (pe_gi T.g_ESCAPE_STEP)) (pe_gi T.g_BYTE_VALUES)) rfl), ?_⟩
    refine ⟨_, rfl, p, _, dx, _, _, rfl, hp, lc.cl, lc.nE, le, _, _, rfl, rfl, _, _, rfl, rfl, (by show (0 : Int) < 256; decide), _, rfl, p, _, dx, _, rfl, hp, lc.cl, lc.nE, by omega, ?_⟩
    have et : ((e : Int) + 51) % 256 = ((turn e : Nat) : Int) := by
      unfold turn
      omega
    show Q .non (upd H p (.ins C dx (putF "escape" (.int (((e : Int) + 51) % 256)) fs)))
    rw [et]
    exact k
end
end SL
namespace SL
open PySem hiding Tree
open L2 Sl Ql65
/-! attribute lists of unlike classes differ -/
section
variable {c l n e b r m : Int} {a1 a2 a3 a4 t pk u ou a : Addr} {sh be : Bool} {st fr bf : V}
theorem tf_sf : tfF c l n a1 a2 a3 a4 ≠ sfF t sh e b pk st fr := fun h => by
  have h := congrArg (List.lookup ("codes" : Str)) h
  rw [tf_codes, show (sfF t sh e b pk st fr).lookup ("codes" : Str) = none from by kernel_rfl] at h
  cases h
theorem pf_sf {r' n' : Int} : pfF a r' n' ≠ sfF t sh e b pk st fr := fun h => by
  have h := congrArg (List.lookup ("octets" : Str)) h
  rw [pf_octets, show (sfF t sh e b pk st fr).lookup ("octets" : Str) = none from by kernel_rfl] at h
  cases h
theorem tf_pf {r' n' : Int} : tfF c l n a1 a2 a3 a4 ≠ pfF a r' n' := fun h => by
  have h := congrArg (List.lookup ("codes" : Str)) h
  rw [tf_codes, show (pfF a r' n').lookup ("codes" : Str) = none from by kernel_rfl] at h
  cases h
theorem tf_rf : tfF c l n a1 a2 a3 a4 ≠ rfF t sh e b u be bf ou m := fun h => by
  have h := congrArg (List.lookup ("codes" : Str)) h
  rw [tf_codes, show (rfF t sh e b u be bf ou m).lookup ("codes" : Str) = none from by kernel_rfl] at h
  cases h
theorem uf_rf {r' n' : Int} : ufF r' n' ≠ rfF t sh e b u be bf ou m := fun h => by
  have h := congrArg (List.lookup ("rest" : Str)) h
  rw [uf_rest, show (rfF t sh e b u be bf ou m).lookup ("rest" : Str) = none from by kernel_rfl] at h
  cases h
theorem tf_uf {r' n' : Int} : tfF c l n a1 a2 a3 a4 ≠ ufF r' n' := fun h => by
  have h := congrArg (List.lookup ("codes" : Str)) h
  rw [tf_codes, show (ufF r' n').lookup ("codes" : Str) = none from by kernel_rfl] at h
  cases h
end
/-- the kinds of a tree's parts; of a packer's -/
def TreeKind : HO → Prop
  | .dT _ => True
  | .dK _ => True
  | .tup _ => True
  | .ins _ _ fs => ∃ c l n a1 a2 a3 a4, fs = tfF c l n a1 a2 a3 a4
  | _ => False
def PackKind : HO → Prop
  | .lst _ => True
  | .ins _ _ fs => ∃ a r n, fs = pfF a r n
  | _ => False
section
variable {C p : Addr} {G G' H H' : Hp} {z : Sizes} {t : Tree} {o : List Nat} {l : List Bool}
theorem TreeAt.keepK (x : TreeAt C G H p z t) (hk : ∀ b o, H b = some o → TreeKind o → H' b = some o) : TreeAt C G H' p z t := by
  obtain ⟨⟨dx, a1, a2, a3, a4, g, D, h0, h1, h2, h3, h4, h5, h6⟩, w, gd⟩ := x
  exact ⟨⟨dx, a1, a2, a3, a4, g, D, hk _ _ h0 ⟨_, _, _, _, _, _, _, rfl⟩, hk _ _ h1 trivial, hk _ _ h2 trivial, hk _ _ h3 trivial, hk _ _ h4 trivial, fun y hy => hk _ _ (h5 y hy) trivial, h6⟩, w, gd⟩
theorem PackAt.keepK (x : PackAt C G H p o l) (hk : ∀ b o, H b = some o → PackKind o → H' b = some o) : PackAt C G H' p o l := by
  obtain ⟨dx, a, h0, h1, h2⟩ := x
  exact ⟨dx, a, hk _ _ h0 ⟨_, _, _, rfl⟩, hk _ _ h1 trivial, h2⟩
/-- apart from the tree's parts all is kept through what is done to it -/
theorem TreeAt.ownK (x : TreeAt C G H p z t) (s : Same G H) : ∃ G', Same G' H ∧ Same G G' ∧ TreeAt C G' H p z t ∧ ∀ H', Same G' H' → ∀ b o, H b = some o → ¬ TreeKind o → H' b = some o := by
  obtain ⟨S, m1, m2, m3⟩ := x.own s
  refine ⟨_, mask_same, m1, m2, fun H' s' b o e h => s' b o ?_⟩
  rw [mask_out fun m => ?_]
  · exact e
  · refine h ?_
    rcases m3 b m with ⟨l, q⟩ | ⟨l, q⟩ | ⟨dx, c, l, n, a1, a2, a3, a4, q⟩
    · rw [e] at q; cases q; trivial
    · rw [e] at q; cases q; trivial
    · rw [e] at q; cases q; exact ⟨_, _, _, _, _, _, _, rfl⟩
theorem PackAt.ownK (x : PackAt C G H p o l) (s : Same G H) : ∃ G', Same G' H ∧ Same G G' ∧ PackAt C G' H p o l ∧ ∀ H', Same G' H' → ∀ b o, H b = some o → ¬ PackKind o → H' b = some o := by
  obtain ⟨S, m1, m2, m3⟩ := x.own s
  refine ⟨_, mask_same, m1, m2, fun H' s' b o e h => s' b o ?_⟩
  rw [mask_out fun m => ?_]
  · exact e
  · refine h ?_
    rcases m3 b m with ⟨l, q⟩ | ⟨dx, a, r, n, q⟩
    · rw [e] at q; cases q; trivial
    · rw [e] at q; cases q; exact ⟨_, _, _, rfl⟩
theorem tree_pack {o : HO} (h : TreeKind o) : ¬ PackKind o := by
  intro q
  cases o with
  | ins C dx fs =>
    obtain ⟨c, l, n, a1, a2, a3, a4, rfl⟩ := h
    obtain ⟨a, r, n, e⟩ := q
    exact tf_pf e
  | dT _ => exact q
  | dK _ => exact q
  | tup _ => exact q
  | _ => exact h
theorem pack_tree {o : HO} (h : PackKind o) : ¬ TreeKind o := fun q => tree_pack q h
end
section
variable {P : Program} {w : World} {K : PySem.W.Frag} {mg : Str → Option Value} {base : Heap}
/-- **a sender stands at p, apart from G; o are the octets that its packer has** -/
structure SendP (T : PT K mg) (G H : Hp) (p dx pt pk : Addr) (z : Sizes) (s : Ql65.Sender) (o : List Nat) : Prop where
  ob : H p = some (.ins T.sender.C dx (sfF pt s.short s.escape s.bits pk (oV s.string) (oV s.last)))
  tr : TreeAt T.tree.C G H pt z s.tree
  pa : PackAt T.packer.C G H pk o s.waits
  gp : G p = none
def SendR (T : PT K mg) (G H : Hp) (p : Addr) (z : Sizes) (s : Ql65.Sender) (o : List Nat) : Prop := ∃ dx pt pk, SendP T G H p dx pt pk z s o
section
variable {T : PT K mg} {G G' H H' : Hp} {p dx pt pk : Addr} {z : Sizes} {s : Ql65.Sender} {o : List Nat}
theorem not_tree_s {sh : Bool} {e b : Int} {st fr : V} {C : Addr} : ¬ TreeKind (.ins C dx (sfF pt sh e b pk st fr)) := fun ⟨_, _, _, _, _, _, _, q⟩ => tf_sf q.symm
theorem not_pack_s {sh : Bool} {e b : Int} {st fr : V} {C : Addr} : ¬ PackKind (.ins C dx (sfF pt sh e b pk st fr)) := fun ⟨_, _, _, q⟩ => pf_sf q.symm
theorem SendP.kept (x : SendP T G H p dx pt pk z s o) (e : Same H H') : SendP T G H' p dx pt pk z s o := ⟨e _ _ x.ob, x.tr.kept e, x.pa.kept e, x.gp⟩
theorem SendP.less (x : SendP T G H p dx pt pk z s o) (e : Same G' G) : SendP T G' H p dx pt pk z s o := ⟨x.ob, x.tr.less e, x.pa.less e, e.free x.gp⟩
theorem SendR.kept (x : SendR T G H p z s o) (e : Same H H') : SendR T G H' p z s o := let ⟨dx, pt, pk, y⟩ := x; ⟨dx, pt, pk, y.kept e⟩
theorem SendR.less (x : SendR T G H p z s o) (e : Same G' G) : SendR T G' H p z s o := let ⟨dx, pt, pk, y⟩ := x; ⟨dx, pt, pk, y.less e⟩
theorem SendP.pack (x : SendP T G H p dx pt pk z s o) (sG : Same G H) : ∃ G', Same G' H ∧ PackAt T.packer.C G' H pk o s.waits ∧ ∀ H' o' l', Same G' H' → PackAt T.packer.C G' H' pk o' l' → Same G H' ∧ SendP T G H' p dx pt pk z { s with waits := l' } o' := by
  obtain ⟨G', m1, m2, m3, m4⟩ := x.pa.ownK sG
  exact ⟨G', m1, m3, fun H' o' l' s' PA' => ⟨m2.trans s', m4 H' s' _ _ x.ob not_pack_s, x.tr.keepK fun b o e h => m4 H' s' b o e (tree_pack h), PA'.less m2, x.gp⟩⟩
theorem SendP.tree (x : SendP T G H p dx pt pk z s o) (sG : Same G H) : ∃ G', Same G' H ∧ TreeAt T.tree.C G' H pt z s.tree ∧ ∀ H' t', Same G' H' → TreeAt T.tree.C G' H' pt z t' → Same G H' ∧ SendP T G H' p dx pt pk z { s with tree := t' } o := by
  obtain ⟨G', m1, m2, m3, m4⟩ := x.tr.ownK sG
  exact ⟨G', m1, m3, fun H' t' s' TA' => ⟨m2.trans s', m4 H' s' _ _ x.ob not_tree_s, TA'.less m2, x.pa.keepK fun b o e h => m4 H' s' b o e (pack_tree h), x.gp⟩⟩
theorem SendP.set (x : SendP T G H p dx pt pk z s o) (s' : Ql65.Sender) (h1 : s'.tree = s.tree) (h2 : s'.waits = s.waits) : SendP T G (upd H p (.ins T.sender.C dx (sfF pt s'.short s'.escape s'.bits pk (oV s'.string) (oV s'.last)))) p dx pt pk z s' o := by
  refine ⟨upd_same, ?_, ?_, x.gp⟩
  · rw [h1]
    refine x.tr.keepK fun b o e h => ?_
    rw [upd_ne fun q => ?_]
    · exact e
    · rw [q, x.ob] at e
      cases e
      exact not_tree_s h
  · rw [h2]
    refine x.pa.keepK fun b o e h => ?_
    rw [upd_ne fun q => ?_]
    · exact e
    · rw [q, x.ob] at e
      cases e
      exact not_pack_s h
end
def spSendInit (T : PT K mg) : Sp := fun vs H Q _ => ∃ (G : Hp) (p dx : Addr) (z : Sizes), vs = [.ref p, .int z.codes, .int z.longest] ∧ Good z ∧ H p = some (.ins T.sender.C dx []) ∧ Same G H ∧ G p = none ∧ ∀ H', Same G H' → SendR T G H' p z startS [] → Q .non H'
theorem put4_s {t : Addr} {sh : Bool} {e b : Int} {pk : Addr} {st fr : V} : putF "fresh" fr (putF "string" st (putF "packer" (.ref pk) (put4 t sh e b []))) = sfF t sh e b pk st fr := sf_made
theorem put4_ss {t t' : Addr} {sh sh' : Bool} {e e' b b' : Int} {pk : Addr} {st fr : V} : put4 t' sh' e' b' (sfF t sh e b pk st fr) = sfF t' sh' e' b' pk st fr := by
  unfold put4
  rw [sfp_tree, sfp_short, sfp_escape, sfp_bits]
theorem ok_sendInit (T : PT K mg) : FnOk P w K mg base CX0 5 T.sender.init_.f T.sender.init_.fd ["self", "codes", "longest"] (spSendInit T) := by
  refine T.sender.init_.F.ok scSender_init (fun vs H Q E h => ?_) (fun cdv A outer s H vs Q E hr h => ?_)
  · obtain ⟨G, p, dx, z, rfl, _⟩ := h
    rfl
  · obtain ⟨G, p, dx, z, rfl, gd, hp, sG, gp, k⟩ := h
    have cl := T.sender.cl
    refine ⟨_, pss_cons (ps_expr (pe_clsm T.lineEnd.cm (ok_lineInit T) hr rfl T.lineEnd.at_ T.lineEnd.init_.b .nil pass0 (pa_cons (pv 0) (pa_cons (pv 1) (pa_cons (pv 2) pa_nil)))))
      (pss_cons (ps_fld (pv 0) (pe_make0 T.packer.mak (ok_packInit T) (hr.mono (by decide)) rfl T.packer.at_ T.packer.init_.b .nil pass0) rfl)
      (pss_cons (ps_fld (pv 0) pe_non rfl) (pss_one (ps_fld (pv 0) pe_non rfl)))), ?_⟩
    refine ⟨_, rfl, _, rfl, _, rfl, G, T.sender.C, p, dx, [], z, rfl, line_S T, gd, sG, gp, hp, (by show 0 ≤ 900; decide), rfl, fun pt H1 s1 TA1 hp1 => ?_⟩
    intro q dq nq ndq nne
    have s0 : Same H1 (upd (upd H1 dq (.own q)) q (.ins T.packer.C dq [])) := fun b o e => by
      rw [upd_ne (ne_of_none e nq), upd_ne (ne_of_none e ndq)]
      exact e
    refine ⟨H1, q, dq, rfl, upd_same, s0, nq, fun H2 s2 PA2 => ⟨rfl, ?_⟩⟩
    have hp2 := s2 _ _ hp1
    refine ⟨_, rfl, p, _, dx, _, rfl, hp2, cl, T.sender.n_packer, (by show 4 < 1000; decide), ?_⟩
    refine ⟨_, rfl, p, _, dx, _, rfl, upd_same, cl, T.sender.n_string, (by show 5 < 1000; decide), ?_⟩
    refine ⟨_, rfl, p, _, dx, _, rfl, upd_same, cl, T.sender.n_fresh, (by show 6 < 1000; decide), ?_⟩
    rw [upd_upd, upd_upd, put4_s]
    have s12 := s1.trans s2
    have np4 : ∀ {C' : Addr} {fs : List (Str × V)}, fs.lookup ("short" : Str) = none → HO.ins C' dx fs ≠ HO.ins T.sender.C dx (put4 pt false 0 9 []) := fun {C' fs} h e => by
      have e := (HO.ins.inj e).2.2
      rw [e] at h
      rw [show (put4 pt false 0 9 []).lookup ("short" : Str) = some (.bl false) from by kernel_rfl] at h
      cases h
    refine k _ (same_put s12 gp) ⟨dx, pt, q, upd_same, ?_, ?_, gp⟩
    · refine (TA1.kept s2).keepK fun b o e h => ?_
      rw [upd_ne fun z => ?_]
      · exact e
      · rw [z, hp2] at e
        cases e
        obtain ⟨c, l, n, a1, a2, a3, a4, e⟩ := h
        have h := congrArg (List.lookup ("codes" : Str)) e
        rw [tf_codes, show (put4 pt false 0 9 []).lookup ("codes" : Str) = none from by kernel_rfl] at h
        cases h
    · refine (PA2.less s1).keepK fun b o e h => ?_
      rw [upd_ne fun z => ?_]
      · exact e
      · rw [z, hp2] at e
        cases e
        obtain ⟨a, r, n, e⟩ := h
        have h := congrArg (List.lookup ("octets" : Str)) e
        rw [pf_octets, show (put4 pt false 0 9 []).lookup ("octets" : Str) = none from by kernel_rfl] at h
        cases h
def spSendCopy (T : PT K mg) : Sp := fun vs H Q _ => ∃ (G : Hp) (p : Addr) (z : Sizes) (s : Ql65.Sender) (o : List Nat), vs = [.ref p] ∧ SendR T G H p z s o ∧ ∀ q H', Same H H' → SendR T H H' q z s o → Q (.ref q) H'
theorem ok_sendCopy (T : PT K mg) : FnOk P w K mg base CX0 7 T.sender.copy_.f T.sender.copy_.fd ["self"] (spSendCopy T) := by
  refine T.sender.copy_.F.ok scSender_copy (fun vs H Q E h => ?_) (fun cdv A outer s₀ H vs Q E hr h => ?_)
  · obtain ⟨G, p, z, s, o, rfl, _⟩ := h
    rfl
  · obtain ⟨G, p, z, s, o, rfl, ⟨dx, pt, pk, x⟩, k⟩ := h
    have cl := T.sender.cl
    refine ⟨_, pss_cons (ps_set (i := 1) scSender_copy.nd rfl (Or.inl rfl) (pe_make T.sender.mak (ok_sendInit T) hr rfl T.sender.at_ T.sender.init_.b .nil pass0 (pa_cons (pe_fld (pe_fld (pv 0) rfl) rfl) (pa_cons (pe_fld (pe_fld (pv 0) rfl) rfl) pa_nil))))
      (pss_cons (ps_expr (pe_meth (pv 1) cl T.sender_become_like (ok_like T) (hr.mono (by decide)) T.lineEnd.become_like_.b .nil pass0 (pa_cons (pv 0) pa_nil)))
      (pss_cons (ps_fld (pv 1) (pe_meth0 (pe_fld (pv 0) rfl) T.packer.cl T.packer.m_copy (ok_packCopy T) (hr.mono (by decide)) T.packer.copy_.b .nil pass0) rfl)
      (pss_cons (ps_fld (pv 1) (pe_fld (pv 0) rfl) rfl)
      (pss_cons (ps_fld (pv 1) (pe_fld (pv 0) rfl) rfl)
      (pss_one (ps_ret (pv 1))))))), ?_⟩
    obtain ⟨⟨ex, a1, a2, a3, a4, g, D, e0, _⟩, wf, gd⟩ := id x.tr
    refine ⟨_, rfl, p, _, dx, _, _, rfl, x.ob, cl, T.sender.n_tree, sf_tree, pt, _, ex, _, _, rfl, e0, T.tree.cl, T.tree.n_codes, tf_codes, _, rfl, p, _, dx, _, _, rfl, x.ob, cl, T.sender.n_tree, sf_tree, pt, _, ex, _, _, rfl, e0, T.tree.cl, T.tree.n_longest, tf_longest, ?_⟩
    intro q dq nq ndq nne
    have s0 : Same H (upd (upd H dq (.own q)) q (.ins T.sender.C dq [])) := fun b o e => by
      rw [upd_ne (ne_of_none e nq), upd_ne (ne_of_none e ndq)]
      exact e
    refine ⟨H, q, dq, z, rfl, gd, upd_same, s0, nq, fun H1 s1 ⟨dy, qt, qk, y⟩ => ⟨rfl, ?_⟩⟩
    have x1 := x.kept s1
    have pq : q ≠ p := fun e => by rw [e, x.ob] at nq; cases nq
    -- twin.become_like(self)
    refine ⟨_, rfl, q, dy, _, rfl, y.ob, sfn_become_like, _, rfl, H, T.sender.C, q, dy, T.sender.C, p, dx, pt, _, _, z, s.tree, s.short, (s.escape : Int), (s.bits : Int), rfl, line_S T, line_S T, s1, nq, y.ob, (by rw [sf_len]; decide), x1.ob, pq, sf_tree, sf_short, sf_escape, sf_bits, ⟨G, x1.tr⟩, fun pt' H2 s2 TA2 kp2 hq2 => ?_⟩
    rw [put4_ss] at hq2
    obtain ⟨ek, al, f0, f1, i0, i1⟩ := id (x.pa.kept s2)
    have x2 := x.kept s2
    -- twin.packer = self.packer.copy()
    refine ⟨_, rfl, p, _, dx, _, _, rfl, x2.ob, cl, T.sender.n_packer, sf_packer, pk, ek, _, rfl, f0, pfn_copy, G, pk, o, s.waits, rfl, x2.pa, fun qk' H3 s3 PA3 => ?_⟩
    refine ⟨_, rfl, q, _, dy, _, rfl, s3 _ _ hq2, cl, T.sender.n_packer, (by rw [sf_len]; decide), ?_⟩
    rw [sfp_packer]
    have s23 := s2.trans s3
    have sq : Same H (upd H3 q (HO.ins T.sender.C dy (sfF pt' s.short s.escape s.bits qk' (oV startS.string) (oV startS.last)))) := same_put s23 nq
    refine ⟨_, rfl, p, _, dx, _, _, rfl, (sq _ _ x.ob), cl, T.sender.n_string, sf_string, _, rfl, q, _, dy, _, rfl, upd_same, cl, T.sender.n_string, (by rw [sf_len]; decide), ?_⟩
    rw [sfp_string, upd_upd]
    have sq2 : Same H (upd H3 q (HO.ins T.sender.C dy (sfF pt' s.short s.escape s.bits qk' (oV s.string) (oV startS.last)))) := same_put s23 nq
    refine ⟨_, rfl, p, _, dx, _, _, rfl, (sq2 _ _ x.ob), cl, T.sender.n_fresh, sf_fresh, _, rfl, q, _, dy, _, rfl, upd_same, cl, T.sender.n_fresh, (by rw [sf_len]; decide), ?_⟩
    rw [sfp_fresh, upd_upd]
    refine ⟨_, rfl, k q _ (same_put s23 nq) ⟨dy, pt', qk', upd_same, ?_, ?_, nq⟩⟩
    · refine (TA2.kept s3).keepK fun b o e h => ?_
      rw [upd_ne fun z => ?_]
      · exact e
      · rw [z, s3 _ _ hq2] at e
        cases e
        exact not_tree_s h
    · refine (PA3.less s2).keepK fun b o e h => ?_
      rw [upd_ne fun z => ?_]
      · exact e
      · rw [z, s3 _ _ hq2] at e
        cases e
        exact not_pack_s h
end
end SL
namespace SL
open PySem hiding Tree
open L2 Sl Ql65
/-! lengths -/
theorem numbered_len : ∀ (f b k : Nat), (numbered f b k).1.length ≤ (f + 1) * (b + f)
  | 0, b, k => by
    show (bitsOf b k).length ≤ 1 * (b + 0)
    rw [bitsOf_length]
    omega
  | f + 1, b, k => by
    by_cases h : k < 2 ^ b
    · rw [numbered_lt h]
      show (bitsOf b k).length ≤ _
      rw [bitsOf_length]
      calc b ≤ b + (f + 1) := by omega
        _ ≤ (f + 1 + 1) * (b + (f + 1)) := Nat.le_mul_of_pos_left _ (by omega)
    · rw [numbered_ge h]
      show (bitsOf b 2 ++ (numbered f (b + 1) k).1).length ≤ _
      rw [List.length_append, bitsOf_length]
      have i := numbered_len f (b + 1) k
      have e : (f + 1 + 1) * (b + (f + 1)) = (f + 1) * (b + 1 + f) + (b + (f + 1)) := by
        rw [Nat.succ_mul, show b + (f + 1) = b + 1 + f by omega]
      omega
theorem number_len {s : Ql65.Sender} {k : Nat} (hb : s.bits ≤ 16) (hw : s.waits.length < 8) : (s.number k).2.length ≤ 69 := by
  show (pack (s.waits ++ (numbered 16 s.bits k).1)).1.length ≤ 69
  have h := (pack_rest (s.waits ++ (numbered 16 s.bits k).1)).2.1
  have i := numbered_len 16 s.bits k
  rw [List.length_append] at h
  have : (16 + 1) * (s.bits + 16) ≤ 17 * 32 := Nat.mul_le_mul_left _ (by omega)
  omega
theorem byte_len {z : Sizes} {s : Ql65.Sender} {b : Nat} (o : SOk z s) : (s.byte z b).2.length ≤ 69 := by
  unfold Sender.byte
  split
  · split
    · show 2 ≤ 69; decide
    · show 1 ≤ 69; decide
  · split
    · show 0 ≤ 69; decide
    · dsimp only
      split
      · show 0 ≤ 69; decide
      · exact number_len o.b2 o.wt
section
variable {P : Program} {w : World} {K : PySem.W.Frag} {mg : Str → Option Value} {base : Heap}
def spPushEsc (T : PT K mg) : Sp := fun vs H Q _ => ∃ (G : Hp) (p : Addr) (z : Sizes) (s : Ql65.Sender) (o : List Nat) (m : Nat), vs = [.ref p, .int m] ∧ Same G H ∧ SendR T G H p z s o ∧ s.waits = [] ∧ s.escape < 256 ∧ m < 256 ∧ o.length + 100 ≤ sizeLine ∧
  ∀ H', Same G H' → SendR T G H' p z s (o ++ [s.escape, m]) → Q .non H'
theorem ok_pushEsc (T : PT K mg) : FnOk P w K mg base CX0 2 T.sender.push_escape_.f T.sender.push_escape_.fd ["self", "meaning"] (spPushEsc T) := by
  refine T.sender.push_escape_.F.ok scSender_push_escape (fun vs H Q E h => ?_) (fun cdv A outer s₀ H vs Q E hr h => ?_)
  · obtain ⟨G, p, z, s, o, m, rfl, _⟩ := h
    rfl
  · obtain ⟨G, p, z, s, o, m, rfl, sG, ⟨dx, pt, pk, x⟩, hw, he, hm, ho, k⟩ := h
    have cl := T.sender.cl
    have mt := fun (X : Cx) => X
    refine ⟨_, pss_cons (ps_expr (pe_meth (pe_fld (pv 0) rfl) T.packer.cl T.packer.m_push (ok_push T) hr T.packer.push_.b .nil pass0 (pa_cons (pe_fld (pv 0) rfl) (pa_cons (pe_gi T.g_OCTET_BITS) pa_nil))))
      (pss_one (ps_expr (pe_meth (pe_fld (pv 0) rfl) T.packer.cl T.packer.m_push (ok_push T) hr T.packer.push_.b .nil pass0 (pa_cons (pv 1) (pa_cons (pe_gi T.g_OCTET_BITS) pa_nil))))), ?_⟩
    obtain ⟨G1, m1, m2, m3⟩ := x.pack sG
    obtain ⟨ek, al, f0, f1, i0, i1⟩ := id x.pa
    refine ⟨_, rfl, p, _, dx, _, _, rfl, x.ob, cl, T.sender.n_packer, sf_packer, pk, ek, _, rfl, f0, pfn_push, _, rfl, p, _, dx, _, _, rfl, x.ob, cl, T.sender.n_escape, sf_escape, G1, pk, o, s.waits, s.escape, 8, rfl, m1, m2, he, by decide, by rw [hw]; decide, by omega, fun H1 s1 PA1 => ?_⟩
    rw [hw, List.nil_append, pack_byte he] at PA1
    obtain ⟨sG1, x1⟩ := m3 H1 _ _ s1 PA1
    obtain ⟨G2, n1, n2, n3⟩ := x1.pack sG1
    obtain ⟨ek', al', f0', f1', i0', i1'⟩ := id x1.pa
    refine ⟨_, rfl, p, _, dx, _, _, rfl, x1.ob, cl, T.sender.n_packer, sf_packer, pk, ek', _, rfl, f0', pfn_push, _, rfl, G2, pk, _, _, m, 8, rfl, n1, n2, hm, by decide, (by show 0 < 8; decide), (by rw [List.length_append]; show o.length + 1 + 8 ≤ sizeLine; omega), fun H2 s2 PA2 => ?_⟩
    obtain ⟨sG2, x2⟩ := n3 H2 _ _ s2 PA2
    refine k H2 sG2 ⟨dx, pt, pk, ?_⟩
    have ew : ({ ({ s with waits := [] } : Ql65.Sender) with waits := (pack (([] : List Bool) ++ bitsOf 8 m)).2 } : Ql65.Sender) = s := by
      rw [List.nil_append, pack_byte hm]
      show ({ s with waits := [] } : Ql65.Sender) = s
      rw [← hw]
    have eo : (o ++ [s.escape]) ++ (pack (([] : List Bool) ++ bitsOf 8 m)).1 = o ++ [s.escape, m] := by
      rw [List.nil_append, pack_byte hm, List.append_assoc]
      rfl
    rw [← ew, ← eo]
    exact x2
def spSend (T : PT K mg) : Sp := fun vs H Q _ => ∃ (G : Hp) (p : Addr) (z : Sizes) (s : Ql65.Sender) (o : List Nat) (n : Nat), vs = [.ref p, .int n] ∧ Same G H ∧ SendR T G H p z s o ∧ 9 ≤ s.bits ∧ s.bits ≤ 16 ∧ s.waits.length < 8 ∧ n < 65536 ∧ o.length + 100 ≤ sizeLine ∧
  ∀ H', Same G H' → SendR T G H' p z (s.number n).1 (o ++ (s.number n).2) → Q .non H'
theorem bits_of {n b : Nat} : (b : Int) < ((Builtin.Int.intBits (n : Int) : Nat) : Int) ↔ ¬ n < 2 ^ b := by
  have e : Builtin.Int.intBits (n : Int) = if n = 0 then 0 else n.log2 + 1 := by
    unfold Builtin.Int.intBits
    simp [Int.natAbs_natCast]
  rw [e]
  by_cases h : n = 0
  · subst h
    have : 0 < 2 ^ b := Nat.pow_pos (by decide)
    simp
  · rw [if_neg h]
    have q := @Nat.log2_lt n b h
    rw [← q]
    omega
theorem ok_send (T : PT K mg) : FnOk P w K mg base CX0 2 T.sender.send_.f T.sender.send_.fd ["self", "number"] (spSend T) := by
  refine T.sender.send_.F.ok scSender_send (fun vs H Q E h => ?_) (fun cdv A outer s₀ H vs Q E hr h => ?_)
  · obtain ⟨G, p, z, s, o, n, rfl, _⟩ := h
    rfl
  · obtain ⟨G, p, z, s, o, n, rfl, sG, ⟨dx, pt, pk, x⟩, b1, b2, hw, hn, ho, k⟩ := h
    have cl := T.sender.cl
    refine ⟨_, pss_cons (ps_while PassesOwn.never (pt_cmpR op_gt (pe_bm0 PySem.F.plainAttrs_int PySem.F.slot_int_bit_length PySem.F.type_int_bit_length mt_bit_length (pv 1)) (pe_fld (pv 0) rfl) (nomark _))
        (pss_cons (ps_expr (pe_meth (pe_fld (pv 0) rfl) T.packer.cl T.packer.m_push (ok_push T) hr T.packer.push_.b .nil pass0 (pa_cons (pe_gi T.g_STEP) (pa_cons (pe_fld (pv 0) rfl) pa_nil))))
        (pss_one (ps_fldaug (pv 0) pe_int in_add))))
      (pss_one (ps_expr (pe_meth (pe_fld (pv 0) rfl) T.packer.cl T.packer.m_push (ok_push T) hr T.packer.push_.b .nil pass0 (pa_cons (pv 1) (pa_cons (pe_fld (pv 0) rfl) pa_nil))))), ?_⟩
    -- target
    refine ⟨fun m σ H' => ∃ (s' : Ql65.Sender) (o' : List Nat) (f : Nat), σ = [some (.ref p), some (.int (n : Int))] ∧ Same G H' ∧ SendP T G H' p dx pt pk z s' o' ∧ 9 ≤ s'.bits ∧ s'.bits ≤ 16 ∧ s'.waits.length < 8 ∧ 16 ≤ f + s'.bits ∧
        o' ++ (pack (s'.waits ++ (numbered f s'.bits n).1)).1 = o ++ (s.number n).2 ∧ ({ s' with bits := (numbered f s'.bits n).2, waits := (pack (s'.waits ++ (numbered f s'.bits n).1)).2 } : Ql65.Sender) = (s.number n).1 ∧ o'.length + 3 * (17 - s'.bits) + 60 ≤ sizeLine ∧ 16 - s'.bits = m,
      ⟨_, s, o, 16, rfl, sG, x, b1, b2, hw, by omega, rfl, rfl, by omega, rfl⟩, ?_⟩
    rintro m σ H' ⟨s', o', f, rfl, sG', x', c1, c2, c3, c4, c5, c6, c7, rfl⟩
    obtain ⟨ek, al, f0, f1, i0, i1⟩ := id x'.pa
    refine ⟨_, rfl, rfl, _, rfl, rfl, _, rfl, p, _, dx, _, _, rfl, x'.ob, cl, T.sender.n_bits, sf_bits, _, _, rfl, rfl, _, rfl, ?_⟩
    refine ite2 (fun c => ?_) (fun c => ?_)
    · have c : ¬ n < 2 ^ s'.bits := bits_of.mp (of_decide_eq_true c)
      have nb : s'.bits ≠ 16 := fun e => by
        rw [e] at c
        exact c hn
      obtain ⟨f', rfl⟩ : ∃ f', f = f' + 1 := by
        cases f with
        | zero => omega
        | succ f' => exact ⟨f', rfl⟩
      rw [numbered_ge c] at c5 c6
      obtain ⟨G1, m1, m2, m3⟩ := x'.pack sG'
      have h2 : 2 < 2 ^ s'.bits := Nat.lt_of_lt_of_le (by decide : 2 < 2 ^ 9) (Nat.pow_le_pow_right (by decide) c1)
      refine ⟨fun σ' H'' => ∃ (s'' : Ql65.Sender) (o' : List Nat) (f : Nat), σ' = [some (.ref p), some (.int (n : Int))] ∧ Same G H'' ∧ SendP T G H'' p dx pt pk z s'' o' ∧ 9 ≤ s''.bits ∧ s''.bits ≤ 16 ∧ s''.waits.length < 8 ∧ 16 ≤ f + s''.bits ∧
          o' ++ (pack (s''.waits ++ (numbered f s''.bits n).1)).1 = o ++ (s.number n).2 ∧ ({ s'' with bits := (numbered f s''.bits n).2, waits := (pack (s''.waits ++ (numbered f s''.bits n).1)).2 } : Ql65.Sender) = (s.number n).1 ∧ o'.length + 3 * (17 - s''.bits) + 60 ≤ sizeLine ∧ 16 - s''.bits < 16 - s'.bits,
        fun σ' H'' ⟨s'', o', f, d1, d2, d3, d4, d5, d6, d7, d8, d9, d10, d11⟩ => ⟨_, d11, s'', o', f, d1, d2, d3, d4, d5, d6, d7, d8, d9, d10, rfl⟩, ?_⟩
      refine ⟨_, rfl, p, _, dx, _, _, rfl, x'.ob, cl, T.sender.n_packer, sf_packer, pk, ek, _, rfl, f0, pfn_push, _, rfl, p, _, dx, _, _, rfl, x'.ob, cl, T.sender.n_bits, sf_bits, G1, pk, o', s'.waits, 2, s'.bits, rfl, m1, m2, h2, c2, c3, by omega, fun H1 s1 PA1 => ?_⟩
      obtain ⟨sG1, x1⟩ := m3 H1 _ _ s1 PA1
      refine ⟨_, rfl, p, _, dx, _, _, rfl, x1.ob, cl, T.sender.n_bits, sf_bits, _, _, rfl, rfl, dx, _, x1.ob, (by rw [sf_len]; decide), ?_⟩
      rw [sfp_bits]
      have pr := pack_rest (s'.waits ++ bitsOf s'.bits 2)
      have pl : (s'.waits ++ bitsOf s'.bits 2).length = s'.waits.length + s'.bits := by rw [List.length_append, bitsOf_length]
      have x2 := x1.set { ({ s' with waits := (pack (s'.waits ++ bitsOf s'.bits 2)).2 } : Ql65.Sender) with bits := s'.bits + 1 } rfl rfl
      have pa := pack_append (s'.waits ++ bitsOf s'.bits 2) (numbered f' (s'.bits + 1) n).1
      rw [List.append_assoc] at pa
      refine ⟨{ ({ s' with waits := (pack (s'.waits ++ bitsOf s'.bits 2)).2 } : Ql65.Sender) with bits := s'.bits + 1 }, o' ++ (pack (s'.waits ++ bitsOf s'.bits 2)).1, f', rfl, same_put sG1 x.gp, x2, (by show 9 ≤ s'.bits + 1; omega), (by show s'.bits + 1 ≤ 16; omega), pr.1, (by show 16 ≤ f' + (s'.bits + 1); omega), ?_, ?_, ?_, (by show 16 - (s'.bits + 1) < 16 - s'.bits; omega)⟩
      · rw [List.append_assoc, ← c5]
        show o' ++ ((pack (s'.waits ++ bitsOf s'.bits 2)).1 ++ (pack ((pack (s'.waits ++ bitsOf s'.bits 2)).2 ++ (numbered f' (s'.bits + 1) n).1)).1) = o' ++ (pack (s'.waits ++ (bitsOf s'.bits 2 ++ (numbered f' (s'.bits + 1) n).1))).1
        rw [pa]
      · rw [← c6]
        show ({ s' with bits := _, waits := (pack ((pack (s'.waits ++ bitsOf s'.bits 2)).2 ++ (numbered f' (s'.bits + 1) n).1)).2 } : Ql65.Sender) = { s' with bits := _, waits := (pack (s'.waits ++ (bitsOf s'.bits 2 ++ (numbered f' (s'.bits + 1) n).1))).2 }
        rw [pa]
      · rw [List.length_append]
        show o'.length + (pack (s'.waits ++ bitsOf s'.bits 2)).1.length + 3 * (17 - (s'.bits + 1)) + 60 ≤ sizeLine
        omega
    · have c : n < 2 ^ s'.bits := Classical.byContradiction fun q => c (decide_eq_true (bits_of.mpr q))
      rw [numbered_lt c] at c5 c6
      obtain ⟨G1, m1, m2, m3⟩ := x'.pack sG'
      refine ⟨_, rfl, p, _, dx, _, _, rfl, x'.ob, cl, T.sender.n_packer, sf_packer, pk, ek, _, rfl, f0, pfn_push, _, rfl, _, rfl, p, _, dx, _, _, rfl, x'.ob, cl, T.sender.n_bits, sf_bits, G1, pk, o', s'.waits, n, s'.bits, rfl, m1, m2, c, c2, c3, by omega, fun H1 s1 PA1 => ?_⟩
      obtain ⟨sG1, x1⟩ := m3 H1 _ _ s1 PA1
      refine k H1 sG1 ⟨dx, pt, pk, ?_⟩
      rw [← c5, ← c6]
      exact x1
def spPutPlain (T : PT K mg) : Sp := fun vs H Q _ => ∃ (G : Hp) (p : Addr) (z : Sizes) (s : Ql65.Sender) (o : List Nat) (b : Nat), vs = [.ref p, .int b] ∧ Same G H ∧ SendR T G H p z s o ∧ SOk z s ∧ s.short = false ∧ b < 256 ∧ o.length + 100 ≤ sizeLine ∧
  ∀ H', Same G H' → SendR T G H' p z (s.byte z b).1 (o ++ (s.byte z b).2) → Q .non H'
theorem ok_putPlain (T : PT K mg) : FnOk P w K mg base CX0 3 T.sender.put_plain_.f T.sender.put_plain_.fd ["self", "byte"] (spPutPlain T) := by
  refine T.sender.put_plain_.F.ok scSender_put_plain (fun vs H Q E h => ?_) (fun cdv A outer s₀ H vs Q E hr h => ?_)
  · obtain ⟨G, p, z, s, o, b, rfl, _⟩ := h
    rfl
  · obtain ⟨G, p, z, s, o, b, rfl, sG, ⟨dx, pt, pk, x⟩, ok, hs, hb, ho, k⟩ := h
    have cl := T.sender.cl
    obtain ⟨_, hw, _⟩ := ok.pl hs
    refine ⟨_, pss_one (ps_if (pt_cmpR op_eq (pv 1) (pe_fld (pv 0) rfl) (nomark _))
      (pss_cons (ps_expr (pe_meth (pv 0) cl T.sender.m_push_escape (ok_pushEsc T) hr T.sender.push_escape_.b .nil pass0 (pa_cons (pe_gi T.g_ESCAPE_ITSELF) pa_nil)))
        (pss_one (ps_expr (pe_meth0 (pv 0) cl T.sender_move_escape (ok_move T) (hr.mono (by decide)) T.lineEnd.move_escape_.b .nil pass0))))
      (pss_one (ps_expr (pe_meth (pe_fld (pv 0) rfl) T.packer.cl T.packer.m_push (ok_push T) (hr.mono (by decide)) T.packer.push_.b .nil pass0 (pa_cons (pv 1) (pa_cons (pe_gi T.g_OCTET_BITS) pa_nil)))))), ?_⟩
    refine ⟨_, rfl, _, rfl, p, _, dx, _, _, rfl, x.ob, cl, T.sender.n_escape, sf_escape, rfl, _, rfl, ?_⟩
    have eb : s.byte z b = if b = s.escape then ({ s with escape := turn s.escape }, [b, 1]) else (s, [b]) := by
      unfold Sender.byte
      rw [if_pos hs]
    refine ite2 (fun c => ?_) (fun c => ?_)
    · have c : b = s.escape := Int.natCast_inj.mp (V.int.inj (of_decide_eq_true c))
      refine ⟨_, rfl, p, dx, _, rfl, x.ob, sfn_push_escape, G, p, z, s, o, 1, rfl, sG, ⟨dx, pt, pk, x⟩, hw, ok.esc, by decide, ho, fun H1 s1 ⟨dx1, pt1, pk1, x1⟩ => ?_⟩
      refine ⟨_, rfl, p, dx1, _, rfl, x1.ob, sfn_move_escape, T.sender.C, p, dx1, _, s.escape, rfl, line_S T, x1.ob, (by rw [sf_len]; decide), sf_escape, ?_⟩
      rw [sfp_escape]
      refine k _ (same_put s1 x1.gp) ⟨dx1, pt1, pk1, ?_⟩
      rw [eb, if_pos c, c]
      exact x1.set { s with escape := turn s.escape } rfl rfl
    · have c : ¬ b = s.escape := fun q => c (decide_eq_true (by rw [q]))
      obtain ⟨G1, m1, m2, m3⟩ := x.pack sG
      obtain ⟨ek, al, f0, f1, i0, i1⟩ := id x.pa
      refine ⟨_, rfl, p, _, dx, _, _, rfl, x.ob, cl, T.sender.n_packer, sf_packer, pk, ek, _, rfl, f0, pfn_push, _, rfl, G1, pk, o, s.waits, b, 8, rfl, m1, m2, hb, by decide, by rw [hw]; decide, by omega, fun H1 s1 PA1 => ?_⟩
      rw [hw, List.nil_append, pack_byte hb] at PA1
      obtain ⟨sG1, x1⟩ := m3 H1 _ _ s1 PA1
      refine k _ sG1 ⟨dx, pt, pk, ?_⟩
      rw [eb, if_neg c]
      have ew : ({ s with waits := [] } : Ql65.Sender) = s := by rw [← hw]
      rw [ew] at x1
      exact x1
end
end SL
namespace SL
open PySem hiding Tree
open L2 Sl Ql65
section
variable {P : Program} {w : World} {K : PySem.W.Frag} {mg : Str → Option Value} {base : Heap}
theorem oV_byte (b : Nat) : V.int (3 + (b : Int)) = oV (some (b + 3)) := by
  show V.int (3 + (b : Int)) = V.int ((b + 3 : Nat) : Int)
  rw [show (3 + (b : Int)) = ((b + 3 : Nat) : Int) by omega]
theorem byte_none {z : Sizes} {s : Ql65.Sender} {b : Nat} (hs : s.short = true) (hk : s.string = none) : s.byte z b = ({ s with string := some (b + 3) }, []) := by
  unfold Sender.byte
  rw [if_neg (by rw [hs]; decide), hk]
theorem byte_some {z : Sizes} {s : Ql65.Sender} {b n : Nat} (hs : s.short = true) (hk : s.string = some n) : s.byte z b = if (s.tree.child n b).isSome = true ∧ s.tree.child n b ≠ s.last then ({ s with string := s.tree.child n b }, [])
    else ({ (s.number n).1 with tree := addT z s.tree n b, last := addN z s.tree n b, string := some (b + 3) }, (s.number n).2) := by
  unfold Sender.byte
  rw [if_neg (by rw [hs]; decide), hk]
  rfl
def spPutShort (T : PT K mg) : Sp := fun vs H Q _ => ∃ (G : Hp) (p : Addr) (z : Sizes) (s : Ql65.Sender) (o : List Nat) (b : Nat), vs = [.ref p, .int b] ∧ Same G H ∧ SendR T G H p z s o ∧ SOk z s ∧ s.short = true ∧ b < 256 ∧ o.length + 100 ≤ sizeLine ∧
  ∀ H', Same G H' → SendR T G H' p z (s.byte z b).1 (o ++ (s.byte z b).2) → Q .non H'
theorem ok_putShort (T : PT K mg) : FnOk P w K mg base CX0 4 T.sender.put_short_.f T.sender.put_short_.fd ["self", "byte"] (spPutShort T) := by
  refine T.sender.put_short_.F.ok scSender_put_short (fun vs H Q E h => ?_) (fun cdv A outer s₀ H vs Q E hr h => ?_)
  · obtain ⟨G, p, z, s, o, b, rfl, _⟩ := h
    rfl
  · obtain ⟨G, p, z, s, o, b, rfl, sG, ⟨dx, pt, pk, x⟩, ok, hs, hb, ho, k⟩ := h
    have cl := T.sender.cl
    have hr1 : Room 1 _ := hr.mono (by decide)
    have hr2 : Room 2 _ := hr.mono (by decide)
    refine ⟨_, pss_cons (ps_if (pt_cmp (pc_isN (pe_fld (pv 0) rfl))) (pss_cons (ps_fld (pv 0) (pe_op op_add (pe_gi T.g_FIRST_BYTE) (pv 1)) rfl) (pss_one ps_retN)) pss_nil)
      (pss_cons (ps_set (i := 2) scSender_put_short.nd rfl (Or.inl rfl) (pe_meth (pe_fld (pv 0) rfl) T.tree.cl T.tree.m_find (ok_find T) hr1 T.tree.find_.b .nil pass0 (pa_cons (pe_fld (pv 0) rfl) (pa_cons (pv 1) pa_nil))))
      (pss_cons (ps_if (pw_and (pt_cmp (pc_notN (pv 2))) (pw_and1 (pt_cmpR op_ne (pv 2) (pe_fld (pv 0) rfl) (nomark _)))).pt (pss_cons (ps_fld (pv 0) (pv 2) rfl) (pss_one ps_retN)) pss_nil)
      (pss_cons (ps_expr (pe_meth (pv 0) cl T.sender.m_send (ok_send T) hr2 T.sender.send_.b .nil pass0 (pa_cons (pe_fld (pv 0) rfl) pa_nil)))
      (pss_cons (ps_fld (pv 0) (pe_meth (pe_fld (pv 0) rfl) T.tree.cl T.tree.m_add (ok_add T) hr T.tree.add_.b .nil pass0 (pa_cons (pe_fld (pv 0) rfl) (pa_cons (pv 1) pa_nil))) rfl)
      (pss_one (ps_fld (pv 0) (pe_op op_add (pe_gi T.g_FIRST_BYTE) (pv 1)) rfl)))))), ?_⟩
    have gd := x.tr.gd
    refine ⟨_, rfl, p, _, dx, _, _, rfl, x.ob, cl, T.sender.n_string, sf_string, _, rfl, ?_⟩
    cases hk : s.string with
    | none =>
      have eb := byte_none (z := z) (b := b) hs hk
      refine iteT ?_
      refine ⟨_, rfl, _, _, rfl, rfl, ?_⟩
      refine ⟨_, rfl, p, _, dx, _, rfl, x.ob, cl, T.sender.n_string, (by rw [sf_len]; decide), ?_⟩
      rw [sfp_string]
      refine k _ (same_put sG x.gp) ⟨dx, pt, pk, ?_⟩
      rw [eb, List.append_nil]
      have y := x.set { s with string := some (b + 3) } rfl rfl
      show SendP T G (upd H p (.ins T.sender.C dx (sfF pt s.short s.escape s.bits pk (V.int (3 + (b : Int))) (oV s.last)))) p dx pt pk z _ o
      rw [oV_byte]
      exact y
    | some n =>
      have eb := byte_some (z := z) (b := b) hs hk
      have hn := ok.st n hk
      refine iteF ?_
      -- node = self.tree.find(self.string, byte)
      obtain ⟨⟨ex, a1, a2, a3, a4, g, D, e0, _⟩, wf, _⟩ := id x.tr
      have ls : (sfF pt s.short s.escape s.bits pk (oV s.string) (oV s.last)).lookup ("string" : Str) = some (V.int (n : Int)) := by rw [sf_string, hk]; rfl
      refine ⟨_, rfl, p, _, dx, _, _, rfl, x.ob, cl, T.sender.n_tree, sf_tree, pt, ex, _, rfl, e0, tfn_find, _, rfl, p, _, dx, _, _, rfl, x.ob, cl, T.sender.n_string, ls, _, rfl, G, pt, z, s.tree, n, b, rfl, x.tr, fun H1 s1 => ?_⟩
      have x1 := x.kept s1
      have sG1 := sG.trans s1
      -- the way behind: it is sent and added
      have go : ¬ ((s.tree.child n b).isSome = true ∧ s.tree.child n b ≠ s.last) → ∀ (v : Option V), tSeq (tDrop (tMeth T.sender.C "send" (spSend T) [] E0 (tVar 0) (tCons (tFld K (tVar 0) "string") tNil)))
          (tSeq (sFld K (tVar 0) (tMeth T.tree.C "add" (spAdd T.tree.C) [] E0 (tFld K (tVar 0) "tree") (tCons (tFld K (tVar 0) "string") (tCons (tVar 1) tNil))) "fresh")
          (sFld K (tVar 0) (tOp (rI0 fun i j => .int (i + j)) (tC (.int 3)) (tVar 1)) "string")) { nx := fun _ H' => Q .non H', rt := Q } [some (.ref p), some (.int (b : Int)), v] H1 := by
        intro hc v
        rw [if_neg hc] at eb
        refine ⟨_, rfl, p, dx, _, rfl, x1.ob, sfn_send, _, rfl, p, _, dx, _, _, rfl, x1.ob, cl, T.sender.n_string, ls, G, p, z, s, o, n, rfl, sG1, ⟨dx, pt, pk, x1⟩, ok.b1, ok.b2, ok.wt, ok.lt gd hk, ho, fun H2 sG2 ⟨dx2, pt2, pk2, x2⟩ => ?_⟩
        have ls2 : (sfF pt2 (s.number n).1.short (s.number n).1.escape (s.number n).1.bits pk2 (oV (s.number n).1.string) (oV (s.number n).1.last)).lookup ("string" : Str) = some (V.int (n : Int)) := by
          rw [sf_string]
          show some (oV s.string) = _
          rw [hk]
          rfl
        obtain ⟨G3, m1, m2, m3⟩ := x2.tree sG2
        obtain ⟨⟨ex2, b1, b2, b3, b4, g2, D2, f0, _⟩, wf2, _⟩ := id x2.tr
        refine ⟨_, rfl, p, _, dx2, _, _, rfl, x2.ob, cl, T.sender.n_tree, sf_tree, pt2, ex2, _, rfl, f0, tfn_add, _, rfl, p, _, dx2, _, _, rfl, x2.ob, cl, T.sender.n_string, ls2, _, rfl, G3, pt2, z, _, n, b, rfl, m1, m2, ok.tree, hn, hb, fun H3 s3 TA3 => ?_⟩
        obtain ⟨sG3, x3⟩ := m3 H3 _ s3 TA3
        refine ⟨_, rfl, p, _, dx2, _, rfl, x3.ob, cl, T.sender.n_fresh, (by rw [sf_len]; decide), ?_⟩
        rw [sfp_fresh]
        refine ⟨_, rfl, _, _, rfl, rfl, ?_⟩
        refine ⟨_, rfl, p, _, dx2, _, rfl, upd_same, cl, T.sender.n_string, (by rw [sf_len]; decide), ?_⟩
        rw [sfp_string, upd_upd]
        refine k _ (same_put sG3 x.gp) ⟨dx2, pt2, pk2, ?_⟩
        have y := x3.set { ({ (s.number n).1 with tree := addT z (s.number n).1.tree n b } : Ql65.Sender) with last := addN z s.tree n b, string := some (b + 3) } rfl rfl
        rw [eb]
        show SendP T G (upd H3 p (.ins T.sender.C dx2 (sfF pt2 s.short s.escape _ pk2 (V.int (3 + (b : Int))) (oV (addN z s.tree n b))))) p dx2 pt2 pk2 z _ _
        rw [oV_byte]
        exact y
      cases hc : s.tree.child n b with
      | none =>
        refine ⟨_, rfl, _, rfl, iteF (iteF ?_)⟩
        exact go (by rw [hc]; exact fun q => absurd q.1 (by decide)) _
      | some c =>
        refine ⟨_, rfl, _, rfl, iteT ?_⟩
        have hsc : scal (oV (some c)) (oV s.last) = true := by cases s.last <;> rfl
        refine ⟨_, rfl, _, rfl, p, _, dx, _, _, rfl, x1.ob, cl, T.sender.n_fresh, sf_fresh, hsc, _, rfl, ?_⟩
        have hd : decide (oV (some c) = oV s.last) = decide (some c = s.last) := by
          refine decide_eq_decide.mpr ⟨fun q => ?_, fun q => by rw [q]⟩
          cases hl : s.last with
          | none => rw [hl] at q; cases q
          | some f =>
            rw [hl] at q
            rw [Int.natCast_inj.mp (V.int.inj q)]
        rw [hd]
        by_cases hl : some c = s.last
        · rw [decide_eq_true hl]
          refine iteF ?_
          exact go (by rw [hc]; exact fun q => q.2 hl) _
        · rw [decide_eq_false hl]
          refine iteT ?_
          refine ⟨_, rfl, _, rfl, p, _, dx, _, rfl, x1.ob, cl, T.sender.n_string, (by rw [sf_len]; decide), ?_⟩
          rw [sfp_string]
          refine k _ (same_put sG1 x.gp) ⟨dx, pt, pk, ?_⟩
          rw [hc, if_pos ⟨rfl, hl⟩] at eb
          rw [eb, List.append_nil]
          exact x1.set { s with string := some c } rfl rfl
theorem nV_get {l : List Nat} {i : Nat} {x : V} (h : (nV l)[i]? = some x) : ∃ b, l[i]? = some b ∧ x = .int (b : Int) := by
  unfold nV at h
  rw [List.getElem?_map] at h
  cases e : l[i]? with
  | none => rw [e] at h; cases h
  | some b =>
    rw [e] at h
    exact ⟨b, rfl, (Option.some.inj h).symm⟩
theorem put_len {z : Sizes} (g : Good z) : ∀ (l : List Nat) (s : Ql65.Sender), SOk z s → (∀ x, x ∈ l → x < 256) → (s.put z l).2.length ≤ 69 * l.length
  | [], s, _, _ => by show 0 ≤ _; omega
  | x :: r, s, o, h => by
    have i := put_len g r (s.byte z x).1 (o.byte g (h x List.mem_cons_self)) fun y hy => h y (List.mem_cons_of_mem _ hy)
    have j := byte_len (b := x) o
    show ((s.byte z x).2 ++ ((s.byte z x).1.put z r).2).length ≤ _
    rw [List.length_append, List.length_cons]
    omega
/-- octets handed over behind a call of the sender -/
def Over (T : PT K mg) (G : Hp) (p : Addr) (z : Sizes) (y : Ql65.Sender × List Nat) (Q : VK) : Prop := ∀ a H', Same G H' → SendR T G H' p z y.1 [] → H' a = some (.lst (nV y.2)) → G a = none → Q (.ref a) H'
/-- return self.packer.hand_over() -/
theorem over_of {T : PT K mg} {G H : Hp} {p : Addr} {z : Sizes} {s : Ql65.Sender} {o : List Nat} {Q : VK} {σ : L2.St} (h0 : σ[0]? = some (some (.ref p))) (sG : Same G H) (x : SendR T G H p z s o) (k : Over T G p z (s, o) Q) :
    tMeth T.packer.C "hand_over" (spHand T.packer.C) [] E0 (tFld K (tVar 0) "packer") tNil σ H Q := by
  obtain ⟨dx, pt, pk, x⟩ := x
  obtain ⟨G1, m1, m2, m3⟩ := x.pack sG
  obtain ⟨ek, al, f0, f1, i0, i1⟩ := id x.pa
  obtain ⟨G2, q1, q2, q3, q4⟩ := x.pa.ownK sG
  refine ⟨_, h0, p, _, dx, _, _, rfl, x.ob, T.sender.cl, T.sender.n_packer, sf_packer, pk, ek, _, rfl, f0, pfn_hand_over, G2, pk, o, s.waits, rfl, q1, q3, fun a H' s' PA' ha ga => ?_⟩
  exact k a H' (q2.trans s') ⟨dx, pt, pk, q4 H' s' _ _ x.ob not_pack_s, x.tr.keepK fun b o e h => q4 H' s' b o e (tree_pack h), PA'.less q2, x.gp⟩ ha (q2.free ga)
def spPut (T : PT K mg) : Sp := fun vs H Q _ => ∃ (G : Hp) (p ar : Addr) (z : Sizes) (s : Ql65.Sender) (l : List Nat), vs = [.ref p, .ref ar] ∧ Same G H ∧ SendR T G H p z s [] ∧ SOk z s ∧ G ar = some (.lst (nV l)) ∧ (∀ x, x ∈ l → x < 256) ∧ l.length ≤ 30000 ∧ Over T G p z (s.put z l) Q
theorem ok_put (T : PT K mg) : FnOk P w K mg base CX0 5 T.sender.put_.f T.sender.put_.fd ["self", "row"] (spPut T) := by
  refine T.sender.put_.F.ok scSender_put (fun vs H Q E h => ?_) (fun cdv A outer s₀ H vs Q E hr h => ?_)
  · obtain ⟨G, p, ar, z, s, l, rfl, _⟩ := h
    rfl
  · obtain ⟨G, p, ar, z, s, l, rfl, sG, x, ok, ga, hl, hlen, k⟩ := h
    have cl := T.sender.cl
    have gd : Good z := by obtain ⟨_, _, _, y⟩ := x; exact y.tr.gd
    refine ⟨_, pss_cons (ps_for PassesOwn.never rfl (pi_list (pv 1)) (pg_name (i := 2) scSender_put.nd rfl (Or.inl rfl))
        (pss_one (ps_if (pt_val (pe_fld (pv 0) rfl)) (pss_one (ps_expr (pe_meth (pv 0) cl T.sender.m_put_short (ok_putShort T) hr T.sender.put_short_.b .nil pass0 (pa_cons (pv 2) pa_nil))))
          (pss_one (ps_expr (pe_meth (pv 0) cl T.sender.m_put_plain (ok_putPlain T) (hr.mono (by decide)) T.sender.put_plain_.b .nil pass0 (pa_cons (pv 2) pa_nil)))))))
      (pss_one (ps_ret (pe_meth0 (pe_fld (pv 0) rfl) T.packer.cl T.packer.m_hand_over (ok_hand T) (hr.mono (by decide)) T.packer.hand_over_.b .nil pass0))), ?_⟩
    have sub : ∀ i, ∀ y, y ∈ l.take i → y < 256 := fun i y hy => hl y (List.mem_of_mem_take hy)
    refine ⟨_, rfl, ar, rfl, ⟨_, SqL.of (sG _ _ ga)⟩, for_list (K := K) (a := ar) (xs := nV l) (fun i σ H' => ∃ v, σ = [some (.ref p), some (.ref ar), v] ∧ Same G H' ∧ SendR T G H' p z (s.put z (l.take i)).1 (s.put z (l.take i)).2)
      ⟨none, rfl, sG, x⟩ (fun i σ H' _ ⟨_, _, s', _⟩ => SqL.of (s' _ _ ga)) ?_ ?_⟩
    · rintro i y σ H' hi ⟨v, rfl, s', dx, pt, pk, x'⟩
      obtain ⟨b, hb, rfl⟩ := nV_get hi
      have hil : i < l.length := (List.getElem?_eq_some_iff.mp hb).1
      have b256 : b < 256 := hl b (List.mem_of_getElem? hb)
      have ok' : SOk z (s.put z (l.take i)).1 := SOk.put gd _ s ok (sub i)
      have pl := put_len gd (l.take i) s ok (sub i)
      have tl : (l.take i).length = i := by rw [List.length_take]; omega
      have room : (s.put z (l.take i)).2.length + 100 ≤ sizeLine := by
        rw [sizeLine_eq]
        omega
      have et : l.take (i + 1) = l.take i ++ [b] := by
        rw [List.take_add_one, hb]
        rfl
      have nxt : ∀ H2, Same G H2 → SendR T G H2 p z ((s.put z (l.take i)).1.byte z b).1 ((s.put z (l.take i)).2 ++ ((s.put z (l.take i)).1.byte z b).2) → ∃ v', ([some (.ref p), some (.ref ar), some (V.int (b : Int))] : L2.St) = [some (.ref p), some (.ref ar), v'] ∧ Same G H2 ∧ SendR T G H2 p z (s.put z (l.take (i + 1))).1 (s.put z (l.take (i + 1))).2 := fun H2 s2 x2 => by
        refine ⟨_, rfl, s2, ?_⟩
        rw [et, put_snoc]
        exact x2
      refine ⟨_, rfl, p, _, dx, _, _, rfl, x'.ob, cl, T.sender.n_short, sf_short, _, rfl, ?_⟩
      cases hs : (s.put z (l.take i)).1.short with
      | true =>
        refine iteT ?_
        exact ⟨_, rfl, p, dx, _, rfl, x'.ob, sfn_put_short, _, rfl, G, p, z, _, _, b, rfl, s', ⟨dx, pt, pk, x'⟩, ok', hs, b256, room, fun H2 s2 x2 => nxt H2 s2 x2⟩
      | false =>
        refine iteF ?_
        exact ⟨_, rfl, p, dx, _, rfl, x'.ob, sfn_put_plain, _, rfl, G, p, z, _, _, b, rfl, s', ⟨dx, pt, pk, x'⟩, ok', hs, b256, room, fun H2 s2 x2 => nxt H2 s2 x2⟩
    · rintro σ H' ⟨v, rfl, s', x'⟩
      rw [nV_len, List.take_length] at x'
      exact over_of rfl s' x' k
def spEnds (T : PT K mg) : Sp := fun vs H Q _ => ∃ (G : Hp) (p : Addr) (z : Sizes) (s : Ql65.Sender) (n : Nat), vs = [.ref p, .int n] ∧ Same G H ∧ SendR T G H p z s [] ∧ SOk z s ∧ n < 512 ∧ ∀ H', Same G H' → SendR T G H' p z (s.ends n).1 (s.ends n).2 → Q .non H'
theorem ok_ends (T : PT K mg) : FnOk P w K mg base CX0 3 T.sender.send_string_and_sign_.f T.sender.send_string_and_sign_.fd ["self", "sign"] (spEnds T) := by
  refine T.sender.send_string_and_sign_.F.ok scSender_send_string_and_sign (fun vs H Q E h => ?_) (fun cdv A outer s₀ H vs Q E hr h => ?_)
  · obtain ⟨G, p, z, s, n, rfl, _⟩ := h
    rfl
  · obtain ⟨G, p, z, s, n, rfl, sG, ⟨dx, pt, pk, x⟩, ok, hn, k⟩ := h
    have cl := T.sender.cl
    have gd := x.tr.gd
    refine ⟨_, pss_cons (ps_if (pt_cmp (pc_notN (pe_fld (pv 0) rfl))) (pss_one (ps_expr (pe_meth (pv 0) cl T.sender.m_send (ok_send T) hr T.sender.send_.b .nil pass0 (pa_cons (pe_fld (pv 0) rfl) pa_nil)))) pss_nil)
      (pss_cons (ps_expr (pe_meth (pv 0) cl T.sender.m_send (ok_send T) hr T.sender.send_.b .nil pass0 (pa_cons (pv 1) pa_nil)))
      (pss_cons (ps_expr (pe_meth0 (pe_fld (pv 0) rfl) T.packer.cl T.packer.m_fill_up (ok_fill T) hr T.packer.fill_up_.b .nil pass0))
      (pss_cons (ps_fld (pv 0) pe_non rfl) (pss_one (ps_fld (pv 0) pe_non rfl))))), ?_⟩
    -- behind the string
    have rest : ∀ (y : Ql65.Sender × List Nat) (H1 : Hp), Same G H1 → SendR T G H1 p z y.1 y.2 → 9 ≤ y.1.bits → y.1.bits ≤ 16 → y.1.waits.length < 8 → y.2.length ≤ 69 →
        (({ (y.1.number n).1.pad.1 with string := none, last := none } : Ql65.Sender), y.2 ++ ((y.1.number n).2 ++ (y.1.number n).1.pad.2)) = s.ends n →
        tSeq (tDrop (tMeth T.sender.C "send" (spSend T) [] E0 (tVar 0) (tCons (tVar 1) tNil))) (tSeq (tDrop (tMeth T.packer.C "fill_up" (spFill T.packer.C) [] E0 (tFld K (tVar 0) "packer") tNil))
          (tSeq (sFld K (tVar 0) (tC .non) "string") (sFld K (tVar 0) (tC .non) "fresh"))) { nx := fun _ H' => Q .non H', rt := Q } [some (.ref p), some (.int (n : Int))] H1 := by
      rintro ⟨s1, o1⟩ H1 sG1 ⟨dx1, pt1, pk1, x1⟩ b1 b2 b3 b4 ee
      have b4' : o1.length ≤ 69 := b4
      refine ⟨_, rfl, p, dx1, _, rfl, x1.ob, sfn_send, _, rfl, G, p, z, s1, o1, n, rfl, sG1, ⟨dx1, pt1, pk1, x1⟩, b1, b2, b3, by omega, (by rw [sizeLine_eq]; omega), fun H2 sG2 ⟨dx2, pt2, pk2, x2⟩ => ?_⟩
      have nl : (s1.number n).2.length ≤ 69 := number_len (s := s1) (k := n) b2 b3
      obtain ⟨G3, m1, m2, m3⟩ := x2.pack sG2
      obtain ⟨ek, al, f0, f1, i0, i1⟩ := id x2.pa
      refine ⟨_, rfl, p, _, dx2, _, _, rfl, x2.ob, cl, T.sender.n_packer, sf_packer, pk2, ek, _, rfl, f0, pfn_fill_up, G3, pk2, _, _, rfl, m1, m2, number_waits, (by rw [List.length_append, sizeLine_eq]; omega), fun H3 s3 PA3 => ?_⟩
      obtain ⟨sG3, x3⟩ := m3 H3 _ _ s3 PA3
      refine ⟨_, rfl, p, _, dx2, _, rfl, x3.ob, cl, T.sender.n_string, (by rw [sf_len]; decide), ?_⟩
      rw [sfp_string]
      refine ⟨_, rfl, p, _, dx2, _, rfl, upd_same, cl, T.sender.n_fresh, (by rw [sf_len]; decide), ?_⟩
      rw [sfp_fresh, upd_upd]
      refine k _ (same_put sG3 x.gp) ⟨dx2, pt2, pk2, ?_⟩
      rw [← ee, ← List.append_assoc]
      exact x3.set { ({ (s1.number n).1 with waits := [] } : Ql65.Sender) with string := none, last := none } rfl rfl
    refine ⟨_, rfl, p, _, dx, _, _, rfl, x.ob, cl, T.sender.n_string, sf_string, _, rfl, ?_⟩
    cases hk : s.string with
    | none =>
      refine iteF ?_
      refine rest (s, []) H sG ⟨dx, pt, pk, x⟩ ok.b1 ok.b2 ok.wt (by show 0 ≤ 69; decide) ?_
      unfold Sender.ends
      rw [hk]
    | some j =>
      refine iteT ?_
      have ls : (sfF pt s.short s.escape s.bits pk (oV s.string) (oV s.last)).lookup ("string" : Str) = some (V.int (j : Int)) := by rw [sf_string, hk]; rfl
      refine ⟨_, rfl, p, dx, _, rfl, x.ob, sfn_send, _, rfl, p, _, dx, _, _, rfl, x.ob, cl, T.sender.n_string, ls, G, p, z, s, [], j, rfl, sG, ⟨dx, pt, pk, x⟩, ok.b1, ok.b2, ok.wt, ok.lt gd hk, (by rw [sizeLine_eq]; decide), fun H1 sG1 x1 => ?_⟩
      have nb := number_bits ok.b1 ok.b2 (ok.lt gd hk)
      refine rest (s.number j) H1 sG1 (by rw [List.nil_append] at x1; exact x1) nb.1 nb.2 number_waits (number_len ok.b2 ok.wt) ?_
      unfold Sender.ends
      rw [hk]
def spFlush (T : PT K mg) : Sp := fun vs H Q _ => ∃ (G : Hp) (p : Addr) (z : Sizes) (s : Ql65.Sender), vs = [.ref p] ∧ Same G H ∧ SendR T G H p z s [] ∧ SOk z s ∧ Over T G p z s.flush Q
theorem ok_flush (T : PT K mg) : FnOk P w K mg base CX0 4 T.sender.flush_.f T.sender.flush_.fd ["self"] (spFlush T) := by
  refine T.sender.flush_.F.ok scSender_flush (fun vs H Q E h => ?_) (fun cdv A outer s₀ H vs Q E hr h => ?_)
  · obtain ⟨G, p, z, s, rfl, _⟩ := h
    rfl
  · obtain ⟨G, p, z, s, rfl, sG, ⟨dx, pt, pk, x⟩, ok, k⟩ := h
    have cl := T.sender.cl
    refine ⟨_, pss_cons (ps_if (pt_cmp (pc_notN (pe_fld (pv 0) rfl))) (pss_one (ps_expr (pe_meth (pv 0) cl T.sender.m_send_string_and_sign (ok_ends T) hr T.sender.send_string_and_sign_.b .nil pass0 (pa_cons (pe_gi T.g_FLUSH) pa_nil)))) pss_nil)
      (pss_one (ps_ret (pe_meth0 (pe_fld (pv 0) rfl) T.packer.cl T.packer.m_hand_over (ok_hand T) (hr.mono (by decide)) T.packer.hand_over_.b .nil pass0))), ?_⟩
    refine ⟨_, rfl, p, _, dx, _, _, rfl, x.ob, cl, T.sender.n_string, sf_string, _, rfl, ?_⟩
    cases hk : s.string with
    | none =>
      refine iteF ?_
      have e : s.flush = (s, []) := by
        unfold Sender.flush
        rw [if_pos (.inr hk)]
      rw [e] at k
      exact over_of rfl sG ⟨dx, pt, pk, x⟩ k
    | some j =>
      refine iteT ?_
      have e : s.flush = s.ends 1 := by
        unfold Sender.flush
        rw [if_neg]
        rintro (q | q)
        · have := (ok.pl q).1
          rw [hk] at this
          cases this
        · rw [hk] at q
          cases q
      rw [e] at k
      exact ⟨_, rfl, p, dx, _, rfl, x.ob, sfn_send_string_and_sign, G, p, z, s, 1, rfl, sG, ⟨dx, pt, pk, x⟩, ok, by decide, fun H1 sG1 x1 => over_of rfl sG1 x1 k⟩
def spToShort (T : PT K mg) : Sp := fun vs H Q _ => ∃ (G : Hp) (p : Addr) (z : Sizes) (s : Ql65.Sender), vs = [.ref p] ∧ Same G H ∧ SendR T G H p z s [] ∧ SOk z s ∧ s.short = false ∧ Over T G p z ({ s with short := true }, [s.escape, 0]) Q
theorem ok_toShort (T : PT K mg) : FnOk P w K mg base CX0 3 T.sender.to_short_.f T.sender.to_short_.fd ["self"] (spToShort T) := by
  refine T.sender.to_short_.F.ok scSender_to_short (fun vs H Q E h => ?_) (fun cdv A outer s₀ H vs Q E hr h => ?_)
  · obtain ⟨G, p, z, s, rfl, _⟩ := h
    rfl
  · obtain ⟨G, p, z, s, rfl, sG, ⟨dx, pt, pk, x⟩, ok, hs, k⟩ := h
    have cl := T.sender.cl
    refine ⟨_, pss_cons (ps_expr (pe_meth (pv 0) cl T.sender.m_push_escape (ok_pushEsc T) hr T.sender.push_escape_.b .nil pass0 (pa_cons (pe_gi T.g_ESCAPE_SHORT) pa_nil)))
      (pss_cons (ps_fld (pv 0) pe_bl rfl)
      (pss_one (ps_ret (pe_meth0 (pe_fld (pv 0) rfl) T.packer.cl T.packer.m_hand_over (ok_hand T) (hr.mono (by decide)) T.packer.hand_over_.b .nil pass0)))), ?_⟩
    refine ⟨_, rfl, p, dx, _, rfl, x.ob, sfn_push_escape, G, p, z, s, [], 0, rfl, sG, ⟨dx, pt, pk, x⟩, (ok.pl hs).2.1, ok.esc, by decide, (by rw [sizeLine_eq]; decide), fun H1 sG1 ⟨dx1, pt1, pk1, x1⟩ => ?_⟩
    refine ⟨_, rfl, p, _, dx1, _, rfl, x1.ob, cl, T.sender.n_short, (by rw [sf_len]; decide), ?_⟩
    rw [sfp_short]
    exact over_of rfl (same_put sG1 x.gp) ⟨dx1, pt1, pk1, x1.set { s with short := true } rfl rfl⟩ k
def spToPlain (T : PT K mg) : Sp := fun vs H Q _ => ∃ (G : Hp) (p : Addr) (z : Sizes) (s : Ql65.Sender), vs = [.ref p] ∧ Same G H ∧ SendR T G H p z s [] ∧ SOk z s ∧ Over T G p z ({ (s.ends 0).1 with short := false }, (s.ends 0).2) Q
theorem ok_toPlain (T : PT K mg) : FnOk P w K mg base CX0 4 T.sender.to_plain_.f T.sender.to_plain_.fd ["self"] (spToPlain T) := by
  refine T.sender.to_plain_.F.ok scSender_to_plain (fun vs H Q E h => ?_) (fun cdv A outer s₀ H vs Q E hr h => ?_)
  · obtain ⟨G, p, z, s, rfl, _⟩ := h
    rfl
  · obtain ⟨G, p, z, s, rfl, sG, ⟨dx, pt, pk, x⟩, ok, k⟩ := h
    have cl := T.sender.cl
    refine ⟨_, pss_cons (ps_expr (pe_meth (pv 0) cl T.sender.m_send_string_and_sign (ok_ends T) hr T.sender.send_string_and_sign_.b .nil pass0 (pa_cons (pe_gi T.g_END) pa_nil)))
      (pss_cons (ps_fld (pv 0) pe_bl rfl)
      (pss_one (ps_ret (pe_meth0 (pe_fld (pv 0) rfl) T.packer.cl T.packer.m_hand_over (ok_hand T) (hr.mono (by decide)) T.packer.hand_over_.b .nil pass0)))), ?_⟩
    refine ⟨_, rfl, p, dx, _, rfl, x.ob, sfn_send_string_and_sign, G, p, z, s, 0, rfl, sG, ⟨dx, pt, pk, x⟩, ok, by decide, fun H1 sG1 ⟨dx1, pt1, pk1, x1⟩ => ?_⟩
    refine ⟨_, rfl, p, _, dx1, _, rfl, x1.ob, cl, T.sender.n_short, (by rw [sf_len]; decide), ?_⟩
    rw [sfp_short]
    exact over_of rfl (same_put sG1 x.gp) ⟨dx1, pt1, pk1, x1.set { (s.ends 0).1 with short := false } rfl rfl⟩ k
def spReset (T : PT K mg) : Sp := fun vs H Q _ => ∃ (G : Hp) (p : Addr) (z : Sizes) (s : Ql65.Sender), vs = [.ref p] ∧ Same G H ∧ SendR T G H p z s [] ∧ SOk z s ∧ s.short = false ∧ Over T G p z (startS, [s.escape, 2]) Q
theorem ok_reset (T : PT K mg) : FnOk P w K mg base CX0 5 T.sender.reset_.f T.sender.reset_.fd ["self"] (spReset T) := by
  refine T.sender.reset_.F.ok scSender_reset (fun vs H Q E h => ?_) (fun cdv A outer s₀ H vs Q E hr h => ?_)
  · obtain ⟨G, p, z, s, rfl, _⟩ := h
    rfl
  · obtain ⟨G, p, z, s, rfl, sG, ⟨dx, pt, pk, x⟩, ok, hs, k⟩ := h
    have cl := T.sender.cl
    obtain ⟨h1, h2, h3⟩ := ok.pl hs
    refine ⟨_, pss_cons (ps_expr (pe_meth (pv 0) cl T.sender.m_push_escape (ok_pushEsc T) (hr.mono (by decide)) T.sender.push_escape_.b .nil pass0 (pa_cons (pe_gi T.g_ESCAPE_RESET) pa_nil)))
      (pss_cons (ps_expr (pe_meth0 (pv 0) cl T.sender_start_anew (ok_anew T) hr T.lineEnd.start_anew_.b .nil pass0))
      (pss_one (ps_ret (pe_meth0 (pe_fld (pv 0) rfl) T.packer.cl T.packer.m_hand_over (ok_hand T) (hr.mono (by decide)) T.packer.hand_over_.b .nil pass0)))), ?_⟩
    refine ⟨_, rfl, p, dx, _, rfl, x.ob, sfn_push_escape, G, p, z, s, [], 2, rfl, sG, ⟨dx, pt, pk, x⟩, h2, ok.esc, by decide, (by rw [sizeLine_eq]; decide), fun H1 sG1 ⟨dx1, pt1, pk1, x1⟩ => ?_⟩
    refine ⟨_, rfl, p, dx1, _, rfl, x1.ob, sfn_start_anew, mask H1 [p], T.sender.C, p, dx1, pt1, _, z, s.tree, rfl, line_S T, mask_same, mask_in (by simp), x1.ob, (by rw [sf_len]; decide), sfn_start, sf_tree, ⟨G, x1.tr⟩, fun pt2 H2 s2 TA2 hp2 => ?_⟩
    have sm : Same G (mask H1 [p]) := same_mask sG1 fun b hb => by
      have : b = p := by simpa using hb
      rw [this]
      exact x.gp
    rw [put4_ss] at hp2
    refine over_of rfl (sm.trans s2) ⟨dx1, pt2, pk1, ?_, TA2.less sm, ?_, x.gp⟩ k
    · rw [h1, h3] at hp2
      exact hp2
    · have PA := x1.pa
      rw [h2] at PA
      refine PA.keepK fun b o e h => s2 b o ?_
      rw [mask_out fun m => ?_]
      · exact e
      · have : b = p := by simpa using m
        rw [this, x1.ob] at e
        cases e
        exact not_pack_s h
end
end SL
namespace SL
open PySem hiding Tree
open L2 Sl Ql65
def UnpKind : HO → Prop
  | .ins _ _ fs => ∃ r n, fs = ufF r n
  | _ => False
section
variable {C p : Addr} {G G' H H' : Hp} {l : List Bool}
theorem UnpAt.ownK (x : UnpAt C G H p l) (s : Same G H) : ∃ G', Same G' H ∧ Same G G' ∧ UnpAt C G' H p l ∧ ∀ H', Same G' H' → ∀ b o, H b = some o → ¬ UnpKind o → H' b = some o := by
  obtain ⟨dx, h0, g0⟩ := x
  refine ⟨mask H [p], mask_same, same_mask s fun b hb => ?_, ⟨dx, h0, mask_in (by simp)⟩, fun H' s' b o e h => s' b o ?_⟩
  · have : b = p := by simpa using hb
    rw [this]
    exact g0
  · rw [mask_out fun m => ?_]
    · exact e
    · have : b = p := by simpa using m
      rw [this, h0] at e
      cases e
      exact h ⟨_, _, rfl⟩
theorem UnpAt.keepK (x : UnpAt C G H p l) (hk : ∀ b o, H b = some o → UnpKind o → H' b = some o) : UnpAt C G H' p l := by
  obtain ⟨dx, h0, g0⟩ := x
  exact ⟨dx, hk _ _ h0 ⟨_, _, rfl⟩, g0⟩
theorem tree_unp {o : HO} (h : TreeKind o) : ¬ UnpKind o := by
  intro q
  cases o with
  | ins C dx fs =>
    obtain ⟨c, l, n, a1, a2, a3, a4, rfl⟩ := h
    obtain ⟨r, n, e⟩ := q
    exact tf_uf e
  | dT _ => exact q
  | dK _ => exact q
  | tup _ => exact q
  | _ => exact h
theorem unp_tree {o : HO} (h : UnpKind o) : ¬ TreeKind o := fun q => tree_unp q h
end
section
variable {P : Program} {w : World} {K : PySem.W.Frag} {mg : Str → Option Value} {base : Heap}
/-- **a receiver stands at p, apart from G**; u: what came out so far, m: how many are asked for -/
structure RecvP (T : PT K mg) (G H : Hp) (p dx pt pu po : Addr) (z : Sizes) (r : Ql65.Receiver) (m : Nat) (u : List Nat) : Prop where
  ob : H p = some (.ins T.receiver.C dx (rfF pt r.short r.escape r.bits pu r.half (oV r.before) po m))
  tr : TreeAt T.tree.C G H pt z r.tree
  un : UnpAt T.unpacker.C G H pu r.waits
  ou : H po = some (.lst (nV u))
  gp : G p = none
  go : G po = none
def RecvR (T : PT K mg) (G H : Hp) (p : Addr) (z : Sizes) (r : Ql65.Receiver) (m : Nat) (u : List Nat) : Prop := ∃ dx pt pu po, RecvP T G H p dx pt pu po z r m u
section
variable {T : PT K mg} {G G' H H' : Hp} {p dx pt pu po : Addr} {z : Sizes} {r : Ql65.Receiver} {m : Nat} {u : List Nat}
theorem not_tree_r {sh be : Bool} {e b m : Int} {bf : V} {C : Addr} : ¬ TreeKind (.ins C dx (rfF pt sh e b pu be bf po m)) := fun ⟨_, _, _, _, _, _, _, q⟩ => tf_rf q.symm
theorem not_unp_r {sh be : Bool} {e b m : Int} {bf : V} {C : Addr} : ¬ UnpKind (.ins C dx (rfF pt sh e b pu be bf po m)) := fun ⟨_, _, q⟩ => uf_rf q.symm
theorem RecvP.kept (x : RecvP T G H p dx pt pu po z r m u) (e : Same H H') : RecvP T G H' p dx pt pu po z r m u := ⟨e _ _ x.ob, x.tr.kept e, x.un.kept e, e _ _ x.ou, x.gp, x.go⟩
theorem RecvP.less (x : RecvP T G H p dx pt pu po z r m u) (e : Same G' G) : RecvP T G' H p dx pt pu po z r m u := ⟨x.ob, x.tr.less e, x.un.less e, x.ou, e.free x.gp, e.free x.go⟩
theorem RecvR.kept (x : RecvR T G H p z r m u) (e : Same H H') : RecvR T G H' p z r m u := let ⟨dx, pt, pu, po, y⟩ := x; ⟨dx, pt, pu, po, y.kept e⟩
theorem RecvR.less (x : RecvR T G H p z r m u) (e : Same G' G) : RecvR T G' H p z r m u := let ⟨dx, pt, pu, po, y⟩ := x; ⟨dx, pt, pu, po, y.less e⟩
theorem RecvP.unp (x : RecvP T G H p dx pt pu po z r m u) (sG : Same G H) : ∃ G', Same G' H ∧ UnpAt T.unpacker.C G' H pu r.waits ∧ ∀ H' l', Same G' H' → UnpAt T.unpacker.C G' H' pu l' → Same G H' ∧ RecvP T G H' p dx pt pu po z { r with waits := l' } m u := by
  obtain ⟨G', m1, m2, m3, m4⟩ := x.un.ownK sG
  exact ⟨G', m1, m3, fun H' l' s' UA' => ⟨m2.trans s', m4 H' s' _ _ x.ob not_unp_r, x.tr.keepK fun b o e h => m4 H' s' b o e (tree_unp h), UA'.less m2, m4 H' s' _ _ x.ou (fun q => q), x.gp, x.go⟩⟩
theorem RecvP.tree (x : RecvP T G H p dx pt pu po z r m u) (sG : Same G H) : ∃ G', Same G' H ∧ TreeAt T.tree.C G' H pt z r.tree ∧ ∀ H' t', Same G' H' → TreeAt T.tree.C G' H' pt z t' → Same G H' ∧ RecvP T G H' p dx pt pu po z { r with tree := t' } m u ∧ ∀ b l, H b = some (.lst l) → H' b = some (.lst l) := by
  obtain ⟨G', m1, m2, m3, m4⟩ := x.tr.ownK sG
  exact ⟨G', m1, m3, fun H' t' s' TA' => ⟨m2.trans s', ⟨m4 H' s' _ _ x.ob not_tree_r, TA'.less m2, x.un.keepK fun b o e h => m4 H' s' b o e (unp_tree h), m4 H' s' _ _ x.ou (fun q => q), x.gp, x.go⟩, fun b l e => m4 H' s' b _ e (fun q => q)⟩⟩
theorem RecvP.set (x : RecvP T G H p dx pt pu po z r m u) (r' : Ql65.Receiver) (h1 : r'.tree = r.tree) (h2 : r'.waits = r.waits) : RecvP T G (upd H p (.ins T.receiver.C dx (rfF pt r'.short r'.escape r'.bits pu r'.half (oV r'.before) po m))) p dx pt pu po z r' m u := by
  refine ⟨upd_same, ?_, ?_, ?_, x.gp, x.go⟩
  · rw [h1]
    refine x.tr.keepK fun b o e h => ?_
    rw [upd_ne fun q => ?_]
    · exact e
    · rw [q, x.ob] at e
      cases e
      exact not_tree_r h
  · rw [h2]
    refine x.un.keepK fun b o e h => ?_
    rw [upd_ne fun q => ?_]
    · exact e
    · rw [q, x.ob] at e
      cases e
      exact not_unp_r h
  · rw [upd_ne (ne_of x.ou x.ob (fun z => nomatch z))]
    exact x.ou
theorem RecvP.give (x : RecvP T G H p dx pt pu po z r m u) (u' : List Nat) : RecvP T G (upd H po (.lst (nV u'))) p dx pt pu po z r m u' := by
  refine ⟨?_, ?_, ?_, upd_same, x.gp, x.go⟩
  · rw [upd_ne (ne_of x.ob x.ou (fun z => nomatch z))]
    exact x.ob
  · refine x.tr.keepK fun b o e h => ?_
    rw [upd_ne fun q => ?_]
    · exact e
    · rw [q, x.ou] at e
      cases e
      exact h
  · refine x.un.keepK fun b o e h => ?_
    rw [upd_ne fun q => ?_]
    · exact e
    · rw [q, x.ou] at e
      cases e
      exact h
end
def spRecvInit (T : PT K mg) : Sp := fun vs H Q _ => ∃ (G : Hp) (p dx : Addr) (z : Sizes), vs = [.ref p, .int z.codes, .int z.longest] ∧ Good z ∧ H p = some (.ins T.receiver.C dx []) ∧ Same G H ∧ G p = none ∧ ∀ H', Same G H' → RecvR T G H' p z startR 0 [] → Q .non H'
theorem put4_r {t : Addr} {sh be : Bool} {e b m : Int} {u ou : Addr} {bf : V} : putF "most" (.int m) (putF "out" (.ref ou) (putF "before" bf (putF "behind_escape" (.bl be) (putF "unpacker" (.ref u) (put4 t sh e b []))))) = rfF t sh e b u be bf ou m := rf_made
theorem put4_rr {t t' : Addr} {sh sh' be : Bool} {e e' b b' m : Int} {u ou : Addr} {bf : V} : put4 t' sh' e' b' (rfF t sh e b u be bf ou m) = rfF t' sh' e' b' u be bf ou m := by
  unfold put4
  rw [rfp_tree, rfp_short, rfp_escape, rfp_bits]
theorem ok_recvInit (T : PT K mg) : FnOk P w K mg base CX0 5 T.receiver.init_.f T.receiver.init_.fd ["self", "codes", "longest"] (spRecvInit T) := by
  refine T.receiver.init_.F.ok scReceiver_init (fun vs H Q E h => ?_) (fun cdv A outer s H vs Q E hr h => ?_)
  · obtain ⟨G, p, dx, z, rfl, _⟩ := h
    rfl
  · obtain ⟨G, p, dx, z, rfl, gd, hp, sG, gp, k⟩ := h
    have cl := T.receiver.cl
    refine ⟨_, pss_cons (ps_expr (pe_clsm T.lineEnd.cm (ok_lineInit T) hr rfl T.lineEnd.at_ T.lineEnd.init_.b .nil pass0 (pa_cons (pv 0) (pa_cons (pv 1) (pa_cons (pv 2) pa_nil)))))
      (pss_cons (ps_fld (pv 0) (pe_make0 T.unpacker.mak (ok_unpInit T) (hr.mono (by decide)) rfl T.unpacker.at_ T.unpacker.init_.b .nil pass0) rfl)
      (pss_cons (ps_fld (pv 0) pe_bl rfl) (pss_cons (ps_fld (pv 0) pe_non rfl) (pss_cons (ps_fld (pv 0) (pe_lst pa_nil) rfl) (pss_one (ps_fld (pv 0) pe_int rfl)))))), ?_⟩
    refine ⟨_, rfl, _, rfl, _, rfl, G, T.receiver.C, p, dx, [], z, rfl, line_R T, gd, sG, gp, hp, (by show 0 ≤ 900; decide), rfl, fun pt H1 s1 TA1 hp1 => ?_⟩
    intro q dq nq ndq nne
    have s0 : Same H1 (upd (upd H1 dq (.own q)) q (.ins T.unpacker.C dq [])) := fun b o e => by
      rw [upd_ne (ne_of_none e nq), upd_ne (ne_of_none e ndq)]
      exact e
    refine ⟨H1, q, dq, rfl, upd_same, s0, nq, fun H2 s2 UA2 => ⟨rfl, ?_⟩⟩
    have hp2 := s2 _ _ hp1
    refine ⟨_, rfl, p, _, dx, _, rfl, hp2, cl, T.receiver.n_unpacker, (by show 4 < 1000; decide), ?_⟩
    refine ⟨_, rfl, p, _, dx, _, rfl, upd_same, cl, T.receiver.n_behind_escape, (by show 5 < 1000; decide), ?_⟩
    refine ⟨_, rfl, p, _, dx, _, rfl, upd_same, cl, T.receiver.n_before, (by show 6 < 1000; decide), ?_⟩
    rw [upd_upd, upd_upd]
    refine ⟨(by show 0 ≤ sizeLine; decide), fun a ha => ?_⟩
    have pa : p ≠ a := ne_of_none upd_same ha
    refine ⟨_, rfl, p, _, dx, _, rfl, (by rw [upd_ne pa, upd_same]), cl, T.receiver.n_out, (by show 7 < 1000; decide), ?_⟩
    refine ⟨_, rfl, p, _, dx, _, rfl, upd_same, cl, T.receiver.n_most, (by show 8 < 1000; decide), ?_⟩
    rw [upd_upd, put4_r]
    have s12 := s1.trans s2
    have sp1 : Same G (upd H2 p (HO.ins T.receiver.C dx (putF "before" V.non (putF "behind_escape" (V.bl false) (putF "unpacker" (V.ref q) (put4 pt false 0 9 [])))))) := same_put s12 gp
    have ga : G a = none := free' ha sp1
    have na : ∀ b o, H2 b = some o → b ≠ p → b ≠ a := fun b o e h z => by
      rw [z] at e h
      rw [upd_ne h] at ha
      rw [ha] at e
      cases e
    refine k _ (same_put (same_put sp1 ga) gp) ⟨dx, pt, q, a, upd_same, ?_, ?_, ?_, gp, ga⟩
    · refine (TA1.kept s2).keepK fun b o e h => ?_
      have bp : b ≠ p := fun z => by
        rw [z, hp2] at e
        cases e
        obtain ⟨c, l, n, a1, a2, a3, a4, e⟩ := h
        have h := congrArg (List.lookup ("codes" : Str)) e
        rw [tf_codes, show (put4 pt false 0 9 []).lookup ("codes" : Str) = none from by kernel_rfl] at h
        cases h
      rw [upd_ne bp, upd_ne (na b o e bp), upd_ne bp]
      exact e
    · refine (UA2.less s1).keepK fun b o e h => ?_
      have bp : b ≠ p := fun z => by
        rw [z, hp2] at e
        cases e
        obtain ⟨r, n, e⟩ := h
        have h := congrArg (List.lookup ("rest" : Str)) e
        rw [uf_rest, show (put4 pt false 0 9 []).lookup ("rest" : Str) = none from by kernel_rfl] at h
        cases h
      rw [upd_ne bp, upd_ne (na b o e bp), upd_ne bp]
      exact e
    · rw [upd_ne pa.symm, upd_same]
      rfl
def spRecvCopy (T : PT K mg) : Sp := fun vs H Q _ => ∃ (G : Hp) (p : Addr) (z : Sizes) (r : Ql65.Receiver) (m : Nat) (u : List Nat), vs = [.ref p] ∧ RecvR T G H p z r m u ∧ ∀ q H', Same H H' → RecvR T H H' q z r 0 [] → Q (.ref q) H'
theorem ok_recvCopy (T : PT K mg) : FnOk P w K mg base CX0 7 T.receiver.copy_.f T.receiver.copy_.fd ["self"] (spRecvCopy T) := by
  refine T.receiver.copy_.F.ok scReceiver_copy (fun vs H Q E h => ?_) (fun cdv A outer s₀ H vs Q E hr h => ?_)
  · obtain ⟨G, p, z, r, m, u, rfl, _⟩ := h
    rfl
  · obtain ⟨G, p, z, r, m, u, rfl, ⟨dx, pt, pu, po, x⟩, k⟩ := h
    have cl := T.receiver.cl
    refine ⟨_, pss_cons (ps_set (i := 1) scReceiver_copy.nd rfl (Or.inl rfl) (pe_make T.receiver.mak (ok_recvInit T) hr rfl T.receiver.at_ T.receiver.init_.b .nil pass0 (pa_cons (pe_fld (pe_fld (pv 0) rfl) rfl) (pa_cons (pe_fld (pe_fld (pv 0) rfl) rfl) pa_nil))))
      (pss_cons (ps_expr (pe_meth (pv 1) cl T.receiver_become_like (ok_like T) (hr.mono (by decide)) T.lineEnd.become_like_.b .nil pass0 (pa_cons (pv 0) pa_nil)))
      (pss_cons (ps_fld (pv 1) (pe_meth0 (pe_fld (pv 0) rfl) T.unpacker.cl T.unpacker.m_copy (ok_unpCopy T) (hr.mono (by decide)) T.unpacker.copy_.b .nil pass0) rfl)
      (pss_cons (ps_fld (pv 1) (pe_fld (pv 0) rfl) rfl)
      (pss_cons (ps_fld (pv 1) (pe_fld (pv 0) rfl) rfl)
      (pss_one (ps_ret (pv 1))))))), ?_⟩
    obtain ⟨⟨ex, a1, a2, a3, a4, g, D, e0, _⟩, wf, gd⟩ := id x.tr
    refine ⟨_, rfl, p, _, dx, _, _, rfl, x.ob, cl, T.receiver.n_tree, rf_tree, pt, _, ex, _, _, rfl, e0, T.tree.cl, T.tree.n_codes, tf_codes, _, rfl, p, _, dx, _, _, rfl, x.ob, cl, T.receiver.n_tree, rf_tree, pt, _, ex, _, _, rfl, e0, T.tree.cl, T.tree.n_longest, tf_longest, ?_⟩
    intro q dq nq ndq nne
    have s0 : Same H (upd (upd H dq (.own q)) q (.ins T.receiver.C dq [])) := fun b o e => by
      rw [upd_ne (ne_of_none e nq), upd_ne (ne_of_none e ndq)]
      exact e
    refine ⟨H, q, dq, z, rfl, gd, upd_same, s0, nq, fun H1 s1 ⟨dy, qt, qu, qo, y⟩ => ⟨rfl, ?_⟩⟩
    have x1 := x.kept s1
    have pq : q ≠ p := fun e => by rw [e, x.ob] at nq; cases nq
    refine ⟨_, rfl, q, dy, _, rfl, y.ob, rfn_become_like, _, rfl, H, T.receiver.C, q, dy, T.receiver.C, p, dx, pt, _, _, z, r.tree, r.short, (r.escape : Int), (r.bits : Int), rfl, line_R T, line_R T, s1, nq, y.ob, (by rw [rf_len]; decide), x1.ob, pq, rf_tree, rf_short, rf_escape, rf_bits, ⟨G, x1.tr⟩, fun pt' H2 s2 TA2 kp2 hq2 => ?_⟩
    rw [put4_rr] at hq2
    have x2 := x.kept s2
    obtain ⟨ek, f0, i0⟩ := id x2.un
    have yo := kp2 _ _ y.ou (ne_of y.ou y.ob (fun z => nomatch z))
    refine ⟨_, rfl, p, _, dx, _, _, rfl, x2.ob, cl, T.receiver.n_unpacker, rf_unpacker, pu, ek, _, rfl, f0, ufn_copy, G, pu, r.waits, rfl, x2.un, fun qu' H3 s3 UA3 => ?_⟩
    refine ⟨_, rfl, q, _, dy, _, rfl, s3 _ _ hq2, cl, T.receiver.n_unpacker, (by rw [rf_len]; decide), ?_⟩
    rw [rfp_unpacker]
    have s23 := s2.trans s3
    have sq : Same H (upd H3 q (HO.ins T.receiver.C dy (rfF pt' r.short r.escape r.bits qu' startR.half (oV startR.before) qo ((0 : Nat) : Int)))) := same_put s23 nq
    refine ⟨_, rfl, p, _, dx, _, _, rfl, (sq _ _ x.ob), cl, T.receiver.n_behind_escape, rf_behind_escape, _, rfl, q, _, dy, _, rfl, upd_same, cl, T.receiver.n_behind_escape, (by rw [rf_len]; decide), ?_⟩
    rw [rfp_behind_escape, upd_upd]
    have sq2 : Same H (upd H3 q (HO.ins T.receiver.C dy (rfF pt' r.short r.escape r.bits qu' r.half (oV startR.before) qo ((0 : Nat) : Int)))) := same_put s23 nq
    refine ⟨_, rfl, p, _, dx, _, _, rfl, (sq2 _ _ x.ob), cl, T.receiver.n_before, rf_before, _, rfl, q, _, dy, _, rfl, upd_same, cl, T.receiver.n_before, (by rw [rf_len]; decide), ?_⟩
    rw [rfp_before, upd_upd]
    refine ⟨_, rfl, k q _ (same_put s23 nq) ⟨dy, pt', qu', qo, upd_same, ?_, ?_, ?_, nq, y.go⟩⟩
    · refine (TA2.kept s3).keepK fun b o e h => ?_
      rw [upd_ne fun z => ?_]
      · exact e
      · rw [z, s3 _ _ hq2] at e
        cases e
        exact not_tree_r h
    · refine (UA3.less s2).keepK fun b o e h => ?_
      rw [upd_ne fun z => ?_]
      · exact e
      · rw [z, s3 _ _ hq2] at e
        cases e
        exact not_unp_r h
    · rw [upd_ne (ne_of y.ou y.ob (fun z => nomatch z))]
      exact s3 _ _ yo
end
end SL
namespace SL
open PySem hiding Tree
open L2 Sl Ql65
/-- what came out, where more than m are not wanted -/
structure Cap (m : Nat) (y u : List Nat) : Prop where
  all : y.length ≤ m → u = y
  more : m < y.length → m < u.length
  le : u.length ≤ y.length
theorem Cap.give {m : Nat} {y u l : List Nat} (c : Cap m y u) : Cap m (y ++ l) (if u.length ≤ m then u ++ l else u) := by
  have hl : (y ++ l).length = y.length + l.length := List.length_append
  refine ⟨fun h => ?_, fun h => ?_, ?_⟩
  · have e := c.all (by omega)
    subst e
    rw [if_pos (by omega)]
  · by_cases h1 : u.length ≤ m
    · rw [if_pos h1, List.length_append]
      by_cases h2 : y.length ≤ m
      · rw [c.all h2]
        omega
      · have := c.more (by omega)
        omega
    · rw [if_neg h1]
      omega
  · have := c.le
    split
    · rw [List.length_append]
      omega
    · omega
theorem Cap.none {m : Nat} {y u : List Nat} (c : Cap m y u) : Cap m (y ++ []) u := by
  rw [List.append_nil]
  exact c
section
variable {P : Program} {w : World} {K : PySem.W.Frag} {mg : Str → Option Value} {base : Heap}
def spGive (T : PT K mg) : Sp := fun vs H Q _ => ∃ (G : Hp) (p ar : Addr) (z : Sizes) (r : Ql65.Receiver) (m : Nat) (y u l : List Nat), vs = [.ref p, .ref ar] ∧ Same G H ∧ RecvR T G H p z r m u ∧ Cap m y u ∧ H ar = some (.lst (nV l)) ∧ y.length + l.length ≤ sizeLine ∧
  ∀ H' u', Same G H' → RecvR T G H' p z r m u' → Cap m (y ++ l) u' → Q .non H'
theorem ok_give (T : PT K mg) : FnOk P w K mg base CX0 1 T.receiver.give_out_.f T.receiver.give_out_.fd ["self", "string"] (spGive T) := by
  refine T.receiver.give_out_.F.ok scReceiver_give_out (fun vs H Q E h => ?_) (fun cdv A outer s₀ H vs Q E hr h => ?_)
  · obtain ⟨G, p, ar, z, r, m, y, u, l, rfl, _⟩ := h
    rfl
  · obtain ⟨G, p, ar, z, r, m, y, u, l, rfl, sG, ⟨dx, pt, pu, po, x⟩, cp, ha, hl, k⟩ := h
    have cl := T.receiver.cl
    refine ⟨_, pss_one (ps_if (pt_cmpR op_le (pe_callB call_len_seq rfl T.b_len PySem.boot_len (pa_cons (pe_fld (pv 0) rfl) pa_nil)) (pe_fld (pv 0) rfl) (nomark _))
      (pss_one (ps_expr (pe_bm PySem.F.plainAttrs_list PySem.F.slot_list_extend PySem.F.type_list_extend mt_extend (pe_fld (pv 0) rfl) (pa_cons (pv 1) pa_nil)))) pss_nil), ?_⟩
    refine ⟨_, rfl, p, _, dx, _, _, rfl, x.ob, cl, T.receiver.n_out, rf_out, po, _, rfl, .inl (SqL.of x.ou), _, rfl, p, _, dx, _, _, rfl, x.ob, cl, T.receiver.n_most, rf_most, _, _, rfl, rfl, _, rfl, ?_⟩
    have g := cp.give (l := l)
    have le := cp.le
    refine ite2 (fun c => ?_) (fun c => ?_)
    · have c : ((nV u).length : Int) ≤ (m : Int) := of_decide_eq_true c
      rw [nV_len] at c
      rw [if_pos (by omega)] at g
      refine ⟨_, rfl, p, _, dx, _, _, rfl, x.ob, cl, T.receiver.n_out, rf_out, .inl ⟨rfl, _, SqL.of x.ou⟩, _, rfl, po, ar, _, _, rfl, rfl, x.ou, ha, (by rw [nV_len, nV_len]; omega), ?_⟩
      rw [← nV_app]
      exact k _ (u ++ l) (same_put sG x.go) ⟨dx, pt, pu, po, x.give (u ++ l)⟩ g
    · have c : ¬ ((nV u).length : Int) ≤ (m : Int) := fun q => c (decide_eq_true q)
      rw [nV_len] at c
      rw [if_neg (by omega)] at g
      exact k _ u sG ⟨dx, pt, pu, po, x⟩ g
/-- what an octet brings about -/
def Took (T : PT K mg) (G : Hp) (p : Addr) (z : Sizes) (m : Nat) (y : List Nat) (res : Option (Ql65.Receiver × List Nat)) (Q : VK) (E : XK) : Prop :=
  (res = none → ∀ H', Same G H' → E (.ref T.xC) none H') ∧ ∀ x, res = some x → ∀ H' u', Same G H' → RecvR T G H' p z x.1 m u' → Cap m (y ++ x.2) u' → Q .non H'
def spOct (T : PT K mg) (A : Ql65.Receiver → Prop) : Sp := fun vs H Q E => ∃ (G : Hp) (p : Addr) (z : Sizes) (r : Ql65.Receiver) (m : Nat) (y u : List Nat) (c : Nat), vs = [.ref p, .int c] ∧ Same G H ∧ RecvR T G H p z r m u ∧ ROk z r ∧ A r ∧ Cap m y u ∧ c < 256 ∧ y.length + 300 ≤ sizeLine ∧ Took T G p z m y (r.octet z c) Q E
theorem ok_takePlain (T : PT K mg) : FnOk P w K mg base CX0 2 T.receiver.take_plain_.f T.receiver.take_plain_.fd ["self", "octet"] (spOct T fun r => r.short = false ∧ r.half = false) := by
  refine T.receiver.take_plain_.F.ok scReceiver_take_plain (fun vs H Q E h => ?_) (fun cdv A outer s₀ H vs Q E hr h => ?_)
  · obtain ⟨G, p, z, r, m, y, u, c, rfl, _⟩ := h
    rfl
  · obtain ⟨G, p, z, r, m, y, u, c, rfl, sG, ⟨dx, pt, pu, po, x⟩, ok, ⟨hs, hh⟩, cp, hc, hy, k⟩ := h
    have cl := T.receiver.cl
    refine ⟨_, pss_one (ps_if (pt_cmpR op_eq (pv 1) (pe_fld (pv 0) rfl) (nomark _)) (pss_one (ps_fld (pv 0) pe_bl rfl))
      (pss_one (ps_expr (pe_meth (pv 0) cl T.receiver.m_give_out (ok_give T) hr T.receiver.give_out_.b .nil pass0 (pa_cons (pe_lst (pa_cons (pv 1) pa_nil)) pa_nil))))), ?_⟩
    have eo : r.octet z c = if c = r.escape then some ({ r with half := true }, []) else some (r, [c]) := by
      unfold Receiver.octet
      rw [if_neg (by rw [hs]; decide), if_pos hh]
    refine ⟨_, rfl, _, rfl, p, _, dx, _, _, rfl, x.ob, cl, T.receiver.n_escape, rf_escape, rfl, _, rfl, ?_⟩
    refine ite2 (fun q => ?_) (fun q => ?_)
    · have q : c = r.escape := Int.natCast_inj.mp (V.int.inj (of_decide_eq_true q))
      rw [if_pos q] at eo
      refine ⟨_, rfl, p, _, dx, _, rfl, x.ob, cl, T.receiver.n_behind_escape, (by rw [rf_len]; decide), ?_⟩
      rw [rfp_behind_escape]
      exact k.2 _ eo _ u (same_put sG x.gp) ⟨dx, pt, pu, po, x.set { r with half := true } rfl rfl⟩ cp.none
    · have q : ¬ c = r.escape := fun e => q (decide_eq_true (by rw [e]))
      rw [if_neg q] at eo
      refine ⟨_, rfl, p, dx, _, rfl, x.ob, rfn_give_out, _, rfl, (by show 1 ≤ sizeLine; decide), fun l hl => ?_⟩
      exact ⟨G, p, l, z, r, m, y, u, [c], rfl, sG.trans (same_upd hl), ⟨dx, pt, pu, po, x.kept (same_upd hl)⟩, cp, upd_same, (by show y.length + 1 ≤ sizeLine; omega), fun H' u' s' x' c' => k.2 _ eo H' u' s' x' c'⟩
theorem ok_takeMeaning (T : PT K mg) : FnOk P w K mg base (CXW P w T.xC) 5 T.receiver.take_meaning_.f T.receiver.take_meaning_.fd ["self", "octet"] (spOct T fun r => r.short = false ∧ r.half = true) := by
  refine T.receiver.take_meaning_.F.okX scReceiver_take_meaning (fun vs H Q E h => ?_) (fun cdv A outer s₀ H vs Q E hr h => ?_)
  · obtain ⟨G, p, z, r, m, y, u, c, rfl, _⟩ := h
    rfl
  · obtain ⟨G, p, z, r, m, y, u, c, rfl, sG, ⟨dx, pt, pu, po, x⟩, ok, ⟨hs, hh⟩, cp, hc, hy, k⟩ := h
    have cl := T.receiver.cl
    have hr1 : Room 1 _ := hr.mono (by decide)
    refine ⟨_, pss_cons (ps_fld (pv 0) pe_bl rfl)
      (pss_one (ps_if (pt_cmpR op_eq (pv 1) (pe_gi T.g_ESCAPE_SHORT) (nomark _)) (pss_one (ps_fld (pv 0) pe_bl rfl))
        (pss_one (ps_if (pt_cmpR op_eq (pv 1) (pe_gi T.g_ESCAPE_ITSELF) (nomark _))
          (pss_cons (ps_expr (pe_meth (pv 0) cl T.receiver.m_give_out (ok_give T) hr1 T.receiver.give_out_.b .nil pass0 (pa_cons (pe_lst (pa_cons (pe_fld (pv 0) rfl) pa_nil)) pa_nil)))
            (pss_one (ps_expr (pe_meth0 (pv 0) cl T.receiver_move_escape (ok_move T) hr1 T.lineEnd.move_escape_.b .nil pass0))))
          (pss_one (ps_if (pt_cmpR op_eq (pv 1) (pe_gi T.g_ESCAPE_RESET) (nomark _)) (pss_one (ps_expr (pe_meth0 (pv 0) cl T.receiver_start_anew (ok_anew T) hr T.lineEnd.start_anew_.b .nil pass0)))
            (pss_one (ps_raise T.exc hr.hd)))))))), ?_⟩
    obtain ⟨pw, pb⟩ := ok.pl hs
    have eo : r.octet z c = if c = 0 then some ({ r with half := false, short := true, before := none, waits := [] }, []) else if c = 1 then some ({ r with half := false, escape := turn r.escape }, [r.escape]) else if c = 2 then some (startR, []) else none := by
      unfold Receiver.octet
      rw [if_neg (by rw [hs]; decide), if_neg (by rw [hh]; decide)]
    refine ⟨_, rfl, p, _, dx, _, rfl, x.ob, cl, T.receiver.n_behind_escape, (by rw [rf_len]; decide), ?_⟩
    rw [rfp_behind_escape]
    have x1 := x.set { r with half := false } rfl rfl
    have sG1 : Same G (upd H p (HO.ins T.receiver.C dx (rfF pt r.short r.escape r.bits pu false (oV r.before) po m))) := same_put sG x.gp
    have dec : ∀ n : Nat, decide (V.int (c : Int) = V.int (n : Int)) = decide (c = n) := fun n => decide_eq_decide.mpr ⟨fun q => Int.natCast_inj.mp (V.int.inj q), fun q => by rw [q]⟩
    refine ⟨_, rfl, rfl, _, rfl, ?_⟩
    rw [show decide (V.int (c : Int) = V.int 0) = decide (c = 0) from dec 0]
    refine ite2 (fun q => ?_) (fun q => ?_)
    · have q : c = 0 := of_decide_eq_true q
      rw [if_pos q] at eo
      refine ⟨_, rfl, p, _, dx, _, rfl, x1.ob, cl, T.receiver.n_short, (by rw [rf_len]; decide), ?_⟩
      rw [rfp_short]
      refine k.2 _ eo _ u (same_put sG1 x.gp) ⟨dx, pt, pu, po, ?_⟩ cp.none
      have x2 := x1.set { ({ r with half := false } : Ql65.Receiver) with short := true } rfl rfl
      have er : ({ ({ r with half := false } : Ql65.Receiver) with short := true } : Ql65.Receiver) = { r with half := false, short := true, before := none, waits := [] } := by rw [← pw, ← pb]
      show RecvP T G _ p dx pt pu po z ({ r with half := false, short := true, before := none, waits := [] } : Ql65.Receiver) m u
      rw [← er]
      exact x2
    · have q : ¬ c = 0 := fun e => q (decide_eq_true e)
      rw [if_neg q] at eo
      refine ⟨_, rfl, rfl, _, rfl, ?_⟩
      rw [show decide (V.int (c : Int) = V.int 1) = decide (c = 1) from dec 1]
      refine ite2 (fun q => ?_) (fun q => ?_)
      · have q : c = 1 := of_decide_eq_true q
        rw [if_pos q] at eo
        refine ⟨_, rfl, p, dx, _, rfl, x1.ob, rfn_give_out, _, rfl, p, _, dx, _, _, rfl, x1.ob, cl, T.receiver.n_escape, rf_escape, (by show 1 ≤ sizeLine; decide), fun l hl => ?_⟩
        refine ⟨G, p, l, z, { r with half := false }, m, y, u, [r.escape], rfl, sG1.trans (same_upd hl), ⟨dx, pt, pu, po, x1.kept (same_upd hl)⟩, cp, upd_same, (by show y.length + 1 ≤ sizeLine; omega), fun H' u' s' ⟨dx', pt', pu', po', x'⟩ c' => ?_⟩
        refine ⟨_, rfl, p, dx', _, rfl, x'.ob, rfn_move_escape, T.receiver.C, p, dx', _, r.escape, rfl, line_R T, x'.ob, (by rw [rf_len]; decide), rf_escape, ?_⟩
        rw [rfp_escape]
        exact k.2 _ eo _ u' (same_put s' x.gp) ⟨dx', pt', pu', po', x'.set { ({ r with half := false } : Ql65.Receiver) with escape := turn r.escape } rfl rfl⟩ c'
      · have q : ¬ c = 1 := fun e => q (decide_eq_true e)
        rw [if_neg q] at eo
        refine ⟨_, rfl, rfl, _, rfl, ?_⟩
        rw [show decide (V.int (c : Int) = V.int 2) = decide (c = 2) from dec 2]
        refine ite2 (fun q => ?_) (fun q => ?_)
        · have q : c = 2 := of_decide_eq_true q
          rw [if_pos q] at eo
          refine ⟨_, rfl, p, dx, _, rfl, x1.ob, rfn_start_anew, mask _ [p], T.receiver.C, p, dx, pt, _, z, r.tree, rfl, line_R T, mask_same, mask_in (by simp), x1.ob, (by rw [rf_len]; decide), rfn_start, rf_tree, ⟨G, x1.tr⟩, fun pt2 H2 s2 TA2 hp2 => ?_⟩
          have sm := same_mask (S := [p]) sG1 fun b hb => by
            have : b = p := by simpa using hb
            rw [this]
            exact x.gp
          rw [put4_rr] at hp2
          refine k.2 _ eo H2 u (sm.trans s2) ⟨dx, pt2, pu, po, ?_, TA2.less sm, ?_, ?_, x.gp, x.go⟩ cp.none
          · rw [pb] at hp2
            exact hp2
          · have UA := x1.un
            rw [show ({ r with half := false } : Ql65.Receiver).waits = [] from pw] at UA
            refine UA.keepK fun b o e h => s2 b o ?_
            rw [mask_out fun m => ?_]
            · exact e
            · have : b = p := by simpa using m
              rw [this, x1.ob] at e
              cases e
              exact not_unp_r h
          · refine s2 _ _ ?_
            rw [mask_out fun m => ?_]
            · exact x1.ou
            · have : po = p := by simpa using m
              exact ne_of x1.ou x1.ob (fun z => nomatch z) this
        · have q : ¬ c = 2 := fun e => q (decide_eq_true e)
          rw [if_neg q] at eo
          exact k.1 eo _ sG1
def spTakeStep (T : PT K mg) : Sp := fun vs H Q E => ∃ (G : Hp) (p : Addr) (z : Sizes) (r : Ql65.Receiver) (m : Nat) (u : List Nat), vs = [.ref p] ∧ Same G H ∧ RecvR T G H p z r m u ∧ (z.codes ≤ 2 ^ r.bits → E (.ref T.xC) none H) ∧ (¬ z.codes ≤ 2 ^ r.bits → ∀ H', Same G H' → RecvR T G H' p z { r with bits := r.bits + 1 } m u → Q .non H')
theorem ok_takeStep (T : PT K mg) : FnOk P w K mg base (CXW P w T.xC) 1 T.receiver.take_step_.f T.receiver.take_step_.fd ["self"] (spTakeStep T) := by
  refine T.receiver.take_step_.F.okX scReceiver_take_step (fun vs H Q E h => ?_) (fun cdv A outer s₀ H vs Q E hr h => ?_)
  · obtain ⟨G, p, z, r, m, u, rfl, _⟩ := h
    rfl
  · obtain ⟨G, p, z, r, m, u, rfl, sG, ⟨dx, pt, pu, po, x⟩, k1, k2⟩ := h
    have cl := T.receiver.cl
    refine ⟨_, pss_cons (ps_if (pt_cmpR op_le (pe_bm0 PySem.F.plainAttrs_int PySem.F.slot_int_bit_length PySem.F.type_int_bit_length mt_bit_length (pe_op op_sub (pe_fld (pe_fld (pv 0) rfl) rfl) pe_int)) (pe_fld (pv 0) rfl) (nomark _)) (pss_one (ps_raise T.exc hr.hd)) pss_nil)
      (pss_one (ps_fldaug (pv 0) pe_int in_add)), ?_⟩
    obtain ⟨⟨ex, a1, a2, a3, a4, g, D, e0, _⟩, wf, gd⟩ := id x.tr
    refine ⟨_, rfl, p, _, dx, _, _, rfl, x.ob, cl, T.receiver.n_tree, rf_tree, pt, _, ex, _, _, rfl, e0, T.tree.cl, T.tree.n_codes, tf_codes, _, _, rfl, rfl, rfl, _, rfl, rfl, _, rfl, p, _, dx, _, _, rfl, x.ob, cl, T.receiver.n_bits, rf_bits, _, _, rfl, rfl, _, rfl, ?_⟩
    have c1 := gd.c1
    have ec : (z.codes : Int) - 1 = ((z.codes - 1 : Nat) : Int) := by omega
    rw [ec]
    have pos : 0 < 2 ^ r.bits := Nat.pow_pos (by decide)
    have bo := bits_of (n := z.codes - 1) (b := r.bits)
    refine ite2 (fun q => ?_) (fun q => ?_)
    · have q : ((Builtin.Int.intBits ((z.codes - 1 : Nat) : Int) : Nat) : Int) ≤ (r.bits : Int) := of_decide_eq_true q
      refine k1 ?_
      have : z.codes - 1 < 2 ^ r.bits := Classical.byContradiction fun h => by
        have := bo.mpr h
        omega
      omega
    · have q : ¬ ((Builtin.Int.intBits ((z.codes - 1 : Nat) : Int) : Nat) : Int) ≤ (r.bits : Int) := fun e => q (decide_eq_true e)
      have := bo.mp (by omega)
      refine ⟨_, rfl, p, _, dx, _, _, rfl, x.ob, cl, T.receiver.n_bits, rf_bits, _, _, rfl, rfl, dx, _, x.ob, (by rw [rf_len]; decide), ?_⟩
      rw [rfp_bits]
      exact k2 (by omega) _ (same_put sG x.gp) ⟨dx, pt, pu, po, x.set { r with bits := r.bits + 1 } rfl rfl⟩
def spEndStr (T : PT K mg) : Sp := fun vs H Q E => ∃ (G : Hp) (p : Addr) (z : Sizes) (r : Ql65.Receiver) (m : Nat) (u : List Nat), vs = [.ref p] ∧ Same G H ∧ RecvR T G H p z r m u ∧ ((r.waits.all fun b => !b) = false → ∀ H', Same G H' → E (.ref T.xC) none H') ∧ ((r.waits.all fun b => !b) = true → ∀ H', Same G H' → RecvR T G H' p z { r with waits := [], before := none } m u → Q .non H')
theorem ok_endStr (T : PT K mg) : FnOk P w K mg base (CXW P w T.xC) 2 T.receiver.end_strings_.f T.receiver.end_strings_.fd ["self"] (spEndStr T) := by
  refine T.receiver.end_strings_.F.okX scReceiver_end_strings (fun vs H Q E h => ?_) (fun cdv A outer s₀ H vs Q E hr h => ?_)
  · obtain ⟨G, p, z, r, m, u, rfl, _⟩ := h
    rfl
  · obtain ⟨G, p, z, r, m, u, rfl, sG, ⟨dx, pt, pu, po, x⟩, k1, k2⟩ := h
    have cl := T.receiver.cl
    refine ⟨_, pss_cons (ps_if (pt_not (pt_val (pe_meth0 (pe_fld (pv 0) rfl) T.unpacker.cl T.unpacker.m_drop_rest (ok_dropRest T) hr T.unpacker.drop_rest_.b .nil pass0))) (pss_one (ps_raise T.exc hr.hd)) pss_nil)
      (pss_one (ps_fld (pv 0) pe_non rfl)), ?_⟩
    obtain ⟨G1, m1, m2, m3⟩ := x.unp sG
    obtain ⟨ek, f0, i0⟩ := id x.un
    refine ⟨_, rfl, p, _, dx, _, _, rfl, x.ob, cl, T.receiver.n_unpacker, rf_unpacker, pu, ek, _, rfl, f0, ufn_drop_rest, G1, pu, r.waits, rfl, m1, m2, fun H1 s1 UA1 => ⟨_, rfl, ?_⟩⟩
    obtain ⟨sG1, x1⟩ := m3 H1 _ s1 UA1
    cases e : (r.waits.all fun b => !b) with
    | false =>
      refine iteT ?_
      exact k1 e H1 sG1
    | true =>
      refine iteF ?_
      refine ⟨_, rfl, p, _, dx, _, rfl, x1.ob, cl, T.receiver.n_before, (by rw [rf_len]; decide), ?_⟩
      rw [rfp_before]
      exact k2 e _ (same_put sG1 x.gp) ⟨dx, pt, pu, po, x1.set { ({ r with waits := [] } : Ql65.Receiver) with before := none } rfl rfl⟩
end
end SL
namespace SL
open PySem hiding Tree
open L2 Sl Ql65
section
variable {P : Program} {w : World} {K : PySem.W.Frag} {mg : Str → Option Value} {base : Heap}
theorem grown_add {z : Sizes} {t : Tree} {j b : Nat} : grownBy z t (some j) b = addT z t j b := rfl
def spTakeString (T : PT K mg) : Sp := fun vs H Q E => ∃ (G : Hp) (p : Addr) (z : Sizes) (r : Ql65.Receiver) (m : Nat) (y u : List Nat) (n : Nat), vs = [.ref p, .int n] ∧ Same G H ∧ RecvR T G H p z r m u ∧ ROk z r ∧ Cap m y u ∧ y.length + 300 ≤ sizeLine ∧ Took T G p z m y (Receiver.string z r n) Q E
theorem ok_takeString (T : PT K mg) : FnOk P w K mg base (CXW P w T.xC) 4 T.receiver.take_string_.f T.receiver.take_string_.fd ["self", "number"] (spTakeString T) := by
  refine T.receiver.take_string_.F.okX scReceiver_take_string (fun vs H Q E h => ?_) (fun cdv A outer s₀ H vs Q E hr h => ?_)
  · obtain ⟨G, p, z, r, m, y, u, n, rfl, _⟩ := h
    rfl
  · obtain ⟨G, p, z, r, m, y, u, n, rfl, sG, ⟨dx, pt, pu, po, x⟩, ok, cp, hy, k⟩ := h
    have cl := T.receiver.cl
    have hr1 : Room 1 _ := hr.mono (by decide)
    refine ⟨_, pss_cons (ps_if (pt_not (pt_val (pe_meth (pe_fld (pv 0) rfl) T.tree.cl T.tree.m_holds (ok_holds T) hr1 T.tree.holds_.b .nil pass0 (pa_cons (pv 1) pa_nil)))) (pss_one (ps_raise T.exc hr.hd)) pss_nil)
      (pss_cons (ps_set (i := 2) scReceiver_take_string.nd rfl (Or.inl rfl) (pe_meth (pe_fld (pv 0) rfl) T.tree.cl T.tree.m_bytes_of (ok_bytes T) hr1 T.tree.bytes_of_.b .nil pass0 (pa_cons (pv 1) pa_nil)))
      (pss_cons (ps_if (pt_cmp (pc_notN (pe_fld (pv 0) rfl))) (pss_one (ps_expr (pe_meth (pe_fld (pv 0) rfl) T.tree.cl T.tree.m_add (ok_add T) hr T.tree.add_.b .nil pass0 (pa_cons (pe_fld (pv 0) rfl) (pa_cons (pe_ix ix_list (pv 2) pe_int (fun _ _ => rfl)) pa_nil))))) pss_nil)
      (pss_cons (ps_if (pt_not (pt_val (pe_meth (pe_fld (pv 0) rfl) T.tree.cl T.tree.m_holds (ok_holds T) hr1 T.tree.holds_.b .nil pass0 (pa_cons (pv 1) pa_nil)))) (pss_one (ps_raise T.exc hr.hd)) pss_nil)
      (pss_cons (ps_fld (pv 0) (pv 1) rfl)
      (pss_one (ps_expr (pe_meth (pv 0) cl T.receiver.m_give_out (ok_give T) hr1 T.receiver.give_out_.b .nil pass0 (pa_cons (pv 2) pa_nil)))))))), ?_⟩
    obtain ⟨⟨ex, a1, a2, a3, a4, g, D, e0, _⟩, wf, gd⟩ := id x.tr
    have es := string_eq (z := z) r n
    refine ⟨_, rfl, p, _, dx, _, _, rfl, x.ob, cl, T.receiver.n_tree, rf_tree, pt, ex, _, rfl, e0, tfn_holds, _, rfl, G, pt, z, r.tree, n, rfl, x.tr, _, rfl, ?_⟩
    cases hn : Ql65.real r.tree n with
    | false =>
      rw [if_pos hn] at es
      refine iteT ?_
      exact k.1 es H sG
    | true =>
      rw [if_neg (by rw [hn]; decide)] at es
      refine iteF ?_
      obtain ⟨b, tl, e1, e2, e3⟩ := wf.first gd hn
      obtain ⟨sps, q1, q2, q3⟩ := wf.string_len gd hn
      have slen : (r.tree.string n).length ≤ 250 := by
        rw [q3]
        exact Nat.le_trans q2 gd.l2
      -- string = self.tree.bytes_of(number)
      refine ⟨_, rfl, p, _, dx, _, _, rfl, x.ob, cl, T.receiver.n_tree, rf_tree, pt, ex, _, rfl, e0, tfn_bytes_of, _, rfl, G, pt, z, r.tree, n, rfl, x.tr, hn, fun l H1 s1 hl hL => ?_⟩
      have x1 := x.kept s1
      have sG1 := sG.trans s1
      -- behind the adding
      have rest : ∀ (t' : Tree) (H2 : Hp) (pt2 dx2 pu2 po2 : Addr), t' = grownBy z r.tree r.before ((r.tree.string n).headD 0) → Same G H2 → RecvP T G H2 p dx2 pt2 pu2 po2 z { r with tree := t' } m u → H2 l = some (.lst (nV (r.tree.string n))) →
          tSeq (tIfS (tNot (tB (tMeth T.tree.C "holds" (spHolds T.tree.C) [] E0 (tFld K (tVar 0) "tree") (tCons (tVar 1) tNil)))) (tRaise T.xC E) tNext)
          (tSeq (sFld K (tVar 0) (tVar 1) "before") (tDrop (tMeth T.receiver.C "give_out" (spGive T) [] E0 (tVar 0) (tCons (tVar 2) tNil)))) { nx := fun _ H' => Q .non H', rt := Q } [some (.ref p), some (.int (n : Int)), some (.ref l)] H2 := by
        intro t' H2 pt2 dx2 pu2 po2 et sG2 x2 hL2
        rw [← et] at es
        obtain ⟨⟨ex2, b1, b2, b3, b4, g2, D2, f0, _⟩, wf2, _⟩ := id x2.tr
        refine ⟨_, rfl, p, _, dx2, _, _, rfl, x2.ob, cl, T.receiver.n_tree, rf_tree, pt2, ex2, _, rfl, f0, tfn_holds, _, rfl, G, pt2, z, t', n, rfl, x2.tr, _, rfl, ?_⟩
        cases hn2 : Ql65.real t' n with
        | false =>
          rw [if_pos hn2] at es
          refine iteT ?_
          exact k.1 es H2 sG2
        | true =>
          rw [if_neg (by rw [hn2]; decide)] at es
          refine iteF ?_
          refine ⟨_, rfl, _, rfl, p, _, dx2, _, rfl, x2.ob, cl, T.receiver.n_before, (by rw [rf_len]; decide), ?_⟩
          rw [rfp_before]
          have x3 := x2.set { ({ r with tree := t' } : Ql65.Receiver) with before := some n } rfl rfl
          have pl : l ≠ p := ne_of hL2 x2.ob (fun z => nomatch z)
          -- the string is the same behind the adding
          have same : t'.string n = r.tree.string n := by
            cases hb : r.before with
            | none =>
              rw [hb] at et
              rw [et]
              rfl
            | some j =>
              rw [hb, grown_add] at et
              rw [et]
              unfold addT
              by_cases ha : adds z r.tree j ((r.tree.string n).headD 0) = true
              · rw [if_pos ha]
                have hbyte : (r.tree.string n).headD 0 < 256 := by rw [e3]; exact e2
                obtain ⟨j', c1, c2, c3, c4, c5⟩ := ok.tree.add gd (ok.bf j hb) hbyte ha
                have w1 := ok.tree.more gd (ok.bf j hb) hbyte ha
                rw [c4]
                have hne : n ≠ j' := fun e => by
                  have : Ql65.real t' n = true := hn2
                  rw [et] at this
                  unfold addT at this
                  rw [if_pos ha, c4, e] at this
                  unfold Ql65.real at this
                  have hf : FIRST = 259 := rfl
                  rw [decide_eq_false (by omega), Bool.false_or] at this
                  obtain ⟨v, hv⟩ := has_iff.mp this
                  have := (List.mem_filter.mp hv).2
                  simp at this
                have q := Wf0.string_without (t := grown r.tree j ((r.tree.string n).headD 0)) w1 gd ⟨c1, c2⟩ c3 (real_more hn) hne
                exact q.trans (ok.tree.string_more gd w1 hn)
              · rw [if_neg ha]
          refine ⟨_, rfl, p, dx2, _, rfl, upd_same, rfn_give_out, _, rfl, G, p, l, z, _, m, y, u, r.tree.string n, rfl, same_put sG2 x.gp, ⟨dx2, pt2, pu2, po2, x3⟩, cp, (by rw [upd_ne pl]; exact hL2), by omega, fun H' u' s' x' c' => ?_⟩
          refine k.2 _ es H' u' s' x' ?_
          show Cap m (y ++ t'.string n) u'
          rw [same]
          exact c'
      refine ⟨_, rfl, p, _, dx, _, _, rfl, x1.ob, cl, T.receiver.n_before, rf_before, _, rfl, ?_⟩
      cases hb : r.before with
      | none =>
        refine iteF ?_
        exact rest r.tree H1 pt dx pu po (by rw [hb]; rfl) sG1 x1 hL
      | some j =>
        refine iteT ?_
        obtain ⟨⟨ex1, b1, b2, b3, b4, g1, D1, f0, _⟩, wf1, _⟩ := id x1.tr
        obtain ⟨G2, m1, m2, m3⟩ := x1.tree sG1
        have lb : (rfF pt r.short r.escape r.bits pu r.half (oV r.before) po m).lookup ("before" : Str) = some (V.int (j : Int)) := by rw [rf_before, hb]; rfl
        have hbyte : (r.tree.string n).headD 0 < 256 := by rw [e3]; exact e2
        have h0 : (nV (r.tree.string n))[0]? = some (V.int (((r.tree.string n).headD 0 : Nat) : Int)) := by
          rw [e1]
          rfl
        refine ⟨_, rfl, p, _, dx, _, _, rfl, x1.ob, cl, T.receiver.n_tree, rf_tree, pt, ex1, _, rfl, f0, tfn_add, _, rfl, p, _, dx, _, _, rfl, x1.ob, cl, T.receiver.n_before, lb, _, rfl, l, _, _, _, rfl, rfl, SqL.of hL, atI_nat (j := 0) h0, G2, pt, z, r.tree, j, (r.tree.string n).headD 0, rfl, m1, m2, ok.tree, ok.bf j hb, hbyte, fun H3 s3 TA3 => ?_⟩
        obtain ⟨sG3, x3, kl⟩ := m3 H3 _ s3 TA3
        exact rest _ H3 pt dx pu po (by rw [hb, grown_add]) sG3 x3 (kl _ _ hL)
theorem ok_takeShort (T : PT K mg) : FnOk P w K mg base (CXW P w T.xC) 5 T.receiver.take_short_.f T.receiver.take_short_.fd ["self", "octet"] (spOct T fun r => r.short = true) := by
  refine T.receiver.take_short_.F.okX scReceiver_take_short (fun vs H Q E h => ?_) (fun cdv A outer s₀ H vs Q E hr h => ?_)
  · obtain ⟨G, p, z, r, m, y, u, c, rfl, _⟩ := h
    rfl
  · obtain ⟨G, p, z, r, m, y, u, c, rfl, sG, ⟨dx, pt, pu, po, x⟩, ok, hs, cp, hc, hy, k⟩ := h
    have cl := T.receiver.cl
    have hr1 : Room 1 _ := hr.mono (by decide)
    refine ⟨_, pss_cons (ps_expr (pe_meth (pe_fld (pv 0) rfl) T.unpacker.cl T.unpacker.m_push (ok_uPush T) hr1 T.unpacker.push_.b .nil pass0 (pa_cons (pv 1) pa_nil)))
      (pss_cons (ps_set (i := 2) scReceiver_take_short.nd rfl (Or.inl rfl) (pe_meth (pe_fld (pv 0) rfl) T.unpacker.cl T.unpacker.m_pull (ok_pull T) hr1 T.unpacker.pull_.b .nil pass0 (pa_cons (pe_fld (pv 0) rfl) pa_nil)))
      (pss_cons (ps_if (pt_cmp (pc_isN (pv 2))) (pss_one ps_retN) pss_nil)
      (pss_one (ps_if (pt_cmpR op_eq (pv 2) (pe_gi T.g_STEP) (nomark _)) (pss_one (ps_expr (pe_meth0 (pv 0) cl T.receiver.m_take_step (ok_takeStep T) hr1 T.receiver.take_step_.b .nil passW)))
        (pss_one (ps_if (pw_or (pt_cmpR op_eq (pv 2) (pe_gi T.g_FLUSH) (nomark _)) (pw_or1 (pt_cmpR op_eq (pv 2) (pe_gi T.g_END) (nomark _)))).pt
          (pss_cons (ps_expr (pe_meth0 (pv 0) cl T.receiver.m_end_strings (ok_endStr T) (hr.mono (by decide)) T.receiver.end_strings_.b .nil passW)) (pss_one (ps_fld (pv 0) (pe_cmpR op_eq (pv 2) (pe_gi T.g_FLUSH) (nomark _)) rfl)))
          (pss_one (ps_expr (pe_meth (pv 0) cl T.receiver.m_take_string (ok_takeString T) hr T.receiver.take_string_.b .nil passW (pa_cons (pv 2) pa_nil)))))))))), ?_⟩
    have gd := x.tr.gd
    have eo := octet_short ok gd hs (c := c)
    rw [eo] at k
    obtain ⟨G1, m1, m2, m3⟩ := x.unp sG
    obtain ⟨ek, f0, i0⟩ := id x.un
    have wt := ok.wt
    have b2 := ok.b2
    -- self.unpacker.push(octet)
    refine ⟨_, rfl, p, _, dx, _, _, rfl, x.ob, cl, T.receiver.n_unpacker, rf_unpacker, pu, ek, _, rfl, f0, ufn_push, _, rfl, G1, pu, r.waits, c, rfl, m1, m2, hc, by omega, fun H1 s1 UA1 => ?_⟩
    obtain ⟨sG1, x1⟩ := m3 H1 _ s1 UA1
    have ll : (r.waits ++ bitsOf 8 c).length = r.waits.length + 8 := by rw [List.length_append, bitsOf_length]
    generalize r.waits ++ bitsOf 8 c = l at k x1 ll
    obtain ⟨G2, n1, n2, n3⟩ := x1.unp sG1
    obtain ⟨ek1, f1, i1⟩ := id x1.un
    -- number = self.unpacker.pull(self.bits)
    refine ⟨_, rfl, p, _, dx, _, _, rfl, x1.ob, cl, T.receiver.n_unpacker, rf_unpacker, pu, ek1, _, rfl, f1, ufn_pull, _, rfl, p, _, dx, _, _, rfl, x1.ob, cl, T.receiver.n_bits, rf_bits, G2, pu, l, r.bits, rfl, n1, n2, b2, fun hlt => ?_, fun hge H2 s2 UA2 => ?_⟩
    · -- not whole yet
      refine ⟨_, rfl, _, rfl, iteT ?_⟩
      have e1 : oneNumber z r l = some ({ r with waits := l }, []) := by
        unfold oneNumber
        rw [if_pos hlt]
      exact k.2 _ e1 H1 u sG1 ⟨dx, pt, pu, po, x1⟩ cp.none
    · obtain ⟨sG2, x2⟩ := n3 H2 _ s2 UA2
      have dl : (l.drop r.bits).length = l.length - r.bits := List.length_drop
      have o1 : oneNumber z r l = if valueOf (l.take r.bits) ≤ 1 then (if ((l.drop r.bits).all fun b => !b) = true then some ({ r with waits := [], before := none, short := valueOf (l.take r.bits) == 1 }, []) else none)
          else if valueOf (l.take r.bits) = 2 then (if z.codes ≤ 2 ^ r.bits then none else some ({ r with waits := l.drop r.bits, bits := r.bits + 1 }, []))
          else Receiver.string z { r with waits := l.drop r.bits } (valueOf (l.take r.bits)) := by
        unfold oneNumber
        rw [if_neg (by omega)]
      generalize valueOf (l.take r.bits) = n at o1
      have dec : ∀ i : Nat, decide (V.int (n : Int) = V.int (i : Int)) = decide (n = i) := fun i => decide_eq_decide.mpr ⟨fun q => Int.natCast_inj.mp (V.int.inj q), fun q => by rw [q]⟩
      refine ⟨_, rfl, _, rfl, iteF ?_⟩
      refine ⟨_, rfl, rfl, _, rfl, ?_⟩
      rw [show decide (V.int (n : Int) = V.int 2) = decide (n = 2) from dec 2]
      refine ite2 (fun q => ?_) (fun q => ?_)
      · have q : n = 2 := of_decide_eq_true q
        rw [if_neg (by omega), if_pos q] at o1
        refine ⟨_, rfl, p, dx, _, rfl, x2.ob, rfn_take_step, G, p, z, _, m, u, rfl, sG2, ⟨dx, pt, pu, po, x2⟩, fun h => ?_, fun h H3 s3 x3 => ?_⟩
        · rw [if_pos h] at o1
          exact k.1 o1 H2 sG2
        · rw [if_neg h] at o1
          exact k.2 _ o1 H3 u s3 x3 cp.none
      · have q : ¬ n = 2 := fun e => q (decide_eq_true e)
        refine ⟨_, rfl, rfl, _, rfl, ?_⟩
        rw [show decide (V.int (n : Int) = V.int 1) = decide (n = 1) from dec 1]
        have ends : n ≤ 1 → tSeq (tDrop (tMeth T.receiver.C "end_strings" (spEndStr T) [] E (tVar 0) tNil)) (sFld K (tVar 0) (tOp rEq (tVar 2) (tC (.int 1))) "short") { nx := fun _ H' => Q .non H', rt := Q } [some (.ref p), some (.int (c : Int)), some (.int (n : Int))] H2 := by
          intro h1
          rw [if_pos h1] at o1
          refine ⟨_, rfl, p, dx, _, rfl, x2.ob, rfn_end_strings, G, p, z, _, m, u, rfl, sG2, ⟨dx, pt, pu, po, x2⟩, fun h H3 s3 => ?_, fun h H3 s3 ⟨dx3, pt3, pu3, po3, x3⟩ => ?_⟩
          · rw [if_neg (by show ¬ (((l.drop r.bits).all fun b => !b) = true); rw [show ((l.drop r.bits).all fun b => !b) = false from h]; decide)] at o1
            exact k.1 o1 H3 s3
          · rw [if_pos h] at o1
            refine ⟨_, rfl, rfl, _, rfl, p, _, dx3, _, rfl, x3.ob, cl, T.receiver.n_short, (by rw [rf_len]; decide), ?_⟩
            rw [show decide (V.int (n : Int) = V.int 1) = decide (n = 1) from dec 1, rfp_short]
            refine k.2 _ o1 _ u (same_put s3 x.gp) ⟨dx3, pt3, pu3, po3, ?_⟩ cp.none
            have eb : decide (n = 1) = (n == 1) := (Bool.beq_eq_decide_eq n 1).symm
            rw [eb]
            exact x3.set { ({ ({ r with waits := l.drop r.bits } : Ql65.Receiver) with waits := [], before := none } : Ql65.Receiver) with short := n == 1 } rfl rfl
        refine ite2 (fun q1 => ?_) (fun q1 => ?_)
        · have q1 : n = 1 := of_decide_eq_true q1
          refine iteT ?_
          exact ends (by omega)
        · have q1 : ¬ n = 1 := fun e => q1 (decide_eq_true e)
          refine ⟨_, rfl, rfl, _, rfl, ?_⟩
          rw [show decide (V.int (n : Int) = V.int 0) = decide (n = 0) from dec 0]
          refine ite2 (fun q0 => ?_) (fun q0 => ?_)
          · have q0 : n = 0 := of_decide_eq_true q0
            exact ends (by omega)
          · have q0 : ¬ n = 0 := fun e => q0 (decide_eq_true e)
            rw [if_neg (by omega), if_neg q] at o1
            have ok2 : ROk z { r with waits := l.drop r.bits } := ⟨ok.tree, ok.b1, ok.b2, ok.esc, (by show (l.drop r.bits).length < r.bits; have := ok.b1; omega), ok.bf, fun e => (by
              have : r.short = false := e
              rw [hs] at this
              cases this), ok.hf⟩
            exact ⟨_, rfl, p, dx, _, rfl, x2.ob, rfn_take_string, _, rfl, G, p, z, _, m, y, u, n, rfl, sG2, ⟨dx, pt, pu, po, x2⟩, ok2, cp, hy, fun e => k.1 (o1.trans e), fun x' e => k.2 x' (o1.trans e)⟩
/-! the whole row -/
theorem octet_len {z : Sizes} {r : Ql65.Receiver} (o : ROk z r) (g : Good z) {c : Nat} {x : Ql65.Receiver × List Nat} (h : r.octet z c = some x) : x.2.length ≤ 250 := by
  have l1 := g.l2
  cases hs : r.short with
  | true =>
    rw [octet_short o g hs] at h
    unfold oneNumber at h
    split at h
    · cases h; show 0 ≤ 250; decide
    · split at h
      · split at h
        · cases h; show 0 ≤ 250; decide
        · cases h
      · split at h
        · split at h
          · cases h
          · cases h; show 0 ≤ 250; decide
        · rw [string_eq] at h
          split at h
          · cases h
          · split at h
            · cases h
            · rename_i h1 h2
              have e := Option.some.inj h
              subst e
              have h1 : Ql65.real r.tree (valueOf ((r.waits ++ bitsOf 8 c).take r.bits)) = true := by simpa using h1
              obtain ⟨b, s, e1, e2, e3⟩ := o.tree.toWf0.first g h1
              have w := o.tree.grownBy g (p := r.before) (b := (r.tree.string (valueOf ((r.waits ++ bitsOf 8 c).take r.bits))).headD 0) o.bf (by rw [e3]; exact e2)
              obtain ⟨sp, q1, q2, q3⟩ := w.toWf0.string_len g (by simpa using h2)
              show (Tree.string _ _).length ≤ 250
              rw [q3]
              omega
  | false =>
    unfold Receiver.octet at h
    rw [if_neg (by rw [hs]; decide)] at h
    split at h
    · split at h
      · cases h; show 0 ≤ 250; decide
      · cases h; show 1 ≤ 250; decide
    · split at h
      · cases h; show 0 ≤ 250; decide
      · split at h
        · cases h; show 1 ≤ 250; decide
        · split at h
          · cases h; show 0 ≤ 250; decide
          · cases h
def spTake (T : PT K mg) : Sp := fun vs H Q E => ∃ (G : Hp) (p ar : Addr) (z : Sizes) (r : Ql65.Receiver) (m m0 : Nat) (u0 l : List Nat), vs = [.ref p, .ref ar, .int m] ∧ Same G H ∧ RecvR T G H p z r m0 u0 ∧ ROk z r ∧ G ar = some (.lst (nV l)) ∧ (∀ x, x ∈ l → x < 256) ∧ l.length ≤ 30000 ∧
  (r.take z l = none → ∀ H', Same G H' → E (.ref T.xC) none H') ∧ (∀ x, r.take z l = some x → ∀ a H' u, Same G H' → RecvR T G H' p z x.1 m u → Cap m x.2 u → x.2.length ≤ 250 * l.length → H' a = some (.lst (nV u)) → Q (.ref a) H')
theorem ok_take (T : PT K mg) : FnOk P w K mg base (CXW P w T.xC) 6 T.receiver.take_.f T.receiver.take_.fd ["self", "row", "most"] (spTake T) := by
  refine T.receiver.take_.F.okX scReceiver_take (fun vs H Q E h => ?_) (fun cdv A outer s₀ H vs Q E hr h => ?_)
  · obtain ⟨G, p, ar, z, r, m, m0, u0, l, rfl, _⟩ := h
    rfl
  · obtain ⟨G, p, ar, z, r, m, m0, u0, l, rfl, sG, ⟨dx, pt, pu, po, x⟩, ok, ga, hl, hlen, k1, k2⟩ := h
    have cl := T.receiver.cl
    have gd := x.tr.gd
    refine ⟨_, pss_cons (ps_fld (pv 0) (pe_lst pa_nil) rfl) (pss_cons (ps_fld (pv 0) (pv 2) rfl)
      (pss_cons (ps_for ownW rfl (pi_list (pv 1)) (pg_name (i := 3) scReceiver_take.nd rfl (Or.inl rfl))
        (pss_one (ps_if (pt_val (pe_fld (pv 0) rfl)) (pss_one (ps_expr (pe_meth (pv 0) cl T.receiver.m_take_short (ok_takeShort T) hr T.receiver.take_short_.b .nil passW (pa_cons (pv 3) pa_nil))))
          (pss_one (ps_if (pt_val (pe_fld (pv 0) rfl)) (pss_one (ps_expr (pe_meth (pv 0) cl T.receiver.m_take_meaning (ok_takeMeaning T) hr T.receiver.take_meaning_.b .nil passW (pa_cons (pv 3) pa_nil))))
            (pss_one (ps_expr (pe_meth (pv 0) cl T.receiver.m_take_plain (ok_takePlain T) (hr.mono (by decide)) T.receiver.take_plain_.b .nil pass0 (pa_cons (pv 3) pa_nil)))))))))
      (pss_one (ps_ret (pe_fld (pv 0) rfl))))), ?_⟩
    -- self.out = []; self.most = most
    refine ⟨(by show 0 ≤ sizeLine; decide), fun a ha => ?_⟩
    have gA : G a = none := free' ha sG
    have pa : p ≠ a := ne_of_none x.ob ha
    refine ⟨_, rfl, p, _, dx, _, rfl, (by rw [upd_ne pa]; exact x.ob), cl, T.receiver.n_out, (by rw [rf_len]; decide), ?_⟩
    rw [rfp_out]
    refine ⟨_, rfl, _, rfl, p, _, dx, _, rfl, upd_same, cl, T.receiver.n_most, (by rw [rf_len]; decide), ?_⟩
    rw [rfp_most, upd_upd]
    have x0 : RecvP T G (upd (upd H a (.lst [])) p (HO.ins T.receiver.C dx (rfF pt r.short r.escape r.bits pu r.half (oV r.before) a m))) p dx pt pu a z r m [] := by
      refine ⟨upd_same, ?_, ?_, ?_, x.gp, gA⟩
      · refine x.tr.keepK fun b o e h => ?_
        rw [upd_ne fun q => ?_, upd_ne (ne_of_none e ha)]
        · exact e
        · rw [q, x.ob] at e
          cases e
          exact not_tree_r h
      · refine x.un.keepK fun b o e h => ?_
        rw [upd_ne fun q => ?_, upd_ne (ne_of_none e ha)]
        · exact e
        · rw [q, x.ob] at e
          cases e
          exact not_unp_r h
      · rw [upd_ne pa.symm, upd_same]
        rfl
    have sG0 : Same G (upd (upd H a (.lst [])) p (HO.ins T.receiver.C dx (rfF pt r.short r.escape r.bits pu r.half (oV r.before) a m))) := same_put (same_put sG gA) x.gp
    refine ⟨_, rfl, ar, rfl, ⟨_, SqL.of (sG0 _ _ ga)⟩, for_list (K := K) (a := ar) (xs := nV l) (fun i σ H' => ∃ v x u, σ = [some (.ref p), some (.ref ar), some (.int (m : Int)), v] ∧ Same G H' ∧ r.take z (l.take i) = some x ∧ RecvR T G H' p z x.1 m u ∧ Cap m x.2 u ∧ x.2.length ≤ 250 * i)
      ⟨none, (r, []), [], rfl, sG0, rfl, ⟨dx, pt, pu, a, x0⟩, ⟨fun _ => rfl, fun h => absurd h (by show ¬ m < 0; omega), Nat.le_refl _⟩, (by show 0 ≤ 250 * 0; decide)⟩ (fun i σ H' _ ⟨_, _, _, _, s', _⟩ => SqL.of (s' _ _ ga)) ?_ ?_⟩
    · rintro i y σ H' hi ⟨v, xx, u, rfl, s', et, ⟨dx', pt', pu', po', x'⟩, cp, hb⟩
      obtain ⟨c, hc, rfl⟩ := nV_get hi
      have hil : i < l.length := (List.getElem?_eq_some_iff.mp hc).1
      have c256 : c < 256 := hl c (List.mem_of_getElem? hc)
      have ok' : ROk z xx.1 := ROk.take gd _ r xx ok et
      have room : xx.2.length + 300 ≤ sizeLine := by
        rw [sizeLine_eq]
        omega
      have el : l.take (i + 1) = l.take i ++ [c] := by
        rw [List.take_add_one, hc]
        rfl
      have es := take_snoc (z := z) (l.take i) r c
      rw [et] at es
      have took : Took T G p z m xx.2 (xx.1.octet z c) (fun v' H2 => ∃ v x u, ([some (.ref p), some (.ref ar), some (.int (m : Int)), some (.int (c : Int))] : L2.St) = [some (.ref p), some (.ref ar), some (.int (m : Int)), v] ∧ Same G H2 ∧ r.take z (l.take (i + 1)) = some x ∧ RecvR T G H2 p z x.1 m u ∧ Cap m x.2 u ∧ x.2.length ≤ 250 * (i + 1)) E := by
        refine ⟨fun e H2 s2 => k1 ?_ H2 s2, fun y e H2 u' s2 x2 c2 => ?_⟩
        · have : r.take z (l.take (i + 1)) = none := by
            rw [el, es]
            show (xx.1.octet z c).map _ = none
            rw [e]
            rfl
          have q := take_none (z := z) (l.take (i + 1)) (l.drop (i + 1)) r this
          rw [List.take_append_drop] at q
          exact q
        · have ol := octet_len ok' gd e
          refine ⟨_, (y.1, xx.2 ++ y.2), u', rfl, s2, ?_, x2, c2, ?_⟩
          · rw [el, es]
            show (xx.1.octet z c).map _ = _
            rw [e]
            rfl
          · show (xx.2 ++ y.2).length ≤ _
            rw [List.length_append]
            omega
      refine ⟨_, rfl, p, _, dx', _, _, rfl, x'.ob, cl, T.receiver.n_short, rf_short, _, rfl, ?_⟩
      cases hs : xx.1.short with
      | true =>
        refine iteT ?_
        exact ⟨_, rfl, p, dx', _, rfl, x'.ob, rfn_take_short, _, rfl, G, p, z, xx.1, m, xx.2, u, c, rfl, s', ⟨dx', pt', pu', po', x'⟩, ok', hs, cp, c256, room, took⟩
      | false =>
        refine iteF ?_
        refine ⟨_, rfl, p, _, dx', _, _, rfl, x'.ob, cl, T.receiver.n_behind_escape, rf_behind_escape, _, rfl, ?_⟩
        cases hh : xx.1.half with
        | true =>
          refine iteT ?_
          exact ⟨_, rfl, p, dx', _, rfl, x'.ob, rfn_take_meaning, _, rfl, G, p, z, xx.1, m, xx.2, u, c, rfl, s', ⟨dx', pt', pu', po', x'⟩, ok', ⟨hs, hh⟩, cp, c256, room, took⟩
        | false =>
          refine iteF ?_
          have none_ : xx.1.octet z c ≠ none := fun e => by
            unfold Receiver.octet at e
            rw [if_neg (by rw [hs]; decide), if_pos hh] at e
            split at e <;> cases e
          exact ⟨_, rfl, p, dx', _, rfl, x'.ob, rfn_take_plain, _, rfl, G, p, z, xx.1, m, xx.2, u, c, rfl, s', ⟨dx', pt', pu', po', x'⟩, ok', ⟨hs, hh⟩, cp, c256, room, fun e => absurd e none_, took.2⟩
    · rintro σ H' ⟨v, xx, u, rfl, s', et, ⟨dx', pt', pu', po', x'⟩, cp, hb⟩
      rw [nV_len] at et hb
      rw [List.take_length] at et
      exact ⟨_, rfl, p, _, dx', _, _, rfl, x'.ob, cl, T.receiver.n_out, rf_out, k2 xx et po' H' u s' ⟨dx', pt', pu', po', x'⟩ cp hb x'.ou⟩
end
end SL
namespace SL
open PySem hiding Tree
open L2 Sl Ql65
/-! a thing that is not theirs changes -/
section
variable {C p q : Addr} {G H : Hp} {z : Sizes} {t : Tree} {o : List Nat} {l : List Bool} {o1 o2 : HO}
theorem upd_comm {H : Hp} {a b : Addr} {x y : HO} (h : a ≠ b) : upd (upd H a x) b y = upd (upd H b y) a x := by
  funext c
  unfold upd
  by_cases h1 : c = b
  · subst h1
    rw [if_pos rfl, if_neg (Ne.symm h), if_pos rfl]
  · rw [if_neg h1, if_neg h1]
theorem same_both (s : Same G H) (o2 : HO) : Same (upd G q o2) (upd H q o2) := fun b u e => by
  by_cases h : b = q
  · subst h
    rw [upd_same] at e ⊢
    exact e
  · rw [upd_ne h] at e ⊢
    exact s b u e
theorem out_of {b : Addr} (h : G b = none) (hq : G q = some o1) : b ≠ q := fun e => by rw [e, hq] at h; cases h
theorem TreeAt.other (x : TreeAt C G H p z t) (hq : G q = some o1) (hH : H q = some o1) (ho : ∀ xs, o1 ≠ .tup xs) : TreeAt C (upd G q o2) (upd H q o2) p z t := by
  obtain ⟨⟨dx, a1, a2, a3, a4, g, D, h0, h1, h2, h3, h4, h5, h6, n1, n2, n3, g0, g1, g2, g3, g4⟩, w, gd⟩ := x
  have k0 := out_of g0 hq
  have k1 := out_of g1 hq
  have k2 := out_of g2 hq
  have k3 := out_of g3 hq
  have k4 := out_of g4 hq
  refine ⟨⟨dx, a1, a2, a3, a4, g, D, by rw [upd_ne k0]; exact h0, by rw [upd_ne k1]; exact h1, by rw [upd_ne k2]; exact h2, by rw [upd_ne k3]; exact h3, by rw [upd_ne k4]; exact h4, fun y hy => ?_, h6, n1, n2, n3, by rw [upd_ne k0]; exact g0, by rw [upd_ne k1]; exact g1, by rw [upd_ne k2]; exact g2, by rw [upd_ne k3]; exact g3, by rw [upd_ne k4]; exact g4⟩, w, gd⟩
  rw [upd_ne fun e => ?_]
  · exact h5 y hy
  · have := h5 y hy
    rw [e, hH] at this
    exact ho _ (Option.some.inj this)
theorem PackAt.other (x : PackAt C G H p o l) (hq : G q = some o1) : PackAt C (upd G q o2) (upd H q o2) p o l := by
  obtain ⟨dx, a, h0, h1, g0, g1⟩ := x
  have k0 := out_of g0 hq
  have k1 := out_of g1 hq
  exact ⟨dx, a, by rw [upd_ne k0]; exact h0, by rw [upd_ne k1]; exact h1, by rw [upd_ne k0]; exact g0, by rw [upd_ne k1]; exact g1⟩
theorem UnpAt.other (x : UnpAt C G H p l) (hq : G q = some o1) : UnpAt C (upd G q o2) (upd H q o2) p l := by
  obtain ⟨dx, h0, g0⟩ := x
  have k0 := out_of g0 hq
  exact ⟨dx, by rw [upd_ne k0]; exact h0, by rw [upd_ne k0]; exact g0⟩
end
section
variable {P : Program} {w : World} {K : PySem.W.Frag} {mg : Str → Option Value} {base : Heap}
theorem SendR.other {T : PT K mg} {G H : Hp} {p q : Addr} {z : Sizes} {s : Ql65.Sender} {o : List Nat} {o1 o2 : HO} (x : SendR T G H p z s o) (hq : G q = some o1) (hH : H q = some o1) (ho : ∀ xs, o1 ≠ .tup xs) : SendR T (upd G q o2) (upd H q o2) p z s o := by
  obtain ⟨dx, pt, pk, x⟩ := x
  have k0 := out_of x.gp hq
  exact ⟨dx, pt, pk, by rw [upd_ne k0]; exact x.ob, x.tr.other hq hH ho, x.pa.other hq, by rw [upd_ne k0]; exact x.gp⟩
theorem RecvR.other {T : PT K mg} {G H : Hp} {p q : Addr} {z : Sizes} {r : Ql65.Receiver} {m : Nat} {u : List Nat} {o1 o2 : HO} (x : RecvR T G H p z r m u) (hq : G q = some o1) (hH : H q = some o1) (ho : ∀ xs, o1 ≠ .tup xs) : RecvR T (upd G q o2) (upd H q o2) p z r m u := by
  obtain ⟨dx, pt, pu, po, x⟩ := x
  have k0 := out_of x.gp hq
  have k1 := out_of x.go hq
  exact ⟨dx, pt, pu, po, by rw [upd_ne k0]; exact x.ob, x.tr.other hq hH ho, x.un.other hq, by rw [upd_ne k1]; exact x.ou, by rw [upd_ne k0]; exact x.gp, by rw [upd_ne k1]; exact x.go⟩
/-- both ends stand, apart from G -/
structure Ends2 (T : PT K mg) (G H : Hp) (ps pr : Addr) (st : Ql65.St) : Prop where
  sn : SendR T G H ps st.sizes st.sender []
  rc : ∃ m u, RecvR T G H pr st.sizes st.receiver m u
  so : SOk st.sizes st.sender
  ro : ROk st.sizes st.receiver
  gd : Good st.sizes
/-- **the modem stands at pm, apart from G** -/
def ModemR (T : PT K mg) (G H : Hp) (pm : Addr) (a : Option Ql65.St) : Prop := G pm = none ∧ ∃ dx, match a with
  | none => H pm = some (.ins T.modem.C dx (mfF .non .non))
  | some st => ∃ ps pr, H pm = some (.ins T.modem.C dx (mfF (.ref ps) (.ref pr))) ∧ Ends2 T G H ps pr st
section
variable {T : PT K mg} {G G' H H' : Hp} {pm ps pr q : Addr} {a : Option Ql65.St} {st : Ql65.St} {o1 o2 : HO}
theorem Ends2.kept (x : Ends2 T G H ps pr st) (e : Same H H') : Ends2 T G H' ps pr st := by
  obtain ⟨m, u, y⟩ := x.rc
  exact ⟨x.sn.kept e, ⟨m, u, y.kept e⟩, x.so, x.ro, x.gd⟩
theorem Ends2.less (x : Ends2 T G H ps pr st) (e : Same G' G) : Ends2 T G' H ps pr st := by
  obtain ⟨m, u, y⟩ := x.rc
  exact ⟨x.sn.less e, ⟨m, u, y.less e⟩, x.so, x.ro, x.gd⟩
theorem Ends2.other (x : Ends2 T G H ps pr st) (hq : G q = some o1) (hH : H q = some o1) (ho : ∀ xs, o1 ≠ .tup xs) : Ends2 T (upd G q o2) (upd H q o2) ps pr st := by
  obtain ⟨m, u, y⟩ := x.rc
  exact ⟨x.sn.other hq hH ho, ⟨m, u, y.other hq hH ho⟩, x.so, x.ro, x.gd⟩
theorem ModemR.kept (x : ModemR T G H pm a) (e : Same H H') : ModemR T G H' pm a := by
  obtain ⟨gp, dx, x⟩ := x
  cases a with
  | none => exact ⟨gp, dx, e _ _ x⟩
  | some st =>
    obtain ⟨ps, pr, h, y⟩ := x
    exact ⟨gp, dx, ps, pr, e _ _ h, y.kept e⟩
theorem ModemR.other (x : ModemR T G H pm a) (hq : G q = some o1) (hH : H q = some o1) (ho : ∀ xs, o1 ≠ .tup xs) : ModemR T (upd G q o2) (upd H q o2) pm a := by
  obtain ⟨gp, dx, x⟩ := x
  have k0 := out_of gp hq
  refine ⟨by rw [upd_ne k0]; exact gp, dx, ?_⟩
  cases a with
  | none =>
    show upd H q o2 pm = _
    rw [upd_ne k0]
    exact x
  | some st =>
    obtain ⟨ps, pr, h, y⟩ := x
    exact ⟨ps, pr, by rw [upd_ne k0]; exact h, y.other hq hH ho⟩
end
/-- the modem's own kind is nobody's part -/
theorem tf_mf {c l n : Int} {a1 a2 a3 a4 : Addr} {s r : V} : tfF c l n a1 a2 a3 a4 ≠ mfF s r := fun h => by
  have h := congrArg (List.lookup ("codes" : Str)) h
  rw [tf_codes, show (mfF s r).lookup ("codes" : Str) = none from by kernel_rfl] at h
  cases h
theorem pf_mf {a : Addr} {x y : Int} {s r : V} : pfF a x y ≠ mfF s r := fun h => by
  have h := congrArg (List.lookup ("octets" : Str)) h
  rw [pf_octets, show (mfF s r).lookup ("octets" : Str) = none from by kernel_rfl] at h
  cases h
theorem uf_mf {x y : Int} {s r : V} : ufF x y ≠ mfF s r := fun h => by
  have h := congrArg (List.lookup ("rest" : Str)) h
  rw [uf_rest, show (mfF s r).lookup ("rest" : Str) = none from by kernel_rfl] at h
  cases h
theorem sf_mf {t pk : Addr} {sh : Bool} {e b : Int} {st fr s r : V} : sfF t sh e b pk st fr ≠ mfF s r := fun h => by
  have h := congrArg (List.lookup ("packer" : Str)) h
  rw [sf_packer, show (mfF s r).lookup ("packer" : Str) = none from by kernel_rfl] at h
  cases h
theorem rf_mf {t u ou : Addr} {sh be : Bool} {e b m : Int} {bf s r : V} : rfF t sh e b u be bf ou m ≠ mfF s r := fun h => by
  have h := congrArg (List.lookup ("out" : Str)) h
  rw [rf_out, show (mfF s r).lookup ("out" : Str) = none from by kernel_rfl] at h
  cases h
section
variable {T : PT K mg} {G H : Hp} {pm dx p : Addr} {z : Sizes} {C : Addr} {v1 v2 v3 v4 : V}
theorem SendR.atM {s : Ql65.Sender} {o : List Nat} (x : SendR T G H p z s o) (h : H pm = some (.ins C dx (mfF v1 v2))) : SendR T G (upd H pm (.ins C dx (mfF v3 v4))) p z s o := by
  obtain ⟨ex, pt, pk, x⟩ := x
  refine ⟨ex, pt, pk, ?_, ?_, ?_, x.gp⟩
  · rw [upd_ne (ne_of x.ob h (fun e => sf_mf (HO.ins.inj e).2.2))]
    exact x.ob
  · refine x.tr.keepK fun b o e hk => ?_
    rw [upd_ne fun q => ?_]
    · exact e
    · rw [q, h] at e
      cases e
      obtain ⟨_, _, _, _, _, _, _, e⟩ := hk
      exact tf_mf e.symm
  · refine x.pa.keepK fun b o e hk => ?_
    rw [upd_ne fun q => ?_]
    · exact e
    · rw [q, h] at e
      cases e
      obtain ⟨_, _, _, e⟩ := hk
      exact pf_mf e.symm
theorem RecvR.atM {r : Ql65.Receiver} {m : Nat} {u : List Nat} (x : RecvR T G H p z r m u) (h : H pm = some (.ins C dx (mfF v1 v2))) : RecvR T G (upd H pm (.ins C dx (mfF v3 v4))) p z r m u := by
  obtain ⟨ex, pt, pu, po, x⟩ := x
  refine ⟨ex, pt, pu, po, ?_, ?_, ?_, ?_, x.gp, x.go⟩
  · rw [upd_ne (ne_of x.ob h (fun e => rf_mf (HO.ins.inj e).2.2))]
    exact x.ob
  · refine x.tr.keepK fun b o e hk => ?_
    rw [upd_ne fun q => ?_]
    · exact e
    · rw [q, h] at e
      cases e
      obtain ⟨_, _, _, _, _, _, _, e⟩ := hk
      exact tf_mf e.symm
  · refine x.un.keepK fun b o e hk => ?_
    rw [upd_ne fun q => ?_]
    · exact e
    · rw [q, h] at e
      cases e
      obtain ⟨_, _, e⟩ := hk
      exact uf_mf e.symm
  · rw [upd_ne (ne_of x.ou h (fun z => nomatch z))]
    exact x.ou
end
theorem same_out {G H : Hp} {p : Addr} (s : Same G H) (h : H p = none) : G p = none := by
  cases e : G p with
  | none => rfl
  | some o => rw [s _ _ e] at h; cases h
/-- the numbers of an answer -/
def ansL (x : Ql65.Ans) : List Int := x.value :: Ql65Neutral.ints x.bytes
def Ans1 (T : PT K mg) (G : Hp) (pm : Addr) (x : Ql65.Abs × Ql65.Ans) (Q : VK) : Prop := ∀ l H', G l = none → Same G H' → ModemR T G H' pm x.1 → H' l = some (.lst ((ansL x.2).map V.int)) → Q (.ref l) H'
/-- a list of one number that is answered -/
theorem ans_one {T : PT K mg} {G H : Hp} {pm : Addr} {a : Option Ql65.St} {n : Int} {Q : VK} (sG : Same G H) (x : ModemR T G H pm a) (k : Ans1 T G pm (a, only n) Q) : tLst (tCons (tC (.int n)) tNil) ([] : L2.St) H Q :=
  ⟨(by show 1 ≤ sizeLine; decide), fun l hl => k l _ (same_out sG hl) (sG.trans (same_upd hl)) (x.kept (same_upd hl)) upd_same⟩
def spModInit (T : PT K mg) : Sp := fun vs H Q _ => ∃ (G : Hp) (p dx : Addr), vs = [.ref p] ∧ H p = some (.ins T.modem.C dx []) ∧ Same G H ∧ G p = none ∧ ∀ H', Same G H' → ModemR T G H' p none → Q .non H'
theorem ok_modInit (T : PT K mg) : FnOk P w K mg base CX0 1 T.modem.init_.f T.modem.init_.fd ["self"] (spModInit T) := by
  refine T.modem.init_.F.ok scModem_init (fun vs H Q E h => ?_) (fun cdv A outer s H vs Q E hr h => ?_)
  · obtain ⟨G, p, dx, rfl, _⟩ := h
    rfl
  · obtain ⟨G, p, dx, rfl, hp, sG, gp, k⟩ := h
    have cl := T.modem.cl
    refine ⟨_, pss_cons (ps_fld (pv 0) pe_non rfl) (pss_one (ps_fld (pv 0) pe_non rfl)), ?_⟩
    refine ⟨_, rfl, p, _, dx, _, rfl, hp, cl, T.modem.n_sender, (by show 0 < 1000; decide), ?_⟩
    refine ⟨_, rfl, p, _, dx, _, rfl, upd_same, cl, T.modem.n_receiver, (by show 1 < 1000; decide), ?_⟩
    refine k _ (same_put (same_put sG gp) gp) ⟨gp, dx, ?_⟩
    show upd _ p _ p = _
    rw [upd_same]
    exact congrArg (fun l => some (HO.ins T.modem.C dx l)) mf_made
def spBegin (T : PT K mg) : Sp := fun vs H Q _ => ∃ (G : Hp) (pm : Addr) (a : Option Ql65.St) (c l : Nat), vs = [.ref pm, .int c, .int l] ∧ Same G H ∧ ModemR T G H pm a ∧ Ans1 T G pm (spec a (.begin_ c l)) Q
theorem ok_begin (T : PT K mg) : FnOk P w K mg base CX0 7 T.modem.begin_.f T.modem.begin_.fd ["self", "codes", "longest"] (spBegin T) := by
  refine T.modem.begin_.F.ok scModem_begin (fun vs H Q E h => ?_) (fun cdv A outer s H vs Q E hr h => ?_)
  · obtain ⟨G, pm, a, c, l, rfl, _⟩ := h
    rfl
  · obtain ⟨G, pm, a, c, l, rfl, sG, x, k⟩ := h
    have cl := T.modem.cl
    refine ⟨_, pss_cons (ps_if (pw_or (pt_cmpR op_lt (pv 1) (pe_gi T.g_LEAST_CODES) (nomark _)) (pw_or1 (pt_cmpR op_gt (pv 1) (pe_gi T.g_MOST_CODES) (nomark _)))).pt (pss_one (ps_ret (pe_lst (pa_cons (pe_gi T.g_OUT_OF_RANGE) pa_nil)))) pss_nil)
      (pss_cons (ps_if (pw_or (pt_cmpR op_lt (pv 2) (pe_gi T.g_LEAST_LONGEST) (nomark _)) (pw_or1 (pt_cmpR op_gt (pv 2) (pe_gi T.g_MOST_LONGEST) (nomark _)))).pt (pss_one (ps_ret (pe_lst (pa_cons (pe_gi T.g_OUT_OF_RANGE) pa_nil)))) pss_nil)
      (pss_cons (ps_fld (pv 0) (pe_make T.sender.mak (ok_sendInit T) hr rfl T.sender.at_ T.sender.init_.b .nil pass0 (pa_cons (pv 1) (pa_cons (pv 2) pa_nil))) rfl)
      (pss_cons (ps_fld (pv 0) (pe_make T.receiver.mak (ok_recvInit T) hr rfl T.receiver.at_ T.receiver.init_.b .nil pass0 (pa_cons (pv 1) (pa_cons (pv 2) pa_nil))) rfl)
      (pss_one (ps_ret (pe_lst (pa_cons (pe_gi T.g_DONE) pa_nil))))))), ?_⟩
    have bad : ¬ (512 ≤ c ∧ c ≤ 65536 ∧ 6 ≤ l ∧ l ≤ 250) → tLst (tCons (tC (.int (-2))) tNil) ([] : L2.St) H Q := fun h => by
      have e : spec a (.begin_ c l) = (a, only (-2)) := by
        show (if right ⟨c, l⟩ = true then (some ⟨⟨c, l⟩, startS, startR⟩, only 0) else (a, only (-2))) = _
        exact if_neg fun q => h (of_decide_eq_true q)
      rw [e] at k
      exact ans_one sG x k
    have second : (512 ≤ c ∧ c ≤ 65536) → tSeq (tIfS (tOr (tTest (tOp (rI0 fun i j => .bl (decide (i < j))) (tVar 2) (tC (.int 6)))) (tTest (tOp (rI0 fun i j => .bl (decide (j < i))) (tVar 2) (tC (.int 250))))) (tRet (tLst (tCons (tC (.int (-2))) tNil))) tNext)
        (tSeq (sFld K (tVar 0) (tMake T.sender.C (spSendInit T) [] E0 (tCons (tVar 1) (tCons (tVar 2) tNil))) "sender") (tSeq (sFld K (tVar 0) (tMake T.receiver.C (spRecvInit T) [] E0 (tCons (tVar 1) (tCons (tVar 2) tNil))) "receiver") (tRet (tLst (tCons (tC (.int 0)) tNil))))) { nx := fun _ H' => Q .non H', rt := Q } [some (.ref pm), some (.int (c : Int)), some (.int (l : Int))] H := by
      intro hc
      have third : (6 ≤ l ∧ l ≤ 250) → tSeq (sFld K (tVar 0) (tMake T.sender.C (spSendInit T) [] E0 (tCons (tVar 1) (tCons (tVar 2) tNil))) "sender") (tSeq (sFld K (tVar 0) (tMake T.receiver.C (spRecvInit T) [] E0 (tCons (tVar 1) (tCons (tVar 2) tNil))) "receiver") (tRet (tLst (tCons (tC (.int 0)) tNil)))) { nx := fun _ H' => Q .non H', rt := Q } [some (.ref pm), some (.int (c : Int)), some (.int (l : Int))] H := by
        intro hl
        have e : spec a (.begin_ c l) = (some ⟨⟨c, l⟩, startS, startR⟩, only 0) := by
          show (if right ⟨c, l⟩ = true then (some ⟨⟨c, l⟩, startS, startR⟩, only 0) else (a, only (-2))) = _
          exact if_pos (decide_eq_true (show 512 ≤ c ∧ c ≤ 65536 ∧ 6 ≤ l ∧ l ≤ LONG from ⟨hc.1, hc.2, hl.1, hl.2⟩))
        rw [e] at k
        have gd : Good ⟨c, l⟩ := ⟨hc.1, hc.2, hl.1, hl.2⟩
        obtain ⟨gp, dx, x⟩ := x
        obtain ⟨v1, v2, hm⟩ : ∃ v1 v2, H pm = some (.ins T.modem.C dx (mfF v1 v2)) := by
          cases a with
          | none => exact ⟨_, _, x⟩
          | some st =>
            obtain ⟨ps, pr, h, _⟩ := x
            exact ⟨_, _, h⟩
        refine ⟨_, rfl, _, rfl, ?_⟩
        intro q dq nq ndq nne
        have s0 : Same H (upd (upd H dq (.own q)) q (.ins T.sender.C dq [])) := fun b o e => by
          rw [upd_ne (ne_of_none e nq), upd_ne (ne_of_none e ndq)]
          exact e
        refine ⟨H, q, dq, ⟨c, l⟩, rfl, gd, upd_same, s0, nq, fun H1 s1 x1 => ⟨rfl, ?_⟩⟩
        refine ⟨_, rfl, pm, _, dx, _, rfl, s1 _ _ hm, cl, T.modem.n_sender, (by rw [mf_len]; decide), ?_⟩
        rw [mfp_sender]
        refine ⟨_, rfl, _, rfl, ?_⟩
        have sG1 : Same G (upd H1 pm (HO.ins T.modem.C dx (mfF (.ref q) v2))) := same_put (sG.trans s1) gp
        have x1' : SendR T G (upd H1 pm (HO.ins T.modem.C dx (mfF (.ref q) v2))) q ⟨c, l⟩ startS [] := (x1.less sG).atM (s1 _ _ hm)
        generalize hH2 : upd H1 pm (HO.ins T.modem.C dx (mfF (.ref q) v2)) = H2 at sG1 x1' ⊢
        have hm2 : H2 pm = some (.ins T.modem.C dx (mfF (.ref q) v2)) := by rw [← hH2, upd_same]
        intro q2 dq2 nq2 ndq2 nne2
        have s2 : Same H2 (upd (upd H2 dq2 (.own q2)) q2 (.ins T.receiver.C dq2 [])) := fun b o e => by
          rw [upd_ne (ne_of_none e nq2), upd_ne (ne_of_none e ndq2)]
          exact e
        refine ⟨H2, q2, dq2, ⟨c, l⟩, rfl, gd, upd_same, s2, nq2, fun H3 s3 x3 => ⟨rfl, ?_⟩⟩
        refine ⟨_, rfl, pm, _, dx, _, rfl, s3 _ _ hm2, cl, T.modem.n_receiver, (by rw [mf_len]; decide), ?_⟩
        rw [mfp_receiver]
        have sG3 : Same G (upd H3 pm (HO.ins T.modem.C dx (mfF (.ref q) (.ref q2)))) := same_put (sG1.trans s3) gp
        exact ans_one (T := T) (a := some ⟨⟨c, l⟩, startS, startR⟩) sG3 ⟨gp, dx, q, q2, upd_same, (x1'.kept s3).atM (s3 _ _ hm2), ⟨0, [], (x3.less sG1).atM (s3 _ _ hm2)⟩, sok_start gd, rok_start gd, gd⟩ k
      refine ⟨_, rfl, _, _, rfl, rfl, _, rfl, ?_⟩
      refine ite2 (fun q => ?_) (fun q => ?_)
      · have q : (l : Int) < 6 := of_decide_eq_true q
        refine iteT ?_
        exact bad (by omega)
      · have q : ¬ (l : Int) < 6 := fun e => q (decide_eq_true e)
        refine ⟨_, rfl, _, _, rfl, rfl, _, rfl, ?_⟩
        refine ite2 (fun q2 => ?_) (fun q2 => ?_)
        · have q2 : (250 : Int) < (l : Int) := of_decide_eq_true q2
          exact bad (by omega)
        · have q2 : ¬ (250 : Int) < (l : Int) := fun e => q2 (decide_eq_true e)
          exact third (by omega)
    refine ⟨_, rfl, _, _, rfl, rfl, _, rfl, ?_⟩
    refine ite2 (fun q => ?_) (fun q => ?_)
    · have q : (c : Int) < 512 := of_decide_eq_true q
      refine iteT ?_
      exact bad (by omega)
    · have q : ¬ (c : Int) < 512 := fun e => q (decide_eq_true e)
      refine ⟨_, rfl, _, _, rfl, rfl, _, rfl, ?_⟩
      refine ite2 (fun q2 => ?_) (fun q2 => ?_)
      · have q2 : (65536 : Int) < (c : Int) := of_decide_eq_true q2
        exact bad (by omega)
      · have q2 : ¬ (65536 : Int) < (c : Int) := fun e => q2 (decide_eq_true e)
        exact second (by omega)
end
end SL
namespace SL
open PySem hiding Tree
open L2 Sl Ql65
section
variable {P : Program} {w : World} {K : PySem.W.Frag} {mg : Str → Option Value} {base : Heap}
theorem ans_list (o : List Nat) : [V.int (o.length : Int)] ++ nV o = (ansL ⟨(o.length : Nat), o⟩).map V.int := by
  show V.int (o.length : Int) :: nV o = V.int ((o.length : Nat) : Int) :: (Ql65Neutral.ints o).map V.int
  unfold Ql65Neutral.ints nV
  rw [List.map_map]
  rfl
def spSettle (T : PT K mg) : Sp := fun vs H Q _ => ∃ (G : Hp) (pm tr ao : Addr) (st : Ql65.St) (s' : Ql65.Sender) (o : List Nat) (most : Nat), vs = [.ref pm, .ref tr, .ref ao, .int most] ∧ Same G H ∧ ModemR T G H pm (some st) ∧ SendR T G H tr st.sizes s' [] ∧ SOk st.sizes s' ∧ H ao = some (.lst (nV o)) ∧ o.length ≤ 10000000 ∧
  Ans1 T G pm (told st most { st with sender := s' } o) Q
theorem ok_settle (T : PT K mg) : FnOk P w K mg base CX0 1 T.modem.settle_sender_.f T.modem.settle_sender_.fd ["self", "trial", "octets", "most"] (spSettle T) := by
  refine T.modem.settle_sender_.F.ok scModem_settle_sender (fun vs H Q E h => ?_) (fun cdv A outer s₀ H vs Q E hr h => ?_)
  · obtain ⟨G, pm, tr, ao, st, s', o, most, rfl, _⟩ := h
    rfl
  · obtain ⟨G, pm, tr, ao, st, s', o, most, rfl, sG, x, xs, so, ha, hl, k⟩ := h
    have cl := T.modem.cl
    refine ⟨_, pss_cons (ps_if (pt_cmpR op_gt (pe_callB call_len_seq rfl T.b_len PySem.boot_len (pa_cons (pv 2) pa_nil)) (pv 3) (nomark _)) (pss_one (ps_ret (pe_lst (pa_cons (pe_gi T.g_MORE_THAN_MOST) pa_nil)))) pss_nil)
      (pss_cons (ps_fld (pv 0) (pv 1) rfl)
      (pss_one (ps_ret (pe_op op_cat (pe_lst (pa_cons (pe_callB call_len_seq rfl T.b_len PySem.boot_len (pa_cons (pv 2) pa_nil)) pa_nil)) (pv 2))))), ?_⟩
    refine ⟨_, rfl, ao, _, rfl, .inl (SqL.of ha), _, rfl, _, _, rfl, rfl, _, rfl, ?_⟩
    rw [nV_len]
    unfold told at k
    refine ite2 (fun q => ?_) (fun q => ?_)
    · have q : (most : Int) < (o.length : Int) := of_decide_eq_true q
      rw [if_pos (by omega)] at k
      exact ans_one sG x k
    · have q : ¬ (most : Int) < (o.length : Int) := fun e => q (decide_eq_true e)
      rw [if_neg (by omega)] at k
      obtain ⟨gp, dx, ps, pr, hm, en⟩ := x
      refine ⟨_, rfl, _, rfl, pm, _, dx, _, rfl, hm, cl, T.modem.n_sender, (by rw [mf_len]; decide), ?_⟩
      rw [mfp_sender]
      obtain ⟨m, u, rc⟩ := en.rc
      have am : ao ≠ pm := ne_of ha hm (fun z => nomatch z)
      have ha1 : upd H pm (HO.ins T.modem.C dx (mfF (.ref tr) (.ref pr))) ao = some (.lst (nV o)) := by rw [upd_ne am]; exact ha
      refine ⟨_, rfl, ao, _, rfl, .inl (SqL.of ha1), (by show 1 ≤ sizeLine; decide), fun l1 hl1 => ?_⟩
      have la : ao ≠ l1 := ne_of_none ha1 hl1
      refine ⟨_, rfl, l1, ao, _, _, rfl, rfl, upd_same, (by rw [upd_ne la]; exact ha1), (by rw [nV_len, sizeLine_eq]; show 1 + o.length ≤ _; omega), fun l2 hl2 => ?_⟩
      rw [nV_len, ans_list]
      have sm : Same G (upd H pm (HO.ins T.modem.C dx (mfF (.ref tr) (.ref pr)))) := same_put sG gp
      have s1 := same_upd (o := HO.lst [V.int (o.length : Int)]) hl1
      have s2 := same_upd (o := HO.lst ((ansL ⟨(o.length : Nat), o⟩).map V.int)) hl2
      rw [nV_len] at s2
      have M : ModemR T G (upd H pm (HO.ins T.modem.C dx (mfF (.ref tr) (.ref pr)))) pm (some { st with sender := s' }) := ⟨gp, dx, tr, pr, upd_same, ⟨xs.atM hm, ⟨m, u, rc.atM hm⟩, so, en.ro, en.gd⟩⟩
      exact k l2 _ (same_out (sm.trans s1) (by rw [nV_len] at hl2; exact hl2)) (sm.trans (s1.trans s2)) (M.kept (s1.trans s2)) upd_same
theorem big_eq (n : Nat) : decide ((16777216 : Int) < (n : Int)) = decide (ROOM < n) := decide_eq_decide.mpr (by show _ ↔ 16777216 < n; omega)
def spMPut (T : PT K mg) : Sp := fun vs H Q _ => ∃ (G : Hp) (pm ar : Addr) (st : Ql65.St) (most : Nat) (l : List Nat), vs = [.ref pm, .int most, .ref ar] ∧ Same G H ∧ ModemR T G H pm (some st) ∧ H ar = some (.lst (nV l)) ∧ (∀ x, x ∈ l → x < 256) ∧ l.length ≤ 30000 ∧ Ans1 T G pm (spec (some st) (.put l l.length most)) Q
theorem ok_mput (T : PT K mg) : FnOk P w K mg base CX0 8 T.modem.put_.f T.modem.put_.fd ["self", "most", "row"] (spMPut T) := by
  refine T.modem.put_.F.ok scModem_put (fun vs H Q E h => ?_) (fun cdv A outer s₀ H vs Q E hr h => ?_)
  · obtain ⟨G, pm, ar, st, most, l, rfl, _⟩ := h
    rfl
  · obtain ⟨G, pm, ar, st, most, l, rfl, sG, x, ha, hb, hl, k⟩ := h
    have cl := T.modem.cl
    refine ⟨_, pss_cons (ps_if (pt_cmpR op_gt (pv 1) (pe_gi T.g_MOST_OF_MOST) (nomark _)) (pss_one (ps_ret (pe_lst (pa_cons (pe_gi T.g_OUT_OF_RANGE) pa_nil)))) pss_nil)
      (pss_cons (ps_set (i := 3) scModem_put.nd rfl (Or.inl rfl) (pe_meth0 (pe_fld (pv 0) rfl) T.sender.cl T.sender.m_copy (ok_sendCopy T) hr T.sender.copy_.b .nil pass0))
      (pss_one (ps_ret (pe_meth (pv 0) cl T.modem.m_settle_sender (ok_settle T) (hr.mono (by decide)) T.modem.settle_sender_.b .nil pass0 (pa_cons (pv 3) (pa_cons (pe_meth (pv 3) T.sender.cl T.sender.m_put (ok_put T) (hr.mono (by decide)) T.sender.put_.b .nil pass0 (pa_cons (pv 2) pa_nil)) (pa_cons (pv 1) pa_nil))))))), ?_⟩
    refine ⟨_, rfl, _, _, rfl, rfl, _, rfl, ?_⟩
    have es : spec (some st) (.put l l.length most) = if MOST < l.length ∨ ROOM < most then (some st, only (-2)) else told st most { st with sender := (st.sender.put st.sizes l).1 } (st.sender.put st.sizes l).2 := rfl
    rw [es] at k
    have hM : ¬ MOST < l.length := by show ¬ 65536 < l.length; omega
    rw [big_eq]
    refine ite2 (fun q => ?_) (fun q => ?_)
    · have q : ROOM < most := of_decide_eq_true q
      rw [if_pos (.inr q)] at k
      exact ans_one sG x k
    · have q : ¬ ROOM < most := fun e => q (decide_eq_true e)
      rw [if_neg (fun z => z.elim hM q)] at k
      obtain ⟨gp, dx, ps, pr, hm, en⟩ := id x
      obtain ⟨dxs, pts, pks, xs⟩ := id en.sn
      refine ⟨_, rfl, pm, _, dx, _, _, rfl, hm, cl, T.modem.n_sender, mf_sender, ps, dxs, _, rfl, xs.ob, sfn_copy, G, ps, st.sizes, st.sender, [], rfl, en.sn, fun q1 H1 s1 y => ?_⟩
      obtain ⟨dy, py, ky, yy⟩ := id y
      refine ⟨_, rfl, pm, dx, _, rfl, s1 _ _ hm, mfn_settle_sender, _, rfl, _, rfl, q1, dy, _, rfl, yy.ob, sfn_put, _, rfl, H, q1, ar, st.sizes, st.sender, l, rfl, s1, y, en.so, ha, hb, hl, fun ao H2 s2 x2 ha2 _ => ?_⟩
      have pl := put_len en.gd l st.sender en.so hb
      exact ⟨_, rfl, G, pm, q1, ao, st, _, _, most, rfl, sG.trans s2, x.kept s2, x2.less sG, SOk.put en.gd l _ en.so hb, ha2, by omega, k⟩
def spMFlush (T : PT K mg) : Sp := fun vs H Q _ => ∃ (G : Hp) (pm : Addr) (st : Ql65.St) (most : Nat), vs = [.ref pm, .int most] ∧ Same G H ∧ ModemR T G H pm (some st) ∧ Ans1 T G pm (spec (some st) (.flush most)) Q
theorem ends_len {z : Sizes} {s : Ql65.Sender} (o : SOk z s) (g : Good z) {n : Nat} (hn : n < 512) : (s.ends n).2.length ≤ 1000 := by
  have key : ∀ (y : Ql65.Sender × List Nat), y.1.bits ≤ 16 → y.1.waits.length < 8 → y.2.length ≤ 69 → (y.2 ++ ((y.1.number n).2 ++ (y.1.number n).1.pad.2)).length ≤ 1000 := by
    intro y h1 h2 h3
    have n1 := number_len (k := n) h1 h2
    have pr := pack_rest (padded (y.1.number n).1.waits)
    have wl := number_waits (s := y.1) (k := n)
    have pl : (padded (y.1.number n).1.waits).length ≤ 16 := by
      unfold padded
      rw [List.length_append, List.length_replicate]
      omega
    have e2 : (y.1.number n).1.pad.2.length = (pack (padded (y.1.number n).1.waits)).1.length := rfl
    rw [List.length_append, List.length_append, e2]
    omega
  unfold Sender.ends
  cases hk : s.string with
  | none => exact key (s, []) o.b2 o.wt (by show 0 ≤ 69; decide)
  | some j =>
    have nb := number_bits o.b1 o.b2 (o.lt g hk)
    exact key (s.number j) nb.2 number_waits (number_len o.b2 o.wt)
theorem flush_len {z : Sizes} {s : Ql65.Sender} (o : SOk z s) (g : Good z) : s.flush.2.length ≤ 1000 := by
  unfold Sender.flush
  split
  · show 0 ≤ 1000; decide
  · exact ends_len o g (by decide)
theorem ok_mflush (T : PT K mg) : FnOk P w K mg base CX0 8 T.modem.flush_.f T.modem.flush_.fd ["self", "most"] (spMFlush T) := by
  refine T.modem.flush_.F.ok scModem_flush (fun vs H Q E h => ?_) (fun cdv A outer s₀ H vs Q E hr h => ?_)
  · obtain ⟨G, pm, st, most, rfl, _⟩ := h
    rfl
  · obtain ⟨G, pm, st, most, rfl, sG, x, k⟩ := h
    have cl := T.modem.cl
    refine ⟨_, pss_cons (ps_if (pt_cmpR op_gt (pv 1) (pe_gi T.g_MOST_OF_MOST) (nomark _)) (pss_one (ps_ret (pe_lst (pa_cons (pe_gi T.g_OUT_OF_RANGE) pa_nil)))) pss_nil)
      (pss_cons (ps_set (i := 2) scModem_flush.nd rfl (Or.inl rfl) (pe_meth0 (pe_fld (pv 0) rfl) T.sender.cl T.sender.m_copy (ok_sendCopy T) hr T.sender.copy_.b .nil pass0))
      (pss_one (ps_ret (pe_meth (pv 0) cl T.modem.m_settle_sender (ok_settle T) (hr.mono (by decide)) T.modem.settle_sender_.b .nil pass0 (pa_cons (pv 2) (pa_cons (pe_meth0 (pv 2) T.sender.cl T.sender.m_flush (ok_flush T) (hr.mono (by decide)) T.sender.flush_.b .nil pass0) (pa_cons (pv 1) pa_nil))))))), ?_⟩
    refine ⟨_, rfl, _, _, rfl, rfl, _, rfl, ?_⟩
    have es : spec (some st) (.flush most) = if ROOM < most then (some st, only (-2)) else told st most { st with sender := st.sender.flush.1 } st.sender.flush.2 := rfl
    rw [es] at k
    rw [big_eq]
    refine ite2 (fun q => ?_) (fun q => ?_)
    · have q : ROOM < most := of_decide_eq_true q
      rw [if_pos q] at k
      exact ans_one sG x k
    · have q : ¬ ROOM < most := fun e => q (decide_eq_true e)
      rw [if_neg q] at k
      obtain ⟨gp, dx, ps, pr, hm, en⟩ := id x
      obtain ⟨dxs, pts, pks, xs⟩ := id en.sn
      refine ⟨_, rfl, pm, _, dx, _, _, rfl, hm, cl, T.modem.n_sender, mf_sender, ps, dxs, _, rfl, xs.ob, sfn_copy, G, ps, st.sizes, st.sender, [], rfl, en.sn, fun q1 H1 s1 y => ?_⟩
      obtain ⟨dy, py, ky, yy⟩ := id y
      refine ⟨_, rfl, pm, dx, _, rfl, s1 _ _ hm, mfn_settle_sender, _, rfl, _, rfl, q1, dy, _, rfl, yy.ob, sfn_flush, H, q1, st.sizes, st.sender, rfl, s1, y, en.so, fun ao H2 s2 x2 ha2 _ => ?_⟩
      have pl := flush_len en.so en.gd
      exact ⟨_, rfl, G, pm, q1, ao, st, _, _, most, rfl, sG.trans s2, x.kept s2, x2.less sG, en.so.flush en.gd, ha2, by omega, k⟩
def spMMode (T : PT K mg) : Sp := fun vs H Q _ => ∃ (G : Hp) (pm : Addr) (st : Ql65.St) (c most : Nat), vs = [.ref pm, .int c, .int most] ∧ Same G H ∧ ModemR T G H pm (some st) ∧ Ans1 T G pm (spec (some st) (.mode c most)) Q
theorem ok_mmode (T : PT K mg) : FnOk P w K mg base CX0 8 T.modem.mode_.f T.modem.mode_.fd ["self", "compressed", "most"] (spMMode T) := by
  refine T.modem.mode_.F.ok scModem_mode (fun vs H Q E h => ?_) (fun cdv A outer s₀ H vs Q E hr h => ?_)
  · obtain ⟨G, pm, st, c, most, rfl, _⟩ := h
    rfl
  · obtain ⟨G, pm, st, c, most, rfl, sG, x, k⟩ := h
    have cl := T.modem.cl
    refine ⟨_, pss_cons (ps_if (pw_or (pt_cmpR op_gt (pv 2) (pe_gi T.g_MOST_OF_MOST) (nomark _)) (pw_or1 (pt_cmpR op_gt (pv 1) (pe_gi T.g_TO_SHORT) (nomark _)))).pt (pss_one (ps_ret (pe_lst (pa_cons (pe_gi T.g_OUT_OF_RANGE) pa_nil)))) pss_nil)
      (pss_cons (ps_if (pt_cmpR op_eq (pe_fld (pe_fld (pv 0) rfl) rfl) (pe_cmpR op_eq (pv 1) (pe_gi T.g_TO_SHORT) (nomark _)) (nomark _)) (pss_one (ps_ret (pe_lst (pa_cons (pe_gi T.g_NOT_NOW) pa_nil)))) pss_nil)
      (pss_cons (ps_set (i := 3) scModem_mode.nd rfl (Or.inl rfl) (pe_meth0 (pe_fld (pv 0) rfl) T.sender.cl T.sender.m_copy (ok_sendCopy T) hr T.sender.copy_.b .nil pass0))
      (pss_cons (ps_set (i := 4) scModem_mode.nd rfl (Or.inl rfl) (pe_ifExp (pt_cmpR op_eq (pv 1) (pe_gi T.g_TO_PLAIN) (nomark _)) (pe_meth0 (pv 3) T.sender.cl T.sender.m_to_plain (ok_toPlain T) (hr.mono (by decide)) T.sender.to_plain_.b .nil pass0) (pe_meth0 (pv 3) T.sender.cl T.sender.m_to_short (ok_toShort T) (hr.mono (by decide)) T.sender.to_short_.b .nil pass0)))
      (pss_one (ps_ret (pe_meth (pv 0) cl T.modem.m_settle_sender (ok_settle T) (hr.mono (by decide)) T.modem.settle_sender_.b .nil pass0 (pa_cons (pv 3) (pa_cons (pv 4) (pa_cons (pv 2) pa_nil))))))))), ?_⟩
    have es : spec (some st) (.mode c most) = if 1 < c ∨ ROOM < most then (some st, only (-2)) else match st.sender.mode (c == 1) with
      | none => (some st, only (-3))
      | some y => told st most { st with sender := y.1 } y.2 := rfl
    rw [es] at k
    have out : (1 < c ∨ ROOM < most) → tLst (tCons (tC (.int (-2))) tNil) ([] : L2.St) H Q := fun h => by
      rw [if_pos h] at k
      exact ans_one sG x k
    obtain ⟨gp, dx, ps, pr, hm, en⟩ := id x
    obtain ⟨dxs, pts, pks, xs⟩ := id en.sn
    refine ⟨_, rfl, _, _, rfl, rfl, _, rfl, ?_⟩
    rw [big_eq]
    refine ite2 (fun q => ?_) (fun q => ?_)
    · refine iteT ?_
      exact out (.inr (of_decide_eq_true q))
    · have q : ¬ ROOM < most := fun e => q (decide_eq_true e)
      refine ⟨_, rfl, _, _, rfl, rfl, _, rfl, ?_⟩
      refine ite2 (fun q1 => ?_) (fun q1 => ?_)
      · have q1 : (1 : Int) < (c : Int) := of_decide_eq_true q1
        exact out (.inl (by omega))
      · have q1 : ¬ (1 : Int) < (c : Int) := fun e => q1 (decide_eq_true e)
        have c1 : c ≤ 1 := by omega
        rw [if_neg (fun z => z.elim (by omega) q)] at k
        have dec : ∀ i : Nat, decide (V.int (c : Int) = V.int (i : Int)) = decide (c = i) := fun i => decide_eq_decide.mpr ⟨fun q => Int.natCast_inj.mp (V.int.inj q), fun q => by rw [q]⟩
        refine ⟨_, rfl, pm, _, dx, _, _, rfl, hm, cl, T.modem.n_sender, mf_sender, ps, _, dxs, _, _, rfl, xs.ob, T.sender.cl, T.sender.n_short, sf_short, _, rfl, rfl, rfl, _, rfl, ?_⟩
        rw [show decide (V.int (c : Int) = V.int 1) = decide (c = 1) from dec 1]
        have eb : decide (c = 1) = (c == 1) := (Bool.beq_eq_decide_eq c 1).symm
        rw [eb]
        refine ite2 (fun q2 => ?_) (fun q2 => ?_)
        · have q2 : st.sender.short = (c == 1) := V.bl.inj (of_decide_eq_true q2)
          have em : st.sender.mode (c == 1) = none := by
            unfold Sender.mode
            rw [if_pos q2]
          rw [em] at k
          exact ans_one sG x k
        · have q2 : ¬ st.sender.short = (c == 1) := fun e => q2 (decide_eq_true (by rw [e]))
          refine ⟨_, rfl, pm, _, dx, _, _, rfl, hm, cl, T.modem.n_sender, mf_sender, ps, dxs, _, rfl, xs.ob, sfn_copy, G, ps, st.sizes, st.sender, [], rfl, en.sn, fun q3 H1 s1 y => ?_⟩
          obtain ⟨dy, py, ky, yy⟩ := id y
          refine ⟨_, rfl, rfl, _, rfl, ?_⟩
          rw [show decide (V.int (c : Int) = V.int 0) = decide (c = 0) from dec 0]
          have fin : ∀ (y' : Ql65.Sender × List Nat) (ao : Addr) (H2 : Hp), st.sender.mode (c == 1) = some y' → y'.2.length ≤ 10000000 → Same H H2 → SendR T H H2 q3 st.sizes y'.1 [] → H2 ao = some (.lst (nV y'.2)) →
              tMeth T.modem.C "settle_sender" (spSettle T) [] E0 (tVar 0) (tCons (tVar 3) (tCons (tVar 4) (tCons (tVar 2) tNil))) [some (.ref pm), some (.int (c : Int)), some (.int (most : Int)), some (.ref q3), some (.ref ao)] H2 Q := by
            intro y' ao H2 em hl s2 x2 ha2
            rw [em] at k
            exact ⟨_, rfl, pm, dx, _, rfl, s2 _ _ hm, mfn_settle_sender, _, rfl, _, rfl, _, rfl, G, pm, q3, ao, st, _, _, most, rfl, sG.trans s2, x.kept s2, x2.less sG, en.so.mode en.gd em, ha2, hl, k⟩
          refine ite2 (fun q4 => ?_) (fun q4 => ?_)
          · have q4 : c = 0 := of_decide_eq_true q4
            have em : st.sender.mode (c == 1) = some ({ (st.sender.ends 0).1 with short := false }, (st.sender.ends 0).2) := by
              unfold Sender.mode
              rw [if_neg q2, if_neg (by rw [q4]; decide)]
            exact ⟨_, rfl, q3, dy, _, rfl, yy.ob, sfn_to_plain, H, q3, st.sizes, st.sender, rfl, s1, y, en.so, fun ao H2 s2 x2 ha2 _ => fin _ ao H2 em (by have := ends_len en.so en.gd (n := 0) (by decide); show (st.sender.ends 0).2.length ≤ _; omega) s2 x2 ha2⟩
          · have q4 : ¬ c = 0 := fun e => q4 (decide_eq_true e)
            have e1 : c = 1 := by omega
            have em : st.sender.mode (c == 1) = some ({ st.sender with short := true }, [st.sender.escape, 0]) := by
              unfold Sender.mode
              rw [if_neg q2, if_pos (by rw [e1]; decide)]
            have hs : st.sender.short = false := by
              rw [e1] at q2
              cases h : st.sender.short with
              | false => rfl
              | true => exact absurd h q2
            exact ⟨_, rfl, q3, dy, _, rfl, yy.ob, sfn_to_short, H, q3, st.sizes, st.sender, rfl, s1, y, en.so, hs, fun ao H2 s2 x2 ha2 _ => fin _ ao H2 em (by show 2 ≤ 10000000; decide) s2 x2 ha2⟩
def spMReset (T : PT K mg) : Sp := fun vs H Q _ => ∃ (G : Hp) (pm : Addr) (st : Ql65.St) (most : Nat), vs = [.ref pm, .int most] ∧ Same G H ∧ ModemR T G H pm (some st) ∧ Ans1 T G pm (spec (some st) (.reset most)) Q
theorem ok_mreset (T : PT K mg) : FnOk P w K mg base CX0 8 T.modem.reset_.f T.modem.reset_.fd ["self", "most"] (spMReset T) := by
  refine T.modem.reset_.F.ok scModem_reset (fun vs H Q E h => ?_) (fun cdv A outer s₀ H vs Q E hr h => ?_)
  · obtain ⟨G, pm, st, most, rfl, _⟩ := h
    rfl
  · obtain ⟨G, pm, st, most, rfl, sG, x, k⟩ := h
    have cl := T.modem.cl
    refine ⟨_, pss_cons (ps_if (pt_cmpR op_gt (pv 1) (pe_gi T.g_MOST_OF_MOST) (nomark _)) (pss_one (ps_ret (pe_lst (pa_cons (pe_gi T.g_OUT_OF_RANGE) pa_nil)))) pss_nil)
      (pss_cons (ps_if (pt_val (pe_fld (pe_fld (pv 0) rfl) rfl)) (pss_one (ps_ret (pe_lst (pa_cons (pe_gi T.g_NOT_NOW) pa_nil)))) pss_nil)
      (pss_cons (ps_set (i := 2) scModem_reset.nd rfl (Or.inl rfl) (pe_meth0 (pe_fld (pv 0) rfl) T.sender.cl T.sender.m_copy (ok_sendCopy T) hr T.sender.copy_.b .nil pass0))
      (pss_one (ps_ret (pe_meth (pv 0) cl T.modem.m_settle_sender (ok_settle T) (hr.mono (by decide)) T.modem.settle_sender_.b .nil pass0 (pa_cons (pv 2) (pa_cons (pe_meth0 (pv 2) T.sender.cl T.sender.m_reset (ok_reset T) (hr.mono (by decide)) T.sender.reset_.b .nil pass0) (pa_cons (pv 1) pa_nil)))))))), ?_⟩
    refine ⟨_, rfl, _, _, rfl, rfl, _, rfl, ?_⟩
    have es : spec (some st) (.reset most) = if ROOM < most then (some st, only (-2)) else match st.sender.reset with
      | none => (some st, only (-3))
      | some y => told st most { st with sender := y.1 } y.2 := rfl
    rw [es] at k
    rw [big_eq]
    refine ite2 (fun q => ?_) (fun q => ?_)
    · have q : ROOM < most := of_decide_eq_true q
      rw [if_pos q] at k
      exact ans_one sG x k
    · have q : ¬ ROOM < most := fun e => q (decide_eq_true e)
      rw [if_neg q] at k
      obtain ⟨gp, dx, ps, pr, hm, en⟩ := id x
      obtain ⟨dxs, pts, pks, xs⟩ := id en.sn
      refine ⟨_, rfl, pm, _, dx, _, _, rfl, hm, cl, T.modem.n_sender, mf_sender, ps, _, dxs, _, _, rfl, xs.ob, T.sender.cl, T.sender.n_short, sf_short, _, rfl, ?_⟩
      cases hs : st.sender.short with
      | true =>
        refine iteT ?_
        have em : st.sender.reset = none := by
          unfold Sender.reset
          rw [if_pos hs]
        rw [em] at k
        exact ans_one sG x k
      | false =>
        refine iteF ?_
        have em : st.sender.reset = some (startS, [st.sender.escape, 2]) := by
          unfold Sender.reset
          rw [if_neg (by rw [hs]; decide)]
        rw [em] at k
        refine ⟨_, rfl, pm, _, dx, _, _, rfl, hm, cl, T.modem.n_sender, mf_sender, ps, dxs, _, rfl, xs.ob, sfn_copy, G, ps, st.sizes, st.sender, [], rfl, en.sn, fun q1 H1 s1 y => ?_⟩
        obtain ⟨dy, py, ky, yy⟩ := id y
        refine ⟨_, rfl, pm, dx, _, rfl, s1 _ _ hm, mfn_settle_sender, _, rfl, _, rfl, q1, dy, _, rfl, yy.ob, sfn_reset, H, q1, st.sizes, st.sender, rfl, s1, y, en.so, hs, fun ao H2 s2 x2 ha2 _ => ?_⟩
        exact ⟨_, rfl, G, pm, q1, ao, st, _, _, most, rfl, sG.trans s2, x.kept s2, x2.less sG, sok_start en.gd, ha2, (by show 2 ≤ 10000000; decide), k⟩
def spMTake (T : PT K mg) : Sp := fun vs H Q _ => ∃ (G : Hp) (pm ar : Addr) (st : Ql65.St) (most : Nat) (l : List Nat), vs = [.ref pm, .int most, .ref ar] ∧ Same G H ∧ ModemR T G H pm (some st) ∧ H ar = some (.lst (nV l)) ∧ (∀ x, x ∈ l → x < 256) ∧ l.length ≤ 30000 ∧ Ans1 T G pm (spec (some st) (.take l l.length most)) Q
theorem ok_mtake (T : PT K mg) : FnOk P w K mg base CX0 8 T.modem.take_.f T.modem.take_.fd ["self", "most", "row"] (spMTake T) := by
  refine T.modem.take_.F.ok scModem_take (fun vs H Q E h => ?_) (fun cdv A outer s₀ H vs Q E hr h => ?_)
  · obtain ⟨G, pm, ar, st, most, l, rfl, _⟩ := h
    rfl
  · obtain ⟨G, pm, ar, st, most, l, rfl, sG, x, ha, hb, hl, k⟩ := h
    have cl := T.modem.cl
    refine ⟨_, pss_cons (ps_if (pt_cmpR op_gt (pv 1) (pe_gi T.g_MOST_OF_MOST) (nomark _)) (pss_one (ps_ret (pe_lst (pa_cons (pe_gi T.g_OUT_OF_RANGE) pa_nil)))) pss_nil)
      (pss_cons (ps_set (i := 3) scModem_take.nd rfl (Or.inl rfl) (pe_meth0 (pe_fld (pv 0) rfl) T.receiver.cl T.receiver.m_copy (ok_recvCopy T) hr T.receiver.copy_.b .nil pass0))
      (pss_cons (ps_try T.exc ⟨⟨rfl, rfl⟩, rfl⟩ rfl (fun Ex pl E hp => pss_one (ps_set (i := 4) scModem_take.nd rfl (Or.inl rfl) (pe_meth (pv 3) T.receiver.cl T.receiver.m_take (ok_take T) (hr.mono (by decide)) T.receiver.take_.b .nil hp (pa_cons (pv 2) (pa_cons (pv 1) pa_nil)))))
        (fun e => pss_one (ps_ret (pe_lst (pa_cons (pe_gi T.g_NO_SENDER_SENDS_IT) pa_nil)))))
      (pss_cons (ps_if (pt_cmpR op_gt (pe_callB call_len_seq rfl T.b_len PySem.boot_len (pa_cons (pv 4) pa_nil)) (pv 1) (nomark _)) (pss_one (ps_ret (pe_lst (pa_cons (pe_gi T.g_MORE_THAN_MOST) pa_nil)))) pss_nil)
      (pss_cons (ps_fld (pv 0) (pv 3) rfl)
      (pss_one (ps_ret (pe_op op_cat (pe_lst (pa_cons (pe_callB call_len_seq rfl T.b_len PySem.boot_len (pa_cons (pv 4) pa_nil)) pa_nil)) (pv 4)))))))), ?_⟩
    refine ⟨_, rfl, _, _, rfl, rfl, _, rfl, ?_⟩
    have es : spec (some st) (.take l l.length most) = if MOST < l.length ∨ ROOM < most then (some st, only (-2)) else match st.receiver.take st.sizes l with
      | none => (some st, only (-1))
      | some y => told st most { st with receiver := y.1 } y.2 := rfl
    rw [es] at k
    have hM : ¬ MOST < l.length := by show ¬ 65536 < l.length; omega
    rw [big_eq]
    refine ite2 (fun q => ?_) (fun q => ?_)
    · have q : ROOM < most := of_decide_eq_true q
      rw [if_pos (.inr q)] at k
      exact ans_one sG x k
    · have q : ¬ ROOM < most := fun e => q (decide_eq_true e)
      rw [if_neg (fun z => z.elim hM q)] at k
      obtain ⟨gp, dx, ps, pr, hm, en⟩ := id x
      obtain ⟨m0, u0, rc⟩ := en.rc
      obtain ⟨dxs, pts, pus, pos, xs⟩ := id rc
      refine ⟨_, rfl, pm, _, dx, _, _, rfl, hm, cl, T.modem.n_receiver, mf_receiver, pr, dxs, _, rfl, xs.ob, rfn_copy, G, pr, st.sizes, st.receiver, m0, u0, rfl, rc, fun q1 H1 s1 y => ?_⟩
      obtain ⟨dy, py, uy, oy, yy⟩ := id y
      refine ⟨_, rfl, q1, dy, _, rfl, yy.ob, rfn_take, _, rfl, _, rfl, H, q1, ar, st.sizes, st.receiver, most, 0, [], l, rfl, s1, y, en.ro, ha, hb, hl, fun et H2 s2 σ' => ?_, fun yt et ao H2 u s2 x2 cp hlen ha2 => ?_⟩
      · rw [et] at k
        exact ans_one (sG.trans s2) (x.kept s2) k
      · rw [et] at k
        have k : Ans1 T G pm (told st most { st with receiver := yt.1 } yt.2) Q := k
        refine ⟨_, rfl, ao, _, rfl, .inl (SqL.of ha2), _, rfl, _, _, rfl, rfl, _, rfl, ?_⟩
        rw [nV_len]
        unfold told at k
        refine ite2 (fun q2 => ?_) (fun q2 => ?_)
        · have q2 : (most : Int) < (u.length : Int) := of_decide_eq_true q2
          have := cp.le
          rw [if_pos (by omega)] at k
          exact ans_one (sG.trans s2) (x.kept s2) k
        · have q2 : ¬ (most : Int) < (u.length : Int) := fun e => q2 (decide_eq_true e)
          have nm : ¬ most < yt.2.length := fun e => by
            have := cp.more e
            omega
          rw [if_neg nm] at k
          have eu : u = yt.2 := cp.all (by omega)
          subst eu
          have hm2 := s2 _ _ hm
          refine ⟨_, rfl, _, rfl, pm, _, dx, _, rfl, hm2, cl, T.modem.n_receiver, (by rw [mf_len]; decide), ?_⟩
          rw [mfp_receiver]
          have am : ao ≠ pm := ne_of ha2 hm2 (fun z => nomatch z)
          have ha1 : upd H2 pm (HO.ins T.modem.C dx (mfF (.ref ps) (.ref q1))) ao = some (.lst (nV yt.2)) := by rw [upd_ne am]; exact ha2
          refine ⟨_, rfl, ao, _, rfl, .inl (SqL.of ha1), (by show 1 ≤ sizeLine; decide), fun l1 hl1 => ?_⟩
          have la : ao ≠ l1 := ne_of_none ha1 hl1
          refine ⟨_, rfl, l1, ao, _, _, rfl, rfl, upd_same, (by rw [upd_ne la]; exact ha1), (by rw [nV_len, sizeLine_eq]; show 1 + yt.2.length ≤ _; omega), fun l2 hl2 => ?_⟩
          rw [nV_len, ans_list]
          have sm : Same G (upd H2 pm (HO.ins T.modem.C dx (mfF (.ref ps) (.ref q1)))) := same_put (sG.trans s2) gp
          have t1 := same_upd (o := HO.lst [V.int (yt.2.length : Int)]) hl1
          have t2 := same_upd (o := HO.lst ((ansL ⟨(yt.2.length : Nat), yt.2⟩).map V.int)) hl2
          rw [nV_len] at t2
          have M : ModemR T G (upd H2 pm (HO.ins T.modem.C dx (mfF (.ref ps) (.ref q1)))) pm (some { st with receiver := yt.1 }) := ⟨gp, dx, ps, q1, upd_same, ⟨(en.sn.kept s2).atM hm2, ⟨_, _, (x2.less sG).atM hm2⟩, en.so, ROk.take en.gd l _ yt en.ro et, en.gd⟩⟩
          exact k l2 _ (same_out (sm.trans t1) (by rw [nV_len] at hl2; exact hl2)) (sm.trans (t1.trans t2)) (M.kept (t1.trans t2)) upd_same
end
end SL
namespace SL
open PySem hiding Tree
open L2 Sl Ql65
section
variable {P : Program} {w : World} {K : PySem.W.Frag} {mg : Str → Option Value} {base : Heap}
/-- the reader's thing -/
abbrev rdO (T : PT K mg) (dr ar : Addr) (i : Nat) : HO := .ins T.reader.C dr (dfF ar (i : Int))
def spRdInit (T : PT K mg) : Sp := fun vs H Q _ => ∃ (p dx ar : Addr), vs = [.ref p, .ref ar] ∧ H p = some (.ins T.reader.C dx []) ∧ Q .non (upd H p (rdO T dx ar 0))
theorem ok_rdInit (T : PT K mg) : FnOk P w K mg base CX0 1 T.reader.init_.f T.reader.init_.fd ["self", "numbers"] (spRdInit T) := by
  refine T.reader.init_.F.ok scReader_init (fun vs H Q E h => ?_) (fun cdv A outer s H vs Q E hr h => ?_)
  · obtain ⟨p, dx, ar, rfl, _⟩ := h
    rfl
  · obtain ⟨p, dx, ar, rfl, hp, k⟩ := h
    have cl := T.reader.cl
    refine ⟨_, pss_cons (ps_fld (pv 0) (pv 1) rfl) (pss_one (ps_fld (pv 0) pe_int rfl)), ?_⟩
    refine ⟨_, rfl, _, rfl, p, _, dx, _, rfl, hp, cl, T.reader.n_numbers, (by show 0 < 1000; decide), ?_⟩
    refine ⟨_, rfl, p, _, dx, _, rfl, upd_same, cl, T.reader.n_place, (by show 1 < 1000; decide), ?_⟩
    rw [upd_upd, df_made]
    exact k
def spRdEnd (T : PT K mg) : Sp := fun vs H Q _ => ∃ (p dx ar : Addr) (ns : List Int) (i : Nat), vs = [.ref p] ∧ H p = some (rdO T dx ar i) ∧ SqL K H ar (ns.map V.int) ∧ Q (.bl (decide (ns.length ≤ i))) H
theorem ok_rdEnd (T : PT K mg) : FnOk P w K mg base CX0 1 T.reader.at_end_.f T.reader.at_end_.fd ["self"] (spRdEnd T) := by
  refine T.reader.at_end_.F.ok scReader_at_end (fun vs H Q E h => ?_) (fun cdv A outer s H vs Q E hr h => ?_)
  · obtain ⟨p, dx, ar, ns, i, rfl, _⟩ := h
    rfl
  · obtain ⟨p, dx, ar, ns, i, rfl, hp, hq, k⟩ := h
    have cl := T.reader.cl
    refine ⟨_, pss_one (ps_ret (pe_cmpR op_ge (pe_fld (pv 0) rfl) (pe_callB call_len_seq rfl T.b_len PySem.boot_len (pa_cons (pe_fld (pv 0) rfl) pa_nil)) (nomark _))), ?_⟩
    refine ⟨_, rfl, p, _, dx, _, _, rfl, hp, cl, T.reader.n_place, df_place, _, rfl, p, _, dx, _, _, rfl, hp, cl, T.reader.n_numbers, df_numbers, ar, _, rfl, .inl hq, _, _, rfl, rfl, ?_⟩
    have e : decide (((ns.map V.int).length : Int) ≤ (i : Int)) = decide (ns.length ≤ i) := decide_eq_decide.mpr (by rw [List.length_map]; omega)
    rw [← e] at k
    exact k
def spTakeN (T : PT K mg) : Sp := fun vs H Q _ => ∃ (p dx ar : Addr) (ns : List Int) (i : Nat) (v : Int), vs = [.ref p] ∧ H p = some (rdO T dx ar i) ∧ SqL K H ar (ns.map V.int) ∧ ns[i]? = some v ∧ Q (.int v) (upd H p (rdO T dx ar (i + 1)))
theorem ok_takeN (T : PT K mg) : FnOk P w K mg base CX0 1 T.reader.take_number_.f T.reader.take_number_.fd ["self"] (spTakeN T) := by
  refine T.reader.take_number_.F.ok scReader_take_number (fun vs H Q E h => ?_) (fun cdv A outer s H vs Q E hr h => ?_)
  · obtain ⟨p, dx, ar, ns, i, v, rfl, _⟩ := h
    rfl
  · obtain ⟨p, dx, ar, ns, i, v, rfl, hp, hq, hv, k⟩ := h
    have cl := T.reader.cl
    refine ⟨_, pss_cons (ps_set (i := 1) scReader_take_number.nd rfl (Or.inl rfl) (pe_ix ix_list (pe_fld (pv 0) rfl) (pe_fld (pv 0) rfl) (fun _ _ => rfl)))
      (pss_cons (ps_fldaug (pv 0) pe_int in_add) (pss_one (ps_ret (pv 1)))), ?_⟩
    refine ⟨_, rfl, p, _, dx, _, _, rfl, hp, cl, T.reader.n_numbers, df_numbers, _, rfl, p, _, dx, _, _, rfl, hp, cl, T.reader.n_place, df_place, ar, _, _, _, rfl, rfl, hq, atI_nat (v := V.int v) (by rw [List.getElem?_map, hv]; rfl), ?_⟩
    refine ⟨_, rfl, p, _, dx, _, _, rfl, hp, cl, T.reader.n_place, df_place, _, _, rfl, rfl, dx, _, hp, (by rw [df_len]; decide), ?_⟩
    rw [dfp_place]
    exact ⟨_, rfl, k⟩
def spTakeRow (T : PT K mg) : Sp := fun vs H Q _ => ∃ (p dx ar : Addr) (ns : List Int) (i n : Nat), vs = [.ref p] ∧ H p = some (rdO T dx ar i) ∧ SqL K H ar (ns.map V.int) ∧ (∀ o, SqL K (upd H p o) ar (ns.map V.int)) ∧ ns[i]? = some (n : Int) ∧ i + 1 + n ≤ ns.length ∧
  ∀ l, upd H p (rdO T dx ar (i + 1)) l = none → Q (.ref l) (upd (upd (upd H p (rdO T dx ar (i + 1))) l (.lst (((ns.drop (i + 1)).take n).map V.int))) p (rdO T dx ar (i + 1 + n)))
theorem cut_ints {ns : List Int} {i n : Nat} (h : i + n ≤ ns.length) : cutV (ns.map V.int) (some ((i : Nat) : Int)) (some ((i : Int) + (n : Int))) = ((ns.drop i).take n).map V.int := by
  unfold cutV
  rw [show (i : Int) + (n : Int) = ((i + n : Nat) : Int) from by omega, HT.sIx_nat, HT.sIx_nat, List.length_map, Nat.min_eq_left h, Nat.min_eq_left (by omega : i ≤ ns.length), show i + n - i = n from by omega, List.map_take, List.map_drop]
theorem ok_takeRow (T : PT K mg) : FnOk P w K mg base CX0 2 T.reader.take_row_.f T.reader.take_row_.fd ["self"] (spTakeRow T) := by
  refine T.reader.take_row_.F.ok scReader_take_row (fun vs H Q E h => ?_) (fun cdv A outer s H vs Q E hr h => ?_)
  · obtain ⟨p, dx, ar, ns, i, n, rfl, _⟩ := h
    rfl
  · obtain ⟨p, dx, ar, ns, i, n, rfl, hp, hq, hq', hv, hn, k⟩ := h
    have cl := T.reader.cl
    refine ⟨_, pss_cons (ps_set (i := 1) scReader_take_row.nd rfl (Or.inl rfl) (pe_meth0 (pv 0) cl T.reader.m_take_number (ok_takeN T) hr T.reader.take_number_.b .nil pass0))
      (pss_cons (ps_set (i := 2) scReader_take_row.nd rfl (Or.inl rfl) (pe_slice sl_list (pe_fld (pv 0) rfl) (po_some (pe_fld (pv 0) rfl)) (po_some (pe_op op_add (pe_fld (pv 0) rfl) (pv 1)))))
      (pss_cons (ps_fldaug (pv 0) (pv 1) in_add) (pss_one (ps_ret (pv 2))))), ?_⟩
    refine ⟨_, rfl, p, dx, _, rfl, hp, dfn_take_number, p, dx, ar, ns, i, _, rfl, hp, hq, hv, ?_⟩
    have h1 : upd H p (rdO T dx ar (i + 1)) p = some (rdO T dx ar (i + 1)) := upd_same
    refine ⟨_, rfl, p, _, dx, _, _, rfl, h1, cl, T.reader.n_numbers, df_numbers, _, rfl, p, _, dx, _, _, rfl, h1, cl, T.reader.n_place, df_place, _, rfl, _, rfl, p, _, dx, _, _, rfl, h1, cl, T.reader.n_place, df_place, _, rfl, _, _, rfl, rfl, _, rfl, ar, _, rfl, hq' _, fun l hl => ?_⟩
    rw [cut_ints hn]
    have lp : p ≠ l := ne_of_none h1 hl
    have h2 : upd (upd H p (rdO T dx ar (i + 1))) l (.lst (((ns.drop (i + 1)).take n).map V.int)) p = some (rdO T dx ar (i + 1)) := by rw [upd_ne lp]; exact h1
    refine ⟨_, rfl, p, _, dx, _, _, rfl, h2, cl, T.reader.n_place, df_place, _, rfl, _, _, rfl, rfl, dx, _, h2, (by rw [df_len]; decide), ?_⟩
    rw [dfp_place]
    exact ⟨_, rfl, k l hl⟩
/-- the desk stands: modem, reader, the list of calls -/
structure Dk (T : PT K mg) (H0 G H : Hp) (pm pr dr ar : Addr) (ns : List Int) (i : Nat) (a : Option Ql65.St) : Prop where
  h0 : Same H0 G
  n0 : H0 pr = none
  sq : SqL K H0 ar (ns.map V.int)
  rd : G pr = some (rdO T dr ar i)
  sG : Same G H
  md : ModemR T G H pm a
section
variable {T : PT K mg} {H0 G H H' : Hp} {pm pr dr ar : Addr} {ns : List Int} {i j : Nat} {a : Option Ql65.St}
theorem Dk.step (x : Dk T H0 G H pm pr dr ar ns i a) (j : Nat) : Dk T H0 (upd G pr (rdO T dr ar j)) (upd H pr (rdO T dr ar j)) pm pr dr ar ns j a :=
  ⟨same_put x.h0 x.n0, x.n0, x.sq, upd_same, same_both x.sG _, x.md.other x.rd (x.sG _ _ x.rd) (fun _ z => nomatch z)⟩
theorem Dk.kept (x : Dk T H0 G H pm pr dr ar ns i a) (e : Same H H') : Dk T H0 G H' pm pr dr ar ns i a :=
  ⟨x.h0, x.n0, x.sq, x.rd, x.sG.trans e, x.md.kept e⟩
theorem Dk.sqH (x : Dk T H0 G H pm pr dr ar ns i a) : SqL K H ar (ns.map V.int) := Same.seq (x.h0.trans x.sG) x.sq
theorem Dk.rdH (x : Dk T H0 G H pm pr dr ar ns i a) : H pr = some (rdO T dr ar i) := x.sG _ _ x.rd
theorem Dk.sqU (x : Dk T H0 G H pm pr dr ar ns i a) (o : HO) : SqL K (upd H pr o) ar (ns.map V.int) := Same.seq (same_put (x.h0.trans x.sG) x.n0) x.sq
def AnsD (T : PT K mg) (H0 G : Hp) (pm pr dr ar : Addr) (ns : List Int) (j : Nat) (x : Ql65.Abs × Ql65.Ans) (Q : VK) : Prop := ∀ G' H' l, G' l = none → Dk T H0 G' H' pm pr dr ar ns j x.1 → (∀ b, b ≠ pr → G' b = G b) → H' l = some (.lst ((ansL x.2).map V.int)) → Q (.ref l) H'
theorem Dk.ans {x : Ql65.Abs × Ql65.Ans} {Q : VK} {G0 : Hp} (y : Dk T H0 G H pm pr dr ar ns i a) (e : ∀ b, b ≠ pr → G b = G0 b) (k : AnsD T H0 G0 pm pr dr ar ns i x Q) : Ans1 T G pm x Q := fun l H' n s m h => k G H' l n ⟨y.h0, y.n0, y.sq, y.rd, s, m⟩ e h
end
theorem ModemR.ob {T : PT K mg} {G H : Hp} {pm : Addr} {a : Option Ql65.St} (x : ModemR T G H pm a) : ∃ dx v1 v2, H pm = some (.ins T.modem.C dx (mfF v1 v2)) := by
  obtain ⟨gp, dx, x⟩ := x
  cases a with
  | none => exact ⟨dx, _, _, x⟩
  | some st =>
    obtain ⟨ps, pr, h, _⟩ := x
    exact ⟨dx, _, _, h⟩
theorem upd_off {G : Hp} {p b : Addr} {o : HO} (h : b ≠ p) : upd G p o b = G b := upd_ne h
theorem row_nV {l : List Int} (h : ∀ z, z ∈ l → 0 ≤ z ∧ z < 256) : l.map V.int = nV (Ql65Neutral.nats l) := by
  unfold nV Ql65Neutral.nats
  rw [List.map_map]
  refine List.map_congr_left fun z hz => ?_
  show V.int z = V.int ((z.toNat : Nat) : Int)
  rw [Int.toNat_of_nonneg (h z hz).1]
/-- what is known of the desk's defs -/
structure DT (K : PySem.W.Frag) (mg : Str → Option Value) (T : PT K mg) where
  defs : DefsTx K mg
  calls_d : ∀ (P : Program) (w : World) (h : Heap), K.In h → h.DictOf (L2.mixKind P w) T.dCalls [(Sum.inl 0, .ref defs.answer_begin_.f), (Sum.inl 1, .ref defs.answer_put_.f), (Sum.inl 2, .ref defs.answer_flush_.f), (Sum.inl 3, .ref defs.answer_mode_.f), (Sum.inl 4, .ref defs.answer_reset_.f), (Sum.inl 5, .ref defs.answer_take_.f)]
/-! the six -/
def spABegin (T : PT K mg) : Sp := fun vs H Q _ => ∃ (H0 G : Hp) (pm pr dr ar : Addr) (ns : List Int) (i : Nat) (a : Option Ql65.St) (c l : Nat), vs = [.ref pm, .ref pr] ∧ Dk T H0 G H pm pr dr ar ns i a ∧ ns[i]? = some (c : Int) ∧ ns[i + 1]? = some (l : Int) ∧ AnsD T H0 G pm pr dr ar ns (i + 2) (spec a (.begin_ c l)) Q
theorem ok_aBegin (T : PT K mg) (D : DT K mg T) : FnOk P w K mg base CX0 8 D.defs.answer_begin_.f D.defs.answer_begin_.fd ["modem", "reader"] (spABegin T) := by
  refine D.defs.answer_begin_.F.ok sc_answer_begin (fun vs H Q E h => ?_) (fun cdv A outer s H vs Q E hr h => ?_)
  · obtain ⟨H0, G, pm, pr, dr, ar, ns, i, a, c, l, rfl, _⟩ := h
    rfl
  · obtain ⟨H0, G, pm, pr, dr, ar, ns, i, a, c, l, rfl, x, v1, v2, k⟩ := h
    have cl := T.reader.cl
    refine ⟨_, pss_cons (ps_set (i := 2) sc_answer_begin.nd rfl (Or.inl rfl) (pe_meth0 (pv 1) cl T.reader.m_take_number (ok_takeN T) (hr.mono (by decide)) T.reader.take_number_.b .nil pass0))
      (pss_cons (ps_set (i := 3) sc_answer_begin.nd rfl (Or.inl rfl) (pe_meth0 (pv 1) cl T.reader.m_take_number (ok_takeN T) (hr.mono (by decide)) T.reader.take_number_.b .nil pass0))
      (pss_one (ps_ret (pe_meth (pv 0) T.modem.cl T.modem.m_begin (ok_begin T) hr T.modem.begin_.b .nil pass0 (pa_cons (pv 2) (pa_cons (pv 3) pa_nil)))))), ?_⟩
    have x1 := x.step (i + 1)
    have x2 := x1.step (i + 2)
    refine ⟨_, rfl, pr, dr, _, rfl, x.rdH, dfn_take_number, pr, dr, ar, ns, i, _, rfl, x.rdH, x.sqH, v1, ?_⟩
    refine ⟨_, rfl, pr, dr, _, rfl, x1.rdH, dfn_take_number, pr, dr, ar, ns, i + 1, _, rfl, x1.rdH, x1.sqH, v2, ?_⟩
    obtain ⟨dm, v1', v2', hm⟩ := x2.md.ob
    exact ⟨_, rfl, pm, dm, _, rfl, hm, mfn_begin, _, rfl, _, rfl, _, pm, a, c, l, rfl, x2.sG, x2.md, x2.ans (fun b hb => by rw [upd_ne hb, upd_ne hb]) k⟩
def spAFlush (T : PT K mg) : Sp := fun vs H Q _ => ∃ (H0 G : Hp) (pm pr dr ar : Addr) (ns : List Int) (i : Nat) (st : Ql65.St) (m : Nat), vs = [.ref pm, .ref pr] ∧ Dk T H0 G H pm pr dr ar ns i (some st) ∧ ns[i]? = some (m : Int) ∧ AnsD T H0 G pm pr dr ar ns (i + 1) (spec (some st) (.flush m)) Q
theorem ok_aFlush (T : PT K mg) (D : DT K mg T) : FnOk P w K mg base CX0 9 D.defs.answer_flush_.f D.defs.answer_flush_.fd ["modem", "reader"] (spAFlush T) := by
  refine D.defs.answer_flush_.F.ok sc_answer_flush (fun vs H Q E h => ?_) (fun cdv A outer s H vs Q E hr h => ?_)
  · obtain ⟨H0, G, pm, pr, dr, ar, ns, i, st, m, rfl, _⟩ := h
    rfl
  · obtain ⟨H0, G, pm, pr, dr, ar, ns, i, st, m, rfl, x, v1, k⟩ := h
    have cl := T.reader.cl
    refine ⟨_, pss_cons (ps_set (i := 2) sc_answer_flush.nd rfl (Or.inl rfl) (pe_meth0 (pv 1) cl T.reader.m_take_number (ok_takeN T) (hr.mono (by decide)) T.reader.take_number_.b .nil pass0))
      (pss_one (ps_ret (pe_meth (pv 0) T.modem.cl T.modem.m_flush (ok_mflush T) hr T.modem.flush_.b .nil pass0 (pa_cons (pv 2) pa_nil)))), ?_⟩
    have x1 := x.step (i + 1)
    refine ⟨_, rfl, pr, dr, _, rfl, x.rdH, dfn_take_number, pr, dr, ar, ns, i, _, rfl, x.rdH, x.sqH, v1, ?_⟩
    obtain ⟨dm, v1', v2', hm⟩ := x1.md.ob
    exact ⟨_, rfl, pm, dm, _, rfl, hm, mfn_flush, _, rfl, _, pm, st, m, rfl, x1.sG, x1.md, x1.ans (fun b hb => by rw [upd_ne hb]) k⟩
def spAReset (T : PT K mg) : Sp := fun vs H Q _ => ∃ (H0 G : Hp) (pm pr dr ar : Addr) (ns : List Int) (i : Nat) (st : Ql65.St) (m : Nat), vs = [.ref pm, .ref pr] ∧ Dk T H0 G H pm pr dr ar ns i (some st) ∧ ns[i]? = some (m : Int) ∧ AnsD T H0 G pm pr dr ar ns (i + 1) (spec (some st) (.reset m)) Q
theorem ok_aReset (T : PT K mg) (D : DT K mg T) : FnOk P w K mg base CX0 9 D.defs.answer_reset_.f D.defs.answer_reset_.fd ["modem", "reader"] (spAReset T) := by
  refine D.defs.answer_reset_.F.ok sc_answer_reset (fun vs H Q E h => ?_) (fun cdv A outer s H vs Q E hr h => ?_)
  · obtain ⟨H0, G, pm, pr, dr, ar, ns, i, st, m, rfl, _⟩ := h
    rfl
  · obtain ⟨H0, G, pm, pr, dr, ar, ns, i, st, m, rfl, x, v1, k⟩ := h
    have cl := T.reader.cl
    refine ⟨_, pss_cons (ps_set (i := 2) sc_answer_reset.nd rfl (Or.inl rfl) (pe_meth0 (pv 1) cl T.reader.m_take_number (ok_takeN T) (hr.mono (by decide)) T.reader.take_number_.b .nil pass0))
      (pss_one (ps_ret (pe_meth (pv 0) T.modem.cl T.modem.m_reset (ok_mreset T) hr T.modem.reset_.b .nil pass0 (pa_cons (pv 2) pa_nil)))), ?_⟩
    have x1 := x.step (i + 1)
    refine ⟨_, rfl, pr, dr, _, rfl, x.rdH, dfn_take_number, pr, dr, ar, ns, i, _, rfl, x.rdH, x.sqH, v1, ?_⟩
    obtain ⟨dm, v1', v2', hm⟩ := x1.md.ob
    exact ⟨_, rfl, pm, dm, _, rfl, hm, mfn_reset, _, rfl, _, pm, st, m, rfl, x1.sG, x1.md, x1.ans (fun b hb => by rw [upd_ne hb]) k⟩
def spAMode (T : PT K mg) : Sp := fun vs H Q _ => ∃ (H0 G : Hp) (pm pr dr ar : Addr) (ns : List Int) (i : Nat) (st : Ql65.St) (c m : Nat), vs = [.ref pm, .ref pr] ∧ Dk T H0 G H pm pr dr ar ns i (some st) ∧ ns[i]? = some (c : Int) ∧ ns[i + 1]? = some (m : Int) ∧ AnsD T H0 G pm pr dr ar ns (i + 2) (spec (some st) (.mode c m)) Q
theorem ok_aMode (T : PT K mg) (D : DT K mg T) : FnOk P w K mg base CX0 9 D.defs.answer_mode_.f D.defs.answer_mode_.fd ["modem", "reader"] (spAMode T) := by
  refine D.defs.answer_mode_.F.ok sc_answer_mode (fun vs H Q E h => ?_) (fun cdv A outer s H vs Q E hr h => ?_)
  · obtain ⟨H0, G, pm, pr, dr, ar, ns, i, st, c, m, rfl, _⟩ := h
    rfl
  · obtain ⟨H0, G, pm, pr, dr, ar, ns, i, st, c, m, rfl, x, v1, v2, k⟩ := h
    have cl := T.reader.cl
    refine ⟨_, pss_cons (ps_set (i := 2) sc_answer_mode.nd rfl (Or.inl rfl) (pe_meth0 (pv 1) cl T.reader.m_take_number (ok_takeN T) (hr.mono (by decide)) T.reader.take_number_.b .nil pass0))
      (pss_cons (ps_set (i := 3) sc_answer_mode.nd rfl (Or.inl rfl) (pe_meth0 (pv 1) cl T.reader.m_take_number (ok_takeN T) (hr.mono (by decide)) T.reader.take_number_.b .nil pass0))
      (pss_one (ps_ret (pe_meth (pv 0) T.modem.cl T.modem.m_mode (ok_mmode T) hr T.modem.mode_.b .nil pass0 (pa_cons (pv 2) (pa_cons (pv 3) pa_nil)))))), ?_⟩
    have x1 := x.step (i + 1)
    have x2 := x1.step (i + 2)
    refine ⟨_, rfl, pr, dr, _, rfl, x.rdH, dfn_take_number, pr, dr, ar, ns, i, _, rfl, x.rdH, x.sqH, v1, ?_⟩
    refine ⟨_, rfl, pr, dr, _, rfl, x1.rdH, dfn_take_number, pr, dr, ar, ns, i + 1, _, rfl, x1.rdH, x1.sqH, v2, ?_⟩
    obtain ⟨dm, v1', v2', hm⟩ := x2.md.ob
    exact ⟨_, rfl, pm, dm, _, rfl, hm, mfn_mode, _, rfl, _, rfl, _, pm, st, c, m, rfl, x2.sG, x2.md, x2.ans (fun b hb => by rw [upd_ne hb, upd_ne hb]) k⟩
def spAPut (T : PT K mg) : Sp := fun vs H Q _ => ∃ (H0 G : Hp) (pm pr dr ar : Addr) (ns : List Int) (i : Nat) (st : Ql65.St) (m n : Nat), vs = [.ref pm, .ref pr] ∧ Dk T H0 G H pm pr dr ar ns i (some st) ∧ ns[i]? = some (m : Int) ∧ ns[i + 1]? = some (n : Int) ∧ i + 2 + n ≤ ns.length ∧ ns.length ≤ 30000 ∧
  (∀ z, z ∈ (ns.drop (i + 2)).take n → 0 ≤ z ∧ z < 256) ∧ AnsD T H0 G pm pr dr ar ns (i + 2 + n) (spec (some st) (.put (Ql65Neutral.nats ((ns.drop (i + 2)).take n)) n m)) Q
theorem nats_len {l : List Int} : (Ql65Neutral.nats l).length = l.length := List.length_map _
theorem nats_lt {l : List Int} (h : ∀ z, z ∈ l → 0 ≤ z ∧ z < 256) : ∀ x, x ∈ Ql65Neutral.nats l → x < 256 := fun x hx => by
  obtain ⟨z, hz, rfl⟩ := List.mem_map.mp hx
  have := h z hz
  omega
theorem ok_aPut (T : PT K mg) (D : DT K mg T) : FnOk P w K mg base CX0 9 D.defs.answer_put_.f D.defs.answer_put_.fd ["modem", "reader"] (spAPut T) := by
  refine D.defs.answer_put_.F.ok sc_answer_put (fun vs H Q E h => ?_) (fun cdv A outer s H vs Q E hr h => ?_)
  · obtain ⟨H0, G, pm, pr, dr, ar, ns, i, st, m, n, rfl, _⟩ := h
    rfl
  · obtain ⟨H0, G, pm, pr, dr, ar, ns, i, st, m, n, rfl, x, v1, v2, hn, h3, hz, k⟩ := h
    have cl := T.reader.cl
    refine ⟨_, pss_cons (ps_set (i := 2) sc_answer_put.nd rfl (Or.inl rfl) (pe_meth0 (pv 1) cl T.reader.m_take_number (ok_takeN T) (hr.mono (by decide)) T.reader.take_number_.b .nil pass0))
      (pss_cons (ps_set (i := 3) sc_answer_put.nd rfl (Or.inl rfl) (pe_meth0 (pv 1) cl T.reader.m_take_row (ok_takeRow T) (hr.mono (by decide)) T.reader.take_row_.b .nil pass0))
      (pss_one (ps_ret (pe_meth (pv 0) T.modem.cl T.modem.m_put (ok_mput T) hr T.modem.put_.b .nil pass0 (pa_cons (pv 2) (pa_cons (pv 3) pa_nil)))))), ?_⟩
    have x1 := x.step (i + 1)
    have x2 := x1.step (i + 2)
    refine ⟨_, rfl, pr, dr, _, rfl, x.rdH, dfn_take_number, pr, dr, ar, ns, i, _, rfl, x.rdH, x.sqH, v1, ?_⟩
    refine ⟨_, rfl, pr, dr, _, rfl, x1.rdH, dfn_take_row, pr, dr, ar, ns, i + 1, n, rfl, x1.rdH, x1.sqH, x1.sqU, v2, hn, fun l hl => ?_⟩
    have x3 := (x2.kept (same_upd (o := .lst (((ns.drop (i + 1 + 1)).take n).map V.int)) hl)).step (i + 2 + n)
    have el : (Ql65Neutral.nats ((ns.drop (i + 2)).take n)).length = n := by
      rw [nats_len, List.length_take, List.length_drop]
      omega
    have lp : l ≠ pr := Ne.symm (ne_of_none upd_same hl)
    obtain ⟨dm, v1', v2', hm⟩ := x3.md.ob
    refine ⟨_, rfl, pm, dm, _, rfl, hm, mfn_put, _, rfl, _, rfl, _, pm, l, st, m, Ql65Neutral.nats ((ns.drop (i + 2)).take n), rfl, x3.sG, x3.md, ?_, nats_lt hz, by omega, ?_⟩
    · rw [upd_ne lp, upd_same, ← row_nV hz]
    · rw [el]
      exact x3.ans (fun b hb => by rw [upd_ne hb, upd_ne hb, upd_ne hb]) k
def spATake (T : PT K mg) : Sp := fun vs H Q _ => ∃ (H0 G : Hp) (pm pr dr ar : Addr) (ns : List Int) (i : Nat) (st : Ql65.St) (m n : Nat), vs = [.ref pm, .ref pr] ∧ Dk T H0 G H pm pr dr ar ns i (some st) ∧ ns[i]? = some (m : Int) ∧ ns[i + 1]? = some (n : Int) ∧ i + 2 + n ≤ ns.length ∧ ns.length ≤ 30000 ∧
  (∀ z, z ∈ (ns.drop (i + 2)).take n → 0 ≤ z ∧ z < 256) ∧ AnsD T H0 G pm pr dr ar ns (i + 2 + n) (spec (some st) (.take (Ql65Neutral.nats ((ns.drop (i + 2)).take n)) n m)) Q
theorem ok_aTake (T : PT K mg) (D : DT K mg T) : FnOk P w K mg base CX0 9 D.defs.answer_take_.f D.defs.answer_take_.fd ["modem", "reader"] (spATake T) := by
  refine D.defs.answer_take_.F.ok sc_answer_take (fun vs H Q E h => ?_) (fun cdv A outer s H vs Q E hr h => ?_)
  · obtain ⟨H0, G, pm, pr, dr, ar, ns, i, st, m, n, rfl, _⟩ := h
    rfl
  · obtain ⟨H0, G, pm, pr, dr, ar, ns, i, st, m, n, rfl, x, v1, v2, hn, h3, hz, k⟩ := h
    have cl := T.reader.cl
    refine ⟨_, pss_cons (ps_set (i := 2) sc_answer_take.nd rfl (Or.inl rfl) (pe_meth0 (pv 1) cl T.reader.m_take_number (ok_takeN T) (hr.mono (by decide)) T.reader.take_number_.b .nil pass0))
      (pss_cons (ps_set (i := 3) sc_answer_take.nd rfl (Or.inl rfl) (pe_meth0 (pv 1) cl T.reader.m_take_row (ok_takeRow T) (hr.mono (by decide)) T.reader.take_row_.b .nil pass0))
      (pss_one (ps_ret (pe_meth (pv 0) T.modem.cl T.modem.m_take (ok_mtake T) hr T.modem.take_.b .nil pass0 (pa_cons (pv 2) (pa_cons (pv 3) pa_nil)))))), ?_⟩
    have x1 := x.step (i + 1)
    have x2 := x1.step (i + 2)
    refine ⟨_, rfl, pr, dr, _, rfl, x.rdH, dfn_take_number, pr, dr, ar, ns, i, _, rfl, x.rdH, x.sqH, v1, ?_⟩
    refine ⟨_, rfl, pr, dr, _, rfl, x1.rdH, dfn_take_row, pr, dr, ar, ns, i + 1, n, rfl, x1.rdH, x1.sqH, x1.sqU, v2, hn, fun l hl => ?_⟩
    have x3 := (x2.kept (same_upd (o := .lst (((ns.drop (i + 1 + 1)).take n).map V.int)) hl)).step (i + 2 + n)
    have el : (Ql65Neutral.nats ((ns.drop (i + 2)).take n)).length = n := by
      rw [nats_len, List.length_take, List.length_drop]
      omega
    have lp : l ≠ pr := Ne.symm (ne_of_none upd_same hl)
    obtain ⟨dm, v1', v2', hm⟩ := x3.md.ob
    refine ⟨_, rfl, pm, dm, _, rfl, hm, mfn_take, _, rfl, _, rfl, _, pm, l, st, m, Ql65Neutral.nats ((ns.drop (i + 2)).take n), rfl, x3.sG, x3.md, ?_, nats_lt hz, by omega, ?_⟩
    · rw [upd_ne lp, upd_same, ← row_nV hz]
    · rw [el]
      exact x3.ans (fun b hb => by rw [upd_ne hb, upd_ne hb, upd_ne hb]) k
end
end SL
namespace SL
open PySem hiding Tree
open L2 Sl Ql65
/-! what a call answers at most -/
def qm : Ql65.Call → Nat
  | .begin_ _ _ => 0
  | .put _ _ r => if ROOM < r then 0 else r
  | .flush r => if ROOM < r then 0 else r
  | .mode _ r => if ROOM < r then 0 else r
  | .reset r => if ROOM < r then 0 else r
  | .take _ _ r => if ROOM < r then 0 else r
theorem told_len (s : Ql65.St) (room : Nat) (t : Ql65.St) (l : List Nat) : (told s room t l).2.bytes.length ≤ room := by
  unfold told
  by_cases h : room < l.length
  · rw [if_pos h]; exact Nat.zero_le _
  · rw [if_neg h]; show l.length ≤ room; omega
theorem told_some (s : Ql65.St) (room : Nat) (t : Ql65.St) (l : List Nat) : ∃ s', (told s room t l).1 = some s' := by
  unfold told
  by_cases h : room < l.length
  · rw [if_pos h]; exact ⟨_, rfl⟩
  · rw [if_neg h]; exact ⟨_, rfl⟩
theorem spec_both (st : Ql65.St) (q : Ql65.Call) : (∃ s', (spec (some st) q).1 = some s') ∧ (spec (some st) q).2.bytes.length ≤ qm q := by
  cases q with
  | begin_ c l =>
    unfold spec
    by_cases h : right ⟨c, l⟩ = true
    · simp only [if_pos h]; exact ⟨⟨_, rfl⟩, Nat.le_refl _⟩
    · simp only [if_neg h]; exact ⟨⟨_, rfl⟩, Nat.le_refl _⟩
  | put l n r =>
    unfold spec qm
    by_cases h : MOST < n ∨ ROOM < r
    · simp only [if_pos h]; exact ⟨⟨_, rfl⟩, Nat.zero_le _⟩
    · simp only [if_neg h, if_neg fun z => h (.inr z)]
      exact ⟨told_some .., told_len ..⟩
  | flush r =>
    unfold spec qm
    by_cases h : ROOM < r
    · simp only [if_pos h]; exact ⟨⟨_, rfl⟩, Nat.zero_le _⟩
    · simp only [if_neg h]
      exact ⟨told_some .., told_len ..⟩
  | mode c r =>
    unfold spec qm
    by_cases h : 1 < c ∨ ROOM < r
    · simp only [if_pos h]; exact ⟨⟨_, rfl⟩, Nat.zero_le _⟩
    · simp only [if_neg h, if_neg fun z => h (.inr z)]
      cases st.sender.mode (c == 1) with
      | none => exact ⟨⟨_, rfl⟩, Nat.zero_le _⟩
      | some x => exact ⟨told_some .., told_len ..⟩
  | reset r =>
    unfold spec qm
    by_cases h : ROOM < r
    · simp only [if_pos h]; exact ⟨⟨_, rfl⟩, Nat.zero_le _⟩
    · simp only [if_neg h]
      cases st.sender.reset with
      | none => exact ⟨⟨_, rfl⟩, Nat.zero_le _⟩
      | some x => exact ⟨told_some .., told_len ..⟩
  | take l n r =>
    unfold spec qm
    by_cases h : MOST < n ∨ ROOM < r
    · simp only [if_pos h]; exact ⟨⟨_, rfl⟩, Nat.zero_le _⟩
    · simp only [if_neg h, if_neg fun z => h (.inr z)]
      cases st.receiver.take st.sizes l with
      | none => exact ⟨⟨_, rfl⟩, Nat.zero_le _⟩
      | some x => exact ⟨told_some .., told_len ..⟩
/-- what is due of a call, and the state behind it -/
structure Due (a : Option Ql65.St) (c : Raw) (q : Ql65.Call) : Prop where
  of : Ql65Neutral.callOf (PyQl65.whole c) = some q
  st : ∃ s', (spec a q).1 = some s'
  ln : (spec a q).2.bytes.length ≤ Ql65Neutral.most (PyQl65.whole c)
theorem Due.step {a : Option Ql65.St} {c : Raw} {q : Ql65.Call} (d : Due a c q) : Ql65Neutral.step a (PyQl65.whole c) = ((spec a q).1, ansL (spec a q).2) := by
  unfold Ql65Neutral.step
  rw [d.of]
  rfl
theorem drop_get {α : Type} {ns l : List α} {i : Nat} (h : ns.drop i = l) (k : Nat) : ns[i + k]? = l[k]? := by rw [← h, List.getElem?_drop]
theorem drop_on {α : Type} {ns l : List α} {i : Nat} (h : ns.drop i = l) (k : Nat) : ns.drop (i + k) = l.drop k := by rw [← h, List.drop_drop]
theorem nat32 {z : Int} (h : Ql65Neutral.natural z 32 = true) : 0 ≤ z := by
  unfold Ql65Neutral.natural at h
  rw [Bool.and_eq_true] at h
  exact of_decide_eq_true h.1
theorem nat8 {l : List Int} (h : (l.all fun (z : Int) => Ql65Neutral.natural z 8) = true) : ∀ z, z ∈ l → 0 ≤ z ∧ z < 256 := fun z hz => by
  have := List.all_eq_true.mp h z hz
  unfold Ql65Neutral.natural at this
  rw [Bool.and_eq_true] at this
  exact ⟨of_decide_eq_true this.1, of_decide_eq_true this.2⟩
theorem most_eq {m : Int} (h : 0 ≤ m) : (if ROOM < m.toNat then 0 else m.toNat) = if m ≤ 16777216 then m.toNat else 0 := by
  by_cases q : m ≤ 16777216
  · rw [if_pos q, if_neg (by show ¬ 16777216 < m.toNat; omega)]
  · rw [if_neg q, if_pos (by show 16777216 < m.toNat; omega)]
theorem begins_no {c : Raw} (h : ∀ x y, c ≠ [[0, x, y]]) : Ql65Neutral.begins c = false := by
  unfold Ql65Neutral.begins
  split
  · exact absurd rfl (h _ _)
  · rfl
section
variable {P : Program} {w : World} {K : PySem.W.Frag} {mg : Str → Option Value} {base : Heap}
theorem ask_put {m : Int} {r : List Int} (h : Ql65Neutral.asked1 (PyQl65.whole [[1, m], r]) = true) : 0 ≤ m ∧ ∀ z, z ∈ r → 0 ≤ z ∧ z < 256 := by
  have h : (Ql65Neutral.natural (r.length : Int) 32 && (Ql65Neutral.natural m 32 && (r.all (fun (z : Int) => Ql65Neutral.natural z 8) && Ql65Neutral.long r (r.length : Int) 0 65536))) = true := h
  simp only [Bool.and_eq_true] at h
  exact ⟨nat32 h.2.1, nat8 h.2.2.1⟩
theorem ask_take {m : Int} {r : List Int} (h : Ql65Neutral.asked1 (PyQl65.whole [[5, m], r]) = true) : 0 ≤ m ∧ ∀ z, z ∈ r → 0 ≤ z ∧ z < 256 := by
  have h : (Ql65Neutral.natural (r.length : Int) 32 && (Ql65Neutral.natural m 32 && (r.all (fun (z : Int) => Ql65Neutral.natural z 8) && Ql65Neutral.long r (r.length : Int) 0 65536))) = true := h
  simp only [Bool.and_eq_true] at h
  exact ⟨nat32 h.2.1, nat8 h.2.2.1⟩
theorem call_of {X : Cx} (T : PT X.K X.mg) (D : DT X.K X.mg T) {H0 G H : Hp} {pm pr dr ar ag : Addr} {ns : List Int} {i : Nat} {a : Option Ql65.St} {p : Int} {r t : List Int} {c : Raw} {v5 v0 : Option V} {Q : VK} (hr : Room 9 X.A)
    (x : Dk T H0 G H pm pr dr ar ns (i + 1) a) (hl : ns.drop i = p :: r) (hd : Head (p :: r) c t) (h1 : Ql65Neutral.asked1 (PyQl65.whole c) = true) (hb : a = none → Ql65Neutral.begins (PyQl65.whole c) = true) (hn : ns.length ≤ 30000)
    (k : ∀ q j, Due a c q → ns.drop j = t → AnsD T H0 G pm pr dr ar ns j (spec a q) Q) :
    tCallE X (tKGet [(Sum.inl 0, .ref D.defs.answer_begin_.f), (Sum.inl 1, .ref D.defs.answer_put_.f), (Sum.inl 2, .ref D.defs.answer_flush_.f), (Sum.inl 3, .ref D.defs.answer_mode_.f), (Sum.inl 4, .ref D.defs.answer_reset_.f), (Sum.inl 5, .ref D.defs.answer_take_.f)] (tVar 4)) (tCons (tVar 1) (tCons (tVar 2) tNil))
      [v0, some (.ref pm), some (.ref pr), some (.ref ag), some (.int p), v5] H Q := by
  have cut : ∀ {n : Int} {t' : List Int}, 0 ≤ n → n.toNat ≤ t'.length → ns.drop (i + 3) = t' → ns[i + 2]? = some n → i + 3 + n.toNat ≤ ns.length := fun {n t'} h0 h1 h2 h3 => by
    have e := congrArg List.length h2
    rw [List.length_drop] at e
    obtain ⟨h, _⟩ := List.getElem?_eq_some_iff.mp h3
    omega
  cases hd with
  | begin_ y z t =>
    have h1 : (Ql65Neutral.natural y 32 && Ql65Neutral.natural z 32) = true := h1
    rw [Bool.and_eq_true] at h1
    have y0 := nat32 h1.1
    have z0 := nat32 h1.2
    have e1 : ns[i + 1]? = some ((y.toNat : Nat) : Int) := by rw [drop_get hl 1, Int.toNat_of_nonneg y0]; rfl
    have e2 : ns[i + 2]? = some ((z.toNat : Nat) : Int) := by rw [drop_get hl 2, Int.toNat_of_nonneg z0]; rfl
    refine ⟨_, rfl, 0, _, rfl, rfl, _, 8, _, _, _, rfl, ok_aBegin T D, hr.mono (by decide), D.defs.answer_begin_.F.kp, D.defs.answer_begin_.b, ?_⟩
    refine ⟨_, rfl, _, rfl, H0, G, pm, pr, dr, ar, ns, i + 1, a, y.toNat, z.toNat, rfl, x, e1, e2, ?_⟩
    refine k _ _ ⟨rfl, ?_, ?_⟩ (drop_on hl 3)
    · cases a with
      | none =>
        have hb : (NeutralIO.within y 512 65536 && NeutralIO.within z 6 250) = true := hb rfl
        unfold NeutralIO.within at hb
        simp only [Bool.and_eq_true, decide_eq_true_eq] at hb
        have e : spec none (.begin_ y.toNat z.toNat) = (some ⟨⟨y.toNat, z.toNat⟩, startS, startR⟩, only 0) := by
          show (if right ⟨y.toNat, z.toNat⟩ = true then (some (⟨⟨y.toNat, z.toNat⟩, startS, startR⟩ : Ql65.St), only 0) else (none, only (-2))) = _
          exact if_pos (decide_eq_true (show 512 ≤ y.toNat ∧ y.toNat ≤ 65536 ∧ 6 ≤ z.toNat ∧ z.toNat ≤ 250 by omega))
        exact ⟨_, congrArg Prod.fst e⟩
      | some st => exact (spec_both st _).1
    · show (spec a (.begin_ y.toNat z.toNat)).2.bytes.length ≤ 0
      unfold spec
      by_cases h : right ⟨y.toNat, z.toNat⟩ = true
      · simp only [if_pos h]; exact Nat.le_refl _
      · simp only [if_neg h]; exact Nat.le_refl _
  | put m n t h3 h4 =>
    obtain ⟨m0, z8⟩ := ask_put h1
    cases a with
    | none => exact absurd (hb rfl) (by rw [begins_no (fun x y => by intro z; cases z)]; exact Bool.false_ne_true)
    | some st =>
      have e1 : ns[i + 1]? = some ((m.toNat : Nat) : Int) := by rw [drop_get hl 1, Int.toNat_of_nonneg m0]; rfl
      have e2 : ns[i + 2]? = some ((n.toNat : Nat) : Int) := by rw [drop_get hl 2, Int.toNat_of_nonneg h3]; rfl
      have e3 : ns.drop (i + 3) = t := drop_on hl 3
      refine ⟨_, rfl, 1, _, rfl, rfl, _, 9, _, _, _, rfl, ok_aPut T D, hr, D.defs.answer_put_.F.kp, D.defs.answer_put_.b, ?_⟩
      refine ⟨_, rfl, _, rfl, H0, G, pm, pr, dr, ar, ns, i + 1, st, m.toNat, n.toNat, rfl, x, e1, e2, cut h3 h4 e3 (by rw [drop_get hl 2]; rfl), hn, ?_, ?_⟩
      · show ∀ z, z ∈ (ns.drop (i + 3)).take n.toNat → _
        rw [e3]
        exact z8
      · show AnsD T H0 G pm pr dr ar ns (i + 3 + n.toNat) (spec (some st) (.put (Ql65Neutral.nats ((ns.drop (i + 3)).take n.toNat)) n.toNat m.toNat)) Q
        rw [e3]
        refine k _ _ ⟨?_, (spec_both st _).1, ?_⟩ (drop_on e3 _)
        · show some (Ql65.Call.put (Ql65Neutral.nats (t.take n.toNat)) (((t.take n.toNat).length : Nat) : Int).toNat m.toNat) = _
          rw [Int.toNat_natCast, List.length_take, Nat.min_eq_left h4]
        · refine Nat.le_trans (spec_both st _).2 (Nat.le_of_eq ?_)
          exact most_eq m0
  | flush m t =>
    have m0 : 0 ≤ m := nat32 h1
    cases a with
    | none => exact absurd (hb rfl) (by rw [begins_no (fun x y => by intro z; cases z)]; exact Bool.false_ne_true)
    | some st =>
      have e1 : ns[i + 1]? = some ((m.toNat : Nat) : Int) := by rw [drop_get hl 1, Int.toNat_of_nonneg m0]; rfl
      refine ⟨_, rfl, 2, _, rfl, rfl, _, 9, _, _, _, rfl, ok_aFlush T D, hr, D.defs.answer_flush_.F.kp, D.defs.answer_flush_.b, ?_⟩
      refine ⟨_, rfl, _, rfl, H0, G, pm, pr, dr, ar, ns, i + 1, st, m.toNat, rfl, x, e1, ?_⟩
      exact k _ _ ⟨rfl, (spec_both st _).1, Nat.le_trans (spec_both st _).2 (Nat.le_of_eq (most_eq m0))⟩ (drop_on hl 2)
  | mode y m t =>
    have h1 : (Ql65Neutral.natural y 32 && Ql65Neutral.natural m 32) = true := h1
    rw [Bool.and_eq_true] at h1
    have y0 := nat32 h1.1
    have m0 := nat32 h1.2
    cases a with
    | none => exact absurd (hb rfl) (by rw [begins_no (fun x y => by intro z; cases z)]; exact Bool.false_ne_true)
    | some st =>
      have e1 : ns[i + 1]? = some ((y.toNat : Nat) : Int) := by rw [drop_get hl 1, Int.toNat_of_nonneg y0]; rfl
      have e2 : ns[i + 2]? = some ((m.toNat : Nat) : Int) := by rw [drop_get hl 2, Int.toNat_of_nonneg m0]; rfl
      refine ⟨_, rfl, 3, _, rfl, rfl, _, 9, _, _, _, rfl, ok_aMode T D, hr, D.defs.answer_mode_.F.kp, D.defs.answer_mode_.b, ?_⟩
      refine ⟨_, rfl, _, rfl, H0, G, pm, pr, dr, ar, ns, i + 1, st, y.toNat, m.toNat, rfl, x, e1, e2, ?_⟩
      exact k _ _ ⟨rfl, (spec_both st _).1, Nat.le_trans (spec_both st _).2 (Nat.le_of_eq (most_eq m0))⟩ (drop_on hl 3)
  | reset m t =>
    have m0 : 0 ≤ m := nat32 h1
    cases a with
    | none => exact absurd (hb rfl) (by rw [begins_no (fun x y => by intro z; cases z)]; exact Bool.false_ne_true)
    | some st =>
      have e1 : ns[i + 1]? = some ((m.toNat : Nat) : Int) := by rw [drop_get hl 1, Int.toNat_of_nonneg m0]; rfl
      refine ⟨_, rfl, 4, _, rfl, rfl, _, 9, _, _, _, rfl, ok_aReset T D, hr, D.defs.answer_reset_.F.kp, D.defs.answer_reset_.b, ?_⟩
      refine ⟨_, rfl, _, rfl, H0, G, pm, pr, dr, ar, ns, i + 1, st, m.toNat, rfl, x, e1, ?_⟩
      exact k _ _ ⟨rfl, (spec_both st _).1, Nat.le_trans (spec_both st _).2 (Nat.le_of_eq (most_eq m0))⟩ (drop_on hl 2)
  | take m n t h3 h4 =>
    obtain ⟨m0, z8⟩ := ask_take h1
    cases a with
    | none => exact absurd (hb rfl) (by rw [begins_no (fun x y => by intro z; cases z)]; exact Bool.false_ne_true)
    | some st =>
      have e1 : ns[i + 1]? = some ((m.toNat : Nat) : Int) := by rw [drop_get hl 1, Int.toNat_of_nonneg m0]; rfl
      have e2 : ns[i + 2]? = some ((n.toNat : Nat) : Int) := by rw [drop_get hl 2, Int.toNat_of_nonneg h3]; rfl
      have e3 : ns.drop (i + 3) = t := drop_on hl 3
      refine ⟨_, rfl, 5, _, rfl, rfl, _, 9, _, _, _, rfl, ok_aTake T D, hr, D.defs.answer_take_.F.kp, D.defs.answer_take_.b, ?_⟩
      refine ⟨_, rfl, _, rfl, H0, G, pm, pr, dr, ar, ns, i + 1, st, m.toNat, n.toNat, rfl, x, e1, e2, cut h3 h4 e3 (by rw [drop_get hl 2]; rfl), hn, ?_, ?_⟩
      · show ∀ z, z ∈ (ns.drop (i + 3)).take n.toNat → _
        rw [e3]
        exact z8
      · show AnsD T H0 G pm pr dr ar ns (i + 3 + n.toNat) (spec (some st) (.take (Ql65Neutral.nats ((ns.drop (i + 3)).take n.toNat)) n.toNat m.toNat)) Q
        rw [e3]
        refine k _ _ ⟨?_, (spec_both st _).1, ?_⟩ (drop_on e3 _)
        · show some (Ql65.Call.take (Ql65Neutral.nats (t.take n.toNat)) (((t.take n.toNat).length : Nat) : Int).toNat m.toNat) = _
          rw [Int.toNat_natCast, List.length_take, Nat.min_eq_left h4]
        · refine Nat.le_trans (spec_both st _).2 (Nat.le_of_eq ?_)
          exact most_eq m0
end
end SL
namespace SL
open PySem hiding Tree
open L2 Sl Ql65
section
variable {P : Program} {w : World} {K : PySem.W.Frag} {mg : Str → Option Value} {base : Heap}
def mostS (cs : List Raw) : Nat := ((cs.map PyQl65.whole).map Ql65Neutral.most).sum
theorem mostS_cons (c : Raw) (cs : List Raw) : mostS (c :: cs) = Ql65Neutral.most (PyQl65.whole c) + mostS cs := rfl
theorem told_cons (s : Ql65Neutral.S) (c : Raw) (cs : List Raw) : PyFlat.told (PyFlat.played Ql65Neutral.step s ((c :: cs).map PyQl65.whole)) =
    (((Ql65Neutral.step s (PyQl65.whole c)).2.length : Int) :: (Ql65Neutral.step s (PyQl65.whole c)).2) ++ PyFlat.told (PyFlat.played Ql65Neutral.step (Ql65Neutral.step s (PyQl65.whole c)).1 (cs.map PyQl65.whole)) := by
  show PyFlat.told ((Ql65Neutral.step s (PyQl65.whole c)).2 :: PyFlat.played Ql65Neutral.step (Ql65Neutral.step s (PyQl65.whole c)).1 (cs.map PyQl65.whole)) = _
  unfold PyFlat.told
  rw [List.flatMap_cons]
theorem ansL_len (x : Ql65.Ans) : (ansL x).length = x.bytes.length + 1 := by
  unfold ansL Ql65Neutral.ints
  rw [List.length_cons, List.length_map]
theorem Dk.given {T : PT K mg} {H0 G H : Hp} {pm pr dr ar ag : Addr} {ns : List Int} {i : Nat} {a : Option Ql65.St} {l l' : List V} (x : Dk T H0 G H pm pr dr ar ns i a) (n0 : H0 ag = none) (ne : pr ≠ ag) (hg : G ag = some (.lst l)) : Dk T H0 (upd G ag (.lst l')) (upd H ag (.lst l')) pm pr dr ar ns i a :=
  ⟨same_put x.h0 n0, x.n0, x.sq, by rw [upd_ne ne]; exact x.rd, same_both x.sG _, x.md.other hg (x.sG _ _ hg) (fun _ z => nomatch z)⟩
def spAnswers (K : PySem.W.Frag) : Sp := fun vs H Q _ => ∃ (ar : Addr) (ns : List Int), vs = [.ref ar] ∧ SqL K H ar (ns.map V.int) ∧ ns.length ≤ 30000 ∧ PyQl65.answers_asked ns = true ∧ ∀ p H', H' p = some (.lst ((PyQl65.answers ns).map V.int)) → Q (.ref p) H'
theorem ok_answers (T : PT K mg) (D : DT K mg T) : FnOk P w K mg base CX0 10 D.defs.answers_.f D.defs.answers_.fd ["calls"] (spAnswers K) := by
  refine D.defs.answers_.F.ok sc_answers (fun vs H Q E h => ?_) (fun cdv A outer s H0 vs Q E hr h => ?_)
  · obtain ⟨ar, ns, rfl, _⟩ := h
    rfl
  · obtain ⟨ar, ns, rfl, hq, hn, has, k⟩ := h
    obtain ⟨cs0, hC, hc4, hask, hans⟩ := asked_of has
    rw [hans] at k
    have cl := T.reader.cl
    refine ⟨_, pss_cons (ps_set (i := 1) sc_answers.nd rfl (Or.inl rfl) (pe_make0 T.modem.mak (ok_modInit T) (hr.mono (by decide)) rfl T.modem.at_ T.modem.init_.b .nil pass0))
      (pss_cons (ps_set (i := 2) sc_answers.nd rfl (Or.inl rfl) (pe_make T.reader.mak (ok_rdInit T) (hr.mono (by decide)) rfl T.reader.at_ T.reader.init_.b .nil pass0 (pa_cons (pv 0) pa_nil)))
      (pss_cons (ps_set (i := 3) sc_answers.nd rfl (Or.inl rfl) (pe_lst pa_nil))
      (pss_cons (ps_while PassesOwn.never (pt_not (pt_val (pe_meth0 (pv 2) cl T.reader.m_at_end (ok_rdEnd T) (hr.mono (by decide)) T.reader.at_end_.b .nil pass0)))
        (pss_cons (ps_set (i := 4) sc_answers.nd rfl (Or.inl rfl) (pe_meth0 (pv 2) cl T.reader.m_take_number (ok_takeN T) (hr.mono (by decide)) T.reader.take_number_.b .nil pass0))
        (pss_cons (ps_set (i := 5) sc_answers.nd rfl (Or.inl rfl) (pe_callE (pe_kget rfl T.calls_ (D.calls_d _ _) (pv 4) (fun _ _ => rfl)) (pa_cons (pv 1) (pa_cons (pv 2) pa_nil))))
        (pss_cons (ps_expr (pe_bm PySem.F.plainAttrs_list PySem.F.slot_list_append PySem.F.type_list_append mt_append (pv 3) (pa_cons (pe_callB call_len_seq rfl T.b_len PySem.boot_len (pa_cons (pv 5) pa_nil)) pa_nil)))
        (pss_one (ps_expr (pe_bm PySem.F.plainAttrs_list PySem.F.slot_list_extend PySem.F.type_list_extend mt_extend (pv 3) (pa_cons (pv 5) pa_nil))))))))
      (pss_one (ps_ret (pv 3)))))), ?_⟩
    intro pm dm npm ndm nne
    have s0 : Same H0 (upd (upd H0 dm (.own pm)) pm (.ins T.modem.C dm [])) := fun b o e => by
      rw [upd_ne (ne_of_none e npm), upd_ne (ne_of_none e ndm)]
      exact e
    refine ⟨H0, pm, dm, rfl, upd_same, s0, npm, fun H1 s1 m1 => ⟨rfl, ?_⟩⟩
    refine ⟨_, rfl, ?_⟩
    intro pr dr npr ndr nne2
    have s2 : Same H1 (upd (upd H1 dr (.own pr)) pr (.ins T.reader.C dr [])) := fun b o e => by
      rw [upd_ne (ne_of_none e npr), upd_ne (ne_of_none e ndr)]
      exact e
    refine ⟨pr, dr, ar, rfl, upd_same, ⟨rfl, ?_⟩⟩
    rw [upd_upd]
    refine ⟨(by show 0 ≤ sizeLine; decide), fun ag nag => ?_⟩
    obtain ⟨gpm, dm', hm1⟩ := m1
    have hm1 : H1 pm = some (.ins T.modem.C dm' (mfF .non .non)) := hm1
    have n0 : H0 pr = none := same_out s1 npr
    have hpm : pm ≠ pr := ne_of_none hm1 npr
    have hdm : pm ≠ dr := ne_of_none hm1 ndr
    have h2p : upd (upd H1 dr (.own pr)) pr (rdO T dr ar 0) pr = some (rdO T dr ar 0) := upd_same
    have h2m : upd (upd H1 dr (.own pr)) pr (rdO T dr ar 0) pm = some (.ins T.modem.C dm' (mfF .non .non)) := by rw [upd_ne hpm, upd_ne hdm]; exact hm1
    have pa : pr ≠ ag := ne_of_none h2p nag
    have ma : pm ≠ ag := ne_of_none h2m nag
    have s2' : Same H1 (upd (upd H1 dr (.own pr)) pr (rdO T dr ar 0)) := fun b o e => by
      rw [upd_ne (ne_of_none e npr), upd_ne (ne_of_none e ndr)]
      exact e
    have g0 : H0 ag = none := same_out (s1.trans s2') nag
    have sA : Same (upd (upd H0 pr (rdO T dr ar 0)) ag (.lst [])) (upd (upd (upd H1 dr (.own pr)) pr (rdO T dr ar 0)) ag (.lst [])) := fun b o e => by
      by_cases h1 : b = ag
      · subst h1
        rw [upd_same] at e ⊢
        exact e
      · rw [upd_ne h1] at e ⊢
        by_cases h2 : b = pr
        · subst h2
          rw [upd_same] at e ⊢
          exact e
        · rw [upd_ne h2] at e
          exact s2' _ _ (s1 _ _ e)
    have x0 : Dk T H0 (upd (upd H0 pr (rdO T dr ar 0)) ag (.lst [])) (upd (upd (upd H1 dr (.own pr)) pr (rdO T dr ar 0)) ag (.lst [])) pm pr dr ar ns 0 none := by
      refine ⟨same_put (same_put (fun _ _ e => e) n0) g0, n0, hq, (by rw [upd_ne pa, upd_same]), sA, (by rw [upd_ne ma, upd_ne hpm]; exact gpm), dm', ?_⟩
      show upd _ ag _ pm = _
      rw [upd_ne ma]
      exact h2m
    have hask' := hask
    unfold Ql65Neutral.asked at hask'
    simp only [Bool.and_eq_true, decide_eq_true_eq] at hask'
    obtain ⟨ha1, hbg, hlen, hsum⟩ := hask'
    have hall : ∀ c, c ∈ cs0 → Ql65Neutral.asked1 (PyQl65.whole c) = true := fun c hc => List.all_eq_true.mp ha1 _ (List.mem_map.mpr ⟨c, hc, rfl⟩)
    have hfirst : ∃ c cs', cs0 = c :: cs' ∧ Ql65Neutral.begins (PyQl65.whole c) = true := by
      cases cs0 with
      | nil => exact absurd hbg Bool.false_ne_true
      | cons c cs' => exact ⟨c, cs', rfl, hbg⟩
    refine ⟨fun m σ H' => ∃ (i : Nat) (a : Option Ql65.St) (cs : List Raw) (gv : List Int) (G : Hp) (v4 v5 : Option V), σ = [some (.ref ar), some (.ref pm), some (.ref pr), some (.ref ag), v4, v5] ∧ Dk T H0 G H' pm pr dr ar ns i a ∧ G ag = some (.lst (gv.map V.int)) ∧ Calls (ns.drop i) cs ∧
        (∀ c, c ∈ cs → Ql65Neutral.asked1 (PyQl65.whole c) = true) ∧ (a = none → ∃ c cs', cs = c :: cs' ∧ Ql65Neutral.begins (PyQl65.whole c) = true) ∧
        gv ++ PyFlat.told (PyFlat.played Ql65Neutral.step a (cs.map PyQl65.whole)) = PyFlat.told (PyFlat.played Ql65Neutral.step Ql65Neutral.start (cs0.map PyQl65.whole)) ∧ gv.length + mostS cs + 2 * cs.length ≤ 901000 ∧ cs.length = m,
      ⟨_, 0, none, cs0, [], _, _, _, rfl, x0, upd_same, hC, hall, fun _ => hfirst, rfl, (by show 0 + mostS cs0 + 2 * cs0.length ≤ 901000; unfold mostS; omega), rfl⟩, ?_⟩
    rintro m σ H' ⟨i, a, cs, gv, G, v4, v5, rfl, x, hg, hCs, hal, hfi, hgv, hle, rfl⟩
    refine ⟨_, rfl, pr, dr, _, rfl, x.rdH, dfn_at_end, pr, dr, ar, ns, i, rfl, x.rdH, x.sqH, _, rfl, ?_⟩
    show if (!decide (ns.length ≤ i)) = true then _ else _
    by_cases hend : ns.length ≤ i
    · rw [if_neg (by rw [decide_eq_true hend]; exact Bool.false_ne_true)]
      have hnil : ns.drop i = [] := List.drop_eq_nil_of_le hend
      rw [hnil] at hCs
      cases hCs with
      | nil =>
        have e : gv = PyFlat.told (PyFlat.played Ql65Neutral.step Ql65Neutral.start (cs0.map PyQl65.whole)) := by
          rw [← hgv]
          exact (List.append_nil gv).symm
        exact ⟨_, rfl, k ag H' (by rw [← e]; exact x.sG _ _ hg)⟩
      | cons hh _ => cases hh
    · rw [if_pos (by rw [decide_eq_false hend]; rfl)]
      refine ⟨fun σ' H'' => ∃ (i : Nat) (a : Option Ql65.St) (cs' : List Raw) (gv : List Int) (G : Hp) (v4 v5 : Option V), σ' = [some (.ref ar), some (.ref pm), some (.ref pr), some (.ref ag), v4, v5] ∧ Dk T H0 G H'' pm pr dr ar ns i a ∧ G ag = some (.lst (gv.map V.int)) ∧ Calls (ns.drop i) cs' ∧
          (∀ c, c ∈ cs' → Ql65Neutral.asked1 (PyQl65.whole c) = true) ∧ (a = none → ∃ c cs'', cs' = c :: cs'' ∧ Ql65Neutral.begins (PyQl65.whole c) = true) ∧
          gv ++ PyFlat.told (PyFlat.played Ql65Neutral.step a (cs'.map PyQl65.whole)) = PyFlat.told (PyFlat.played Ql65Neutral.step Ql65Neutral.start (cs0.map PyQl65.whole)) ∧ gv.length + mostS cs' + 2 * cs'.length ≤ 901000 ∧ cs'.length < cs.length,
        fun σ' H'' ⟨i, a, cs', gv, G, v4, v5, d1, d2, d3, d4, d5, d6, d7, d8, d9⟩ => ⟨_, d9, i, a, cs', gv, G, v4, v5, d1, d2, d3, d4, d5, d6, d7, d8, rfl⟩, ?_⟩
      obtain ⟨p, r, hpr⟩ : ∃ p r, ns.drop i = p :: r := by
        cases e : ns.drop i with
        | nil => exact absurd (List.drop_eq_nil_iff.mp e) hend
        | cons p r => exact ⟨p, r, rfl⟩
      have hv : ns[i]? = some p := by
        have := drop_get hpr 0
        rw [Nat.add_zero] at this
        rw [this]; rfl
      rw [hpr] at hCs
      cases hCs with
      | cons hh ht =>
        rename_i c t cs'
        refine ⟨_, rfl, pr, dr, _, rfl, x.rdH, dfn_take_number, pr, dr, ar, ns, i, p, rfl, x.rdH, x.sqH, hv, ?_⟩
        have x1 := x.step (i + 1)
        refine call_of (X := (cxOf CX0 P w K mg base ["calls", "modem", "reader", "given", "call", "answer"] "answers" (defScope s_answers) D.defs.answers_.f cdv A outer s H0 E).nox) T D hr x1 hpr hh (hal _ (List.mem_cons_self ..)) (fun e => ?_) hn (fun q j du hj => ?_)
        · obtain ⟨c', cs'', e1, e2⟩ := hfi e
          cases e1
          exact e2
        · intro G' H2 l nl x2 hG' hl
          have hg2 : G' ag = some (.lst (gv.map V.int)) := by
            rw [hG' ag (Ne.symm pa), upd_ne (Ne.symm pa)]
            exact hg
          have la : l ≠ ag := Ne.symm (ne_of_none hg2 nl)
          have ln := du.ln
          have la1 := ansL_len (spec a q).2
          rw [mostS_cons] at hle
          have hle' : gv.length + (Ql65Neutral.most (PyQl65.whole c) + mostS cs') + 2 * (cs'.length + 1) ≤ 901000 := hle
          have x3 := x2.given (l' := (gv ++ [((ansL (spec a q).2).length : Int)]).map V.int) g0 pa hg2
          have hl3 : upd H2 ag (.lst ((gv ++ [((ansL (spec a q).2).length : Int)]).map V.int)) l = some (.lst ((ansL (spec a q).2).map V.int)) := by rw [upd_ne la]; exact hl
          have hga : H2 ag = some (.lst (gv.map V.int)) := x2.sG _ _ hg2
          refine ⟨_, rfl, .inl ⟨rfl, _, SqL.of hga⟩, _, rfl, l, _, rfl, .inl (SqL.of hl), ag, _, _, rfl, rfl, hga, (by rw [List.length_map, sizeLine_eq]; omega), ?_⟩
          have e1 : gv.map V.int ++ [V.int (((ansL (spec a q).2).map V.int).length : Int)] = (gv ++ [((ansL (spec a q).2).length : Int)]).map V.int := by
            rw [List.map_append, List.length_map]
            rfl
          rw [e1]
          have hga3 := x3.sG _ _ (show upd G' ag (.lst ((gv ++ [((ansL (spec a q).2).length : Int)]).map V.int)) ag = _ from upd_same)
          refine ⟨_, rfl, .inl ⟨rfl, _, SqL.of hga3⟩, _, rfl, ag, l, _, _, rfl, rfl, hga3, hl3, (by rw [List.length_map, List.length_map, List.length_append, sizeLine_eq]; show gv.length + 1 + _ ≤ _; omega), ?_⟩
          rw [← List.map_append]
          have x4 := x3.given (l' := ((gv ++ [((ansL (spec a q).2).length : Int)]) ++ ansL (spec a q).2).map V.int) g0 pa upd_same
          refine ⟨j, (spec a q).1, cs', (gv ++ [((ansL (spec a q).2).length : Int)]) ++ ansL (spec a q).2, _, _, _, rfl, x4, upd_same, (by rw [hj]; exact ht), fun c' hc' => hal c' (List.mem_cons_of_mem _ hc'), fun z => ?_, ?_, ?_, (by show cs'.length < cs'.length + 1; omega)⟩
          · obtain ⟨s', e⟩ := du.st
            rw [e] at z
            cases z
          · rw [← hgv, told_cons, du.step, List.append_assoc, List.append_assoc]
            rfl
          · rw [List.length_append, List.length_append]
            show gv.length + 1 + _ + _ + _ ≤ _
            omega
end
end SL
namespace SL
open PySem L2
/-! all that is known, from the facts of the top -/
def FnE (K : PySem.W.Frag) (x qual : Str) (st : Stmt) (f : Addr) : Prop := ∃ (oc : Value) (od an : Option Addr) (osl : Array (Option Value)) (kV doc pm cdv ct : Value), K.lookup f = some ⟨oc, od, .func (PySem.W.fnOf x qual (defArgs st) (defBody st) (defScope st) .none kV doc pm an cdv ct), osl⟩ ∧
  PySem.W.codeIn K cdv qual = true ∧ PySem.W.keepIn K (.ref f) = true
theorem FnE.of {K : PySem.W.Frag} {x qual : Str} {st : Stmt} {f : Addr} {oc : Value} {od an : Option Addr} {osl : Array (Option Value)} {kV doc pm cdv ct : Value} (l : K.lookup f = some ⟨oc, od, .func (PySem.W.fnOf x qual (defArgs st) (defBody st) (defScope st) .none kV doc pm an cdv ct), osl⟩)
    (c : PySem.W.codeIn K cdv qual = true) (k : PySem.W.keepIn K (.ref f) = true) : FnE K x qual st f := ⟨oc, od, an, osl, kV, doc, pm, cdv, ct, l, c, k⟩
theorem FnE.fnr {K : PySem.W.Frag} {x qual : Str} {st : Stmt} {f : Addr} (e : FnE K x qual st f) (ps : List Str)
    (h : ∀ (kV doc pm : Value) (an : Option Addr) (cdv ct : Value) (us : List Value), us.length = ps.length → bindArgs (PySem.W.fnOf x qual (defArgs st) (defBody st) (defScope st) .none kV doc pm an cdv ct) ⟨us, []⟩ = pure (ps.zip us)) : ∃ r : FnR K x qual st ps, f = r.f := by
  obtain ⟨oc, od, an, osl, kV, doc, pm, cdv, ct, l, c, k⟩ := e
  exact ⟨SL.fnr ps l c k h, rfl⟩
structure ClsF (K : PySem.W.Frag) (C : Addr) : Prop where
  pg : PySem.W.plainGet K C Str.empty = true
  hd : PySem.W.hasDictIn K C = true
  po : PySem.W.plainOver K C = true
  sa : PySem.W.findIn K (.ref C) "__setattr__" = some (some (.builtin "object.__setattr__"))
  mx : PySem.W.makesIn K C = true
  kc : PySem.W.keepIn K (.ref C) = true
theorem calls_dict {K : PySem.W.Frag} {d f0 f1 f2 f3 f4 f5 : Addr} {t0 t1 t2 t3 t4 t5 : Tok} {ep : Nat}
    (l : K.lookup d = some ⟨.type "dict", none, .dict #[⟨0, .int 0 t0, .ref f0⟩, ⟨1, .int 1 t1, .ref f1⟩, ⟨2, .int 2 t2, .ref f2⟩, ⟨3, .int 3 t3, .ref f3⟩, ⟨4, .int 4 t4, .ref f4⟩, ⟨5, .int 5 t5, .ref f5⟩] ep, #[]⟩) (P : Program) (w : World) (h : Heap) (X : K.In h) :
    h.DictOf (L2.mixKind P w) d [(Sum.inl 0, .ref f0), (Sum.inl 1, .ref f1), (Sum.inl 2, .ref f2), (Sum.inl 3, .ref f3), (Sum.inl 4, .ref f4), (Sum.inl 5, .ref f5)] := by
  refine ⟨_, _, _, X _ _ l, ⟨rfl, rfl, rfl⟩, rfl, ?_, ?_, show [(Sum.inl 0 : L2.Key), Sum.inl 1, Sum.inl 2, Sum.inl 3, Sum.inl 4, Sum.inl 5].Nodup from by decide⟩
  · intro e he
    have he : e ∈ [(⟨0, .int 0 t0, .ref f0⟩ : DictEntry), ⟨1, .int 1 t1, .ref f1⟩, ⟨2, .int 2 t2, .ref f2⟩, ⟨3, .int 3 t3, .ref f3⟩, ⟨4, .int 4 t4, .ref f4⟩, ⟨5, .int 5 t5, .ref f5⟩] := by simpa using he
    simp only [List.mem_cons, List.not_mem_nil, or_false] at he
    rcases he with rfl | rfl | rfl | rfl | rfl | rfl
    · exact ⟨Sum.inl 0, L2.mixKind_int _ _ _ _, show (0 : Int) = hashInt 0 from by decide⟩
    · exact ⟨Sum.inl 1, L2.mixKind_int _ _ _ _, show (1 : Int) = hashInt 1 from by decide⟩
    · exact ⟨Sum.inl 2, L2.mixKind_int _ _ _ _, show (2 : Int) = hashInt 2 from by decide⟩
    · exact ⟨Sum.inl 3, L2.mixKind_int _ _ _ _, show (3 : Int) = hashInt 3 from by decide⟩
    · exact ⟨Sum.inl 4, L2.mixKind_int _ _ _ _, show (4 : Int) = hashInt 4 from by decide⟩
    · exact ⟨Sum.inl 5, L2.mixKind_int _ _ _ _, show (5 : Int) = hashInt 5 from by decide⟩
  · exact .cons (L2.mixKind_int _ _ _ _) rfl (.cons (L2.mixKind_int _ _ _ _) rfl (.cons (L2.mixKind_int _ _ _ _) rfl (.cons (L2.mixKind_int _ _ _ _) rfl (.cons (L2.mixKind_int _ _ _ _) rfl (.cons (L2.mixKind_int _ _ _ _) rfl .nil)))))
set_option maxHeartbeats 0 in
theorem all_mk {P : Program} {w : World} {K : PySem.W.Frag} {h : Heap} {mg : Str → Option Value} {fa : Addr} (X : K.In h) (G : h.Ns mainGlobals mg) (hfa : mg "answers" = some (.ref fa))
    {C_Tree f_Tree_init f_Tree_copy f_Tree_find f_Tree_holds f_Tree_length_of f_Tree_bytes_of f_Tree_add f_Tree_go_on f_Tree_number_behind f_Tree_take_out C_LineEnd f_LineEnd_init f_LineEnd_start f_LineEnd_start_anew f_LineEnd_become_like f_LineEnd_move_escape C_Packer f_Packer_init f_Packer_copy f_Packer_push f_Packer_fill_up f_Packer_hand_over C_Unpacker f_Unpacker_init f_Unpacker_copy f_Unpacker_push f_Unpacker_pull f_Unpacker_drop_rest C_Receiver f_Receiver_init f_Receiver_copy f_Receiver_take f_Receiver_take_plain f_Receiver_take_meaning f_Receiver_take_short f_Receiver_take_step f_Receiver_end_strings f_Receiver_take_string f_Receiver_give_out C_Sender f_Sender_init f_Sender_copy f_Sender_put f_Sender_put_plain f_Sender_put_short f_Sender_flush f_Sender_to_short f_Sender_to_plain f_Sender_reset f_Sender_push_escape f_Sender_send_string_and_sign f_Sender_send C_Modem f_Modem_init f_Modem_begin f_Modem_put f_Modem_flush f_Modem_mode f_Modem_reset f_Modem_settle_sender f_Modem_take C_Reader f_Reader_init f_Reader_at_end f_Reader_take_number f_Reader_take_row C_W f_answer_begin f_answer_put f_answer_flush f_answer_mode f_answer_reset f_answer_take f_answers dC : Addr}
    {t_END t_FLUSH t_STEP t_FIRST_BYTE t_FIRST_NODE t_FIRST_BITS t_FIRST_ESCAPE t_ESCAPE_STEP t_BYTE_VALUES t_ESCAPE_SHORT t_ESCAPE_ITSELF t_ESCAPE_RESET t_OCTET_BITS t_OCTET_VALUES t_DONE t_NO_SENDER_SENDS_IT t_OUT_OF_RANGE t_NOT_NOW t_MORE_THAN_MOST t_LEAST_CODES t_MOST_CODES t_LEAST_LONGEST t_MOST_LONGEST t_MOST_OF_MOST t_TO_PLAIN t_TO_SHORT u0 u1 u2 u3 u4 u5 : Tok} {ep : Nat}
    (a_Tree : PySem.W.nsIn K mainGlobals "Tree" = some (some (.ref C_Tree)))
    (m_Tree_init : PySem.W.findIn K (.ref C_Tree) "__init__" = some (some (.ref f_Tree_init)))
    (i_Tree_init : PySem.W.isFn K (.ref f_Tree_init) = true)
    (e_Tree_init : FnE K "__init__" "Tree.__init__" sTree_init f_Tree_init)
    (m_Tree_copy : PySem.W.findIn K (.ref C_Tree) "copy" = some (some (.ref f_Tree_copy)))
    (i_Tree_copy : PySem.W.isFn K (.ref f_Tree_copy) = true)
    (e_Tree_copy : FnE K "copy" "Tree.copy" sTree_copy f_Tree_copy)
    (m_Tree_find : PySem.W.findIn K (.ref C_Tree) "find" = some (some (.ref f_Tree_find)))
    (i_Tree_find : PySem.W.isFn K (.ref f_Tree_find) = true)
    (e_Tree_find : FnE K "find" "Tree.find" sTree_find f_Tree_find)
    (m_Tree_holds : PySem.W.findIn K (.ref C_Tree) "holds" = some (some (.ref f_Tree_holds)))
    (i_Tree_holds : PySem.W.isFn K (.ref f_Tree_holds) = true)
    (e_Tree_holds : FnE K "holds" "Tree.holds" sTree_holds f_Tree_holds)
    (m_Tree_length_of : PySem.W.findIn K (.ref C_Tree) "length_of" = some (some (.ref f_Tree_length_of)))
    (i_Tree_length_of : PySem.W.isFn K (.ref f_Tree_length_of) = true)
    (e_Tree_length_of : FnE K "length_of" "Tree.length_of" sTree_length_of f_Tree_length_of)
    (m_Tree_bytes_of : PySem.W.findIn K (.ref C_Tree) "bytes_of" = some (some (.ref f_Tree_bytes_of)))
    (i_Tree_bytes_of : PySem.W.isFn K (.ref f_Tree_bytes_of) = true)
    (e_Tree_bytes_of : FnE K "bytes_of" "Tree.bytes_of" sTree_bytes_of f_Tree_bytes_of)
    (m_Tree_add : PySem.W.findIn K (.ref C_Tree) "add" = some (some (.ref f_Tree_add)))
    (i_Tree_add : PySem.W.isFn K (.ref f_Tree_add) = true)
    (e_Tree_add : FnE K "add" "Tree.add" sTree_add f_Tree_add)
    (m_Tree_go_on : PySem.W.findIn K (.ref C_Tree) "go_on" = some (some (.ref f_Tree_go_on)))
    (i_Tree_go_on : PySem.W.isFn K (.ref f_Tree_go_on) = true)
    (e_Tree_go_on : FnE K "go_on" "Tree.go_on" sTree_go_on f_Tree_go_on)
    (m_Tree_number_behind : PySem.W.findIn K (.ref C_Tree) "number_behind" = some (some (.ref f_Tree_number_behind)))
    (i_Tree_number_behind : PySem.W.isFn K (.ref f_Tree_number_behind) = true)
    (e_Tree_number_behind : FnE K "number_behind" "Tree.number_behind" sTree_number_behind f_Tree_number_behind)
    (m_Tree_take_out : PySem.W.findIn K (.ref C_Tree) "take_out" = some (some (.ref f_Tree_take_out)))
    (i_Tree_take_out : PySem.W.isFn K (.ref f_Tree_take_out) = true)
    (e_Tree_take_out : FnE K "take_out" "Tree.take_out" sTree_take_out f_Tree_take_out)
    (c_Tree : ClsF K C_Tree)
    (n_Tree_codes : PySem.W.findIn K (.ref C_Tree) "codes" = some none)
    (n_Tree_longest : PySem.W.findIn K (.ref C_Tree) "longest" = some none)
    (n_Tree_next_node : PySem.W.findIn K (.ref C_Tree) "next_node" = some none)
    (n_Tree_nodes : PySem.W.findIn K (.ref C_Tree) "nodes" = some none)
    (n_Tree_ends : PySem.W.findIn K (.ref C_Tree) "ends" = some none)
    (n_Tree_heirs : PySem.W.findIn K (.ref C_Tree) "heirs" = some none)
    (n_Tree_lengths : PySem.W.findIn K (.ref C_Tree) "lengths" = some none)
    (a_LineEnd : PySem.W.nsIn K mainGlobals "LineEnd" = some (some (.ref C_LineEnd)))
    (m_LineEnd_init : PySem.W.findIn K (.ref C_LineEnd) "__init__" = some (some (.ref f_LineEnd_init)))
    (e_LineEnd_init : FnE K "__init__" "LineEnd.__init__" sLineEnd_init f_LineEnd_init)
    (m_LineEnd_start : PySem.W.findIn K (.ref C_LineEnd) "start" = some (some (.ref f_LineEnd_start)))
    (e_LineEnd_start : FnE K "start" "LineEnd.start" sLineEnd_start f_LineEnd_start)
    (m_LineEnd_start_anew : PySem.W.findIn K (.ref C_LineEnd) "start_anew" = some (some (.ref f_LineEnd_start_anew)))
    (e_LineEnd_start_anew : FnE K "start_anew" "LineEnd.start_anew" sLineEnd_start_anew f_LineEnd_start_anew)
    (m_LineEnd_become_like : PySem.W.findIn K (.ref C_LineEnd) "become_like" = some (some (.ref f_LineEnd_become_like)))
    (e_LineEnd_become_like : FnE K "become_like" "LineEnd.become_like" sLineEnd_become_like f_LineEnd_become_like)
    (m_LineEnd_move_escape : PySem.W.findIn K (.ref C_LineEnd) "move_escape" = some (some (.ref f_LineEnd_move_escape)))
    (e_LineEnd_move_escape : FnE K "move_escape" "LineEnd.move_escape" sLineEnd_move_escape f_LineEnd_move_escape)
    (c1 : PySem.W.specialIn K (.ref C_LineEnd) "__getattribute__" = some (some (.builtin "type.__getattribute__")))
    (c2 : PySem.W.readsIn K C_LineEnd (.type "type") = true)
    (c3 : PySem.W.findCls K (.ref C_LineEnd) (.type "type") "__init__" = some (.val (.ref f_LineEnd_init)))
    (a_Packer : PySem.W.nsIn K mainGlobals "Packer" = some (some (.ref C_Packer)))
    (m_Packer_init : PySem.W.findIn K (.ref C_Packer) "__init__" = some (some (.ref f_Packer_init)))
    (i_Packer_init : PySem.W.isFn K (.ref f_Packer_init) = true)
    (e_Packer_init : FnE K "__init__" "Packer.__init__" sPacker_init f_Packer_init)
    (m_Packer_copy : PySem.W.findIn K (.ref C_Packer) "copy" = some (some (.ref f_Packer_copy)))
    (i_Packer_copy : PySem.W.isFn K (.ref f_Packer_copy) = true)
    (e_Packer_copy : FnE K "copy" "Packer.copy" sPacker_copy f_Packer_copy)
    (m_Packer_push : PySem.W.findIn K (.ref C_Packer) "push" = some (some (.ref f_Packer_push)))
    (i_Packer_push : PySem.W.isFn K (.ref f_Packer_push) = true)
    (e_Packer_push : FnE K "push" "Packer.push" sPacker_push f_Packer_push)
    (m_Packer_fill_up : PySem.W.findIn K (.ref C_Packer) "fill_up" = some (some (.ref f_Packer_fill_up)))
    (i_Packer_fill_up : PySem.W.isFn K (.ref f_Packer_fill_up) = true)
    (e_Packer_fill_up : FnE K "fill_up" "Packer.fill_up" sPacker_fill_up f_Packer_fill_up)
    (m_Packer_hand_over : PySem.W.findIn K (.ref C_Packer) "hand_over" = some (some (.ref f_Packer_hand_over)))
    (i_Packer_hand_over : PySem.W.isFn K (.ref f_Packer_hand_over) = true)
    (e_Packer_hand_over : FnE K "hand_over" "Packer.hand_over" sPacker_hand_over f_Packer_hand_over)
    (c_Packer : ClsF K C_Packer)
    (n_Packer_octets : PySem.W.findIn K (.ref C_Packer) "octets" = some none)
    (n_Packer_rest : PySem.W.findIn K (.ref C_Packer) "rest" = some none)
    (n_Packer_rest_bits : PySem.W.findIn K (.ref C_Packer) "rest_bits" = some none)
    (a_Unpacker : PySem.W.nsIn K mainGlobals "Unpacker" = some (some (.ref C_Unpacker)))
    (m_Unpacker_init : PySem.W.findIn K (.ref C_Unpacker) "__init__" = some (some (.ref f_Unpacker_init)))
    (i_Unpacker_init : PySem.W.isFn K (.ref f_Unpacker_init) = true)
    (e_Unpacker_init : FnE K "__init__" "Unpacker.__init__" sUnpacker_init f_Unpacker_init)
    (m_Unpacker_copy : PySem.W.findIn K (.ref C_Unpacker) "copy" = some (some (.ref f_Unpacker_copy)))
    (i_Unpacker_copy : PySem.W.isFn K (.ref f_Unpacker_copy) = true)
    (e_Unpacker_copy : FnE K "copy" "Unpacker.copy" sUnpacker_copy f_Unpacker_copy)
    (m_Unpacker_push : PySem.W.findIn K (.ref C_Unpacker) "push" = some (some (.ref f_Unpacker_push)))
    (i_Unpacker_push : PySem.W.isFn K (.ref f_Unpacker_push) = true)
    (e_Unpacker_push : FnE K "push" "Unpacker.push" sUnpacker_push f_Unpacker_push)
    (m_Unpacker_pull : PySem.W.findIn K (.ref C_Unpacker) "pull" = some (some (.ref f_Unpacker_pull)))
    (i_Unpacker_pull : PySem.W.isFn K (.ref f_Unpacker_pull) = true)
    (e_Unpacker_pull : FnE K "pull" "Unpacker.pull" sUnpacker_pull f_Unpacker_pull)
    (m_Unpacker_drop_rest : PySem.W.findIn K (.ref C_Unpacker) "drop_rest" = some (some (.ref f_Unpacker_drop_rest)))
    (i_Unpacker_drop_rest : PySem.W.isFn K (.ref f_Unpacker_drop_rest) = true)
    (e_Unpacker_drop_rest : FnE K "drop_rest" "Unpacker.drop_rest" sUnpacker_drop_rest f_Unpacker_drop_rest)
    (c_Unpacker : ClsF K C_Unpacker)
    (n_Unpacker_rest : PySem.W.findIn K (.ref C_Unpacker) "rest" = some none)
    (n_Unpacker_rest_bits : PySem.W.findIn K (.ref C_Unpacker) "rest_bits" = some none)
    (a_Receiver : PySem.W.nsIn K mainGlobals "Receiver" = some (some (.ref C_Receiver)))
    (m_Receiver_init : PySem.W.findIn K (.ref C_Receiver) "__init__" = some (some (.ref f_Receiver_init)))
    (i_Receiver_init : PySem.W.isFn K (.ref f_Receiver_init) = true)
    (e_Receiver_init : FnE K "__init__" "Receiver.__init__" sReceiver_init f_Receiver_init)
    (m_Receiver_copy : PySem.W.findIn K (.ref C_Receiver) "copy" = some (some (.ref f_Receiver_copy)))
    (i_Receiver_copy : PySem.W.isFn K (.ref f_Receiver_copy) = true)
    (e_Receiver_copy : FnE K "copy" "Receiver.copy" sReceiver_copy f_Receiver_copy)
    (m_Receiver_take : PySem.W.findIn K (.ref C_Receiver) "take" = some (some (.ref f_Receiver_take)))
    (i_Receiver_take : PySem.W.isFn K (.ref f_Receiver_take) = true)
    (e_Receiver_take : FnE K "take" "Receiver.take" sReceiver_take f_Receiver_take)
    (m_Receiver_take_plain : PySem.W.findIn K (.ref C_Receiver) "take_plain" = some (some (.ref f_Receiver_take_plain)))
    (i_Receiver_take_plain : PySem.W.isFn K (.ref f_Receiver_take_plain) = true)
    (e_Receiver_take_plain : FnE K "take_plain" "Receiver.take_plain" sReceiver_take_plain f_Receiver_take_plain)
    (m_Receiver_take_meaning : PySem.W.findIn K (.ref C_Receiver) "take_meaning" = some (some (.ref f_Receiver_take_meaning)))
    (i_Receiver_take_meaning : PySem.W.isFn K (.ref f_Receiver_take_meaning) = true)
    (e_Receiver_take_meaning : FnE K "take_meaning" "Receiver.take_meaning" sReceiver_take_meaning f_Receiver_take_meaning)
    (m_Receiver_take_short : PySem.W.findIn K (.ref C_Receiver) "take_short" = some (some (.ref f_Receiver_take_short)))
    (i_Receiver_take_short : PySem.W.isFn K (.ref f_Receiver_take_short) = true)
    (e_Receiver_take_short : FnE K "take_short" "Receiver.take_short" sReceiver_take_short f_Receiver_take_short)
    (m_Receiver_take_step : PySem.W.findIn K (.ref C_Receiver) "take_step" = some (some (.ref f_Receiver_take_step)))
    (i_Receiver_take_step : PySem.W.isFn K (.ref f_Receiver_take_step) = true)
    (e_Receiver_take_step : FnE K "take_step" "Receiver.take_step" sReceiver_take_step f_Receiver_take_step)
    (m_Receiver_end_strings : PySem.W.findIn K (.ref C_Receiver) "end_strings" = some (some (.ref f_Receiver_end_strings)))
    (i_Receiver_end_strings : PySem.W.isFn K (.ref f_Receiver_end_strings) = true)
    (e_Receiver_end_strings : FnE K "end_strings" "Receiver.end_strings" sReceiver_end_strings f_Receiver_end_strings)
    (m_Receiver_take_string : PySem.W.findIn K (.ref C_Receiver) "take_string" = some (some (.ref f_Receiver_take_string)))
    (i_Receiver_take_string : PySem.W.isFn K (.ref f_Receiver_take_string) = true)
    (e_Receiver_take_string : FnE K "take_string" "Receiver.take_string" sReceiver_take_string f_Receiver_take_string)
    (m_Receiver_give_out : PySem.W.findIn K (.ref C_Receiver) "give_out" = some (some (.ref f_Receiver_give_out)))
    (i_Receiver_give_out : PySem.W.isFn K (.ref f_Receiver_give_out) = true)
    (e_Receiver_give_out : FnE K "give_out" "Receiver.give_out" sReceiver_give_out f_Receiver_give_out)
    (c_Receiver : ClsF K C_Receiver)
    (n_Receiver_tree : PySem.W.findIn K (.ref C_Receiver) "tree" = some none)
    (n_Receiver_short : PySem.W.findIn K (.ref C_Receiver) "short" = some none)
    (n_Receiver_escape : PySem.W.findIn K (.ref C_Receiver) "escape" = some none)
    (n_Receiver_bits : PySem.W.findIn K (.ref C_Receiver) "bits" = some none)
    (n_Receiver_unpacker : PySem.W.findIn K (.ref C_Receiver) "unpacker" = some none)
    (n_Receiver_behind_escape : PySem.W.findIn K (.ref C_Receiver) "behind_escape" = some none)
    (n_Receiver_before : PySem.W.findIn K (.ref C_Receiver) "before" = some none)
    (n_Receiver_out : PySem.W.findIn K (.ref C_Receiver) "out" = some none)
    (n_Receiver_most : PySem.W.findIn K (.ref C_Receiver) "most" = some none)
    (a_Sender : PySem.W.nsIn K mainGlobals "Sender" = some (some (.ref C_Sender)))
    (m_Sender_init : PySem.W.findIn K (.ref C_Sender) "__init__" = some (some (.ref f_Sender_init)))
    (i_Sender_init : PySem.W.isFn K (.ref f_Sender_init) = true)
    (e_Sender_init : FnE K "__init__" "Sender.__init__" sSender_init f_Sender_init)
    (m_Sender_copy : PySem.W.findIn K (.ref C_Sender) "copy" = some (some (.ref f_Sender_copy)))
    (i_Sender_copy : PySem.W.isFn K (.ref f_Sender_copy) = true)
    (e_Sender_copy : FnE K "copy" "Sender.copy" sSender_copy f_Sender_copy)
    (m_Sender_put : PySem.W.findIn K (.ref C_Sender) "put" = some (some (.ref f_Sender_put)))
    (i_Sender_put : PySem.W.isFn K (.ref f_Sender_put) = true)
    (e_Sender_put : FnE K "put" "Sender.put" sSender_put f_Sender_put)
    (m_Sender_put_plain : PySem.W.findIn K (.ref C_Sender) "put_plain" = some (some (.ref f_Sender_put_plain)))
    (i_Sender_put_plain : PySem.W.isFn K (.ref f_Sender_put_plain) = true)
    (e_Sender_put_plain : FnE K "put_plain" "Sender.put_plain" sSender_put_plain f_Sender_put_plain)
    (m_Sender_put_short : PySem.W.findIn K (.ref C_Sender) "put_short" = some (some (.ref f_Sender_put_short)))
    (i_Sender_put_short : PySem.W.isFn K (.ref f_Sender_put_short) = true)
    (e_Sender_put_short : FnE K "put_short" "Sender.put_short" sSender_put_short f_Sender_put_short)
    (m_Sender_flush : PySem.W.findIn K (.ref C_Sender) "flush" = some (some (.ref f_Sender_flush)))
    (i_Sender_flush : PySem.W.isFn K (.ref f_Sender_flush) = true)
    (e_Sender_flush : FnE K "flush" "Sender.flush" sSender_flush f_Sender_flush)
    (m_Sender_to_short : PySem.W.findIn K (.ref C_Sender) "to_short" = some (some (.ref f_Sender_to_short)))
    (i_Sender_to_short : PySem.W.isFn K (.ref f_Sender_to_short) = true)
    (e_Sender_to_short : FnE K "to_short" "Sender.to_short" sSender_to_short f_Sender_to_short)
    (m_Sender_to_plain : PySem.W.findIn K (.ref C_Sender) "to_plain" = some (some (.ref f_Sender_to_plain)))
    (i_Sender_to_plain : PySem.W.isFn K (.ref f_Sender_to_plain) = true)
    (e_Sender_to_plain : FnE K "to_plain" "Sender.to_plain" sSender_to_plain f_Sender_to_plain)
    (m_Sender_reset : PySem.W.findIn K (.ref C_Sender) "reset" = some (some (.ref f_Sender_reset)))
    (i_Sender_reset : PySem.W.isFn K (.ref f_Sender_reset) = true)
    (e_Sender_reset : FnE K "reset" "Sender.reset" sSender_reset f_Sender_reset)
    (m_Sender_push_escape : PySem.W.findIn K (.ref C_Sender) "push_escape" = some (some (.ref f_Sender_push_escape)))
    (i_Sender_push_escape : PySem.W.isFn K (.ref f_Sender_push_escape) = true)
    (e_Sender_push_escape : FnE K "push_escape" "Sender.push_escape" sSender_push_escape f_Sender_push_escape)
    (m_Sender_send_string_and_sign : PySem.W.findIn K (.ref C_Sender) "send_string_and_sign" = some (some (.ref f_Sender_send_string_and_sign)))
    (i_Sender_send_string_and_sign : PySem.W.isFn K (.ref f_Sender_send_string_and_sign) = true)
    (e_Sender_send_string_and_sign : FnE K "send_string_and_sign" "Sender.send_string_and_sign" sSender_send_string_and_sign f_Sender_send_string_and_sign)
    (m_Sender_send : PySem.W.findIn K (.ref C_Sender) "send" = some (some (.ref f_Sender_send)))
    (i_Sender_send : PySem.W.isFn K (.ref f_Sender_send) = true)
    (e_Sender_send : FnE K "send" "Sender.send" sSender_send f_Sender_send)
    (c_Sender : ClsF K C_Sender)
    (n_Sender_tree : PySem.W.findIn K (.ref C_Sender) "tree" = some none)
    (n_Sender_short : PySem.W.findIn K (.ref C_Sender) "short" = some none)
    (n_Sender_escape : PySem.W.findIn K (.ref C_Sender) "escape" = some none)
    (n_Sender_bits : PySem.W.findIn K (.ref C_Sender) "bits" = some none)
    (n_Sender_packer : PySem.W.findIn K (.ref C_Sender) "packer" = some none)
    (n_Sender_string : PySem.W.findIn K (.ref C_Sender) "string" = some none)
    (n_Sender_fresh : PySem.W.findIn K (.ref C_Sender) "fresh" = some none)
    (a_Modem : PySem.W.nsIn K mainGlobals "Modem" = some (some (.ref C_Modem)))
    (m_Modem_init : PySem.W.findIn K (.ref C_Modem) "__init__" = some (some (.ref f_Modem_init)))
    (i_Modem_init : PySem.W.isFn K (.ref f_Modem_init) = true)
    (e_Modem_init : FnE K "__init__" "Modem.__init__" sModem_init f_Modem_init)
    (m_Modem_begin : PySem.W.findIn K (.ref C_Modem) "begin" = some (some (.ref f_Modem_begin)))
    (i_Modem_begin : PySem.W.isFn K (.ref f_Modem_begin) = true)
    (e_Modem_begin : FnE K "begin" "Modem.begin" sModem_begin f_Modem_begin)
    (m_Modem_put : PySem.W.findIn K (.ref C_Modem) "put" = some (some (.ref f_Modem_put)))
    (i_Modem_put : PySem.W.isFn K (.ref f_Modem_put) = true)
    (e_Modem_put : FnE K "put" "Modem.put" sModem_put f_Modem_put)
    (m_Modem_flush : PySem.W.findIn K (.ref C_Modem) "flush" = some (some (.ref f_Modem_flush)))
    (i_Modem_flush : PySem.W.isFn K (.ref f_Modem_flush) = true)
    (e_Modem_flush : FnE K "flush" "Modem.flush" sModem_flush f_Modem_flush)
    (m_Modem_mode : PySem.W.findIn K (.ref C_Modem) "mode" = some (some (.ref f_Modem_mode)))
    (i_Modem_mode : PySem.W.isFn K (.ref f_Modem_mode) = true)
    (e_Modem_mode : FnE K "mode" "Modem.mode" sModem_mode f_Modem_mode)
    (m_Modem_reset : PySem.W.findIn K (.ref C_Modem) "reset" = some (some (.ref f_Modem_reset)))
    (i_Modem_reset : PySem.W.isFn K (.ref f_Modem_reset) = true)
    (e_Modem_reset : FnE K "reset" "Modem.reset" sModem_reset f_Modem_reset)
    (m_Modem_settle_sender : PySem.W.findIn K (.ref C_Modem) "settle_sender" = some (some (.ref f_Modem_settle_sender)))
    (i_Modem_settle_sender : PySem.W.isFn K (.ref f_Modem_settle_sender) = true)
    (e_Modem_settle_sender : FnE K "settle_sender" "Modem.settle_sender" sModem_settle_sender f_Modem_settle_sender)
    (m_Modem_take : PySem.W.findIn K (.ref C_Modem) "take" = some (some (.ref f_Modem_take)))
    (i_Modem_take : PySem.W.isFn K (.ref f_Modem_take) = true)
    (e_Modem_take : FnE K "take" "Modem.take" sModem_take f_Modem_take)
    (c_Modem : ClsF K C_Modem)
    (n_Modem_sender : PySem.W.findIn K (.ref C_Modem) "sender" = some none)
    (n_Modem_receiver : PySem.W.findIn K (.ref C_Modem) "receiver" = some none)
    (a_Reader : PySem.W.nsIn K mainGlobals "Reader" = some (some (.ref C_Reader)))
    (m_Reader_init : PySem.W.findIn K (.ref C_Reader) "__init__" = some (some (.ref f_Reader_init)))
    (i_Reader_init : PySem.W.isFn K (.ref f_Reader_init) = true)
    (e_Reader_init : FnE K "__init__" "Reader.__init__" sReader_init f_Reader_init)
    (m_Reader_at_end : PySem.W.findIn K (.ref C_Reader) "at_end" = some (some (.ref f_Reader_at_end)))
    (i_Reader_at_end : PySem.W.isFn K (.ref f_Reader_at_end) = true)
    (e_Reader_at_end : FnE K "at_end" "Reader.at_end" sReader_at_end f_Reader_at_end)
    (m_Reader_take_number : PySem.W.findIn K (.ref C_Reader) "take_number" = some (some (.ref f_Reader_take_number)))
    (i_Reader_take_number : PySem.W.isFn K (.ref f_Reader_take_number) = true)
    (e_Reader_take_number : FnE K "take_number" "Reader.take_number" sReader_take_number f_Reader_take_number)
    (m_Reader_take_row : PySem.W.findIn K (.ref C_Reader) "take_row" = some (some (.ref f_Reader_take_row)))
    (i_Reader_take_row : PySem.W.isFn K (.ref f_Reader_take_row) = true)
    (e_Reader_take_row : FnE K "take_row" "Reader.take_row" sReader_take_row f_Reader_take_row)
    (c_Reader : ClsF K C_Reader)
    (n_Reader_numbers : PySem.W.findIn K (.ref C_Reader) "numbers" = some none)
    (n_Reader_place : PySem.W.findIn K (.ref C_Reader) "place" = some none)
    (h_Receiver_start : PySem.W.findIn K (.ref C_Receiver) "start" = some (some (.ref f_LineEnd_start)))
    (h_Receiver_start_anew : PySem.W.findIn K (.ref C_Receiver) "start_anew" = some (some (.ref f_LineEnd_start_anew)))
    (h_Receiver_become_like : PySem.W.findIn K (.ref C_Receiver) "become_like" = some (some (.ref f_LineEnd_become_like)))
    (h_Receiver_move_escape : PySem.W.findIn K (.ref C_Receiver) "move_escape" = some (some (.ref f_LineEnd_move_escape)))
    (h_Sender_start : PySem.W.findIn K (.ref C_Sender) "start" = some (some (.ref f_LineEnd_start)))
    (h_Sender_start_anew : PySem.W.findIn K (.ref C_Sender) "start_anew" = some (some (.ref f_LineEnd_start_anew)))
    (h_Sender_become_like : PySem.W.findIn K (.ref C_Sender) "become_like" = some (some (.ref f_LineEnd_become_like)))
    (h_Sender_move_escape : PySem.W.findIn K (.ref C_Sender) "move_escape" = some (some (.ref f_LineEnd_move_escape)))
    (hi_start : PySem.W.isFn K (.ref f_LineEnd_start) = true)
    (hi_start_anew : PySem.W.isFn K (.ref f_LineEnd_start_anew) = true)
    (hi_become_like : PySem.W.isFn K (.ref f_LineEnd_become_like) = true)
    (hi_move_escape : PySem.W.isFn K (.ref f_LineEnd_move_escape) = true)
    (a_W : PySem.W.nsIn K mainGlobals "WrongOctets" = some (some (.ref C_W)))
    (x_W : PySem.W.excIn K C_W [.type "Exception", .type "BaseException", .type "object"] "Exception.__new__" = true)
    (a_answer_begin : PySem.W.nsIn K mainGlobals "answer_begin" = some (some (.ref f_answer_begin)))
    (e_answer_begin : FnE K "answer_begin" "answer_begin" s_answer_begin f_answer_begin)
    (a_answer_put : PySem.W.nsIn K mainGlobals "answer_put" = some (some (.ref f_answer_put)))
    (e_answer_put : FnE K "answer_put" "answer_put" s_answer_put f_answer_put)
    (a_answer_flush : PySem.W.nsIn K mainGlobals "answer_flush" = some (some (.ref f_answer_flush)))
    (e_answer_flush : FnE K "answer_flush" "answer_flush" s_answer_flush f_answer_flush)
    (a_answer_mode : PySem.W.nsIn K mainGlobals "answer_mode" = some (some (.ref f_answer_mode)))
    (e_answer_mode : FnE K "answer_mode" "answer_mode" s_answer_mode f_answer_mode)
    (a_answer_reset : PySem.W.nsIn K mainGlobals "answer_reset" = some (some (.ref f_answer_reset)))
    (e_answer_reset : FnE K "answer_reset" "answer_reset" s_answer_reset f_answer_reset)
    (a_answer_take : PySem.W.nsIn K mainGlobals "answer_take" = some (some (.ref f_answer_take)))
    (e_answer_take : FnE K "answer_take" "answer_take" s_answer_take f_answer_take)
    (a_answers : PySem.W.nsIn K mainGlobals "answers" = some (some (.ref f_answers)))
    (e_answers : FnE K "answers" "answers" s_answers f_answers)
    (g_END : PySem.W.nsIn K mainGlobals "END" = some (some (.int (0) t_END)))
    (g_FLUSH : PySem.W.nsIn K mainGlobals "FLUSH" = some (some (.int (1) t_FLUSH)))
    (g_STEP : PySem.W.nsIn K mainGlobals "STEP" = some (some (.int (2) t_STEP)))
    (g_FIRST_BYTE : PySem.W.nsIn K mainGlobals "FIRST_BYTE" = some (some (.int (3) t_FIRST_BYTE)))
    (g_FIRST_NODE : PySem.W.nsIn K mainGlobals "FIRST_NODE" = some (some (.int (259) t_FIRST_NODE)))
    (g_FIRST_BITS : PySem.W.nsIn K mainGlobals "FIRST_BITS" = some (some (.int (9) t_FIRST_BITS)))
    (g_FIRST_ESCAPE : PySem.W.nsIn K mainGlobals "FIRST_ESCAPE" = some (some (.int (0) t_FIRST_ESCAPE)))
    (g_ESCAPE_STEP : PySem.W.nsIn K mainGlobals "ESCAPE_STEP" = some (some (.int (51) t_ESCAPE_STEP)))
    (g_BYTE_VALUES : PySem.W.nsIn K mainGlobals "BYTE_VALUES" = some (some (.int (256) t_BYTE_VALUES)))
    (g_ESCAPE_SHORT : PySem.W.nsIn K mainGlobals "ESCAPE_SHORT" = some (some (.int (0) t_ESCAPE_SHORT)))
    (g_ESCAPE_ITSELF : PySem.W.nsIn K mainGlobals "ESCAPE_ITSELF" = some (some (.int (1) t_ESCAPE_ITSELF)))
    (g_ESCAPE_RESET : PySem.W.nsIn K mainGlobals "ESCAPE_RESET" = some (some (.int (2) t_ESCAPE_RESET)))
    (g_OCTET_BITS : PySem.W.nsIn K mainGlobals "OCTET_BITS" = some (some (.int (8) t_OCTET_BITS)))
    (g_OCTET_VALUES : PySem.W.nsIn K mainGlobals "OCTET_VALUES" = some (some (.int (256) t_OCTET_VALUES)))
    (g_DONE : PySem.W.nsIn K mainGlobals "DONE" = some (some (.int (0) t_DONE)))
    (g_NO_SENDER_SENDS_IT : PySem.W.nsIn K mainGlobals "NO_SENDER_SENDS_IT" = some (some (.int (-1) t_NO_SENDER_SENDS_IT)))
    (g_OUT_OF_RANGE : PySem.W.nsIn K mainGlobals "OUT_OF_RANGE" = some (some (.int (-2) t_OUT_OF_RANGE)))
    (g_NOT_NOW : PySem.W.nsIn K mainGlobals "NOT_NOW" = some (some (.int (-3) t_NOT_NOW)))
    (g_MORE_THAN_MOST : PySem.W.nsIn K mainGlobals "MORE_THAN_MOST" = some (some (.int (-5) t_MORE_THAN_MOST)))
    (g_LEAST_CODES : PySem.W.nsIn K mainGlobals "LEAST_CODES" = some (some (.int (512) t_LEAST_CODES)))
    (g_MOST_CODES : PySem.W.nsIn K mainGlobals "MOST_CODES" = some (some (.int (65536) t_MOST_CODES)))
    (g_LEAST_LONGEST : PySem.W.nsIn K mainGlobals "LEAST_LONGEST" = some (some (.int (6) t_LEAST_LONGEST)))
    (g_MOST_LONGEST : PySem.W.nsIn K mainGlobals "MOST_LONGEST" = some (some (.int (250) t_MOST_LONGEST)))
    (g_MOST_OF_MOST : PySem.W.nsIn K mainGlobals "MOST_OF_MOST" = some (some (.int (16777216) t_MOST_OF_MOST)))
    (g_TO_PLAIN : PySem.W.nsIn K mainGlobals "TO_PLAIN" = some (some (.int (0) t_TO_PLAIN)))
    (g_TO_SHORT : PySem.W.nsIn K mainGlobals "TO_SHORT" = some (some (.int (1) t_TO_SHORT)))
    (b_len : PySem.W.nsIn K mainGlobals "len" = some none)
    (b_dict : PySem.W.nsIn K mainGlobals "dict" = some none)
    (b_list : PySem.W.nsIn K mainGlobals "list" = some none)
    (a_CALLS : PySem.W.nsIn K mainGlobals "CALLS" = some (some (.ref dC)))
    (d_CALLS : K.lookup dC = some ⟨.type "dict", none, .dict #[⟨0, .int 0 u0, .ref f_answer_begin⟩, ⟨1, .int 1 u1, .ref f_answer_put⟩, ⟨2, .int 2 u2, .ref f_answer_flush⟩, ⟨3, .int 3 u3, .ref f_answer_mode⟩, ⟨4, .int 4 u4, .ref f_answer_reset⟩, ⟨5, .int 5 u5, .ref f_answer_take⟩] ep, #[]⟩)
    : ∃ fd : FuncData, (∀ (s : Shared) (u : Value), BindsTo s fd ⟨[u], []⟩ [("calls", u)]) ∧ ∀ base : Heap, K.In base → base.Ns mainGlobals mg → FnOk P w K mg base CX0 10 fa fd ["calls"] (spAnswers K) := by
  have eq := hfa.symm.trans (PySem.W.mg_of X G a_answers)
  cases eq
  obtain ⟨r_Tree_init, rfl⟩ := e_Tree_init.fnr ["self", "codes", "longest"] (fun _ _ _ _ _ _ us hl => match us, hl with | [_, _, _], _ => rfl)
  obtain ⟨r_Tree_copy, rfl⟩ := e_Tree_copy.fnr ["self"] (fun _ _ _ _ _ _ us hl => match us, hl with | [_], _ => rfl)
  obtain ⟨r_Tree_find, rfl⟩ := e_Tree_find.fnr ["self", "number", "byte"] (fun _ _ _ _ _ _ us hl => match us, hl with | [_, _, _], _ => rfl)
  obtain ⟨r_Tree_holds, rfl⟩ := e_Tree_holds.fnr ["self", "number"] (fun _ _ _ _ _ _ us hl => match us, hl with | [_, _], _ => rfl)
  obtain ⟨r_Tree_length_of, rfl⟩ := e_Tree_length_of.fnr ["self", "number"] (fun _ _ _ _ _ _ us hl => match us, hl with | [_, _], _ => rfl)
  obtain ⟨r_Tree_bytes_of, rfl⟩ := e_Tree_bytes_of.fnr ["self", "number"] (fun _ _ _ _ _ _ us hl => match us, hl with | [_, _], _ => rfl)
  obtain ⟨r_Tree_add, rfl⟩ := e_Tree_add.fnr ["self", "number", "byte"] (fun _ _ _ _ _ _ us hl => match us, hl with | [_, _, _], _ => rfl)
  obtain ⟨r_Tree_go_on, rfl⟩ := e_Tree_go_on.fnr ["self"] (fun _ _ _ _ _ _ us hl => match us, hl with | [_], _ => rfl)
  obtain ⟨r_Tree_number_behind, rfl⟩ := e_Tree_number_behind.fnr ["self", "node"] (fun _ _ _ _ _ _ us hl => match us, hl with | [_, _], _ => rfl)
  obtain ⟨r_Tree_take_out, rfl⟩ := e_Tree_take_out.fnr ["self", "node"] (fun _ _ _ _ _ _ us hl => match us, hl with | [_, _], _ => rfl)
  obtain ⟨r_LineEnd_init, rfl⟩ := e_LineEnd_init.fnr ["self", "codes", "longest"] (fun _ _ _ _ _ _ us hl => match us, hl with | [_, _, _], _ => rfl)
  obtain ⟨r_LineEnd_start, rfl⟩ := e_LineEnd_start.fnr ["self", "codes", "longest"] (fun _ _ _ _ _ _ us hl => match us, hl with | [_, _, _], _ => rfl)
  obtain ⟨r_LineEnd_start_anew, rfl⟩ := e_LineEnd_start_anew.fnr ["self"] (fun _ _ _ _ _ _ us hl => match us, hl with | [_], _ => rfl)
  obtain ⟨r_LineEnd_become_like, rfl⟩ := e_LineEnd_become_like.fnr ["self", "other"] (fun _ _ _ _ _ _ us hl => match us, hl with | [_, _], _ => rfl)
  obtain ⟨r_LineEnd_move_escape, rfl⟩ := e_LineEnd_move_escape.fnr ["self"] (fun _ _ _ _ _ _ us hl => match us, hl with | [_], _ => rfl)
  obtain ⟨r_Packer_init, rfl⟩ := e_Packer_init.fnr ["self"] (fun _ _ _ _ _ _ us hl => match us, hl with | [_], _ => rfl)
  obtain ⟨r_Packer_copy, rfl⟩ := e_Packer_copy.fnr ["self"] (fun _ _ _ _ _ _ us hl => match us, hl with | [_], _ => rfl)
  obtain ⟨r_Packer_push, rfl⟩ := e_Packer_push.fnr ["self", "number", "bits"] (fun _ _ _ _ _ _ us hl => match us, hl with | [_, _, _], _ => rfl)
  obtain ⟨r_Packer_fill_up, rfl⟩ := e_Packer_fill_up.fnr ["self"] (fun _ _ _ _ _ _ us hl => match us, hl with | [_], _ => rfl)
  obtain ⟨r_Packer_hand_over, rfl⟩ := e_Packer_hand_over.fnr ["self"] (fun _ _ _ _ _ _ us hl => match us, hl with | [_], _ => rfl)
  obtain ⟨r_Unpacker_init, rfl⟩ := e_Unpacker_init.fnr ["self"] (fun _ _ _ _ _ _ us hl => match us, hl with | [_], _ => rfl)
  obtain ⟨r_Unpacker_copy, rfl⟩ := e_Unpacker_copy.fnr ["self"] (fun _ _ _ _ _ _ us hl => match us, hl with | [_], _ => rfl)
  obtain ⟨r_Unpacker_push, rfl⟩ := e_Unpacker_push.fnr ["self", "octet"] (fun _ _ _ _ _ _ us hl => match us, hl with | [_, _], _ => rfl)
  obtain ⟨r_Unpacker_pull, rfl⟩ := e_Unpacker_pull.fnr ["self", "bits"] (fun _ _ _ _ _ _ us hl => match us, hl with | [_, _], _ => rfl)
  obtain ⟨r_Unpacker_drop_rest, rfl⟩ := e_Unpacker_drop_rest.fnr ["self"] (fun _ _ _ _ _ _ us hl => match us, hl with | [_], _ => rfl)
  obtain ⟨r_Receiver_init, rfl⟩ := e_Receiver_init.fnr ["self", "codes", "longest"] (fun _ _ _ _ _ _ us hl => match us, hl with | [_, _, _], _ => rfl)
  obtain ⟨r_Receiver_copy, rfl⟩ := e_Receiver_copy.fnr ["self"] (fun _ _ _ _ _ _ us hl => match us, hl with | [_], _ => rfl)
  obtain ⟨r_Receiver_take, rfl⟩ := e_Receiver_take.fnr ["self", "row", "most"] (fun _ _ _ _ _ _ us hl => match us, hl with | [_, _, _], _ => rfl)
  obtain ⟨r_Receiver_take_plain, rfl⟩ := e_Receiver_take_plain.fnr ["self", "octet"] (fun _ _ _ _ _ _ us hl => match us, hl with | [_, _], _ => rfl)
  obtain ⟨r_Receiver_take_meaning, rfl⟩ := e_Receiver_take_meaning.fnr ["self", "octet"] (fun _ _ _ _ _ _ us hl => match us, hl with | [_, _], _ => rfl)
  obtain ⟨r_Receiver_take_short, rfl⟩ := e_Receiver_take_short.fnr ["self", "octet"] (fun _ _ _ _ _ _ us hl => match us, hl with | [_, _], _ => rfl)
  obtain ⟨r_Receiver_take_step, rfl⟩ := e_Receiver_take_step.fnr ["self"] (fun _ _ _ _ _ _ us hl => match us, hl with | [_], _ => rfl)
  obtain ⟨r_Receiver_end_strings, rfl⟩ := e_Receiver_end_strings.fnr ["self"] (fun _ _ _ _ _ _ us hl => match us, hl with | [_], _ => rfl)
  obtain ⟨r_Receiver_take_string, rfl⟩ := e_Receiver_take_string.fnr ["self", "number"] (fun _ _ _ _ _ _ us hl => match us, hl with | [_, _], _ => rfl)
  obtain ⟨r_Receiver_give_out, rfl⟩ := e_Receiver_give_out.fnr ["self", "string"] (fun _ _ _ _ _ _ us hl => match us, hl with | [_, _], _ => rfl)
  obtain ⟨r_Sender_init, rfl⟩ := e_Sender_init.fnr ["self", "codes", "longest"] (fun _ _ _ _ _ _ us hl => match us, hl with | [_, _, _], _ => rfl)
  obtain ⟨r_Sender_copy, rfl⟩ := e_Sender_copy.fnr ["self"] (fun _ _ _ _ _ _ us hl => match us, hl with | [_], _ => rfl)
  obtain ⟨r_Sender_put, rfl⟩ := e_Sender_put.fnr ["self", "row"] (fun _ _ _ _ _ _ us hl => match us, hl with | [_, _], _ => rfl)
  obtain ⟨r_Sender_put_plain, rfl⟩ := e_Sender_put_plain.fnr ["self", "byte"] (fun _ _ _ _ _ _ us hl => match us, hl with | [_, _], _ => rfl)
  obtain ⟨r_Sender_put_short, rfl⟩ := e_Sender_put_short.fnr ["self", "byte"] (fun _ _ _ _ _ _ us hl => match us, hl with | [_, _], _ => rfl)
  obtain ⟨r_Sender_flush, rfl⟩ := e_Sender_flush.fnr ["self"] (fun _ _ _ _ _ _ us hl => match us, hl with | [_], _ => rfl)
  obtain ⟨r_Sender_to_short, rfl⟩ := e_Sender_to_short.fnr ["self"] (fun _ _ _ _ _ _ us hl => match us, hl with | [_], _ => rfl)
  obtain ⟨r_Sender_to_plain, rfl⟩ := e_Sender_to_plain.fnr ["self"] (fun _ _ _ _ _ _ us hl => match us, hl with | [_], _ => rfl)
  obtain ⟨r_Sender_reset, rfl⟩ := e_Sender_reset.fnr ["self"] (fun _ _ _ _ _ _ us hl => match us, hl with | [_], _ => rfl)
  obtain ⟨r_Sender_push_escape, rfl⟩ := e_Sender_push_escape.fnr ["self", "meaning"] (fun _ _ _ _ _ _ us hl => match us, hl with | [_, _], _ => rfl)
  obtain ⟨r_Sender_send_string_and_sign, rfl⟩ := e_Sender_send_string_and_sign.fnr ["self", "sign"] (fun _ _ _ _ _ _ us hl => match us, hl with | [_, _], _ => rfl)
  obtain ⟨r_Sender_send, rfl⟩ := e_Sender_send.fnr ["self", "number"] (fun _ _ _ _ _ _ us hl => match us, hl with | [_, _], _ => rfl)
  obtain ⟨r_Modem_init, rfl⟩ := e_Modem_init.fnr ["self"] (fun _ _ _ _ _ _ us hl => match us, hl with | [_], _ => rfl)
  obtain ⟨r_Modem_begin, rfl⟩ := e_Modem_begin.fnr ["self", "codes", "longest"] (fun _ _ _ _ _ _ us hl => match us, hl with | [_, _, _], _ => rfl)
  obtain ⟨r_Modem_put, rfl⟩ := e_Modem_put.fnr ["self", "most", "row"] (fun _ _ _ _ _ _ us hl => match us, hl with | [_, _, _], _ => rfl)
  obtain ⟨r_Modem_flush, rfl⟩ := e_Modem_flush.fnr ["self", "most"] (fun _ _ _ _ _ _ us hl => match us, hl with | [_, _], _ => rfl)
  obtain ⟨r_Modem_mode, rfl⟩ := e_Modem_mode.fnr ["self", "compressed", "most"] (fun _ _ _ _ _ _ us hl => match us, hl with | [_, _, _], _ => rfl)
  obtain ⟨r_Modem_reset, rfl⟩ := e_Modem_reset.fnr ["self", "most"] (fun _ _ _ _ _ _ us hl => match us, hl with | [_, _], _ => rfl)
  obtain ⟨r_Modem_settle_sender, rfl⟩ := e_Modem_settle_sender.fnr ["self", "trial", "octets", "most"] (fun _ _ _ _ _ _ us hl => match us, hl with | [_, _, _, _], _ => rfl)
  obtain ⟨r_Modem_take, rfl⟩ := e_Modem_take.fnr ["self", "most", "row"] (fun _ _ _ _ _ _ us hl => match us, hl with | [_, _, _], _ => rfl)
  obtain ⟨r_Reader_init, rfl⟩ := e_Reader_init.fnr ["self", "numbers"] (fun _ _ _ _ _ _ us hl => match us, hl with | [_, _], _ => rfl)
  obtain ⟨r_Reader_at_end, rfl⟩ := e_Reader_at_end.fnr ["self"] (fun _ _ _ _ _ _ us hl => match us, hl with | [_], _ => rfl)
  obtain ⟨r_Reader_take_number, rfl⟩ := e_Reader_take_number.fnr ["self"] (fun _ _ _ _ _ _ us hl => match us, hl with | [_], _ => rfl)
  obtain ⟨r_Reader_take_row, rfl⟩ := e_Reader_take_row.fnr ["self"] (fun _ _ _ _ _ _ us hl => match us, hl with | [_], _ => rfl)
  obtain ⟨r_answer_begin, rfl⟩ := e_answer_begin.fnr ["modem", "reader"] (fun _ _ _ _ _ _ us hl => match us, hl with | [_, _], _ => rfl)
  obtain ⟨r_answer_put, rfl⟩ := e_answer_put.fnr ["modem", "reader"] (fun _ _ _ _ _ _ us hl => match us, hl with | [_, _], _ => rfl)
  obtain ⟨r_answer_flush, rfl⟩ := e_answer_flush.fnr ["modem", "reader"] (fun _ _ _ _ _ _ us hl => match us, hl with | [_, _], _ => rfl)
  obtain ⟨r_answer_mode, rfl⟩ := e_answer_mode.fnr ["modem", "reader"] (fun _ _ _ _ _ _ us hl => match us, hl with | [_, _], _ => rfl)
  obtain ⟨r_answer_reset, rfl⟩ := e_answer_reset.fnr ["modem", "reader"] (fun _ _ _ _ _ _ us hl => match us, hl with | [_, _], _ => rfl)
  obtain ⟨r_answer_take, rfl⟩ := e_answer_take.fnr ["modem", "reader"] (fun _ _ _ _ _ _ us hl => match us, hl with | [_, _], _ => rfl)
  obtain ⟨oc, od, an, osl, kV, doc, pm, cdv, ct, l, c, k⟩ := e_answers
  let T_Tree : TreeTx K mg := { C := C_Tree, at_ := PySem.W.mg_of X G a_Tree, init_ := r_Tree_init, copy_ := r_Tree_copy, find_ := r_Tree_find, holds_ := r_Tree_holds, length_of_ := r_Tree_length_of, bytes_of_ := r_Tree_bytes_of, add_ := r_Tree_add, go_on_ := r_Tree_go_on, number_behind_ := r_Tree_number_behind, take_out_ := r_Tree_take_out, cl := ⟨c_Tree.pg, c_Tree.hd, c_Tree.po, c_Tree.sa⟩, mak := ⟨c_Tree.mx, m_Tree_init, i_Tree_init, c_Tree.kc⟩, n_codes := n_Tree_codes, n_longest := n_Tree_longest, n_next_node := n_Tree_next_node, n_nodes := n_Tree_nodes, n_ends := n_Tree_ends, n_heirs := n_Tree_heirs, n_lengths := n_Tree_lengths, m_copy := ⟨m_Tree_copy, i_Tree_copy, r_Tree_copy.F.kp⟩, m_find := ⟨m_Tree_find, i_Tree_find, r_Tree_find.F.kp⟩, m_holds := ⟨m_Tree_holds, i_Tree_holds, r_Tree_holds.F.kp⟩, m_length_of := ⟨m_Tree_length_of, i_Tree_length_of, r_Tree_length_of.F.kp⟩, m_bytes_of := ⟨m_Tree_bytes_of, i_Tree_bytes_of, r_Tree_bytes_of.F.kp⟩, m_add := ⟨m_Tree_add, i_Tree_add, r_Tree_add.F.kp⟩, m_go_on := ⟨m_Tree_go_on, i_Tree_go_on, r_Tree_go_on.F.kp⟩, m_number_behind := ⟨m_Tree_number_behind, i_Tree_number_behind, r_Tree_number_behind.F.kp⟩, m_take_out := ⟨m_Tree_take_out, i_Tree_take_out, r_Tree_take_out.F.kp⟩ }
  let T_LineEnd : LineEndTx K mg := { C := C_LineEnd, at_ := PySem.W.mg_of X G a_LineEnd, init_ := r_LineEnd_init, start_ := r_LineEnd_start, start_anew_ := r_LineEnd_start_anew, become_like_ := r_LineEnd_become_like, move_escape_ := r_LineEnd_move_escape, cm := ⟨c1, c2, c3, r_LineEnd_init.F.kp⟩ }
  let T_Packer : PackerTx K mg := { C := C_Packer, at_ := PySem.W.mg_of X G a_Packer, init_ := r_Packer_init, copy_ := r_Packer_copy, push_ := r_Packer_push, fill_up_ := r_Packer_fill_up, hand_over_ := r_Packer_hand_over, cl := ⟨c_Packer.pg, c_Packer.hd, c_Packer.po, c_Packer.sa⟩, mak := ⟨c_Packer.mx, m_Packer_init, i_Packer_init, c_Packer.kc⟩, n_octets := n_Packer_octets, n_rest := n_Packer_rest, n_rest_bits := n_Packer_rest_bits, m_copy := ⟨m_Packer_copy, i_Packer_copy, r_Packer_copy.F.kp⟩, m_push := ⟨m_Packer_push, i_Packer_push, r_Packer_push.F.kp⟩, m_fill_up := ⟨m_Packer_fill_up, i_Packer_fill_up, r_Packer_fill_up.F.kp⟩, m_hand_over := ⟨m_Packer_hand_over, i_Packer_hand_over, r_Packer_hand_over.F.kp⟩ }
  let T_Unpacker : UnpackerTx K mg := { C := C_Unpacker, at_ := PySem.W.mg_of X G a_Unpacker, init_ := r_Unpacker_init, copy_ := r_Unpacker_copy, push_ := r_Unpacker_push, pull_ := r_Unpacker_pull, drop_rest_ := r_Unpacker_drop_rest, cl := ⟨c_Unpacker.pg, c_Unpacker.hd, c_Unpacker.po, c_Unpacker.sa⟩, mak := ⟨c_Unpacker.mx, m_Unpacker_init, i_Unpacker_init, c_Unpacker.kc⟩, n_rest := n_Unpacker_rest, n_rest_bits := n_Unpacker_rest_bits, m_copy := ⟨m_Unpacker_copy, i_Unpacker_copy, r_Unpacker_copy.F.kp⟩, m_push := ⟨m_Unpacker_push, i_Unpacker_push, r_Unpacker_push.F.kp⟩, m_pull := ⟨m_Unpacker_pull, i_Unpacker_pull, r_Unpacker_pull.F.kp⟩, m_drop_rest := ⟨m_Unpacker_drop_rest, i_Unpacker_drop_rest, r_Unpacker_drop_rest.F.kp⟩ }
  let T_Receiver : ReceiverTx K mg := { C := C_Receiver, at_ := PySem.W.mg_of X G a_Receiver, init_ := r_Receiver_init, copy_ := r_Receiver_copy, take_ := r_Receiver_take, take_plain_ := r_Receiver_take_plain, take_meaning_ := r_Receiver_take_meaning, take_short_ := r_Receiver_take_short, take_step_ := r_Receiver_take_step, end_strings_ := r_Receiver_end_strings, take_string_ := r_Receiver_take_string, give_out_ := r_Receiver_give_out, cl := ⟨c_Receiver.pg, c_Receiver.hd, c_Receiver.po, c_Receiver.sa⟩, mak := ⟨c_Receiver.mx, m_Receiver_init, i_Receiver_init, c_Receiver.kc⟩, n_tree := n_Receiver_tree, n_short := n_Receiver_short, n_escape := n_Receiver_escape, n_bits := n_Receiver_bits, n_unpacker := n_Receiver_unpacker, n_behind_escape := n_Receiver_behind_escape, n_before := n_Receiver_before, n_out := n_Receiver_out, n_most := n_Receiver_most, m_copy := ⟨m_Receiver_copy, i_Receiver_copy, r_Receiver_copy.F.kp⟩, m_take := ⟨m_Receiver_take, i_Receiver_take, r_Receiver_take.F.kp⟩, m_take_plain := ⟨m_Receiver_take_plain, i_Receiver_take_plain, r_Receiver_take_plain.F.kp⟩, m_take_meaning := ⟨m_Receiver_take_meaning, i_Receiver_take_meaning, r_Receiver_take_meaning.F.kp⟩, m_take_short := ⟨m_Receiver_take_short, i_Receiver_take_short, r_Receiver_take_short.F.kp⟩, m_take_step := ⟨m_Receiver_take_step, i_Receiver_take_step, r_Receiver_take_step.F.kp⟩, m_end_strings := ⟨m_Receiver_end_strings, i_Receiver_end_strings, r_Receiver_end_strings.F.kp⟩, m_take_string := ⟨m_Receiver_take_string, i_Receiver_take_string, r_Receiver_take_string.F.kp⟩, m_give_out := ⟨m_Receiver_give_out, i_Receiver_give_out, r_Receiver_give_out.F.kp⟩ }
  let T_Sender : SenderTx K mg := { C := C_Sender, at_ := PySem.W.mg_of X G a_Sender, init_ := r_Sender_init, copy_ := r_Sender_copy, put_ := r_Sender_put, put_plain_ := r_Sender_put_plain, put_short_ := r_Sender_put_short, flush_ := r_Sender_flush, to_short_ := r_Sender_to_short, to_plain_ := r_Sender_to_plain, reset_ := r_Sender_reset, push_escape_ := r_Sender_push_escape, send_string_and_sign_ := r_Sender_send_string_and_sign, send_ := r_Sender_send, cl := ⟨c_Sender.pg, c_Sender.hd, c_Sender.po, c_Sender.sa⟩, mak := ⟨c_Sender.mx, m_Sender_init, i_Sender_init, c_Sender.kc⟩, n_tree := n_Sender_tree, n_short := n_Sender_short, n_escape := n_Sender_escape, n_bits := n_Sender_bits, n_packer := n_Sender_packer, n_string := n_Sender_string, n_fresh := n_Sender_fresh, m_copy := ⟨m_Sender_copy, i_Sender_copy, r_Sender_copy.F.kp⟩, m_put := ⟨m_Sender_put, i_Sender_put, r_Sender_put.F.kp⟩, m_put_plain := ⟨m_Sender_put_plain, i_Sender_put_plain, r_Sender_put_plain.F.kp⟩, m_put_short := ⟨m_Sender_put_short, i_Sender_put_short, r_Sender_put_short.F.kp⟩, m_flush := ⟨m_Sender_flush, i_Sender_flush, r_Sender_flush.F.kp⟩, m_to_short := ⟨m_Sender_to_short, i_Sender_to_short, r_Sender_to_short.F.kp⟩, m_to_plain := ⟨m_Sender_to_plain, i_Sender_to_plain, r_Sender_to_plain.F.kp⟩, m_reset := ⟨m_Sender_reset, i_Sender_reset, r_Sender_reset.F.kp⟩, m_push_escape := ⟨m_Sender_push_escape, i_Sender_push_escape, r_Sender_push_escape.F.kp⟩, m_send_string_and_sign := ⟨m_Sender_send_string_and_sign, i_Sender_send_string_and_sign, r_Sender_send_string_and_sign.F.kp⟩, m_send := ⟨m_Sender_send, i_Sender_send, r_Sender_send.F.kp⟩ }
  let T_Modem : ModemTx K mg := { C := C_Modem, at_ := PySem.W.mg_of X G a_Modem, init_ := r_Modem_init, begin_ := r_Modem_begin, put_ := r_Modem_put, flush_ := r_Modem_flush, mode_ := r_Modem_mode, reset_ := r_Modem_reset, settle_sender_ := r_Modem_settle_sender, take_ := r_Modem_take, cl := ⟨c_Modem.pg, c_Modem.hd, c_Modem.po, c_Modem.sa⟩, mak := ⟨c_Modem.mx, m_Modem_init, i_Modem_init, c_Modem.kc⟩, n_sender := n_Modem_sender, n_receiver := n_Modem_receiver, m_begin := ⟨m_Modem_begin, i_Modem_begin, r_Modem_begin.F.kp⟩, m_put := ⟨m_Modem_put, i_Modem_put, r_Modem_put.F.kp⟩, m_flush := ⟨m_Modem_flush, i_Modem_flush, r_Modem_flush.F.kp⟩, m_mode := ⟨m_Modem_mode, i_Modem_mode, r_Modem_mode.F.kp⟩, m_reset := ⟨m_Modem_reset, i_Modem_reset, r_Modem_reset.F.kp⟩, m_settle_sender := ⟨m_Modem_settle_sender, i_Modem_settle_sender, r_Modem_settle_sender.F.kp⟩, m_take := ⟨m_Modem_take, i_Modem_take, r_Modem_take.F.kp⟩ }
  let T_Reader : ReaderTx K mg := { C := C_Reader, at_ := PySem.W.mg_of X G a_Reader, init_ := r_Reader_init, at_end_ := r_Reader_at_end, take_number_ := r_Reader_take_number, take_row_ := r_Reader_take_row, cl := ⟨c_Reader.pg, c_Reader.hd, c_Reader.po, c_Reader.sa⟩, mak := ⟨c_Reader.mx, m_Reader_init, i_Reader_init, c_Reader.kc⟩, n_numbers := n_Reader_numbers, n_place := n_Reader_place, m_at_end := ⟨m_Reader_at_end, i_Reader_at_end, r_Reader_at_end.F.kp⟩, m_take_number := ⟨m_Reader_take_number, i_Reader_take_number, r_Reader_take_number.F.kp⟩, m_take_row := ⟨m_Reader_take_row, i_Reader_take_row, r_Reader_take_row.F.kp⟩ }
  let T : PT K mg := { tree := T_Tree, lineEnd := T_LineEnd, packer := T_Packer, unpacker := T_Unpacker, receiver := T_Receiver, sender := T_Sender, modem := T_Modem, reader := T_Reader, receiver_start := ⟨h_Receiver_start, hi_start, r_LineEnd_start.F.kp⟩, receiver_start_anew := ⟨h_Receiver_start_anew, hi_start_anew, r_LineEnd_start_anew.F.kp⟩, receiver_become_like := ⟨h_Receiver_become_like, hi_become_like, r_LineEnd_become_like.F.kp⟩, receiver_move_escape := ⟨h_Receiver_move_escape, hi_move_escape, r_LineEnd_move_escape.F.kp⟩, sender_start := ⟨h_Sender_start, hi_start, r_LineEnd_start.F.kp⟩, sender_start_anew := ⟨h_Sender_start_anew, hi_start_anew, r_LineEnd_start_anew.F.kp⟩, sender_become_like := ⟨h_Sender_become_like, hi_become_like, r_LineEnd_become_like.F.kp⟩, sender_move_escape := ⟨h_Sender_move_escape, hi_move_escape, r_LineEnd_move_escape.F.kp⟩, xC := C_W, exc := ⟨PySem.W.mg_of X G a_W, x_W⟩, g_END := ⟨_, PySem.W.mg_of X G g_END⟩, g_FLUSH := ⟨_, PySem.W.mg_of X G g_FLUSH⟩, g_STEP := ⟨_, PySem.W.mg_of X G g_STEP⟩, g_FIRST_BYTE := ⟨_, PySem.W.mg_of X G g_FIRST_BYTE⟩, g_FIRST_NODE := ⟨_, PySem.W.mg_of X G g_FIRST_NODE⟩, g_FIRST_BITS := ⟨_, PySem.W.mg_of X G g_FIRST_BITS⟩, g_FIRST_ESCAPE := ⟨_, PySem.W.mg_of X G g_FIRST_ESCAPE⟩, g_ESCAPE_STEP := ⟨_, PySem.W.mg_of X G g_ESCAPE_STEP⟩, g_BYTE_VALUES := ⟨_, PySem.W.mg_of X G g_BYTE_VALUES⟩, g_ESCAPE_SHORT := ⟨_, PySem.W.mg_of X G g_ESCAPE_SHORT⟩, g_ESCAPE_ITSELF := ⟨_, PySem.W.mg_of X G g_ESCAPE_ITSELF⟩, g_ESCAPE_RESET := ⟨_, PySem.W.mg_of X G g_ESCAPE_RESET⟩, g_OCTET_BITS := ⟨_, PySem.W.mg_of X G g_OCTET_BITS⟩, g_OCTET_VALUES := ⟨_, PySem.W.mg_of X G g_OCTET_VALUES⟩, g_DONE := ⟨_, PySem.W.mg_of X G g_DONE⟩, g_NO_SENDER_SENDS_IT := ⟨_, PySem.W.mg_of X G g_NO_SENDER_SENDS_IT⟩, g_OUT_OF_RANGE := ⟨_, PySem.W.mg_of X G g_OUT_OF_RANGE⟩, g_NOT_NOW := ⟨_, PySem.W.mg_of X G g_NOT_NOW⟩, g_MORE_THAN_MOST := ⟨_, PySem.W.mg_of X G g_MORE_THAN_MOST⟩, g_LEAST_CODES := ⟨_, PySem.W.mg_of X G g_LEAST_CODES⟩, g_MOST_CODES := ⟨_, PySem.W.mg_of X G g_MOST_CODES⟩, g_LEAST_LONGEST := ⟨_, PySem.W.mg_of X G g_LEAST_LONGEST⟩, g_MOST_LONGEST := ⟨_, PySem.W.mg_of X G g_MOST_LONGEST⟩, g_MOST_OF_MOST := ⟨_, PySem.W.mg_of X G g_MOST_OF_MOST⟩, g_TO_PLAIN := ⟨_, PySem.W.mg_of X G g_TO_PLAIN⟩, g_TO_SHORT := ⟨_, PySem.W.mg_of X G g_TO_SHORT⟩, b_len := PySem.W.mg_none_of X G b_len, b_dict := PySem.W.mg_none_of X G b_dict, b_list := PySem.W.mg_none_of X G b_list, dCalls := dC, calls_ := PySem.W.mg_of X G a_CALLS }
  let r_answers : FnR K "answers" "answers" s_answers ["calls"] := SL.fnr ["calls"] l c k (fun _ _ _ _ _ _ us hl => match us, hl with | [_], _ => rfl)
  let D : DT K mg T := ⟨{ answer_begin_ := r_answer_begin, at_answer_begin := PySem.W.mg_of X G a_answer_begin, answer_put_ := r_answer_put, at_answer_put := PySem.W.mg_of X G a_answer_put, answer_flush_ := r_answer_flush, at_answer_flush := PySem.W.mg_of X G a_answer_flush, answer_mode_ := r_answer_mode, at_answer_mode := PySem.W.mg_of X G a_answer_mode, answer_reset_ := r_answer_reset, at_answer_reset := PySem.W.mg_of X G a_answer_reset, answer_take_ := r_answer_take, at_answer_take := PySem.W.mg_of X G a_answer_take, answers_ := r_answers, at_answers := PySem.W.mg_of X G a_answers }, calls_dict d_CALLS⟩
  exact ⟨_, fun s u => .of_eq rfl, fun base _ _ => ok_answers T D⟩
end SL
namespace SL
open PySem PySem.W
abbrev RW : OpenSpec := PySem.Challenge.rw_shortline_s01_answers
theorem said : RW.wellSaid = true := by decide +kernel
theorem hpr (as : List WData) (h : RW.pre as = true) : ∃ ns : List Int, as = [.list (ns.map WData.int)] ∧ ns.length ≤ 30000 ∧ (∀ z ∈ ns, 0 ≤ z ∧ z ≤ 4294967295) ∧ PyQl65.answers_asked ns = true := by
  obtain ⟨⟨ns, u⟩, h1, h2, e⟩ := (OpenSpec.pre_iff said as).mp h
  have h1 : (Codec.inList 0 30000 (Codec.inInt 0 4294967295) ns && true) = true := h1
  rw [Bool.and_true] at h1
  have h1 := Codec.and_of h1
  refine ⟨ns, e, ?_, ?_, h2⟩
  · exact (Codec.inNat_iff.mp h1.1).2
  · intro z hz
    exact Codec.inInt_iff.mp (List.all_eq_true.mp h1.2 z hz)
theorem hpo (ns : List Int) (h : RW.pre [.list (ns.map WData.int)] = true) : RW.post [.list (ns.map WData.int)] (.list ((PyQl65.answers ns).map WData.int)) = true := by
  obtain ⟨⟨ms, u⟩, h1, h2, e⟩ := (OpenSpec.pre_iff said _).mp h
  have e' : [WData.list (ns.map WData.int)] = [WData.list (ms.map WData.int)] := e
  have em : ns = ms := Codec.map_inj WData.int (fun _ _ z => WData.int.inj z) _ _ (WData.list.inj (List.cons.inj e').1)
  subst em
  exact (OpenSpec.post_iff said h1 (.list ((PyQl65.answers ns).map WData.int)) []).mpr rfl
open L2 in
theorem walk {q : Program} {loose : List Str} {XP : (Str → Option Value) → Heap → Prop} {YP : World → Heap → Prop} {d : DefRec} {K : Params → PySem.W.Frag} (hdf : d.params.defaults = [])
    (hY : ∀ (w : World) (h : Heap), YP w h → (K w.params).In h)
    (F : ∀ (w : World) (mg : Str → Option Value) (fa : Addr) (h : Heap), (K w.params).In h → h.Ns mainGlobals mg → mg d.name = some (.ref fa) →
      ∃ fd : FuncData, (∀ (s : Shared) (u : Value), BindsTo s fd ⟨[u], []⟩ [("calls", u)]) ∧ ∀ base : Heap, (K w.params).In base → base.Ns mainGlobals mg → FnOk RW.prog w (K w.params) mg base CX0 10 fa fd ["calls"] (spAnswers (K w.params))) :
    PySem.W.WalkOS q loose XP YP RW d [] (fun f vs => PySem.call f vs) :=
  L2.walk_spec (most := 30000) (lo := 0) (hi := 4294967295) (k := 10) (x := "calls") (sp := fun w => spAnswers (K w.params)) PyQl65.answers PyQl65.answers_asked said hpr hpo (by decide) hdf ⟨rfl, by decide, by decide⟩ hY F (fun w H a ns hl hz ha hS => ⟨a, ns, rfl, hS, hl, ha, fun p H' h => ⟨p, rfl, h⟩⟩)
end SL
def PySem.W.Fast.tw17343949163346745691 : Nat := 0
def PySem.W.Fast.tw5569462253043518998 : Nat := 0
def PySem.W.Fast.tw8619211660107571457 : Nat := 0
def PySem.W.Fast.tw15531478731162702144 : Nat := 0
def PySem.W.Fast.tw1234792902830191913 : Nat := 0
def PySem.W.Fast.tw2395702668970000826 : Nat := 0
def PySem.W.Fast.tw18263492499691516997 : Nat := 0
def PySem.W.Fast.tw7971270582964272004 : Nat := 0
def PySem.W.Fast.tw2378368211542858399 : Nat := 0
def PySem.W.Fast.tw6515551995880415842 : Nat := 0
def PySem.W.Fast.tw14762802422284972724 : Nat := 0
def PySem.W.Fast.tw2115162622840560458 : Nat := 0
def PySem.W.Fast.tw13761358265545989665 : Nat := 0
def PySem.W.Fast.tw11214307645082255292 : Nat := 0
def PySem.W.Fast.tw14344629902194977917 : Nat := 0
open PySem PySem.W PyProof.Rows
set_option maxRecDepth 100000 in
set_option maxHeartbeats 0 in
theorem PySem.Challenge.cw_shortline_s01_answers_holds : PySem.Challenge.rw_shortline_s01_answers.Holds := by
  w_on; k_headS; (case hw => exact ⟨[.list [.int 0, .int 512, .int 6]], by decide +kernel, by decide +kernel⟩)
  k_fillS
  refine SL.walk rfl (fun w h Y => PySem.W.kIn_of Y) ?F
  case F =>
    intro w mg fa h KX G hmg
    refine' SL.all_mk KX G hmg ?a_Tree ?m_Tree_init ?i_Tree_init ?e_Tree_init ?m_Tree_copy ?i_Tree_copy ?e_Tree_copy ?m_Tree_find ?i_Tree_find ?e_Tree_find ?m_Tree_holds ?i_Tree_holds ?e_Tree_holds ?m_Tree_length_of ?i_Tree_length_of ?e_Tree_length_of ?m_Tree_bytes_of ?i_Tree_bytes_of ?e_Tree_bytes_of ?m_Tree_add ?i_Tree_add ?e_Tree_add ?m_Tree_go_on ?i_Tree_go_on ?e_Tree_go_on ?m_Tree_number_behind ?i_Tree_number_behind ?e_Tree_number_behind ?m_Tree_take_out ?i_Tree_take_out ?e_Tree_take_out ?c_Tree ?n_Tree_codes ?n_Tree_longest ?n_Tree_next_node ?n_Tree_nodes ?n_Tree_ends ?n_Tree_heirs ?n_Tree_lengths ?a_LineEnd ?m_LineEnd_init ?e_LineEnd_init ?m_LineEnd_start ?e_LineEnd_start ?m_LineEnd_start_anew ?e_LineEnd_start_anew ?m_LineEnd_become_like ?e_LineEnd_become_like ?m_LineEnd_move_escape ?e_LineEnd_move_escape ?c1 ?c2 ?c3 ?a_Packer ?m_Packer_init ?i_Packer_init ?e_Packer_init ?m_Packer_copy ?i_Packer_copy ?e_Packer_copy ?m_Packer_push ?i_Packer_push ?e_Packer_push ?m_Packer_fill_up ?i_Packer_fill_up ?e_Packer_fill_up ?m_Packer_hand_over ?i_Packer_hand_over ?e_Packer_hand_over ?c_Packer ?n_Packer_octets ?n_Packer_rest ?n_Packer_rest_bits ?a_Unpacker ?m_Unpacker_init ?i_Unpacker_init ?e_Unpacker_init ?m_Unpacker_copy ?i_Unpacker_copy ?e_Unpacker_copy ?m_Unpacker_push ?i_Unpacker_push ?e_Unpacker_push ?m_Unpacker_pull ?i_Unpacker_pull ?e_Unpacker_pull ?m_Unpacker_drop_rest ?i_Unpacker_drop_rest ?e_Unpacker_drop_rest ?c_Unpacker ?n_Unpacker_rest ?n_Unpacker_rest_bits ?a_Receiver ?m_Receiver_init ?i_Receiver_init ?e_Receiver_init ?m_Receiver_copy ?i_Receiver_copy ?e_Receiver_copy ?m_Receiver_take ?i_Receiver_take ?e_Receiver_take ?m_Receiver_take_plain ?i_Receiver_take_plain ?e_Receiver_take_plain ?m_Receiver_take_meaning ?i_Receiver_take_meaning ?e_Receiver_take_meaning ?m_Receiver_take_short ?i_Receiver_take_short ?e_Receiver_take_short ?m_Receiver_take_step ?i_Receiver_take_step ?e_Receiver_take_step ?m_Receiver_end_strings ?i_Receiver_end_strings ?e_Receiver_end_strings ?m_Receiver_take_string ?i_Receiver_take_string ?e_Receiver_take_string ?m_Receiver_give_out ?i_Receiver_give_out ?e_Receiver_give_out ?c_Receiver ?n_Receiver_tree ?n_Receiver_short ?n_Receiver_escape ?n_Receiver_bits ?n_Receiver_unpacker ?n_Receiver_behind_escape ?n_Receiver_before ?n_Receiver_out ?n_Receiver_most ?a_Sender ?m_Sender_init ?i_Sender_init ?e_Sender_init ?m_Sender_copy ?i_Sender_copy ?e_Sender_copy ?m_Sender_put ?i_Sender_put ?e_Sender_put ?m_Sender_put_plain ?i_Sender_put_plain ?e_Sender_put_plain ?m_Sender_put_short ?i_Sender_put_short ?e_Sender_put_short ?m_Sender_flush ?i_Sender_flush ?e_Sender_flush ?m_Sender_to_short ?i_Sender_to_short ?e_Sender_to_short ?m_Sender_to_plain ?i_Sender_to_plain ?e_Sender_to_plain ?m_Sender_reset ?i_Sender_reset ?e_Sender_reset ?m_Sender_push_escape ?i_Sender_push_escape ?e_Sender_push_escape ?m_Sender_send_string_and_sign ?i_Sender_send_string_and_sign ?e_Sender_send_string_and_sign ?m_Sender_send ?i_Sender_send ?e_Sender_send ?c_Sender ?n_Sender_tree ?n_Sender_short ?n_Sender_escape ?n_Sender_bits ?n_Sender_packer ?n_Sender_string ?n_Sender_fresh ?a_Modem ?m_Modem_init ?i_Modem_init ?e_Modem_init ?m_Modem_begin ?i_Modem_begin ?e_Modem_begin ?m_Modem_put ?i_Modem_put ?e_Modem_put ?m_Modem_flush ?i_Modem_flush ?e_Modem_flush ?m_Modem_mode ?i_Modem_mode ?e_Modem_mode ?m_Modem_reset ?i_Modem_reset ?e_Modem_reset ?m_Modem_settle_sender ?i_Modem_settle_sender ?e_Modem_settle_sender ?m_Modem_take ?i_Modem_take ?e_Modem_take ?c_Modem ?n_Modem_sender ?n_Modem_receiver ?a_Reader ?m_Reader_init ?i_Reader_init ?e_Reader_init ?m_Reader_at_end ?i_Reader_at_end ?e_Reader_at_end ?m_Reader_take_number ?i_Reader_take_number ?e_Reader_take_number ?m_Reader_take_row ?i_Reader_take_row ?e_Reader_take_row ?c_Reader ?n_Reader_numbers ?n_Reader_place ?h_Receiver_start ?h_Receiver_start_anew ?h_Receiver_become_like ?h_Receiver_move_escape ?h_Sender_start ?h_Sender_start_anew ?h_Sender_become_like ?h_Sender_move_escape ?hi_start ?hi_start_anew ?hi_become_like ?hi_move_escape ?a_W ?x_W ?a_answer_begin ?e_answer_begin ?a_answer_put ?e_answer_put ?a_answer_flush ?e_answer_flush ?a_answer_mode ?e_answer_mode ?a_answer_reset ?e_answer_reset ?a_answer_take ?e_answer_take ?a_answers ?e_answers ?g_END ?g_FLUSH ?g_STEP ?g_FIRST_BYTE ?g_FIRST_NODE ?g_FIRST_BITS ?g_FIRST_ESCAPE ?g_ESCAPE_STEP ?g_BYTE_VALUES ?g_ESCAPE_SHORT ?g_ESCAPE_ITSELF ?g_ESCAPE_RESET ?g_OCTET_BITS ?g_OCTET_VALUES ?g_DONE ?g_NO_SENDER_SENDS_IT ?g_OUT_OF_RANGE ?g_NOT_NOW ?g_MORE_THAN_MOST ?g_LEAST_CODES ?g_MOST_CODES ?g_LEAST_LONGEST ?g_MOST_LONGEST ?g_MOST_OF_MOST ?g_TO_PLAIN ?g_TO_SHORT ?b_len ?b_dict ?b_list ?a_CALLS ?d_CALLS
    (case a_Tree => k_is)
    (case m_Tree_init => k_is)
    (case i_Tree_init => k_is)
    (case e_Tree_init => (refine' SL.FnE.of ?l ?c ?k; (case l => k_is); (case c => k_is); (case k => k_is)))
    (case m_Tree_copy => k_is)
    (case i_Tree_copy => k_is)
    (case e_Tree_copy => (refine' SL.FnE.of ?l ?c ?k; (case l => k_is); (case c => k_is); (case k => k_is)))
    (case m_Tree_find => k_is)
    (case i_Tree_find => k_is)
    (case e_Tree_find => (refine' SL.FnE.of ?l ?c ?k; (case l => k_is); (case c => k_is); (case k => k_is)))
    (case m_Tree_holds => k_is)
    (case i_Tree_holds => k_is)
    (case e_Tree_holds => (refine' SL.FnE.of ?l ?c ?k; (case l => k_is); (case c => k_is); (case k => k_is)))
    (case m_Tree_length_of => k_is)
    (case i_Tree_length_of => k_is)
    (case e_Tree_length_of => (refine' SL.FnE.of ?l ?c ?k; (case l => k_is); (case c => k_is); (case k => k_is)))
    (case m_Tree_bytes_of => k_is)
    (case i_Tree_bytes_of => k_is)
    (case e_Tree_bytes_of => (refine' SL.FnE.of ?l ?c ?k; (case l => k_is); (case c => k_is); (case k => k_is)))
    (case m_Tree_add => k_is)
    (case i_Tree_add => k_is)
    (case e_Tree_add => (refine' SL.FnE.of ?l ?c ?k; (case l => k_is); (case c => k_is); (case k => k_is)))
    (case m_Tree_go_on => k_is)
    (case i_Tree_go_on => k_is)
    (case e_Tree_go_on => (refine' SL.FnE.of ?l ?c ?k; (case l => k_is); (case c => k_is); (case k => k_is)))
    (case m_Tree_number_behind => k_is)
    (case i_Tree_number_behind => k_is)
    (case e_Tree_number_behind => (refine' SL.FnE.of ?l ?c ?k; (case l => k_is); (case c => k_is); (case k => k_is)))
    (case m_Tree_take_out => k_is)
    (case i_Tree_take_out => k_is)
    (case e_Tree_take_out => (refine' SL.FnE.of ?l ?c ?k; (case l => k_is); (case c => k_is); (case k => k_is)))
    (case c_Tree => (refine' ⟨?a, ?b, ?c, ?d, ?e, ?f⟩; (case a => k_is); (case b => k_is); (case c => k_is); (case d => k_is); (case e => k_is); (case f => k_is)))
    (case n_Tree_codes => k_is)
    (case n_Tree_longest => k_is)
    (case n_Tree_next_node => k_is)
    (case n_Tree_nodes => k_is)
    (case n_Tree_ends => k_is)
    (case n_Tree_heirs => k_is)
    (case n_Tree_lengths => k_is)
    (case a_LineEnd => k_is)
    (case m_LineEnd_init => k_is)
    (case e_LineEnd_init => (refine' SL.FnE.of ?l ?c ?k; (case l => k_is); (case c => k_is); (case k => k_is)))
    (case m_LineEnd_start => k_is)
    (case e_LineEnd_start => (refine' SL.FnE.of ?l ?c ?k; (case l => k_is); (case c => k_is); (case k => k_is)))
    (case m_LineEnd_start_anew => k_is)
    (case e_LineEnd_start_anew => (refine' SL.FnE.of ?l ?c ?k; (case l => k_is); (case c => k_is); (case k => k_is)))
    (case m_LineEnd_become_like => k_is)
    (case e_LineEnd_become_like => (refine' SL.FnE.of ?l ?c ?k; (case l => k_is); (case c => k_is); (case k => k_is)))
    (case m_LineEnd_move_escape => k_is)
    (case e_LineEnd_move_escape => (refine' SL.FnE.of ?l ?c ?k; (case l => k_is); (case c => k_is); (case k => k_is)))
    (case c1 => k_is)
    (case c2 => k_is)
    (case c3 => k_is)
    (case a_Packer => k_is)
    (case m_Packer_init => k_is)
    (case i_Packer_init => k_is)
    (case e_Packer_init => (refine' SL.FnE.of ?l ?c ?k; (case l => k_is); (case c => k_is); (case k => k_is)))
    (case m_Packer_copy => k_is)
    (case i_Packer_copy => k_is)
    (case e_Packer_copy => (refine' SL.FnE.of ?l ?c ?k; (case l => k_is); (case c => k_is); (case k => k_is)))
    (case m_Packer_push => k_is)
    (case i_Packer_push => k_is)
    (case e_Packer_push => (refine' SL.FnE.of ?l ?c ?k; (case l => k_is); (case c => k_is); (case k => k_is)))
    (case m_Packer_fill_up => k_is)
    (case i_Packer_fill_up => k_is)
    (case e_Packer_fill_up => (refine' SL.FnE.of ?l ?c ?k; (case l => k_is); (case c => k_is); (case k => k_is)))
    (case m_Packer_hand_over => k_is)
    (case i_Packer_hand_over => k_is)
    (case e_Packer_hand_over => (refine' SL.FnE.of ?l ?c ?k; (case l => k_is); (case c => k_is); (case k => k_is)))
    (case c_Packer => (refine' ⟨?a, ?b, ?c, ?d, ?e, ?f⟩; (case a => k_is); (case b => k_is); (case c => k_is); (case d => k_is); (case e => k_is); (case f => k_is)))
    (case n_Packer_octets => k_is)
    (case n_Packer_rest => k_is)
    (case n_Packer_rest_bits => k_is)
    (case a_Unpacker => k_is)
    (case m_Unpacker_init => k_is)
    (case i_Unpacker_init => k_is)
    (case e_Unpacker_init => (refine' SL.FnE.of ?l ?c ?k; (case l => k_is); (case c => k_is); (case k => k_is)))
    (case m_Unpacker_copy => k_is)
    (case i_Unpacker_copy => k_is)
    (case e_Unpacker_copy => (refine' SL.FnE.of ?l ?c ?k; (case l => k_is); (case c => k_is); (case k => k_is)))
    (case m_Unpacker_push => k_is)
    (case i_Unpacker_push => k_is)
    (case e_Unpacker_push => (refine' SL.FnE.of ?l ?c ?k; (case l => k_is); (case c => k_is); (case k => k_is)))
    (case m_Unpacker_pull => k_is)
    (case i_Unpacker_pull => k_is)
    (case e_Unpacker_pull => (refine' SL.FnE.of ?l ?c ?k; (case l => k_is); (case c => k_is); (case k => k_is)))
    (case m_Unpacker_drop_rest => k_is)
    (case i_Unpacker_drop_rest => k_is)
    (case e_Unpacker_drop_rest => (refine' SL.FnE.of ?l ?c ?k; (case l => k_is); (case c => k_is); (case k => k_is)))
    (case c_Unpacker => (refine' ⟨?a, ?b, ?c, ?d, ?e, ?f⟩; (case a => k_is); (case b => k_is); (case c => k_is); (case d => k_is); (case e => k_is); (case f => k_is)))
    (case n_Unpacker_rest => k_is)
    (case n_Unpacker_rest_bits => k_is)
    (case a_Receiver => k_is)
    (case m_Receiver_init => k_is)
    (case i_Receiver_init => k_is)
    (case e_Receiver_init => (refine' SL.FnE.of ?l ?c ?k; (case l => k_is); (case c => k_is); (case k => k_is)))
    (case m_Receiver_copy => k_is)
    (case i_Receiver_copy => k_is)
    (case e_Receiver_copy => (refine' SL.FnE.of ?l ?c ?k; (case l => k_is); (case c => k_is); (case k => k_is)))
    (case m_Receiver_take => k_is)
    (case i_Receiver_take => k_is)
    (case e_Receiver_take => (refine' SL.FnE.of ?l ?c ?k; (case l => k_is); (case c => k_is); (case k => k_is)))
    (case m_Receiver_take_plain => k_is)
    (case i_Receiver_take_plain => k_is)
    (case e_Receiver_take_plain => (refine' SL.FnE.of ?l ?c ?k; (case l => k_is); (case c => k_is); (case k => k_is)))
    (case m_Receiver_take_meaning => k_is)
    (case i_Receiver_take_meaning => k_is)
    (case e_Receiver_take_meaning => (refine' SL.FnE.of ?l ?c ?k; (case l => k_is); (case c => k_is); (case k => k_is)))
    (case m_Receiver_take_short => k_is)
    (case i_Receiver_take_short => k_is)
    (case e_Receiver_take_short => (refine' SL.FnE.of ?l ?c ?k; (case l => k_is); (case c => k_is); (case k => k_is)))
    (case m_Receiver_take_step => k_is)
    (case i_Receiver_take_step => k_is)
    (case e_Receiver_take_step => (refine' SL.FnE.of ?l ?c ?k; (case l => k_is); (case c => k_is); (case k => k_is)))
    (case m_Receiver_end_strings => k_is)
    (case i_Receiver_end_strings => k_is)
    (case e_Receiver_end_strings => (refine' SL.FnE.of ?l ?c ?k; (case l => k_is); (case c => k_is); (case k => k_is)))
    (case m_Receiver_take_string => k_is)
    (case i_Receiver_take_string => k_is)
    (case e_Receiver_take_string => (refine' SL.FnE.of ?l ?c ?k; (case l => k_is); (case c => k_is); (case k => k_is)))
    (case m_Receiver_give_out => k_is)
    (case i_Receiver_give_out => k_is)
    (case e_Receiver_give_out => (refine' SL.FnE.of ?l ?c ?k; (case l => k_is); (case c => k_is); (case k => k_is)))
    (case c_Receiver => (refine' ⟨?a, ?b, ?c, ?d, ?e, ?f⟩; (case a => k_is); (case b => k_is); (case c => k_is); (case d => k_is); (case e => k_is); (case f => k_is)))
    (case n_Receiver_tree => k_is)
    (case n_Receiver_short => k_is)
    (case n_Receiver_escape => k_is)
    (case n_Receiver_bits => k_is)
    (case n_Receiver_unpacker => k_is)
    (case n_Receiver_behind_escape => k_is)
    (case n_Receiver_before => k_is)
    (case n_Receiver_out => k_is)
    (case n_Receiver_most => k_is)
    (case a_Sender => k_is)
    (case m_Sender_init => k_is)
    (case i_Sender_init => k_is)
    (case e_Sender_init => (refine' SL.FnE.of ?l ?c ?k; (case l => k_is); (case c => k_is); (case k => k_is)))
    (case m_Sender_copy => k_is)
    (case i_Sender_copy => k_is)
    (case e_Sender_copy => (refine' SL.FnE.of ?l ?c ?k; (case l => k_is); (case c => k_is); (case k => k_is)))
    (case m_Sender_put => k_is)
    (case i_Sender_put => k_is)
    (case e_Sender_put => (refine' SL.FnE.of ?l ?c ?k; (case l => k_is); (case c => k_is); (case k => k_is)))
    (case m_Sender_put_plain => k_is)
    (case i_Sender_put_plain => k_is)
    (case e_Sender_put_plain => (refine' SL.FnE.of ?l ?c ?k; (case l => k_is); (case c => k_is); (case k => k_is)))
    (case m_Sender_put_short => k_is)
    (case i_Sender_put_short => k_is)
    (case e_Sender_put_short => (refine' SL.FnE.of ?l ?c ?k; (case l => k_is); (case c => k_is); (case k => k_is)))
    (case m_Sender_flush => k_is)
    (case i_Sender_flush => k_is)
    (case e_Sender_flush => (refine' SL.FnE.of ?l ?c ?k; (case l => k_is); (case c => k_is); (case k => k_is)))
    (case m_Sender_to_short => k_is)
    (case i_Sender_to_short => k_is)
    (case e_Sender_to_short => (refine' SL.FnE.of ?l ?c ?k; (case l => k_is); (case c => k_is); (case k => k_is)))
    (case m_Sender_to_plain => k_is)
    (case i_Sender_to_plain => k_is)
    (case e_Sender_to_plain => (refine' SL.FnE.of ?l ?c ?k; (case l => k_is); (case c => k_is); (case k => k_is)))
    (case m_Sender_reset => k_is)
    (case i_Sender_reset => k_is)
    (case e_Sender_reset => (refine' SL.FnE.of ?l ?c ?k; (case l => k_is); (case c => k_is); (case k => k_is)))
    (case m_Sender_push_escape => k_is)
    (case i_Sender_push_escape => k_is)
    (case e_Sender_push_escape => (refine' SL.FnE.of ?l ?c ?k; (case l => k_is); (case c => k_is); (case k => k_is)))
    (case m_Sender_send_string_and_sign => k_is)
    (case i_Sender_send_string_and_sign => k_is)
    (case e_Sender_send_string_and_sign => (refine' SL.FnE.of ?l ?c ?k; (case l => k_is); (case c => k_is); (case k => k_is)))
    (case m_Sender_send => k_is)
    (case i_Sender_send => k_is)
    (case e_Sender_send => (refine' SL.FnE.of ?l ?c ?k; (case l => k_is); (case c => k_is); (case k => k_is)))
    (case c_Sender => (refine' ⟨?a, ?b, ?c, ?d, ?e, ?f⟩; (case a => k_is); (case b => k_is); (case c => k_is); (case d => k_is); (case e => k_is); (case f => k_is)))
    (case n_Sender_tree => k_is)
    (case n_Sender_short => k_is)
    (case n_Sender_escape => k_is)
    (case n_Sender_bits => k_is)
    (case n_Sender_packer => k_is)
    (case n_Sender_string => k_is)
    (case n_Sender_fresh => k_is)
    (case a_Modem => k_is)
    (case m_Modem_init => k_is)
    (case i_Modem_init => k_is)
    (case e_Modem_init => (refine' SL.FnE.of ?l ?c ?k; (case l => k_is); (case c => k_is); (case k => k_is)))
    (case m_Modem_begin => k_is)
    (case i_Modem_begin => k_is)
    (case e_Modem_begin => (refine' SL.FnE.of ?l ?c ?k; (case l => k_is); (case c => k_is); (case k => k_is)))
    (case m_Modem_put => k_is)
    (case i_Modem_put => k_is)
    (case e_Modem_put => (refine' SL.FnE.of ?l ?c ?k; (case l => k_is); (case c => k_is); (case k => k_is)))
    (case m_Modem_flush => k_is)
    (case i_Modem_flush => k_is)
    (case e_Modem_flush => (refine' SL.FnE.of ?l ?c ?k; (case l => k_is); (case c => k_is); (case k => k_is)))
    (case m_Modem_mode => k_is)
    (case i_Modem_mode => k_is)
    (case e_Modem_mode => (refine' SL.FnE.of ?l ?c ?k; (case l => k_is); (case c => k_is); (case k => k_is)))
    (case m_Modem_reset => k_is)
    (case i_Modem_reset => k_is)
    (case e_Modem_reset => (refine' SL.FnE.of ?l ?c ?k; (case l => k_is); (case c => k_is); (case k => k_is)))
    (case m_Modem_settle_sender => k_is)
    (case i_Modem_settle_sender => k_is)
    (case e_Modem_settle_sender => (refine' SL.FnE.of ?l ?c ?k; (case l => k_is); (case c => k_is); (case k => k_is)))
    (case m_Modem_take => k_is)
    (case i_Modem_take => k_is)
    (case e_Modem_take => (refine' SL.FnE.of ?l ?c ?k; (case l => k_is); (case c => k_is); (case k => k_is)))
    (case c_Modem => (refine' ⟨?a, ?b, ?c, ?d, ?e, ?f⟩; (case a => k_is); (case b => k_is); (case c => k_is); (case d => k_is); (case e => k_is); (case f => k_is)))
    (case n_Modem_sender => k_is)
    (case n_Modem_receiver => k_is)
    (case a_Reader => k_is)
    (case m_Reader_init => k_is)
    (case i_Reader_init => k_is)
    (case e_Reader_init => (refine' SL.FnE.of ?l ?c ?k; (case l => k_is); (case c => k_is); (case k => k_is)))
    (case m_Reader_at_end => k_is)
    (case i_Reader_at_end => k_is)
    (case e_Reader_at_end => (refine' SL.FnE.of ?l ?c ?k; (case l => k_is); (case c => k_is); (case k => k_is)))
    (case m_Reader_take_number => k_is)
    (case i_Reader_take_number => k_is)
    (case e_Reader_take_number => (refine' SL.FnE.of ?l ?c ?k; (case l => k_is); (case c => k_is); (case k => k_is)))
    (case m_Reader_take_row => k_is)
    (case i_Reader_take_row => k_is)
    (case e_Reader_take_row => (refine' SL.FnE.of ?l ?c ?k; (case l => k_is); (case c => k_is); (case k => k_is)))
    (case c_Reader => (refine' ⟨?a, ?b, ?c, ?d, ?e, ?f⟩; (case a => k_is); (case b => k_is); (case c => k_is); (case d => k_is); (case e => k_is); (case f => k_is)))
    (case n_Reader_numbers => k_is)
    (case n_Reader_place => k_is)
    (case h_Receiver_start => k_is)
    (case h_Receiver_start_anew => k_is)
    (case h_Receiver_become_like => k_is)
    (case h_Receiver_move_escape => k_is)
    (case h_Sender_start => k_is)
    (case h_Sender_start_anew => k_is)
    (case h_Sender_become_like => k_is)
    (case h_Sender_move_escape => k_is)
    (case hi_start => k_is)
    (case hi_start_anew => k_is)
    (case hi_become_like => k_is)
    (case hi_move_escape => k_is)
    (case a_W => k_is)
    (case x_W => kernel_rfl)
    (case a_answer_begin => k_is)
    (case e_answer_begin => (refine' SL.FnE.of ?l ?c ?k; (case l => k_is); (case c => k_is); (case k => k_is)))
    (case a_answer_put => k_is)
    (case e_answer_put => (refine' SL.FnE.of ?l ?c ?k; (case l => k_is); (case c => k_is); (case k => k_is)))
    (case a_answer_flush => k_is)
    (case e_answer_flush => (refine' SL.FnE.of ?l ?c ?k; (case l => k_is); (case c => k_is); (case k => k_is)))
    (case a_answer_mode => k_is)
    (case e_answer_mode => (refine' SL.FnE.of ?l ?c ?k; (case l => k_is); (case c => k_is); (case k => k_is)))
    (case a_answer_reset => k_is)
    (case e_answer_reset => (refine' SL.FnE.of ?l ?c ?k; (case l => k_is); (case c => k_is); (case k => k_is)))
    (case a_answer_take => k_is)
    (case e_answer_take => (refine' SL.FnE.of ?l ?c ?k; (case l => k_is); (case c => k_is); (case k => k_is)))
    (case a_answers => k_is)
    (case e_answers => (refine' SL.FnE.of ?l ?c ?k; (case l => k_is); (case c => k_is); (case k => k_is)))
    (case g_END => k_is)
    (case g_FLUSH => k_is)
    (case g_STEP => k_is)
    (case g_FIRST_BYTE => k_is)
    (case g_FIRST_NODE => k_is)
    (case g_FIRST_BITS => k_is)
    (case g_FIRST_ESCAPE => k_is)
    (case g_ESCAPE_STEP => k_is)
    (case g_BYTE_VALUES => k_is)
    (case g_ESCAPE_SHORT => k_is)
    (case g_ESCAPE_ITSELF => k_is)
    (case g_ESCAPE_RESET => k_is)
    (case g_OCTET_BITS => k_is)
    (case g_OCTET_VALUES => k_is)
    (case g_DONE => k_is)
    (case g_NO_SENDER_SENDS_IT => k_is)
    (case g_OUT_OF_RANGE => k_is)
    (case g_NOT_NOW => k_is)
    (case g_MORE_THAN_MOST => k_is)
    (case g_LEAST_CODES => k_is)
    (case g_MOST_CODES => k_is)
    (case g_LEAST_LONGEST => k_is)
    (case g_MOST_LONGEST => k_is)
    (case g_MOST_OF_MOST => k_is)
    (case g_TO_PLAIN => k_is)
    (case g_TO_SHORT => k_is)
    (case b_len => k_is)
    (case b_dict => k_is)
    (case b_list => k_is)
    (case a_CALLS => k_is)
    (case d_CALLS => k_is)
