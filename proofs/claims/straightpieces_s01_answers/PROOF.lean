import PyProof.Rows.All
import Wide.All
import OpenK.AllK
import Wide.FinOn
import PyProof.EqAt
import PyProof.EqKinds
import PyProof.TupleCall
import KE.BitLaws
import Open.SpecLaws
import KE.OsHead
import KE.OsGo
import KE.KTryMore
import PyProof.ZipIter
import PyProof.ListNew
import KE.RegKTryMore
import PySem.Challenge.RW_straightpieces_s01_answers
section
set_option Elab.async false
set_option linter.all false
set_option maxRecDepth 100000
namespace L2
open PySem PySem.Spec PyProof.Rows
/-- a key: an int or a str -/
abbrev Key := Sum Int Str
def keyIs : Key → Value → Bool
  | .inl k, v => Value.isInt k v
  | .inr x, v => Value.isStrOf x v
def keyH (w : World) : Key → Int
  | .inl k => hashInt k
  | .inr x => hashStr w x
theorem keyIs_shape : ∀ {k : Key} {v : Value}, keyIs k v = true → (∃ i t, k = Sum.inl i ∧ v = Value.int i t) ∨ (∃ x t, k = Sum.inr x ∧ v = Value.str x t)
  | .inl i, v, h => by
    obtain ⟨t, e⟩ := Value.isInt_shape (k := i) (v := v) h
    exact .inl ⟨i, t, rfl, e⟩
  | .inr x, v, h => by
    obtain ⟨t, e⟩ := Value.isStrOf_shape (x := x) (v := v) h
    exact .inr ⟨x, t, rfl, e⟩
theorem keyIs_int (i : Int) (t : Tok) : keyIs (.inl i) (.int i t) = true := by simp [keyIs, Value.isInt]
theorem keyIs_str (x : Str) (t : Tok) : keyIs (.inr x) (.str x t) = true := by simp [keyIs, Value.isStrOf]
theorem key_ll (a b : Int) : decide ((Sum.inl a : Key) = Sum.inl b) = (a == b) := by
  by_cases e : a = b
  · subst e; simp
  · have h : ¬ (Sum.inl a : Key) = Sum.inl b := fun q => e (Sum.inl.inj q)
    rw [decide_eq_false h]
    exact (beq_eq_false_iff_ne.mpr e).symm
theorem key_rr (a b : Str) : decide ((Sum.inr a : Key) = Sum.inr b) = decide (a = b) := by
  by_cases e : a = b
  · subst e; simp
  · have h : ¬ (Sum.inr a : Key) = Sum.inr b := fun q => e (Sum.inr.inj q)
    rw [decide_eq_false h, decide_eq_false e]
theorem key_lr (a : Int) (b : Str) : decide ((Sum.inl a : Key) = Sum.inr b) = false := decide_eq_false (fun q => nomatch q)
theorem key_rl (a : Str) (b : Int) : decide ((Sum.inr a : Key) = Sum.inl b) = false := decide_eq_false (fun q => nomatch q)
def mixKind (prog : Program) (w : World) : PySem.KeyKind prog w Key where
  is := keyIs
  hash := keyH w
  inj := fun v a b ha hb => by
    rcases keyIs_shape ha with ⟨i, t, rfl, rfl⟩ | ⟨x, t, rfl, rfl⟩
    · rcases keyIs_shape hb with ⟨j, u, rfl, e⟩ | ⟨y, u, rfl, e⟩
      · injection e with e1 _; rw [e1]
      · exact nomatch e
    · rcases keyIs_shape hb with ⟨j, u, rfl, e⟩ | ⟨y, u, rfl, e⟩
      · exact nomatch e
      · injection e with e1 _; rw [e1]
  byValue := fun k v h => by
    rcases keyIs_shape h with ⟨i, t, rfl, rfl⟩ | ⟨x, t, rfl, rfl⟩ <;> rfl
  pyHash := fun hv h => by
    rcases keyIs_shape hv with ⟨i, t, rfl, rfl⟩ | ⟨x, t, rfl, rfl⟩
    · exact wpAny_pyHash_int h
    · exact wpAny_pyHash_str h
  eqBool := fun hu hv h => by
    rcases keyIs_shape hu with ⟨i, t, rfl, rfl⟩ | ⟨x, t, rfl, rfl⟩
    · rcases keyIs_shape hv with ⟨j, u, rfl, rfl⟩ | ⟨y, u, rfl, rfl⟩
      · rw [key_ll] at h; exact wpAny_eqBool_int h
      · rw [key_lr] at h; exact SeqAt.EqAt.int_str i t y u _ _ _ _ h
    · rcases keyIs_shape hv with ⟨j, u, rfl, rfl⟩ | ⟨y, u, rfl, rfl⟩
      · rw [key_rl] at h; exact SeqAt.EqAt.str_int x t j u _ _ _ _ h
      · rw [key_rr] at h; exact wpAny_eqBool_str h
  «strs» := fun k x t v h => by
    rcases keyIs_shape h with ⟨i, u, rfl, e⟩ | ⟨y, u, rfl, e⟩
    · exact nomatch e
    · injection e with e1 _
      subst e1
      cases v <;> rfl
theorem mixKind_int (prog : Program) (w : World) (i : Int) (t : Tok) : (mixKind prog w).is (.inl i) (.int i t) = true := keyIs_int i t
theorem mixKind_str (prog : Program) (w : World) (x : Str) (t : Tok) : (mixKind prog w).is (.inr x) (.str x t) = true := keyIs_str x t
end L2
namespace L2
open PySem PySem.Spec PyProof.Rows
/-- a value, without the heap -/
inductive V where
  | non | bl (b : Bool) | int (i : Int) | str (x : Str) | byt (b : Array UInt8) | flt (b : UInt64) | ref (a : Addr) | ty (n : String)
  deriving DecidableEq
def RelV : V → Value → Prop
  | .non, u => u = Value.none
  | .bl b, u => u = Value.bool b
  | .int i, u => ∃ t, u = Value.int i t
  | .str x, u => ∃ t, u = Value.str x t
  | .byt b, u => ∃ t, u = Value.bytes b t
  | .flt b, u => ∃ t, u = Value.float b t
  | .ref a, u => u = Value.ref a
  | .ty n, u => u = Value.type n
abbrev Vals : List V → List Value → Prop := Paired RelV
theorem Vals.length {xs : List V} {us : List Value} (r : Vals xs us) : xs.length = us.length := Paired.length r
theorem Vals.get : ∀ {xs : List V} {us : List Value} {i : Nat} {x : V}, Vals xs us → xs[i]? = some x → ∃ u, us[i]? = some u ∧ RelV x u
  | _, _, _, _, .nil, e => by simp at e
  | _, _, 0, _, .cons r _, e => by simp at e; subst e; exact ⟨_, rfl, r⟩
  | _, _, i + 1, x, .cons _ t, e => by
    obtain ⟨u, h1, h2⟩ := Vals.get (i := i) (x := x) t (by simpa using e)
    exact ⟨u, by simpa using h1, h2⟩
theorem Vals.append : ∀ {xs ys : List V} {us ws : List Value}, Vals xs us → Vals ys ws → Vals (xs ++ ys) (us ++ ws)
  | _, _, _, _, .nil, s => s
  | _, _, _, _, .cons r t, s => .cons r (Vals.append t s)
theorem Vals.take : ∀ {xs : List V} {us : List Value} (n : Nat), Vals xs us → Vals (xs.take n) (us.take n)
  | _, _, 0, _ => .nil
  | _, _, _ + 1, .nil => .nil
  | _, _, n + 1, .cons r t => .cons r (Vals.take n t)
theorem Vals.drop : ∀ {xs : List V} {us : List Value} (n : Nat), Vals xs us → Vals (xs.drop n) (us.drop n)
  | _, _, 0, r => r
  | _, _, _ + 1, .nil => .nil
  | _, _, n + 1, .cons _ t => Vals.drop n t
def RelO : Option V → Option Value → Prop
  | some v, some u => RelV v u
  | none, none => True
  | _, _ => False
def KV {κ : Type} : List (κ × V) → List (κ × Value) → Prop := Paired fun (p : κ × V) (q : κ × Value) => p.1 = q.1 ∧ RelV p.2 q.2
/-- a key of a dict (00_mix): an int or a text -/
def kV : Key → V
  | .inl i => .int i
  | .inr x => .str x
/-- what stands at a tracked address -/
inductive HO where
  /-- a list -/
  | lst (xs : List V)
  /-- a tuple (never changes) -/
  | tup (xs : List V)
  /-- a dict whose keys are ints and texts; one whose keys are tuples of ints and texts (the empty one is both) -/
  | dK (kvs : List (Key × V)) | dT (kvs : List (List Key × V))
  /-- a set of ints: its members, its size -/
  | set (S : Int → Bool) (n : Nat)
  /-- an instance of the class at C, its dict at dx, its attributes -/
  | ins (C dx : Addr) (fs : List (Str × V))
  /-- the dict of the instance at x -/
  | own (x : Addr)
  /-- the dict of an exception -/
  | xd (fs : List (Str × V))
  /-- a bound method, f of x -/
  | met (f x : Addr)
  /-- a range object lo, lo + 1, .. below hi -/
  | rng (lo hi : Int)
  /-- a thing that is known to the object (the script; a dict while a loop walks it): read, never written while it is so -/
  | frz (o : Obj) (u : HO)
  /-- a code object's table -/
  | tbl (ps : Array Value)
  /-- any other thing, by what is true of its one object (a def of one's own: SetO a S n := HO.ext fun h => ..) -/
  | ext (φ : Heap → Prop)
abbrev Hp := Addr → Option HO
def upd (H : Hp) (a : Addr) (o : HO) : Hp := fun b => if b = a then some o else H b
theorem upd_same {H : Hp} {a : Addr} {o : HO} : upd H a o a = some o := by unfold upd; rw [if_pos rfl]
theorem upd_ne {H : Hp} {a b : Addr} {o : HO} (h : b ≠ a) : upd H a o b = H b := by unfold upd; rw [if_neg h]
theorem upd_upd {H : Hp} {a : Addr} {o u : HO} : upd (upd H a o) a u = upd H a u := by
  funext b; unfold upd; split <;> rfl
/-- two objects of different content stand apart -/
theorem ne_of {H : Hp} {a b : Addr} {o u : HO} (h : H a = some o) (h' : H b = some u) (d : o ≠ u) : a ≠ b := by
  intro e; subst e; rw [h] at h'; exact d (Option.some.inj h')
theorem ne_of_none {H : Hp} {a b : Addr} {o : HO} (h : H a = some o) (h' : H b = none) : a ≠ b := by
  intro e; subst e; rw [h] at h'; cases h'
section
variable (P : Program) (w : World)
def ObjOk (H : Hp) (h : Heap) (a : Addr) : HO → Prop
  | .lst xs => xs.length ≤ sizeLine ∧ ∃ (its : List Value) (n : Nat), Vals xs its ∧ h.get? a = some { cls := .type "list", data := .seq its.toArray n }
  | .tup xs => xs.length ≤ sizeLine ∧ ∃ its : List Value, Vals xs its ∧ IsTup h a its.toArray
  | .dK kvs => kvs.length ≤ sizeLine ∧ (a == sysModules) = false ∧ ∃ vs, KV kvs vs ∧ h.DictOf (mixKind P w) a vs
  | .dT kvs => kvs.length ≤ sizeLine ∧ (a == sysModules) = false ∧ ∃ xs : List (List Key × Addr × Value),
      Paired (fun (p : List Key × V) (q : List Key × Addr × Value) => p.1 = q.1 ∧ H q.2.1 = some (.tup (p.1.map kV)) ∧ RelV p.2 q.2.2) kvs xs ∧
      ∃ o es ep, h.get? a = some o ∧ o.ExactDict ∧ o.data = .dict es ep ∧ es.toList = xs.map (entryOfKey (tupleKind (mixKind P w))) ∧ (xs.map (·.1)).Nodup
  | .set S n => h.SetOf (intKind P w) a S n
  | .ins C dx fs => H dx = some (.own a) ∧ fs.length ≤ 1000 ∧ dx ≠ a ∧ h.get? a = some (PySem.W.instObj C dx) ∧
      ∃ mA, h.Ns1 dx mA ∧ (∀ f, RelO (fs.lookup f) (mA f)) ∧ PySem.Within mA (fs.map (·.1))
  | .own _ => ∃ o, h.get? a = some o
  | .xd fs => ∃ mA, h.Ns1 a mA ∧ ∀ f, RelO (fs.lookup f) (mA f)
  | .rng lo hi => ∃ t u v, h.get? a = some { cls := .type "range", data := .fields #[.int lo t, .int hi u, .int 1 v] }
  | .frz o u => h.get? a = some o ∧ ObjOk H h a u
  | .tbl ps => h.get? a = some { cls := .none, data := .fields ps }
  | .met f x => h.get? a = some (PySem.W.methodObj (.ref f) (.ref x))
  | .ext φ => φ h ∧ (∃ o, h.get? a = some o) ∧ ∀ h1 h2 : Heap, φ h1 → (∀ o, h1.get? a = some o → h2.get? a = some o) → φ h2
/-- the abstract heap is held -/
def HOk (H : Hp) (h : Heap) : Prop := ∀ a o, H a = some o → ObjOk P w H h a o
end
section
variable {P : Program} {w : World} {H H' : Hp} {h h' : Heap} {a : Addr} {o : HO}
theorem ObjOk.lt (x : ObjOk P w H h a o) : a < h.objs.size := by
  cases o with
  | lst xs => obtain ⟨_, _, _, _, e⟩ := x; exact Heap.lt_size e
  | tup xs => obtain ⟨_, _, _, p⟩ := x; exact p.lt
  | dK kvs => obtain ⟨_, _, _, _, o, _, _, e, _⟩ := x; exact Heap.lt_size e
  | dT kvs => obtain ⟨_, _, _, _, o, _, _, e, _⟩ := x; exact Heap.lt_size e
  | set S n => obtain ⟨o, _, _, _, e, _⟩ := x; exact Heap.lt_size e
  | ins C dx fs => obtain ⟨_, _, _, e, _⟩ := x; exact Heap.lt_size e
  | own y => obtain ⟨_, e⟩ := x; exact Heap.lt_size e
  | xd fs => obtain ⟨_, ⟨_, _, _, e, _⟩, _⟩ := x; exact Heap.lt_size e
  | rng lo hi => obtain ⟨_, _, _, e⟩ := x; exact Heap.lt_size e
  | frz ob u => obtain ⟨e, _⟩ := x; exact Heap.lt_size e
  | tbl ps => exact Heap.lt_size (show h.get? a = some _ from x)
  | met f y => exact Heap.lt_size (show h.get? a = some _ from x)
  | ext φ => obtain ⟨_, ⟨_, e⟩, _⟩ := x; exact Heap.lt_size e
theorem Paired.mapP {α β : Type} {F G : α → β → Prop} : ∀ {l₁ : List α} {l₂ : List β}, Paired F l₁ l₂ → (∀ a b, F a b → G a b) → Paired G l₁ l₂
  | _, _, .nil, _ => .nil
  | _, _, .cons r t, f => .cons (f _ _ r) (Paired.mapP t f)
/-- what an object's description leans on: its own object, its own dict, the tuples -/
theorem ObjOk.stay (x : ObjOk P w H h a o) (k : ∀ b u, (b = a ∨ H b = some (.own a)) → h.get? b = some u → h'.get? b = some u)
    (ho : ∀ b, H b = some (.own a) → H' b = some (.own a)) (ht : ∀ b xs, H b = some (.tup xs) → H' b = some (.tup xs)) : ObjOk P w H' h' a o := by
  induction o with
  | lst xs => obtain ⟨z, its, n, r, e⟩ := x; exact ⟨z, its, n, r, k _ _ (.inl rfl) e⟩
  | tup xs => obtain ⟨z, its, r, ob, e, c⟩ := x; exact ⟨z, its, r, ob, k _ _ (.inl rfl) e, c⟩
  | dK kvs => obtain ⟨z, y, vs, r, ob, es, ep, e, c⟩ := x; exact ⟨z, y, vs, r, ob, es, ep, k _ _ (.inl rfl) e, c⟩
  | dT kvs =>
    obtain ⟨z, y, xs, r, ob, es, ep, e, c⟩ := x
    exact ⟨z, y, xs, Paired.mapP r fun p q z => ⟨z.1, ht _ _ z.2.1, z.2.2⟩, ob, es, ep, k _ _ (.inl rfl) e, c⟩
  | set S n => obtain ⟨ob, es, ep, t, e, c⟩ := x; exact ⟨ob, es, ep, t, k _ _ (.inl rfl) e, c⟩
  | ins C dx fs =>
    obtain ⟨d, z, ne, e, mA, ⟨od, es, ep, e2, c⟩, r⟩ := x
    exact ⟨ho _ d, z, ne, k _ _ (.inl rfl) e, mA, ⟨od, es, ep, k _ _ (.inr d) e2, c⟩, r⟩
  | own y => obtain ⟨ob, e⟩ := x; exact ⟨ob, k _ _ (.inl rfl) e⟩
  | xd fs => obtain ⟨mA, ⟨od, es, ep, e, c⟩, r⟩ := x; exact ⟨mA, ⟨od, es, ep, k _ _ (.inl rfl) e, c⟩, r⟩
  | rng lo hi => obtain ⟨t, u, v, e⟩ := x; exact ⟨t, u, v, k _ _ (.inl rfl) e⟩
  | frz ob u ih => obtain ⟨e, q⟩ := x; exact ⟨k _ _ (.inl rfl) e, ih q⟩
  | tbl ps =>
    have e : h.get? a = some { cls := .none, data := .fields ps } := x
    show h'.get? a = some { cls := .none, data := .fields ps }
    exact k a _ (.inl rfl) e
  | met f y =>
    have e : h.get? a = some (PySem.W.methodObj (.ref f) (.ref y)) := x
    show h'.get? a = some (PySem.W.methodObj (.ref f) (.ref y))
    exact k a _ (.inl rfl) e
  | ext φ => obtain ⟨p, ⟨o, e⟩, st⟩ := x; exact ⟨st _ _ p fun o q => k _ _ (.inl rfl) q, ⟨o, k _ _ (.inl rfl) e⟩, st⟩
theorem HOk.lt (x : HOk P w H h) (e : H a = some o) : a < h.objs.size := (x a o e).lt
theorem HOk.fresh (x : HOk P w H h) (e : h.objs.size ≤ a) : H a = none := by
  cases q : H a with
  | none => rfl
  | some u => exact absurd (Nat.lt_of_lt_of_le (x.lt q) e) (Nat.lt_irrefl _)
/-- every object of the heap is kept -/
theorem HOk.kept (x : HOk P w H h) (k : ∀ b u, h.get? b = some u → h'.get? b = some u) : HOk P w H h' := fun a o e =>
  (x a o e).stay (fun b u _ q => k b u q) (fun _ q => q) fun _ _ q => q
/-- a new object is laid and tracked -/
theorem HOk.laid (x : HOk P w H h) (k : ∀ b u, h.get? b = some u → h'.get? b = some u) (hp : h.objs.size ≤ a) (new : ObjOk P w (upd H a o) h' a o) : HOk P w (upd H a o) h' := fun b u e => by
  have hn := x.fresh hp
  by_cases hb : b = a
  · subst hb; rw [upd_same] at e; cases e; exact new
  · rw [upd_ne hb] at e
    exact (x b u e).stay (fun c v _ q => k c v q) (fun c q => by rw [upd_ne (ne_of_none q hn)]; exact q) fun c xs q => by rw [upd_ne (ne_of_none q hn)]; exact q
end
/-- what may be read as u: it is u, or a known u -/
def Rd (H : Hp) (a : Addr) (u : HO) : Prop := H a = some u ∨ ∃ o, H a = some (.frz o u)
theorem Rd.ok {P : Program} {w : World} {H : Hp} {h : Heap} {a : Addr} {u : HO} (r : Rd H a u) (x : HOk P w H h) : ObjOk P w H h a u := by
  rcases r with r | ⟨o, r⟩
  · exact x a u r
  · obtain ⟨_, q⟩ := x a _ r
    exact q
/-- what may be written -/
def Mut : Option HO → Prop
  | some (.lst _) => True
  | some (.dK _) => True
  | some (.dT _) => True
  | some (.set _ _) => True
  | some (.ins _ _ _) => True
  | some (.ext _) => True
  | _ => False
section
variable {P : Program} {w : World} {H : Hp} {h h' : Heap} {x e : Addr} {o' : HO}
/-- the object at e is changed: x itself, or the dict of the instance x -/
theorem HOk.write (ok : HOk P w H h) (mu : Mut (H x)) (he : e = x ∨ H e = some (.own x)) (k : ∀ b u, b ≠ e → h.get? b = some u → h'.get? b = some u) (heo : ∃ u, h'.get? e = some u)
    (new : ObjOk P w (upd H x o') h' x o') : HOk P w (upd H x o') h' := fun b u q => by
  have nown : ∀ c y, H c = some (.own y) → c ≠ x := fun c y r z => by subst z; rw [r] at mu; exact mu
  have ntup : ∀ c xs, H c = some (.tup xs) → c ≠ x := fun c xs r z => by subst z; rw [r] at mu; exact mu
  by_cases hb : b = x
  · subst hb; rw [upd_same] at q; cases q; exact new
  · rw [upd_ne hb] at q
    by_cases hbe : b = e
    · have q' : H b = some (.own x) := by
        rcases he with z | z
        · exact absurd (hbe.trans z) hb
        · rw [hbe]; exact z
      rw [q] at q'; cases q'
      obtain ⟨v, hv⟩ := heo
      exact ⟨v, by rw [hbe]; exact hv⟩
    · refine (ok b u q).stay (fun c v hc r => k c v ?_ r) (fun c r => by rw [upd_ne (nown c b r)]; exact r) fun c xs r => by rw [upd_ne (ntup c xs r)]; exact r
      rcases hc with rfl | hc
      · exact hbe
      · rintro rfl
        rcases he with z | z
        · exact nown c b hc z
        · rw [hc] at z; cases z; exact hb rfl
end
structure Un (fs ex : List Addr) (H H' : Hp) (h h' : Heap) : Prop where
  keep : ∀ b o, h.get? b = some o → H b = none → b ∉ fs → b ∉ ex → h'.get? b = some o
  slot : ∀ b o, h.get? b = some o → H b = none → b ∈ fs → b ∉ ex → ∃ sl, h'.get? b = some { o with slots := sl }
  free : ∀ b o, h.get? b = some o → H b = none → b ∉ ex → H' b = none
  there : ∀ b o, h.get? b = some o → b ∉ ex → ∃ o', h'.get? b = some o'
  tups : ∀ b xs, H b = some (.tup xs) → H' b = some (.tup xs)
  frzs : ∀ b o u, H b = some (.frz o u) → H' b = some (.frz o u)
  tbls : ∀ b ps, H b = some (.tbl ps) → ∃ more, H' b = some (.tbl (ps ++ more))
section
variable {fs fs' ex ex' : List Addr} {H H1 H2 : Hp} {h h1 h2 h' : Heap} {a x e : Addr} {o : HO}
theorem Un.any (u : Un fs ex H H1 h h1) {b : Addr} {ob : Obj} (q : h.get? b = some ob) (n : H b = none) (hx : b ∉ ex) : ∃ sl, h1.get? b = some { ob with slots := sl } := by
  by_cases hb : b ∈ fs
  · exact u.slot b ob q n hb hx
  · exact ⟨ob.slots, u.keep b ob q n hb hx⟩
theorem Un.kept (k : ∀ b u, h.get? b = some u → h'.get? b = some u) : Un fs ex H H h h' :=
  ⟨fun b ob q _ _ _ => k b ob q, fun b ob q _ _ _ => ⟨ob.slots, k b ob q⟩, fun _ _ _ n _ => n, fun b ob q _ => ⟨ob, k b ob q⟩, fun _ _ q => q, fun _ _ _ q => q, fun _ ps q => ⟨#[], by rw [q]; simp⟩⟩
theorem Un.refl : Un fs ex H H h h := Un.kept fun _ _ q => q
theorem Un.laid (k : ∀ b u, h.get? b = some u → h'.get? b = some u) (hp : h.objs.size ≤ a) (hn : H a = none) : Un fs ex H (upd H a o) h h' where
  keep := fun b u q _ _ _ => k b u q
  slot := fun b u q _ _ _ => ⟨u.slots, k b u q⟩
  free := fun b u q n _ => by rw [upd_ne (Nat.ne_of_lt (Nat.lt_of_lt_of_le (Heap.lt_size q) hp))]; exact n
  there := fun b u q _ => ⟨u, k b u q⟩
  tups := fun b xs q => by rw [upd_ne (ne_of_none q hn)]; exact q
  frzs := fun b u xs q => by rw [upd_ne (ne_of_none q hn)]; exact q
  tbls := fun b ps q => ⟨#[], by rw [upd_ne (ne_of_none q hn), q]; simp⟩
theorem Un.write (mu : Mut (H x)) (he : e = x ∨ H e = some (.own x)) (k : ∀ b u, b ≠ e → h.get? b = some u → h'.get? b = some u) (heo : ∃ u, h'.get? e = some u) : Un fs ex H (upd H x o) h h' := by
  have hx : ∀ b, H b = none → b ≠ x := fun b n z => by subst z; rw [n] at mu; exact mu
  have hb : ∀ b, H b = none → b ≠ e := fun b n z => by
    subst z
    rcases he with r | r
    · exact hx b n r
    · rw [n] at r; cases r
  have hm : ∀ b u, H b = some u → ¬ Mut (some u) → b ≠ x := fun b u q nm z => by subst z; rw [q] at mu; exact nm mu
  refine ⟨fun b u q n _ _ => k b u (hb b n) q, fun b u q n _ _ => ⟨u.slots, k b u (hb b n) q⟩, fun b u q n _ => by rw [upd_ne (hx b n)]; exact n, fun b u q _ => ?_,
    fun b xs q => by rw [upd_ne (hm b _ q fun z => z)]; exact q, fun b u xs q => by rw [upd_ne (hm b _ q fun z => z)]; exact q, fun b ps q => ⟨#[], by rw [upd_ne (hm b _ q fun z => z), q]; simp⟩⟩
  by_cases hbe : b = e
  · subst hbe; exact heo
  · exact ⟨u, k b u hbe q⟩
end
def trk (h : Heap) (H : Hp) : List Addr := (List.range h.objs.size).filter fun a => (H a).isSome
def hidT (h : Heap) (H : Hp) : Heap := PySem.W.hideAll h (trk h H)
theorem hidT_size (h : Heap) (H : Hp) : (hidT h H).objs.size = h.objs.size := PySem.W.hideAll_size _ _
theorem hidT_get {h : Heap} {H : Hp} {b : Addr} {o : Obj} (e : h.get? b = some o) (n : H b = none) : (hidT h H).get? b = some o :=
  PySem.W.hideAll_get _ e fun hm => by
    have q : (H b).isSome = true := (List.mem_filter.mp hm).2
    rw [n] at q; simp at q
theorem of_hidT {h : Heap} {H : Hp} {b : Addr} {o : Obj} (e : (hidT h H).get? b = some o) : h.get? b = some o ∧ H b = none := by
  have e' : h.get? b = some o := PySem.W.of_hideAll (trk h H) e
  refine ⟨e', ?_⟩
  cases q : H b with
  | none => rfl
  | some x =>
    have hm : b ∈ trk h H := List.mem_filter.mpr ⟨List.mem_range.mpr (Heap.lt_size e'), by simp [q]⟩
    have z : (hidT h H).get? b = none := PySem.W.hideAll_none (trk h H) hm
    rw [z] at e; cases e
end L2
namespace L2
open PySem PySem.Spec PyProof.Rows
/-- the module's facts, over the base: the heap at the law's entry without what is tracked there -/
structure Mod (K : PySem.W.Frag) (mg : Str → Option Value) (base : Heap) : Prop where
  kin : K.In base
  glob : base.Ns mainGlobals mg
  blt : ∃ mb, base.Ns builtinsNs mb ∧ ∀ x : Str, x ≠ "__name__" → mb x = bootBuiltins x
  nolimit : base.NoLimit
/-- the context: a def's body (or a comprehension's block) running. base: fixed through the whole law; s₀, H₀: the entry; outer: the frames whose slots others may change (a def's callers); stack: all frames that run;
   ex: iterators that were made ahead of the entry and are walked here (a comprehension's); fn: the names whose cells were made at the entry (a def: all; a comprehension's block: its own); calm: not within an except suite; pn: pins that every state bears; xe: what is wanted of an exception that leaves the code -/
structure Cx where
  prog : Program
  w : World
  K : PySem.W.Frag
  mg : Str → Option Value
  base : Heap
  A : Around
  N : List Str
  s_0 : Shared
  H_0 : Hp
  env : Env
  outer : List Env
  stack : List Env
  ex : List Addr
  fn : Str → Bool
  calm : Bool
  pn : List (Addr × Obj)
  xe : Value → Shared → Prop
/-- the callers' frames -/
def frs (l : List Env) : List Addr := l.filterMap (·.frame)
abbrev Cx.fs (X : Cx) : List Addr := frs X.outer
def Vis (sc : Scope) (x : Str) : Prop := sc.names.lookup x = some .local ∨ sc.names.lookup x = some .cell ∨ sc.names.lookup x = some .free
def Loc (sc : Scope) (x : Str) : Prop := sc.names.lookup x = some .local ∨ sc.names.lookup x = some .cell
def Look (env : Env) (h : Heap) (m : Str → Option Value) (x : Str) (u : Value) : Prop :=
  (env.kindOf x = some .local ∧ m x = some u) ∨ ((env.kindOf x = some .cell ∨ env.kindOf x = some .free) ∧ ∃ c, env.cells.lookup x = some c ∧ h.IsCell c (some u))
structure Cx.Ok (X : Cx) : Prop where
  mod : Mod X.K X.mg X.base
  kind : X.env.scope.kind = .function
  glob : X.env.globals = mainGlobals
  blt : X.env.builtins = builtinsNs
  above : X.s_0.heap.objs.size ≤ X.env.locals
  inj : ∀ x y c, X.env.cells.lookup x = some c → X.env.cells.lookup y = some c → x = y
  has : ∀ x, (X.env.kindOf x = some .cell ∨ X.env.kindOf x = some .free) → ∃ c, X.env.cells.lookup x = some c
  cab : ∀ x c, X.fn x = true → X.env.cells.lookup x = some c → X.s_0.heap.objs.size ≤ c
  hd : X.calm = true → X.A.handled = none
  frames : X.A.frames = some X.stack
  stk : X.stack = X.outer ∨ (X.stack = X.env :: X.outer ∧ X.env.frame = some X.env.locals)
  exf : ∀ b ∈ X.ex, b ≠ X.env.locals ∧ ∀ x c, X.env.cells.lookup x = some c → c ≠ b
  bs : ∀ b o, X.base.get? b = some o → X.s_0.heap.get? b = some o ∧ X.H_0 b = none
  bsz : X.base.objs.size ≤ X.s_0.heap.objs.size
  noex : ∀ b o, X.base.get? b = some o → b ∉ X.ex
  exfs : ∀ b ∈ X.ex, b ∉ X.fs
  funs : X.s_0.heap.FunFrames X.base X.outer
  frf : ∀ b ∈ X.fs, X.H_0 b = none
structure Inv (X : Cx) (pins : List (Addr × Obj)) (σ : List (Option V)) (H : Hp) (s : Shared) : Prop where
  ok : X.Ok
  os : s.os = X.s_0.os
  bare : AllBare s.gens
  base : Un X.fs X.ex X.H_0 H X.s_0.heap s.heap
  loc : ∃ m, s.heap.Ns X.env.locals m ∧ ∀ (i : Nat) (x : Str) (v : V), X.N[i]? = some x → σ[i]? = some (some v) → Vis X.env.scope x → ∃ u, RelV v u ∧ Look X.env s.heap m x u
  cell : ∀ x c, X.env.cells.lookup x = some c → ∃ v, s.heap.IsCell c v
  free : H X.env.locals = none
  freeC : ∀ x c, X.env.cells.lookup x = some c → H c = none
  pin : ∀ p ∈ X.pn ++ pins, s.heap.get? p.1 = some p.2 ∧ H p.1 = none ∧ p.1 ≠ X.env.locals ∧ p.1 ∉ X.fs ∧ ∀ v, p.2.data ≠ .cell v
  hok : HOk X.prog X.w H s.heap
  len : σ.length = X.N.length
section
variable {X : Cx} {pins : List (Addr × Obj)} {σ : List (Option V)} {H H' : Hp} {s : Shared} {h' : Heap}
theorem Cx.Ok.nofr (ok : X.Ok) {b : Addr} {o : Obj} (e : X.base.get? b = some o) : b ∉ X.fs := fun hb => by
  have := (ok.funs.mem hb).1
  rw [e] at this; cases this
theorem Inv.bs (I : Inv X pins σ H s) : ∀ b o, X.base.get? b = some o → s.heap.get? b = some o ∧ H b = none := fun b o e =>
  ⟨I.base.keep b o (I.ok.bs b o e).1 (I.ok.bs b o e).2 (I.ok.nofr e) (I.ok.noex b o e), I.base.free b o (I.ok.bs b o e).1 (I.ok.bs b o e).2 (I.ok.noex b o e)⟩
theorem Inv.bk (I : Inv X pins σ H s) : ∀ b o, X.base.get? b = some o → s.heap.get? b = some o := fun b o e => (I.bs b o e).1
theorem Inv.mod (I : Inv X pins σ H s) : Mod X.K X.mg X.base := I.ok.mod
theorem Inv.kIn (I : Inv X pins σ H s) : X.K.In s.heap := I.ok.mod.kin.keeps I.bk
/-- the frame over the base: for OpenK's rules (K.In X.base is I.mod.kin) -/
theorem Inv.fr (I : Inv X pins σ H s) : ∃ m, Fr X.base X.env.locals s.heap m :=
  let ⟨m, hn, _⟩ := I.loc
  ⟨m, hn, I.bk, Nat.le_trans I.ok.bsz I.ok.above⟩
theorem Inv.lt (I : Inv X pins σ H s) : X.env.locals < s.heap.objs.size := let ⟨_, hn, _⟩ := I.loc; hn.lt
theorem Inv.sz (I : Inv X pins σ H s) : X.s_0.heap.objs.size ≤ s.heap.objs.size := Nat.le_trans I.ok.above (Nat.le_of_lt I.lt)
theorem Inv.nofs (I : Inv X pins σ H s) {a : Addr} (h : s.heap.objs.size ≤ a) : a ∉ X.fs := fun hb => by
  obtain ⟨_, o, ho, _⟩ := I.ok.funs.mem hb
  exact absurd (Nat.lt_of_lt_of_le (Heap.lt_size ho) (Nat.le_trans I.sz h)) (Nat.lt_irrefl _)
theorem Inv.cne (I : Inv X pins σ H s) : ∀ x c, X.env.cells.lookup x = some c → c ≠ X.env.locals := fun x c e z => by
  obtain ⟨v, o, ho, hd⟩ := I.cell x c e
  obtain ⟨m, ⟨o', es, ep, ho', hd', _⟩, _⟩ := I.loc
  rw [z, ho'] at ho; cases ho; rw [hd'] at hd; cases hd
theorem Inv.funs (I : Inv X pins σ H s) : s.heap.FunFrames X.base X.outer := by
  have all : ∀ (l : List Env), (∀ b ∈ frs l, b ∈ X.fs) → X.s_0.heap.FunFrames X.base l → s.heap.FunFrames X.base l := by
    intro l
    induction l with
    | nil => intro _ _; trivial
    | cons env r ih =>
      intro hs hl
      obtain ⟨hk, ⟨L, o, hf, hn, ho, hd⟩, hr⟩ := hl
      have hL : L ∈ X.fs := hs L (by unfold frs; rw [List.filterMap_cons, hf]; exact List.mem_cons_self)
      obtain ⟨sl, e⟩ := I.base.slot L o ho (I.ok.frf L hL) hL fun z => I.ok.exfs L z hL
      exact ⟨hk, ⟨L, _, hf, hn, e, hd⟩, ih (fun b hb => hs b (by unfold frs; rw [List.filterMap_cons, hf]; exact List.mem_cons_of_mem _ hb)) hr⟩
  exact all X.outer (fun _ hb => hb) I.ok.funs
/-- the frames that run, for a call -/
theorem Inv.stack (I : Inv X pins σ H s) : s.heap.FunFrames X.base X.stack := by
  rcases I.ok.stk with e | ⟨e, hf⟩
  · rw [e]; exact I.funs
  · rw [e]
    obtain ⟨m, hn, _⟩ := I.loc
    refine .cons (by rw [I.ok.kind]; decide) hf hn ?_ I.funs
    exact Heap.get?_none_of_le (Nat.le_trans I.ok.bsz I.ok.above)
theorem Inv.stkSub (I : Inv X pins σ H s) : ∀ b ∈ frs X.stack, b ∈ X.env.locals :: X.fs := fun b hb => by
  rcases I.ok.stk with e | ⟨e, hf⟩
  · rw [e] at hb; exact List.mem_cons_of_mem _ hb
  · rw [e] at hb
    unfold frs at hb
    rw [List.filterMap_cons, hf] at hb
    exact hb
theorem Inv.stkFree (I : Inv X pins σ H s) : ∀ b ∈ frs X.stack, H b = none := fun b hb => by
  rcases List.mem_cons.mp (I.stkSub b hb) with e | hb
  · rw [e]; exact I.free
  · obtain ⟨_, o, ho, _⟩ := I.ok.funs.mem hb
    exact I.base.free b o ho (I.ok.frf b hb) fun z => I.ok.exfs b z hb
/-- THE STEP: the untracked objects but the frame and the records at ch are kept (the callers' frames up to slots), the frame's map is kept, the new abstract heap is held -/
theorem Inv.step {g' : Array GenState} {t' : Nat} {d' : Drawn} {ch : List Addr} (I : Inv X pins σ H s)
    (hch : ∀ b ∈ ch, (b ∈ X.ex ∨ X.s_0.heap.objs.size ≤ b) ∧ b ≠ X.env.locals ∧ (∀ x c, X.env.cells.lookup x = some c → c ≠ b) ∧ ∀ p ∈ X.pn ++ pins, p.1 ≠ b)
    (keep : ∀ b o, b ≠ X.env.locals → b ∉ X.fs → b ∉ ch → s.heap.get? b = some o → H b = none → h'.get? b = some o)
    (slot : ∀ b o, b ≠ X.env.locals → b ∈ X.fs → b ∉ ch → s.heap.get? b = some o → H b = none → ∃ sl, h'.get? b = some { o with slots := sl }) (free : ∀ b o, b ∉ ch → s.heap.get? b = some o → H b = none → H' b = none)
    (there : ∀ b o, b ∉ ch → s.heap.get? b = some o → ∃ o', h'.get? b = some o')
    (tups : ∀ b xs, H b = some (.tup xs) → H' b = some (.tup xs)) (frzs : ∀ b o u, H b = some (.frz o u) → H' b = some (.frz o u)) (tbls : ∀ b ps, H b = some (.tbl ps) → ∃ more, H' b = some (.tbl (ps ++ more)))
    (ns : ∀ m, s.heap.Ns X.env.locals m → h'.Ns X.env.locals m) (hok : HOk X.prog X.w H' h') (hg : AllBare g') :
    Inv X pins σ H' { s with heap := h', gens := g', drawn := d', toks := t' } := by
  have neL : ∀ b o, X.s_0.heap.get? b = some o → b ≠ X.env.locals := fun b o e => Nat.ne_of_lt (Nat.lt_of_lt_of_le (Heap.lt_size e) I.ok.above)
  have neC : ∀ b o, X.s_0.heap.get? b = some o → b ∉ X.ex → b ∉ ch := fun b o e hx hb => by
    rcases (hch b hb).1 with z | z
    · exact hx z
    · exact absurd (Nat.lt_of_lt_of_le (Heap.lt_size e) z) (Nat.lt_irrefl _)
  have cellK : ∀ x c, X.env.cells.lookup x = some c → ∀ v, s.heap.IsCell c v → h'.IsCell c v := fun x c e v ⟨o, ho, hd⟩ => by
    have nch : c ∉ ch := fun z => (hch c z).2.2.1 x c e rfl
    by_cases hc : c ∈ X.fs
    · obtain ⟨sl, q⟩ := slot c o (I.cne x c e) hc nch ho (I.freeC x c e)
      exact ⟨_, q, hd⟩
    · exact ⟨o, keep c o (I.cne x c e) hc nch ho (I.freeC x c e), hd⟩
  refine ⟨I.ok, I.os, hg, ⟨fun b o e n hb hx => ?_, fun b o e n hb hx => ?_, fun b o e n hx => ?_, fun b o e hx => ?_, fun b xs e => tups b xs (I.base.tups b xs e), fun b o xs e => frzs b o xs (I.base.frzs b o xs e), fun b ps e => ?_⟩, ?_, fun x c e => ?_, ?_, fun x c e => ?_, fun p hp => ?_, hok, I.len⟩
  · exact keep b o (neL b o e) hb (neC b o e hx) (I.base.keep b o e n hb hx) (I.base.free b o e n hx)
  · obtain ⟨sl, e1⟩ := I.base.slot b o e n hb hx
    obtain ⟨sl', e2⟩ := slot b _ (neL b o e) hb (neC b o e hx) e1 (I.base.free b o e n hx)
    exact ⟨sl', e2⟩
  · obtain ⟨o', e1⟩ := I.base.there b o e hx
    exact free b o' (neC b o e hx) e1 (I.base.free b o e n hx)
  · obtain ⟨o', e1⟩ := I.base.there b o e hx
    exact there b o' (neC b o e hx) e1
  · obtain ⟨m1, e1⟩ := I.base.tbls b ps e
    obtain ⟨m2, e2⟩ := tbls b _ e1
    exact ⟨m1 ++ m2, by rw [e2, Array.append_assoc]⟩
  · obtain ⟨m, hn, hl⟩ := I.loc
    refine ⟨m, ns m hn, fun i x v e1 e2 e3 => ?_⟩
    obtain ⟨u, r, l⟩ := hl i x v e1 e2 e3
    refine ⟨u, r, ?_⟩
    rcases l with l | ⟨k, c, e, z⟩
    · exact .inl l
    · exact .inr ⟨k, c, e, cellK x c e _ z⟩
  · obtain ⟨v, z⟩ := I.cell x c e
    exact ⟨v, cellK x c e v z⟩
  · obtain ⟨m, ⟨o, _, _, ho, _⟩, _⟩ := I.loc
    exact free _ o (fun z => (hch _ z).2.1 rfl) ho I.free
  · obtain ⟨v, o, ho, hd⟩ := I.cell x c e
    exact free c o (fun z => (hch c z).2.2.1 x c e rfl) ho (I.freeC x c e)
  · obtain ⟨e, n, ne, nf, d⟩ := I.pin p hp
    have nch : p.1 ∉ ch := fun z => (hch p.1 z).2.2.2 p hp rfl
    exact ⟨keep p.1 p.2 ne nf nch e n, free p.1 p.2 nch e n, ne, nf, d⟩
/-- .. where the frame's own object is kept too -/
theorem Inv.un {t' : Nat} (I : Inv X pins σ H s) (u : Un X.fs [] H H' s.heap h') (hok : HOk X.prog X.w H' h') : Inv X pins σ H' { s with heap := h', toks := t' } := by
  obtain ⟨m, ⟨o, es, ep, ho, r⟩, _⟩ := id I.loc
  obtain ⟨sl, hL⟩ := u.any ho I.free (by simp)
  exact I.step (g' := s.gens) (d' := s.drawn) (ch := []) (fun _ z => nomatch z) (fun b o _ hb _ e n => u.keep b o e n hb (by simp)) (fun b o _ hb _ e n => u.slot b o e n hb (by simp)) (fun b o _ e n => u.free b o e n (by simp)) (fun b o _ e => u.there b o e (by simp)) u.tups u.frzs u.tbls (fun m' hm => by
    obtain ⟨o', es', ep', ho', r'⟩ := hm
    rw [ho] at ho'; cases ho'
    exact ⟨_, es', ep', hL, r'⟩) hok I.bare
/-- behind a call (or a comprehension's block): the slots of this frame may have changed too, the records at ch may have turned -/
theorem Inv.call {g' : Array GenState} {t' : Nat} {d' : Drawn} {ch : List Addr} (I : Inv X pins σ H s) (u : Un (frs X.stack) ch H H' s.heap h') (hok : HOk X.prog X.w H' h') (hg : AllBare g')
    (hch : ∀ b ∈ ch, (b ∈ X.ex ∨ X.s_0.heap.objs.size ≤ b) ∧ b ≠ X.env.locals ∧ (∀ x c, X.env.cells.lookup x = some c → c ≠ b) ∧ ∀ p ∈ X.pn ++ pins, p.1 ≠ b) :
    Inv X pins σ H' { s with heap := h', gens := g', drawn := d', toks := t' } := by
  obtain ⟨m, ⟨o, es, ep, ho, r⟩, _⟩ := id I.loc
  obtain ⟨sl, hL⟩ := u.any ho I.free fun z => (hch _ z).2.1 rfl
  exact I.step (ch := ch) hch (fun b o hL hb hc e n => u.keep b o e n (fun z => (List.mem_cons.mp (I.stkSub b z)).elim hL hb) hc) (fun b o _ _ hc e n => u.any e n hc) (fun b o hc e n => u.free b o e n hc) (fun b o hc e => u.there b o e hc) u.tups u.frzs u.tbls (fun m' hm => by
    obtain ⟨o', es', ep', ho', r'⟩ := hm
    rw [ho] at ho'; cases ho'
    exact ⟨_, es', ep', hL, r'⟩) hok hg
/-- an untracked record of ours (an iterator) has turned -/
theorem Inv.turned {t' : Nat} {it : Addr} (I : Inv X pins σ H s) (k : ∀ b o, b ≠ it → s.heap.get? b = some o → h'.get? b = some o) (hn : H it = none) (hL : it ≠ X.env.locals)
    (h1 : it ∈ X.ex ∨ X.s_0.heap.objs.size ≤ it) (h2 : ∀ x c, X.env.cells.lookup x = some c → c ≠ it) (h3 : ∀ p ∈ X.pn ++ pins, p.1 ≠ it) : Inv X pins σ H { s with heap := h', toks := t' } := by
  have nit : ∀ b u, H b = some u → b ≠ it := fun b u e z => by rw [z, hn] at e; cases e
  refine I.step (g' := s.gens) (d' := s.drawn) (ch := [it]) (fun b hb => ?_) (fun b o _ _ hc e _ => k b o (fun z => hc (by simp [z])) e) (fun b o _ _ hc e _ => ⟨o.slots, k b o (fun z => hc (by simp [z])) e⟩) (fun _ _ _ _ n => n)
    (fun b o hc e => ⟨o, k b o (fun z => hc (by simp [z])) e⟩) (fun _ _ e => e) (fun _ _ _ e => e) (fun b ps e => ⟨#[], by rw [e]; simp⟩) (fun m hm => ?_) (fun b u e => ?_) I.bare
  · have e : b = it := by simpa using hb
    subst e
    exact ⟨h1, hL, h2, h3⟩
  · obtain ⟨o, es, ep, ho, r⟩ := hm
    exact ⟨o, es, ep, k _ o (Ne.symm hL) ho, r⟩
  · refine (I.hok b u e).stay (fun c v hc q => k c v ?_ q) (fun _ q => q) fun _ _ q => q
    rcases hc with z | z
    · rw [z]; exact nit b u e
    · exact nit c _ z
theorem Inv.tok (I : Inv X pins σ H s) (t : Nat) : Inv X pins σ H { s with toks := t } := I.un (h' := s.heap) (t' := t) Un.refl I.hok
/-- all objects kept -/
theorem Inv.kept {t' : Nat} (I : Inv X pins σ H s) (k : ∀ b u, s.heap.get? b = some u → h'.get? b = some u) : Inv X pins σ H { s with heap := h', toks := t' } := I.un (Un.kept k) (I.hok.kept k)
/-- a new object laid and tracked -/
theorem Inv.laid {a : Addr} {o : HO} {t' : Nat} (I : Inv X pins σ H s) (k : ∀ b u, s.heap.get? b = some u → h'.get? b = some u) (hp : s.heap.objs.size ≤ a) (new : ObjOk X.prog X.w (upd H a o) h' a o) :
    Inv X pins σ (upd H a o) { s with heap := h', toks := t' } := I.un (Un.laid k hp (I.hok.fresh hp)) (I.hok.laid k hp new)
/-- an object written -/
theorem Inv.write {x e : Addr} {o : HO} {t' : Nat} (I : Inv X pins σ H s) (mu : Mut (H x)) (he : e = x ∨ H e = some (.own x)) (k : ∀ b u, b ≠ e → s.heap.get? b = some u → h'.get? b = some u) (heo : ∃ u, h'.get? e = some u)
    (new : ObjOk X.prog X.w (upd H x o) h' x o) : Inv X pins σ (upd H x o) { s with heap := h', toks := t' } := I.un (Un.write mu he k heo) (I.hok.write mu he k heo new)
/-- forgetting slots, pins -/
theorem Inv.weak {σ' : List (Option V)} (I : Inv X pins σ H s) (hl : σ'.length = σ.length) (w : ∀ (i : Nat) v, σ'[i]? = some (some v) → σ[i]? = some (some v)) : Inv X pins σ' H s :=
  ⟨I.ok, I.os, I.bare, I.base, let ⟨m, hn, hl'⟩ := I.loc; ⟨m, hn, fun i x v e1 e2 e3 => hl' i x v e1 (w i v e2) e3⟩, I.cell, I.free, I.freeC, I.pin, I.hok, hl.trans I.len⟩
theorem Inv.pins_of {pins' : List (Addr × Obj)} (I : Inv X pins σ H s) (h : ∀ p ∈ pins', s.heap.get? p.1 = some p.2 ∧ H p.1 = none ∧ p.1 ≠ X.env.locals ∧ p.1 ∉ X.fs ∧ ∀ v, p.2.data ≠ .cell v) : Inv X pins' σ H s :=
  ⟨I.ok, I.os, I.bare, I.base, I.loc, I.cell, I.free, I.freeC, fun p hp => (List.mem_append.mp hp).elim (fun z => I.pin p (List.mem_append_left _ z)) (h p), I.hok, I.len⟩
theorem nodup_ix {N : List Str} (hN : N.Nodup) {i j : Nat} {x : Str} (a : N[i]? = some x) (b : N[j]? = some x) : i = j := by
  obtain ⟨h1, e1⟩ := List.getElem?_eq_some_iff.mp a
  obtain ⟨h2, e2⟩ := List.getElem?_eq_some_iff.mp b
  exact (List.getElem_inj hN).mp (e1.trans e2.symm)
/-- a name is stored; what changed -/
theorem store_ok2 {M : Model} {A : Around} {E : Value → Shared → Prop} {i : Nat} {x : Str} {v : V} {u : Value} {Q : Unit → Shared → Prop} (I : Inv X pins σ H s) (hN : X.N.Nodup) (hi : X.N[i]? = some x) (hx : Loc X.env.scope x) (r : RelV v u)
    (h : ∀ s', Inv X pins (σ.set i (some v)) H s' → (∃ a, Heap.SameBut a s.heap s'.heap ∧ (a = X.env.locals ∨ X.env.cells.lookup x = some a)) → Q () s') (hf : X.fn x = true ∨ X.env.scope.names.lookup x = some .local := by first | exact .inl rfl | exact .inr rfl | assumption) : wpAny M A (storeName X.env x u) Q E s := by
  obtain ⟨m, hn, hl⟩ := id I.loc
  have hcls : (X.env.scope.kind == .class || (X.env.scope.kind == .module && X.env.locals != X.env.globals)) = false := by rw [I.ok.kind]; rfl
  have hiσ : i < σ.length := by rw [I.len]; exact (List.getElem?_eq_some_iff.mp hi).1
  have cne := I.cne
  have tracked : ∀ {a : Addr} {h' : Heap}, (∃ o, s.heap.get? a = some o ∧ H a = none) → Heap.SameBut a s.heap h' → HOk X.prog X.w H h' := fun {a h'} ha hs b ob e => by
    obtain ⟨_, _, hfree⟩ := ha
    refine (I.hok b ob e).stay (fun c w' hc q => (hs.2 c ?_).trans q) (fun _ q => q) fun _ _ q => q
    rintro rfl
    rcases hc with rfl | hc
    · rw [hfree] at e; cases e
    · rw [hfree] at hc; cases hc
  rcases hx with hk | hk
  · refine wpAny_storeName_local hk hn (fun h' hn' hs => ?_) hcls
    obtain ⟨oL, _, _, hoL, _⟩ := id hn
    refine h _ ⟨I.ok, I.os, I.bare, ⟨fun b o e n hb hx => ?_, fun b o e n hb hx => ?_, I.base.free, fun b o e hx => ?_, I.base.tups, I.base.frzs, I.base.tbls⟩, ⟨_, hn', fun j y v' e1 e2 e3 => ?_⟩, fun y c e => ?_, I.free, I.freeC, fun p hp => ?_, tracked ⟨oL, hoL, I.free⟩ hs, by simpa using I.len⟩ ⟨_, hs, .inl rfl⟩
    · exact (hs.2 b (Nat.ne_of_lt (Nat.lt_of_lt_of_le (Heap.lt_size e) I.ok.above))).trans (I.base.keep b o e n hb hx)
    · obtain ⟨sl, e1⟩ := I.base.slot b o e n hb hx
      exact ⟨sl, (hs.2 b (Nat.ne_of_lt (Nat.lt_of_lt_of_le (Heap.lt_size e) I.ok.above))).trans e1⟩
    · obtain ⟨o', e1⟩ := I.base.there b o e hx
      exact ⟨o', (hs.2 b (Nat.ne_of_lt (Nat.lt_of_lt_of_le (Heap.lt_size e) I.ok.above))).trans e1⟩
    · by_cases hj : j = i
      · subst hj
        rw [hi] at e1; cases e1
        rw [List.getElem?_set_self hiσ] at e2
        cases e2
        exact ⟨u, r, .inl ⟨hk, by simp⟩⟩
      · rw [List.getElem?_set_ne (Ne.symm hj)] at e2
        obtain ⟨u', r', q⟩ := hl j y v' e1 e2 e3
        refine ⟨u', r', ?_⟩
        rcases q with ⟨k, e⟩ | ⟨k, c, e, z⟩
        · refine .inl ⟨k, ?_⟩
          have : y ≠ x := fun e => hj (nodup_ix hN e1 (e ▸ hi))
          simp [this, e]
        · exact .inr ⟨k, c, e, z.sameBut hs (cne y c e)⟩
    · obtain ⟨w', z⟩ := I.cell y c e
      exact ⟨w', z.sameBut hs (cne y c e)⟩
    · obtain ⟨e, n, ne, nf, d⟩ := I.pin p hp
      exact ⟨(hs.2 p.1 ne).trans e, n, ne, nf, d⟩
  · have hfn : X.fn x = true := by
      rcases hf with z | z
      · exact z
      · rw [z] at hk; cases hk
    obtain ⟨c, hc⟩ := I.ok.has x (.inl hk)
    obtain ⟨w', z⟩ := I.cell x c hc
    refine wpAny_storeName_cell I.ok.kind hk hc z (fun h' hc' hs => ?_)
    obtain ⟨oc, hoc, hocd⟩ := id z
    refine h { s with heap := h' } ⟨I.ok, I.os, I.bare, ⟨fun b o e n hb hx => ?_, fun b o e n hb hx => ?_, I.base.free, fun b o e hx => ?_, I.base.tups, I.base.frzs, I.base.tbls⟩, ⟨m, hn.sameBut hs (Ne.symm (cne x c hc)), fun j y v' e1 e2 e3 => ?_⟩, fun y c' e => ?_, I.free, I.freeC, fun p hp => ?_, tracked ⟨oc, hoc, I.freeC x c hc⟩ hs, by simpa using I.len⟩ ⟨c, hs, .inr hc⟩
    · exact (hs.2 b (Nat.ne_of_lt (Nat.lt_of_lt_of_le (Heap.lt_size e) (I.ok.cab x c hfn hc)))).trans (I.base.keep b o e n hb hx)
    · obtain ⟨sl, e1⟩ := I.base.slot b o e n hb hx
      exact ⟨sl, (hs.2 b (Nat.ne_of_lt (Nat.lt_of_lt_of_le (Heap.lt_size e) (I.ok.cab x c hfn hc)))).trans e1⟩
    · obtain ⟨o', e1⟩ := I.base.there b o e hx
      exact ⟨o', (hs.2 b (Nat.ne_of_lt (Nat.lt_of_lt_of_le (Heap.lt_size e) (I.ok.cab x c hfn hc)))).trans e1⟩
    · by_cases hj : j = i
      · subst hj
        rw [hi] at e1; cases e1
        rw [List.getElem?_set_self hiσ] at e2
        cases e2
        exact ⟨u, r, .inr ⟨.inl hk, c, hc, hc'⟩⟩
      · rw [List.getElem?_set_ne (Ne.symm hj)] at e2
        obtain ⟨u', r', q⟩ := hl j y v' e1 e2 e3
        refine ⟨u', r', ?_⟩
        rcases q with q | ⟨k, c', e, z'⟩
        · exact .inl q
        · refine .inr ⟨k, c', e, z'.sameBut hs ?_⟩
          rintro rfl
          exact hj (nodup_ix hN e1 (I.ok.inj _ _ _ e hc ▸ hi))
    · by_cases hcc : c' = c
      · subst hcc; exact ⟨_, hc'⟩
      · obtain ⟨w2, z2⟩ := I.cell y c' e
        exact ⟨w2, z2.sameBut hs hcc⟩
    · obtain ⟨e, n, ne, nf, d⟩ := I.pin p hp
      refine ⟨(hs.2 p.1 ?_).trans e, n, ne, nf, d⟩
      intro q
      rw [q, hoc] at e
      have q' : oc = p.2 := Option.some.inj e
      exact d w' (by rw [← q']; exact hocd)
theorem store_ok {M : Model} {A : Around} {E : Value → Shared → Prop} {i : Nat} {x : Str} {v : V} {u : Value} {Q : Unit → Shared → Prop} (I : Inv X pins σ H s) (hN : X.N.Nodup) (hi : X.N[i]? = some x) (hx : Loc X.env.scope x) (r : RelV v u)
    (h : ∀ s', Inv X pins (σ.set i (some v)) H s' → Q () s') (hf : X.fn x = true ∨ X.env.scope.names.lookup x = some .local := by first | exact .inl rfl | exact .inr rfl | assumption) : wpAny M A (storeName X.env x u) Q E s :=
  store_ok2 I hN hi hx r (fun s' I' _ => h s' I') hf
/-- behind a call or a block, the state as it is -/
theorem Inv.call' {s' : Shared} {ch : List Addr} (I : Inv X pins σ H s) (ho : s'.os = s.os) (u : Un (frs X.stack) ch H H' s.heap s'.heap) (hok : HOk X.prog X.w H' s'.heap) (hg : AllBare s'.gens)
    (hch : ∀ b ∈ ch, (b ∈ X.ex ∨ X.s_0.heap.objs.size ≤ b) ∧ b ≠ X.env.locals ∧ (∀ x c, X.env.cells.lookup x = some c → c ≠ b) ∧ ∀ p ∈ X.pn ++ pins, p.1 ≠ b) : Inv X pins σ H' s' := by
  obtain ⟨h', g', d', t', o'⟩ := s'
  have e : o' = s.os := ho
  subst e
  exact I.call (g' := g') (t' := t') (d' := d') u hok hg hch
end
/-- an exception: its class, its own dict's address (where it has one), the abstract heap behind it -/
abbrev XK := Value → Option Addr → Hp → Prop
abbrev St := List (Option V)
abbrev VK := V → Hp → Prop
/-- an expression's reading; a test's; an argument list's -/
abbrev TE := St → Hp → VK → Prop
abbrev TT := St → Hp → (Bool → Hp → Prop) → Prop
abbrev TA := St → Hp → (List V → Hp → Prop) → Prop
/-- what is wanted behind a statement -/
structure Ends where
  nx : St → Hp → Prop
  rt : VK
  bk : St → Hp → Prop := fun _ _ => False
  ct : St → Hp → Prop := fun _ _ => False
abbrev TS := Ends → St → Hp → Prop
def EP (X : Cx) (pins : List (Addr × Obj)) (σ : St) (Q : VK) (u : Value) (s' : Shared) : Prop := ∃ v H', Inv X pins σ H' s' ∧ RelV v u ∧ Q v H'
def TP (X : Cx) (pins : List (Addr × Obj)) (σ : St) (Q : Bool → Hp → Prop) (b : Bool) (s' : Shared) : Prop := ∃ H', Inv X pins σ H' s' ∧ Q b H'
def AP (X : Cx) (pins : List (Addr × Obj)) (σ : St) (Q : List V → Hp → Prop) (us : List Value) (s' : Shared) : Prop := ∃ vs H', Inv X pins σ H' s' ∧ Vals vs us ∧ Q vs H'
def SP (X : Cx) (pins : List (Addr × Obj)) (D : Ends) (f : Flow) (s' : Shared) : Prop :=
  match f with
  | .next => ∃ σ' H', Inv X pins σ' H' s' ∧ D.nx σ' H'
  | .brk => ∃ σ' H', Inv X pins σ' H' s' ∧ D.bk σ' H'
  | .cont => ∃ σ' H', Inv X pins σ' H' s' ∧ D.ct σ' H'
  | .ret u => ∃ v σ' H', Inv X pins σ' H' s' ∧ RelV v u ∧ D.rt v H'
def PE (X : Cx) (e : Expr) (t : TE) : Prop :=
  ∀ (pins : List (Addr × Obj)) (s : Shared) (σ : St) (H : Hp) (Q : VK), Inv X pins σ H s → t σ H Q → wpAny (model X.prog X.w) X.A (eval e X.env) (EP X pins σ Q) X.xe s
def PT (X : Cx) (e : Expr) (t : TT) : Prop :=
  ∀ (pins : List (Addr × Obj)) (s : Shared) (σ : St) (H : Hp) (Q : Bool → Hp → Prop), Inv X pins σ H s → t σ H Q → wpAny (model X.prog X.w) X.A (isTrue e X.env (eval e X.env)) (TP X pins σ Q) X.xe s
/-- a test whatever its 'whole' is (and, or) -/
def PW (X : Cx) (e : Expr) (t : TT) : Prop :=
  ∀ (whole : Sem Value) (pins : List (Addr × Obj)) (s : Shared) (σ : St) (H : Hp) (Q : Bool → Hp → Prop), Inv X pins σ H s → t σ H Q → wpAny (model X.prog X.w) X.A (isTrue e X.env whole) (TP X pins σ Q) X.xe s
theorem PW.pt {X : Cx} {e : Expr} {t : TT} (h : PW X e t) : PT X e t := h _
/-- an argument list (no star), from the left -/
def PA (X : Cx) (es : List Expr) (t : TA) : Prop :=
  ∀ (pos : Pos) (pins : List (Addr × Obj)) (s : Shared) (σ : St) (H : Hp) (Q : List V → Hp → Prop), Inv X pins σ H s → t σ H Q → wpAny (model X.prog X.w) X.A (spliced (backTo pos (starEach es X.env))) (AP X pins σ Q) X.xe s
def PS (X : Cx) (st : Stmt) (t : TS) : Prop :=
  ∀ (pins : List (Addr × Obj)) (s : Shared) (σ : St) (H : Hp) (D : Ends), Inv X pins σ H s → t D σ H → wpAny (model X.prog X.w) X.A (exec st X.env) (SP X pins D) X.xe s
def PSs (X : Cx) (st : List Stmt) (t : TS) : Prop :=
  ∀ (pins : List (Addr × Obj)) (s : Shared) (σ : St) (H : Hp) (D : Ends), Inv X pins σ H s → t D σ H → wpAny (model X.prog X.w) X.A (execs st X.env) (SP X pins D) X.xe s
/-- weaken the end -/
theorem thn {α : Type} {t : Sem α} {Q Q' : α → Shared → Prop} {M : Model} {A : Around} {E : Value → Shared → Prop} {s : Shared} (h : wpAny M A t Q E s) (hQ : ∀ a s, Q a s → Q' a s) : wpAny M A t Q' E s := wpAny_mono h hQ fun _ _ x => x
end L2
namespace L2
open PySem PySem.Spec PyProof.Rows
section
variable {X : Cx}
/-- two expressions in a row -/
theorem bin {a b : Expr} {ta tb : TE} (ha : PE X a ta) (hb : PE X b tb) {pins : List (Addr × Obj)} {s : Shared} {σ : St} {H : Hp} {R : V → V → Hp → Prop} (I : Inv X pins σ H s) (h : ta σ H fun x H1 => tb σ H1 fun y H2 => R x y H2)
    {α : Type} {Q : α → Shared → Prop} {f : Value → Value → Sem α}
    (hf : ∀ v u s2 x y H2, Inv X pins σ H2 s2 → RelV x v → RelV y u → R x y H2 → wpAny (model X.prog X.w) X.A (f v u) Q X.xe s2) :
    wpAny (model X.prog X.w) X.A (eval a X.env) (fun v s₁ => wpAny (model X.prog X.w) X.A (eval b X.env) (fun u s₂ => wpAny (model X.prog X.w) X.A (f v u) Q X.xe s₂) X.xe s₁) X.xe s := by
  refine thn (ha pins s σ H _ I h) fun v s1 ⟨x, H1, I1, r1, q1⟩ => ?_
  refine thn (hb pins s1 σ H1 _ I1 q1) fun u s2 ⟨y, H2, I2, r2, q2⟩ => ?_
  exact hf v u s2 x y H2 I2 r1 r2 q2
def tVar (i : Nat) : TE := fun σ H Q => ∃ v, σ[i]? = some (some v) ∧ Q v H
def tC (v : V) : TE := fun _ H Q => Q v H
theorem pe_var {i : Nat} {x : Str} {pos : Pos} (hN : X.N[i]? = some x) (hv : Vis X.env.scope x) (hd : (x == ("__debug__" : Str)) = false := by decide) (hcd : (x == ("__classdict__" : Str)) = false := by decide) : PE X (.Name x pos) (tVar i) := by
  intro pins s σ H Q I h
  obtain ⟨v, e, h⟩ := h
  obtain ⟨m, hn, hl⟩ := I.loc
  obtain ⟨u, r, l⟩ := hl i x v hN e hv
  have fin : EP X pins σ Q u s := ⟨v, H, I, r, h⟩
  rcases l with ⟨hk, hm⟩ | ⟨hk, c, hc, hcell⟩
  · exact wpAny_Name (wpAny_loadName_local I.ok.kind hk hn hm fin) hd
  · rcases hk with hk | hk
    · exact wpAny_Name (wpAny_loadName_cell I.ok.kind hk hc hcell fin) hd
    · exact wpAny_Name (wpAny_loadName_free I.ok.kind hk hc hcell fin hcd) hd
theorem pe_int {i j pos} : PE X (.Constant (.int i) j pos) (tC (.int i)) := fun _ _ _ H _ I h => wpAny_Constant_int ⟨.int i, H, I.tok _, ⟨_, rfl⟩, h⟩
theorem pe_bl {b j pos} : PE X (.Constant (.bool b) j pos) (tC (.bl b)) := fun _ _ _ H _ I h => Constant_bool ⟨.bl b, H, I, rfl, h⟩
theorem pe_non {j pos} : PE X (.Constant .none j pos) (tC .non) := fun _ _ _ H _ I h => Constant_none ⟨.non, H, I, rfl, h⟩
/-- a global name of the def -/
def Gl (X : Cx) (x : Str) : Prop := X.env.kindOf x = some .globalImplicit
theorem ld_glob {E : Value → Shared → Prop} {pins : List (Addr × Obj)} {s : Shared} {σ : St} {H : Hp} {x : Str} {u : Value} {pos : Pos} {Q : Value → Shared → Prop} (I : Inv X pins σ H s) (hg : Gl X x) (hm : X.mg x = some u) (h : Q u s)
    (hd : (x == ("__debug__" : Str)) = false := by decide) : wpAny (model X.prog X.w) X.A (eval (.Name x pos) X.env) Q E s :=
  Calls.Name_function_global I.ok.kind hg (Calls.loadGlobal_global (by rw [I.ok.glob]; exact I.mod.glob.keeps I.bk) hm h) hd
theorem ld_blt {E : Value → Shared → Prop} {pins : List (Addr × Obj)} {s : Shared} {σ : St} {H : Hp} {x : Str} {u : Value} {pos : Pos} {Q : Value → Shared → Prop} (I : Inv X pins σ H s) (hg : Gl X x) (hm : X.mg x = none) (hv : bootBuiltins x = some u) (h : Q u s)
    (hn : x ≠ "__name__" := by decide) (hd : (x == ("__debug__" : Str)) = false := by decide) : wpAny (model X.prog X.w) X.A (eval (.Name x pos) X.env) Q E s := by
  obtain ⟨mb, h1, h2⟩ := I.mod.blt
  exact Calls.Name_function_global I.ok.kind hg (Calls.loadGlobal_builtin (by rw [I.ok.glob]; exact I.mod.glob.keeps I.bk) hm (by rw [I.ok.blt]; exact h1.keeps I.bk) ((h2 x hn).trans hv) h) hd
/-- a module's constant, a class, a function, as a value -/
theorem pe_glob {x : Str} {v : V} {u : Value} {pos : Pos} (hg : Gl X x) (hm : X.mg x = some u) (r : RelV v u) (hd : (x == ("__debug__" : Str)) = false := by decide) : PE X (.Name x pos) (tC v) :=
  fun _ _ _ H _ I h => ld_glob I hg hm ⟨v, H, I, r, h⟩ hd
variable {a b : Expr} {ta tb : TE} {pos : Pos}
def PC (X : Cx) (op : CmpOp) (a b : Expr) (t : TE) : Prop :=
  ∀ (pins : List (Addr × Obj)) (s : Shared) (σ : St) (H : Hp) (Q : VK), Inv X pins σ H s → t σ H Q →
    wpAny (model X.prog X.w) X.A (eval a X.env) (fun v s₁ => wpAny (model X.prog X.w) X.A (eval b X.env) (fun u s₂ => wpAny (model X.prog X.w) X.A (compareOp op v u) (EP X pins σ Q) X.xe s₂) X.xe s₁) X.xe s
/-- a comparison as a value, as a test -/
def tB (t : TE) : TT := fun σ H Q => t σ H fun x H1 => ∃ c, x = .bl c ∧ Q c H1
theorem pt_cmp {op : CmpOp} {t : TE} (h : PC X op a b t) (h1 : behindInMarks op b = false := by first | exact nobehind _ (by decide) (by decide) | rfl) : PT X (.Compare a [op] [b] pos) (tB t) := by
  intro pins s σ H Q I hw
  refine wpAny_isTrue_Compare1 (thn (h pins s σ H _ I hw) fun v s1 h1 => thn h1 fun u s2 h2 => thn h2 fun c s3 ⟨x, H1, I1, r1, q1⟩ => ?_) h1
  obtain ⟨d, rfl, q⟩ := q1
  cases r1
  exact wpAny_truthy_bool ⟨H1, I1, q⟩
/-- an expression whose value is a bool, as a test -/
theorem pt_val {e : Expr} {t : TE} (h : PE X e t) (he : ∀ whole, isTrue e X.env whole = (do let v ← whole; standAt e.pos; holding [v] (truthy v)) := by intro _; rfl) : PT X e (tB t) := by
  intro pins s σ H Q I hw
  refine isTrue_plain (thn (h pins s σ H _ I hw) fun v s1 ⟨x, H1, I1, r1, q1⟩ => ?_) (he _)
  obtain ⟨d, rfl, q⟩ := q1
  cases r1
  exact wpAny_truthy_bool ⟨H1, I1, q⟩
variable {tA tB' : TT} {rest : List Expr}
def tAnd (t u : TT) : TT := fun σ H Q => t σ H fun c H1 => if c = true then u σ H1 Q else Q false H1
def tOr (t u : TT) : TT := fun σ H Q => t σ H fun c H1 => if c = true then Q true H1 else u σ H1 Q
def tNot (t : TT) : TT := fun σ H Q => t σ H fun c H1 => Q (!c) H1
theorem pw_and1 (ha : PT X a tA) : PW X (.BoolOp .And [a] pos) tA := by
  intro wh pins s σ H Q I h
  refine isTrue_and (thn (ha pins s σ H Q I h) fun c s1 e => ?_)
  cases c with
  | true => exact isTrue_and_nil e
  | false => exact e
theorem pw_or1 (ha : PT X a tA) : PW X (.BoolOp .Or [a] pos) tA := by
  intro wh pins s σ H Q I h
  refine isTrue_or (thn (ha pins s σ H Q I h) fun c s1 e => ?_)
  cases c with
  | false => exact isTrue_or_nil e
  | true => exact e
theorem pw_and (ha : PT X a tA) (hb : PW X (.BoolOp .And (b :: rest) pos) tB') : PW X (.BoolOp .And (a :: b :: rest) pos) (tAnd tA tB') := by
  intro wh pins s σ H Q I h
  refine isTrue_and (thn (ha pins s σ H _ I h) fun c s1 ⟨H1, I1, q1⟩ => ?_)
  cases c with
  | true => exact hb wh pins s1 σ H1 Q I1 q1
  | false => exact ⟨H1, I1, q1⟩
theorem pw_or (ha : PT X a tA) (hb : PW X (.BoolOp .Or (b :: rest) pos) tB') : PW X (.BoolOp .Or (a :: b :: rest) pos) (tOr tA tB') := by
  intro wh pins s σ H Q I h
  refine isTrue_or (thn (ha pins s σ H _ I h) fun c s1 ⟨H1, I1, q1⟩ => ?_)
  cases c with
  | true => exact ⟨H1, I1, q1⟩
  | false => exact hb wh pins s1 σ H1 Q I1 q1
theorem pt_not (ha : PT X a tA) : PT X (.UnaryOp .Not a pos) (tNot tA) := by
  intro pins s σ H Q I h
  exact isTrue_not (ha pins s σ H (fun c H1 => Q (!c) H1) I h)
/-- .. as values (bools) -/
def tAndV (ta tb : TE) : TE := fun σ H Q => ta σ H fun x H1 => ∃ c, x = .bl c ∧ if c = true then tb σ H1 Q else Q (.bl false) H1
def tOrV (ta tb : TE) : TE := fun σ H Q => ta σ H fun x H1 => ∃ c, x = .bl c ∧ if c = true then Q (.bl true) H1 else tb σ H1 Q
theorem pe_one {op} {t : TE} (h : PE X a t) : PE X (.BoolOp op [a] pos) t := fun pins s σ H Q I hw => BoolOp_one (h pins s σ H Q I hw)
theorem pe_and (ha : PE X a ta) (hb : PE X (.BoolOp .And (b :: rest) pos) tb) : PE X (.BoolOp .And (a :: b :: rest) pos) (tAndV ta tb) := by
  intro pins s σ H Q I h
  refine BoolOp_and (thn (ha pins s σ H _ I h) fun v s1 ⟨x, H1, I1, r1, q1⟩ => ?_)
  obtain ⟨c, rfl, q1⟩ := q1
  cases r1
  refine wpAny_truthy_bool ?_
  cases c with
  | true => exact hb pins s1 σ H1 Q I1 q1
  | false => exact ⟨.bl false, H1, I1, rfl, q1⟩
theorem pe_or (ha : PE X a ta) (hb : PE X (.BoolOp .Or (b :: rest) pos) tb) : PE X (.BoolOp .Or (a :: b :: rest) pos) (tOrV ta tb) := by
  intro pins s σ H Q I h
  refine BoolOp_or (thn (ha pins s σ H _ I h) fun v s1 ⟨x, H1, I1, r1, q1⟩ => ?_)
  obtain ⟨c, rfl, q1⟩ := q1
  cases r1
  refine wpAny_truthy_bool ?_
  cases c with
  | false => exact hb pins s1 σ H1 Q I1 q1
  | true => exact ⟨.bl true, H1, I1, rfl, q1⟩
/-- a if t else b -/
def tIf (t : TT) (ta tb : TE) : TE := fun σ H Q => t σ H fun c H1 => if c = true then ta σ H1 Q else tb σ H1 Q
theorem pe_ifExp {c : Expr} (hc : PT X c tA) (ha : PE X a ta) (hb : PE X b tb) : PE X (.IfExp c a b pos) (tIf tA ta tb) := by
  intro pins s σ H Q I h
  refine wpAny_IfExp (thn (hc pins s σ H _ I h) fun d s1 ⟨H1, I1, q1⟩ => ?_)
  cases d with
  | true => exact ha pins s1 σ H1 Q I1 q1
  | false => exact hb pins s1 σ H1 Q I1 q1
end
end L2
namespace L2
open PySem PySem.Spec PyProof.Rows
def SqL (K : PySem.W.Frag) (H : Hp) (a : Addr) (xs : List V) : Prop :=
  Rd H a (.lst xs) ∨
    ∃ (o : Obj) (its : Array Value) (n : Nat), K.lookup a = some o ∧ o.cls = .type "list" ∧ o.dict = none ∧ o.data = .seq its n ∧ its.size ≤ sizeLine ∧ Vals xs its.toList
def SqT (K : PySem.W.Frag) (H : Hp) (a : Addr) (xs : List V) : Prop :=
  Rd H a (.tup xs) ∨
    ∃ (o : Obj) (its : Array Value) (n : Nat), K.lookup a = some o ∧ o.cls = .type "tuple" ∧ o.data = .seq its n ∧ its.size ≤ sizeLine ∧ Vals xs its.toList
def absV : Value → Option V
  | .none => some .non
  | .bool b => some (.bl b)
  | .int i _ => some (.int i)
  | .str x _ => some (.str x)
  | .bytes b _ => some (.byt b)
  | .float b _ => some (.flt b)
  | .ref a => some (.ref a)
  | .type n => some (.ty n)
  | _ => none
theorem RelV.abs {x : V} {u : Value} (r : RelV x u) : absV u = some x := by
  cases x with
  | non => cases r; rfl
  | bl _ => cases r; rfl
  | int _ => obtain ⟨t, rfl⟩ := r; rfl
  | str _ => obtain ⟨t, rfl⟩ := r; rfl
  | byt _ => obtain ⟨t, rfl⟩ := r; rfl
  | flt _ => obtain ⟨t, rfl⟩ := r; rfl
  | ref _ => cases r; rfl
  | ty _ => cases r; rfl
theorem RelV.inj {x y : V} {u : Value} (r : RelV x u) (q : RelV y u) : x = y := Option.some.inj (r.abs.symm.trans q.abs)
theorem Vals.inj : ∀ {xs ys : List V} {us : List Value}, Vals xs us → Vals ys us → xs = ys
  | _, _, _, .nil, .nil => rfl
  | _, _, _, .cons r t, .cons r' t' => by rw [r.inj r', Vals.inj t t']
section
variable {X : Cx} {pins : List (Addr × Obj)} {σ : St} {H : Hp} {s : Shared} {a : Addr} {xs ys : List V}
theorem SqL.of {K : PySem.W.Frag} (h : H a = some (.lst xs)) : SqL K H a xs := .inl (.inl h)
theorem SqT.of {K : PySem.W.Frag} (h : H a = some (.tup xs)) : SqT K H a xs := .inl (.inl h)
theorem Inv.list (I : Inv X pins σ H s) (h : SqL X.K H a xs) : ∃ its : List Value, Vals xs its ∧ PlainL s.heap a its.toArray ∧ xs.length ≤ sizeLine := by
  rcases h with h | ⟨o, its, n, hk, hc, hd, hs, hz, r⟩
  · obtain ⟨z, its, n, r, e⟩ := h.ok I.hok
    exact ⟨its, r, ⟨_, n, e, rfl, rfl, rfl⟩, z⟩
  · refine ⟨its.toList, r, ⟨o, n, I.kIn a o hk, hc, hd, by simpa using hs⟩, ?_⟩
    have e := r.length
    simp only [Array.length_toList] at e
    omega
theorem Inv.tuple (I : Inv X pins σ H s) (h : SqT X.K H a xs) : ∃ its : List Value, Vals xs its ∧ IsTup s.heap a its.toArray ∧ xs.length ≤ sizeLine := by
  rcases h with h | ⟨o, its, n, hk, hc, hs, hz, r⟩
  · obtain ⟨z, its, r, p⟩ := h.ok I.hok
    exact ⟨its, r, p, z⟩
  · refine ⟨its.toList, r, ⟨o, I.kIn a o hk, hc, n, by simpa using hs⟩, ?_⟩
    have e := r.length
    simp only [Array.length_toList] at e
    omega
theorem Inv.list_inj (I : Inv X pins σ H s) (h : SqL X.K H a xs) (h' : SqL X.K H a ys) : xs = ys := by
  obtain ⟨its, r, ⟨o, n, e, _, _, d⟩, _⟩ := I.list h
  obtain ⟨its', r', ⟨o', n', e', _, _, d'⟩, _⟩ := I.list h'
  rw [e] at e'; cases e'
  rw [d] at d'
  injection d' with d1 _
  have : its = its' := by simpa using congrArg Array.toList d1
  subst this
  exact r.inj r'
theorem Inv.tuple_inj (I : Inv X pins σ H s) (h : SqT X.K H a xs) (h' : SqT X.K H a ys) : xs = ys := by
  obtain ⟨its, r, ⟨o, e, _, n, d⟩, _⟩ := I.tuple h
  obtain ⟨its', r', ⟨o', e', _, n', d'⟩, _⟩ := I.tuple h'
  rw [e] at e'; cases e'
  rw [d] at d'
  injection d' with d1 _
  have : its = its' := by simpa using congrArg Array.toList d1
  subst this
  exact r.inj r'
end
abbrev Cx.wish (X : Cx) (E : Value → Shared → Prop) : Cx := { X with xe := E }
/-- no exception leaves -/
abbrev Cx.nox (X : Cx) : Cx := X.wish fun _ _ => False
theorem Cx.Ok.wish {X : Cx} (ok : X.Ok) (E : Value → Shared → Prop) : (X.wish E).Ok :=
  ⟨ok.mod, ok.kind, ok.glob, ok.blt, ok.above, ok.inj, ok.has, ok.cab, ok.hd, ok.frames, ok.stk, ok.exf, ok.bs, ok.bsz, ok.noex, ok.exfs, ok.funs, ok.frf⟩
theorem Cx.Ok.unwish {X : Cx} {E : Value → Shared → Prop} (ok : (X.wish E).Ok) : X.Ok :=
  ⟨ok.mod, ok.kind, ok.glob, ok.blt, ok.above, ok.inj, ok.has, ok.cab, ok.hd, ok.frames, ok.stk, ok.exf, ok.bs, ok.bsz, ok.noex, ok.exfs, ok.funs, ok.frf⟩
section
variable {X : Cx} {pins : List (Addr × Obj)} {σ : St} {H : Hp} {s : Shared} {E : Value → Shared → Prop}
theorem Inv.wish (I : Inv X pins σ H s) (E : Value → Shared → Prop) : Inv (X.wish E) pins σ H s := ⟨I.ok.wish E, I.os, I.bare, I.base, I.loc, I.cell, I.free, I.freeC, I.pin, I.hok, I.len⟩
theorem Inv.unwish (I : Inv (X.wish E) pins σ H s) : Inv X pins σ H s := ⟨I.ok.unwish, I.os, I.bare, I.base, I.loc, I.cell, I.free, I.freeC, I.pin, I.hok, I.len⟩
theorem SP.unwish {D : Ends} {f : Flow} {s' : Shared} (h : SP (X.wish E) pins D f s') : SP X pins D f s' := by
  cases f with
  | next => obtain ⟨σ', H', I, q⟩ := h; exact ⟨σ', H', I.unwish, q⟩
  | brk => obtain ⟨σ', H', I, q⟩ := h; exact ⟨σ', H', I.unwish, q⟩
  | cont => obtain ⟨σ', H', I, q⟩ := h; exact ⟨σ', H', I.unwish, q⟩
  | ret u => obtain ⟨v, σ', H', I, r, q⟩ := h; exact ⟨v, σ', H', I.unwish, r, q⟩
theorem PSs.nox {st : List Stmt} {t : TS} (h : PSs X.nox st t) : PSs X st t := fun pins s σ H D I hw =>
  wpAny_mono (h pins s σ H D (I.wish _) hw) (fun _ _ q => q.unwish) fun _ _ z => False.elim z
end
section
variable {X : Cx} {st : Stmt} {rest : List Stmt} {t u : TS} {e : Expr} {te : TE} {pos : Pos}
def tNext : TS := fun D σ H => D.nx σ H
def tSeq (t u : TS) : TS := fun D σ H => t { D with nx := u D } σ H
theorem pss_nil : PSs X [] tNext := fun _ _ σ H _ I h => wpAny_execs_nil ⟨σ, H, I, h⟩
theorem pss_cons (h1 : PS X st t) (h2 : PSs X rest u) : PSs X (st :: rest) (tSeq t u) := by
  intro pins s σ H D I h
  refine wpAny_execs_cons (thn (h1 pins s σ H { D with nx := u D } I h) fun f s1 q => ?_)
  cases f with
  | next =>
    obtain ⟨σ', H', I', q⟩ := q
    exact h2 pins s1 σ' H' D I' q
  | ret v => exact q
  | brk => exact q
  | cont => exact q
theorem pss_one (h1 : PS X st t) : PSs X [st] t := by
  intro pins s σ H D I h
  refine wpAny_execs_cons (thn (h1 pins s σ H D I h) fun f s1 q => ?_)
  cases f with
  | next => exact wpAny_execs_nil q
  | ret v => exact q
  | brk => exact q
  | cont => exact q
/-- in a def's body nothing is shown -/
theorem Inv.quiet {pins : List (Addr × Obj)} {σ : St} {H : Hp} {s : Shared} (I : Inv X pins σ H s) : interactive X.env = false := by simp [interactive, I.ok.kind]
/-- an expression whose value is dropped -/
def tDrop (te : TE) : TS := fun D σ H => te σ H fun _ H1 => D.nx σ H1
theorem ps_expr (he : PE X e te) (hs : swapsWith e none pos.line X.env = pure false := by rfl) : PS X (.Expr e pos) (tDrop te) := by
  intro pins s σ H D I h
  exact wpAny_Expr_any (thn (he pins s σ H _ I h) fun v s1 ⟨x, H1, I1, r1, q1⟩ => ⟨σ, H1, I1, q1⟩) I.quiet hs
def tRet (te : TE) : TS := fun D σ H => te σ H D.rt
theorem ps_ret (he : PE X e te) : PS X (.Return (some e) pos) (tRet te) := by
  intro pins s σ H D I h
  exact wpAny_Return_some (thn (he pins s σ H _ I h) fun v s1 ⟨x, H1, I1, r1, q1⟩ => ⟨x, σ, H1, I1, r1, q1⟩)
def tRetN : TS := fun D _ H => D.rt .non H
theorem ps_retN : PS X (.Return none pos) tRetN := fun _ _ σ H _ I h => wpAny_Return_none ⟨.non, σ, H, I, rfl, h⟩
def tIfS (c : TT) (t u : TS) : TS := fun D σ H => c σ H fun b H1 => if b = true then t D σ H1 else u D σ H1
theorem ps_if {c : Expr} {a b : List Stmt} {tc : TT} (hc : PT X c tc) (ha : PSs X a t) (hb : PSs X b u) : PS X (.If c a b pos) (tIfS tc t u) := by
  intro pins s σ H D I h
  refine wpAny_If (thn (hc pins s σ H _ I h) fun d s1 ⟨H1, I1, q1⟩ => ?_)
  cases d with
  | true => exact ha pins s1 σ H1 D I1 q1
  | false => exact hb pins s1 σ H1 D I1 q1
end
abbrev TG := V → St → Hp → (St → Hp → Prop) → Prop
abbrev TGs := List V → St → Hp → (St → Hp → Prop) → Prop
def PG (X : Cx) (target : Expr) (t : TG) : Prop :=
  ∀ (pins : List (Addr × Obj)) (s : Shared) (σ : St) (H : Hp) (v : V) (u : Value) (Q : St → Hp → Prop), Inv X pins σ H s → RelV v u → t v σ H Q →
    wpAny (model X.prog X.w) X.A (assign target X.env u) (fun _ s' => ∃ σ' H', Inv X pins σ' H' s' ∧ Q σ' H') X.xe s
/-- several targets, one after another -/
def PGs (X : Cx) (ts : List Expr) (t : TGs) : Prop :=
  ∀ (pins : List (Addr × Obj)) (s : Shared) (σ : St) (H : Hp) (vs : List V) (us : List Value) (Q : St → Hp → Prop), Inv X pins σ H s → Vals vs us → t vs σ H Q →
    wpAny (model X.prog X.w) X.A (assignInOrder ((assignEach ts X.env).map (·.2)) us) (fun _ s' => ∃ σ' H', Inv X pins σ' H' s' ∧ Q σ' H') X.xe s
/-- a op= b, by values -/
abbrev TIp := V → V → Hp → VK → Prop
def PIp (X : Cx) (op : Operator) (t : TIp) : Prop :=
  ∀ (pins : List (Addr × Obj)) (s : Shared) (σ : St) (H : Hp) (x y : V) (v u : Value) (Q : VK), Inv X pins σ H s → RelV x v → RelV y u → t x y H Q →
    wpAny (model X.prog X.w) X.A (inplaceOp op v u) (EP X pins σ Q) X.xe s
section
variable {X : Cx} {pos : Pos}
def gName (i : Nat) : TG := fun v σ H Q => Q (σ.set i (some v)) H
theorem pg_name {i : Nat} {x : Str} (hN : X.N.Nodup) (hi : X.N[i]? = some x) (hx : Loc X.env.scope x) (hf : X.fn x = true ∨ X.env.scope.names.lookup x = some .local := by first | exact .inl rfl | exact .inr rfl | assumption) : PG X (.Name x pos) (gName i) := by
  intro pins s σ H v u Q I r h
  exact wpAny_assign_Name (store_ok I hN hi hx r (fun s' I' => ⟨_, H, I', h⟩) hf)
def gNil : TGs := fun vs σ H Q => vs = [] ∧ Q σ H
def gCons (t : TG) (u : TGs) : TGs := fun vs σ H Q => ∃ v r, vs = v :: r ∧ t v σ H fun σ' H' => u r σ' H' Q
theorem pgs_nil : PGs X [] gNil := by
  intro pins s σ H vs us Q I r h
  obtain ⟨e, h⟩ := h
  subst e
  cases r
  exact assignInOrder_nil ⟨σ, H, I, h⟩
theorem pgs_cons {e : Expr} {es : List Expr} {t : TG} {u : TGs} (h1 : PG X e t) (h2 : PGs X es u)
    (hs : (assignEach (e :: es) X.env).map (·.2) = assign e X.env :: (assignEach es X.env).map (·.2) := by rfl) : PGs X (e :: es) (gCons t u) := by
  intro pins s σ H vs us Q I r h
  obtain ⟨v, vr, e1, h⟩ := h
  subst e1
  cases r with
  | cons r rr =>
    rw [hs]
    refine assignInOrder_cons (thn (h1 pins s σ H _ _ _ I r h) fun _ s1 ⟨σ1, H1, I1, q1⟩ => ?_)
    exact h2 pins s1 σ1 H1 _ _ Q I1 rr q1
/-- (a, b, ..) = a tuple of that length -/
def gTup (K : PySem.W.Frag) (n : Nat) (t : TGs) : TG := fun v σ H Q => ∃ a xs, v = .ref a ∧ SqT K H a xs ∧ xs.length = n ∧ t xs σ H Q
theorem pg_tup {es : List Expr} {k : Nat} {t : TGs} {n : Nat} (hc : X.calm = true) (h : PGs X es t)
    (hn : (assignEach es X.env).length = n := by rfl) (hst : (assignEach es X.env).findIdx? (·.1) = none := by rfl) : PG X (.Tuple es k pos) (gTup X.K n t) := by
  intro pins s σ H v u Q I r hw
  obtain ⟨a, xs, e1, hq, hl, hw⟩ := hw
  subst e1
  cases r
  obtain ⟨its, rv, ht, hz⟩ := I.tuple hq
  refine assign_Tuple_tuple (I.ok.hd hc) ht (by simp [hn, ← hl, rv.length]) hst fun h' hx => ?_
  have I1 : Inv X pins σ H { s with heap := h' } := I.kept (t' := s.toks) fun b o e => hx b o (Nat.ne_of_lt (Heap.lt_size e)) e
  exact h pins _ σ H xs _ Q I1 (by simpa using rv) hw
/-- target = value -/
def tAsg (te : TE) (g : TG) : TS := fun D σ H => te σ H fun x H1 => g x σ H1 D.nx
/-- name = value -/
theorem ps_set {i : Nat} {x : Str} {e : Expr} {te : TE} {pos' : Pos} (hN : X.N.Nodup) (hi : X.N[i]? = some x) (hx : Loc X.env.scope x) (he : PE X e te) (hs : swapsWith e (some (.Name x pos')) pos.line X.env = pure false := by rfl) (hf : X.fn x = true ∨ X.env.scope.names.lookup x = some .local := by first | exact .inl rfl | exact .inr rfl | assumption) :
    PS X (.Assign [.Name x pos'] e pos) (tAsg te (gName i)) := by
  intro pins s σ H D I h
  refine wpAny_Assign_Name (thn (he pins s σ H _ I h) fun v s1 ⟨y, H1, I1, r1, q1⟩ => ?_) hs
  exact store_ok I1 hN hi hx r1 (fun s2 I2 => ⟨_, H1, I2, q1⟩) hf
/-- name op= e -/
def tAug (i : Nat) (te : TE) (ti : TIp) : TS := fun D σ H => ∃ x, σ[i]? = some (some x) ∧ te σ H fun y H1 => ti x y H1 fun z H2 => D.nx (σ.set i (some z)) H2
theorem ps_aug {i : Nat} {x : Str} {e : Expr} {te : TE} {op : Operator} {ti : TIp} {pos' : Pos} (hN : X.N.Nodup) (hi : X.N[i]? = some x) (hx : Loc X.env.scope x) (he : PE X e te) (ho : PIp X op ti) (hf : X.fn x = true ∨ X.env.scope.names.lookup x = some .local := by first | exact .inl rfl | exact .inr rfl | assumption) :
    PS X (.AugAssign (.Name x pos') op e pos) (tAug i te ti) := by
  intro pins s σ H D I h
  obtain ⟨v, e1, h⟩ := h
  obtain ⟨m, hn, hl⟩ := I.loc
  have vis : Vis X.env.scope x := by rcases hx with k | k; exact .inl k; exact .inr (.inl k)
  obtain ⟨u, r, l⟩ := hl i x v hi e1 vis
  refine wpAny_AugAssign_Name ?_
  have go : wpAny (model X.prog X.w) X.A (eval e X.env) (fun w s₂ => wpAny (model X.prog X.w) X.A (inplaceOp op u w) (fun r s₃ => wpAny (model X.prog X.w) X.A (storeName X.env x r) (fun _ => SP X pins D .next) X.xe s₃) X.xe s₂) X.xe s := by
    refine thn (he pins s σ H _ I h) fun w s1 ⟨y, H1, I1, r1, q1⟩ => ?_
    refine thn (ho pins s1 σ H1 v y u w _ I1 r r1 q1) fun z s2 ⟨zv, H2, I2, r2, q2⟩ => ?_
    exact store_ok I2 hN hi hx r2 (fun s3 I3 => ⟨_, H2, I3, q2⟩) hf
  rcases l with ⟨hk, hm⟩ | ⟨hk, c, hc, hcell⟩
  · exact wpAny_loadName_local I.ok.kind hk hn hm go
  · rcases hk with hk | hk
    · exact wpAny_loadName_cell I.ok.kind hk hc hcell go
    · rcases hx with k | k
      · have : X.env.scope.names.lookup x = some .free := hk
        rw [k] at this; cases this
      · have : X.env.scope.names.lookup x = some .free := hk
        rw [k] at this; cases this
/-- ints -/
def ipI (f : Int → Int → Int) : TIp := fun x y H Q => ∃ i j, x = .int i ∧ y = .int j ∧ Q (.int (f i j)) H
theorem ip_add : PIp X .Add (ipI fun i j => i + j) := by
  intro pins s σ H x y v u Q I r1 r2 h
  obtain ⟨i, j, e1, e2, q⟩ := h
  subst e1; subst e2
  obtain ⟨t, rfl⟩ := r1
  obtain ⟨t', rfl⟩ := r2
  exact iadd_int ⟨.int _, H, I.tok _, ⟨_, rfl⟩, q⟩
end
section
variable {X : Cx} {pos : Pos}
/-- the invariant W with its measure -/
def tWhile (c : TT) (tb : TS) : TS := fun D σ H => ∃ W : Nat → St → Hp → Prop, (∃ m, W m σ H) ∧ ∀ m σ H, W m σ H →
  c σ H fun b H1 => if b = true then ∃ N : St → Hp → Prop, (∀ σ' H', N σ' H' → ∃ m', m' < m ∧ W m' σ' H') ∧ tb { D with nx := N, ct := N, bk := D.nx } σ H1 else D.nx σ H1
theorem ps_while {c : Expr} {body : List Stmt} {tc : TT} {tb : TS} (hp : PassesOwn (model X.prog X.w) X.A X.env X.xe) (hc : PT X c tc) (hb : PSs X body tb) : PS X (.While c body [] pos) (tWhile tc tb) := by
  intro pins s σ H D I h
  obtain ⟨W, ⟨m0, w0⟩, turn⟩ := h
  refine wpAny_While (codeAny_whileLoop (fun n s' => ∃ σ' H', Inv X pins σ' H' s' ∧ W n σ' H') ?_ m0 ⟨σ, H, I, w0⟩)
  rintro n s1 ⟨σ1, H1, I1, w1⟩
  refine wpAny_passesOwn hp (thn (hc pins s1 σ1 H1 _ I1 (turn n σ1 H1 w1)) fun b s2 ⟨H2, I2, q2⟩ => ?_)
  cases b with
  | true =>
    obtain ⟨N, hN, q2⟩ := q2
    rw [if_pos rfl]
    refine wpAny_passesOwn hp (thn (hb pins s2 σ1 H2 _ I2 q2) fun f s3 q3 => ?_)
    cases f with
    | next =>
      obtain ⟨σ3, H3, I3, n3⟩ := q3
      obtain ⟨m', hm, w3⟩ := hN σ3 H3 n3
      exact ⟨m', hm, σ3, H3, I3, w3⟩
    | cont =>
      obtain ⟨σ3, H3, I3, n3⟩ := q3
      obtain ⟨m', hm, w3⟩ := hN σ3 H3 n3
      exact ⟨m', hm, σ3, H3, I3, w3⟩
    | brk => exact q3
    | ret v => exact q3
  | false =>
    rw [if_neg Bool.false_ne_true]
    exact wpAny_execs_nil ⟨σ1, H2, I2, q2⟩
end
/-- at turn i: it yields x (the heap may grow), or it stops -/
structure It where
  go : Nat → Hp → Prop
  yld : Nat → Hp → V → Hp → Prop
  stop : Nat → Hp → Prop
/-- the iterator's own objects may turn: they are not the frame's, not pinned, younger than the entry (or a comprehension's own) -/
def FpOk (X : Cx) (pins : List (Addr × Obj)) (H : Hp) (b : Addr) : Prop :=
  H b = none ∧ b ≠ X.env.locals ∧ b ∉ X.fs ∧ (b ∈ X.ex ∨ X.s_0.heap.objs.size ≤ b) ∧ (∀ x c, X.env.cells.lookup x = some c → c ≠ b) ∧ ∀ p ∈ X.pn ++ pins, p.1 ≠ b
theorem Inv.fpOk {X : Cx} {pins : List (Addr × Obj)} {σ : St} {H H' : Hp} {s : Shared} {b : Addr} (I : Inv X pins σ H s) (hb : s.heap.objs.size ≤ b) (hn : H' b = none) : FpOk X pins H' b := by
  refine ⟨hn, Nat.ne_of_gt (Nat.lt_of_lt_of_le I.lt hb), I.nofs hb, .inr (Nat.le_trans I.sz hb), fun x c e z => ?_, fun p hp z => ?_⟩
  · obtain ⟨v, q⟩ := I.cell x c e
    exact absurd (Nat.lt_of_lt_of_le q.lt (by rw [z]; exact hb)) (Nat.lt_irrefl _)
  · exact absurd (Nat.lt_of_lt_of_le (Heap.lt_size (I.pin p hp).1) (by rw [z]; exact hb)) (Nat.lt_irrefl _)
structure Turn (P : Program) (w : World) (K : PySem.W.Frag) (tg : Expr) (J : It) (fp : List Addr) (it : Addr) (tn : Nat → Heap → Prop) : Prop where
  mem : it ∈ fp
  obj : ∀ i h, tn i h → ∀ b ∈ fp, ∃ o, h.get? b = some o ∧ ∀ v, o.data ≠ .cell v
  keep : ∀ i h h', tn i h → (∀ b ∈ fp, ∀ o, h.get? b = some o → h'.get? b = some o) → tn i h'
  item : ∀ (X : Cx), X.prog = P → X.w = w → X.K = K → X.calm = true → ∀ (i : Nat) (pins : List (Addr × Obj)) (s : Shared) (σ : St) (H : Hp) (E : Value → Shared → Prop), Inv X pins σ H s → (∀ b ∈ fp, FpOk X pins H b) → tn i s.heap → J.go i H →
    wpAny (model P w) X.A (pyNext (.ref it)) (fun r s1 => ∃ u, r = some u ∧
      wpAny (model P w) X.A (letOwnedTupleGo tg (.ref it) u) (fun _ s2 => ∃ x H', Inv X pins σ H' s2 ∧ RelV x u ∧ J.yld i H x H' ∧ tn (i + 1) s2.heap ∧ ∀ b ∈ fp, H' b = none) E s1) E s
  done : ∀ (X : Cx), X.prog = P → X.w = w → X.K = K → X.calm = true → ∀ (i : Nat) (pins : List (Addr × Obj)) (s : Shared) (σ : St) (H : Hp) (E : Value → Shared → Prop), Inv X pins σ H s → (∀ b ∈ fp, FpOk X pins H b) → tn i s.heap → J.stop i H →
    wpAny (model P w) X.A (pyNext (.ref it)) (fun r s1 => r = none ∧ Inv X pins σ H s1) E s
  self : ∀ (A : Around) (i : Nat) (s : Shared) (Q : Value → Shared → Prop) (E : Value → Shared → Prop), tn i s.heap → Q (.ref it) s → wpAny (model P w) A (pyIter (.ref it)) Q E s
abbrev TI := St → Hp → (It → Hp → Prop) → Prop
/-- an iterator has come -/
def PIE (X : Cx) (pins : List (Addr × Obj)) (σ : St) (tg : Expr) (R : It → Hp → Prop) (itv : Value) (s2 : Shared) : Prop :=
  ∃ (it : Addr) (fp : List Addr) (tn : Nat → Heap → Prop) (J : It) (H' : Hp), itv = .ref it ∧ Inv X pins σ H' s2 ∧ Turn X.prog X.w X.K tg J fp it tn ∧ tn 0 s2.heap ∧ (∀ b ∈ fp, FpOk X pins H' b) ∧ R J H'
def PI (X : Cx) (tg iter : Expr) (wi : TI) : Prop :=
  ∀ (pins : List (Addr × Obj)) (s : Shared) (σ : St) (H : Hp) (R : It → Hp → Prop), Inv X pins σ H s → wi σ H R →
    wpAny (model X.prog X.w) X.A (eval iter X.env) (fun v s1 => wpAny (model X.prog X.w) X.A (pyIter v) (PIE X pins σ tg R) X.xe s1) X.xe s
/-- the step ahead of the store is nothing for an iterator that keeps no tuple -/
theorem go_of {M : Model} {A : Around} {E : Value → Shared → Prop} {s : Shared} {tg : Expr} {it : Addr} {u : Value} {o : Obj} {n : String} {vs : Array Value} {Q : Unit → Shared → Prop} (ho : s.heap.get? it = some o) (hc : o.cls = .type n) (hd : o.data = .fields vs)
    (hn : ["enumerate", "zip", "dict_itemiterator", "dict_reverseitemiterator", "odict_iterator", "itertools.zip_longest", "itertools.pairwise"].contains n = false) (hQ : Q () s) : wpAny M A (letOwnedTupleGo tg (.ref it) u) Q E s := by
  unfold letOwnedTupleGo
  cases tg <;> first
    | exact wpAny_pure hQ
    | (cases u <;> first
        | exact wpAny_pure hQ
        | (refine wpAny_bind (wpAny_load ho ?_)
           rw [hc, hd]
           show wpAny M A (if (["enumerate", "zip", "dict_itemiterator", "dict_reverseitemiterator", "odict_iterator", "itertools.zip_longest", "itertools.pairwise"].contains n && vs[0]? == some (rawInt _)) = true then _ else _) Q E s
           rw [if_neg (by intro h; rw [hn, Bool.false_and] at h; cases h)]
           exact wpAny_pure hQ))
/-- the list at a, as it stands at each turn (a loop may append to it) -/
def Itl (K : PySem.W.Frag) (a : Addr) : It :=
  ⟨fun i H => ∃ xs x, SqL K H a xs ∧ xs[i]? = some x, fun i H x H' => H' = H ∧ ∀ xs, SqL K H a xs → xs[i]? = some x, fun i H => ∃ xs, SqL K H a xs ∧ xs.length ≤ i⟩
def Itt (K : PySem.W.Frag) (a : Addr) : It :=
  ⟨fun i H => ∃ xs x, SqT K H a xs ∧ xs[i]? = some x, fun i H x H' => H' = H ∧ ∀ xs, SqT K H a xs → xs[i]? = some x, fun i H => ∃ xs, SqT K H a xs ∧ xs.length ≤ i⟩
theorem turn_list {P : Program} {w : World} {K : PySem.W.Frag} {tg : Expr} (a it : Addr) : Turn P w K tg (Itl K a) [it] it (fun i h => h.IsListIter it a i) where
  mem := by simp
  obj := fun i h st b hb => by
    have e : b = it := by simpa using hb
    subst e
    obtain ⟨o, e, c, d⟩ := st
    exact ⟨o, e, fun v z => by rw [d] at z; cases z⟩
  keep := fun i h h' st k => st.at fun o e => k it (by simp) o e
  item := by
    intro X hP hw hK hc i pins s σ H E I hf st hg
    subst hP hw hK
    obtain ⟨xs, x, hq, hx⟩ := hg
    obtain ⟨its, rv, p, hz⟩ := I.list hq
    obtain ⟨u, hu, ru⟩ := rv.get hx
    obtain ⟨f0, f1, f2, f3, f4, f5⟩ := hf it (by simp)
    refine wpAny_pyNext_list_item st p.isList (x := u) (by simpa using hu) fun h' st' sb => ?_
    have I1 : Inv X pins σ H { s with heap := h' } := I.turned (t' := s.toks) (fun b o hb e => (sb.2 b hb).trans e) f0 f1 f3 f4 f5
    obtain ⟨o, e, c, d⟩ := id st'
    exact ⟨u, rfl, go_of (s := { s with heap := h' }) e c d (by decide) ⟨x, H, I1, ru, ⟨rfl, fun ys hy => by rw [I.list_inj hy hq]; exact hx⟩, st', fun b hb => (hf b hb).1⟩⟩
  done := by
    intro X hP hw hK hc i pins s σ H E I hf st hg
    subst hP hw hK
    obtain ⟨xs, hq, hx⟩ := hg
    obtain ⟨its, rv, p, hz⟩ := I.list hq
    obtain ⟨f0, f1, f2, f3, f4, f5⟩ := hf it (by simp)
    have hl := rv.length
    exact wpAny_pyNext_list_end (I.ok.hd hc) st p.isList (by simp; omega) fun h' eb => ⟨rfl, I.turned (t' := s.toks) (fun b o hb e => eb b o hb e) f0 f1 f3 f4 f5⟩
  self := fun _ _ _ _ _ st h => wpAny_pyIter_listiter st h
theorem turn_tuple {P : Program} {w : World} {K : PySem.W.Frag} {tg : Expr} (a it : Addr) : Turn P w K tg (Itt K a) [it] it (fun i h => h.IsTupleIter it a i) where
  mem := by simp
  obj := fun i h st b hb => by
    have e : b = it := by simpa using hb
    subst e
    obtain ⟨o, e, c, d⟩ := st
    exact ⟨o, e, fun v z => by rw [d] at z; cases z⟩
  keep := fun i h h' st k => st.at fun o e => k it (by simp) o e
  item := by
    intro X hP hw hK hc i pins s σ H E I hf st hg
    subst hP hw hK
    obtain ⟨xs, x, hq, hx⟩ := hg
    obtain ⟨its, rv, p, hz⟩ := I.tuple hq
    obtain ⟨u, hu, ru⟩ := rv.get hx
    obtain ⟨f0, f1, f2, f3, f4, f5⟩ := hf it (by simp)
    refine wpAny_pyNext_tuple_item st (show s.heap.IsTuple a its.toArray from p) (x := u) (by simpa using hu) fun h' st' sb => ?_
    have I1 : Inv X pins σ H { s with heap := h' } := I.turned (t' := s.toks) (fun b o hb e => (sb.2 b hb).trans e) f0 f1 f3 f4 f5
    obtain ⟨o, e, c, d⟩ := id st'
    exact ⟨u, rfl, go_of (s := { s with heap := h' }) e c d (by decide) ⟨x, H, I1, ru, ⟨rfl, fun ys hy => by rw [I.tuple_inj hy hq]; exact hx⟩, st', fun b hb => (hf b hb).1⟩⟩
  done := by
    intro X hP hw hK hc i pins s σ H E I hf st hg
    subst hP hw hK
    obtain ⟨xs, hq, hx⟩ := hg
    obtain ⟨its, rv, p, hz⟩ := I.tuple hq
    obtain ⟨f0, f1, f2, f3, f4, f5⟩ := hf it (by simp)
    have hl := rv.length
    exact wpAny_pyNext_tuple_end (I.ok.hd hc) st (show s.heap.IsTuple a its.toArray from p) (by simp; omega) fun h' eb => ⟨rfl, I.turned (t' := s.toks) (fun b o hb e => eb b o hb e) f0 f1 f3 f4 f5⟩
  self := fun _ _ _ _ _ st h => wpAny_pyIter_tupleiter st h
end L2
namespace L2
open PySem PySem.Spec PyProof.Rows
section
variable {X : Cx} {tg : Expr}
def iList (K : PySem.W.Frag) (tl : TE) : TI := fun σ H R => tl σ H fun x H1 => ∃ a, x = .ref a ∧ (∃ xs, SqL K H1 a xs) ∧ R (Itl K a) H1
def iTup (K : PySem.W.Frag) (tl : TE) : TI := fun σ H R => tl σ H fun x H1 => ∃ a, x = .ref a ∧ (∃ xs, SqT K H1 a xs) ∧ R (Itt K a) H1
theorem pi_list {l : Expr} {tl : TE} (hl : PE X l tl) : PI X tg l (iList X.K tl) := by
  intro pins s σ H R I h
  refine thn (hl pins s σ H _ I h) fun v s1 ⟨x, H1, I1, r1, q1⟩ => ?_
  obtain ⟨a, e, ⟨xs, hq⟩, q⟩ := q1
  subst e
  cases r1
  obtain ⟨its, rv, p, hz⟩ := I1.list hq
  refine wpAny_pyIter_list p.isList ?_
  refine ⟨s1.heap.objs.size, [s1.heap.objs.size], _, _, H1, rfl, I1.kept (t' := s1.toks) fun b o e => Heap.get?_push_of_some _ e, turn_list a _, ⟨_, Heap.get?_push_size _ rfl, rfl, rfl⟩, fun b hb => ?_, q⟩
  have e : b = s1.heap.objs.size := by simpa using hb
  subst e
  exact I1.fpOk (Nat.le_refl _) (I1.hok.fresh (Nat.le_refl _))
theorem pi_tup {l : Expr} {tl : TE} (hl : PE X l tl) : PI X tg l (iTup X.K tl) := by
  intro pins s σ H R I h
  refine thn (hl pins s σ H _ I h) fun v s1 ⟨x, H1, I1, r1, q1⟩ => ?_
  obtain ⟨a, e, ⟨xs, hq⟩, q⟩ := q1
  subst e
  cases r1
  obtain ⟨its, rv, p, hz⟩ := I1.tuple hq
  refine wpAny_pyIter_tuple (show s1.heap.IsTuple a its.toArray from p) ?_
  refine ⟨s1.heap.objs.size, [s1.heap.objs.size], _, _, H1, rfl, I1.kept (t' := s1.toks) fun b o e => Heap.get?_push_of_some _ e, turn_tuple a _, ⟨_, Heap.get?_push_size _ rfl, rfl, rfl⟩, fun b hb => ?_, q⟩
  have e : b = s1.heap.objs.size := by simpa using hb
  subst e
  exact I1.fpOk (Nat.le_refl _) (I1.hok.fresh (Nat.le_refl _))
/-- W: the invariant by the turn and a measure; N: what the body is to reach -/
def tFor (wi : TI) (g : TG) (tb : TS) : TS := fun D σ H => wi σ H fun J H1 => ∃ W : Nat → Nat → St → Hp → Prop, (∃ m, W 0 m σ H1) ∧ ∀ i m σ H, W i m σ H →
  (J.stop i H ∧ D.nx σ H) ∨ (J.go i H ∧ ∃ N : St → Hp → Prop, (∀ σ' H', N σ' H' → ∃ m', m' < m ∧ W (i + 1) m' σ' H') ∧ ∀ x H', J.yld i H x H' → g x σ H' fun σ2 H2 => tb { D with nx := N, ct := N, bk := D.nx } σ2 H2)
/-- the records at fp as they stand -/
def pinsAt (fp : List Addr) (h : Heap) : List (Addr × Obj) := fp.filterMap fun b => (h.get? b).map fun o => (b, o)
theorem mem_pinsAt {fp : List Addr} {h : Heap} {b : Addr} {o : Obj} (hb : b ∈ fp) (e : h.get? b = some o) : (b, o) ∈ pinsAt fp h := List.mem_filterMap.mpr ⟨b, hb, by rw [e]; rfl⟩
theorem of_pinsAt {fp : List Addr} {h : Heap} {p : Addr × Obj} (hp : p ∈ pinsAt fp h) : p.1 ∈ fp ∧ h.get? p.1 = some p.2 := by
  obtain ⟨b, hb, e⟩ := List.mem_filterMap.mp hp
  cases q : h.get? b with
  | none => rw [q] at e; cases e
  | some o =>
    rw [q] at e
    have e' : (b, o) = p := Option.some.inj e
    subst e'
    exact ⟨hb, q⟩
theorem Inv.pinned {pins : List (Addr × Obj)} {σ : St} {H : Hp} {s : Shared} {fp : List Addr} (I : Inv X pins σ H s) (hf : ∀ b ∈ fp, FpOk X pins H b) (ho : ∀ b ∈ fp, ∃ o, s.heap.get? b = some o ∧ ∀ v, o.data ≠ .cell v) : Inv X (pins ++ pinsAt fp s.heap) σ H s :=
  I.pins_of fun p hp => (List.mem_append.mp hp).elim (fun z => I.pin p (List.mem_append_right _ z)) fun z => by
    obtain ⟨hb, e⟩ := of_pinsAt z
    obtain ⟨f0, f1, f2, _⟩ := hf p.1 hb
    obtain ⟨o, e', d⟩ := ho p.1 hb
    rw [e] at e'; cases e'
    exact ⟨e, f0, f1, f2, d⟩
theorem Inv.unpinned {pins pl : List (Addr × Obj)} {σ : St} {H : Hp} {s : Shared} (I : Inv X (pins ++ pl) σ H s) : Inv X pins σ H s := I.pins_of fun p hp => I.pin p (List.mem_append_right _ (List.mem_append_left _ hp))
theorem ps_for {iter : Expr} {body : List Stmt} {wi : TI} {g : TG} {tb : TS} {pos : Pos} (hp : PassesOwn (model X.prog X.w) X.A X.env X.xe) (hc : X.calm = true) (hi : PI X tg iter wi) (hg : PG X tg g) (hb : PSs X body tb)
    (hs : ∀ x, foldedSetIterable iter X.env x = pure x := by intro _; rfl) : PS X (.For tg iter body [] pos) (tFor wi g tb) := by
  intro pins s σ H D I h
  refine wpAny_For (thn (hi pins s σ H _ I h) fun v s1 h1 => thn h1 fun itv s2 h2 => ?_) hs
  obtain ⟨it, fp, tn, J, H2, e, I2, T, st2, f2, W, ⟨m0, w0⟩, turn⟩ := h2
  subst e
  -- what stays true of the iterator's objects through the loop
  have stat : ∀ {H' : Hp}, (∀ b ∈ fp, H' b = none) → ∀ b ∈ fp, FpOk X pins H' b := fun hn b hb => ⟨hn b hb, (f2 b hb).2⟩
  refine codeAny_forLoop_any (fun n s' => ∃ i σ' H', Inv X pins σ' H' s' ∧ tn i s'.heap ∧ (∀ b ∈ fp, H' b = none) ∧ W i n σ' H') ?_ m0 ⟨0, σ, H2, I2, st2, fun b hb => (f2 b hb).1, w0⟩
  rintro n s3 ⟨i, σ3, H3, I3, st3, fr3, w3⟩
  rcases turn i n σ3 H3 w3 with ⟨stop, qn⟩ | ⟨go, N, hN, step⟩
  · refine wpAny_passesOwn hp (thn (T.done X rfl rfl rfl hc i pins s3 σ3 H3 X.xe I3 (stat fr3) st3 stop) fun r s4 ⟨hr, I4⟩ => ?_)
    subst hr
    exact wpAny_execs_nil ⟨σ3, H3, I4, qn⟩
  · refine wpAny_passesOwn hp (thn (T.item X rfl rfl rfl hc i pins s3 σ3 H3 X.xe I3 (stat fr3) st3 go) fun r s4 ⟨u, hr, h4⟩ => ?_)
    subst hr
    refine wpAny_passesOwn hp (thn h4 fun _ s5 ⟨x, H5, I5, r5, y5, st5, fr5⟩ => ?_)
    have I5' := I5.pinned (stat fr5) (T.obj _ _ st5)
    refine wpAny_passesOwn hp (thn (hg _ s5 σ3 H5 x u _ I5' r5 (step x H5 y5)) fun _ s6 ⟨σ6, H6, I6, q6⟩ => ?_)
    refine wpAny_passesOwn hp (thn (hb _ s6 σ6 H6 _ I6 q6) fun f s7 q7 => ?_)
    have again : ∀ {σ7 : St} {H7 : Hp}, Inv X (pins ++ pinsAt fp s5.heap) σ7 H7 s7 → N σ7 H7 → ∃ m, m < n ∧ ∃ i σ' H', Inv X pins σ' H' s7 ∧ tn i s7.heap ∧ (∀ b ∈ fp, H' b = none) ∧ W i m σ' H' := fun {σ7 H7} I7 n7 => by
      obtain ⟨m', hm, w7⟩ := hN σ7 H7 n7
      refine ⟨m', hm, i + 1, σ7, H7, I7.unpinned, T.keep _ _ _ st5 fun b hb o e => (I7.pin (b, o) (List.mem_append_right _ (List.mem_append_right _ (mem_pinsAt hb e)))).1, fun b hb => ?_, w7⟩
      obtain ⟨o, e, d⟩ := T.obj _ _ st5 b hb
      exact (I7.pin (b, o) (List.mem_append_right _ (List.mem_append_right _ (mem_pinsAt hb e)))).2.1
    cases f with
    | next => obtain ⟨σ7, H7, I7, n7⟩ := q7; exact again I7 n7
    | cont => obtain ⟨σ7, H7, I7, n7⟩ := q7; exact again I7 n7
    | brk => obtain ⟨σ7, H7, I7, q7⟩ := q7; exact ⟨σ7, H7, I7.unpinned, q7⟩
    | ret v => obtain ⟨x7, σ7, H7, I7, r7, q7⟩ := q7; exact ⟨x7, σ7, H7, I7.unpinned, r7, q7⟩
end
/-- over a list that the body leaves as it is -/
theorem for_list {K : PySem.W.Frag} {a : Addr} {xs : List V} {g : TG} {tb : TS} {D : Ends} {σ : St} {H : Hp} (Pv : Nat → St → Hp → Prop) (h0 : Pv 0 σ H) (hl : ∀ i σ H, i ≤ xs.length → Pv i σ H → SqL K H a xs)
    (hs : ∀ i x σ H, xs[i]? = some x → Pv i σ H → g x σ H fun σ2 H2 => tb { D with nx := Pv (i + 1), ct := Pv (i + 1), bk := D.nx } σ2 H2) (hd : ∀ σ H, Pv xs.length σ H → D.nx σ H) :
    ∃ W : Nat → Nat → St → Hp → Prop, (∃ m, W 0 m σ H) ∧ ∀ i m σ H, W i m σ H →
      ((Itl K a).stop i H ∧ D.nx σ H) ∨ ((Itl K a).go i H ∧ ∃ N : St → Hp → Prop, (∀ σ' H', N σ' H' → ∃ m', m' < m ∧ W (i + 1) m' σ' H') ∧ ∀ x H', (Itl K a).yld i H x H' → g x σ H' fun σ2 H2 => tb { D with nx := N, ct := N, bk := D.nx } σ2 H2) := by
  refine ⟨fun i m σ H => m = xs.length - i ∧ i ≤ xs.length ∧ Pv i σ H, ⟨xs.length, by simp, Nat.zero_le _, h0⟩, ?_⟩
  rintro i m σ H ⟨rfl, hi, p⟩
  have q := hl i σ H hi p
  by_cases hlt : i < xs.length
  · refine .inr ⟨⟨xs, xs[i], q, by simp [hlt]⟩, Pv (i + 1), fun σ' H' p' => ⟨xs.length - (i + 1), by omega, rfl, hlt, p'⟩, fun x H' y => ?_⟩
    obtain ⟨e, y⟩ := y
    subst e
    exact hs i x σ _ (y xs q) p
  · have e : i = xs.length := by omega
    subst e
    exact .inl ⟨⟨xs, q, Nat.le_refl _⟩, hd σ H p⟩
end L2
namespace L2
open PySem PySem.Spec PyProof.Rows
abbrev R2 := V → V → Hp → VK → Prop
/-- a two-place operation on values: f is binaryOp op, inplaceOp op or compareOp op -/
def OpR (X : Cx) (f : Value → Value → Sem Value) (r : R2) : Prop :=
  ∀ (pins : List (Addr × Obj)) (s : Shared) (σ : St) (H : Hp) (x y : V) (v u : Value) (Q : VK), Inv X pins σ H s → RelV x v → RelV y u → r x y H Q →
    wpAny (model X.prog X.w) X.A (f v u) (EP X pins σ Q) X.xe s
/-- a one-place operation -/
def UnR (X : Cx) (f : Value → Sem Value) (r : V → Hp → VK → Prop) : Prop :=
  ∀ (pins : List (Addr × Obj)) (s : Shared) (σ : St) (H : Hp) (x : V) (v : Value) (Q : VK), Inv X pins σ H s → RelV x v → r x H Q →
    wpAny (model X.prog X.w) X.A (f v) (EP X pins σ Q) X.xe s
/-- a call of a value that is known (a builtin, a type) with values -/
def CallR (X : Cx) (f : Value) (r : List V → Hp → VK → Prop) : Prop :=
  ∀ (pins : List (Addr × Obj)) (s : Shared) (σ : St) (H : Hp) (xs : List V) (us : List Value) (Q : VK), Inv X pins σ H s → Vals xs us → r xs H Q →
    wpAny (model X.prog X.w) X.A (call f us) (EP X pins σ Q) X.xe s
/-- a value's truth -/
def TruR (X : Cx) (r : V → Hp → (Bool → Hp → Prop) → Prop) : Prop :=
  ∀ (pins : List (Addr × Obj)) (s : Shared) (σ : St) (H : Hp) (x : V) (v : Value) (Q : Bool → Hp → Prop), Inv X pins σ H s → RelV x v → r x H Q →
    wpAny (model X.prog X.w) X.A (truthy v) (TP X pins σ Q) X.xe s
def tOp (r : R2) (ta tb : TE) : TE := fun σ H Q => ta σ H fun x H1 => tb σ H1 fun y H2 => r x y H2 Q
def tUn (r : V → Hp → VK → Prop) (ta : TE) : TE := fun σ H Q => ta σ H fun x H1 => r x H1 Q
/-- ints in, under C, and a value out -/
def rI (C : Int → Int → Prop) (g : Int → Int → V) : R2 := fun x y H Q => ∃ i j, x = .int i ∧ y = .int j ∧ C i j ∧ Q (g i j) H
def rI0 (g : Int → Int → V) : R2 := fun x y H Q => ∃ i j, x = .int i ∧ y = .int j ∧ Q (g i j) H
def rU (g : Int → V) : V → Hp → VK → Prop := fun x H Q => ∃ i, x = .int i ∧ Q (g i) H
section
variable {X : Cx} {a b c : Expr} {ta tb tc : TE} {pos : Pos}
theorem binT (ha : PE X a ta) (hb : PE X b tb) {pins : List (Addr × Obj)} {s : Shared} {σ : St} {H : Hp} {R : V → V → Hp → Prop} (I : Inv X pins σ H s)
    (h : ta σ H fun x H1 => tb σ H1 fun y H2 => R x y H2) {Q : Value → Shared → Prop} {f : Value → Value → Sem Value}
    (hf : ∀ v u s2 x y H2, Inv X pins σ H2 s2 → RelV x v → RelV y u → R x y H2 → wpAny (model X.prog X.w) X.A (f v u) Q X.xe s2) :
    wpAny (model X.prog X.w) X.A (eval a X.env) (fun v s₁ => wpAny (model X.prog X.w) X.A (eval b X.env) (fun u s₂ => wpAny (model X.prog X.w) X.A (f v u) Q X.xe s₂) X.xe s₁) X.xe s := by
  refine thn (ha pins s σ H _ I h) fun v s1 ⟨x, H1, I1, r1, q1⟩ => ?_
  refine thn (hb pins s1 σ H1 _ I1 q1) fun u s2 ⟨y, H2, I2, r2, q2⟩ => ?_
  exact hf v u s2 x y H2 I2 r1 r2 q2
theorem pe_op {op : Operator} {r : R2} (ho : OpR X (binaryOp op) r) (ha : PE X a ta) (hb : PE X b tb) : PE X (.BinOp a op b pos) (tOp r ta tb) := by
  intro pins s σ H Q I h
  exact wpAny_BinOp (binT ha hb I h fun v u s2 x y H2 I2 rx ry q => ho pins s2 σ H2 x y v u Q I2 rx ry q)
theorem pe_un {op : UnaryOp} {r : V → Hp → VK → Prop} (ho : UnR X (unaryOp op) r) (ha : PE X a ta) : PE X (.UnaryOp op a pos) (tUn r ta) := by
  intro pins s σ H Q I h
  exact UnaryOp_ (thn (ha pins s σ H _ I h) fun v s1 ⟨x, H1, I1, r1, q1⟩ => ho pins s1 σ H1 x v Q I1 r1 q1)
theorem opI {f : Value → Value → Sem Value} {C : Int → Int → Prop} {g : Int → Int → Int}
    (rule : ∀ (i j : Int) (t u : Tok) (s : Shared) (Q : Value → Shared → Prop) (E : Value → Shared → Prop), C i j → Q (.int (g i j) s.toks) { s with toks := s.toks + 1 } → wpAny (model X.prog X.w) X.A (f (.int i t) (.int j u)) Q E s) :
    OpR X f (rI C fun i j => .int (g i j)) := by
  intro pins s σ H x y v u Q I rx ry h
  obtain ⟨i, j, rfl, rfl, hc, q⟩ := h
  obtain ⟨t, rfl⟩ := rx
  obtain ⟨t', rfl⟩ := ry
  exact rule i j t t' s _ _ hc ⟨.int (g i j), H, I.tok _, ⟨_, rfl⟩, q⟩
theorem opI0 {f : Value → Value → Sem Value} {g : Int → Int → Int}
    (rule : ∀ (i j : Int) (t u : Tok) (s : Shared) (Q : Value → Shared → Prop) (E : Value → Shared → Prop), Q (.int (g i j) s.toks) { s with toks := s.toks + 1 } → wpAny (model X.prog X.w) X.A (f (.int i t) (.int j u)) Q E s) :
    OpR X f (rI0 fun i j => .int (g i j)) := by
  intro pins s σ H x y v u Q I rx ry h
  obtain ⟨i, j, rfl, rfl, q⟩ := h
  obtain ⟨t, rfl⟩ := rx
  obtain ⟨t', rfl⟩ := ry
  exact rule i j t t' s _ _ ⟨.int (g i j), H, I.tok _, ⟨_, rfl⟩, q⟩
theorem opB0 {f : Value → Value → Sem Value} {g : Int → Int → Bool}
    (rule : ∀ (i j : Int) (t u : Tok) (s : Shared) (Q : Value → Shared → Prop) (E : Value → Shared → Prop), Q (.bool (g i j)) s → wpAny (model X.prog X.w) X.A (f (.int i t) (.int j u)) Q E s) :
    OpR X f (rI0 fun i j => .bl (g i j)) := by
  intro pins s σ H x y v u Q I rx ry h
  obtain ⟨i, j, rfl, rfl, q⟩ := h
  obtain ⟨t, rfl⟩ := rx
  obtain ⟨t', rfl⟩ := ry
  exact rule i j t t' s _ _ ⟨.bl (g i j), H, I, rfl, q⟩
theorem op_add : OpR X (binaryOp .Add) (rI0 fun i j => .int (i + j)) := opI0 fun _ _ _ _ _ _ _ q => add_int q
theorem op_sub : OpR X (binaryOp .Sub) (rI0 fun i j => .int (i - j)) := opI0 fun _ _ _ _ _ _ _ q => sub_int q
/-- % by a positive divisor of any size -/
theorem op_mod : OpR X (binaryOp .Mod) (rI (fun _ j => 0 < j) fun i j => .int (i % j)) := opI fun i j _ _ _ _ _ hc q => by
  have h1 : (0 : Int) < j := hc
  exact mod_int' (by omega) (by rw [Int.fmod_eq_emod_of_nonneg i (by omega)]; exact q)
theorem unI {f : Value → Sem Value} {g : Int → Int}
    (rule : ∀ (i : Int) (t : Tok) (s : Shared) (Q : Value → Shared → Prop) (E : Value → Shared → Prop), Q (.int (g i) s.toks) { s with toks := s.toks + 1 } → wpAny (model X.prog X.w) X.A (f (.int i t)) Q E s) :
    UnR X f (rU fun i => .int (g i)) := by
  intro pins s σ H x v Q I rx h
  obtain ⟨i, rfl, q⟩ := h
  obtain ⟨t, rfl⟩ := rx
  exact rule i t s _ _ ⟨.int (g i), H, I.tok _, ⟨_, rfl⟩, q⟩
theorem un_neg : UnR X (unaryOp .USub) (rU fun i => .int (-i)) := unI fun _ _ _ _ _ q => neg_int q
end
/-- the scalars that == tells apart as data does -/
def scal : V → V → Bool
  | .non, .non => true | .non, .int _ => true | .int _, .non => true | .non, .bl _ => true | .bl _, .non => true | .non, .str _ => true | .str _, .non => true
  | .int _, .int _ => true | .bl _, .bl _ => true | .str _, .str _ => true | .byt _, .byt _ => true
  | .int _, .str _ => true | .str _, .int _ => true | .bl _, .str _ => true | .str _, .bl _ => true
  | _, _ => false
def rEq : R2 := fun x y H Q => scal x y = true ∧ Q (.bl (decide (x = y))) H
def rNe : R2 := fun x y H Q => scal x y = true ∧ Q (.bl (!decide (x = y))) H
theorem dec_int {i j : Int} : decide (V.int i = V.int j) = (i == j) := by
  rw [Bool.eq_iff_iff]
  simp
theorem dec_bl {i j : Bool} : decide (V.bl i = V.bl j) = (i == j) := by
  rw [Bool.eq_iff_iff]
  simp
theorem dec_str {i j : Str} : decide (V.str i = V.str j) = (i == j) := by
  rw [Bool.eq_iff_iff]
  simp
theorem dec_byt {i j : Array UInt8} : decide (V.byt i = V.byt j) = (i.toList == j.toList) := by
  rw [Bool.eq_iff_iff]
  cases i
  cases j
  simp
section
variable {X : Cx} {a b c : Expr} {ta tb tc : TE} {pos : Pos}
theorem fin_bl {pins : List (Addr × Obj)} {σ : St} {H : Hp} {s : Shared} {Q : VK} {k k' : Bool} (I : Inv X pins σ H s) (q : Q (.bl k) H) (e : k = k') : EP X pins σ Q (.bool k') s := by
  subst e
  exact ⟨.bl k, H, I, rfl, q⟩
theorem op_eq : OpR X (compareOp .Eq) rEq := by
  intro pins s σ H x y v u Q I rx ry h
  obtain ⟨hs, q⟩ := h
  cases x with
  | non =>
    cases rx
    cases y with
    | non => cases ry; exact PySem.EqNone.eq_none_none (fin_bl I q (by simp))
    | bl j => cases ry; exact PySem.EqNone.eq_none_bool (fin_bl I q (by simp))
    | int j => obtain ⟨t', rfl⟩ := ry; exact PySem.EqNone.eq_none_int (fin_bl I q (by simp))
    | str j => obtain ⟨t', rfl⟩ := ry; exact PySem.EqNone.eq_none_str (fin_bl I q (by simp))
    | _ => exact absurd (show false = true from hs) Bool.false_ne_true
  | bl i =>
    cases rx
    cases y with
    | non => cases ry; exact PySem.EqNone.eq_bool_none (fin_bl I q (by simp))
    | bl j => cases ry; exact eq_bool (fin_bl I q dec_bl)
    | str j => obtain ⟨t', rfl⟩ := ry; exact PySem.EqMixed.eq_bool_str (fin_bl I q (by simp))
    | _ => exact absurd (show false = true from hs) Bool.false_ne_true
  | int i =>
    obtain ⟨t, rfl⟩ := rx
    cases y with
    | non => cases ry; exact PySem.EqNone.eq_int_none (fin_bl I q (by simp))
    | int j => obtain ⟨t', rfl⟩ := ry; exact eq_int (fin_bl I q dec_int)
    | str j => obtain ⟨t', rfl⟩ := ry; exact PySem.EqMixed.eq_int_str (fin_bl I q (by simp))
    | _ => exact absurd (show false = true from hs) Bool.false_ne_true
  | str i =>
    obtain ⟨t, rfl⟩ := rx
    cases y with
    | non => cases ry; exact PySem.EqNone.eq_str_none (fin_bl I q (by simp))
    | bl j => cases ry; exact PySem.EqMixed.eq_str_bool (fin_bl I q (by simp))
    | int j => obtain ⟨t', rfl⟩ := ry; exact PySem.EqMixed.eq_str_int (fin_bl I q (by simp))
    | str j => obtain ⟨t', rfl⟩ := ry; exact eq_str (fin_bl I q dec_str)
    | _ => exact absurd (show false = true from hs) Bool.false_ne_true
  | byt i =>
    obtain ⟨t, rfl⟩ := rx
    cases y with
    | byt j => obtain ⟨t', rfl⟩ := ry; exact PySem.W.eq_bytes (fin_bl I q dec_byt)
    | _ => exact absurd (show false = true from hs) Bool.false_ne_true
  | _ => cases y <;> exact absurd (show false = true from hs) Bool.false_ne_true
theorem op_ne : OpR X (compareOp .NotEq) rNe := by
  intro pins s σ H x y v u Q I rx ry h
  obtain ⟨hs, q⟩ := h
  cases x with
  | non =>
    cases rx
    cases y with
    | non => cases ry; exact PySem.EqNone.ne_none_none (fin_bl I q (by simp))
    | bl j => cases ry; exact PySem.EqNone.ne_none_bool (fin_bl I q (by simp))
    | int j => obtain ⟨t', rfl⟩ := ry; exact PySem.EqNone.ne_none_int (fin_bl I q (by simp))
    | str j => obtain ⟨t', rfl⟩ := ry; exact PySem.EqNone.ne_none_str (fin_bl I q (by simp))
    | _ => exact absurd (show false = true from hs) Bool.false_ne_true
  | bl i =>
    cases rx
    cases y with
    | non => cases ry; exact PySem.EqNone.ne_bool_none (fin_bl I q (by simp))
    | bl j => cases ry; exact ne_bool (fin_bl I q (congrArg not dec_bl))
    | str j => obtain ⟨t', rfl⟩ := ry; exact PySem.EqMixed.ne_bool_str (fin_bl I q (by simp))
    | _ => exact absurd (show false = true from hs) Bool.false_ne_true
  | int i =>
    obtain ⟨t, rfl⟩ := rx
    cases y with
    | non => cases ry; exact PySem.EqNone.ne_int_none (fin_bl I q (by simp))
    | int j => obtain ⟨t', rfl⟩ := ry; exact ne_int (fin_bl I q (congrArg not dec_int))
    | str j => obtain ⟨t', rfl⟩ := ry; exact PySem.EqMixed.ne_int_str (fin_bl I q (by simp))
    | _ => exact absurd (show false = true from hs) Bool.false_ne_true
  | str i =>
    obtain ⟨t, rfl⟩ := rx
    cases y with
    | non => cases ry; exact PySem.EqNone.ne_str_none (fin_bl I q (by simp))
    | bl j => cases ry; exact PySem.EqMixed.ne_str_bool (fin_bl I q (by simp))
    | int j => obtain ⟨t', rfl⟩ := ry; exact PySem.EqMixed.ne_str_int (fin_bl I q (by simp))
    | str j => obtain ⟨t', rfl⟩ := ry; exact ne_str (fin_bl I q (congrArg not dec_str))
    | _ => exact absurd (show false = true from hs) Bool.false_ne_true
  | byt i =>
    obtain ⟨t, rfl⟩ := rx
    cases y with
    | byt j => obtain ⟨t', rfl⟩ := ry; exact PySem.W.ne_bytes (fin_bl I q (congrArg not dec_byt))
    | _ => exact absurd (show false = true from hs) Bool.false_ne_true
  | _ => cases y <;> exact absurd (show false = true from hs) Bool.false_ne_true
theorem op_lt : OpR X (compareOp .Lt) (rI0 fun i j => .bl (decide (i < j))) := opB0 fun _ _ _ _ _ _ _ q => lt_int q
theorem op_le : OpR X (compareOp .LtE) (rI0 fun i j => .bl (decide (i ≤ j))) := opB0 fun _ _ _ _ _ _ _ q => le_int q
theorem op_gt : OpR X (compareOp .Gt) (rI0 fun i j => .bl (decide (j < i))) := opB0 fun _ _ _ _ _ _ _ q => gt_int q
/-- is None, is not None: the right side a value none -/
theorem op_isN : OpR X (compareOp .Is) (fun x y H Q => y = .non ∧ Q (.bl (decide (x = .non))) H) := by
  intro pins s σ H x y v u Q I rx ry h
  obtain ⟨rfl, q⟩ := h
  cases ry
  refine is_none_gen (fin_bl I q ?_)
  cases x <;> first
    | (cases rx; rfl)
    | (obtain ⟨t, rfl⟩ := rx; rfl)
theorem op_notN : OpR X (compareOp .IsNot) (fun x y H Q => y = .non ∧ Q (.bl (!decide (x = .non))) H) := by
  intro pins s σ H x y v u Q I rx ry h
  obtain ⟨rfl, q⟩ := h
  cases ry
  refine isnot_none_gen (fin_bl I q ?_)
  cases x <;> first
    | (cases rx; rfl)
    | (obtain ⟨t, rfl⟩ := rx; rfl)
theorem nomark (b : Expr) {op : CmpOp} (h : op ≠ .In := by decide) (h2 : op ≠ .NotIn := by decide) : behindInMarks op b = false := by
  have e1 : (op == CmpOp.In) = false := by cases op <;> first | rfl | exact absurd rfl h
  have e2 : (op == CmpOp.NotIn) = false := by cases op <;> first | rfl | exact absurd rfl h2
  cases b <;> simp [behindInMarks, e1, e2]
/-- a comparison as a value; hm: nomark b, or (for in, not in) by with_unfolding_all rfl -/
theorem pe_cmpR {op : CmpOp} {r : R2} (ho : OpR X (compareOp op) r) (ha : PE X a ta) (hb : PE X b tb) (hm : behindInMarks op b = false) : PE X (.Compare a [op] [b] pos) (tOp r ta tb) := by
  intro pins s σ H Q I h
  exact wpAny_Compare1 (binT ha hb I h fun v u s2 x y H2 I2 rx ry q => ho pins s2 σ H2 x y v u Q I2 rx ry q) hm
/-- a reading of a value as a test -/
def tTest (t : TE) : TT := fun σ H Q => t σ H fun x H' => ∃ k, x = .bl k ∧ Q k H'
theorem pt_cmpR {op : CmpOp} {r : R2} (ho : OpR X (compareOp op) r) (ha : PE X a ta) (hb : PE X b tb) (hm : behindInMarks op b = false) : PT X (.Compare a [op] [b] pos) (tTest (tOp r ta tb)) := by
  intro pins s σ H Q I h
  refine wpAny_isTrue_Compare1 (thn (ha pins s σ H _ I h) fun v s1 ⟨x, H1, I1, r1, q1⟩ => thn (hb pins s1 σ H1 _ I1 q1) fun u s2 ⟨y, H2, I2, r2, q2⟩ =>
    thn (ho pins s2 σ H2 x y v u _ I2 r1 r2 q2) fun c s3 ⟨z, H3, I3, r3, k, e, q3⟩ => ?_) hm
  subst e
  cases r3
  exact wpAny_truthy_bool ⟨H3, I3, q3⟩
/-- a value's truth by the abstract heap -/
def TruV (K : PySem.W.Frag) (x : V) (H : Hp) (k : Bool) : Prop :=
  match x with
  | .non => k = false
  | .bl b => k = b
  | .int i => k = (i != 0)
  | .str y => y.length ≤ sizeLine ∧ k = ((y.length : Int) != 0)
  | .byt y => y.size ≤ sizeLine ∧ k = ((y.size : Int) != 0)
  | .ref p => (∃ xs, SqL K H p xs ∧ k = !xs.isEmpty) ∨ (∃ xs, SqT K H p xs ∧ k = !xs.isEmpty) ∨ ∃ kvs, H p = some (.dK kvs) ∧ k = !kvs.isEmpty
  | _ => False
theorem isEmpty_kv {κ : Type} {kvs : List (κ × V)} {vs : List (κ × Value)} (r : KV kvs vs) : (!vs.isEmpty) = !kvs.isEmpty := by
  cases r <;> rfl
theorem isEmpty_of {xs : List V} {its : List Value} (r : Vals xs its) : (!its.toArray.isEmpty) = !xs.isEmpty := by
  cases r <;> simp
theorem line63 : (sizeLine : Nat) < 2 ^ 63 := by rw [sizeLine_eq]; decide
theorem tru_ok : TruR X (fun x H Q => ∃ k, TruV X.K x H k ∧ Q k H) := by
  intro pins s σ H x v Q I rx h
  obtain ⟨k, e, q⟩ := h
  have hl := line63
  have hs : sizeLine = 16777216 := sizeLine_eq
  cases x with
  | non =>
    cases rx
    have e' : k = false := e
    subst e'
    exact truthy_none ⟨H, I, q⟩
  | bl b =>
    cases rx
    have e' : k = b := e
    subst e'
    exact wpAny_truthy_bool ⟨H, I, q⟩
  | int i =>
    obtain ⟨t, rfl⟩ := rx
    have e' : k = (i != 0) := e
    subst e'
    exact PySem.P.truthy_int ⟨H, I, q⟩
  | str y =>
    obtain ⟨t, rfl⟩ := rx
    obtain ⟨hy, e'⟩ : y.length ≤ sizeLine ∧ k = ((y.length : Int) != 0) := e
    subst e'
    exact PySem.P.truthy_str (by omega) ⟨H, I.tok _, q⟩
  | byt y =>
    obtain ⟨t, rfl⟩ := rx
    obtain ⟨hy, e'⟩ : y.size ≤ sizeLine ∧ k = ((y.size : Int) != 0) := e
    subst e'
    exact PySem.W.truthy_bytes (by omega) ⟨H, I.tok _, q⟩
  | ref p =>
    cases rx
    have e' : (∃ xs, SqL X.K H p xs ∧ k = !xs.isEmpty) ∨ (∃ xs, SqT X.K H p xs ∧ k = !xs.isEmpty) ∨ ∃ kvs, H p = some (.dK kvs) ∧ k = !kvs.isEmpty := e
    rcases e' with ⟨xs, hx, e'⟩ | ⟨xs, hx, e'⟩ | ⟨kvs, hx, e'⟩
    · subst e'
      obtain ⟨its, r, pl, hz⟩ := I.list hx
      have hlen := r.length
      exact wpAny_truthy_list pl.isList (by simp only [List.size_toArray]; omega) ⟨H, I.tok _, by rw [isEmpty_of r]; exact q⟩
    · subst e'
      obtain ⟨its, r, pl, hz⟩ := I.tuple hx
      have hlen := r.length
      exact truthy_tuple pl (by simp only [List.size_toArray]; omega) ⟨H, I.tok _, by rw [isEmpty_of r]; exact q⟩
    · subst e'
      obtain ⟨hz, hS, vs, r, m⟩ : kvs.length ≤ sizeLine ∧ (p == sysModules) = false ∧ ∃ vs, KV kvs vs ∧ s.heap.DictOf (mixKind X.prog X.w) p vs := I.hok p _ hx
      have hlen : kvs.length = vs.length := Paired.length r
      exact wpAny_truthy_dict hS m (by omega) ⟨H, I.tok _, by rw [isEmpty_kv r]; exact q⟩
  | _ => exact (show False from e).elim
/-- any expression whose test is its value's truth (a name, a call, a subscript, a field ..: he by fun _ => rfl) -/
theorem pt_truth (ha : PE X a ta) (he : ∀ whole, isTrue a X.env whole = (do let v ← whole; standAt a.pos; holding [v] (truthy v))) :
    PT X a (fun σ H Q => ta σ H fun x H' => ∃ k, TruV X.K x H' k ∧ Q k H') := by
  intro pins s σ H Q I h
  exact isTrue_plain (thn (ha pins s σ H _ I h) fun v s1 ⟨x, H1, I1, r1, q1⟩ => tru_ok pins s1 σ H1 x v Q I1 r1 q1) (he _)
theorem vals1 {x : V} {us : List Value} (r : Vals [x] us) : ∃ u, us = [u] ∧ RelV x u := by
  cases r with
  | cons r1 r2 => cases r2; exact ⟨_, rfl, r1⟩
theorem vals2 {x y : V} {us : List Value} (r : Vals [x, y] us) : ∃ u w', us = [u, w'] ∧ RelV x u ∧ RelV y w' := by
  cases r with
  | cons r1 r2 =>
    cases r2 with
    | cons r3 r4 => cases r4; exact ⟨_, _, rfl, r1, r3⟩
theorem call_abs : CallR X (.builtin "abs") (fun xs H Q => ∃ i, xs = [.int i] ∧ Q (.int (if i < 0 then -i else i)) H) := by
  intro pins s σ H xs us Q I r h
  obtain ⟨i, rfl, q⟩ := h
  obtain ⟨u, rfl, t, rfl⟩ := vals1 r
  exact call_abs_int fun u tk => ⟨.int (if i < 0 then -i else i), H, I.tok _, ⟨_, rfl⟩, q⟩
end
end L2
namespace L2
open PySem PySem.Spec PyProof.Rows
structure ObjM (h : Heap) (x dx C : Addr) (mA : Str → Option Value) : Prop where
  obj : h.get? x = some (PySem.W.instObj C dx)
  ns : h.Ns1 dx mA
  ne : dx ≠ x
theorem lookIn_ns {h : Heap} {dx : Addr} {mA : Str → Option Value} (n : h.Ns1 dx mA) : ∃ od, h.get? dx = some od ∧ ∀ name, PySem.W.lookIn name od = some (mA name) := by
  obtain ⟨o, es, ep, ho, hd, hk, _, hm⟩ := n
  refine ⟨o, ho, fun name => ?_⟩
  have e := hm name
  unfold nsFind findBy at e
  rw [← Array.find?_toList] at e
  unfold PySem.W.lookIn
  rw [hd]
  dsimp only
  split
  · rename_i y q
    rw [q] at e
    exact congrArg some e
  · rename_i q
    rw [q] at e
    have a : es.toList.any (·.refKey) = false := by
      rw [List.any_eq_false]
      intro y hy
      obtain ⟨z, t, hkey⟩ := hk y (Array.mem_toList_iff.mp hy)
      simp [DictEntry.refKey, hkey]
    have a' : ¬ es.toList.any (·.refKey) = true := by rw [a]; exact Bool.false_ne_true
    rw [if_neg a']
    exact congrArg some e
theorem ObjM.look {h : Heap} {x dx C : Addr} {mA : Str → Option Value} (I : ObjM h x dx C mA) : ∃ od, PySem.W.InstAt h x (PySem.W.instObj C dx) C (some od) ∧ ∀ name, PySem.W.lookIn name od = some (mA name) :=
  let ⟨od, ho, hl⟩ := lookIn_ns I.ns
  ⟨od, ⟨I.obj, rfl, rfl, ho⟩, hl⟩
section
variable {prog : Program} {w : World} {A : Around} {E : Value → Shared → Prop} {s : Shared} {K : PySem.W.Frag} {x dx C f : Addr} {mA : Str → Option Value} {name : Str} {v : Value}
theorem get_map {expr : Bool} {Q : Value → Shared → Prop} (X : K.In s.heap) (I : ObjM s.heap x dx C mA) (hg : PySem.W.plainGet K C name = true) (hh : PySem.W.hasDictIn K C = true)
    (ha : PySem.W.findIn K (.ref C) name = some none) (hv : mA name = some v) (hv' : PySem.W.handedIn v = true) (h : Q v { s with toks := s.toks + 1 }) :
    wpAny (model prog w) A (getAttr (.ref x) name expr) Q E s := by
  obtain ⟨od, J, hl⟩ := I.look
  exact PySem.W.get_value X J (PySem.W.plainGet_of hg).1 (PySem.W.findObj_own hh ha rfl (by rw [hl, hv])) hv' h
theorem get_meth {pl : Sem Bool} {Q : Value × List Value → Shared → Prop} (X : K.In s.heap) (I : ObjM s.heap x dx C mA) (hg : PySem.W.plainGet K C name = true)
    (hf : PySem.W.findIn K (.ref C) name = some (some (.ref f))) (ht : PySem.W.isFn K (.ref f) = true) (hv : mA name = none) (h : Q (.ref f, [.ref x]) s) :
    wpAny (model prog w) A (getMethod (.ref x) name pl) Q E s := by
  obtain ⟨od, J, hl⟩ := I.look
  exact PySem.W.method_fn X J (PySem.W.plainGet_of hg).1 (PySem.W.plainGet_of hg).2 hf (beq_iff_eq.mp ht) (by show (PySem.W.lookIn name od).map (·.isSome) = some false; rw [hl, hv]; rfl) h
theorem set_map {ns : List Str} {Q : Unit → Shared → Prop} (X : K.In s.heap) (I : ObjM s.heap x dx C mA)
    (hs : PySem.W.findIn K (.ref C) "__setattr__" = some (some (.builtin "object.__setattr__"))) (hp : PySem.W.plainOver K C = true) (ht : PySem.W.takerIn K C name = some none) (hh : PySem.W.hasDictIn K C = true)
    (hw : PySem.Within mA ns) (hsz : ns.length ≤ sizeLine)
    (h : ∀ h', ObjM h' x dx C (fun y => if y = name then some v else mA y) → Heap.SameBut dx s.heap h' → Q () { s with heap := h', toks := s.toks + 2 }) :
    wpAny (model prog w) A (setAttr (.ref x) name v) Q E s := by
  obtain ⟨od, J, hl⟩ := I.look
  refine PySem.W.set_plain X J hs (PySem.W.osa_open (s := { s with toks := s.toks + 1 }) (r := none) X J hp ht fun b => ?_)
  obtain ⟨cd, hc, hd'⟩ := PySem.W.any_some hh
  have hx : s.heap.get? x = some ⟨.ref C, some dx, .plain, #[]⟩ := I.obj
  refine wpAny_bind (wpAny_pure (wpAny_bind (wpAny_bind (wpAny_loadPart hx (wpAny_bind (PySem.W.Looks.here (s := { s with toks := s.toks + 1 }) (PySem.W.looks_clsIn X hc) ?_))))))
  rw [hd']
  refine wpAny_pure (a := some dx) (wpAny_bind (wpAny_pure (wpAny_bind ?_)))
  refine wpAny_nsSet1 (s := { s with toks := s.toks + 1 }) I.ns fun h' hn2 hs2 => ?_
  obtain ⟨oD, esD, epD, hoD, hdD, hcD⟩ := hn2.count (PySem.Within.cons name v hw)
  refine wpAny_bind (wpAny_lookBehind hoD (by rw [hdD]; exact pastItsLine_dict (Nat.le_trans hcD (by rw [List.length_cons]; omega))) ?_)
  exact wpAny_pure (h _ ⟨(hs2.2 _ (Ne.symm I.ne)).trans I.obj, hn2, I.ne⟩ hs2)
/-- C(..): the dict at the heap's end, the instance behind it; then its __init__ -/
theorem make_map {R : Result → Shared → Prop} {vs : List Value} {kw : List (Str × Value)} (X : K.In s.heap) (hm : PySem.W.makesIn K C = true)
    (hi : PySem.W.findIn K (.ref C) "__init__" = some (some (.ref f))) (hf : PySem.W.typeIn K (.ref f) = some (.type "function"))
    (h : codeAny (model prog w) (A.under (.builtin "type.__call__" ⟨.ref C :: vs, kw⟩)) (.call (.ref f) ⟨.ref (s.heap.objs.size + 1) :: vs, kw⟩) (PySem.W.InitBack (s.heap.objs.size + 1) R)
      { s with heap := (s.heap.push PySem.W.emptyDict).push (PySem.W.instObj C s.heap.objs.size) }) :
    codeAny (model prog w) A (.call (.ref C) ⟨vs, kw⟩) R s := by
  obtain ⟨hh, g, d, t, os⟩ := s
  exact PySem.W.make_core (PySem.W.makes_of X hm) (PySem.W.looks_findIn X hi) (fun self => PySem.W.bind_fn X self hf) (.inl rfl) h
end
def putF (f : Str) (v : V) : List (Str × V) → List (Str × V)
  | [] => [(f, v)]
  | (g, x) :: r => if g = f then (g, v) :: r else (g, x) :: putF f v r
theorem lookup_putF (f g : Str) (v : V) : ∀ fs : List (Str × V), (putF f v fs).lookup g = if g = f then some v else fs.lookup g
  | [] => by
    show List.lookup g [(f, v)] = _
    by_cases h : g = f
    · have hb : (g == f) = true := beq_iff_eq.mpr h
      simp only [List.lookup, hb, if_pos h]
    · have hb : (g == f) = false := beq_eq_false_iff_ne.mpr h
      simp only [List.lookup, hb, if_neg h]
  | (k, x) :: r => by
    have ih := lookup_putF f g v r
    rw [show putF f v ((k, x) :: r) = (if k = f then (k, v) :: r else (k, x) :: putF f v r) from rfl]
    by_cases hk : k = f
    · rw [if_pos hk]
      by_cases h : g = k
      · have hb : (g == k) = true := beq_iff_eq.mpr h
        simp only [List.lookup, hb, if_pos (h.trans hk)]
      · have hb : (g == k) = false := beq_eq_false_iff_ne.mpr h
        simp only [List.lookup, hb, if_neg (fun e : g = f => h (e.trans hk.symm))]
    · rw [if_neg hk]
      by_cases h : g = k
      · have hb : (g == k) = true := beq_iff_eq.mpr h
        simp only [List.lookup, hb, if_neg (fun e : g = f => hk (h.symm.trans e))]
      · have hb : (g == k) = false := beq_eq_false_iff_ne.mpr h
        simp only [List.lookup, hb]
        exact ih
theorem keys_putF (f : Str) (v : V) : ∀ fs : List (Str × V), f ∈ (putF f v fs).map (·.1) ∧ ∀ g, g ∈ fs.map (·.1) → g ∈ (putF f v fs).map (·.1)
  | [] => ⟨by simp [putF], fun g h => by simp at h⟩
  | (k, x) :: r => by
    obtain ⟨i1, i2⟩ := keys_putF f v r
    rw [show putF f v ((k, x) :: r) = (if k = f then (k, v) :: r else (k, x) :: putF f v r) from rfl]
    by_cases hk : k = f
    · rw [if_pos hk]
      subst hk
      exact ⟨by simp, fun g h => by simpa using h⟩
    · rw [if_neg hk]
      refine ⟨?_, fun g h => ?_⟩
      · rw [List.map_cons]
        exact List.mem_cons_of_mem _ i1
      · rw [List.map_cons] at h ⊢
        rcases List.mem_cons.mp h with e | e
        · exact List.mem_cons.mpr (.inl e)
        · exact List.mem_cons_of_mem _ (i2 g e)
theorem length_putF (f : Str) (v : V) : ∀ fs : List (Str × V), (putF f v fs).length ≤ fs.length + 1
  | [] => by simp [putF]
  | (k, x) :: r => by
    have ih := length_putF f v r
    rw [show putF f v ((k, x) :: r) = (if k = f then (k, v) :: r else (k, x) :: putF f v r) from rfl]
    by_cases hk : k = f
    · rw [if_pos hk, List.length_cons, List.length_cons]; omega
    · rw [if_neg hk, List.length_cons, List.length_cons]; omega
theorem RelO.some_of {v : V} {o : Option Value} (r : RelO (some v) o) : ∃ u, o = some u ∧ RelV v u := by
  cases o with
  | none => exact (show False from r).elim
  | some u => exact ⟨u, rfl, r⟩
theorem RelO.none_of {o : Option Value} (r : RelO none o) : o = none := by
  cases o with
  | none => rfl
  | some u => exact (show False from r).elim
theorem handed_of {v : V} {u : Value} (r : RelV v u) : PySem.W.handedIn u = true := by
  cases v with
  | non => cases (show u = Value.none from r); rfl
  | bl b => cases (show u = Value.bool b from r); rfl
  | int i => obtain ⟨t, e⟩ := (show ∃ t, u = Value.int i t from r); cases e; rfl
  | str x => obtain ⟨t, e⟩ := (show ∃ t, u = Value.str x t from r); cases e; rfl
  | byt b => obtain ⟨t, e⟩ := (show ∃ t, u = Value.bytes b t from r); cases e; rfl
  | flt b => obtain ⟨t, e⟩ := (show ∃ t, u = Value.float b t from r); cases e; rfl
  | ref a => cases (show u = Value.ref a from r); rfl
  | ty n => cases (show u = Value.type n from r); rfl
section
variable {P : Program} {w : World} {H H' : Hp} {h h' : Heap} {a C dx : Addr} {fs fs' : List (Str × V)}
theorem ins_get (hok : HOk P w H h) (e : H a = some (.ins C dx fs)) : ∃ mA, ObjM h a dx C mA ∧ (∀ f, RelO (fs.lookup f) (mA f)) ∧ PySem.Within mA (fs.map (·.1)) ∧ fs.length ≤ 1000 ∧ H dx = some (.own a) := by
  obtain ⟨d, z, ne, ob, mA, n, r, q⟩ := (show ObjOk P w H h a (.ins C dx fs) from hok a _ e)
  exact ⟨mA, ⟨ob, n, ne⟩, r, q, z, d⟩
end
structure Cls (K : PySem.W.Frag) (C : Addr) : Prop where
  pg : PySem.W.plainGet K C Str.empty = true
  hd : PySem.W.hasDictIn K C = true
  po : PySem.W.plainOver K C = true
  sa : PySem.W.findIn K (.ref C) "__setattr__" = some (some (.builtin "object.__setattr__"))
theorem Cls.get {K : PySem.W.Frag} {C : Addr} (c : Cls K C) (f : Str) : PySem.W.plainGet K C f = true := c.pg
/-- no class of it has the name -/
def NoAttr (K : PySem.W.Frag) (C : Addr) (f : Str) : Prop := PySem.W.findIn K (.ref C) f = some none
theorem NoAttr.taker {K : PySem.W.Frag} {C : Addr} {f : Str} (n : NoAttr K C f) : PySem.W.takerIn K C f = some none := by
  unfold PySem.W.takerIn
  rw [show PySem.W.findIn K (.ref C) f = some none from n]
  rfl
/-- a method: a plain def of the class or of one above it -/
structure Meth (K : PySem.W.Frag) (C : Addr) (m : Str) (f : Addr) : Prop where
  at_ : PySem.W.findIn K (.ref C) m = some (some (.ref f))
  fn : PySem.W.isFn K (.ref f) = true
  kp : PySem.W.keepIn K (.ref f) = true
section
variable {X : Cx} {pins : List (Addr × Obj)} {σ : St} {H : Hp} {s : Shared} {a C dx : Addr} {fs : List (Str × V)} {f : Str} {v : V} {A : Around} {E : Value → Shared → Prop}
theorem getattr_ok {b : Bool} {Q : Value → Shared → Prop} (I : Inv X pins σ H s) (e : H a = some (.ins C dx fs)) (c : Cls X.K C) (n : NoAttr X.K C f) (l : fs.lookup f = some v)
    (h : ∀ u s', Inv X pins σ H s' → RelV v u → Q u s') : wpAny (model X.prog X.w) A (getAttr (.ref a) f b) Q E s := by
  obtain ⟨mA, O, r, _, _, _⟩ := ins_get I.hok e
  obtain ⟨u, hu, ru⟩ := RelO.some_of (v := v) (o := mA f) (by rw [← l]; exact r f)
  exact get_map I.kIn O (c.get f) c.hd n hu (handed_of ru) (h u _ (I.tok _) ru)
theorem getmeth_ok {m : Str} {g : Addr} {pl : Sem Bool} {Q : Value × List Value → Shared → Prop} (I : Inv X pins σ H s) (e : H a = some (.ins C dx fs)) (c : Cls X.K C) (k : Meth X.K C m g) (l : fs.lookup m = none)
    (h : Q (.ref g, [.ref a]) s) : wpAny (model X.prog X.w) A (getMethod (.ref a) m pl) Q E s := by
  obtain ⟨mA, O, r, _, _, _⟩ := ins_get I.hok e
  have hn : mA m = none := RelO.none_of (by rw [← l]; exact r m)
  exact get_meth I.kIn O (c.get m) k.at_ k.fn hn h
theorem setattr_ok {y : V} {u : Value} {Q : Unit → Shared → Prop} (I : Inv X pins σ H s) (e : H a = some (.ins C dx fs)) (c : Cls X.K C) (n : NoAttr X.K C f) (hl : fs.length < 1000) (ry : RelV y u)
    (h : ∀ s', Inv X pins σ (upd H a (.ins C dx (putF f y fs))) s' → Q () s') : wpAny (model X.prog X.w) A (setAttr (.ref a) f u) Q E s := by
  obtain ⟨mA, O, r, wi, _, ho⟩ := ins_get I.hok e
  have hz : (fs.map (·.1)).length ≤ sizeLine := by rw [List.length_map, sizeLine_eq]; omega
  refine set_map I.kIn O c.sa c.po n.taker c.hd wi hz fun h' O' sb => h _ ?_
  have hd : ∃ o, h'.get? dx = some o := let ⟨o, _, _, e', _⟩ := O'.ns; ⟨o, e'⟩
  refine I.write (x := a) (e := dx) (by rw [e]; exact True.intro) (.inr ho) (fun b q hb z => (sb.2 b hb).trans z) hd ?_
  refine ⟨by rw [upd_ne O.ne]; exact ho, ?_, O.ne, O'.obj, _, O'.ns, fun g => ?_, fun g hg => ?_⟩
  · have := length_putF f y fs; omega
  · show RelO ((putF f y fs).lookup g) (if g = f then some u else mA g)
    rw [lookup_putF]
    by_cases q : g = f
    · rw [if_pos q, if_pos q]; exact ry
    · rw [if_neg q, if_neg q]; exact r g
  · by_cases q : g = f
    · rw [q]; exact (keys_putF f y fs).1
    · refine (keys_putF f y fs).2 g (wi g fun z => hg ?_)
      show (if g = f then some u else mA g) = none
      rw [if_neg q]; exact z
/-- a new instance, tracked, without attributes -/
theorem Inv.made (I : Inv X pins σ H s) : Inv X pins σ (upd (upd H s.heap.objs.size (.own (s.heap.objs.size + 1))) (s.heap.objs.size + 1) (.ins C s.heap.objs.size []))
    { s with heap := (s.heap.push PySem.W.emptyDict).push (PySem.W.instObj C s.heap.objs.size) } := by
  have e1 : (s.heap.push PySem.W.emptyDict).get? s.heap.objs.size = some PySem.W.emptyDict := Heap.get?_push_size s.heap rfl
  have e2 : ((s.heap.push PySem.W.emptyDict).push (PySem.W.instObj C s.heap.objs.size)).get? (s.heap.objs.size + 1) = some (PySem.W.instObj C s.heap.objs.size) := by
    have := Heap.get?_push_size (s.heap.push PySem.W.emptyDict) (o := PySem.W.instObj C s.heap.objs.size) rfl
    rwa [Heap.size_push] at this
  have e3 : (s.heap.push PySem.W.emptyDict).Ns s.heap.objs.size (fun _ => none) := ⟨PySem.W.emptyDict, #[], _, e1, rfl, (fun e he => absurd he (by simp)), fun _ => rfl⟩
  have I1 := I.laid (a := s.heap.objs.size) (o := .own (s.heap.objs.size + 1)) (h' := s.heap.push PySem.W.emptyDict) (t' := s.toks) (fun b u q => Heap.get?_push_of_some _ q) (Nat.le_refl _) ⟨_, e1⟩
  refine I1.laid (a := s.heap.objs.size + 1) (o := .ins C s.heap.objs.size []) (t' := s.toks) (fun b u q => Heap.get?_push_of_some _ q) (Nat.le_of_eq (Heap.size_push _ _)) ?_
  have ne : s.heap.objs.size ≠ s.heap.objs.size + 1 := Nat.ne_of_lt (Nat.lt_succ_self _)
  refine ⟨by rw [upd_ne ne, upd_same], Nat.zero_le _, ne, e2, fun _ => none, (Heap.Ns1.of_empty e3).at fun o q => Heap.get?_push_of_some _ q, fun _ => True.intro, fun y hy => absurd rfl hy⟩
/-- e.f where nothing but the object is asked: through attributeBase (super) and the last hold -/
theorem attr_of {prog : Program} {w : World} {env : Env} {e : Expr} {f : Str} {pos : Pos} {s : Shared} {Q : Value → Shared → Prop} (hb : attributeBase e f env (eval e env) = eval e env)
    (h : wpAny (model prog w) A (eval e env) (fun o s₁ => wpAny (model prog w) A (getAttr o f true) Q E s₁) E s) : wpAny (model prog w) A (eval (.Attribute e f pos) env) Q E s :=
  Attribute_any_ h (by rw [arm_eval_Attribute, hb])
end
/-- e.f, an attribute of the instance -/
def tFld (K : PySem.W.Frag) (ta : TE) (f : Str) : TE := fun σ H Q => ta σ H fun x H1 => ∃ a C dx fs v, x = .ref a ∧ H1 a = some (.ins C dx fs) ∧ Cls K C ∧ NoAttr K C f ∧ fs.lookup f = some v ∧ Q v H1
/-- e.f = value -/
def sFld (K : PySem.W.Frag) (ta tv : TE) (f : Str) : TS := fun D σ H => tv σ H fun y H1 => ta σ H1 fun x H2 => ∃ a C dx fs, x = .ref a ∧ H2 a = some (.ins C dx fs) ∧ Cls K C ∧ NoAttr K C f ∧ fs.length < 1000 ∧
  D.nx σ (upd H2 a (.ins C dx (putF f y fs)))
section
variable {X : Cx} {o e value : Expr} {f : Str} {pos pos' tpos : Pos} {ta tv : TE}
theorem pe_fld (he : PE X e ta) (hb : attributeBase e f X.env (eval e X.env) = eval e X.env) : PE X (.Attribute e f pos) (tFld X.K ta f) := by
  intro pins s σ H Q I h
  refine attr_of hb (thn (he pins s σ H _ I h) fun u s1 ⟨x, H1, I1, rx, a, C, dx, fs, v, ex, ea, c, n, l, q⟩ => ?_)
  subst ex
  obtain rfl : u = Value.ref a := rx
  exact getattr_ok I1 ea c n l fun u' s2 I2 ru => ⟨v, H1, I2, ru, q⟩
theorem ps_fld (ha : PE X o ta) (hv : PE X value tv) (hs : swapsWith value (some (.Attribute o f pos')) pos.line X.env = pure false) : PS X (.Assign [.Attribute o f pos'] value pos) (sFld X.K ta tv f) := by
  intro pins s σ H D I h
  refine plainObj_wpAny_Assign_Attribute (thn (hv pins s σ H _ I h) fun u s1 ⟨y, H1, I1, ry, q⟩ => thn (ha pins s1 σ H1 _ I1 q) fun ov s2 ⟨x, H2, I2, rx, a, C, dx, fs, ex, ea, c, n, l, q2⟩ => ?_) hs
  subst ex
  obtain rfl : ov = Value.ref a := rx
  exact setattr_ok I2 ea c n l ry fun s3 I3 => ⟨σ, _, I3, q2⟩
/-- what is between an instance and its method: the tree of a method call -/
theorem methcall_of {pl : Sem Bool} {m : Str} {apos : Pos} {args : List Expr} {pins : List (Addr × Obj)} {s : Shared} {σ : St} {H : Hp} {Q : Value → Shared → Prop} {te : TE} (he : PE X e te) (I : Inv X pins σ H s)
    (h : te σ H fun x H1 => ∃ a C dx fs g, x = .ref a ∧ H1 a = some (.ins C dx fs) ∧ Cls X.K C ∧ Meth X.K C m g ∧ fs.lookup m = none ∧
      ∀ s1, Inv X pins σ H1 s1 → wpAny (model X.prog X.w) X.A (callWith pos (.ref g) [.ref a] (backTo pos (starEach args X.env)) (backToKw pos (keywordEach [] X.env))) Q X.xe s1)
    (ht : eval (.Call (.Attribute e m apos) args [] pos) X.env = (do
      let ov ← eval e X.env
      standAt apos.atName
      let (f, first) ← holding [ov] (getMethod ov m pl)
      callWith pos f first (backTo pos (starEach args X.env)) (backToKw pos (keywordEach [] X.env)))) :
    wpAny (model X.prog X.w) X.A (eval (.Call (.Attribute e m apos) args [] pos) X.env) Q X.xe s := by
  refine PySem.W.methodCall_KW (pl := pl) (thn (he pins s σ H _ I h) fun u s1 ⟨x, H1, I1, rx, a, C, dx, fs, g, ex, ea, c, k, l, q⟩ => ?_) ht
  subst ex
  obtain rfl : u = Value.ref a := rx
  exact getmeth_ok I1 ea c k l (q s1 I1)
end
end L2
namespace L2
open PySem PySem.Spec PyProof.Rows
structure Room (k : Nat) (A : Around) : Prop where
  hd : A.handled = none
  dp : A.depth + 3 * k + 5 < recursionLimit
  un : A.units + 16 * k + 200 < cLine
theorem Room.mono {j k : Nat} {A : Around} (r : Room k A) (h : j ≤ k) : Room j A := ⟨r.hd, by have := r.dp; omega, by have := r.un; omega⟩
theorem Room.deeper {k : Nat} {A : Around} (r : Room (k + 1) A) (env : Env) : Room k (A.deeper env) :=
  ⟨r.hd, by have := r.dp; show A.depth + 1 + 3 * k + 5 < _; omega, by have := r.un; show A.units + 3 + 16 * k + 200 < _; omega⟩
theorem make_depth {A : Around} {C : Addr} {us : List Value} {kw : List (Str × Value)} : (A.under (.builtin "type.__call__" ⟨.ref C :: us, kw⟩)).depth = A.depth + 1 := by
  first | rfl | simp [Around.under, Code.weight, Code.isCreation, Code.isGuard, Code.isCaller, Code.frames, Code.isFrame, guardIds]
theorem make_units {A : Around} {C : Addr} {us : List Value} {kw : List (Str × Value)} : (A.under (.builtin "type.__call__" ⟨.ref C :: us, kw⟩)).units = A.units + 1 := by
  first | rfl | simp [Around.under, Code.cUnits, Code.frames, Code.isFrame]
theorem Room.make {k : Nat} {A : Around} (r : Room (k + 1) A) (C : Addr) (us : List Value) (kw : List (Str × Value)) : Room k (A.under (.builtin "type.__call__" ⟨.ref C :: us, kw⟩)) :=
  ⟨r.hd, by have := r.dp; rw [make_depth]; omega, by have := r.un; rw [make_units]; omega⟩
theorem Room.depth {k : Nat} {A : Around} (r : Room k A) : A.depth < recursionLimit := by have := r.dp; omega
theorem Room.units {k : Nat} {A : Around} (r : Room k A) : A.units + 64 < cLine := by have := r.un; omega
def tNil : TA := fun _ H Q => Q [] H
def tCons (ta : TE) (tr : TA) : TA := fun σ H Q => ta σ H fun x H1 => tr σ H1 fun xs H2 => Q (x :: xs) H2
section
variable {X : Cx} {e : Expr} {es : List Expr} {te : TE} {t : TA} {pos : Pos}
theorem pa_nil : PA X [] tNil := fun _ _ _ _ H Q I h => Calls.spliced_nil ⟨[], H, I, .nil, h⟩
theorem pa_cons (ha : PE X e te) (hr : PA X es t) (hs : starEach (e :: es) X.env = (false, eval e X.env) :: starEach es X.env := by rfl) : PA X (e :: es) (tCons te t) := by
  intro pos pins s σ H Q I h
  rw [hs]
  show wpAny _ _ (spliced ((false, eval e X.env) :: backTo pos (starEach es X.env))) _ _ s
  refine Calls.spliced_cons (thn (ha pins s σ H _ I h) fun u s1 ⟨x, H1, I1, r1, q1⟩ => ?_)
  exact thn (hr pos pins s1 σ H1 _ I1 q1) fun us s2 ⟨xs, H2, I2, r2, q2⟩ => ⟨x :: xs, H2, I2, .cons r1 r2, q2⟩
/-- a tuple, a list of written items -/
def tTup (t : TA) : TE := fun σ H Q => t σ H fun xs H1 => xs.length ≤ sizeLine ∧ ∀ p, H1 p = none → Q (.ref p) (upd H1 p (.tup xs))
def tLst (t : TA) : TE := fun σ H Q => t σ H fun xs H1 => xs.length ≤ sizeLine ∧ ∀ p, H1 p = none → Q (.ref p) (upd H1 p (.lst xs))
theorem pe_tup {x1} (h : PA X es t) : PE X (.Tuple es x1 pos) (tTup t) := by
  intro pins s σ H Q I hq
  refine wpAny_Tuple_spliced (thn (h pos pins s σ H _ I hq) fun us s1 ⟨xs, H1, I1, r, z, q⟩ => ⟨by rw [← r.length]; exact z, ?_⟩)
  have hf : H1 s1.heap.objs.size = none := I1.hok.fresh (Nat.le_refl _)
  refine ⟨.ref s1.heap.objs.size, upd H1 s1.heap.objs.size (.tup xs), I1.laid (t' := s1.toks) (fun b u e => Heap.get?_push_of_some _ e) (Nat.le_refl _) ?_, rfl, q _ hf⟩
  exact ⟨z, us, r, ⟨_, Heap.get?_push_size _ rfl, rfl, _, rfl⟩⟩
theorem pe_lst (h : PA X es t) : PE X (.List es pos) (tLst t) := by
  intro pins s σ H Q I hq
  refine wpAny_List_spliced (thn (h pos pins s σ H _ I hq) fun us s1 ⟨xs, H1, I1, r, z, q⟩ => ⟨by rw [← r.length]; exact z, ?_⟩)
  have hf : H1 s1.heap.objs.size = none := I1.hok.fresh (Nat.le_refl _)
  refine ⟨.ref s1.heap.objs.size, upd H1 s1.heap.objs.size (.lst xs), I1.laid (t' := s1.toks) (fun b u e => Heap.get?_push_of_some _ e) (Nat.le_refl _) ?_, rfl, q _ hf⟩
  exact ⟨z, us, 0, r, Heap.get?_push_size _ rfl⟩
end
/-- a def's promise: the bound arguments in the parameters' order, the heap, the wanted end, the wanted exception -/
abbrev Sp := List V → Hp → VK → XK → Prop
/-- how an exception lies behind a call (file 08 gives it): the callers' frames, abstract heap and state ahead of the call, the wish, the exception, the state -/
abbrev CXT := List Env → Hp → Shared → XK → Value → Shared → Prop
/-- the state at a call -/
structure Env0 (P : Program) (w : World) (K : PySem.W.Frag) (mg : Str → Option Value) (base : Heap) (A : Around) (outer : List Env) (s : Shared) (H : Hp) : Prop where
  frames : A.frames = some outer
  mod : Mod K mg base
  bs : ∀ b o, base.get? b = some o → s.heap.get? b = some o ∧ H b = none
  bsz : base.objs.size ≤ s.heap.objs.size
  funs : s.heap.FunFrames base outer
  frf : ∀ b ∈ frs outer, H b = none
  hok : HOk P w H s.heap
  bare : AllBare s.gens
/-- a call's end -/
def CE (outer : List Env) (P : Program) (w : World) (H : Hp) (s : Shared) (Q : VK) (u : Value) (s' : Shared) : Prop :=
  ∃ v H', s'.os = s.os ∧ AllBare s'.gens ∧ Un (frs outer) [] H H' s.heap s'.heap ∧ HOk P w H' s'.heap ∧ RelV v u ∧ Q v H'
def CR (CX : CXT) (outer : List Env) (P : Program) (w : World) (H : Hp) (s : Shared) (Q : VK) (E : XK) (r : Result) (s' : Shared) : Prop :=
  match r with
  | .ok (.ret u) => CE outer P w H s Q u s'
  | .ok _ => False
  | .error e => CX outer H s E e s'
structure FnOk (P : Program) (w : World) (K : PySem.W.Frag) (mg : Str → Option Value) (base : Heap) (CX : CXT) (k : Nat) (f : Addr) (fd : FuncData) (ps : List Str) (sp : Sp) : Prop where
  len : ∀ vs H Q E, sp vs H Q E → vs.length = ps.length
  run : ∀ (A : Around) (outer : List Env) (s : Shared) (H : Hp) (args : Args) (us : List Value) (vs : List V) (Q : VK) (E : XK), Room k A → Env0 P w K mg base A outer s H → BindsTo s fd args (ps.zip us) → Vals vs us → sp vs H Q E →
    codeAny (model P w) A (.call (.ref f) args) (CR CX outer P w H s Q E) s
theorem Env0.make {P : Program} {w : World} {K : PySem.W.Frag} {mg : Str → Option Value} {base : Heap} {A : Around} {outer : List Env} {s : Shared} {H : Hp} (e : Env0 P w K mg base A outer s H) (C : Addr) (us : List Value) (kw : List (Str × Value)) :
    Env0 P w K mg base (A.under (.builtin "type.__call__" ⟨.ref C :: us, kw⟩)) outer s H := ⟨by first | exact e.frames | (simpa [Around.under, Code.envs, Code.isFrame, pushEnvs] using e.frames), e.mod, e.bs, e.bsz, e.funs, e.frf, e.hok, e.bare⟩
section
variable {X : Cx} {pins : List (Addr × Obj)} {σ : St} {H : Hp} {s s' : Shared}
/-- from a body: what a callee wants -/
theorem Inv.env0 (I : Inv X pins σ H s) : Env0 X.prog X.w X.K X.mg X.base X.A X.stack s H :=
  ⟨I.ok.frames, I.ok.mod, I.bs, Nat.le_trans I.ok.bsz I.sz, I.stack, I.stkFree, I.hok, I.bare⟩
/-- behind a call -/
theorem Inv.after {Q : VK} {u : Value} (I : Inv X pins σ H s) (h : CE X.stack X.prog X.w H s Q u s') : EP X pins σ Q u s' := by
  obtain ⟨v, H', os, bare, un, hok, r, q⟩ := h
  obtain ⟨hh, g, d, t, os'⟩ := s'
  obtain rfl : os' = s.os := os
  exact ⟨v, H', I.call (h' := hh) (g' := g) (d' := d) (t' := t) (ch := []) un hok bare (fun b z => absurd z (by simp)), r, q⟩
end
/-- f(..): the written arguments, then the defaults dvs; E: what is wanted of an exception -/
def tCall (sp : Sp) (dvs : List V) (E : XK) (t : TA) : TE := fun σ H Q => t σ H fun vs H1 => sp (vs ++ dvs) H1 Q E
/-- o.m(..) of an instance of the class at C -/
def tMeth (C : Addr) (m : Str) (sp : Sp) (dvs : List V) (E : XK) (ta : TE) (t : TA) : TE := fun σ H Q => ta σ H fun x H1 => ∃ a dx fs, x = .ref a ∧ H1 a = some (.ins C dx fs) ∧ fs.lookup m = none ∧
  t σ H1 fun vs H2 => sp (x :: (vs ++ dvs)) H2 Q E
/-- C(..): a new instance and its dict, then __init__ -/
def tMake (C : Addr) (sp : Sp) (dvs : List V) (E : XK) (t : TA) : TE := fun σ H Q => t σ H fun vs H1 => ∀ x dx, H1 x = none → H1 dx = none → dx ≠ x →
  sp (.ref x :: (vs ++ dvs)) (upd (upd H1 dx (.own x)) x (.ins C dx [])) (fun v H2 => v = .non ∧ Q (.ref x) H2) E
/-- how the parameters are bound: us the positional arguments, kw the keywords' values by name, ds the defaults that fill up -/
def Binds (K : PySem.W.Frag) (fd : FuncData) (ps : List Str) (ds : List Value) : Prop :=
  ∀ (s : Shared) (us : List Value), K.In s.heap → (us ++ ds).length = ps.length → BindsTo s fd ⟨us, []⟩ (ps.zip (us ++ ds))
/-- every parameter is given -/
theorem Binds.all {K : PySem.W.Frag} {fd : FuncData} {ps : List Str} (h : ∀ us : List Value, us.length = ps.length → bindArgs fd ⟨us, []⟩ = pure (ps.zip us)) : Binds K fd ps [] := fun s us _ hl => by
  rw [List.append_nil] at hl ⊢
  exact .of_eq (h us hl)
/-- an exception of a callee reaches what this body wants of exceptions -/
def Passes (CX : CXT) (X : Cx) (E : XK) : Prop := ∀ (pins : List (Addr × Obj)) (σ : St) (H : Hp) (s : Shared) (e : Value) (s' : Shared), Inv X pins σ H s → CX X.stack H s E e s' → X.xe e s'
section
variable {X : Cx} {CX : CXT} {k : Nat} {f C : Addr} {fd : FuncData} {ps : List Str} {sp : Sp} {dvs : List V} {ds : List Value} {E : XK} {x m : Str} {p pos apos : Pos} {e o : Expr} {es : List Expr} {ta : TE} {t : TA}
/-- the callee runs -/
theorem run_fn {pins : List (Addr × Obj)} {σ : St} {H : Hp} {s : Shared} {Q : VK} {us : List Value} {vs : List V} (F : FnOk X.prog X.w X.K X.mg X.base CX k f fd ps sp) (hr : Room k X.A) (hb : Binds X.K fd ps ds) (hd : Vals dvs ds) (hx : Passes CX X E)
    (I : Inv X pins σ H s) (r : Vals vs us) (h : sp (vs ++ dvs) H Q E) : wpAny (model X.prog X.w) X.A (call (.ref f) us) (EP X pins σ Q) X.xe s := by
  have r2 : Vals (vs ++ dvs) (us ++ ds) := r.append hd
  have hl : (us ++ ds).length = ps.length := by rw [← r2.length]; exact F.len _ _ _ _ h
  refine wpAny_call (codeAny_mono (F.run X.A X.stack s H ⟨us, []⟩ (us ++ ds) (vs ++ dvs) Q E hr I.env0 (hb s us I.kIn hl) r2 h) fun r s' hq => ?_)
  cases r with
  | error e => exact hx pins σ H s e s' I hq
  | ok fl =>
    cases fl with
    | ret u => exact I.after hq
    | next => exact False.elim hq
    | brk => exact False.elim hq
    | cont => exact False.elim hq
theorem pe_call (F : FnOk X.prog X.w X.K X.mg X.base CX k f fd ps sp) (hr : Room k X.A) (hg : Gl X x) (hm : X.mg x = some (.ref f)) (hk : PySem.W.keepIn X.K (.ref f) = true) (hb : Binds X.K fd ps ds) (hd : Vals dvs ds) (hx : Passes CX X E)
    (ha : PA X (e :: es) t) (hdb : (x == ("__debug__" : Str)) = false := by decide) (he : starEach (e :: es) X.env = (false, eval e X.env) :: starEach es X.env := by rfl) (hpl : (backTo pos (starEach es X.env)).any (·.1) = false := by rfl) :
    PE X (.Call (.Name x p) (e :: es) [] pos) (tCall sp dvs E t) := by
  intro pins s σ H Q I h
  refine wpAny_Call_Name_kw (ld_glob I hg hm ?_ hdb)
  refine PySem.W.callWith_K (h₀ := X.base) I.ok.mod.kin hk (thn (ha pos pins s σ H _ I h) fun us s1 ⟨vs, H1, I1, r, q⟩ => ⟨I1.kIn, ?_⟩) he hpl
  exact run_fn F hr hb hd hx I1 r q
/-- o.m(e, ..) -/
theorem pe_meth {pl : Sem Bool} (he : PE X o ta) (c : Cls X.K C) (hm : Meth X.K C m f) (F : FnOk X.prog X.w X.K X.mg X.base CX k f fd ps sp) (hr : Room k X.A) (hb : Binds X.K fd ps ds) (hd : Vals dvs ds) (hx : Passes CX X E) (ha : PA X (e :: es) t)
    (hst : starEach (e :: es) X.env = (false, eval e X.env) :: starEach es X.env := by rfl) (hpl : (backTo pos (starEach es X.env)).any (·.1) = false := by rfl)
    (ht : eval (.Call (.Attribute o m apos) (e :: es) [] pos) X.env = (do
      let ov ← eval o X.env
      standAt apos.atName
      let (f, first) ← holding [ov] (getMethod ov m pl)
      callWith pos f first (backTo pos (starEach (e :: es) X.env)) (backToKw pos (keywordEach [] X.env))) := by rfl) :
    PE X (.Call (.Attribute o m apos) (e :: es) [] pos) (tMeth C m sp dvs E ta t) := by
  intro pins s σ H Q I h
  refine PySem.W.methodCall_KW (pl := pl) (thn (he pins s σ H _ I h) fun u s1 ⟨x, H1, I1, rx, a, dx, fs, ex, ea, l, q⟩ => ?_) ht
  subst ex
  obtain rfl : u = Value.ref a := rx
  refine getmeth_ok I1 ea c hm l ?_
  refine PySem.W.callWith_K (first := [.ref a]) (h₀ := X.base) I.ok.mod.kin hm.kp (thn (ha pos pins s1 σ H1 _ I1 q) fun us s2 ⟨vs, H2, I2, r, q2⟩ => ⟨I2.kIn, ?_⟩) hst hpl
  exact run_fn (us := .ref a :: us) (vs := .ref a :: vs) F hr hb hd hx I2 (.cons rfl r) q2
/-- o.m() -/
theorem pe_meth0 {pl : Sem Bool} (he : PE X o ta) (c : Cls X.K C) (hm : Meth X.K C m f) (F : FnOk X.prog X.w X.K X.mg X.base CX k f fd ps sp) (hr : Room k X.A) (hb : Binds X.K fd ps ds) (hd : Vals dvs ds) (hx : Passes CX X E)
    (ht : eval (.Call (.Attribute o m apos) [] [] pos) X.env = (do
      let ov ← eval o X.env
      standAt apos.atName
      let (f, first) ← holding [ov] (getMethod ov m pl)
      callWith pos f first (backTo pos (starEach [] X.env)) (backToKw pos (keywordEach [] X.env))) := by rfl) :
    PE X (.Call (.Attribute o m apos) [] [] pos) (tMeth C m sp dvs E ta tNil) := by
  intro pins s σ H Q I h
  refine PySem.W.methodCall_KW (pl := pl) (thn (he pins s σ H _ I h) fun u s1 ⟨x, H1, I1, rx, a, dx, fs, ex, ea, l, q⟩ => ?_) ht
  subst ex
  obtain rfl : u = Value.ref a := rx
  refine getmeth_ok I1 ea c hm l ?_
  exact PySem.W.callWith_K0 (first := [.ref a]) I1.kIn hm.kp (run_fn (us := [.ref a]) (vs := [.ref a]) F hr hb hd hx I1 (.cons rfl .nil) q)
/-- what a class must have to be made -/
structure Mk (K : PySem.W.Frag) (C f : Addr) : Prop where
  makes : PySem.W.makesIn K C = true
  init : PySem.W.findIn K (.ref C) "__init__" = some (some (.ref f))
  fn : PySem.W.isFn K (.ref f) = true
  kp : PySem.W.keepIn K (.ref C) = true
theorem run_make {pins : List (Addr × Obj)} {σ : St} {H : Hp} {s : Shared} {Q : VK} {us : List Value} {vs : List V} (M : Mk X.K C f) (F : FnOk X.prog X.w X.K X.mg X.base CX k f fd ps sp) (hr : Room (k + 1) X.A) (hb : Binds X.K fd ps ds) (hd : Vals dvs ds)
    (hx : Passes CX X E) (I : Inv X pins σ H s) (r : Vals vs us)
    (h : ∀ x dx, H x = none → H dx = none → dx ≠ x → sp (.ref x :: (vs ++ dvs)) (upd (upd H dx (.own x)) x (.ins C dx [])) (fun v H2 => v = .non ∧ Q (.ref x) H2) E) :
    wpAny (model X.prog X.w) X.A (call (.ref C) us) (EP X pins σ Q) X.xe s := by
  have hq := h (s.heap.objs.size + 1) s.heap.objs.size (I.hok.fresh (Nat.le_succ _)) (I.hok.fresh (Nat.le_refl _)) (Nat.ne_of_lt (Nat.lt_succ_self _))
  have I2 := Inv.made (C := C) I
  have r2 : Vals (V.ref (s.heap.objs.size + 1) :: (vs ++ dvs)) (Value.ref (s.heap.objs.size + 1) :: (us ++ ds)) := .cons rfl (r.append hd)
  have hl : (Value.ref (s.heap.objs.size + 1) :: us ++ ds).length = ps.length := by
    have e := r2.length
    rw [F.len _ _ _ _ hq] at e
    exact e.symm
  refine wpAny_call (make_map (f := f) I.kIn M.makes M.init (beq_iff_eq.mp M.fn) (codeAny_mono (F.run _ X.stack _ _ ⟨Value.ref (s.heap.objs.size + 1) :: us, []⟩ (Value.ref (s.heap.objs.size + 1) :: (us ++ ds)) _ _ E (hr.make C us [])
    (I2.env0.make C us []) (hb _ (Value.ref (s.heap.objs.size + 1) :: us) I2.kIn hl) r2 hq) fun r s' hq' => ?_))
  cases r with
  | error e => exact hx pins σ _ _ e s' I2 hq'
  | ok fl =>
    cases fl with
    | ret u =>
      obtain ⟨v, H', I3, rv, ev, q3⟩ := I2.after hq'
      subst ev
      exact ⟨rv, ⟨V.ref (s.heap.objs.size + 1), H', I3, rfl, q3⟩⟩
    | next => exact False.elim hq'
    | brk => exact False.elim hq'
    | cont => exact False.elim hq'
theorem pe_make0 (M : Mk X.K C f) (F : FnOk X.prog X.w X.K X.mg X.base CX k f fd ps sp) (hr : Room (k + 1) X.A) (hg : Gl X x) (hm : X.mg x = some (.ref C)) (hb : Binds X.K fd ps ds) (hd : Vals dvs ds) (hx : Passes CX X E)
    (hdb : (x == ("__debug__" : Str)) = false := by decide) : PE X (.Call (.Name x p) [] [] pos) (tMake C sp dvs E tNil) := by
  intro pins s σ H Q I h
  refine wpAny_Call_Name_kw (ld_glob I hg hm ?_ hdb)
  exact PySem.W.callWith_K0 I.kIn M.kp (run_make (us := []) M F hr hb hd hx I .nil h)
end
/-- names: the parameters first -/
structure FnScope (N P : List Str) (sc : Scope) : Prop where
  kind : sc.kind = .function
  co : sc.isCoroutine = false
  gen : sc.isGenerator = false
  nd : N.Nodup
  pre : N.take P.length = P
  par : ∀ x ∈ P, sc.names.lookup x = some .local ∨ sc.names.lookup x = some .cell
  nofree : ∀ y ∈ sc.names, y.2 ≠ .free
theorem bindL_out {kindOf : Str → Option NameKind} {x : Str} : ∀ {binds : List (Str × Value)} {m : Str → Option Value}, (∀ v, (x, v) ∉ binds) → bindL kindOf binds m x = m x
  | [], _, _ => rfl
  | (n, v) :: r, m, h => by
    unfold bindL
    rw [bindL_out fun w hw => h w (List.mem_cons_of_mem _ hw)]
    split
    · have : x ≠ n := by rintro rfl; exact h v List.mem_cons_self
      simp [this]
    · rfl
theorem bindC_out {kindOf : Str → Option NameKind} {x : Str} : ∀ {binds : List (Str × Value)} {m : Str → Option Value}, (∀ v, (x, v) ∉ binds) → bindC kindOf binds m x = m x
  | [], _, _ => rfl
  | (n, v) :: r, m, h => by
    unfold bindC
    rw [bindC_out fun w hw => h w (List.mem_cons_of_mem _ hw)]
    split
    · rfl
    · have : x ≠ n := by rintro rfl; exact h v List.mem_cons_self
      simp [this]
theorem bindL_get {kindOf : Str → Option NameKind} {x : Str} {v : Value} : ∀ {P : List Str} {vs : List Value} {i : Nat} {m : Str → Option Value}, P.Nodup → P[i]? = some x → vs[i]? = some v → kindOf x = some .local →
    bindL kindOf (P.zip vs) m x = some v
  | [], _, _, _, _, h, _, _ => by simp at h
  | _ :: _, [], _, _, _, _, h, _ => by simp at h
  | p :: P, w :: vs, 0, m, nd, h1, h2, hk => by
    simp at h1 h2; subst h1; subst h2
    show bindL kindOf ((p, w) :: P.zip vs) m p = _
    unfold bindL
    rw [bindL_out fun v hv => (List.nodup_cons.mp nd).1 (List.of_mem_zip hv).1, if_pos hk]
    simp
  | p :: P, w :: vs, i + 1, m, nd, h1, h2, hk => by
    show bindL kindOf ((p, w) :: P.zip vs) m x = _
    unfold bindL
    exact bindL_get (i := i) (List.nodup_cons.mp nd).2 (by simpa using h1) (by simpa using h2) hk
theorem bindC_get {kindOf : Str → Option NameKind} {x : Str} {v : Value} : ∀ {P : List Str} {vs : List Value} {i : Nat} {m : Str → Option Value}, P.Nodup → P[i]? = some x → vs[i]? = some v → kindOf x ≠ some .local →
    bindC kindOf (P.zip vs) m x = some v
  | [], _, _, _, _, h, _, _ => by simp at h
  | _ :: _, [], _, _, _, _, h, _ => by simp at h
  | p :: P, w :: vs, 0, m, nd, h1, h2, hk => by
    simp at h1 h2; subst h1; subst h2
    show bindC kindOf ((p, w) :: P.zip vs) m p = _
    unfold bindC
    rw [bindC_out fun v hv => (List.nodup_cons.mp nd).1 (List.of_mem_zip hv).1, if_neg hk]
    simp
  | p :: P, w :: vs, i + 1, m, nd, h1, h2, hk => by
    show bindC kindOf ((p, w) :: P.zip vs) m x = _
    unfold bindC
    exact bindC_get (i := i) (List.nodup_cons.mp nd).2 (by simpa using h1) (by simpa using h2) hk
/-- the names' values at the entry -/
def start (N : List Str) (vs : List V) : St := vs.map some ++ List.replicate (N.length - vs.length) none
/-- the context of a def's body, at its entry; an exception leaves the frame, then lies as CX says -/
def cxOf (CX : CXT) (P : Program) (w : World) (K : PySem.W.Frag) (mg : Str → Option Value) (base : Heap) (N : List Str) (qual : Str) (scope : Scope) (f : Addr) (cd : Value) (A : Around) (outer : List Env) (s : Shared) (H : Hp) (E : XK) : Cx where
  prog := P
  w := w
  K := K
  mg := mg
  base := base
  A := A.deeper (envOfC qual scope s.heap.objs.size f cd)
  N := N
  s_0 := s
  H_0 := H
  env := envOfC qual scope s.heap.objs.size f cd
  outer := outer
  stack := envOfC qual scope s.heap.objs.size f cd :: outer
  ex := []
  calm := true
  fn := fun _ => true
  pn := []
  xe := fun e s' => wpAny (model P w) (A.deeper (envOfC qual scope s.heap.objs.size f cd)) (leaving (envOfC qual scope s.heap.objs.size f cd) e) (fun _ s'' => CX outer H s E e s'') (fun e' s'' => CX outer H s E e' s'') s'
theorem cell_has {sc : Scope} {n : Nat} {x : Str} (h : sc.names.lookup x = some .cell) : ∃ c, (cellsFrom n sc.names []).lookup x = some c := by
  have q := PySem.W.cellsFrom_some sc.names n [] (.inl h)
  exact Option.isSome_iff_exists.mp q
theorem inv_start {CX : CXT} {P : Program} {w : World} {K : PySem.W.Frag} {mg : Str → Option Value} {base : Heap} {N ps : List Str} {qual : Str} {scope : Scope} {f : Addr} {cd : Value} {A : Around} {outer : List Env} {s s1 : Shared} {H : Hp} {E : XK} {us : List Value} {vs : List V}
    (S : FnScope N ps scope) (hd : A.handled = none) (e0 : Env0 P w K mg base A outer s H) (hl : vs.length = ps.length) (r : Vals vs us)
    (x : InCallC s s.heap.objs.size (bindL (envOfC qual scope s.heap.objs.size f cd).kindOf (ps.zip us) fun _ => none) (cellsFrom (s.heap.objs.size + 1) scope.names []) (bindC (envOfC qual scope s.heap.objs.size f cd).kindOf (ps.zip us) fun _ => none) s1) :
    Inv (cxOf CX P w K mg base N qual scope f cd A outer s H E) [] (start N vs) H s1 := by
  have hpl : ps.length ≤ N.length := by have := congrArg List.length S.pre; rw [List.length_take] at this; omega
  obtain ⟨h1, tk, rfl, hk⟩ := x.done
  have noA : ∀ b : Addr, b ∉ (cxOf CX P w K mg base N qual scope f cd A outer s H E).ex := fun b z => absurd (show b ∈ ([] : List Addr) from z) (by simp)
  refine ⟨⟨e0.mod, S.kind, rfl, rfl, Nat.le_refl _, fun y z c h1 h2 => ?_, fun y hy => ?_, fun y c _ h => ?_, fun _ => hd, Around.frames_deeper e0.frames, .inr ⟨rfl, rfl⟩, fun b z => absurd z (noA b), e0.bs, e0.bsz, fun b _ _ => noA b, fun b z => absurd z (noA b), e0.funs, e0.frf⟩,
    rfl, e0.bare, Un.kept hk, ⟨_, x.toInCall.ns, fun i y v h1 h2 h3 => ?_⟩, fun y c h => ⟨_, x.cell y c h⟩, e0.hok.fresh (Nat.le_refl _), fun y c h => ?_, fun p hp => absurd (show p ∈ ([] : List (Addr × Obj)) from hp) (by simp), e0.hok.kept hk, ?_⟩
  · exact name_of_addr x.apart (PySem.mem_of_lookup h1) (PySem.mem_of_lookup h2)
  · have hy : scope.names.lookup y = some .cell ∨ scope.names.lookup y = some .free := hy
    rcases hy with hy | hy
    · exact cell_has hy
    · exact absurd rfl (S.nofree _ (PySem.mem_of_lookup hy))
  · exact Nat.le_of_lt (x.above y c (PySem.mem_of_lookup h))
  · have hi : i < vs.length := by
      unfold start at h2
      by_cases hi : i < vs.length
      · exact hi
      · rw [List.getElem?_append_right (by simpa using hi)] at h2
        rw [List.getElem?_replicate] at h2
        split at h2 <;> cases h2
    have ha : vs[i]? = some v := by
      unfold start at h2
      rw [List.getElem?_append_left (by simpa using hi), List.getElem?_map] at h2
      cases e : vs[i]? with
      | none => rw [e] at h2; cases h2
      | some a => rw [e] at h2; cases h2; rfl
    obtain ⟨u, hu, rv⟩ := r.get ha
    have hp : ps[i]? = some y := by
      rw [← S.pre, List.getElem?_take_of_lt (by omega)]; exact h1
    have ndP : ps.Nodup := by rw [← S.pre]; exact S.nd.sublist (List.take_sublist _ _)
    refine ⟨u, rv, ?_⟩
    rcases S.par y (List.mem_of_getElem? hp) with k | k
    · exact .inl ⟨k, bindL_get ndP hp hu k⟩
    · obtain ⟨c, e⟩ := cell_has (n := s.heap.objs.size + 1) k
      refine .inr ⟨.inl k, c, e, ?_⟩
      have q := x.cell y c e
      rw [bindC_get ndP hp hu (by show scope.names.lookup y ≠ _; rw [k]; decide)] at q
      exact q
  · exact e0.hok.fresh (Nat.le_of_lt (x.above y c (PySem.mem_of_lookup h)))
  · unfold start
    show _ = N.length
    rw [List.length_append, List.length_map, List.length_replicate]
    omega
/-- THE RULE: a def (or a method) of the text, by its body. The body's reading t is chosen for each entry; it is run at the parameters' values -/
theorem fn_of {CX : CXT} {P : Program} {w : World} {K : PySem.W.Frag} {mg : Str → Option Value} {base : Heap} {k : Nat} {f : Addr} {name qual : Str} {params : Arguments} {body : List Stmt} {scope : Scope} {dV kV doc pm cdv ct oc : Value} {an od : Option Addr}
    {osl : Array (Option Value)} {N ps : List Str} {sp : Sp} (lk : K.lookup f = some ⟨oc, od, .func (PySem.W.fnOf name qual params body scope dV kV doc pm an cdv ct), osl⟩) (hcd : PySem.W.codeIn K cdv qual = true) (S : FnScope N ps scope)
    (len : ∀ vs H Q E, sp vs H Q E → vs.length = ps.length)
    (hbody : ∀ (A : Around) (outer : List Env) (s : Shared) (H : Hp) (vs : List V) (Q : VK) (E : XK), Room k (A.deeper (envOfC qual scope s.heap.objs.size f cdv)) → sp vs H Q E →
      ∃ t, PSs (cxOf CX P w K mg base N qual scope f cdv A outer s H E) body t ∧ t { nx := fun _ H' => Q .non H', rt := Q } (start N vs) H) :
    FnOk P w K mg base CX (k + 1) f (PySem.W.fnOf name qual params body scope dV kV doc pm an cdv ct) ps sp := by
  refine ⟨len, fun A outer s H args us vs Q E hr e0 hb r hsp => ?_⟩
  have hl := len _ _ _ _ hsp
  have KX : K.In s.heap := e0.mod.kin.keeps fun b o e => (e0.bs b o e).1
  have lim : s.heap.NoLimit := e0.mod.nolimit.keeps fun b o e => (e0.bs b o e).1
  have hkind : ∀ y ∈ ps.zip us, scope.names.lookup y.1 = some .local ∨ (scope.names.lookup y.1 = some .cell ∧ ((cellsFrom (s.heap.objs.size + 1) scope.names []).lookup y.1).isSome = true) := fun ⟨n, v⟩ hy => by
    rcases S.par n (List.of_mem_zip hy).1 with q | q
    · exact .inl q
    · exact .inr ⟨q, PySem.W.cellsFrom_some _ _ _ (.inl q)⟩
  refine codeAny_call_function hr.depth (KX _ _ lk) rfl S.co S.gen rfl (PySem.W.codeRec_of KX hcd) (hb _ _ _ _ ?_)
  refine wpAny_newFunctionEnv_cells S.kind hkind fun env he s1 x => ?_
  subst he
  refine ⟨lim.keeps x.toInCall.keep, codeAny_func ?_⟩
  obtain ⟨t, ht, hq⟩ := hbody A outer s H vs Q E (hr.deeper _) hsp
  have I : Inv (cxOf CX P w K mg base N qual scope f cdv A outer s H E) [] (start N vs) H s1 := inv_start S hr.hd e0 hl r x
  refine wpAny_mono (ht [] s1 (start N vs) H _ I hq) (fun fl s' hs => ?_) fun e s' hs => hs
  have fin : ∀ {σ' : St} {H' : Hp} {v : V} {u : Value}, Inv (cxOf CX P w K mg base N qual scope f cdv A outer s H E) [] σ' H' s' → RelV v u → Q v H' → CE outer P w H s Q u s' :=
    fun {σ' H' v u} J rv q => ⟨v, H', J.os, J.bare, J.base, J.hok, rv, q⟩
  cases fl with
  | ret u =>
    obtain ⟨v, σ', H', J, rv, q⟩ := hs
    exact fin J rv q
  | next =>
    obtain ⟨σ', H', J, q⟩ := hs
    exact fin (v := V.non) (u := Value.none) J rfl q
  | brk =>
    obtain ⟨_, _, _, q⟩ := hs
    exact False.elim q
  | cont =>
    obtain ⟨_, _, _, q⟩ := hs
    exact False.elim q
end L2
namespace L2
open PySem PySem.Spec PyProof.Rows
section
variable {X : Cx} {x : Str} {p pos : Pos} {e : Expr} {es : List Expr} {t : TA} {id T : String} {r : List V → Hp → VK → Prop}
def tCB (r : List V → Hp → VK → Prop) (t : TA) : TE := fun σ H Q => t σ H fun vs H1 => r vs H1 Q
/-- f(e, ..), f a built-in function -/
theorem pe_callB (hc : CallR X (.builtin id) r) (hg : Gl X x) (hm : X.mg x = none) (hv : bootBuiltins x = some (.builtin id)) (ha : PA X (e :: es) t) (hn : x ≠ "__name__" := by decide) (hdb : (x == ("__debug__" : Str)) = false := by decide)
    (he : starEach (e :: es) X.env = (false, eval e X.env) :: starEach es X.env := by rfl) (hpl : (backTo pos (starEach es X.env)).any (·.1) = false := by rfl) : PE X (.Call (.Name x p) (e :: es) [] pos) (tCB r t) := by
  intro pins s σ H Q I h
  refine wpAny_Call_Name_kw (ld_blt I hg hm hv ?_ hn hdb)
  exact PyProof.Rows.callWith_builtin1 (thn (ha pos pins s σ H _ I h) fun us s1 ⟨vs, H1, I1, r1, q1⟩ => hc pins s1 σ H1 vs us Q I1 r1 q1) he hpl
/-- T(e, ..), T a built-in type -/
theorem pe_callTy (hc : CallR X (.type T) r) (hg : Gl X x) (hm : X.mg x = none) (hv : bootBuiltins x = some (.type T)) (ha : PA X (e :: es) t) (hn : x ≠ "__name__" := by decide) (hdb : (x == ("__debug__" : Str)) = false := by decide)
    (he : starEach (e :: es) X.env = (false, eval e X.env) :: starEach es X.env := by rfl) (hpl : (backTo pos (starEach es X.env)).any (·.1) = false := by rfl) : PE X (.Call (.Name x p) (e :: es) [] pos) (tCB r t) := by
  intro pins s σ H Q I h
  refine wpAny_Call_Name_kw (ld_blt I hg hm hv ?_ hn hdb)
  exact PyProof.Rows.callWith_type1 (thn (ha pos pins s σ H _ I h) fun us s1 ⟨vs, H1, I1, r1, q1⟩ => hc pins s1 σ H1 vs us Q I1 r1 q1) he hpl
end
end L2
namespace HT
open PySem PyProof.Rows
section
variable {prog : Program} {w : World} {A : Around} {E : Value → Shared → Prop} {s : Shared}
/-- a slice's bound as a place among n (d where it is left out) -/
def sIx (n d : Nat) : Option Int → Nat
  | none => d
  | some v => if v < 0 then (v + (n : Int)).toNat else min v.toNat n
theorem sIx_none (n d : Nat) : sIx n d none = d := rfl
theorem sIx_nat (n d k : Nat) : sIx n d (some (k : Int)) = min k n := by
  show (if (k : Int) < 0 then ((k : Int) + (n : Int)).toNat else min (k : Int).toNat n) = min k n
  rw [if_neg (by omega), Int.toNat_natCast]
end
end HT
namespace L2
open PySem PySem.Spec PyProof.Rows
abbrev TO := St → Hp → (Option Int → Hp → Prop) → Prop
/-- a slice's part (left out, or an int) -/
def PO (X : Cx) (e : Option Expr) (t : TO) : Prop :=
  ∀ (pins : List (Addr × Obj)) (s : Shared) (σ : St) (H : Hp) (Q : Option Int → Hp → Prop), Inv X pins σ H s → t σ H Q →
    wpAny (model X.prog X.w) X.A (evalPart e X.env) (fun u s' => ∃ o H', Inv X pins σ H' s' ∧ IsPart u o ∧ Q o H') X.xe s
def tNoPart : TO := fun _ H Q => Q none H
def tPart (t : TE) : TO := fun σ H Q => t σ H fun x H1 => ∃ i, x = .int i ∧ Q (some i) H1
section
variable {X : Cx} {e : Expr} {te : TE} {lo hi : Option Expr} {tl th : TO} {pos p2 : Pos}
theorem po_none : PO X none tNoPart := by
  intro pins s σ H Q I h
  rw [evalPart_none]
  exact wpAny_pure ⟨none, H, I, .none, h⟩
theorem po_some (h : PE X e te) : PO X (some e) (tPart te) := by
  intro pins s σ H Q I hw
  rw [evalPart_some]
  refine thn (h pins s σ H _ I hw) fun u s1 ⟨x, H1, I1, r1, q1⟩ => ?_
  obtain ⟨i, rfl, q⟩ := q1
  obtain ⟨t, rfl⟩ := r1
  exact ⟨some i, H1, I1, .int i t, q⟩
/-- what a slice of a value is, by values: the slice object stands at sl -/
def SlR (X : Cx) (r : V → Option Int → Option Int → Hp → VK → Prop) : Prop :=
  ∀ (pins : List (Addr × Obj)) (s : Shared) (σ : St) (H : Hp) (x : V) (v vl vu : Value) (lo hi : Option Int) (sl : Addr) (Q : VK), Inv X pins σ H s → RelV x v → s.heap.IsSliceOf sl vl vu .none → IsPart vl lo → IsPart vu hi → r x lo hi H Q →
    ∃ T id, typeLookup (.type T) "__getitem__" = pure (some (.builtin id)) ∧ s.TypeIs v T ∧ wpAny (model X.prog X.w) X.A (getItem v (.ref sl)) (EP X pins σ Q) X.xe s
def tSl (r : V → Option Int → Option Int → Hp → VK → Prop) (te : TE) (tl th : TO) : TE := fun σ H Q => te σ H fun x H1 => tl σ H1 fun l H2 => th σ H2 fun u H3 => r x l u H3 Q
/-- a[lo:hi], any a -/
theorem pe_slice {r : V → Option Int → Option Int → Hp → VK → Prop} (hr : SlR X r) (he : PE X e te) (hl : PO X lo tl) (hu : PO X hi th) : PE X (.Subscript e (.Slice lo hi none p2) pos) (tSl r te tl th) := by
  intro pins s σ H Q I h
  refine Subscript_ (thn (he pins s σ H _ I h) fun v s1 ⟨x, H1, I1, r1, q1⟩ => ?_)
  refine wpAny_Slice (thn (hl pins s1 σ H1 _ I1 q1) fun vl s2 ⟨l, H2, I2, pl, q2⟩ => thn (hu pins s2 σ H2 _ I2 q2) fun vu s3 ⟨u, H3, I3, pu, q3⟩ => ?_)
  rw [evalPart_none]
  refine wpAny_pure ?_
  have I4 : Inv X pins σ H3 { s3 with heap := s3.heap.push { cls := .type "slice", data := .fields #[vl, vu, .none] } } := I3.kept (t' := s3.toks) fun b ob q => Heap.get?_push_of_some _ q
  obtain ⟨T, id, hT, ht, hg⟩ := hr pins { s3 with heap := s3.heap.push { cls := .type "slice", data := .fields #[vl, vu, .none] } } σ H3 x v vl vu l u s3.heap.objs.size Q I4 r1 (Heap.IsSliceOf.new ..) pl pu q3
  show wpAny (model X.prog X.w) X.A (subscriptTail e (.Slice lo hi none p2) v (.ref s3.heap.objs.size)) (EP X pins σ Q) X.xe { s3 with heap := s3.heap.push { cls := .type "slice", data := .fields #[vl, vu, .none] } }
  exact tail_any (ops := [.ref s3.heap.objs.size, v]) ht hT hg (by with_unfolding_all rfl)
/-- the items of xs[lo:hi] -/
def cutV (xs : List V) (lo hi : Option Int) : List V := (xs.drop (HT.sIx xs.length 0 lo)).take (HT.sIx xs.length xs.length hi - HT.sIx xs.length 0 lo)
theorem cutV_length (xs : List V) (lo hi : Option Int) : (cutV xs lo hi).length ≤ xs.length := by
  unfold cutV
  rw [List.length_take, List.length_drop]
  omega
end
end L2
namespace L2
open PySem PySem.Spec PyProof.Rows
/-- the place that an index of any sign means -/
def ixN (n : Nat) (i : Int) : Option Nat := if 0 ≤ i then (if i < n then some i.toNat else none) else if -(n : Int) ≤ i then some (i + n).toNat else none
def atI {α : Type} (xs : List α) (i : Int) : Option α := (ixN xs.length i).bind fun j => xs[j]?
theorem ixN_seq {n : Nat} {i : Int} {j : Nat} (h : ixN n i = some j) : seqIndex? i n = some j ∧ j < n ∧ -(n : Int) ≤ i ∧ i < n := by
  unfold ixN at h
  by_cases h0 : 0 ≤ i
  · rw [if_pos h0] at h
    by_cases h1 : i < n
    · rw [if_pos h1] at h
      have e : i.toNat = j := Option.some.inj h
      exact ⟨by rw [seqIndex_of h0 h1, e], by omega, by omega, h1⟩
    · rw [if_neg h1] at h; cases h
  · rw [if_neg h0] at h
    by_cases h1 : -(n : Int) ≤ i
    · rw [if_pos h1] at h
      have e : (i + n).toNat = j := Option.some.inj h
      exact ⟨by rw [seqIndex_neg (by omega) h1, e], by omega, h1, by omega⟩
    · rw [if_neg h1] at h; cases h
theorem atI_get {α : Type} {xs : List α} {i : Int} {v : α} (h : atI xs i = some v) : ∃ j, seqIndex? i xs.length = some j ∧ xs[j]? = some v ∧ j < xs.length ∧ -(xs.length : Int) ≤ i ∧ i < xs.length := by
  unfold atI at h
  cases e : ixN xs.length i with
  | none => rw [e] at h; cases h
  | some j =>
    rw [e] at h
    obtain ⟨h1, h2, h3, h4⟩ := ixN_seq e
    exact ⟨j, h1, h, h2, h3, h4⟩
theorem atI_nat {α : Type} {xs : List α} {j : Nat} {v : α} (h : xs[j]? = some v) : atI xs (j : Int) = some v := by
  have hj : j < xs.length := (List.getElem?_eq_some_iff.mp h).1
  have e : ixN xs.length (j : Int) = some j := by
    unfold ixN
    rw [if_pos (by omega), if_pos (by omega)]; simp
  unfold atI; rw [e]; exact h
/-- what stands as an index of a plain subscript -/
def PlainIx (b : Expr) : Prop := ∀ o i, subscripted b false o i = operate [o, i] (getItem o i)
/-- a subscript by values -/
def IxR (X : Cx) (r : R2) : Prop :=
  ∀ (value slice : Expr) (pins : List (Addr × Obj)) (s : Shared) (σ : St) (H : Hp) (x y : V) (v u : Value) (Q : VK), Inv X pins σ H s → RelV x v → RelV y u → r x y H Q →
    subscripted slice false v u = operate [v, u] (getItem v u) → wpAny (model X.prog X.w) X.A (subscriptTail value slice v u) (EP X pins σ Q) X.xe s
/-- a call of a builtin's method by values: the receiver, the arguments -/
def MtR (X : Cx) (id : String) (r : V → List V → Hp → VK → Prop) : Prop :=
  ∀ (pins : List (Addr × Obj)) (s : Shared) (σ : St) (H : Hp) (x : V) (xs : List V) (v : Value) (us : List Value) (Q : VK), Inv X pins σ H s → RelV x v → Vals xs us → r x xs H Q →
    wpAny (model X.prog X.w) X.A (call (.builtin id) (v :: us)) (EP X pins σ Q) X.xe s
section
variable {X : Cx} {a b : Expr} {ta tb : TE} {pos : Pos}
/-- a[b] -/
theorem pe_ix {r : R2} (hr : IxR X r) (ha : PE X a ta) (hb : PE X b tb) (hs : PlainIx b) : PE X (.Subscript a b pos) (tOp r ta tb) := by
  intro pins s σ H Q I h
  exact Subscript_ (binT ha hb I h fun v u s2 x y H2 I2 rx ry q => hr a b pins s2 σ H2 x y v u Q I2 rx ry q (hs _ _))
def rIxL (K : PySem.W.Frag) : R2 := fun x y H Q => ∃ p xs i v, x = .ref p ∧ y = .int i ∧ SqL K H p xs ∧ atI xs i = some v ∧ Q v H
def rIxT (K : PySem.W.Frag) : R2 := fun x y H Q => ∃ p xs i v, x = .ref p ∧ y = .int i ∧ SqT K H p xs ∧ atI xs i = some v ∧ Q v H
theorem ix_list : IxR X (rIxL X.K) := by
  intro value slice pins s σ H x y v u Q I rx ry h hs
  obtain ⟨p, xs, i, z, rfl, rfl, hq, he, q⟩ := h
  cases rx
  obtain ⟨t, rfl⟩ := ry
  obtain ⟨its, r, pl, hz⟩ := I.list hq
  obtain ⟨j, h1, h2, h3, h4, h5⟩ := atI_get he
  obtain ⟨w, ew, rw'⟩ := r.get h2
  have hl := r.length
  have hn := line63
  have fin : EP X pins σ Q w s := ⟨z, H, I, rw', q⟩
  by_cases h0 : 0 ≤ i
  · have hj : i.toNat = j := by
      rw [seqIndex_of h0 h5] at h1
      exact Option.some.inj h1
    exact item_listR pl.isList h0 (by omega) (by rw [hj]; simpa using ew) fin hs
  · have hj : (i + (its.toArray.size : Int)).toNat = j := by
      rw [seqIndex_neg (by omega) h4] at h1
      rw [List.size_toArray, ← hl]
      exact Option.some.inj h1
    exact subscriptTail_builtinR (x := w) pl.isList.typeIs slot_list_getitem.lookup
      (wpAny_getItem_list_neg (Q := fun r s' => r = w ∧ EP X pins σ Q r s') pl.isList (by omega) (by rw [List.size_toArray] <;> omega) (by omega) (by rw [hj]; simpa using ew) ⟨rfl, fin⟩) hs
theorem ix_tup : IxR X (rIxT X.K) := by
  intro value slice pins s σ H x y v u Q I rx ry h hs
  obtain ⟨p, xs, i, z, rfl, rfl, hq, he, q⟩ := h
  cases rx
  obtain ⟨t, rfl⟩ := ry
  obtain ⟨its, r, pl, hz⟩ := I.tuple hq
  obtain ⟨j, h1, h2, h3, h4, h5⟩ := atI_get he
  obtain ⟨w, ew, rw'⟩ := r.get h2
  have hl := r.length
  have hn := line63
  have fin : EP X pins σ Q w s := ⟨z, H, I, rw', q⟩
  exact subscriptTail_builtinR (x := w) pl.typeIs slot_tuple_getitem.lookup
    (getItem_tuple (j := j) (Q := fun r s' => r = w ∧ EP X pins σ Q r s') pl (by omega) (by omega) (by rw [List.size_toArray, ← hl]; exact h1) (by simpa using ew) ⟨rfl, fin⟩) hs
theorem slice_bounds (lo hi : Option Int) (n : Nat) : (sliceBounds lo hi none n).1 = ((HT.sIx n 0 lo : Nat) : Int) ∧ (sliceBounds lo hi none n).2.1 = ((HT.sIx n n hi : Nat) : Int) ∧ (sliceBounds lo hi none n).2.2 = 1 := by
  refine ⟨?_, ?_, rfl⟩
  · cases lo with
    | none => simp [sliceBounds, HT.sIx]
    | some i =>
      simp only [sliceBounds, HT.sIx, Option.getD_none, show (1 : Int) > 0 by decide, if_true]
      by_cases h : i < 0
      · simp only [h, if_true] <;> omega
      · simp only [h, if_false] <;> omega
  · cases hi with
    | none => simp [sliceBounds, HT.sIx]
    | some i =>
      simp only [sliceBounds, HT.sIx, Option.getD_none, show (1 : Int) > 0 by decide, if_true]
      by_cases h : i < 0
      · simp only [h, if_true] <;> omega
      · simp only [h, if_false] <;> omega
theorem slicePick_cut (its : List Value) (lo hi : Option Int) : slicePick its.toArray lo hi none = ((its.drop (HT.sIx its.length 0 lo)).take (HT.sIx its.length its.length hi - HT.sIx its.length 0 lo)).toArray := by
  obtain ⟨h1, h2, h3⟩ := slice_bounds lo hi its.toArray.size
  unfold slicePick
  rw [h1, h2, h3]
  simp only [sliceRange_one, pick_run, List.size_toArray] <;> rfl
/-- xs[lo:hi] of a list: a new list -/
def rSlL (K : PySem.W.Frag) : V → Option Int → Option Int → Hp → VK → Prop := fun x lo hi H Q => ∃ a xs, x = .ref a ∧ SqL K H a xs ∧ ∀ p, H p = none → Q (.ref p) (upd H p (.lst (cutV xs lo hi)))
theorem sl_list : SlR X (rSlL X.K) := by
  intro pins s σ H x v vl vu lo hi sl Q I rx hs pl pu h
  obtain ⟨a, xs, rfl, hx, q⟩ := h
  cases rx
  obtain ⟨its, r, ht, hz⟩ := I.list hx
  have hlen := r.length
  refine ⟨"list", _, slot_list_getitem.lookup, ht.isList.typeIs, ?_⟩
  refine wpAny_getItem_list_slice ht.isList hs pl pu .none (by simp) ?_ (by rw [List.size_toArray] <;> omega)
  rw [slicePick_cut, ← hlen]
  refine ⟨.ref s.heap.objs.size, _, I.laid (t' := s.toks) (o := .lst (cutV xs lo hi)) (fun b ob q => Heap.get?_push_of_some _ q) (Nat.le_refl _) ?_, rfl, q _ (I.hok.fresh (Nat.le_refl _))⟩
  exact ⟨Nat.le_trans (cutV_length xs lo hi) hz, _, 0, (r.drop (HT.sIx xs.length 0 lo)).take (HT.sIx xs.length xs.length hi - HT.sIx xs.length 0 lo), Heap.get?_push_size _ rfl⟩
theorem call_len_seq : CallR X (.builtin "len") (fun xs H Q => ∃ p ys, xs = [.ref p] ∧ (SqL X.K H p ys ∨ SqT X.K H p ys) ∧ Q (.int ys.length) H) := by
  intro pins s σ H xs us Q I r h
  obtain ⟨p, ys, rfl, hq, q⟩ := h
  obtain ⟨u, rfl, rx⟩ := vals1 r
  cases rx
  have hn := line63
  rcases hq with hq | hq
  · obtain ⟨its, r', pl, hz⟩ := I.list hq
    have hlen := r'.length
    exact Calls.call_len_list pl.isList (by simp only [List.size_toArray] <;> omega) ⟨.int ys.length, H, I.tok _, ⟨s.toks + 1, by rw [List.size_toArray, hlen]⟩, q⟩
  · obtain ⟨its, r', pl, hz⟩ := I.tuple hq
    have hlen := r'.length
    exact len_tuple pl (by simp only [List.size_toArray] <;> omega) ⟨.int ys.length, H, I.tok _, ⟨s.toks + 1, by rw [List.size_toArray, hlen]⟩, q⟩
theorem call_list_of : CallR X (.type "list") (fun xs H Q => ∃ p ys, xs = [.ref p] ∧ (SqL X.K H p ys ∨ SqT X.K H p ys) ∧ ∀ l, H l = none → Q (.ref l) (upd H l (.lst ys))) := by
  intro pins s σ H xs us Q I r h
  obtain ⟨p, ys, rfl, hq, q⟩ := h
  obtain ⟨u, rfl, rx⟩ := vals1 r
  cases rx
  have fin : ∀ (its : List Value), Vals ys its → ys.length ≤ sizeLine → ∀ (h' : Heap) (c' : Nat), (∀ b o', s.heap.get? b = some o' → h'.get? b = some o') →
      h'.get? s.heap.objs.size = some { cls := .type "list", dict := none, data := .seq its.toArray c', slots := #[] } → EP X pins σ Q (.ref s.heap.objs.size) { s with heap := h' } := fun its r' hz h' c' kp e =>
    ⟨.ref s.heap.objs.size, _, I.laid (t' := s.toks) kp (Nat.le_refl _) (show ObjOk X.prog X.w _ h' _ (.lst ys) from ⟨hz, its, c', r', e⟩), rfl, q _ (I.hok.fresh (Nat.le_refl _))⟩
  rcases hq with hq | hq
  · obtain ⟨its, r', pl, hz⟩ := I.list hq
    have hlen := r'.length
    obtain ⟨o, ho, hc, n, hd⟩ := pl.isList
    exact call_list_seq p (.inl rfl) ho hc hd (fun h' c' kp e => fin its r' hz h' c' kp e) (by simp only [List.size_toArray] <;> omega)
  · obtain ⟨its, r', pl, hz⟩ := I.tuple hq
    have hlen := r'.length
    obtain ⟨o, ho, hc, n, hd⟩ := pl
    exact call_list_seq p (.inr rfl) ho hc hd (fun h' c' kp e => fin its r' hz h' c' kp e) (by simp only [List.size_toArray] <;> omega)
/-- the value is of that builtin type -/
def tyV (K : PySem.W.Frag) (T : String) (x : V) (H : Hp) : Prop := match x with
  | .str _ => T = "str"
  | .int _ => T = "int"
  | .ref p => (T = "list" ∧ ∃ xs, SqL K H p xs) ∨ (T = "tuple" ∧ ∃ o, K.lookup p = some o ∧ o.cls = .type "tuple" ∧ o.dict = none) ∨
      (T = "dict" ∧ ((∃ kvs, H p = some (.dK kvs)) ∨ ∃ kvs, H p = some (.dT kvs))) ∨ (T = "set" ∧ ∃ S n, H p = some (.set S n))
  | _ => False
theorem tyV_is {pins : List (Addr × Obj)} {σ : St} {H : Hp} {s : Shared} {T : String} {x : V} {v : Value} (I : Inv X pins σ H s) (r : RelV x v) (ty : tyV X.K T x H) :
    s.TypeIs v T ∧ ∀ a, v = .ref a → ∃ ob, s.heap.get? a = some ob ∧ ob.dict = none := by
  cases x with
  | str z =>
    obtain ⟨t, rfl⟩ := r
    cases (show T = "str" from ty)
    exact ⟨typeIs_str s z t, fun _ e => nomatch e⟩
  | int i =>
    obtain ⟨t, rfl⟩ := r
    cases (show T = "int" from ty)
    exact ⟨typeIs_int s i t, fun _ e => nomatch e⟩
  | ref p =>
    cases r
    rcases ty with ⟨rfl, xs, hq⟩ | ⟨rfl, o, hk, hc, hd⟩ | ⟨rfl, hk⟩ | ⟨rfl, S, n, hk⟩
    · obtain ⟨its, _, pl, _⟩ := I.list hq
      refine ⟨pl.isList.typeIs, fun a e => ?_⟩
      cases e
      obtain ⟨o, n, e, c, hd, _⟩ := pl
      exact ⟨o, e, hd⟩
    · refine ⟨⟨o, I.kIn p o hk, hc⟩, fun a e => ?_⟩
      cases e
      exact ⟨o, I.kIn _ o hk, hd⟩
    · have z : ∃ o, s.heap.get? p = some o ∧ o.ExactDict := by
        rcases hk with ⟨kvs, hk⟩ | ⟨kvs, hk⟩
        · obtain ⟨_, _, _, _, o, _, _, e, ex, _⟩ := I.hok p _ hk
          exact ⟨o, e, ex⟩
        · obtain ⟨_, _, _, _, o, _, _, e, ex, _⟩ := I.hok p _ hk
          exact ⟨o, e, ex⟩
      obtain ⟨o, e, ex⟩ := z
      refine ⟨⟨o, e, ex.1⟩, fun a e2 => ?_⟩
      cases e2
      exact ⟨o, e, ex.2.1⟩
    · obtain ⟨o, _, _, _, e, ex, _⟩ := I.hok p _ hk
      refine ⟨⟨o, e, ex.1⟩, fun a e2 => ?_⟩
      cases e2
      exact ⟨o, e, ex.2.1⟩
  | _ => exact False.elim ty
def tBM (K : PySem.W.Frag) (T : String) (r : V → List V → Hp → VK → Prop) (to : TE) (t : TA) : TE := fun σ H Q => to σ H fun x H1 => tyV K T x H1 ∧ t σ H1 fun xs H2 => r x xs H2 Q
variable {o e : Expr} {es : List Expr} {to : TE} {t : TA} {name : Str} {apos cpos : Pos} {T id : String} {r : V → List V → Hp → VK → Prop}
theorem pe_bm (pa : PlainAttrs T) (slot : Slot T name id) (hty : typeOf (.builtin id) = pure (.type "method_descriptor")) (hm : MtR X id r) (ho : PE X o to) (ha : PA X (e :: es) t)
    (hbase : attributeBase o name X.env (eval o X.env) = eval o X.env := by rfl)
    (hfew : ((backTo cpos (starEach (e :: es) X.env)).all (fun x => !x.1) && (backToKw cpos (keywordEach [] X.env)).all (fun x => x.1.isSome)
      && decide ((e :: es).length + ([] : List Keyword).length + (if ([] : List Keyword).isEmpty then 0 else 1) < 30)) = true := by rfl)
    (hline : (apos.endLine == cpos.line) = true := by rfl) (hs : starEach (e :: es) X.env = (false, eval e X.env) :: starEach es X.env := by rfl) (hplain : (backTo cpos (starEach es X.env)).any (·.1) = false := by rfl) :
    PE X (.Call (.Attribute o name apos) (e :: es) [] cpos) (tBM X.K T r to t) := by
  intro pins s σ H Q I h
  refine wpAny_Call_method_late hbase hfew hline rfl (thn (ho pins s σ H _ I h) fun v s1 ⟨x, H1, I1, r1, ty, q1⟩ => ?_)
  obtain ⟨h1, h2⟩ := tyV_is I1 r1 ty
  refine ⟨T, id, pa, slot, hty, h1, h2, ?_⟩
  have hA := ha cpos pins s1 σ H1 _ I1 q1
  rw [hs] at hA ⊢
  refine Calls.callWith_builtin (by show (false || (backTo cpos (starEach es X.env)).any (·.1)) = false; rw [hplain] <;> rfl) (Calls.evalArgs_plain ?_)
  exact thn hA fun us s2 ⟨vs, H2, I2, r2, q2⟩ => hm pins s2 σ H2 x vs v us Q I2 r1 r2 q2
end
end L2
namespace L2
open PySem PySem.Spec PyProof.Rows
def MtM (X : Cx) (id : String) (r : V → List V → Hp → VK → Prop) : Prop :=
  ∀ (pins : List (Addr × Obj)) (s : Shared) (σ : St) (H : Hp) (x : V) (xs : List V) (v : Value) (us : List Value) (Q : VK), Inv X pins σ H s → RelV x v → Vals xs us → r x xs H Q →
    wpAny (model X.prog X.w) X.A (call (.builtin id) (v :: us)) (EP X pins σ Q) X.xe s
theorem Vals.one : ∀ {x : V} {us : List Value}, Vals [x] us → ∃ u, us = [u] ∧ RelV x u
  | _, _, .cons r .nil => ⟨_, rfl, r⟩
section
variable {X : Cx} {pins : List (Addr × Obj)} {σ : St} {H : Hp} {s : Shared} {l b : Addr} {xs ys zs : List V}
theorem Inv.lset {its its' : List Value} {n : Nat} {f : Array Value → Array Value} {t' : Nat} (I : Inv X pins σ H s) (hH : H l = some (.lst xs))
    (e : s.heap.get? l = some { cls := .type "list", data := .seq its.toArray n }) (hf : f its.toArray = its'.toArray) (hv : Vals ys its') (hz : ys.length ≤ sizeLine) :
    Inv X pins σ (upd H l (.lst ys)) { s with heap := s.heap.update l (Obj.mapSeq f), toks := t' } := by
  have q := PySem.IsL.update e f
  rw [hf] at q
  refine I.write (x := l) (e := l) (by rw [hH]; exact trivial) (.inl rfl) (fun b' u hb hu => (Heap.get?_update_other s.heap (Obj.mapSeq f) (Ne.symm hb)).trans hu) ⟨_, q⟩ ?_
  exact ⟨hz, its', _, hv, q⟩
theorem Inv.lnew {its : List Value} {t' : Nat} (I : Inv X pins σ H s) (hv : Vals ys its) (hz : ys.length ≤ sizeLine) :
    Inv X pins σ (upd H s.heap.objs.size (.lst ys)) { s with heap := s.heap.push { cls := .type "list", data := .seq its.toArray }, toks := t' } :=
  I.laid (fun _ _ q => Heap.get?_push_of_some _ q) (Nat.le_refl _) ⟨hz, its, 0, hv, Heap.get?_push_size _ rfl⟩
theorem Inv.fresh (I : Inv X pins σ H s) : H s.heap.objs.size = none := I.hok.fresh (Nat.le_refl _)
theorem Inv.lstM (I : Inv X pins σ H s) (hH : H l = some (.lst xs)) : xs.length ≤ sizeLine ∧ ∃ (its : List Value) (n : Nat), Vals xs its ∧ xs.length = its.length ∧ s.heap.get? l = some { cls := .type "list", data := .seq its.toArray n } := by
  obtain ⟨z, its, n, r, e⟩ := I.hok l _ hH
  exact ⟨z, its, n, r, r.length, e⟩
theorem notLongL {n : Nat} (h : n ≤ sizeLine) : Builtin.List.listTooLong n = false := by
  unfold Builtin.List.listTooLong
  exact decide_eq_false (by omega)
end
section
variable {X : Cx}
def rAppend : V → List V → Hp → VK → Prop := fun x vs H Q => ∃ l xs y, x = .ref l ∧ vs = [y] ∧ H l = some (.lst xs) ∧ xs.length < sizeLine ∧ Q .non (upd H l (.lst (xs ++ [y])))
theorem mt_append : MtM X "list.append" rAppend := by
  intro pins s σ H x vs v us Q I rx rv h
  obtain ⟨l, xs, y, rfl, rfl, hH, hz, q⟩ := h
  cases rx
  obtain ⟨u, rfl, ru⟩ := rv.one
  obtain ⟨z, its, n, r, hl, e⟩ := I.lstM hH
  refine call_meets F.slot_list_append ⟨_, e, rfl⟩ F.entry_list_append (F.args_list_append_2 _ _) (PySem.list_append l its.toArray n u (by rw [List.size_toArray]; omega)) ⟨e, ?_⟩
  refine ⟨.non, _, I.lset (its' := its ++ [u]) hH e (by simp) (r.append (.cons ru .nil)) ?_, rfl, q⟩
  rw [List.length_append, List.length_singleton]
  omega
def rExtend : V → List V → Hp → VK → Prop := fun x vs H Q => ∃ l b xs zs, x = .ref l ∧ vs = [.ref b] ∧ H l = some (.lst xs) ∧ H b = some (.lst zs) ∧ xs.length + zs.length ≤ sizeLine ∧ Q .non (upd H l (.lst (xs ++ zs)))
theorem mt_extend : MtM X "list.extend" rExtend := by
  intro pins s σ H x vs v us Q I rx rv h
  obtain ⟨l, b, xs, zs, rfl, rfl, hH, hB, hz, q⟩ := h
  cases rx
  obtain ⟨u, rfl, ru⟩ := rv.one
  cases ru
  obtain ⟨z, its, n, r, hl, e⟩ := I.lstM hH
  obtain ⟨z2, its2, n2, r2, hl2, e2⟩ := I.lstM hB
  have hsz : its.toArray.size + its2.toArray.size ≤ sizeLine := by rw [List.size_toArray, List.size_toArray]; omega
  have hlong : ¬ (!its.toArray.isEmpty && Builtin.List.listTooLong (its.toArray.size + its2.toArray.size)) = true := by
    rw [notLongL hsz, Bool.and_false]
    exact Bool.false_ne_true
  refine call_meets F.slot_list_extend ⟨_, e, rfl⟩ F.entry_list_extend (F.args_list_extend_2 _ _)
    (AutoSeq1.list_extend_list_list_0 l its.toArray n b its2.toArray n2 hlong (by rw [List.size_toArray]; omega) (by omega)) ⟨e, e2, ?_⟩
  refine ⟨.non, _, I.lset (its' := its ++ its2) hH e (by simp) (r.append r2) ?_, rfl, q⟩
  rw [List.length_append]
  omega
def rCat : R2 := fun x y H Q => ∃ l b xs zs, x = .ref l ∧ y = .ref b ∧ H l = some (.lst xs) ∧ H b = some (.lst zs) ∧ xs.length + zs.length ≤ sizeLine ∧ ∀ p, H p = none → Q (.ref p) (upd H p (.lst (xs ++ zs)))
theorem op_cat : OpR X (binaryOp .Add) rCat := by
  intro pins s σ H x y v u Q I rx ry h
  obtain ⟨l, b, xs, zs, rfl, rfl, hH, hB, hz, q⟩ := h
  cases rx
  cases ry
  obtain ⟨z, its, n, r, hl, e⟩ := I.lstM hH
  obtain ⟨z2, its2, n2, r2, hl2, e2⟩ := I.lstM hB
  refine PySem.P.add_list e e2 ?_ (by rw [List.size_toArray, List.size_toArray]; omega)
  have ea : its.toArray ++ its2.toArray = (its ++ its2).toArray := by simp
  rw [ea]
  exact ⟨.ref _, _, I.lnew (t' := s.toks) (r.append r2) (by rw [List.length_append]; omega), rfl, q _ I.fresh⟩
end
end L2
namespace L2
open PySem PySem.Spec PyProof.Rows
theorem Vals.bls : ∀ {bs : List Bool} {us : List Value}, Vals (bs.map V.bl) us → us = bs.map Value.bool
  | [], us, h => by
    rw [List.map_nil] at h
    cases h
    rfl
  | b :: bs, us, h => by
    rw [List.map_cons] at h
    cases h with
    | cons r t =>
      cases r
      rw [Vals.bls t, List.map_cons]
theorem Vals.ref1 {a : Addr} {us : List Value} (r : Vals [V.ref a] us) : us = [Value.ref a] := by
  cases r with
  | cons r t =>
    cases t
    cases r
    rfl
theorem iter_any {prog : Program} {w : World} {A : Around} {E : Value → Shared → Prop} {s : Shared} {l : Addr} {items : Array Value} {Q : Value → Shared → Prop} (hl : s.heap.IsList l items)
    (h : ∀ s₂ : Shared, s₂ = { s with heap := s.heap.push { cls := .type "list_iterator", data := .fields #[.ref l, .int 0 0] } } →
      (s₂.heap.IsListIter s.heap.objs.size l 0 ∧ s₂.heap.IsList l items) → l ≠ s.heap.objs.size → Q (.ref s.heap.objs.size) s₂) : wpAny (model prog w) A (pyIter (.ref l)) Q E s := by
  have hlt : l < s.heap.objs.size := by obtain ⟨_, e, _⟩ := hl; exact Heap.lt_size e
  exact wpAny_pyIter_list hl (h _ rfl ⟨⟨_, Heap.get?_push_size _ rfl, rfl, rfl⟩, hl.push _⟩ (Nat.ne_of_lt hlt))
theorem truth_bools {prog : Program} {w : World} {A : Around} {bs : List Bool} {its : List Value} (e : its = bs.map Value.bool) :
    TruthOf prog w A (fun i v => its.toArray[i]? = some v) (fun i => bs.getD i false) := fun i v s Q E hv hq => by
  have hv' : its[i]? = some v := by simpa using hv
  rw [e, List.getElem?_map] at hv'
  obtain ⟨b, hb, rfl⟩ := Option.map_eq_some_iff.mp hv'
  have hg : bs.getD i false = b := by rw [List.getD_eq_getElem?_getD, hb] <;> rfl
  have hq' : Q (bs.getD i false) s := hq
  rw [hg] at hq'
  exact wpAny_truthy_bool hq'
theorem any_range : ∀ bs : List Bool, (List.range bs.length).any (fun i => bs.getD i false) = bs.any id
  | [] => rfl
  | b :: bs => by
    rw [List.length_cons, List.range_succ_eq_map, List.any_cons, List.any_map, List.any_cons, ← any_range bs]
    all_goals rfl
theorem all_range : ∀ bs : List Bool, (List.range bs.length).all (fun i => bs.getD i false) = bs.all id
  | [] => rfl
  | b :: bs => by
    rw [List.length_cons, List.range_succ_eq_map, List.all_cons, List.all_map, List.all_cons, ← all_range bs]
    all_goals rfl
section
variable {X : Cx}
def rAny (K : PySem.W.Frag) : List V → Hp → VK → Prop := fun vs H Q => ∃ (a : Addr) (bs : List Bool), vs = [V.ref a] ∧ SqL K H a (bs.map V.bl) ∧ Q (.bl (bs.any id)) H
def rAll (K : PySem.W.Frag) : List V → Hp → VK → Prop := fun vs H Q => ∃ (a : Addr) (bs : List Bool), vs = [V.ref a] ∧ SqL K H a (bs.map V.bl) ∧ Q (.bl (bs.all id)) H
theorem cr_any (hc : X.calm = true) : CallR X (.builtin "any") (rAny X.K) := by
  intro pins s σ H vs us Q I r h
  obtain ⟨a, bs, rfl, hs, q⟩ := h
  obtain ⟨its, rv, hl, _⟩ := I.list hs
  rw [Vals.ref1 r]
  have hb := rv.bls
  refine call_any_walk (iter_any hl.isList fun s₂ e2 st hne => ?_)
  subst e2
  refine ⟨_, _, _, _, _, _, _, rfl, Walks.list (A := X.A.in1) (I.ok.hd hc) _ a hne its.toArray, st, truth_bools hb, fun h' tk hk => ?_⟩
  refine ⟨.bl _, H, I.kept fun b o eo => hk b o (fun hmem => ?_) (Heap.get?_push_of_some _ eo), ?_, q⟩
  · rcases List.mem_cons.mp hmem with e1 | hmem
    · exact absurd (e1 ▸ Heap.lt_size eo) (Nat.lt_irrefl _)
    · cases hmem
  · show Value.bool _ = Value.bool _
    rw [← any_range, hb, List.size_toArray, List.length_map]
theorem cr_all (hc : X.calm = true) : CallR X (.builtin "all") (rAll X.K) := by
  intro pins s σ H vs us Q I r h
  obtain ⟨a, bs, rfl, hs, q⟩ := h
  obtain ⟨its, rv, hl, _⟩ := I.list hs
  rw [Vals.ref1 r]
  have hb := rv.bls
  refine call_all_walk (iter_any hl.isList fun s₂ e2 st hne => ?_)
  subst e2
  refine ⟨_, _, _, _, _, _, _, rfl, Walks.list (A := X.A.in1) (I.ok.hd hc) _ a hne its.toArray, st, truth_bools hb, fun h' tk hk => ?_⟩
  refine ⟨.bl _, H, I.kept fun b o eo => hk b o (fun hmem => ?_) (Heap.get?_push_of_some _ eo), ?_, q⟩
  · rcases List.mem_cons.mp hmem with e1 | hmem
    · exact absurd (e1 ▸ Heap.lt_size eo) (Nat.lt_irrefl _)
    · cases hmem
  · show Value.bool _ = Value.bool _
    rw [← all_range, hb, List.size_toArray, List.length_map]
end
mutual
inductive Dp (K : PySem.W.Frag) (H : Hp) : V → PyData → Prop
  | non : Dp K H .non .none
  | bl (b : Bool) : Dp K H (.bl b) (.bool b)
  | int (i : Int) : Dp K H (.int i) (.int i)
  | str (x : Str) : Dp K H (.str x) (.str x)
  | lst {a : Addr} {xs : List V} {ds : List PyData} : SqL K H a xs → DpAll K H xs ds → Dp K H (.ref a) (.list ds)
  | tup {a : Addr} {xs : List V} {ds : List PyData} : SqT K H a xs → DpAll K H xs ds → Dp K H (.ref a) (.tuple ds)
inductive DpAll (K : PySem.W.Frag) (H : Hp) : List V → List PyData → Prop
  | nil : DpAll K H [] []
  | cons {v : V} {vs : List V} {d : PyData} {ds : List PyData} : Dp K H v d → DpAll K H vs ds → DpAll K H (v :: vs) (d :: ds)
end
section
variable {X : Cx} {pins : List (Addr × Obj)} {σ : St} {H : Hp} {s : Shared}
mutual
theorem Dp.reads (I : Inv X pins σ H s) : ∀ (d : PyData) (v : V) (u : Value), Dp X.K H v d → RelV v u → ∃ as, Reads s.heap u d as
  | .none, _, _, h, r => by
    cases h
    cases r
    exact ⟨_, Reads.none⟩
  | .bool b, _, _, h, r => by
    cases h
    cases r
    exact ⟨_, Reads.bool b⟩
  | .int i, _, _, h, r => by
    cases h
    obtain ⟨t, rfl⟩ := r
    exact ⟨_, Reads.int i t⟩
  | .str x, _, _, h, r => by
    cases h
    obtain ⟨t, rfl⟩ := r
    exact ⟨_, Reads.str x t⟩
  | .list ds, _, _, h, r => by
    cases h with
    | lst hs ha =>
      cases r
      obtain ⟨its, rv, ⟨o, n, ho, hc, _, hd⟩, _⟩ := I.list hs
      obtain ⟨as, hr⟩ := Dp.readsAll I ds _ its ha rv
      exact ⟨_, Reads.list ho hc hd hr⟩
  | .tuple ds, _, _, h, r => by
    cases h with
    | tup hs ha =>
      cases r
      obtain ⟨its, rv, ⟨o, ho, hc, n, hd⟩, _⟩ := I.tuple hs
      obtain ⟨as, hr⟩ := Dp.readsAll I ds _ its ha rv
      exact ⟨_, Reads.tuple ho hc hd hr⟩
  | .dict _, _, _, h, _ => by cases h
theorem Dp.readsAll (I : Inv X pins σ H s) : ∀ (ds : List PyData) (vs : List V) (us : List Value), DpAll X.K H vs ds → Vals vs us → ∃ as, ReadsAll s.heap us ds as
  | [], _, _, h, r => by
    cases h
    cases r
    exact ⟨_, ReadsAll.nil⟩
  | d :: ds, _, _, h, r => by
    cases h with
    | cons h1 h2 =>
      cases r with
      | cons r1 r2 =>
        obtain ⟨as, q1⟩ := Dp.reads I d _ _ h1 r1
        obtain ⟨bs, q2⟩ := Dp.readsAll I ds _ _ h2 r2
        exact ⟨_, ReadsAll.cons q1 q2⟩
end
end
section
variable {X : Cx}
def rEqD (K : PySem.W.Frag) : R2 := fun x y H Q => ∃ d e, Dp K H x d ∧ Dp K H y e ∧ SeqAt.shaped d = true ∧ SeqAt.shaped e = true ∧ Q (.bl (PyData.eqv d e)) H
theorem op_eqD (hu : X.A.units + 64 < cLine) : OpR X (compareOp .Eq) (rEqD X.K) := by
  intro pins s σ H x y v u Q I rx ry h
  obtain ⟨d, e, hd, he, sd, se, q⟩ := h
  obtain ⟨as, r1⟩ := Dp.reads I d x v hd rx
  obtain ⟨bs, r2⟩ := Dp.reads I e y u he ry
  exact SeqAt.compareEq_shaped r1 r2 sd se hu ⟨.bl _, H, I, rfl, q⟩
end
end L2
namespace L2
open PySem PySem.Spec PyProof.Rows
abbrev CellAt (h : Heap) (c : Addr) (v : Option Value) : Prop := h.IsCell c v
def relS (scope sc : Scope) : Scope :=
  { scope with names := scope.names.map fun (n, k) => if (k == .free && sc.kind == .function && sc.names.lookup n == some .cell) then (n, .cell) else (n, k) }
def cloFrom (cells : List (Str × Addr)) : List (Str × NameKind) → List (Str × Addr) → List (Str × Addr)
  | [], acc => acc
  | (n, k) :: r, acc => if k == .free then cloFrom cells r ((n, (cells.lookup n).getD 0) :: acc) else cloFrom cells r acc
theorem closure_loop (env : Env) (f : Str × NameKind → List (Str × Addr) → Sem (ForInStep (List (Str × Addr))))
    (hf : ∀ n k c, f (n, k) c = if k == .free then (do let a ← cellOf env n; pure (.yield ((n, a) :: c))) else pure (.yield c)) :
    ∀ (names : List (Str × NameKind)) (acc : List (Str × Addr)), (∀ y ∈ names, y.2 = .free → ∃ c, env.cells.lookup y.1 = some c) → forIn names acc f = pure (cloFrom env.cells names acc)
  | [], acc, _ => by rw [List.forIn_nil]; rfl
  | (n, k) :: r, acc, h => by
    rw [List.forIn_cons, hf]
    have ih := fun acc => closure_loop env f hf r acc fun y hy => h y (List.mem_cons_of_mem _ hy)
    unfold cloFrom
    by_cases hk : (k == NameKind.free) = true
    · rw [if_pos hk, if_pos hk]
      obtain ⟨c, hc⟩ := h (n, k) List.mem_cons_self (by simpa using hk)
      have e : cellOf env n = pure c := by unfold cellOf; rw [hc]
      rw [e]
      have e2 : (env.cells.lookup n).getD 0 = c := by rw [hc]; rfl
      rw [e2]
      exact ih _
    · rw [if_neg hk, if_neg hk]
      exact ih _
theorem closure_ok {scope : Scope} {env : Env} (h : ∀ y ∈ scope.names, y.2 = .free → ∃ c, env.cells.lookup y.1 = some c) : closureFor scope env = pure (cloFrom env.cells scope.names []) := by
  simp only [closureFor]
  rw [closure_loop env _ (fun n k c => rfl) scope.names [] h]
  rfl
theorem mem_lookup {α : Type} : ∀ {l : List (Str × α)} {n : Str} {c : α}, (n, c) ∈ l → ∃ c', l.lookup n = some c'
  | (k, v) :: r, n, c, h => by
    rw [List.lookup_cons]
    cases hb : n == k with
    | true => exact ⟨_, rfl⟩
    | false =>
      rcases List.mem_cons.mp h with e | h
      · cases e; simp at hb
      · exact mem_lookup h
theorem cloFrom_mem {cells : List (Str × Addr)} : ∀ {names : List (Str × NameKind)} {acc : List (Str × Addr)} {n : Str} {c : Addr}, (n, c) ∈ cloFrom cells names acc → (n, c) ∈ acc ∨ ((n, .free) ∈ names ∧ c = (cells.lookup n).getD 0)
  | [], _, _, _, h => .inl h
  | (m, k) :: r, acc, n, c, h => by
    unfold cloFrom at h
    split at h
    · rename_i hk
      have hk : k = .free := by simpa using hk
      rcases cloFrom_mem h with h | ⟨h1, h2⟩
      · rcases List.mem_cons.mp h with e | h
        · cases e; exact .inr ⟨hk ▸ List.mem_cons_self, rfl⟩
        · exact .inl h
      · exact .inr ⟨List.mem_cons_of_mem _ h1, h2⟩
    · rcases cloFrom_mem h with h | ⟨h1, h2⟩
      · exact .inl h
      · exact .inr ⟨List.mem_cons_of_mem _ h1, h2⟩
theorem cloFrom_acc {cells : List (Str × Addr)} : ∀ {names : List (Str × NameKind)} {acc : List (Str × Addr)} {p : Str × Addr}, p ∈ acc → p ∈ cloFrom cells names acc
  | [], _, _, h => h
  | (m, k) :: r, acc, p, h => by
    unfold cloFrom
    split
    · exact cloFrom_acc (List.mem_cons_of_mem _ h)
    · exact cloFrom_acc h
theorem cloFrom_has {cells : List (Str × Addr)} : ∀ {names : List (Str × NameKind)} {acc : List (Str × Addr)} {n : Str}, (n, .free) ∈ names → (n, (cells.lookup n).getD 0) ∈ cloFrom cells names acc
  | (m, k) :: r, acc, n, h => by
    unfold cloFrom
    rcases List.mem_cons.mp h with e | h
    · cases e
      exact cloFrom_acc List.mem_cons_self
    · split
      · exact cloFrom_has h
      · exact cloFrom_has h
theorem cells_mem : ∀ {names : List (Str × NameKind)} {h : Heap} {acc : List (Str × Addr)} {x : Str} {c : Addr}, (x, c) ∈ cellsFrom h.objs.size names acc →
    (x, c) ∈ acc ∨ ((x, .cell) ∈ names ∧ h.objs.size ≤ c ∧ CellAt (pushCells h names) c none)
  | [], _, _, _, _, h => .inl h
  | (n, k) :: r, h, acc, x, c, hm => by
    unfold cellsFrom at hm
    unfold pushCells
    split at hm
    · rename_i hk
      rw [if_pos hk]
      have hk : k = .cell := by simpa using hk
      rw [← Heap.size_push h { cls := .type "cell", data := .cell none }] at hm
      rcases cells_mem hm with hm | ⟨h1, h2, h3⟩
      · rcases List.mem_cons.mp hm with e | hm
        · cases e
          exact .inr ⟨hk ▸ List.mem_cons_self, Nat.le_refl _, _, pushCells_keeps r _ _ _ (Heap.get?_push_size _ rfl), rfl⟩
        · exact .inl hm
      · rw [Heap.size_push] at h2
        exact .inr ⟨List.mem_cons_of_mem _ h1, Nat.le_of_succ_le h2, h3⟩
    · rename_i hk
      rw [if_neg hk]
      rcases cells_mem hm with hm | ⟨h1, h2, h3⟩
      · exact .inl hm
      · exact .inr ⟨List.mem_cons_of_mem _ h1, h2, h3⟩
theorem cells_acc : ∀ {names : List (Str × NameKind)} {n : Nat} {acc : List (Str × Addr)} {p : Str × Addr}, p ∈ acc → p ∈ cellsFrom n names acc
  | [], _, _, _, h => h
  | (m, k) :: r, n, acc, p, h => by
    unfold cellsFrom
    split
    · exact cells_acc (List.mem_cons_of_mem _ h)
    · exact cells_acc h
theorem cells_has : ∀ {names : List (Str × NameKind)} {n : Nat} {acc : List (Str × Addr)} {x : Str}, (x, .cell) ∈ names → ∃ c, (x, c) ∈ cellsFrom n names acc
  | (m, k) :: r, n, acc, x, h => by
    unfold cellsFrom
    rcases List.mem_cons.mp h with e | h
    · cases e
      exact ⟨n, cells_acc List.mem_cons_self⟩
    · split
      · exact cells_has h
      · exact cells_has h
theorem cells_inj : ∀ {names : List (Str × NameKind)} {h : Heap} {acc : List (Str × Addr)} {x y : Str} {c : Addr}, (∀ p ∈ acc, p.2 < h.objs.size) → (∀ x y c, (x, c) ∈ acc → (y, c) ∈ acc → x = y) →
    (x, c) ∈ cellsFrom h.objs.size names acc → (y, c) ∈ cellsFrom h.objs.size names acc → x = y
  | [], _, _, _, _, _, _, hi, h1, h2 => hi _ _ _ h1 h2
  | (n, k) :: r, h, acc, x, y, c, hl, hi, h1, h2 => by
    unfold cellsFrom at h1 h2
    split at h1
    · rename_i hk
      rw [if_pos hk] at h2
      rw [← Heap.size_push h { cls := .type "cell", data := .cell none }] at h1 h2
      refine cells_inj (h := h.push _) (fun p hp => ?_) (fun x y c a b => ?_) h1 h2
      · rw [Heap.size_push]
        rcases List.mem_cons.mp hp with rfl | hp
        · exact Nat.lt_succ_self _
        · exact Nat.lt_succ_of_lt (hl p hp)
      · rcases List.mem_cons.mp a with e | a <;> rcases List.mem_cons.mp b with e' | b
        · cases e; cases e'; rfl
        · cases e; exact absurd (hl _ b) (Nat.lt_irrefl _)
        · cases e'; exact absurd (hl _ a) (Nat.lt_irrefl _)
        · exact hi _ _ _ a b
    · rename_i hk
      rw [if_neg hk] at h2
      exact cells_inj hl hi h1 h2
theorem newEnv_comp {M : Model} {A : Around} {E : Value → Shared → Prop} {s : Shared} {scope : Scope} {globals : Addr} {closure : List (Str × Addr)} {qual : Str} {func : Option Addr} {code : Value} {around : Env} {builtins : Addr} {Q : Env → Shared → Prop}
    (h : Q (newEnv scope s.heap.objs.size globals (cellsFrom (s.heap.objs.size + 1) scope.names closure) qual func code (some around) builtins)
      { s with heap := pushCells (s.heap.push { cls := .type "dict", data := .dict #[] }) scope.names }) :
    wpAny M A (newFunctionEnv scope globals closure [] qual func code (some around) builtins) Q E s := by
  simp only [newFunctionEnv, Option.isSome_some, if_true]
  refine wpAny_bind (wpAny_alloc ?_)
  refine wpAny_bind (wpAny_layCells _ (fun n k c => rfl) scope.names closure _ _ ?_)
  rw [show ({ s with heap := s.heap.push { cls := .type "dict", data := .dict #[] } } : Shared).heap.objs.size = s.heap.objs.size + 1 from Heap.size_push ..]
  rw [List.forIn_nil]
  exact wpAny_bind (wpAny_pure (wpAny_pure h))
/-- every name of the written scope, in the scope that runs -/
theorem lookup_relS {sc : Scope} : ∀ {names : List (Str × NameKind)} {x : Str} {k : NameKind},
    (names.map fun (n, k) => if (k == NameKind.free && sc.kind == .function && sc.names.lookup n == some .cell) then (n, NameKind.cell) else (n, k)).lookup x = some k →
    ∃ k', names.lookup x = some k' ∧ (k = k' ∨ (k' = .free ∧ k = .cell))
  | [], _, _, h => by simp at h
  | (n, k₀) :: r, x, k, h => by
    have ih := @lookup_relS sc r x k
    have h' : List.lookup x ((if (k₀ == NameKind.free && sc.kind == .function && sc.names.lookup n == some .cell) = true then (n, NameKind.cell) else (n, k₀)) :: (r.map _)) = some k := h
    cases hx : x == n with
    | true =>
      simp only [List.lookup_cons, hx]
      by_cases hc : (k₀ == NameKind.free && sc.kind == .function && sc.names.lookup n == some .cell) = true
      · rw [if_pos hc] at h'
        simp only [List.lookup_cons, hx] at h'
        cases h'
        simp only [Bool.and_eq_true, beq_iff_eq] at hc
        exact ⟨k₀, rfl, .inr ⟨hc.1.1, rfl⟩⟩
      · rw [if_neg hc] at h'
        simp only [List.lookup_cons, hx] at h'
        cases h'
        exact ⟨_, rfl, .inl rfl⟩
    | false =>
      simp only [List.lookup_cons, hx]
      by_cases hc : (k₀ == NameKind.free && sc.kind == .function && sc.names.lookup n == some .cell) = true
      · rw [if_pos hc] at h'
        simp only [List.lookup_cons, hx] at h'
        exact ih h'
      · rw [if_neg hc] at h'
        simp only [List.lookup_cons, hx] at h'
        exact ih h'
/-- the names of a comprehension's block: its own (with their places in N), or captured -/
structure BlkOk (N : List Str) (sc scope : Scope) (own : List (Str × Nat)) : Prop where
  kind : scope.kind = .function
  uniq : ∀ y ∈ scope.names, scope.names.lookup y.1 = some y.2
  ix : ∀ p ∈ own, N[p.2]? = some p.1
  free : ∀ y ∈ scope.names, y.2 = .free → sc.names.lookup y.1 = some .cell ∨ sc.names.lookup y.1 = some .free
  own : ∀ y ∈ scope.names, y.2 = .local ∨ y.2 = .cell → y.1 ∈ own.map (·.1) ∨ y.1 ∉ N
/-- the slots of the block's own names forgotten -/
def wipe (σ : St) : List Nat → St
  | [] => σ
  | v :: vs => (wipe σ vs).set v none
theorem wipe_length (σ : St) : ∀ vs : List Nat, (wipe σ vs).length = σ.length
  | [] => rfl
  | v :: vs => by unfold wipe; rw [List.length_set, wipe_length σ vs]
theorem wipe_some {σ : St} {i : Nat} {x : V} : ∀ {vs : List Nat}, (wipe σ vs)[i]? = some (some x) → σ[i]? = some (some x) ∧ i ∉ vs
  | [], h => ⟨h, by simp⟩
  | v :: vs, h => by
    unfold wipe at h
    by_cases hi : v = i
    · subst hi
      by_cases hv : v < (wipe σ vs).length
      · rw [List.getElem?_set_self hv] at h; cases h
      · rw [List.getElem?_eq_none (by simpa using hv)] at h; cases h
    · rw [List.getElem?_set_ne hi] at h
      obtain ⟨h1, h2⟩ := wipe_some h
      exact ⟨h1, by simp only [List.mem_cons, not_or]; exact ⟨fun e => hi e.symm, h2⟩⟩
/-- the context of a block that starts at s, its iterator's objects at fp -/
abbrev Cx.blk (X : Cx) (s : Shared) (H : Hp) (scope : Scope) (cenv : Env) (fp : List Addr) : Cx := { X with s_0 := s, H_0 := H, env := cenv, outer := X.stack, ex := fp, fn := fun x => scope.names.lookup x == some .cell, pn := [], xe := fun _ _ => False }
section
variable {X : Cx} {pins : List (Addr × Obj)} {σ : St} {H : Hp} {s : Shared}
theorem block_start {scope : Scope} {own : List (Str × Nat)} {fp : List Addr} (I : Inv X pins σ H s) (ok : BlkOk X.N X.env.scope scope own) (hN : X.N.Nodup) (hfp : ∀ b ∈ fp, FpOk X pins H b ∧ b < s.heap.objs.size) :
    Inv (X.blk s H scope (compEnvC scope (cellsFrom (s.heap.objs.size + 1) scope.names (cloFrom X.env.cells scope.names [])) s.heap.objs.size X.env) fp) [] (wipe σ (own.map (·.2))) H { s with heap := pushCells (s.heap.push { cls := .type "dict", data := .dict #[] }) scope.names } := by
  have hfree : ∀ y ∈ scope.names, y.2 = .free → ∃ c, X.env.cells.lookup y.1 = some c := fun y hy e => by
    rcases ok.free y hy e with k | k
    · exact I.ok.has _ (.inl k)
    · exact I.ok.has _ (.inr k)
  generalize hcenv : compEnvC scope (cellsFrom (s.heap.objs.size + 1) scope.names (cloFrom X.env.cells scope.names [])) s.heap.objs.size X.env = cenv
  have kp : ∀ b o, s.heap.get? b = some o → (pushCells (s.heap.push { cls := .type "dict", data := .dict #[] }) scope.names).get? b = some o := fun b o e => pushCells_keeps _ _ _ _ (Heap.get?_push_of_some _ e)
  have hL : cenv.locals = s.heap.objs.size := by rw [← hcenv]; rfl
  have hcl : cenv.cells = cellsFrom (s.heap.objs.size + 1) scope.names (cloFrom X.env.cells scope.names []) := by rw [← hcenv]; rfl
  have hsc : cenv.scope = relS scope X.env.scope := by rw [← hcenv]; rfl
  rw [← Heap.size_push s.heap { cls := .type "dict", data := .dict #[] }] at hcl
  have cm : ∀ {y c}, (y, c) ∈ cloFrom X.env.cells scope.names [] → X.env.cells.lookup y = some c ∧ c < s.heap.objs.size := fun {y c} hm => by
    rcases cloFrom_mem hm with hm | ⟨h1, rfl⟩
    · cases hm
    · obtain ⟨c, hc⟩ := hfree _ h1 rfl
      rw [hc]
      obtain ⟨w, z⟩ := I.cell _ _ hc
      exact ⟨rfl, z.lt⟩
  have mem : ∀ {y c}, cenv.cells.lookup y = some c → (X.env.cells.lookup y = some c ∧ c < s.heap.objs.size) ∨ (s.heap.objs.size + 1 ≤ c ∧ CellAt (pushCells (s.heap.push { cls := .type "dict", data := .dict #[] }) scope.names) c none) := fun {y c} e => by
    rw [hcl] at e
    rcases cells_mem (PySem.mem_of_lookup e) with hm | ⟨_, h2, h3⟩
    · exact .inl (cm hm)
    · rw [Heap.size_push] at h2; exact .inr ⟨h2, h3⟩
  have look : ∀ {y}, scope.names.lookup y = some .free → ∃ c, cenv.cells.lookup y = some c ∧ X.env.cells.lookup y = some c := fun {y} hl => by
    have hy : (y, NameKind.free) ∈ scope.names := PySem.mem_of_lookup hl
    obtain ⟨c', e'⟩ := mem_lookup (cells_acc (names := scope.names) (n := (s.heap.push { cls := .type "dict", data := .dict #[] }).objs.size) (cloFrom_has (cells := X.env.cells) (acc := []) hy))
    rw [← hcl] at e'
    refine ⟨c', e', ?_⟩
    rw [hcl] at e'
    rcases cells_mem (PySem.mem_of_lookup e') with hm | ⟨h1, _, _⟩
    · exact (cm hm).1
    · have := ok.uniq _ h1
      rw [hl] at this; cases this
  have okB : (X.blk s H scope cenv fp).Ok := by
    refine ⟨I.ok.mod, by show cenv.scope.kind = _; rw [hsc]; exact ok.kind, by show cenv.globals = _; rw [← hcenv]; exact I.ok.glob, by show cenv.builtins = _; rw [← hcenv]; exact I.ok.blt, by show s.heap.objs.size ≤ cenv.locals; rw [hL]; exact Nat.le_refl _,
      fun y z c e1 e2 => ?_, fun y hy => ?_, fun y c z e => ?_, I.ok.hd, I.ok.frames, .inl rfl, fun b hb => ⟨?_, fun y c e z => ?_⟩, I.bs, Nat.le_trans I.ok.bsz I.sz, fun b o e hb => ?_, fun b hb z => ?_, I.stack, I.stkFree⟩
    · have e1 : cenv.cells.lookup y = some c := e1
      have e2 : cenv.cells.lookup z = some c := e2
      rw [hcl] at e1 e2
      refine cells_inj (fun p hp => ?_) (fun y z c a b => I.ok.inj y z c (cm a).1 (cm b).1) (PySem.mem_of_lookup e1) (PySem.mem_of_lookup e2)
      rw [Heap.size_push]
      exact Nat.lt_succ_of_lt (cm (y := p.1) (c := p.2) hp).2
    · show ∃ c, cenv.cells.lookup y = some c
      have key : ∀ k, cenv.kindOf y = some k → (k = .cell ∨ k = .free) → ∃ c, cenv.cells.lookup y = some c := fun k hk hk' => by
        unfold Env.kindOf at hk
        rw [hsc] at hk
        obtain ⟨k', e, r⟩ := lookup_relS hk
        have : k' = .cell ∨ k' = .free := by
          rcases r with rfl | ⟨rfl, _⟩
          · exact hk'
          · exact .inr rfl
        rcases this with rfl | rfl
        · obtain ⟨c, hm⟩ := cells_has (n := (s.heap.push { cls := .type "dict", data := .dict #[] }).objs.size) (acc := cloFrom X.env.cells scope.names []) (PySem.mem_of_lookup e)
          obtain ⟨c', e'⟩ := mem_lookup hm
          exact ⟨c', by rw [hcl]; exact e'⟩
        · obtain ⟨c, h1, _⟩ := look e
          exact ⟨c, h1⟩
      rcases hy with hy | hy
      · exact key _ hy (.inl rfl)
      · exact key _ hy (.inr rfl)
    · have z : (scope.names.lookup y == some NameKind.cell) = true := z
      have z : scope.names.lookup y = some .cell := by simpa using z
      have e : cenv.cells.lookup y = some c := e
      rw [hcl] at e
      rcases cells_mem (PySem.mem_of_lookup e) with hm | ⟨_, h2, _⟩
      · rcases cloFrom_mem hm with hm | ⟨h1, _⟩
        · cases hm
        · have q := ok.uniq _ h1
          rw [z] at q; cases q
      · rw [Heap.size_push] at h2
        exact Nat.le_of_succ_le h2
    · show b ≠ cenv.locals
      rw [hL]; exact Nat.ne_of_lt (hfp b hb).2
    · have e : cenv.cells.lookup y = some c := e
      rcases mem e with ⟨h1, _⟩ | ⟨h1, _⟩
      · exact (hfp b hb).1.2.2.2.2.1 y c h1 z
      · have h2 : s.heap.objs.size + 1 ≤ b := by rw [← z]; exact h1
        exact absurd (Nat.lt_of_lt_of_le (hfp b hb).2 (Nat.le_of_succ_le h2)) (Nat.lt_irrefl _)
    · rcases (hfp b hb).1.2.2.2.1 with z | z
      · exact I.ok.noex b o e z
      · exact absurd (Nat.lt_of_lt_of_le (Heap.lt_size e) (Nat.le_trans I.ok.bsz z)) (Nat.lt_irrefl _)
    · rcases List.mem_cons.mp (I.stkSub b z) with z | z
      · exact (hfp b hb).1.2.1 z
      · exact (hfp b hb).1.2.2.1 z
  refine ⟨okB, rfl, I.bare, Un.kept kp, ⟨fun _ => none, ?_, fun i y av e1 e2 e3 => ?_⟩, fun y c e => ?_, ?_, fun y c e => ?_, fun p hp => ?_, I.hok.kept kp, by rw [wipe_length]; exact I.len⟩
  · show Heap.Ns _ cenv.locals _
    rw [hL]
    exact Heap.Ns.keeps (Heap.Ns.new ..) fun b o e => pushCells_keeps _ _ _ _ e
  · obtain ⟨e2, hne⟩ := wipe_some e2
    have hfr : scope.names.lookup y = some .free ∧ (cenv.kindOf y = some .cell ∨ cenv.kindOf y = some .free) := by
      have key : ∀ k, cenv.scope.names.lookup y = some k → k = .local ∨ k = .cell ∨ k = .free → scope.names.lookup y = some .free ∧ (cenv.kindOf y = some .cell ∨ cenv.kindOf y = some .free) := fun k hk hk' => by
        have hk0 := hk
        rw [hsc] at hk
        obtain ⟨k', e, r⟩ := lookup_relS hk
        have no : ¬ (k' = .local ∨ k' = .cell) := fun hh => by
          rcases ok.own _ (PySem.mem_of_lookup e) hh with e' | e'
          · obtain ⟨p, hp, hpy⟩ := List.mem_map.mp e'
            have e3 := ok.ix p hp
            have : p.1 = y := hpy
            rw [this] at e3
            exact hne (List.mem_map.mpr ⟨p, hp, nodup_ix hN e3 e1⟩)
          · exact e' (List.mem_of_getElem? e1)
        rcases r with rfl | ⟨rfl, rfl⟩
        · rcases hk' with rfl | rfl | rfl
          · exact absurd (.inl rfl) no
          · exact absurd (.inr rfl) no
          · exact ⟨e, .inr hk0⟩
        · exact ⟨e, .inl hk0⟩
      have e3 : Vis cenv.scope y := e3
      rcases e3 with e3 | e3 | e3
      · exact key _ e3 (.inl rfl)
      · exact key _ e3 (.inr (.inl rfl))
      · exact key _ e3 (.inr (.inr rfl))
    obtain ⟨m, hn, hl⟩ := I.loc
    have hvis : Vis X.env.scope y := (ok.free _ (PySem.mem_of_lookup hfr.1) rfl).elim (fun k => .inr (.inl k)) (fun k => .inr (.inr k))
    obtain ⟨w, r, q⟩ := hl i y av e1 e2 hvis
    refine ⟨w, r, .inr ⟨hfr.2, ?_⟩⟩
    obtain ⟨c, h1, h2⟩ := look hfr.1
    rcases q with ⟨k, _⟩ | ⟨_, c', e', z⟩
    · have k : X.env.scope.names.lookup y = some .local := k
      rcases ok.free _ (PySem.mem_of_lookup hfr.1) rfl with k' | k' <;> rw [show X.env.scope.names.lookup y = _ from k'] at k <;> cases k
    · rw [h2] at e'; cases e'
      exact ⟨c, h1, z.keeps kp⟩
  · have e : cenv.cells.lookup y = some c := e
    rcases mem e with ⟨h1, _⟩ | ⟨_, z⟩
    · obtain ⟨w, z⟩ := I.cell y c h1
      exact ⟨w, z.keeps kp⟩
    · exact ⟨_, z⟩
  · show H cenv.locals = none
    rw [hL]; exact I.hok.fresh (Nat.le_refl _)
  · have e : cenv.cells.lookup y = some c := e
    rcases mem e with ⟨h1, _⟩ | ⟨h1, _⟩
    · exact I.freeC y c h1
    · exact I.hok.fresh (Nat.le_of_succ_le h1)
  · exact absurd (show p ∈ ([] : List (Addr × Obj)) ++ [] from hp) (by simp)
/-- an item appended to a tracked list -/
theorem app_ok {E : Value → Shared → Prop} {D : Addr} {xs : List V} {y : V} {v : Value} {Q : Value → Shared → Prop} (I : Inv X pins σ H s) (hD : H D = some (.lst xs)) (hz : xs.length < sizeLine) (r : RelV y v)
    (h : ∀ s', Inv X pins σ (upd H D (.lst (xs ++ [y]))) s' → Q .none s') : wpAny (model X.prog X.w) X.A (call (.builtin "list.append") [.ref D, v]) Q E s := by
  obtain ⟨hz', its, n, ri, e⟩ := I.hok D _ hD
  have hl := ri.length
  refine append_at (hsz := by rw [List.size_toArray]; omega) e fun h' sb ho' => ?_
  refine h { s with heap := h' } (I.write (t' := s.toks) (by rw [hD]; trivial) (.inl rfl) (fun b u hb q => (sb.2 b hb).trans q) ⟨_, ho'⟩ ⟨by rw [List.length_append]; exact hz, its ++ [v], n + 1, ri.append (.cons r .nil), ?_⟩)
  rw [ho']
  simp
/-- a clause's tests -/
def PTs (X : Cx) (ifs : List Expr) (t : TT) : Prop :=
  ∀ (pins : List (Addr × Obj)) (s : Shared) (σ : St) (H : Hp) (Q : Bool → Hp → Prop), Inv X pins σ H s → t σ H Q →
    wpAny (model X.prog X.w) X.A (forIn ifs true fun c r => if r = true then do let ok ← isTrue c X.env (eval c X.env); pure (ForInStep.yield ok) else pure (ForInStep.yield r)) (TP X pins σ Q) X.xe s
def tYes : TT := fun _ H Q => Q true H
theorem pts_nil : PTs X [] tYes := fun _ _ _ H _ I h => wpAny_tests_nil ⟨H, I, h⟩
theorem pts_one {c : Expr} {t : TT} (h : PT X c t) : PTs X [c] t := fun pins s σ H Q I hw => wpAny_tests_one (h pins s σ H Q I hw)
end
theorem thnF {α : Type} {t : Sem α} {Q Q' : α → Shared → Prop} {M : Model} {A : Around} {E : Value → Shared → Prop} {s : Shared} (h : wpAny M A t Q (fun _ _ => False) s) (hQ : ∀ a s, Q a s → Q' a s) : wpAny M A t Q' E s := wpAny_mono h hQ fun _ _ z => False.elim z
/-- the loop of a list comprehension's block, the target of any form (codeAny_compLoop_tests asks a target that no tuple goes to; statement and proof follow it, PyProof/CompMap.lean:41-61, with the step letOwnedTupleGo kept) -/
theorem compLoop_any {prog : Program} {w : World} {A : Around} {R : Result → Shared → Prop} {s : Shared} {elt target iter : Expr} {ifs : List Expr} {scope : Scope} {pos : Pos} {it acc : Value} {env : Env} (I : Nat → Shared → Prop)
    (turn : ∀ n s, I n s → wpAny (model prog w) A (pyNext it) (fun r s₁ => match r with
      | none => R (.ok .next) s₁
      | some v => wpAny (model prog w) A (letOwnedTupleGo target it v) (fun _ s₁' => wpAny (model prog w) A (assign target env v) (fun _ s₂ =>
          wpAny (model prog w) A (forIn ifs true fun c r => if r = true then do let ok ← isTrue c env (eval c env); pure (ForInStep.yield ok) else pure (ForInStep.yield r)) (fun ok s₃ =>
            if ok = true then wpAny (model prog w) A (eval elt env) (fun x s₄ =>
              wpAny (model prog w) A (call (.builtin "list.append") [acc, x]) (fun _ s₅ => ∃ m, m < n ∧ I m s₅) (notedBy (model prog w) A env fun e s' => R (.error e) s') s₄) (notedBy (model prog w) A env fun e s' => R (.error e) s') s₃
            else ∃ m, m < n ∧ I m s₃) (notedBy (model prog w) A env fun e s' => R (.error e) s') s₂) (notedBy (model prog w) A env fun e s' => R (.error e) s') s₁') (notedBy (model prog w) A env fun e s' => R (.error e) s') s₁) (notedBy (model prog w) A env fun e s' => R (.error e) s') s)
    (n : Nat) (h : I n s) :
    codeAny (model prog w) A (.compLoop (.ListComp elt [⟨target, iter, ifs, 0⟩] scope pos) 0 it acc env) R s := by
  refine codeAny_loop rfl I (fun n s hI => ?_) n h
  show wpAny _ A ((compTurn (.ListComp elt [⟨target, iter, ifs, 0⟩] scope pos) 0 it acc env).onRaise (fun x => do noteFrame x env; theTreesLotGoes x)) _ _ s
  refine wpAny_noted ?_
  rw [compTurn_list]
  refine wpAny_bind (wpAny_standAt (wpAny_bind (wpAny_mono (turn n s hI) (fun r s₁ h₁ => ?_) fun _ _ h' => h')))
  cases r with
  | none => exact wpAny_pure h₁
  | some v =>
    refine wpAny_bind (wpAny_mono h₁ (fun _ s₁' h₁' => ?_) fun _ _ h' => h')
    refine wpAny_bind (wpAny_mono h₁' (fun _ s₂ h₂ => wpAny_bind (wpAny_mono h₂ (fun ok s₃ h₃ => ?_) fun _ _ h' => h')) fun _ _ h' => h')
    cases ok with
    | false => exact wpAny_pure ⟨rfl, h₃⟩
    | true =>
      exact wpAny_bind (wpAny_bind (wpAny_mono h₃ (fun x s₄ h₄ => wpAny_bind (wpAny_mono h₄ (fun _ s₅ h₅ => wpAny_pure (wpAny_pure ⟨rfl, h₅⟩)) fun _ _ h' => h')) fun _ _ h' => h'))
section
variable {X : Cx}
/-- [elt for target in iter if ..]: D the new list; W by the turn and a measure, Nx what a turn is to reach -/
def tLc (wi : TI) (g : TG) (tt : TT) (te : TE) (vs : List Nat) : TE := fun σ H Q => wi σ H fun J H1 => ∀ D, H1 D = none → ∃ W : Nat → Nat → Hp → Prop, (∃ m, W 0 m (upd H1 D (.lst []))) ∧ ∀ i m H, W i m H →
  (J.stop i H ∧ Q (.ref D) H) ∨ (J.go i H ∧ ∃ Nx : Hp → Prop, (∀ H', Nx H' → ∃ m', m' < m ∧ W (i + 1) m' H') ∧ ∀ x H', J.yld i H x H' → g x (wipe σ vs) H' fun σ2 H2 => wipe σ2 vs = wipe σ vs ∧ tt σ2 H2 fun b H3 =>
    if b = true then te σ2 H3 fun y H4 => ∃ acc, H4 D = some (.lst acc) ∧ acc.length < sizeLine ∧ Nx (upd H4 D (.lst (acc ++ [y]))) else Nx H3)
theorem lc_core {pins : List (Addr × Obj)} {s : Shared} {σ : St} {H : Hp} {Q : VK} {elt tg iter : Expr} {ifs : List Expr} {scope : Scope} {own : List (Str × Nat)} {pos pos' : Pos} {wi : TI} {g : TG} {tt : TT} {te : TE} {use : Option (Value → Sem Unit)} {Qf : Value → Shared → Prop}
    (hc : X.calm = true) (hN : X.N.Nodup) (I : Inv X pins σ H s) (hi : PI X tg iter wi) (ok : BlkOk X.N X.env.scope scope own)
    (hg : ∀ (s : Shared) (H : Hp) (C : Addr) (cl : List (Str × Addr)) (fp : List Addr), PG (X.blk s H scope (compEnvC scope cl C X.env) fp) tg g) (ht : ∀ (s : Shared) (H : Hp) (C : Addr) (cl : List (Str × Addr)) (fp : List Addr), PTs (X.blk s H scope (compEnvC scope cl C X.env) fp) ifs tt)
    (he : ∀ (s : Shared) (H : Hp) (C : Addr) (cl : List (Str × Addr)) (fp : List Addr), PE (X.blk s H scope (compEnvC scope cl C X.env) fp) elt te) (hs : ∀ x, foldedSetIterable iter X.env x = pure x)
    (h : tLc wi g tt te (own.map (·.2)) σ H Q)
    (hRR : ∀ D C s' m H', Inv X pins σ H' s' → Q (.ref D) H' → s'.heap.Ns C m → FpOk X pins H' C → compPost (model X.prog X.w) X.A X.xe use Qf (.ref D) C (.ok .next) s') :
    wpAny (model X.prog X.w) X.A (comprehension (.ListComp elt [⟨tg, iter, ifs, 0⟩] scope pos) scope X.env pos' (newList []) false (eval iter X.env) use) Qf X.xe s := by
  have hfree : ∀ y ∈ scope.names, y.2 = .free → ∃ c, X.env.cells.lookup y.1 = some c := fun y hy e => by
    rcases ok.free y hy e with k | k
    · exact I.ok.has _ (.inl k)
    · exact I.ok.has _ (.inr k)
  refine wpAny_comprehension_free (use := use) rfl hs (closure_ok hfree) ok.kind (fun y hy e => by rw [ok.uniq y hy, e])
    (thn (hi pins s σ H _ I h) fun xv s1 hx => thn hx fun itv s2 h2 => ?_)
  obtain ⟨it, fp, tn, J, H2, e, I2, T, st2, f2, q⟩ := h2
  subst e
  refine wpAny_newObj_type (newEnv_comp ?_) (by show 0 ≤ sizeLine; decide)
  generalize hD : s2.heap.objs.size = D
  have hDn : H2 D = none := I2.hok.fresh (Nat.le_of_eq hD)
  obtain ⟨W, ⟨m0, w0⟩, turn⟩ := q D hDn
  -- the new list
  generalize hs3 : ({ s2 with heap := s2.heap.push { cls := .type "list", data := .seq ([] : List Value).toArray } } : Shared) = s3
  have I3 : Inv X pins σ (upd H2 D (.lst [])) s3 := by
    rw [← hs3]
    refine I2.laid (t' := s2.toks) (fun b o e => Heap.get?_push_of_some _ e) (Nat.le_of_eq hD) ⟨Nat.zero_le _, [], 0, .nil, ?_⟩
    rw [← hD]
    exact Heap.get?_push_size _ rfl
  have h3 : s3.heap = s2.heap.push { cls := .type "list", data := .seq ([] : List Value).toArray } := by rw [← hs3]
  have sz : ∀ b ∈ fp, b < s2.heap.objs.size := fun b hb => by
    obtain ⟨o, e, _⟩ := T.obj _ _ st2 b hb
    exact Heap.lt_size e
  have f3 : ∀ b ∈ fp, FpOk X pins (upd H2 D (.lst [])) b ∧ b < s3.heap.objs.size := fun b hb => by
    have hlt := sz b hb
    refine ⟨⟨?_, (f2 b hb).2⟩, by rw [h3, Heap.size_push]; exact Nat.lt_succ_of_lt hlt⟩
    rw [upd_ne (by rw [← hD]; exact Nat.ne_of_lt hlt)]
    exact (f2 b hb).1
  have st3 : tn 0 s3.heap := T.keep _ _ _ st2 fun b _ o e => by rw [h3]; exact Heap.get?_push_of_some _ e
  have I4 := block_start I3 ok hN f3
  have pg := hg s3 (upd H2 D (.lst [])) s3.heap.objs.size (cellsFrom (s3.heap.objs.size + 1) scope.names (cloFrom X.env.cells scope.names [])) fp
  have pt := ht s3 (upd H2 D (.lst [])) s3.heap.objs.size (cellsFrom (s3.heap.objs.size + 1) scope.names (cloFrom X.env.cells scope.names [])) fp
  have pe := he s3 (upd H2 D (.lst [])) s3.heap.objs.size (cellsFrom (s3.heap.objs.size + 1) scope.names (cloFrom X.env.cells scope.names [])) fp
  show codeAny _ _ (.compStart (.ListComp elt [⟨tg, iter, ifs, 0⟩] scope pos) 0 (.ref it) (.ref D) (compEnvC scope (cellsFrom (s3.heap.objs.size + 1) scope.names (cloFrom X.env.cells scope.names [])) s3.heap.objs.size X.env)) (compPost (model X.prog X.w) X.A X.xe use Qf (.ref D) s3.heap.objs.size) { s3 with heap := pushCells (s3.heap.push { cls := .type "dict", data := .dict #[] }) scope.names }
  have nfp : ∀ b ∈ fp, (upd H2 D (.lst [])) b = none := fun b hb => (f3 b hb).1.1
  generalize hce : compEnvC scope (cellsFrom (s3.heap.objs.size + 1) scope.names (cloFrom X.env.cells scope.names [])) s3.heap.objs.size X.env = ce at I4 pg pt pe ⊢
  have cL : ce.locals = s3.heap.objs.size := by subst hce; rfl
  generalize hH3 : upd H2 D (.lst []) = H3 at I3 I4 pg pt pe w0 nfp f3
  generalize hs4 : ({ s3 with heap := pushCells (s3.heap.push { cls := .type "dict", data := .dict #[] }) scope.names } : Shared) = s4 at I4 ⊢
  have st4 : tn 0 s4.heap := T.keep _ _ _ st3 fun b _ o e => by rw [← hs4]; exact pushCells_keeps _ _ _ _ (Heap.get?_push_of_some _ e)
  have stat : ∀ {σ' : St} {H' : Hp} {s' : Shared}, Inv (X.blk s3 H3 scope ce fp) [] σ' H' s' → (∀ b ∈ fp, H' b = none) → ∀ b ∈ fp, FpOk (X.blk s3 H3 scope ce fp) [] H' b := fun {σ' H' s'} I' hn b hb =>
    ⟨hn b hb, (I'.ok.exf b hb).1, I'.ok.exfs b hb, .inl hb, fun x c e => (I'.ok.exf b hb).2 x c e, fun p hp => absurd (show p ∈ ([] : List (Addr × Obj)) ++ [] from hp) (by simp)⟩
  have loop : codeAny (model X.prog X.w) X.A (.compLoop (.ListComp elt [⟨tg, iter, ifs, 0⟩] scope pos) 0 (.ref it) (.ref D) ce) (compPost (model X.prog X.w) X.A X.xe use Qf (.ref D) s3.heap.objs.size) s4 := by
    refine compLoop_any (fun n s' => ∃ i H', Inv (X.blk s3 H3 scope ce fp) [] (wipe σ (own.map (·.2))) H' s' ∧ tn i s'.heap ∧ (∀ b ∈ fp, H' b = none) ∧ W i n H') ?_ m0 ⟨0, H3, I4, st4, nfp, w0⟩
    rintro n s5 ⟨i, H5, I5, st5, n5, w5⟩
    rcases turn i n H5 w5 with ⟨stop, qq⟩ | ⟨go, Nx, hNx, step⟩
    · have td := T.done (X.blk s3 H3 scope ce fp) rfl rfl rfl hc i [] s5 _ H5 (fun _ _ => False) I5 (stat I5 n5) st5 stop
      refine thnF td fun r s6 ⟨hr, I6⟩ => ?_
      subst hr
      -- back in the def's context
      have I7 : Inv X pins σ H5 s6 := I3.call' (ch := fp) I6.os I6.base I6.hok I6.bare fun b hb => ⟨(f3 b hb).1.2.2.2.1, (f3 b hb).1.2.1, (f3 b hb).1.2.2.2.2.1, (f3 b hb).1.2.2.2.2.2⟩
      have nC : H5 s3.heap.objs.size = none := by
        have z : H5 ce.locals = none := I6.free
        rw [cL] at z
        exact z
      obtain ⟨m, hn, _⟩ := I6.loc
      have hn : s6.heap.Ns ce.locals m := hn
      rw [cL] at hn
      exact hRR D s3.heap.objs.size s6 m H5 I7 qq hn (I3.fpOk (Nat.le_refl _) nC)
    · have ti := T.item (X.blk s3 H3 scope ce fp) rfl rfl rfl hc i [] s5 _ H5 (fun _ _ => False) I5 (stat I5 n5) st5 go
      refine thnF ti fun r s6 ⟨u, hr, h6⟩ => ?_
      subst hr
      refine thnF h6 fun _ s7 ⟨x, H7, I7, r7, y7, st7, n7⟩ => ?_
      have I7' := I7.pinned (stat I7 n7) (T.obj _ _ st7)
      refine thnF (pg _ s7 _ H7 x u _ I7' r7 (step x H7 y7)) fun _ s8 ⟨σ8, H8, I8, hw8, q8⟩ => ?_
      refine thnF (pt _ s8 σ8 H8 _ I8 q8) fun b s9 ⟨H9, I9, q9⟩ => ?_
      -- the turn's end
      have fin : ∀ {s' : Shared} {H' : Hp}, Inv (X.blk s3 H3 scope ce fp) ([] ++ pinsAt fp s7.heap) σ8 H' s' → Nx H' → ∃ m, m < n ∧ ∃ i H', Inv (X.blk s3 H3 scope ce fp) [] (wipe σ (own.map (·.2))) H' s' ∧ tn i s'.heap ∧ (∀ b ∈ fp, H' b = none) ∧ W i m H' := fun {s' H'} I' nx => by
        obtain ⟨m', hm, w'⟩ := hNx H' nx
        have pin' : ∀ b ∈ fp, ∀ o, s7.heap.get? b = some o → s'.heap.get? b = some o ∧ H' b = none := fun b hb o e =>
          let z := I'.pin (b, o) (List.mem_append_right _ (List.mem_append_right _ (mem_pinsAt hb e)))
          ⟨z.1, z.2.1⟩
        have hl : (wipe σ (own.map (·.2))).length = σ8.length := by rw [← hw8, wipe_length]
        refine ⟨m', hm, i + 1, H', (I'.unpinned (pins := [])).weak hl (fun j v e => ?_), T.keep _ _ _ st7 fun b hb o e => (pin' b hb o e).1, fun b hb => ?_, w'⟩
        · rw [← hw8] at e
          exact (wipe_some e).1
        · obtain ⟨o, e, _⟩ := T.obj _ _ st7 b hb
          exact (pin' b hb o e).2
      cases b with
      | false =>
        simp only [Bool.false_eq_true, if_false] at q9 ⊢
        exact fin I9 q9
      | true =>
        simp only [if_true] at q9 ⊢
        refine thnF (pe _ s9 σ8 H9 _ I9 q9) fun z s10 ⟨yv, H10, I10, r10, acc, hD10, hz10, nx⟩ => ?_
        exact app_ok (X := X.blk s3 H3 scope ce fp) I10 hD10 hz10 r10 fun s11 I11 => fin I11 nx
  exact codeAny_compStart_list loop (T.self X.A 0 _ _ _ st4 loop)
/-- as a value -/
theorem pe_lc {elt tg iter : Expr} {ifs : List Expr} {scope : Scope} {own : List (Str × Nat)} {pos : Pos} {wi : TI} {g : TG} {tt : TT} {te : TE} (hc : X.calm = true) (hN : X.N.Nodup) (hi : PI X tg iter wi) (ok : BlkOk X.N X.env.scope scope own)
    (hg : ∀ (s : Shared) (H : Hp) (C : Addr) (cl : List (Str × Addr)) (fp : List Addr), PG (X.blk s H scope (compEnvC scope cl C X.env) fp) tg g) (ht : ∀ (s : Shared) (H : Hp) (C : Addr) (cl : List (Str × Addr)) (fp : List Addr), PTs (X.blk s H scope (compEnvC scope cl C X.env) fp) ifs tt)
    (he : ∀ (s : Shared) (H : Hp) (C : Addr) (cl : List (Str × Addr)) (fp : List Addr), PE (X.blk s H scope (compEnvC scope cl C X.env) fp) elt te) (hs : ∀ x, foldedSetIterable iter X.env x = pure x := by intro _; rfl) :
    PE X (.ListComp elt [⟨tg, iter, ifs, 0⟩] scope pos) (tLc wi g tt te (own.map (·.2))) := by
  intro pins s σ H Q I h
  rw [eval_ListComp]
  refine lc_core hc hN I hi ok hg ht he hs h fun D C s' m H' I' q hn f => ⟨m, hn, fun h'' sb => ?_⟩
  obtain ⟨f0, f1, f2, f3, f4, f5⟩ := f
  exact ⟨.ref D, H', I'.turned (t' := s'.toks) (fun b o hb e => (sb.2 b hb).trans e) f0 f1 f3 f4 f5, rfl, q⟩
/-- name = [..] on one line, the name a local -/
theorem ps_setLc {i : Nat} {y : Str} {py : Pos} {elt tg iter : Expr} {ifs : List Expr} {scope : Scope} {own : List (Str × Nat)} {pos spos : Pos} {wi : TI} {g : TG} {tt : TT} {te : TE} (hc : X.calm = true) (hN : X.N.Nodup) (hy : X.N[i]? = some y) (hyl : X.env.scope.names.lookup y = some .local)
    (hsw : swapsWith (.ListComp elt [⟨tg, iter, ifs, 0⟩] scope pos) (some (.Name y py)) spos.line X.env = pure true) (hi : PI X tg iter wi) (ok : BlkOk X.N X.env.scope scope own)
    (hg : ∀ (s : Shared) (H : Hp) (C : Addr) (cl : List (Str × Addr)) (fp : List Addr), PG (X.blk s H scope (compEnvC scope cl C X.env) fp) tg g) (ht : ∀ (s : Shared) (H : Hp) (C : Addr) (cl : List (Str × Addr)) (fp : List Addr), PTs (X.blk s H scope (compEnvC scope cl C X.env) fp) ifs tt)
    (he : ∀ (s : Shared) (H : Hp) (C : Addr) (cl : List (Str × Addr)) (fp : List Addr), PE (X.blk s H scope (compEnvC scope cl C X.env) fp) elt te) (hs : ∀ x, foldedSetIterable iter X.env x = pure x := by intro _; rfl) :
    PS X (.Assign [.Name y py] (.ListComp elt [⟨tg, iter, ifs, 0⟩] scope pos) spos) (tAsg (tLc wi g tt te (own.map (·.2))) (gName i)) := by
  intro pins s σ H D I h
  rw [exec_Assign_Name_used _ _ _ _ hsw]
  refine wpAny_bind (wpAny_standAt (wpAny_bind ?_))
  show wpAny _ X.A (do let _ ← comprehension (.ListComp elt [⟨tg, iter, ifs, 0⟩] scope pos) scope X.env (firstIterPos [⟨tg, iter, ifs, 0⟩] pos) (newList []) false (eval iter X.env) (some (assign (.Name y py) X.env))) _ _ s
  have h : tLc wi g tt te (own.map (·.2)) σ H (fun x H1 => gName i x σ H1 D.nx) := h
  refine wpAny_bind (thn (lc_core (Qf := fun _ s' => SP X pins D .next s') hc hN I hi ok hg ht he hs h fun L C s' m H' I' q hn f => ?_) fun _ s' hq => wpAny_pure (wpAny_pure hq))
  show wpAny _ _ (assign (.Name y py) X.env (.ref L)) _ _ _
  refine wpAny_assign_Name (store_ok2 (v := V.ref L) I' hN hy (.inl hyl) rfl (fun s2 I2 ⟨a, sb, ha⟩ => ?_) (.inr hyl))
  obtain ⟨f0, f1, f2, f3, f4, f5⟩ := f
  have haC : C ≠ a := by
    rcases ha with z | z
    · rw [z]; exact f1
    · exact fun e => f4 y a z e.symm
  refine ⟨m, hn.sameBut sb haC, fun h3 sb3 => ?_⟩
  exact ⟨_, H', I2.turned (t' := s2.toks) (fun b o hb e => (sb3.2 b hb).trans e) f0 f1 f3 f4 f5, q⟩
theorem sw_true {elt : Expr} {gs : List Comprehension} {scope : Scope} {pos py : Pos} {y : Str} {l : Nat} {env : Env} (hk : env.scope.kind = .function) (hy : env.scope.names.lookup y = some .local) (hl : (py.line == pos.line) = true)
    (ha : (scope.names.any fun (n, k) => n == y && (k == .local || k == .cell)) = false) : swapsWith (.ListComp elt gs scope pos) (some (.Name y py)) l env = pure true := by
  have ky : env.kindOf y = some .local := hy
  have hb : env.blockKind = .function := by unfold Env.blockKind; rw [hk]; rfl
  unfold swapsWith
  simp only [hb, ky, ha, Expr.pos, hl]
  rfl
end
/-- over a list that the block leaves as it is -/
theorem lc_list {K : PySem.W.Frag} {a : Addr} {xs : List V} {g : TG} {tt : TT} {te : TE} {vs : List Nat} {σ : St} {H1 : Hp} {D : Addr} {Qd : Hp → Prop} (Pv : Nat → Hp → Prop) (h0 : Pv 0 (upd H1 D (.lst []))) (hl : ∀ i H, i ≤ xs.length → Pv i H → SqL K H a xs)
    (hs : ∀ i x H, xs[i]? = some x → Pv i H → g x (wipe σ vs) H fun σ2 H2 => wipe σ2 vs = wipe σ vs ∧ tt σ2 H2 fun b H3 =>
      if b = true then te σ2 H3 fun y H4 => ∃ acc, H4 D = some (.lst acc) ∧ acc.length < sizeLine ∧ Pv (i + 1) (upd H4 D (.lst (acc ++ [y]))) else Pv (i + 1) H3) (hd : ∀ H, Pv xs.length H → Qd H) :
    ∃ W : Nat → Nat → Hp → Prop, (∃ m, W 0 m (upd H1 D (.lst []))) ∧ ∀ i m H, W i m H →
      ((Itl K a).stop i H ∧ Qd H) ∨ ((Itl K a).go i H ∧ ∃ Nx : Hp → Prop, (∀ H', Nx H' → ∃ m', m' < m ∧ W (i + 1) m' H') ∧ ∀ x H', (Itl K a).yld i H x H' → g x (wipe σ vs) H' fun σ2 H2 => wipe σ2 vs = wipe σ vs ∧ tt σ2 H2 fun b H3 =>
        if b = true then te σ2 H3 fun y H4 => ∃ acc, H4 D = some (.lst acc) ∧ acc.length < sizeLine ∧ Nx (upd H4 D (.lst (acc ++ [y]))) else Nx H3) := by
  refine ⟨fun i m H => m = xs.length - i ∧ i ≤ xs.length ∧ Pv i H, ⟨xs.length, by simp, Nat.zero_le _, h0⟩, ?_⟩
  rintro i m H ⟨rfl, hi, p⟩
  have q := hl i H hi p
  by_cases hlt : i < xs.length
  · refine .inr ⟨⟨xs, xs[i], q, by simp [hlt]⟩, Pv (i + 1), fun H' p' => ⟨xs.length - (i + 1), by omega, rfl, hlt, p'⟩, fun x H' y => ?_⟩
    obtain ⟨e, y⟩ := y
    subst e
    exact hs i x _ (y xs q) p
  · have e : i = xs.length := by omega
    subst e
    exact .inl ⟨⟨xs, q, Nat.le_refl _⟩, hd H p⟩
/-- over a tuple -/
theorem lc_tup {K : PySem.W.Frag} {a : Addr} {xs : List V} {g : TG} {tt : TT} {te : TE} {vs : List Nat} {σ : St} {H1 : Hp} {D : Addr} {Qd : Hp → Prop} (Pv : Nat → Hp → Prop) (h0 : Pv 0 (upd H1 D (.lst []))) (hl : ∀ i H, i ≤ xs.length → Pv i H → SqT K H a xs)
    (hs : ∀ i x H, xs[i]? = some x → Pv i H → g x (wipe σ vs) H fun σ2 H2 => wipe σ2 vs = wipe σ vs ∧ tt σ2 H2 fun b H3 =>
      if b = true then te σ2 H3 fun y H4 => ∃ acc, H4 D = some (.lst acc) ∧ acc.length < sizeLine ∧ Pv (i + 1) (upd H4 D (.lst (acc ++ [y]))) else Pv (i + 1) H3) (hd : ∀ H, Pv xs.length H → Qd H) :
    ∃ W : Nat → Nat → Hp → Prop, (∃ m, W 0 m (upd H1 D (.lst []))) ∧ ∀ i m H, W i m H →
      ((Itt K a).stop i H ∧ Qd H) ∨ ((Itt K a).go i H ∧ ∃ Nx : Hp → Prop, (∀ H', Nx H' → ∃ m', m' < m ∧ W (i + 1) m' H') ∧ ∀ x H', (Itt K a).yld i H x H' → g x (wipe σ vs) H' fun σ2 H2 => wipe σ2 vs = wipe σ vs ∧ tt σ2 H2 fun b H3 =>
        if b = true then te σ2 H3 fun y H4 => ∃ acc, H4 D = some (.lst acc) ∧ acc.length < sizeLine ∧ Nx (upd H4 D (.lst (acc ++ [y]))) else Nx H3) := by
  refine ⟨fun i m H => m = xs.length - i ∧ i ≤ xs.length ∧ Pv i H, ⟨xs.length, by simp, Nat.zero_le _, h0⟩, ?_⟩
  rintro i m H ⟨rfl, hi, p⟩
  have q := hl i H hi p
  by_cases hlt : i < xs.length
  · refine .inr ⟨⟨xs, xs[i], q, by simp [hlt]⟩, Pv (i + 1), fun H' p' => ⟨xs.length - (i + 1), by omega, rfl, hlt, p'⟩, fun x H' y => ?_⟩
    obtain ⟨e, y⟩ := y
    subst e
    exact hs i x _ (y xs q) p
  · have e : i = xs.length := by omega
    subst e
    exact .inl ⟨⟨xs, q, Nat.le_refl _⟩, hd H p⟩
def blkC (N : List Str) (sc scope : Scope) (own : List (Str × Nat)) : Bool :=
  (match scope.kind with | .function => true | _ => false) && (scope.names.all fun y => decide (scope.names.lookup y.1 = some y.2)) && (own.all fun p => decide (N[p.2]? = some p.1)) &&
    (scope.names.all fun y => match y.2 with
      | .free => (match sc.names.lookup y.1 with | some .cell => true | some .free => true | _ => false)
      | .local => decide (y.1 ∈ own.map (·.1)) || decide (y.1 ∉ N)
      | .cell => decide (y.1 ∈ own.map (·.1)) || decide (y.1 ∉ N)
      | _ => true)
theorem blkOk_by {N : List Str} {sc scope : Scope} {own : List (Str × Nat)} (h : blkC N sc scope own = true) : BlkOk N sc scope own := by
  unfold blkC at h
  simp only [Bool.and_eq_true, List.all_eq_true, decide_eq_true_eq] at h
  obtain ⟨⟨⟨h1, h2⟩, h3⟩, h4⟩ := h
  refine ⟨?_, h2, h3, fun y hy e => ?_, fun y hy e => ?_⟩
  · split at h1
    · assumption
    · cases h1
  · have q := h4 y hy
    simp only [e] at q
    split at q <;> first | exact .inl (by assumption) | exact .inr (by assumption) | cases q
  · have q := h4 y hy
    rcases e with e | e <;> (simp only [e, Bool.or_eq_true, decide_eq_true_eq] at q; exact q)
end L2
namespace L2
open PySem PySem.Spec PyProof.Rows
section
variable {κ : Type} [DecidableEq κ]
def valV (kvs : List (κ × V)) (k : κ) : Option V := (kvs.find? fun kv => decide (kv.1 = k)).map (·.2)
/-- in its place, or at the end -/
def putK (kvs : List (κ × V)) (k : κ) (v : V) : List (κ × V) :=
  if (kvs.any fun kv => decide (kv.1 = k)) = true then kvs.map (fun kv => if kv.1 = k then (kv.1, v) else kv) else kvs ++ [(k, v)]
theorem valV_nil {k : κ} : valV ([] : List (κ × V)) k = none := rfl
theorem valV_pos {p : κ × V} {r : List (κ × V)} {k : κ} (e : p.1 = k) : valV (p :: r) k = some p.2 := by simp [valV, List.find?_cons, e]
theorem valV_neg {p : κ × V} {r : List (κ × V)} {k : κ} (e : ¬ p.1 = k) : valV (p :: r) k = valV r k := by simp [valV, List.find?_cons, e]
theorem valV_any (k : κ) : ∀ kvs : List (κ × V), (kvs.any fun kv => decide (kv.1 = k)) = (valV kvs k).isSome
  | [] => rfl
  | p :: r => by
    rw [List.any_cons]
    by_cases e : p.1 = k
    · simp only [valV_pos e, decide_eq_true e, Bool.true_or, Option.isSome_some]
    · rw [valV_neg e, decide_eq_false e, Bool.false_or]; exact valV_any k r
theorem valV_map (k j : κ) (y : V) : ∀ kvs : List (κ × V), valV (kvs.map fun kv => if kv.1 = k then (kv.1, y) else kv) j = (valV kvs j).map fun x => if j = k then y else x
  | [] => rfl
  | p :: r => by
    have ih := valV_map k j y r
    rw [List.map_cons]
    by_cases h : p.1 = k
    · rw [if_pos h]
      by_cases e : p.1 = j
      · rw [valV_pos (p := (p.1, y)) e, valV_pos e, Option.map_some, if_pos (e.symm.trans h)]
      · rw [valV_neg (p := (p.1, y)) e, valV_neg e, ih]
    · rw [if_neg h]
      by_cases e : p.1 = j
      · rw [valV_pos (p := p) e, valV_pos e, Option.map_some, if_neg (fun z => h (e.trans z))]
      · rw [valV_neg (p := p) e, valV_neg e, ih]
theorem valV_snoc (k j : κ) (y : V) : ∀ kvs : List (κ × V), valV kvs k = none → valV (kvs ++ [(k, y)]) j = if j = k then some y else valV kvs j
  | [], _ => by
    by_cases e : k = j
    · rw [if_pos e.symm]; exact valV_pos (p := (k, y)) e
    · rw [if_neg (fun z => e z.symm)]; exact valV_neg (p := (k, y)) e
  | p :: r, hn => by
    rw [List.cons_append]
    have hk : ¬ p.1 = k := fun z => by rw [valV_pos z] at hn; cases hn
    rw [valV_neg hk] at hn
    have ih := valV_snoc k j y r hn
    by_cases e : p.1 = j
    · rw [valV_pos e, valV_pos e, if_neg (fun z => hk (e.trans z))]
    · rw [valV_neg e, valV_neg e, ih]
theorem valV_put (kvs : List (κ × V)) (k j : κ) (y : V) : valV (putK kvs k y) j = if j = k then some y else valV kvs j := by
  unfold putK
  by_cases a : (kvs.any fun kv => decide (kv.1 = k)) = true
  · rw [if_pos a, valV_map]
    rw [valV_any] at a
    by_cases e : j = k
    · obtain ⟨x, hx⟩ := Option.isSome_iff_exists.mp a
      rw [if_pos e, e, hx, Option.map_some, if_pos rfl]
    · rw [if_neg e]
      cases valV kvs j with
      | none => rfl
      | some x => rw [Option.map_some, if_neg e]
  · rw [if_neg a]
    refine valV_snoc k j y kvs ?_
    rw [valV_any] at a
    cases q : valV kvs k with
    | none => rfl
    | some x => rw [q] at a; exact (a rfl).elim
theorem length_putK (kvs : List (κ × V)) (k : κ) (v : V) : (putK kvs k v).length ≤ kvs.length + 1 := by
  unfold putK
  split
  · rw [List.length_map]; omega
  · rw [List.length_append, List.length_cons, List.length_nil]; omega
theorem RelO.isSome_eq {o : Option V} {u : Option Value} (r : RelO o u) : o.isSome = u.isSome := by
  cases o with
  | none => cases u with
    | none => rfl
    | some _ => exact (show False from r).elim
  | some _ => cases u with
    | none => exact (show False from r).elim
    | some _ => rfl
/-- raw tables of the same keys -/
theorem KV.val {kvs : List (κ × V)} {vs : List (κ × Value)} (r : KV kvs vs) (k : κ) : RelO (valV kvs k) (valueAt vs k) := by
  unfold KV at r
  induction r with
  | nil => exact True.intro
  | @cons p q ps qs h t ih =>
    obtain ⟨h1, h2⟩ := h
    by_cases e : p.1 = k
    · have e' : q.1 = k := h1.symm.trans e
      have b : valueAt (q :: qs) k = some q.2 := by simp [valueAt, List.find?_cons, e']
      rw [valV_pos e, b]; exact h2
    · have e' : ¬ q.1 = k := fun z => e (h1.trans z)
      have b : valueAt (q :: qs) k = valueAt qs k := by simp [valueAt, List.find?_cons, e']
      rw [valV_neg e, b]; exact ih
theorem KV.any {kvs : List (κ × V)} {vs : List (κ × Value)} (r : KV kvs vs) (k : κ) : (kvs.any fun kv => decide (kv.1 = k)) = vs.any fun kv => decide (kv.1 = k) := by
  unfold KV at r
  induction r with
  | nil => rfl
  | cons h t ih => rw [List.any_cons, List.any_cons, ih, h.1]
theorem KV.repl {kvs : List (κ × V)} {vs : List (κ × Value)} (r : KV kvs vs) (k : κ) {y : V} {u : Value} (ry : RelV y u) :
    KV (kvs.map fun kv => if kv.1 = k then (kv.1, y) else kv) (vs.map fun kv => if kv.1 = k then (kv.1, u) else kv) := by
  unfold KV at r ⊢
  induction r with
  | nil => exact .nil
  | @cons p q ps qs h t ih =>
    rw [List.map_cons, List.map_cons]
    refine .cons ?_ ih
    obtain ⟨h1, h2⟩ := h
    by_cases e : p.1 = k
    · rw [if_pos e, if_pos (h1.symm.trans e)]; exact ⟨h1, ry⟩
    · rw [if_neg e, if_neg (fun z => e (h1.trans z))]; exact ⟨h1, h2⟩
theorem KV.put {kvs : List (κ × V)} {vs : List (κ × Value)} (r : KV kvs vs) (k : κ) {y : V} {u : Value} (ry : RelV y u) : KV (putK kvs k y) (stored vs k u) := by
  unfold putK stored
  rw [r.any k]
  by_cases e : (vs.any fun kv => decide (kv.1 = k)) = true
  · rw [if_pos e, if_pos e]; exact r.repl k ry
  · rw [if_neg e, if_neg e]; exact Paired.snoc r ⟨rfl, ry⟩
theorem KV.length {kvs : List (κ × V)} {vs : List (κ × Value)} (r : KV kvs vs) : kvs.length = vs.length := Paired.length r
end
theorem kV_is {P : Program} {w : World} {k : Key} {u : Value} (r : RelV (kV k) u) : (mixKind P w).is k u = true := by
  cases k with
  | inl i => obtain ⟨t, e⟩ := (show ∃ t, u = Value.int i t from r); subst e; exact mixKind_int P w i t
  | inr x => obtain ⟨t, e⟩ := (show ∃ t, u = Value.str x t from r); subst e; exact mixKind_str P w x t
theorem items_are {P : Program} {w : World} : ∀ {ks : List Key} {us : List Value}, Vals (ks.map kV) us → ItemsAre (mixKind P w) ks us
  | [], _, r => by rw [List.map_nil] at r; cases r; exact .nil
  | k :: ks, _, r => by
    rw [List.map_cons] at r
    cases r with
    | cons h t => exact .cons (kV_is h) (items_are t)
/-- raw entries of a dict with tuple keys -/
abbrev KT (H : Hp) : List (List Key × V) → List (List Key × Addr × Value) → Prop := Paired fun p q => p.1 = q.1 ∧ H q.2.1 = some (.tup (p.1.map kV)) ∧ RelV p.2 q.2.2
theorem KT.val {H : Hp} {kvs : List (List Key × V)} {xs : List (List Key × Addr × Value)} (r : KT H kvs xs) (k : List Key) : RelO (valV kvs k) ((atKey xs k).map (·.2)) := by
  induction r with
  | nil => exact True.intro
  | @cons p q ps qs h t ih =>
    obtain ⟨h1, _, h2⟩ := h
    by_cases e : p.1 = k
    · have e' : q.1 = k := h1.symm.trans e
      have b : atKey (q :: qs) k = some q.2 := by simp [atKey, List.find?_cons, e']
      rw [valV_pos e, b]; exact h2
    · have e' : ¬ q.1 = k := fun z => e (h1.trans z)
      have b : atKey (q :: qs) k = atKey qs k := by simp [atKey, List.find?_cons, e']
      rw [valV_neg e, b]; exact ih
theorem KT.repl {H : Hp} {kvs : List (List Key × V)} {xs : List (List Key × Addr × Value)} (r : KT H kvs xs) (k : List Key) {y : V} {u : Value} (ry : RelV y u) :
    KT H (kvs.map fun kv => if kv.1 = k then (kv.1, y) else kv) (xs.map (putAt k u)) := by
  induction r with
  | nil => exact .nil
  | @cons p q ps qs h t ih =>
    rw [List.map_cons, List.map_cons]
    refine .cons ?_ ih
    obtain ⟨h1, h2, h3⟩ := h
    unfold putAt
    by_cases e : p.1 = k
    · rw [if_pos e, if_pos (h1.symm.trans e)]; exact ⟨h1, h2, ry⟩
    · rw [if_neg e, if_neg (fun z => e (h1.trans z))]; exact ⟨h1, h2, h3⟩
theorem KT.put {H : Hp} {kvs : List (List Key × V)} {xs : List (List Key × Addr × Value)} (r : KT H kvs xs) (k : List Key) {b : Addr} {y : V} {u : Value} (hb : H b = some (.tup (k.map kV))) (ry : RelV y u) :
    KT H (putK kvs k y) (storedH xs k b u) := by
  have e : (kvs.any fun kv => decide (kv.1 = k)) = (atKey xs k).isSome := by
    rw [valV_any, (r.val k).isSome_eq, Option.isSome_map]
  unfold putK storedH
  rw [e]
  by_cases q : (atKey xs k).isSome = true
  · rw [if_pos q, if_pos q]; exact r.repl k ry
  · rw [if_neg q, if_neg q]; exact Paired.snoc r ⟨rfl, hb, ry⟩
theorem KT.keeps {H H' : Hp} {kvs : List (List Key × V)} {xs : List (List Key × Addr × Value)} (r : KT H kvs xs) (ht : ∀ b ys, H b = some (.tup ys) → H' b = some (.tup ys)) : KT H' kvs xs :=
  Paired.mapP r fun _ _ z => ⟨z.1, ht _ _ z.2.1, z.2.2⟩
section
variable {P : Program} {w : World} {H : Hp} {h : Heap} {a : Addr}
theorem rd_of {u : HO} (ok : HOk P w H h) (e : Rd H a u) : ObjOk P w H h a u := e.ok ok
theorem dk_rd {kvs : List (Key × V)} (ok : HOk P w H h) (e : Rd H a (.dK kvs)) : kvs.length ≤ sizeLine ∧ (a == sysModules) = false ∧ ∃ vs, KV kvs vs ∧ h.DictOf (mixKind P w) a vs :=
  show ObjOk P w H h a (.dK kvs) from rd_of ok e
theorem dk_of {kvs : List (Key × V)} (ok : HOk P w H h) (e : H a = some (.dK kvs)) : kvs.length ≤ sizeLine ∧ (a == sysModules) = false ∧ ∃ vs, KV kvs vs ∧ h.DictOf (mixKind P w) a vs := dk_rd ok (.inl e)
/-- a tracked tuple of ints and texts is a key -/
theorem key_of {ks : List Key} (ok : HOk P w H h) (e : H a = some (.tup (ks.map kV))) : (tupleKind (mixKind P w)).is h ks a := by
  obtain ⟨_, its, r, o, h1, h2, n, h3⟩ := (show ObjOk P w H h a (.tup (ks.map kV)) from ok a _ e)
  exact ⟨o, its.toArray, n, h1, h2, h3, by simpa using items_are r⟩
theorem dt_rd {kvs : List (List Key × V)} (ok : HOk P w H h) (e : Rd H a (.dT kvs)) : kvs.length ≤ sizeLine ∧ (a == sysModules) = false ∧
    ∃ xs, KT H kvs xs ∧ h.DictOfH (tupleKind (mixKind P w)) a xs := by
  obtain ⟨z, y, xs, r, o, es, ep, h1, h2, h3, h4, h5⟩ := (show ObjOk P w H h a (.dT kvs) from rd_of ok e)
  refine ⟨z, y, xs, r, o, es, ep, h1, h2, h3, h4, fun x hx => ?_, h5⟩
  have all : ∀ {l : List (List Key × V)} {m : List (List Key × Addr × Value)}, KT H l m → ∀ x ∈ m, (tupleKind (mixKind P w)).is h x.1 x.2.1 := by
    intro l m q
    induction q with
    | nil => intro x hx; exact nomatch hx
    | @cons p q ps qs hq t ih =>
      intro x hx
      rcases List.mem_cons.mp hx with e | hx
      · subst e
        exact key_of ok (by rw [← hq.1]; exact hq.2.1)
      · exact ih x hx
  exact all r x hx
theorem dt_of {kvs : List (List Key × V)} (ok : HOk P w H h) (e : H a = some (.dT kvs)) : kvs.length ≤ sizeLine ∧ (a == sysModules) = false ∧
    ∃ xs, KT H kvs xs ∧ h.DictOfH (tupleKind (mixKind P w)) a xs := dt_rd ok (.inl e)
end
/-- what the dict at a holds at the key y -/
def DGet (H : Hp) (a : Addr) (y : V) (r : Option V) : Prop :=
  (∃ kvs k, Rd H a (.dK kvs) ∧ y = kV k ∧ r = valV kvs k) ∨ ∃ kvs k b, Rd H a (.dT kvs) ∧ y = .ref b ∧ H b = some (.tup (k.map kV)) ∧ r = valV kvs k
/-- the heap behind a[y] = v -/
def DPut (H : Hp) (a : Addr) (y v : V) (H' : Hp) : Prop :=
  (∃ kvs k, H a = some (.dK kvs) ∧ y = kV k ∧ kvs.length < sizeLine ∧ H' = upd H a (.dK (putK kvs k v))) ∨
  ∃ kvs k b, H a = some (.dT kvs) ∧ y = .ref b ∧ H b = some (.tup (k.map kV)) ∧ kvs.length < sizeLine ∧ H' = upd H a (.dT (putK kvs k v))
theorem DGet.k {H : Hp} {a : Addr} {kvs : List (Key × V)} {k : Key} (e : H a = some (.dK kvs)) : DGet H a (kV k) (valV kvs k) := .inl ⟨kvs, k, .inl e, rfl, rfl⟩
theorem DPut.k {H : Hp} {a : Addr} {kvs : List (Key × V)} {k : Key} {v : V} (e : H a = some (.dK kvs)) (hl : kvs.length < sizeLine) : DPut H a (kV k) v (upd H a (.dK (putK kvs k v))) := .inl ⟨kvs, k, e, rfl, hl, rfl⟩
section
variable {X : Cx} {pins : List (Addr × Obj)} {σ : St} {H : Hp} {s : Shared} {a : Addr} {y v : V} {u r : Value} {o : Option V} {A : Around} {E : Value → Shared → Prop}
theorem Inv.big (I : Inv X pins σ H s) : sysModules < s.heap.objs.size := by
  have h : mainGlobals < s.heap.objs.size := (I.mod.glob.keeps I.bk).lt
  exact Nat.lt_trans (by decide) h
/-- d[y], there -/
theorem d_getItem {Q : Value → Shared → Prop} (hu : A.units + 1 < cLine) (I : Inv X pins σ H s) (g : DGet H a y (some v)) (ry : RelV y u) (h : ∀ w' s', Inv X pins σ H s' → RelV v w' → Q w' s') :
    wpAny (model X.prog X.w) A (getItem (.ref a) u) Q E s := by
  rcases g with ⟨kvs, k, e, ey, l⟩ | ⟨kvs, k, b, e, ey, eb, l⟩
  · subst ey
    obtain ⟨z, hd, vs, rel, dd⟩ := dk_rd I.hok e
    obtain ⟨w', hw, rw'⟩ := RelO.some_of (v := v) (o := valueAt vs k) (by rw [l]; exact rel.val k)
    exact wpAny_getItem_of (kV_is ry) dd.mapOf hw (h w' _ (I.tok _) rw')
  · subst ey
    cases (show u = Value.ref b from ry)
    obtain ⟨z, hd, xs, rel, dd⟩ := dt_rd I.hok e
    obtain ⟨w', hw, rw'⟩ := RelO.some_of (v := v) (o := (atKey xs k).map (·.2)) (by rw [l]; exact rel.val k)
    obtain ⟨p, hp, hp2⟩ := Option.map_eq_some_iff.mp hw
    refine wpAny_getItem_heap (tupleKind_room_in1 hu) (key_of I.hok eb) dd hp ?_
    rw [hp2]
    exact h w' _ (I.tok _) rw'
theorem d_notIn {Q : Value → Shared → Prop} (hu : A.units + 1 < cLine) (I : Inv X pins σ H s) (g : DGet H a y o) (ry : RelV y u) (h : ∀ s', Inv X pins σ H s' → Q (.bool (!o.isSome)) s') :
    wpAny (model X.prog X.w) A (compareOp .NotIn u (.ref a)) Q E s := by
  rcases g with ⟨kvs, k, e, ey, l⟩ | ⟨kvs, k, b, e, ey, eb, l⟩
  · subst ey
    obtain ⟨z, hd, vs, rel, dd⟩ := dk_rd I.hok e
    refine wpAny_notIn_of (kV_is ry) hd dd.mapOf ?_
    rw [← (rel.val k).isSome_eq, ← l]
    exact h _ (I.tok _)
  · subst ey
    cases (show u = Value.ref b from ry)
    obtain ⟨z, hd, xs, rel, dd⟩ := dt_rd I.hok e
    refine wpAny_notIn_heap (tupleKind_room_in1 hu) (key_of I.hok eb) hd dd ?_
    have q := (rel.val k).isSome_eq
    rw [Option.isSome_map] at q
    rw [← q, ← l]
    exact h _ (I.tok _)
/-- a dict's object is replaced -/
theorem d_write {h' : Heap} {t' : Nat} {ob : HO} (I : Inv X pins σ H s) (mu : Mut (H a)) (hs : Heap.SameBut a s.heap h') (he : ∃ q, h'.get? a = some q) (new : ObjOk X.prog X.w (upd H a ob) h' a ob) :
    Inv X pins σ (upd H a ob) { s with heap := h', toks := t' } :=
  I.write (x := a) (e := a) mu (.inl rfl) (fun b q hb z => (hs.2 b hb).trans z) he new
theorem dk_new {P : Program} {w : World} {H' : Hp} {h' : Heap} {kvs : List (Key × V)} {vs : List (Key × Value)} (z : kvs.length ≤ sizeLine) (hd : (a == sysModules) = false) (rel : KV kvs vs) (dd : h'.DictOf (mixKind P w) a vs) :
    ObjOk P w H' h' a (.dK kvs) := ⟨z, hd, vs, rel, dd⟩
/-- d[y] = v -/
theorem d_setItem {H' : Hp} {Q : Unit → Shared → Prop} (hu : A.units + 1 < cLine) (I : Inv X pins σ H s) (g : DPut H a y v H') (ry : RelV y u) (rv : RelV v r) (h : ∀ s', Inv X pins σ H' s' → Q () s') :
    wpAny (model X.prog X.w) A (setItem (.ref a) u r) Q E s := by
  rcases g with ⟨kvs, k, e, ey, l, eH⟩ | ⟨kvs, k, b, e, ey, eb, l, eH⟩
  · subst ey eH
    obtain ⟨z, hd, vs, rel, dd⟩ := dk_of I.hok e
    have hz : vs.length ≤ sizeLine := by rw [← rel.length]; exact z
    have hl : (putK kvs k v).length ≤ sizeLine := by have := length_putK kvs k v; omega
    refine wpAny_setItem_pairs (hsz := hz) (kV_is ry) dd fun h' dd' hs => h _ ?_
    have he : ∃ q, h'.get? a = some q := let ⟨q, _, _, hq, _⟩ := dd'; ⟨q, hq⟩
    exact d_write I (by rw [e]; exact True.intro) hs he (dk_new hl hd (rel.put k rv) dd')
  · subst ey eH
    cases (show u = Value.ref b from ry)
    obtain ⟨z, hd, xs, rel, dd⟩ := dt_of I.hok e
    have hz : xs.length ≤ sizeLine := by rw [← Paired.length rel]; exact z
    have hl : (putK kvs k v).length ≤ sizeLine := by have := length_putK kvs k v; omega
    refine wpAny_setItem_heap (hsz := hz) (tupleKind_room_in1 hu) (key_of I.hok eb) dd fun h' dd' hs => h _ ?_
    obtain ⟨q, es, ep, hq, h2, h3, h4, _, h5⟩ := dd'
    refine d_write I (by rw [e]; exact True.intro) hs ⟨q, hq⟩ ⟨hl, hd, _, (rel.put k eb rv).keeps fun c ys ec => ?_, q, es, ep, hq, h2, h3, h4, h5⟩
    rw [upd_ne (ne_of ec e (fun z => nomatch z))]
    exact ec
end
/-- the element of a subscription, not a slice -/
def NoSl (i : Expr) : Prop := ∀ ov iv, subscripted i false ov iv = operate [ov, iv] (getItem ov iv)
theorem subD_of {prog : Program} {w : World} {A : Around} {E : Value → Shared → Prop} {s : Shared} {env : Env} {value slice : Expr} {pos : Pos} {T id : String} {Q : Value → Shared → Prop}
    (hl : typeLookup (.type T) "__getitem__" = pure (some (.builtin id))) (hs : NoSl slice)
    (h : wpAny (model prog w) A (eval value env) (fun o s₁ => wpAny (model prog w) A (eval slice env) (fun i s₂ => s₂.TypeIs o T ∧ wpAny (model prog w) A (getItem o i) Q E s₂) E s₁) E s) :
    wpAny (model prog w) A (eval (.Subscript value slice pos) env) Q E s := by
  refine Subscript_ (wpAny_mono h (fun o s₁ h₁ => wpAny_mono h₁ (fun i s₂ h₂ => ?_) fun _ _ x => x) fun _ _ x => x)
  obtain ⟨hT, h₂⟩ := h₂
  unfold subscriptTail
  refine wpAny_bind ?_
  rw [getitemInPython_of_ne hT.not_modules]
  refine wpAny_bind (wpAny_specialOf hT hl ?_)
  have fin : wpAny (model prog w) A (subscripted slice false o i) (fun r s₃ => wpAny (model prog w) A (letTemporaryGo value o r >>= fun _ => pure r) Q E s₃) E s₂ := by
    rw [hs o i]
    exact wpAny_operating (wpAny_mono h₂ (fun r s₃ h₃ => wpAny_bind (wpAny_letTemporaryGo (wpAny_pure h₃))) fun _ _ x => x)
  first
    | exact wpAny_pure (wpAny_bind fin)
    | exact wpAny_bind (wpAny_pure (wpAny_bind fin))
    | exact wpAny_bind fin
theorem dict_typeIs {X : Cx} {pins : List (Addr × Obj)} {σ : St} {H : Hp} {s : Shared} {a : Addr} {y : V} {o : Option V} (I : Inv X pins σ H s) (g : DGet H a y o) : s.TypeIs (.ref a) "dict" := by
  rcases g with ⟨kvs, k, e, _, _⟩ | ⟨kvs, k, b, e, _, _, _⟩
  · obtain ⟨_, _, vs, _, dd⟩ := dk_rd I.hok e
    exact dd.typeIs
  · obtain ⟨_, _, xs, _, dd⟩ := dt_rd I.hok e
    exact dd.typeIs
/-- d[y] -/
def tDGet (td ty : TE) : TE := fun σ H Q => td σ H fun x H1 => ty σ H1 fun y H2 => ∃ a v, x = .ref a ∧ DGet H2 a y (some v) ∧ Q v H2
def tDNotIn (ty td : TE) : TE := fun σ H Q => ty σ H fun y H1 => td σ H1 fun x H2 => ∃ a o, x = .ref a ∧ DGet H2 a y o ∧ Q (.bl (!o.isSome)) H2
/-- d[y] = v -/
def sDPut (td ty tv : TE) : TS := fun D σ H => tv σ H fun v H1 => td σ H1 fun x H2 => ty σ H2 fun y H3 => ∃ a H4, x = .ref a ∧ DPut H3 a y v H4 ∧ D.nx σ H4
section
variable {X : Cx} {o i e value : Expr} {pos pos' tpos : Pos} {td ty tv : TE}
theorem pe_dget (hu : X.A.units + 1 < cLine) (ho : PE X o td) (hi : PE X i ty) (hs : NoSl i) : PE X (.Subscript o i pos) (tDGet td ty) := by
  intro pins s σ H Q I h
  refine subD_of PySem.F.slot_dict_getitem.lookup hs (thn (ho pins s σ H _ I h) fun u s1 ⟨x, H1, I1, rx, q1⟩ => thn (hi pins s1 σ H1 _ I1 q1) fun iv s2 ⟨y, H2, I2, ry, a, v, ex, g, q2⟩ => ?_)
  subst ex
  obtain rfl : u = Value.ref a := rx
  exact ⟨dict_typeIs I2 g, d_getItem hu I2 g ry fun w' s3 I3 rw' => ⟨v, H2, I3, rw', q2⟩⟩
theorem pc_dnotin (hu : X.A.units + 1 < cLine) (hi : PE X i ty) (ho : PE X o td) : PC X .NotIn i o (tDNotIn ty td) := by
  intro pins s σ H Q I h
  refine thn (hi pins s σ H _ I h) fun iv s1 ⟨y, H1, I1, ry, q1⟩ => thn (ho pins s1 σ H1 _ I1 q1) fun u s2 ⟨x, H2, I2, rx, a, ov, ex, g, q2⟩ => ?_
  subst ex
  obtain rfl : u = Value.ref a := rx
  exact d_notIn hu I2 g ry fun s3 I3 => ⟨.bl (!ov.isSome), H2, I3, rfl, q2⟩
theorem ps_dput (hu : X.A.units + 1 < cLine) (ho : PE X o td) (hi : PE X i ty) (hv : PE X value tv) (hs : swapsWith value (some (.Subscript o i pos')) pos.line X.env = pure false) :
    PS X (.Assign [.Subscript o i pos'] value pos) (sDPut td ty tv) := by
  intro pins s σ H D I h
  refine wpAny_Assign_Subscript (thn (hv pins s σ H _ I h) fun r s1 ⟨v, H1, I1, rv, q1⟩ => thn (ho pins s1 σ H1 _ I1 q1) fun u s2 ⟨x, H2, I2, rx, q2⟩ => thn (hi pins s2 σ H2 _ I2 q2) fun iv s3 ⟨y, H3, I3, ry, a, H4, ex, g, q3⟩ => ?_) hs
  subst ex
  obtain rfl : u = Value.ref a := rx
  exact d_setItem hu I3 g ry rv fun s4 I4 => ⟨σ, H4, I4, q3⟩
end
theorem dk_empty {P : Program} {w : World} {H : Hp} (h : Heap) (hb : sysModules < h.objs.size) : ObjOk P w H (h.push { cls := .type "dict", data := .dict #[] }) h.objs.size (.dK []) :=
  ⟨Nat.zero_le _, beq_eq_false_iff_ne.mpr (Ne.symm (Nat.ne_of_lt hb)), [], .nil, Heap.DictOf.new h⟩
/-- {}, to be a dict of the kind that is wanted -/
def tDNewK : TE := fun _ H Q => ∀ p, H p = none → Q (.ref p) (upd H p (.dK []))
section
variable {X : Cx} {pos : Pos}
theorem pe_dnewK : PE X (.Dict [] [] pos) tDNewK := fun pins s σ H Q I h =>
  wpAny_Dict_empty ⟨.ref s.heap.objs.size, _, I.laid (a := s.heap.objs.size) (o := .dK []) (t' := s.toks) (fun _ _ q => Heap.get?_push_of_some _ q) (Nat.le_refl _) (dk_empty s.heap I.big), rfl, h _ (I.hok.fresh (Nat.le_refl _))⟩
end
end L2
namespace L2
open PySem PySem.Spec PyProof.Rows
theorem boot_reversed5 : bootBuiltins "reversed" = some (.type "reversed") := by decide +kernel
section
variable {X : Cx} {pins : List (Addr × Obj)} {σ : St} {H : Hp} {s : Shared} {h' : Heap}
/-- several records of ours have turned -/
theorem Inv.turnedL {t' : Nat} {ch : List Addr} (I : Inv X pins σ H s) (k : ∀ b o, b ∉ ch → s.heap.get? b = some o → h'.get? b = some o) (hf : ∀ b ∈ ch, FpOk X pins H b) : Inv X pins σ H { s with heap := h', toks := t' } := by
  have nit : ∀ b u, H b = some u → b ∉ ch := fun b u e z => by
    have q := (hf b z).1
    rw [q] at e; cases e
  refine I.step (g' := s.gens) (d' := s.drawn) (ch := ch) (fun b hb => ⟨(hf b hb).2.2.2.1, (hf b hb).2.1, (hf b hb).2.2.2.2.1, (hf b hb).2.2.2.2.2⟩) (fun b o _ _ hc e _ => k b o hc e) (fun b o _ _ hc e _ => ⟨o.slots, k b o hc e⟩)
    (fun _ _ _ _ n => n) (fun b o hc e => ⟨o, k b o hc e⟩) (fun _ _ e => e) (fun _ _ _ e => e) (fun b ps e => ⟨#[], by rw [e]; simp⟩) (fun m hm => ?_) (fun b u e => ?_) I.bare
  · obtain ⟨o, es, ep, ho, r⟩ := hm
    exact ⟨o, es, ep, k _ o (fun z => (hf _ z).2.1 rfl) ho, r⟩
  · refine (I.hok b u e).stay (fun c v hc q => k c v ?_ q) (fun _ q => q) fun _ _ q => q
    rcases hc with z | z
    · rw [z]; exact nit b u e
    · exact nit c _ z
/-- .. and one new object is laid -/
theorem Inv.turnedNew {t' : Nat} {ch : List Addr} {T : Addr} {ob : HO} (I : Inv X pins σ H s) (k : ∀ b o, b ∉ ch → s.heap.get? b = some o → h'.get? b = some o) (hf : ∀ b ∈ ch, FpOk X pins H b) (hT : s.heap.objs.size ≤ T)
    (new : ObjOk X.prog X.w (upd H T ob) h' T ob) : Inv X pins σ (upd H T ob) { s with heap := h', toks := t' } := by
  have hn : H T = none := I.hok.fresh hT
  have nit : ∀ b u, H b = some u → b ∉ ch := fun b u e z => by
    have q := (hf b z).1
    rw [q] at e; cases e
  refine I.step (g' := s.gens) (d' := s.drawn) (ch := ch) (fun b hb => ⟨(hf b hb).2.2.2.1, (hf b hb).2.1, (hf b hb).2.2.2.2.1, (hf b hb).2.2.2.2.2⟩) (fun b o _ _ hc e _ => k b o hc e) (fun b o _ _ hc e _ => ⟨o.slots, k b o hc e⟩)
    (fun b o _ e n => ?_) (fun b o hc e => ⟨o, k b o hc e⟩) (fun b xs e => ?_) (fun b o u e => ?_) (fun b ps e => ⟨#[], ?_⟩) (fun m hm => ?_) (fun b u e => ?_) I.bare
  · rw [upd_ne (Nat.ne_of_lt (Nat.lt_of_lt_of_le (Heap.lt_size e) hT))]; exact n
  · rw [upd_ne (ne_of_none e hn)]; exact e
  · rw [upd_ne (ne_of_none e hn)]; exact e
  · rw [upd_ne (ne_of_none e hn), e]; simp
  · obtain ⟨o, es, ep, ho, r⟩ := hm
    exact ⟨o, es, ep, k _ o (fun z => (hf _ z).2.1 rfl) ho, r⟩
  · by_cases hb : b = T
    · subst hb
      rw [upd_same] at e
      cases e
      exact new
    · rw [upd_ne hb] at e
      refine (I.hok b u e).stay (fun c v hc q => k c v ?_ q) (fun c q => by rw [upd_ne (ne_of_none q hn)]; exact q) fun c xs q => by rw [upd_ne (ne_of_none q hn)]; exact q
      rcases hc with z | z
      · rw [z]; exact nit b u e
      · exact nit c _ z
theorem Inv.lock {d : Addr} {u : HO} (I : Inv X pins σ H s) (h : H d = some u) (mu : Mut (some u)) : ∃ od, Inv X pins σ (upd H d (.frz od u)) s := by
  have x := I.hok d u h
  have ex : ∃ od, s.heap.get? d = some od := by
    cases u with
    | lst xs => obtain ⟨_, _, _, _, e⟩ := x; exact ⟨_, e⟩
    | dK kvs => obtain ⟨_, _, _, _, o, _, _, e, _⟩ := x; exact ⟨o, e⟩
    | dT kvs => obtain ⟨_, _, _, _, o, _, _, e, _⟩ := x; exact ⟨o, e⟩
    | set S n => obtain ⟨o, _, _, _, e, _⟩ := x; exact ⟨o, e⟩
    | ins C dx fs => obtain ⟨_, _, _, e, _⟩ := x; exact ⟨_, e⟩
    | ext φ => obtain ⟨_, ⟨_, e⟩, _⟩ := x; exact ⟨_, e⟩
    | _ => exact False.elim mu
  obtain ⟨od, e⟩ := ex
  have new : ObjOk X.prog X.w (upd H d (.frz od u)) s.heap d (.frz od u) := by
    refine ⟨e, x.stay (fun b v _ q => q) (fun b q => ?_) fun b xs q => ?_⟩
    · rw [upd_ne (fun z => by rw [z, h] at q; cases q; exact mu)]; exact q
    · rw [upd_ne (fun z => by rw [z, h] at q; cases q; exact mu)]; exact q
  exact ⟨od, I.write (x := d) (e := d) (t' := s.toks) (h' := s.heap) (by rw [h]; exact mu) (.inl rfl) (fun b v _ q => q) ⟨od, e⟩ new⟩
theorem Inv.nofrz {d : Addr} {u : HO} (I : Inv X pins σ H s) (h : H d = some u) (mu : Mut (some u)) : ∀ o' u', X.H_0 d ≠ some (.frz o' u') := fun o' u' e => by
  have q := I.base.frzs d o' u' e
  rw [h] at q
  cases q
  exact mu
theorem Inv.unlock {d : Addr} {od : Obj} {u : HO} (I : Inv X pins σ H s) (h : H d = some (.frz od u)) (hn : ∀ o' u', X.H_0 d ≠ some (.frz o' u')) : Inv X pins σ (upd H d u) s := by
  have neH : ∀ b o, H b = some o → (∀ o' u', o ≠ .frz o' u') → b ≠ d := fun b o e hne z => by
    rw [z, h] at e
    cases e
    exact hne _ _ rfl
  have neN : ∀ b, H b = none → b ≠ d := fun b e z => by rw [z, h] at e; cases e
  refine ⟨I.ok, I.os, I.bare, ⟨I.base.keep, I.base.slot, fun b o e n hx => ?_, I.base.there, fun b xs e => ?_, fun b o x e => ?_, fun b ps e => ?_⟩, I.loc, I.cell, ?_, fun x c e => ?_, fun p hp => ?_, fun b o e => ?_, I.len⟩
  · rw [upd_ne (neN b (I.base.free b o e n hx))]; exact I.base.free b o e n hx
  · have q := I.base.tups b xs e
    rw [upd_ne (neH b _ q (fun _ _ z => nomatch z))]; exact q
  · have q := I.base.frzs b o x e
    rw [upd_ne (fun z => by rw [z] at e; exact hn _ _ e)]; exact q
  · obtain ⟨m, q⟩ := I.base.tbls b ps e
    exact ⟨m, by rw [upd_ne (neH b _ q (fun _ _ z => nomatch z))]; exact q⟩
  · rw [upd_ne (neN _ I.free)]; exact I.free
  · rw [upd_ne (neN c (I.freeC x c e))]; exact I.freeC x c e
  · obtain ⟨e, n, r⟩ := I.pin p hp
    exact ⟨e, by rw [upd_ne (neN _ n)]; exact n, r⟩
  · by_cases hb : b = d
    · rw [hb, upd_same] at e
      cases e
      rw [hb]
      obtain ⟨_, x⟩ := I.hok d _ h
      exact x.stay (fun c v _ q => q) (fun c q => by rw [upd_ne (neH c _ q (fun _ _ z => nomatch z))]; exact q) fun c xs q => by rw [upd_ne (neH c _ q (fun _ _ z => nomatch z))]; exact q
    · rw [upd_ne hb] at e
      exact (I.hok b o e).stay (fun c v _ q => q) (fun c q => by rw [upd_ne (neH c _ q (fun _ _ z => nomatch z))]; exact q) fun c xs q => by rw [upd_ne (neH c _ q (fun _ _ z => nomatch z))]; exact q
end
/-- the statement runs while the thing at d is locked (read, not written); d and what stands there are the reading's choice -/
def tLock (t : TS) : TS := fun D σ H => ∃ d u, H d = some u ∧ Mut (some u) ∧ ∀ od, t ⟨fun σ' H' => H' d = some (.frz od u) ∧ D.nx σ' (upd H' d u), fun v H' => H' d = some (.frz od u) ∧ D.rt v (upd H' d u), fun σ' H' => H' d = some (.frz od u) ∧ D.bk σ' (upd H' d u), fun σ' H' => H' d = some (.frz od u) ∧ D.ct σ' (upd H' d u)⟩ σ (upd H d (.frz od u))
section
variable {X : Cx}
theorem ps_lock {st : Stmt} {t : TS} (h : PS X st t) : PS X st (tLock t) := by
  intro pins s σ H D I hw
  obtain ⟨d, u, hd, mu, hw⟩ := hw
  obtain ⟨od, I1⟩ := I.lock hd mu
  refine thn (h pins s σ _ _ I1 (hw od)) fun f s1 q => ?_
  cases f with
  | next => obtain ⟨σ', H', I2, e, q⟩ := q; exact ⟨σ', _, I2.unlock e (I.nofrz hd mu), q⟩
  | brk => obtain ⟨σ', H', I2, e, q⟩ := q; exact ⟨σ', _, I2.unlock e (I.nofrz hd mu), q⟩
  | cont => obtain ⟨σ', H', I2, e, q⟩ := q; exact ⟨σ', _, I2.unlock e (I.nofrz hd mu), q⟩
  | ret v => obtain ⟨x, σ', H', I2, r, e, q⟩ := q; exact ⟨x, σ', _, I2.unlock e (I.nofrz hd mu), r, q⟩
theorem pi_one {tg : Expr} {pins : List (Addr × Obj)} {σ : St} {H : Hp} {s : Shared} {R : It → Hp → Prop} {J : It} {tn : Nat → Heap → Prop} {tk : Nat} (I : Inv X pins σ H s) (o : Obj)
    (T : Turn X.prog X.w X.K tg J [s.heap.objs.size] s.heap.objs.size tn) (st : tn 0 (s.heap.push o)) (q : R J H) : PIE X pins σ tg R (.ref s.heap.objs.size) { s with heap := s.heap.push o, toks := tk } := by
  refine ⟨s.heap.objs.size, [s.heap.objs.size], tn, J, H, rfl, I.kept fun b ob e => Heap.get?_push_of_some _ e, T, st, fun b hb => ?_, q⟩
  have e : b = s.heap.objs.size := by simpa using hb
  subst e
  exact I.fpOk (Nat.le_refl _) (I.hok.fresh (Nat.le_refl _))
end
/-- the list at a (n items at the start, which the loop leaves there), from its end -/
def Itv (K : PySem.W.Frag) (a : Addr) (n : Nat) : It :=
  ⟨fun i H => i < n ∧ ∃ (xs : List V) (x : V), SqL K H a xs ∧ xs[n - 1 - i]? = some x, fun i H x H' => H' = H ∧ ∀ xs, SqL K H a xs → xs[n - 1 - i]? = some x, fun i _ => n ≤ i⟩
theorem turn_rev {P : Program} {w : World} {K : PySem.W.Frag} {tg : Expr} (a it : Addr) (n : Nat) : Turn P w K tg (Itv K a n) [it] it (fun i h => i ≤ n ∧ h.IsRevIter it a ((n : Int) - 1 - (i : Nat))) where
  mem := by simp
  obj := fun i h st b hb => by
    have e : b = it := by simpa using hb
    subst e
    obtain ⟨_, o, e, c, d⟩ := st
    exact ⟨o, e, fun v z => by rw [d] at z; cases z⟩
  keep := fun i h h' st k => ⟨st.1, st.2.at fun o e => k it (by simp) o e⟩
  item := by
    intro X hP hw hK hc i pins s σ H E I hf st hg
    subst hP hw hK
    obtain ⟨hin, xs, x, hq, hx⟩ := hg
    obtain ⟨its, rv, p, hz⟩ := I.list hq
    obtain ⟨u, hu, ru⟩ := rv.get hx
    obtain ⟨f0, f1, f2, f3, f4, f5⟩ := hf it (by simp)
    obtain ⟨_, hit⟩ := st
    have e1 : (n : Int) - 1 - ((i : Nat) : Int) = ((n - 1 - i : Nat) : Int) := by omega
    rw [e1] at hit
    refine wpAny_pyNext_rev_item hit p.isList (x := u) (by simpa using hu) fun h' st' sb => ?_
    have e2 : ((n - 1 - i : Nat) : Int) - 1 = (n : Int) - 1 - ((i + 1 : Nat) : Int) := by omega
    rw [e2] at st'
    have I1 : Inv X pins σ H { s with heap := h' } := I.turned (t' := s.toks) (fun b o hb e => (sb.2 b hb).trans e) f0 f1 f3 f4 f5
    obtain ⟨o, e, c, d⟩ := id st'
    exact ⟨u, rfl, go_of (s := { s with heap := h' }) e c d (by decide) ⟨x, H, I1, ru, ⟨rfl, fun ys hy => by rw [I.list_inj hy hq]; exact hx⟩, ⟨hin, st'⟩, fun b hb => (hf b hb).1⟩⟩
  done := by
    intro X hP hw hK hc i pins s σ H E I hf st hg
    subst hP hw hK
    obtain ⟨f0, f1, f2, f3, f4, f5⟩ := hf it (by simp)
    obtain ⟨hin, hit⟩ := st
    have hge : n ≤ i := hg
    have e1 : (n : Int) - 1 - ((i : Nat) : Int) = -1 := by omega
    rw [e1] at hit
    exact wpAny_pyNext_rev_end (I.ok.hd hc) hit fun h' eb => ⟨rfl, I.turned (t' := s.toks) (fun b o hb e => eb b o hb e) f0 f1 f3 f4 f5⟩
  self := fun A i s Q E st h => wpAny_pyIter_revIter st.2 h
def iRev (K : PySem.W.Frag) (ta : TA) : TI := fun σ H R => ta σ H fun vs H1 => ∃ (a : Addr) (xs : List V), vs = [.ref a] ∧ SqL K H1 a xs ∧ R (Itv K a xs.length) H1
section
variable {X : Cx} {tg : Expr}
theorem pi_reversed {e : Expr} {ta : TA} {p pos : Pos} (hg : Gl X "reversed") (hm : X.mg "reversed" = none) (ha : PA X [e] ta) (hs : starEach [e] X.env = [(false, eval e X.env)] := by rfl) : PI X tg (.Call (.Name "reversed" p) [e] [] pos) (iRev X.K ta) := by
  intro pins s σ H R I h
  refine Call_ (ld_blt I hg hm boot_reversed5 (PyProof.Rows.callWith_type1 (thn (ha pos pins s σ H _ I h) fun us s1 ⟨vs, H1, I1, r1, q1⟩ => ?_) hs rfl))
  obtain ⟨a, xs, e, hq, q⟩ := q1
  subst e
  cases r1 with
  | cons r rr =>
    cases rr
    cases r
    obtain ⟨its, rv, p', hz⟩ := I1.list hq
    have hl := rv.length
    have e1 : ((its.toArray.size : Nat) : Int) - 1 = (xs.length : Int) - 1 - ((0 : Nat) : Int) := by simp only [List.size_toArray]; omega
    refine call_reversed_list p'.isList (wpAny_pyIter_revIter (l := a) (i := ((its.toArray.size : Nat) : Int) - 1) ⟨_, Heap.get?_push_size _ rfl, rfl, rfl⟩ ?_)
    refine pi_one (tk := s1.toks) I1 _ (turn_rev a _ xs.length) ⟨Nat.zero_le _, ?_⟩ q
    rw [← e1]
    exact ⟨_, Heap.get?_push_size _ rfl, rfl, rfl⟩
end
/-- the list at a as it stands at each turn, each item in a new pair -/
def Ite (K : PySem.W.Frag) (a : Addr) : It :=
  ⟨fun i H => ∃ (xs : List V) (x : V), SqL K H a xs ∧ xs[i]? = some x, fun i H v H' => ∃ T x, v = .ref T ∧ H T = none ∧ H' = upd H T (.tup [.int (i : Nat), x]) ∧ ∀ xs, SqL K H a xs → xs[i]? = some x, fun i H => ∃ xs : List V, SqL K H a xs ∧ xs.length ≤ i⟩
theorem turn_enum {P : Program} {w : World} {K : PySem.W.Frag} {elts : List Expr} {kk : Nat} {tpos : Pos} (a e it : Addr) :
    Turn P w K (.Tuple elts kk tpos) (Ite K a) [e, it] e (fun i h => (∃ old, IsEnum h e it ((i : Nat) : Int) old) ∧ h.IsListIter it a i ∧ e ≠ it) where
  mem := by simp
  obj := fun i h st b hb => by
    obtain ⟨⟨old, he⟩, ⟨o, ho, hc, hd⟩, _⟩ := st
    have e' : b = e ∨ b = it := by simpa using hb
    rcases e' with z | z
    · rw [z]; exact ⟨_, he, fun v q => nomatch q⟩
    · rw [z]; exact ⟨o, ho, fun v q => by rw [hd] at q; cases q⟩
  keep := fun i h h' st k => let ⟨⟨old, he⟩, hi, hne⟩ := st; ⟨⟨old, k e (by simp) _ he⟩, hi.at fun o q => k it (by simp) o q, hne⟩
  item := by
    intro X hP hw hK hc i pins s σ H E I hf st hg
    subst hP hw hK
    obtain ⟨⟨old, he⟩, hit, hne⟩ := st
    obtain ⟨xs, x, hq, hx⟩ := hg
    obtain ⟨its, rv, p, hz⟩ := I.list hq
    obtain ⟨u, hu, ru⟩ := rv.get hx
    have hel : e < s.heap.objs.size := Heap.lt_size he
    have hil : it < s.heap.objs.size := by obtain ⟨_, q, _⟩ := hit; exact Heap.lt_size q
    refine wpAny_pyNext_enum_item he hit p.isList (x := u) (by simpa using hu) hne fun h' ho hit' hT hsz hk => ?_
    refine ⟨_, rfl, wpAny_letOwnedTupleGo_enum (s := { s with heap := h', toks := s.toks + 1 }) ho fun h'' he' sb => ?_⟩
    have hT2 : h''.get? s.heap.objs.size = some { cls := .type "tuple", data := .seq #[.int i s.toks, u] } := (sb.2 _ (Nat.ne_of_gt hel)).trans hT
    have new : ObjOk X.prog X.w (upd H s.heap.objs.size (.tup [.int (i : Nat), x])) h'' s.heap.objs.size (.tup [.int (i : Nat), x]) :=
      ⟨by show 2 ≤ sizeLine; decide, [.int i s.toks, u], .cons ⟨_, rfl⟩ (.cons ru .nil), ⟨_, hT2, rfl, _, rfl⟩⟩
    have I1 : Inv X pins σ (upd H s.heap.objs.size (.tup [.int (i : Nat), x])) { s with heap := h'', toks := s.toks + 1 } :=
      I.turnedNew (ch := [e, it]) (fun b ob hb q => (sb.2 b (fun z => hb (by simp [z]))).trans (hk b ob (fun z => hb (by simp [z])) (fun z => hb (by simp [z])) q)) hf (Nat.le_refl _) new
    refine ⟨.ref s.heap.objs.size, _, I1, rfl, ⟨_, x, rfl, I.hok.fresh (Nat.le_refl _), rfl, fun ys hy => by rw [I.list_inj hy hq]; exact hx⟩, ⟨⟨u, ?_⟩, hit'.at fun o q => (sb.2 it (Ne.symm hne)).trans q, hne⟩, fun b hb => ?_⟩
    · have e1 : ((i + 1 : Nat) : Int) = (i : Int) + 1 := by omega
      rw [e1]; exact he'
    · have hb' : b < s.heap.objs.size := by
        have e' : b = e ∨ b = it := by simpa using hb
        rcases e' with z | z
        · rw [z]; exact hel
        · rw [z]; exact hil
      rw [upd_ne (Nat.ne_of_lt hb')]
      exact (hf b hb).1
  done := by
    intro X hP hw hK hc i pins s σ H E I hf st hg
    subst hP hw hK
    obtain ⟨⟨old, he⟩, hit, hne⟩ := st
    obtain ⟨xs, hq, hx⟩ := hg
    obtain ⟨its, rv, p, hz⟩ := I.list hq
    obtain ⟨f0, f1, f2, f3, f4, f5⟩ := hf it (by simp)
    have hl := rv.length
    exact wpAny_pyNext_enum_end (I.ok.hd hc) he hit p.isList (by simp; omega) fun h' eb => ⟨rfl, I.turned (t' := s.toks) (fun b o hb q => eb b o hb q) f0 f1 f3 f4 f5⟩
  self := fun A i s Q E st h => let ⟨⟨_, he⟩, _⟩ := st; wpAny_pyIter_enum he h
def iEnum (K : PySem.W.Frag) (ta : TA) : TI := fun σ H R => ta σ H fun vs H1 => ∃ a xs, vs = [.ref a] ∧ SqL K H1 a xs ∧ R (Ite K a) H1
theorem pi_enum {X : Cx} {e : Expr} {ta : TA} {p pos tpos : Pos} {elts : List Expr} {kk : Nat} (hg : Gl X "enumerate") (hm : X.mg "enumerate" = none) (ha : PA X [e] ta) (hs : starEach [e] X.env = [(false, eval e X.env)] := by rfl) :
    PI X (.Tuple elts kk tpos) (.Call (.Name "enumerate" p) [e] [] pos) (iEnum X.K ta) := by
  intro pins s σ H R I h
  refine Call_ (ld_blt I hg hm boot_enumerate (PyProof.Rows.callWith_type1 (thn (ha pos pins s σ H _ I h) fun us s1 ⟨vs, H1, I1, r1, q1⟩ => ?_) hs rfl))
  obtain ⟨a, xs, ex, hq, q⟩ := q1
  subst ex
  cases r1 with
  | cons r rr =>
    cases rr
    cases r
    obtain ⟨its, rv, p', hz⟩ := I1.list hq
    refine call_enumerate_list p'.isList fun h' he hit hsz hk => wpAny_pyIter_enum he ?_
    have I2 : Inv X pins σ H1 { s1 with heap := h' } := I1.kept (t' := s1.toks) hk
    refine ⟨s1.heap.objs.size + 1, [s1.heap.objs.size + 1, s1.heap.objs.size], _, _, H1, rfl, I2, turn_enum a (s1.heap.objs.size + 1) s1.heap.objs.size, ⟨⟨.none, he⟩, hit, Nat.succ_ne_self _⟩, fun b hb => ?_, q⟩
    have e' : b = s1.heap.objs.size + 1 ∨ b = s1.heap.objs.size := by simpa using hb
    have hle : s1.heap.objs.size ≤ b := by
      rcases e' with z | z
      · rw [z]; exact Nat.le_add_right _ _
      · rw [z]; exact Nat.le_refl _
    exact I1.fpOk hle (I1.hok.fresh hle)
theorem boot_zip5 : bootBuiltins "zip" = some (.type "zip") := by decide +kernel
/-- the lists at a and b as they stand at each turn, the items in new pairs -/
def Itz (K : PySem.W.Frag) (a b : Addr) : It :=
  ⟨fun i H => ∃ (xs ys : List V) (x y : V), SqL K H a xs ∧ SqL K H b ys ∧ xs[i]? = some x ∧ ys[i]? = some y,
    fun i H v H' => ∃ T x y, v = .ref T ∧ H T = none ∧ H' = upd H T (.tup [x, y]) ∧ (∀ xs, SqL K H a xs → xs[i]? = some x) ∧ ∀ ys, SqL K H b ys → ys[i]? = some y,
    fun i H => ∃ xs ys : List V, SqL K H a xs ∧ SqL K H b ys ∧ (xs.length ≤ i ∨ ys.length ≤ i)⟩
theorem turn_zip {P : Program} {w : World} {K : PySem.W.Frag} {elts : List Expr} {kk : Nat} {tpos : Pos} {a b z TI TO i1 i2 : Addr} (D : ZipApart z TI TO i1 i2 a b) :
    Turn P w K (.Tuple elts kk tpos) (Itz K a b) [z, TI, TO, i1, i2] z (fun i h => IsZip h z TI TO .none ∧ IsPair h TI (.ref i1) (.ref i2) ∧ (∃ x y, IsPair h TO x y) ∧ h.IsListIter i1 a i ∧ h.IsListIter i2 b i) where
  mem := by simp
  obj := fun i h st c hc => by
    obtain ⟨hz, hTI, ⟨x, y, hTO⟩, ⟨o1, e1, _, d1⟩, ⟨o2, e2, _, d2⟩⟩ := st
    have e' : c = z ∨ c = TI ∨ c = TO ∨ c = i1 ∨ c = i2 := by simpa using hc
    rcases e' with q | q | q | q | q
    · rw [q]; exact ⟨_, hz, fun v q => nomatch q⟩
    · rw [q]; exact ⟨_, hTI, fun v q => nomatch q⟩
    · rw [q]; exact ⟨_, hTO, fun v q => nomatch q⟩
    · rw [q]; exact ⟨o1, e1, fun v q => by rw [d1] at q; cases q⟩
    · rw [q]; exact ⟨o2, e2, fun v q => by rw [d2] at q; cases q⟩
  keep := fun i h h' st k => by
    obtain ⟨hz, hTI, ⟨x, y, hTO⟩, h1, h2⟩ := st
    exact ⟨k z (by simp) _ hz, k TI (by simp) _ hTI, ⟨x, y, k TO (by simp) _ hTO⟩, h1.at fun o q => k i1 (by simp) o q, h2.at fun o q => k i2 (by simp) o q⟩
  item := by
    intro X hP hw hK hc i pins s σ H E I hf st hg
    subst hP hw hK
    obtain ⟨hz, hTI, ⟨x0, y0, hTO⟩, h1, h2⟩ := st
    obtain ⟨xs, ys, x, y, hqx, hqy, hx, hy⟩ := hg
    obtain ⟨its, rv, p, _⟩ := I.list hqx
    obtain ⟨its2, rv2, p2, _⟩ := I.list hqy
    obtain ⟨u, hu, ru⟩ := rv.get hx
    obtain ⟨u2, hu2, ru2⟩ := rv2.get hy
    have hzl : z < s.heap.objs.size := Heap.lt_size hz
    refine wpAny_pyNext_zip_item D hz hTI hTO h1 h2 p.isList p2.isList (x := u) (y := u2) (by simpa using hu) (by simpa using hu2) fun h' z' TO' h1' h2' hT hsz hk => ?_
    refine ⟨_, rfl, wpAny_letOwnedTupleGo_zip (s := { s with heap := h' }) z' fun h'' z'' sb => ?_⟩
    have hT2 : h''.get? s.heap.objs.size = some { cls := .type "tuple", data := .seq #[u, u2] } := (sb.2 _ (Nat.ne_of_gt hzl)).trans hT
    have new : ObjOk X.prog X.w (upd H s.heap.objs.size (.tup [x, y])) h'' s.heap.objs.size (.tup [x, y]) :=
      ⟨by show 2 ≤ sizeLine; decide, [u, u2], .cons ru (.cons ru2 .nil), ⟨_, hT2, rfl, _, rfl⟩⟩
    have I1 : Inv X pins σ (upd H s.heap.objs.size (.tup [x, y])) { s with heap := h'' } :=
      I.turnedNew (t' := s.toks) (ch := [z, TI, TO, i1, i2]) (fun c o hb q => (sb.2 c (fun q' => hb (by simp [q']))).trans (hk c o (fun q' => hb (by simp [q'])) (fun q' => hb (by simp [q'])) (fun q' => hb (by simp [q'])) (fun q' => hb (by simp [q'])) q)) hf (Nat.le_refl _) new
    refine ⟨.ref s.heap.objs.size, _, I1, rfl, ⟨_, x, y, rfl, I.hok.fresh (Nat.le_refl _), rfl, fun l hl => by rw [I.list_inj hl hqx]; exact hx, fun l hl => by rw [I.list_inj hl hqy]; exact hy⟩, ⟨z'', ?_, ⟨u, u2, ?_⟩, ?_, ?_⟩, fun c hcm => ?_⟩
    · exact (sb.2 _ D.TIz).trans (hk _ _ D.TIz D.TITO D.TIi1 D.TIi2 hTI)
    · exact (sb.2 _ D.TOz).trans TO'
    · exact h1'.at fun o q => (sb.2 _ D.i1z).trans q
    · exact h2'.at fun o q => (sb.2 _ D.i2z).trans q
    · have hlt : c < s.heap.objs.size := by
        have e' : c = z ∨ c = TI ∨ c = TO ∨ c = i1 ∨ c = i2 := by simpa using hcm
        rcases e' with q | q | q | q | q
        · rw [q]; exact hzl
        · rw [q]; exact Heap.lt_size hTI
        · rw [q]; exact Heap.lt_size hTO
        · rw [q]; obtain ⟨_, e1, _⟩ := h1; exact Heap.lt_size e1
        · rw [q]; obtain ⟨_, e2, _⟩ := h2; exact Heap.lt_size e2
      rw [upd_ne (Nat.ne_of_lt hlt)]
      exact (hf c hcm).1
  done := by
    intro X hP hw hK hc i pins s σ H E I hf st hg
    subst hP hw hK
    obtain ⟨hz, hTI, ⟨x0, y0, hTO⟩, h1, h2⟩ := st
    obtain ⟨xs, ys, hqx, hqy, hend⟩ := hg
    obtain ⟨its, rv, p, _⟩ := I.list hqx
    obtain ⟨its2, rv2, p2, _⟩ := I.list hqy
    have l1 := rv.length
    have l2 := rv2.length
    have he : its.toArray[i]? = none ∨ its2.toArray[i]? = none := by
      rcases hend with q | q
      · exact .inl (by simp; omega)
      · exact .inr (by simp; omega)
    exact wpAny_pyNext_zip_end (I.ok.hd hc) D hz hTI hTO h1 h2 p.isList p2.isList he fun h' hk => ⟨rfl, I.turnedL (t' := s.toks) (ch := [z, TI, TO, i1, i2]) (fun c o hb q =>
      hk c o (fun q' => hb (by simp [q'])) (fun q' => hb (by simp [q'])) (fun q' => hb (by simp [q'])) (fun q' => hb (by simp [q'])) q) hf⟩
  self := fun A i s Q E st h => wpAny_pyIter_zip st.1 h
def iZip (K : PySem.W.Frag) (ta : TA) : TI := fun σ H R => ta σ H fun vs H1 => ∃ a b xs ys, vs = [.ref a, .ref b] ∧ SqL K H1 a xs ∧ SqL K H1 b ys ∧ R (Itz K a b) H1
theorem pi_zip {X : Cx} {e e2 : Expr} {ta : TA} {p pos tpos : Pos} {elts : List Expr} {kk : Nat} (hg : Gl X "zip") (hm : X.mg "zip" = none) (ha : PA X [e, e2] ta)
    (hs : starEach [e, e2] X.env = (false, eval e X.env) :: starEach [e2] X.env := by rfl) (hpl : (backTo pos (starEach [e2] X.env)).any (·.1) = false := by rfl) :
    PI X (.Tuple elts kk tpos) (.Call (.Name "zip" p) [e, e2] [] pos) (iZip X.K ta) := by
  intro pins s σ H R I h
  refine Call_ (ld_blt I hg hm boot_zip5 (PyProof.Rows.callWith_type1 (thn (ha pos pins s σ H _ I h) fun us s1 ⟨vs, H1, I1, r1, q1⟩ => ?_) hs hpl))
  obtain ⟨a, b, xs, ys, ex, hqx, hqy, q⟩ := q1
  subst ex
  cases r1 with
  | cons r rr =>
    cases rr with
    | cons r' rr =>
      cases rr
      cases r
      cases r'
      obtain ⟨its, rv, p1, _⟩ := I1.list hqx
      obtain ⟨its2, rv2, p2, _⟩ := I1.list hqy
      have la : a < s1.heap.objs.size := p1.lt
      have lb : b < s1.heap.objs.size := p2.lt
      refine call_zip_2 p1.isList p2.isList fun h' hz hTI hTO h1 h2 hsz hk => wpAny_pyIter_zip hz ?_
      have I2 : Inv X pins σ H1 { s1 with heap := h' } := I1.kept (t' := s1.toks) hk
      refine ⟨s1.heap.objs.size + 4, [s1.heap.objs.size + 4, s1.heap.objs.size + 2, s1.heap.objs.size + 3, s1.heap.objs.size, s1.heap.objs.size + 1], _, _, H1, rfl, I2, turn_zip (PySem.W.ktu_apart s1.heap.objs.size a b la lb), ⟨hz, hTI, ⟨_, _, hTO⟩, h1, h2⟩, fun c hcm => ?_, q⟩
      have e' : c = s1.heap.objs.size + 4 ∨ c = s1.heap.objs.size + 2 ∨ c = s1.heap.objs.size + 3 ∨ c = s1.heap.objs.size ∨ c = s1.heap.objs.size + 1 := by simpa using hcm
      have hle : s1.heap.objs.size ≤ c := by
        rcases e' with z | z | z | z | z
        · rw [z]; exact Nat.le_add_right _ _
        · rw [z]; exact Nat.le_add_right _ _
        · rw [z]; exact Nat.le_add_right _ _
        · rw [z]; exact Nat.le_refl _
        · rw [z]; exact Nat.le_add_right _ _
      exact I1.fpOk hle (I1.hok.fresh hle)
end L2
namespace L2
open PySem PySem.Spec PyProof.Rows
/-- the j-th statement of a class's body -/
def inClass (s : Stmt) (j : Nat) : Stmt := match s with
  | .ClassDef _ _ _ body _ _ _ _ _ _ _ => body.getD j (.Pass ⟨0, 0, 0, 0⟩)
  | _ => .Pass ⟨0, 0, 0, 0⟩
def defArgs (s : Stmt) : Arguments := match s with
  | .FunctionDef _ a _ _ _ _ _ _ _ _ => a
  | _ => { posonlyargs := [], args := [], vararg := none, kwonlyargs := [], kw_defaults := [], kwarg := none, defaults := [] }
def defBody (s : Stmt) : List Stmt := match s with
  | .FunctionDef _ _ b _ _ _ _ _ _ _ => b
  | _ => []
def defScope (s : Stmt) : Scope := match s with
  | .FunctionDef _ _ _ _ _ _ sc _ _ _ => sc
  | _ => { kind := .function, names := [], isGenerator := false, isCoroutine := false }
abbrev CX0 : CXT := fun _ _ _ _ _ _ => False
abbrev E0 : XK := fun _ _ _ => False
theorem pass0 {X : Cx} : Passes CX0 X E0 := fun _ _ _ _ _ _ _ h => h.elim
structure Fun (K : PySem.W.Frag) (x qual : Str) (st : Stmt) (f : Addr) (fd : FuncData) : Prop where
  ex : ∃ (oc : Value) (od : Option Addr) (kV doc pm : Value) (an : Option Addr) (cdv ct : Value) (osl : Array (Option Value)),
    fd = PySem.W.fnOf x qual (defArgs st) (defBody st) (defScope st) .none kV doc pm an cdv ct ∧ K.lookup f = some ⟨oc, od, .func fd, osl⟩ ∧ PySem.W.codeIn K cdv qual = true
  kp : PySem.W.keepIn K (.ref f) = true
section
variable {P : Program} {w : World} {K : PySem.W.Frag} {mg : Str → Option Value} {base : Heap}
/-- THE RULE for a def: its body as a term of rules, and the reading of that term -/
theorem Fun.ok {x qual : Str} {st : Stmt} {f : Addr} {fd : FuncData} {N ps : List Str} {k : Nat} {sp : Sp} (F : Fun K x qual st f fd) (S : FnScope N ps (defScope st)) (len : ∀ vs H Q E, sp vs H Q E → vs.length = ps.length)
    (hbody : ∀ (cdv : Value) (A : Around) (outer : List Env) (s : Shared) (H : Hp) (vs : List V) (Q : VK) (E : XK), Room k (A.deeper (envOfC qual (defScope st) s.heap.objs.size f cdv)) → sp vs H Q E →
      ∃ t, PSs (cxOf CX0 P w K mg base N qual (defScope st) f cdv A outer s H E).nox (defBody st) t ∧ t { nx := fun _ H' => Q .non H', rt := Q } (start N vs) H) : FnOk P w K mg base CX0 (k + 1) f fd ps sp := by
  obtain ⟨oc, od, kV, doc, pm, an, cdv, ct, osl, rfl, lk, hcd⟩ := F.ex
  refine fn_of lk hcd S len fun A outer s H vs Q E hr hsp => ?_
  obtain ⟨t, h, q⟩ := hbody cdv A outer s H vs Q E hr hsp
  exact ⟨t, h.nox, q⟩
/-- how its arguments bind (no defaults): h is «fun _ _ _ _ _ _ us hl => match us, hl with | [_, _], _ => rfl», one _ a parameter -/
theorem Fun.binds {x qual : Str} {st : Stmt} {f : Addr} {fd : FuncData} {ps : List Str} (F : Fun K x qual st f fd)
    (h : ∀ (kV doc pm : Value) (an : Option Addr) (cdv ct : Value) (us : List Value), us.length = ps.length → bindArgs (PySem.W.fnOf x qual (defArgs st) (defBody st) (defScope st) .none kV doc pm an cdv ct) ⟨us, []⟩ = pure (ps.zip us)) : Binds K fd ps [] := by
  obtain ⟨oc, od, kV, doc, pm, an, cdv, ct, osl, rfl, lk, hcd⟩ := F.ex
  exact .all (h kV doc pm an cdv ct)
theorem fun_mk {x qual : Str} {st : Stmt} {f : Addr} {oc : Value} {od an : Option Addr} {osl : Array (Option Value)} {kV doc pm cdv ct : Value} (l : K.lookup f = some ⟨oc, od, .func (PySem.W.fnOf x qual (defArgs st) (defBody st) (defScope st) .none kV doc pm an cdv ct), osl⟩)
    (c : PySem.W.codeIn K cdv qual = true) (k : PySem.W.keepIn K (.ref f) = true) : Fun K x qual st f (PySem.W.fnOf x qual (defArgs st) (defBody st) (defScope st) .none kV doc pm an cdv ct) := ⟨⟨oc, od, kV, doc, pm, an, cdv, ct, osl, rfl, l, c⟩, k⟩
end
theorem hu_of {A : Around} {k : Nat} (hr : Room k A) : A.units + 1 < cLine := Nat.lt_of_le_of_lt (Nat.add_le_add_left (by decide : 1 ≤ 64) _) hr.units
section
variable {X : Cx}
theorem pv (i : Nat) {x : Str} {pos : Pos} (hN : X.N[i]? = some x := by rfl) (hv : Vis X.env.scope x := by first | exact Or.inl rfl | exact Or.inr (Or.inl rfl) | exact Or.inr (Or.inr rfl)) (hd : (x == ("__debug__" : Str)) = false := by decide)
    (hcd : (x == ("__classdict__" : Str)) = false := by decide) : PE X (.Name x pos) (tVar i) := pe_var hN hv hd hcd
end
theorem iteF {A B : Prop} (h : B) : if false = true then A else B := by
  rw [if_neg Bool.false_ne_true]
  exact h
theorem iteT {A B : Prop} (h : A) : if true = true then A else B := by
  rw [if_pos rfl]
  exact h
theorem ite2 {c A B : Prop} [Decidable c] (h1 : c → A) (h2 : ¬ c → B) : if c then A else B := by
  by_cases h : c
  · rw [if_pos h]
    exact h1 h
  · rw [if_neg h]
    exact h2 h
/-- all that was tracked is as it was -/
def Same (H H' : Hp) : Prop := ∀ b o, H b = some o → H' b = some o
theorem Same.refl (H : Hp) : Same H H := fun _ _ h => h
theorem Same.trans {H H1 H2 : Hp} (a : Same H H1) (b : Same H1 H2) : Same H H2 := fun c o h => b c o (a c o h)
theorem Same.free {H H' : Hp} (e : Same H H') {l : Addr} (h : H' l = Option.none) : H l = Option.none := by
  cases q : H l with
  | none => rfl
  | some o =>
    rw [e l o q] at h
    cases h
theorem Same.seq {K : PySem.W.Frag} {H H' : Hp} {a : Addr} {xs : List V} (e : Same H H') (h : SqL K H a xs) : SqL K H' a xs := by
  rcases h with (h | ⟨o, h⟩) | h
  · exact .inl (.inl (e _ _ h))
  · exact .inl (.inr ⟨o, e _ _ h⟩)
  · exact .inr h
/-- a new instance and its __init__ leave all that was tracked as it was -/
theorem Same.made {H H1 : Hp} {x dx C : Addr} (nx : H x = Option.none) (nd : H dx = Option.none) (k : ∀ b o, (upd (upd H dx (.own x)) x (.ins C dx [])) b = some o → b ≠ x → H1 b = some o) : Same H H1 := fun b o e =>
  k b o (by rw [upd_ne (ne_of_none e nx), upd_ne (ne_of_none e nd)]; exact e) (ne_of_none e nx)
end L2
end
section
set_option Elab.async false
set_option linter.all false
set_option maxRecDepth 100000
namespace L2
open PySem PySem.Spec PyProof.Rows
open PySem.W (WData Codec OpenSpec Well WellAll ReadsW ReadsAllW)
mutual
/-- x stands for the datum d, lists and tuples all the way -/
inductive Dw (K : PySem.W.Frag) (H : Hp) : V → WData → Prop
  | non : Dw K H .non .none
  | bl (b : Bool) : Dw K H (.bl b) (.bool b)
  | int (i : Int) : Dw K H (.int i) (.int i)
  | str (x : Str) : Dw K H (.str x) (.str x)
  | byt (b : Array UInt8) : Dw K H (.byt b) (.bytes b.toList)
  | lst {a : Addr} {xs : List V} {ds : List WData} : SqL K H a xs → DwAll K H xs ds → Dw K H (.ref a) (.list ds)
  | tup {a : Addr} {xs : List V} {ds : List WData} : SqT K H a xs → DwAll K H xs ds → Dw K H (.ref a) (.tuple ds)
inductive DwAll (K : PySem.W.Frag) (H : Hp) : List V → List WData → Prop
  | nil : DwAll K H [] []
  | cons {v : V} {vs : List V} {d : WData} {ds : List WData} : Dw K H v d → DwAll K H vs ds → DwAll K H (v :: vs) (d :: ds)
end
theorem dw_ints {K : PySem.W.Frag} {H : Hp} : ∀ ns : List Int, DwAll K H (ns.map V.int) (ns.map WData.int)
  | [] => .nil
  | n :: r => .cons (.int n) (dw_ints r)
theorem ints_dw {K : PySem.W.Frag} {H : Hp} : ∀ (ns : List Int) (xs : List V), DwAll K H xs (ns.map WData.int) → xs = ns.map V.int
  | [], xs, h => by
    cases h
    rfl
  | n :: r, xs, h => by
    cases h with
    | cons h1 h2 =>
      cases h1
      rw [ints_dw r _ h2] <;> rfl
section
variable {P : Program} {w : World} {K : PySem.W.Frag} {H : Hp} {h : Heap} {R : PySem.W.WRecords} {cl : Str → Option Addr}
theorem sqL_at {a : Addr} {xs : List V} (hok : HOk P w H h) (KX : K.In h) (q : SqL K H a xs) : ∃ (its : List Value) (o : Obj) (n : Nat), Vals xs its ∧ h.get? a = some o ∧ o.cls = .type "list" ∧ o.data = .seq its.toArray n := by
  rcases q with q | ⟨o, its, n, e, hc, _, hd, _, hv⟩
  · obtain ⟨_, its, n, hv, e⟩ := (show ObjOk P w H h a (.lst xs) from q.ok hok)
    exact ⟨its, _, n, hv, e, rfl, rfl⟩
  · exact ⟨its.toList, o, n, hv, KX _ _ e, hc, by simp [hd]⟩
theorem sqT_at {a : Addr} {xs : List V} (hok : HOk P w H h) (KX : K.In h) (q : SqT K H a xs) : ∃ (its : List Value) (o : Obj) (n : Nat), Vals xs its ∧ h.get? a = some o ∧ o.cls = .type "tuple" ∧ o.data = .seq its.toArray n := by
  rcases q with q | ⟨o, its, n, e, hc, hd, _, hv⟩
  · obtain ⟨_, its, hv, o, e, hc, n, hd⟩ := (show ObjOk P w H h a (.tup xs) from q.ok hok)
    exact ⟨its, o, n, hv, e, hc, hd⟩
  · exact ⟨its.toList, o, n, hv, KX _ _ e, hc, by simp [hd]⟩
mutual
theorem Dw.reads (hok : HOk P w H h) (KX : K.In h) : ∀ (d : WData) (v : V) (u : Value), Dw K H v d → RelV v u → ∃ as, ReadsW R cl h u d as
  | .none, _, _, x, r => by
    cases x
    cases r
    exact ⟨_, ReadsW.none⟩
  | .bool b, _, _, x, r => by
    cases x
    cases r
    exact ⟨_, ReadsW.bool b⟩
  | .int i, _, _, x, r => by
    cases x
    obtain ⟨t, rfl⟩ := r
    exact ⟨_, ReadsW.int i t⟩
  | .str s, _, _, x, r => by
    cases x
    obtain ⟨t, rfl⟩ := r
    exact ⟨_, ReadsW.str s t⟩
  | .bytes b, _, _, x, r => by
    cases x
    obtain ⟨t, rfl⟩ := r
    exact ⟨_, ReadsW.bytes _ t⟩
  | .list ds, _, _, x, r => by
    cases x with
    | lst hs ha =>
      cases r
      obtain ⟨its, o, n, rv, ho, hc, hd⟩ := sqL_at hok KX hs
      obtain ⟨as, hr⟩ := Dw.readsAll hok KX ds _ its ha rv
      exact ⟨_, ReadsW.list ho hc hd hr⟩
  | .tuple ds, _, _, x, r => by
    cases x with
    | tup hs ha =>
      cases r
      obtain ⟨its, o, n, rv, ho, hc, hd⟩ := sqT_at hok KX hs
      obtain ⟨as, hr⟩ := Dw.readsAll hok KX ds _ its ha rv
      exact ⟨_, ReadsW.tuple ho hc hd hr⟩
  | .float _, _, _, x, _ => by cases x
  | .dict _, _, _, x, _ => by cases x
  | .bytearray _, _, _, x, _ => by cases x
  | .set _, _, _, x, _ => by cases x
  | .frozenset _, _, _, x, _ => by cases x
  | .obj _ _, _, _, x, _ => by cases x
theorem Dw.readsAll (hok : HOk P w H h) (KX : K.In h) : ∀ (ds : List WData) (vs : List V) (us : List Value), DwAll K H vs ds → Vals vs us → ∃ as, ReadsAllW R cl h us ds as
  | [], _, _, x, r => by
    cases x
    cases r
    exact ⟨_, ReadsAllW.nil⟩
  | d :: ds, _, _, x, r => by
    cases x with
    | cons h1 h2 =>
      cases r with
      | cons r1 r2 =>
        obtain ⟨as, q1⟩ := Dw.reads hok KX d _ _ h1 r1
        obtain ⟨bs, q2⟩ := Dw.readsAll hok KX ds _ _ h2 r2
        exact ⟨_, ReadsAllW.cons q1 q2⟩
end
end
mutual
/-- data that a codec tells -/
def plW : WData → Bool
  | .none => true
  | .bool _ => true
  | .int _ => true
  | .str _ => true
  | .bytes _ => true
  | .list xs => plWs xs
  | .tuple xs => plWs xs
  | _ => false
def plWs : List WData → Bool
  | [] => true
  | x :: r => plW x && plWs r
end
theorem plWs_map {α : Type} {f : α → WData} (h : ∀ a, plW (f a) = true) : ∀ l : List α, plWs (l.map f) = true
  | [] => rfl
  | x :: r => by
    show (plW (f x) && plWs (r.map f)) = true
    rw [h x, plWs_map h r] <;> rfl
theorem pl_enc : ∀ (c : Codec) (a : c.denote), plW (c.enc a) = true
  | .unit, _ => rfl
  | .bool, _ => rfl
  | .int _ _, _ => rfl
  | .nat _ _, _ => rfl
  | .u8, _ => rfl
  | .bytes _ _, _ => rfl
  | .text _ _ _ _, _ => rfl
  | .list _ _ c, a => plWs_map (fun x => pl_enc c x) a
  | .pair c d, a => by
    show (plW (c.enc a.1) && (plW (d.enc a.2) && true)) = true
    rw [pl_enc c a.1, pl_enc d a.2] <;> rfl
  | .triple c d e, a => by
    show (plW (c.enc a.1) && (plW (d.enc a.2.1) && (plW (e.enc a.2.2) && true))) = true
    rw [pl_enc c a.1, pl_enc d a.2.1, pl_enc e a.2.2] <;> rfl
  | .option c, none => rfl
  | .option c, some x => pl_enc c x
theorem pl_encAll : ∀ (cs : List Codec) (a : Codec.denoteAll cs), plWs (Codec.encAll cs a) = true
  | [], _ => rfl
  | c :: cs, a => by
    show (plW (c.enc a.1) && plWs (Codec.encAll cs a.2)) = true
    rw [pl_enc c a.1, pl_encAll cs a.2] <;> rfl
theorem weight_mem : ∀ {xs : List WData} {d : WData}, d ∈ xs → d.weight ≤ WData.weightAll xs
  | [], d, h => absurd h (by simp)
  | x :: r, d, h => by
    show d.weight ≤ x.weight + 1 + WData.weightAll r
    rcases List.mem_cons.mp h with e | m
    · rw [e]
      omega
    · have z := weight_mem m
      omega
def toV : Value → V
  | .none => .non
  | .bool b => .bl b
  | .int i _ => .int i
  | .str x _ => .str x
  | .bytes b _ => .byt b
  | .ref a => .ref a
  | _ => .non
/-- a value of the arguments, its objects among A -/
def OkU (A : List Addr) : Value → Prop
  | .none => True
  | .bool _ => True
  | .int _ _ => True
  | .str _ _ => True
  | .bytes _ _ => True
  | .ref a => a ∈ A
  | _ => False
theorem OkU.mono {A B : List Addr} (h : ∀ a ∈ A, a ∈ B) : ∀ {u : Value}, OkU A u → OkU B u := fun {u} x => by
  cases u with
  | ref a => exact h a x
  | none => trivial
  | bool b => trivial
  | int i t => trivial
  | str s t => trivial
  | bytes b t => trivial
  | _ => exact False.elim x
theorem relV_toV {A : List Addr} {u : Value} (x : OkU A u) : RelV (toV u) u := by
  cases u with
  | ref a => rfl
  | none => rfl
  | bool b => rfl
  | int i t => exact ⟨t, rfl⟩
  | str s t => exact ⟨t, rfl⟩
  | bytes b t => exact ⟨t, rfl⟩
  | _ => exact False.elim x
theorem vals_toV {A : List Addr} : ∀ {vs : List Value}, (∀ u ∈ vs, OkU A u) → Vals (vs.map toV) vs
  | [], _ => .nil
  | u :: r, h => .cons (relV_toV (h u (List.mem_cons_self ..))) (vals_toV fun x hx => h x (List.mem_cons_of_mem _ hx))
/-- an object of the arguments -/
def ArgOb (h : Heap) (A : List Addr) (a : Addr) : Prop := ∃ vs : List Value, vs.length ≤ sizeLine ∧ (∀ u ∈ vs, OkU A u) ∧
  (h.get? a = some { cls := .type "list", data := .seq vs.toArray } ∨ h.get? a = some { cls := .type "tuple", data := .seq vs.toArray })
theorem ArgOb.mono {h : Heap} {A B : List Addr} {a : Addr} (k : ∀ a ∈ A, a ∈ B) (x : ArgOb h A a) : ArgOb h B a := by
  obtain ⟨vs, h1, h2, h3⟩ := x
  exact ⟨vs, h1, fun u hu => (h2 u hu).mono k, h3⟩
theorem wellAll_len {P : Params} {h : Heap} : ∀ {vs : List Value} {ds : List WData}, WellAll P h vs ds → vs.length = ds.length
  | _, _, .nil => rfl
  | _, _, .cons _ b => by
    show _ + 1 = _ + 1
    rw [wellAll_len b]
theorem well_list {P : Params} {h : Heap} {v : Value} {ds : List WData} (x : Well P h v (.list ds)) : ∃ (a : Addr) (vs : List Value), v = .ref a ∧ h.get? a = some { cls := .type "list", data := .seq vs.toArray } ∧ WellAll P h vs ds := by
  cases x with
  | list ho hall => exact ⟨_, _, rfl, ho, hall⟩
theorem well_tuple {P : Params} {h : Heap} {v : Value} {ds : List WData} (x : Well P h v (.tuple ds)) : ∃ (a : Addr) (vs : List Value), v = .ref a ∧ h.get? a = some { cls := .type "tuple", data := .seq vs.toArray } ∧ WellAll P h vs ds := by
  cases x with
  | tuple ho hall => exact ⟨_, _, rfl, ho, hall⟩
theorem well_cons {P : Params} {h : Heap} {us : List Value} {d : WData} {ds : List WData} (x : WellAll P h us (d :: ds)) : ∃ (v : Value) (vs : List Value), us = v :: vs ∧ Well P h v d ∧ WellAll P h vs ds := by
  cases x with
  | cons a b => exact ⟨_, _, rfl, a, b⟩
theorem line_of {n : Nat} (h : n ≤ 1048576) : n ≤ sizeLine := Nat.le_trans h (by decide)
section
variable {P : Params} {h : Heap}
mutual
theorem area_one : ∀ (d : WData) (v : Value), Well P h v d → plW d = true → d.weight ≤ 1048576 → ∃ A : List Addr, OkU A v ∧ ∀ a ∈ A, ArgOb h A a
  | .none, _, x, _, _ => by
    cases x
    exact ⟨[], trivial, fun a m => absurd m (by simp)⟩
  | .bool b, _, x, _, _ => by
    cases x
    exact ⟨[], trivial, fun a m => absurd m (by simp)⟩
  | .int i, _, x, _, _ => by
    cases x
    exact ⟨[], trivial, fun a m => absurd m (by simp)⟩
  | .str s, _, x, _, _ => by
    cases x
    exact ⟨[], trivial, fun a m => absurd m (by simp)⟩
  | .bytes b, _, x, _, _ => by
    cases x
    exact ⟨[], trivial, fun a m => absurd m (by simp)⟩
  | .list ds, _, x, p, z => by
    obtain ⟨a, vs, rfl, ho, hall⟩ := well_list x
    have z2 : WData.weightAll ds ≤ 1048576 := z
    obtain ⟨A, h1, h2⟩ := area_all ds _ hall p fun d hd => Nat.le_trans (weight_mem hd) z2
    have k : ∀ b ∈ A, b ∈ a :: A := fun b hb => List.mem_cons_of_mem _ hb
    refine ⟨a :: A, List.mem_cons_self .., fun b hb => ?_⟩
    rcases List.mem_cons.mp hb with e | m
    · rw [e]
      exact ⟨vs, line_of (by rw [wellAll_len hall]; exact Nat.le_trans (PySem.W.length_le_weightAllW ds) z2), fun u hu => (h1 u hu).mono k, .inl ho⟩
    · exact (h2 b m).mono k
  | .tuple ds, _, x, p, z => by
    obtain ⟨a, vs, rfl, ho, hall⟩ := well_tuple x
    have z2 : WData.weightAll ds ≤ 1048576 := z
    obtain ⟨A, h1, h2⟩ := area_all ds _ hall p fun d hd => Nat.le_trans (weight_mem hd) z2
    have k : ∀ b ∈ A, b ∈ a :: A := fun b hb => List.mem_cons_of_mem _ hb
    refine ⟨a :: A, List.mem_cons_self .., fun b hb => ?_⟩
    rcases List.mem_cons.mp hb with e | m
    · rw [e]
      exact ⟨vs, line_of (by rw [wellAll_len hall]; exact Nat.le_trans (PySem.W.length_le_weightAllW ds) z2), fun u hu => (h1 u hu).mono k, .inr ho⟩
    · exact (h2 b m).mono k
  | .float _, _, _, p, _ => Bool.noConfusion (show false = true from p)
  | .dict _, _, _, p, _ => Bool.noConfusion (show false = true from p)
  | .bytearray _, _, _, p, _ => Bool.noConfusion (show false = true from p)
  | .set _, _, _, p, _ => Bool.noConfusion (show false = true from p)
  | .frozenset _, _, _, p, _ => Bool.noConfusion (show false = true from p)
  | .obj _ _, _, _, p, _ => Bool.noConfusion (show false = true from p)
theorem area_all : ∀ (ds : List WData) (vs : List Value), WellAll P h vs ds → plWs ds = true → (∀ d ∈ ds, d.weight ≤ 1048576) → ∃ A : List Addr, (∀ u ∈ vs, OkU A u) ∧ ∀ a ∈ A, ArgOb h A a
  | [], _, x, _, _ => by
    cases x
    exact ⟨[], fun u m => absurd m (by simp), fun a m => absurd m (by simp)⟩
  | d :: ds, _, x, p, z => by
    obtain ⟨v, vs, rfl, x1, x2⟩ := well_cons x
    have q : plW d = true ∧ plWs ds = true := Bool.and_eq_true_iff.mp p
    obtain ⟨A, a1, a2⟩ := area_one d v x1 q.1 (z d (List.mem_cons_self ..))
    obtain ⟨B, b1, b2⟩ := area_all ds vs x2 q.2 fun e he => z e (List.mem_cons_of_mem _ he)
    have kA : ∀ b ∈ A, b ∈ A ++ B := fun b hb => List.mem_append.mpr (.inl hb)
    have kB : ∀ b ∈ B, b ∈ A ++ B := fun b hb => List.mem_append.mpr (.inr hb)
    refine ⟨A ++ B, fun u hu => ?_, fun b hb => ?_⟩
    · rcases List.mem_cons.mp hu with e | m
      · rw [e]
        exact a1.mono kA
      · exact (b1 u m).mono kB
    · rcases List.mem_append.mp hb with m | m
      · exact (a2 b m).mono kA
      · exact (b2 b m).mono kB
end
end
/-- what is tracked of an argument's object -/
def hoOf (o : Obj) : Option HO := match o.data with
  | .seq vs _ => if (o.cls == Value.type "list") = true then some (.frz o (.lst (vs.toList.map toV))) else some (.frz o (.tup (vs.toList.map toV)))
  | _ => none
def argH (K : PySem.W.Frag) (h : Heap) (A : List Addr) : Hp := fun b => if b ∈ A then (if (K.lookup b).isNone = true then (h.get? b).bind hoOf else none) else none
/-- nothing is tracked but what is known to the object -/
def OnlyF (H : Hp) : Prop := ∀ b, H b = none ∨ ∃ o u, H b = some (.frz o u)
theorem hoOf_lst (vs : List Value) : hoOf { cls := .type "list", data := .seq vs.toArray } = some (.frz { cls := .type "list", data := .seq vs.toArray } (.lst (vs.map toV))) := by
  show (if (Value.type "list" == Value.type "list") = true then some (HO.frz { cls := .type "list", data := .seq vs.toArray } (.lst (vs.toArray.toList.map toV))) else some (HO.frz { cls := .type "list", data := .seq vs.toArray } (.tup (vs.toArray.toList.map toV)))) = _
  rw [if_pos (beq_self_eq_true _)]
theorem hoOf_tup (vs : List Value) : hoOf { cls := .type "tuple", data := .seq vs.toArray } = some (.frz { cls := .type "tuple", data := .seq vs.toArray } (.tup (vs.map toV))) := by
  show (if (Value.type "tuple" == Value.type "list") = true then some (HO.frz { cls := .type "tuple", data := .seq vs.toArray } (.lst (vs.toArray.toList.map toV))) else some (HO.frz { cls := .type "tuple", data := .seq vs.toArray } (.tup (vs.toArray.toList.map toV)))) = _
  rw [if_neg (by decide)]
section
variable {P : Program} {w : World} {K : PySem.W.Frag} {h : Heap} {A : List Addr}
theorem argH_at {b : Addr} {o : Obj} (hb : b ∈ A) (hk : K.lookup b = none) (e : h.get? b = some o) : argH K h A b = hoOf o := by
  unfold argH
  rw [if_pos hb, hk, if_pos (show (none : Option Obj).isNone = true from rfl), e] <;> rfl
theorem of_argH {b : Addr} {u : HO} (q : argH K h A b = some u) : b ∈ A ∧ K.lookup b = none := by
  unfold argH at q
  by_cases hb : b ∈ A
  · rw [if_pos hb] at q
    cases hk : K.lookup b with
    | none => exact ⟨hb, rfl⟩
    | some o =>
      rw [hk, if_neg (by simp)] at q
      cases q
  · rw [if_neg hb] at q
    cases q
/-- what stands tracked -/
theorem argH_is (ar : ∀ a ∈ A, ArgOb h A a) {b : Addr} {u : HO} (q : argH K h A b = some u) : K.lookup b = none ∧ ∃ vs : List Value, vs.length ≤ sizeLine ∧ (∀ u ∈ vs, OkU A u) ∧
    ((h.get? b = some { cls := .type "list", data := .seq vs.toArray } ∧ u = .frz { cls := .type "list", data := .seq vs.toArray } (.lst (vs.map toV))) ∨
     (h.get? b = some { cls := .type "tuple", data := .seq vs.toArray } ∧ u = .frz { cls := .type "tuple", data := .seq vs.toArray } (.tup (vs.map toV)))) := by
  obtain ⟨hb, hk⟩ := of_argH q
  obtain ⟨vs, h1, h2, h3⟩ := ar b hb
  refine ⟨hk, vs, h1, h2, ?_⟩
  rcases h3 with e | e
  · rw [argH_at hb hk e, hoOf_lst] at q
    exact .inl ⟨e, (Option.some.inj q).symm⟩
  · rw [argH_at hb hk e, hoOf_tup] at q
    exact .inr ⟨e, (Option.some.inj q).symm⟩
theorem argH_only (ar : ∀ a ∈ A, ArgOb h A a) : OnlyF (argH K h A) := fun b => by
  cases q : argH K h A b with
  | none => exact .inl rfl
  | some u =>
    obtain ⟨_, vs, _, _, ⟨_, e⟩ | ⟨_, e⟩⟩ := argH_is ar q
    · exact .inr ⟨_, _, by rw [e]⟩
    · exact .inr ⟨_, _, by rw [e]⟩
theorem argH_ok (ar : ∀ a ∈ A, ArgOb h A a) : HOk P w (argH K h A) h := fun b u q => by
  obtain ⟨_, vs, h1, h2, ⟨e, rfl⟩ | ⟨e, rfl⟩⟩ := argH_is ar q
  · exact ⟨e, by rw [List.length_map]; exact h1, vs, _, vals_toV h2, e⟩
  · exact ⟨e, by rw [List.length_map]; exact h1, vs, vals_toV h2, _, e, rfl, _, rfl⟩
theorem seq_inj {c c' : Value} {vs us : List Value} (e : (some { cls := c, data := .seq vs.toArray } : Option Obj) = some { cls := c', data := .seq us.toArray }) : c = c' ∧ vs = us := by
  have e1 := Option.some.inj e
  have e2 : c = c' := congrArg Obj.cls e1
  have e3 : Data.seq vs.toArray = Data.seq us.toArray := congrArg Obj.data e1
  injection e3 with e4
  refine ⟨e2, ?_⟩
  have e5 := congrArg Array.toList e4
  simpa using e5
/-- a list argument -/
theorem argL (KX : K.In h) (ar : ∀ a ∈ A, ArgOb h A a) {a : Addr} {vs : List Value} (ha : a ∈ A) (e : h.get? a = some { cls := .type "list", data := .seq vs.toArray }) : (∀ u ∈ vs, OkU A u) ∧ SqL K (argH K h A) a (vs.map toV) := by
  obtain ⟨us, h1, h2, h3⟩ := ar a ha
  have hu : us = vs := by
    rcases h3 with q | q
    · rw [e] at q
      exact (seq_inj q).2.symm
    · rw [e] at q
      exact absurd (Value.type.inj (seq_inj q).1) (by decide)
  subst hu
  refine ⟨h2, ?_⟩
  cases hk : K.lookup a with
  | none => exact .inl (.inr ⟨_, by rw [argH_at ha hk e, hoOf_lst]⟩)
  | some o =>
    have e2 := KX a o hk
    rw [e] at e2
    obtain rfl := Option.some.inj e2
    exact .inr ⟨_, us.toArray, _, hk, rfl, rfl, rfl, by rw [List.size_toArray]; exact h1, by simpa using vals_toV h2⟩
theorem argT (KX : K.In h) (ar : ∀ a ∈ A, ArgOb h A a) {a : Addr} {vs : List Value} (ha : a ∈ A) (e : h.get? a = some { cls := .type "tuple", data := .seq vs.toArray }) : (∀ u ∈ vs, OkU A u) ∧ SqT K (argH K h A) a (vs.map toV) := by
  obtain ⟨us, h1, h2, h3⟩ := ar a ha
  have hu : us = vs := by
    rcases h3 with q | q
    · rw [e] at q
      exact absurd (Value.type.inj (seq_inj q).1) (by decide)
    · rw [e] at q
      exact (seq_inj q).2.symm
  subst hu
  refine ⟨h2, ?_⟩
  cases hk : K.lookup a with
  | none => exact .inl (.inr ⟨_, by rw [argH_at ha hk e, hoOf_tup]⟩)
  | some o =>
    have e2 := KX a o hk
    rw [e] at e2
    obtain rfl := Option.some.inj e2
    exact .inr ⟨_, us.toArray, _, hk, rfl, rfl, by rw [List.size_toArray]; exact h1, by simpa using vals_toV h2⟩
mutual
theorem dw_one {Pm : Params} (KX : K.In h) (ar : ∀ a ∈ A, ArgOb h A a) : ∀ (d : WData) (v : Value), Well Pm h v d → plW d = true → OkU A v → Dw K (argH K h A) (toV v) d
  | .none, _, x, _, _ => by
    cases x
    exact .non
  | .bool b, _, x, _, _ => by
    cases x
    exact .bl b
  | .int i, _, x, _, _ => by
    cases x
    exact .int i
  | .str s, _, x, _, _ => by
    cases x
    exact .str s
  | .bytes b, _, x, _, _ => by
    cases x
    have z := Dw.byt (K := K) (H := argH K h A) b.toArray
    exact z
  | .list ds, _, x, p, hu => by
    obtain ⟨a, vs, rfl, ho, hall⟩ := well_list x
    obtain ⟨h2, hs⟩ := argL KX ar hu ho
    exact .lst hs (dw_all KX ar ds _ hall p h2)
  | .tuple ds, _, x, p, hu => by
    obtain ⟨a, vs, rfl, ho, hall⟩ := well_tuple x
    obtain ⟨h2, hs⟩ := argT KX ar hu ho
    exact .tup hs (dw_all KX ar ds _ hall p h2)
  | .float _, _, _, p, _ => Bool.noConfusion (show false = true from p)
  | .dict _, _, _, p, _ => Bool.noConfusion (show false = true from p)
  | .bytearray _, _, _, p, _ => Bool.noConfusion (show false = true from p)
  | .set _, _, _, p, _ => Bool.noConfusion (show false = true from p)
  | .frozenset _, _, _, p, _ => Bool.noConfusion (show false = true from p)
  | .obj _ _, _, _, p, _ => Bool.noConfusion (show false = true from p)
theorem dw_all {Pm : Params} (KX : K.In h) (ar : ∀ a ∈ A, ArgOb h A a) : ∀ (ds : List WData) (vs : List Value), WellAll Pm h vs ds → plWs ds = true → (∀ u ∈ vs, OkU A u) → DwAll K (argH K h A) (vs.map toV) ds
  | [], _, x, _, _ => by
    cases x
    exact .nil
  | d :: ds, _, x, p, hu => by
    obtain ⟨v, vs, rfl, x1, x2⟩ := well_cons x
    have q : plW d = true ∧ plWs ds = true := Bool.and_eq_true_iff.mp p
    exact .cons (dw_one KX ar d v x1 q.1 (hu _ (List.mem_cons_self ..))) (dw_all KX ar ds vs x2 q.2 fun u m => hu u (List.mem_cons_of_mem _ m))
end
end
theorem spec_call {P : Program} {w : World} {K : PySem.W.Frag} {mg mb : Str → Option Value} {CX : CXT} {k : Nat} {fa : Addr} {fd : FuncData} {ps : List Str} {sp : Sp} {s₁ : Shared} {vals : List Value} {ds : List WData} {R : PySem.W.WRecords} {cl : Str → Option Addr} {d0 : WData}
    (KX : K.In s₁.heap) (hns : s₁.heap.Ns mainGlobals mg) (hb : s₁.heap.Ns builtinsNs mb) (hbb : ∀ x : Str, x ≠ "__name__" → mb x = bootBuiltins x) (hlim : s₁.heap.NoLimit) (hg : s₁.gens = #[])
    (hwl : WellAll w.params s₁.heap vals ds) (hpl : plWs ds = true) (hwt : ∀ d ∈ ds, d.weight ≤ 1048576) (hr : Room k callerA)
    (F : ∀ base : Heap, K.In base → base.Ns mainGlobals mg → FnOk P w K mg base CX k fa fd ps sp) (hbind : ∀ (s : Shared) (us : List Value), us.length = ps.length → BindsTo s fd ⟨us, []⟩ (ps.zip us)) (hlen : ds.length = ps.length)
    (hsp : ∀ (H : Hp) (xs : List V), OnlyF H → DwAll K H xs ds → sp xs H (fun v H' => Dw K H' v d0) fun _ _ _ => False)
    (hCX : ∀ H e s', CX [] H s₁ (fun _ _ _ => False) e s' → False) :
    codeAny (model P w) callerA (.call (.ref fa) ⟨vals, []⟩) (fun r s' => ∃ u as, r = .ok (.ret u) ∧ ReadsW R cl s'.heap u d0 as ∧ OldK s₁.heap s'.heap ∧ s'.os = s₁.os ∧ AllBare s'.gens) s₁ := by
  obtain ⟨A, ho, ar⟩ := area_all ds vals hwl hpl hwt
  have hO : OnlyF (argH K s₁.heap A) := argH_only ar
  have hok : HOk P w (argH K s₁.heap A) s₁.heap := argH_ok ar
  have hS := dw_all KX ar ds vals hwl hpl ho
  have hV := vals_toV ho
  have hK : ∀ b u, argH K s₁.heap A b = some u → K.lookup b = none := fun b u q => (argH_is ar q).1
  have noA : ∀ {b : Addr} {o : Obj} {es : Array DictEntry} {ep : Nat}, s₁.heap.get? b = some o → o.data = .dict es ep → argH K s₁.heap A b = none := fun {b o es ep} e d => by
    cases q : argH K s₁.heap A b with
    | none => rfl
    | some u =>
      obtain ⟨_, vs, _, _, ⟨e2, _⟩ | ⟨e2, _⟩⟩ := argH_is ar q
      · rw [e2] at e
        cases e
        have d' : Data.seq vs.toArray _ = Data.dict es ep := d
        cases d'
      · rw [e2] at e
        cases e
        have d' : Data.seq vs.toArray _ = Data.dict es ep := d
        cases d'
  generalize argH K s₁.heap A = H at hO hok hS hK noA
  have base_of : ∀ {b : Addr} {o : Obj}, s₁.heap.get? b = some o → H b = none → (hidT s₁.heap H).get? b = some o := fun e n => hidT_get e n
  have nsK : ∀ {b : Addr} {m : Str → Option Value}, s₁.heap.Ns b m → (hidT s₁.heap H).Ns b m := fun {b m} ⟨o, es, ep, e, d, r⟩ => ⟨o, es, ep, base_of e (noA e d), d, r⟩
  have nK : ∀ b o, K.lookup b = some o → H b = none := fun b o e => by
    cases q : H b with
    | none => rfl
    | some u =>
      rw [hK b u q] at e
      cases e
  have hKb : K.In (hidT s₁.heap H) := fun b o e => base_of (KX b o e) (nK b o e)
  have hM : Mod K mg (hidT s₁.heap H) := ⟨hKb, nsK hns, ⟨mb, nsK hb, hbb⟩, let ⟨mc, h1, h2⟩ := hlim; ⟨mc, nsK h1, h2⟩⟩
  have e0 : Env0 P w K mg (hidT s₁.heap H) callerA [] s₁ H := ⟨rfl, hM, fun b o e => of_hidT e, Nat.le_of_eq (hidT_size _ _), trivial, fun b hb => absurd (show b ∈ ([] : List Addr) from hb) (by simp), hok, .of_eq hg⟩
  have hl : vals.length = ps.length := by rw [wellAll_len hwl]; exact hlen
  refine codeAny_mono ((F _ hKb (nsK hns)).run callerA [] s₁ H ⟨vals, []⟩ vals (vals.map toV) _ _ hr e0 (hbind s₁ vals hl) hV (hsp H _ hO hS)) fun r s' x => ?_
  cases r with
  | error e => exact (hCX H e s' x).elim
  | ok fl =>
    cases fl with
    | next => exact False.elim x
    | brk => exact False.elim x
    | cont => exact False.elim x
    | ret u =>
      obtain ⟨v, H', os, bare, un, hok', r', q⟩ := x
      have kept : ∀ b o, s₁.heap.get? b = some o → s'.heap.get? b = some o := fun b o e => by
        cases q2 : H b with
        | none => exact un.keep b o e q2 (by intro z; exact absurd (show b ∈ ([] : List Addr) from z) (by simp)) (by simp)
        | some u2 =>
          rcases hO b with z | ⟨ob, u3, z⟩
          · rw [q2] at z
            cases z
          · have z2 := un.frzs b ob _ z
            obtain ⟨e1, _⟩ := hok b _ z
            obtain ⟨e2, _⟩ := hok' b _ z2
            rw [e] at e1
            cases e1
            exact e2
      have KX' : K.In s'.heap := fun b o e => kept b o (KX b o e)
      obtain ⟨as, hrd⟩ := Dw.reads (R := R) (cl := cl) hok' KX' d0 v u q r'
      exact ⟨u, as, rfl, hrd, OldK.of_keep kept, os, bare⟩
theorem layable_weight {ds : List WData} (h : WData.layableAll ds = true) : ∀ d ∈ ds, d.weight ≤ 1048576 := fun d hd =>
  (PySem.W.layableW_iff.mp (List.all_eq_true.mp h d hd)).2.2
theorem encAll_len : ∀ (cs : List Codec) (a : Codec.denoteAll cs), (Codec.encAll cs a).length = cs.length
  | [], _ => rfl
  | c :: cs, a => by
    show (Codec.encAll cs a.2).length + 1 = cs.length + 1
    rw [encAll_len cs a.2]
/-- the goal that k_headS leaves (case hc), from the promise of the row's def: whatever the arguments that the codecs let and the row asks for, the def gives what stands for enc (f ..) -/
theorem walk_spec {r : OpenSpec} {k : Nat} {q : Program} {loose : List Str} {XP : (Str → Option Value) → Heap → Prop} {YP : World → Heap → Prop} {d : DefRec} {K : Params → PySem.W.Frag} {CX : World → CXT} {ps : List Str} {sp : World → Sp}
    (hwell : r.wellSaid = true) (hdf : d.params.defaults = []) (hlen : r.args.length = ps.length) (hr : Room k callerA)
    (hY : ∀ (w : World) (h : Heap), YP w h → (K w.params).In h)
    (F : ∀ (w : World) (mg : Str → Option Value) (fa : Addr) (h : Heap), YP w h → (K w.params).In h → h.Ns mainGlobals mg → mg d.name = some (.ref fa) →
      ∃ fd : FuncData, (∀ (s : Shared) (us : List Value), us.length = ps.length → BindsTo s fd ⟨us, []⟩ (ps.zip us)) ∧
        ∀ base : Heap, (K w.params).In base → base.Ns mainGlobals mg → FnOk r.prog w (K w.params) mg base (CX w) k fa fd ps (sp w))
    (hsp : ∀ (w : World) (H : Hp) (xs : List V) (a : Codec.denoteAll r.args), OnlyF H → Codec.withinAll r.args a = true → Codec.app r.args r.asked a = true → DwAll (K w.params) H xs (Codec.encAll r.args a) →
      sp w xs H (fun v H' => Dw (K w.params) H' v (r.ret.enc (Codec.app r.args r.f a))) fun _ _ _ => False)
    (hCX : ∀ (w : World) (H : Hp) (s : Shared) (e : Value) (s' : Shared), CX w [] H s (fun _ _ _ => False) e s' → False) :
    PySem.W.WalkOS q loose XP YP r d [] (fun f vs => PySem.call f vs) := by
  intro w s_0 s₁ mg mb G Y fa o pm cd doc dV kV ho hd hcd hD hmg hg args vals as hpre hlay hrd hwl hlo
  obtain ⟨a, e1, e2⟩ := PySem.W.os_pre_some hpre
  obtain ⟨e3, hwi⟩ := Codec.encAll_of_decAll r.args args a e1
  subst e3
  have KX := hY w _ Y
  obtain ⟨fd, hb, hF⟩ := F w mg fa _ Y KX G.T.g hmg
  refine PySem.W.enter_call (codeAny_mono (spec_call (R := []) (cl := classAt s_0.heap) (d0 := r.ret.enc (Codec.app r.args r.f a)) KX G.T.g G.T.b G.T.builtins G.T.nolimit hg hwl (pl_encAll _ _) (layable_weight hlay) hr hF hb (by rw [encAll_len]; exact hlen)
    (fun H xs hO hS => hsp w H xs a hO hwi e2 hS) fun H e s' => hCX w H s₁ e s') fun r' s' hq => ?_)
  obtain ⟨u, as', rfl, h1, h2, h3, h4⟩ := hq
  exact ⟨.inl ⟨u, _, as', rfl, fun _ => rfl, h1, (OpenSpec.post_iff hwell hwi _ _).mpr rfl, fun z => Bool.noConfusion (show false = true from z)⟩, h2, h3, h4⟩
/-- the same where the promise hangs on the written part alone -/
theorem walk_specK {r : OpenSpec} {k : Nat} {q : Program} {loose : List Str} {XP : (Str → Option Value) → Heap → Prop} {YP : World → Heap → Prop} {d : DefRec} {K : Params → PySem.W.Frag} {CX : CXT} {ps : List Str} {sp : PySem.W.Frag → Sp}
    (hwell : r.wellSaid = true) (hdf : d.params.defaults = []) (hlen : r.args.length = ps.length) (hr : Room k callerA)
    (hY : ∀ (w : World) (h : Heap), YP w h → (K w.params).In h)
    (F : ∀ (w : World) (mg : Str → Option Value) (fa : Addr) (h : Heap), YP w h → (K w.params).In h → h.Ns mainGlobals mg → mg d.name = some (.ref fa) →
      ∃ fd : FuncData, (∀ (s : Shared) (us : List Value), us.length = ps.length → BindsTo s fd ⟨us, []⟩ (ps.zip us)) ∧
        ∀ base : Heap, (K w.params).In base → base.Ns mainGlobals mg → FnOk r.prog w (K w.params) mg base CX k fa fd ps (sp (K w.params)))
    (hsp : ∀ (K : PySem.W.Frag) (H : Hp) (xs : List V) (a : Codec.denoteAll r.args), OnlyF H → Codec.withinAll r.args a = true → Codec.app r.args r.asked a = true → DwAll K H xs (Codec.encAll r.args a) →
      sp K xs H (fun v H' => Dw K H' v (r.ret.enc (Codec.app r.args r.f a))) fun _ _ _ => False)
    (hCX : ∀ (H : Hp) (s : Shared) (e : Value) (s' : Shared), CX [] H s (fun _ _ _ => False) e s' → False) :
    PySem.W.WalkOS q loose XP YP r d [] (fun f vs => PySem.call f vs) :=
  walk_spec (K := K) (CX := fun _ => CX) (sp := fun w => sp (K w.params)) hwell hdf hlen hr hY F (fun w H xs a h1 h2 h3 h4 => hsp (K w.params) H xs a h1 h2 h3 h4) fun _ H s e s' => hCX H s e s'
end L2
end
section
set_option Elab.async false
set_option linter.all false
set_option maxRecDepth 100000
namespace L2
open PySem PySem.Spec PyProof.Rows
theorem bits_of {a : Int} {k : Nat} (h : a.natAbs < 2 ^ k) : Builtin.Int.intBits a ≤ k := by
  unfold Builtin.Int.intBits
  split
  · exact Nat.zero_le _
  · rename_i hz
    have hne : a.natAbs ≠ 0 := by
      intro z
      apply hz
      first | exact Int.natAbs_eq_zero.mp z | simpa using z
    have := (Nat.log2_lt hne).mpr h
    omega
def CWide (i j : Int) : Prop := i.natAbs < 2 ^ 4000 ∧ j.natAbs < 2 ^ 4000
def CWideN (_i j : Int) : Prop := j ≠ 0 ∧ j.natAbs < 2 ^ 4000
theorem op_mulW {X : Cx} : OpR X (binaryOp .Mult) (rI CWide fun i j => .int (i * j)) := opI fun _ _ _ _ _ _ _ hc q => mul_int q (IntMulOk.of_le (bits_of hc.1) (bits_of hc.2) (by decide))
theorem log2_wide {j : Int} (h : j.natAbs < 2 ^ 4000) : j.natAbs.log2 < 9000 := by
  by_cases hz : j.natAbs = 0
  · rw [hz]
    decide
  · have := (Nat.log2_lt hz).mpr h
    omega
theorem op_fdivW {X : Cx} : OpR X (binaryOp .FloorDiv) (rI CWideN fun i j => .int (i.fdiv j)) := opI fun _ _ _ _ _ _ _ hc q => floordiv_int hc.1 q (.inl (PyProof.noPylong_of_log2 (log2_wide hc.2)))
/-- what was there ahead, or is tracked, stands in B as it stands in h2 (the frames aside) -/
def Covr (h : Heap) (H2 : Hp) (fs : List Addr) (B h2 : Heap) : Prop := ∀ b, ((∃ o, h.get? b = some o) ∨ ∃ u, H2 b = some u) → b ∉ fs → ∃ o, h2.get? b = some o ∧ B.get? b = some o
def CXo (P : Program) (w : World) : CXT := fun outer H s E e s2 => ∃ (ea C : Addr) (H2 : Hp) (B : Heap) (a0 : Value), e = .ref ea ∧ s2.os = s.os ∧ AllBare s2.gens ∧ Un (frs outer) [] H H2 s.heap s2.heap ∧ HOk P w H2 s2.heap ∧
  Heap.FlyingW B outer ea (.ref C) a0 s2.heap ∧ Covr s.heap H2 (frs outer) B s2.heap ∧ E (.ref C) none H2
theorem ObjOk.has {P : Program} {w : World} {H : Hp} {h : Heap} {a : Addr} {o : HO} (x : ObjOk P w H h a o) : ∃ q, h.get? a = some q := by
  cases o with
  | lst xs => obtain ⟨_, _, _, _, e⟩ := x; exact ⟨_, e⟩
  | tup xs => obtain ⟨_, _, _, ob, e, _⟩ := x; exact ⟨ob, e⟩
  | dK kvs => obtain ⟨_, _, _, _, ob, _, _, e, _⟩ := x; exact ⟨ob, e⟩
  | dT kvs => obtain ⟨_, _, _, _, ob, _, _, e, _⟩ := x; exact ⟨ob, e⟩
  | set S n => obtain ⟨ob, _, _, _, e, _⟩ := x; exact ⟨ob, e⟩
  | ins C dx fs => obtain ⟨_, _, _, e, _⟩ := x; exact ⟨_, e⟩
  | own y => exact x
  | xd fs => obtain ⟨_, ⟨ob, _, _, e, _⟩, _⟩ := x; exact ⟨ob, e⟩
  | rng lo hi => obtain ⟨_, _, _, e⟩ := x; exact ⟨_, e⟩
  | frz ob u => exact ⟨ob, x.1⟩
  | tbl ps => exact ⟨_, x⟩
  | met f y => exact ⟨_, x⟩
  | ext φ => exact x.2.1
/-- the frames' slots and the exception's own record may have turned once more -/
theorem refly {P : Program} {w : World} {l : List Env} {H H2 : Hp} {h hs h2 B base : Heap} (U : Un (frs l) [] H H2 h hs) (ok : HOk P w H2 hs) (cv : Covr h H2 (frs l) B hs) (st : B.StaysIn h2) (up : hs.UpToSlots h2) (fr : hs.FunFrames base l)
    (fre : ∀ b ∈ frs l, H2 b = none) : Un (frs l) [] H H2 h h2 ∧ HOk P w H2 h2 ∧ Covr h H2 (frs l) B h2 := by
  have slotted : ∀ b ∈ frs l, ∀ o, hs.get? b = some o → ∃ sl, h2.get? b = some { o with slots := sl } := fun b hb o e => by
    obtain ⟨_, o2, e2, nf⟩ := fr.mem hb
    rw [e] at e2
    cases e2
    exact up b o e nf
  refine ⟨⟨fun b o q n hb hx => ?_, fun b o q n hb hx => ?_, U.free, fun b o q hx => ?_, U.tups, U.frzs, U.tbls⟩, fun a u e => ?_, fun b hb hn => ?_⟩
  · obtain ⟨o2, e1, e2⟩ := cv b (.inl ⟨o, q⟩) hb
    have e3 := U.keep b o q n hb hx
    rw [e1] at e3
    cases e3
    exact st b o e2
  · obtain ⟨sl, e1⟩ := U.slot b o q n hb hx
    obtain ⟨sl2, e2⟩ := slotted b hb _ e1
    exact ⟨sl2, e2⟩
  · by_cases hb : b ∈ frs l
    · obtain ⟨o2, e1⟩ := U.there b o q hx
      obtain ⟨sl, e2⟩ := slotted b hb _ e1
      exact ⟨_, e2⟩
    · obtain ⟨o2, _, e2⟩ := cv b (.inl ⟨o, q⟩) hb
      exact ⟨o2, st b o2 e2⟩
  · refine (ok a u e).stay (fun c v hc q => ?_) (fun _ q => q) fun _ _ q => q
    have tr : ∃ z, H2 c = some z := by
      rcases hc with z | z
      · exact ⟨u, by rw [z]; exact e⟩
      · exact ⟨_, z⟩
    have nf : c ∉ frs l := fun z => by
      obtain ⟨y, hy⟩ := tr
      rw [fre c z] at hy
      cases hy
    obtain ⟨o2, e1, e2⟩ := cv c (.inr tr) nf
    rw [q] at e1
    cases e1
    exact st c v e2
  · obtain ⟨o, _, e2⟩ := cv b hb hn
    exact ⟨o, st b o e2, e2⟩
theorem Inv.freeAfter {X : Cx} {pins : List (Addr × Obj)} {σ : St} {H H2 : Hp} {s : Shared} {h2 : Heap} (I : Inv X pins σ H s) (U : Un (frs X.stack) [] H H2 s.heap h2) : ∀ b ∈ frs X.stack, H2 b = none := fun b hb => by
  obtain ⟨_, o, e, _⟩ := I.stack.mem hb
  exact U.free b o e (I.stkFree b hb) (by simp)
section
variable {P : Program} {w : World} {K : PySem.W.Frag} {mg : Str → Option Value} {base : Heap} {N : List Str} {qual : Str} {scope : Scope} {f : Addr} {cd : Value} {A : Around} {outer : List Env} {s : Shared} {H : Hp} {E E2 : XK}
/-- the frame is left: what a body's state says, the caller has -/
theorem covr_out {pins : List (Addr × Obj)} {σ : St} {H1 H2 : Hp} {s1 s2 : Shared} {B : Heap} (I : Inv (cxOf (CXo P w) P w K mg base N qual scope f cd A outer s H E) pins σ H1 s1)
    (fre : ∀ b ∈ frs (cxOf (CXo P w) P w K mg base N qual scope f cd A outer s H E).stack, H2 b = none) (cv : Covr s1.heap H2 (frs (cxOf (CXo P w) P w K mg base N qual scope f cd A outer s H E).stack) B s2.heap) : Covr s.heap H2 (frs outer) B s2.heap := by
  intro b hb hn
  rcases hb with ⟨o, e⟩ | hu
  · obtain ⟨o2, e2⟩ := I.base.there b o e (fun z => nomatch z)
    refine cv b (.inl ⟨o2, e2⟩) fun z => ?_
    rcases List.mem_cons.mp (I.stkSub b z) with q | q
    · have h1 := I.ok.above
      have h2 := Heap.lt_size e
      rw [q] at h2
      exact absurd (Nat.lt_of_lt_of_le h2 h1) (Nat.lt_irrefl _)
    · exact hn q
  · refine cv b (.inr hu) fun z => ?_
    obtain ⟨u, e⟩ := hu
    rw [fre b z] at e
    cases e
theorem passO (hE : ∀ c a H2, E2 c a H2 → E c a H2) : Passes (CXo P w) (cxOf (CXo P w) P w K mg base N qual scope f cd A outer s H E) E2 := by
  intro pins σ H1 s1 e s2 I hcx
  obtain ⟨ea, C, H2, B, a0, rfl, os, bare, un, hok, fl, cv, q⟩ := hcx
  show wpAny _ _ (leaving _ _) _ _ s2
  refine wpAny_leaves_onW I.ok.frames rfl fl fun h2 fl2 up => ?_
  have fre := I.freeAfter un
  obtain ⟨u2, ok2, cv2⟩ := refly un hok cv fl2.1 up fl.2.2.1 fre
  have I2 := I.call' (s' := { s2 with heap := h2 }) (ch := []) os u2 ok2 bare (fun b z => nomatch z)
  exact ⟨ea, C, H2, B, a0, rfl, I2.os, bare, I2.base, ok2, fl2, covr_out I fre cv2, hE _ _ _ q⟩
/-- what a class of errors of the text must have, to be made and caught -/
structure Exc (K : PySem.W.Frag) (C : Addr) : Prop where
  ex : PySem.W.excIn K C [.type "Exception", .type "BaseException", .type "object"] "Exception.__new__" = true
theorem Exc.parts {K : PySem.W.Frag} {C : Addr} {h : Heap} (T : Exc K C) (kx : K.In h) : ∃ (bm : List Value) (Na : Addr) (nm qn : Str) (bs : List Value) (hd : Bool) (sn : List Str) (sub : List Value) (ab : Bool) (col : Option Bool) (dd : Option Addr) (k0 k1 k2 k3 k5 : Option Value) (mN : Str → Option Value),
    h.get? C = some (excClassObj nm qn C Na bs bm hd sn sub ab col dd k0 k1 k2 k3 k5 "Exception.__new__") ∧ h.Ns Na mN ∧ mN "__init__" = none ∧ OwnTail h [.type "Exception", .type "BaseException", .type "object"] bm := by
  have t := T.ex
  unfold PySem.W.excIn at t
  split at t
  case h_2 => cases t
  case h_1 dd cd sl lk =>
    split at t
    case h_2 => cases t
    case h_1 C2 bm k0 k1 k2 k3 n k5 em es =>
      have t2 := t
      rw [Bool.and_eq_true, Bool.and_eq_true, Bool.and_eq_true, Bool.and_eq_true, Bool.and_eq_true] at t2
      obtain ⟨⟨⟨⟨⟨a1, a2⟩, a3⟩, a4⟩, a5⟩, a6⟩ := t2
      have b1 : C2 = C := beq_iff_eq.mp a1
      have b2 : n = "Exception.__new__" := beq_iff_eq.mp a2
      have b6 := beq_iff_eq.mp a6
      subst b1 b2
      obtain ⟨nm, bs, mro, na, qn, hd, sn, sub, ab, col, del⟩ := cd
      have c1 : mro = .ref C2 :: bm := em
      have c2 : del = false := by cases del with | false => rfl | true => exact absurd a3 (by simp)
      subst c1 c2
      have c3 : sl = #[k0, k1, k2, k3, some (.builtin "Exception.__new__"), k5] := by
        cases sl with
        | mk l => exact congrArg Array.mk es
      subst c3
      exact ⟨bm, na, nm, qn, bs, hd, sn, sub, ab, col, dd, k0, k1, k2, k3, k5, _, kx _ _ lk, .of_isNs (PySem.W.isNs_of_in kx a5), PySem.W.nsMap_none_of_in kx a5 b6, PySem.W.tail_of_in kx a4⟩
/-- raise C() -/
def tRaise (E : XK) (C : Addr) : TS := fun _ _ H => E (.ref C) none H
theorem ps_raise {x : Str} {C : Addr} {np cpos pos : Pos} (T : Exc K C) (hg : Gl (cxOf (CXo P w) P w K mg base N qual scope f cd A outer s H E) x) (hm : mg x = some (.ref C)) (hdb : (x == ("__debug__" : Str)) = false := by decide) :
    PS (cxOf (CXo P w) P w K mg base N qual scope f cd A outer s H E) (.Raise (some (.Call (.Name x np) [] [] cpos)) none pos) (tRaise E C) := by
  intro pins s1 σ H1 D I h
  have hin : ∀ v ∈ (cxOf (CXo P w) P w K mg base N qual scope f cd A outer s H E).stack, ∀ b, v.frame = some b → b ∈ frs (cxOf (CXo P w) P w K mg base N qual scope f cd A outer s H E).stack := fun v hv b hb => List.mem_filterMap.mpr ⟨v, hv, hb⟩
  obtain ⟨bm, Na, nm, qn, bs, hd, sn, sub, ab, col, dd, k0, k1, k2, k3, k5, mN, hC, hN, hni, TL⟩ := T.parts I.kIn
  refine wpAny_Raise_call_subT (C := C) (nm := nm) (q := qn) (N := Na) (bs := bs) (bm := bm) (hdct := hd) (sn := sn) (sub := sub) (ab := ab) (col := col) (dd := dd) (k0 := k0) (k1 := k1) (k2 := k2) (k3 := k3) (k5 := k5) (mN := mN)
    PySem.F.excBase_Exception (TL.hasType PySem.F.excBase_Exception.hasBase) (I.ok.hd rfl) rfl hni (ld_glob I hg hm ⟨rfl, evalArgs_empty ⟨rfl, Nat.zero_le _, hC, hN, TL, fun h2 ea made => ?_⟩⟩ hdb)
  show wpAny _ _ (leaving _ _) _ _ _
  have stB : (PySem.W.hideAll s1.heap (frs (cxOf (CXo P w) P w K mg base N qual scope f cd A outer s H E).stack)).StaysIn s1.heap := fun b o e => PySem.W.of_hideAll _ e
  refine wpAny_leaves_madeW (h := s1.heap) I.ok.frames rfl stB (PySem.W.funFrames_hide I.stack hin) made fun h3 t fl tup tn up => ?_
  have cv0 : Covr s1.heap H1 (frs (cxOf (CXo P w) P w K mg base N qual scope f cd A outer s H E).stack) (PySem.W.hideAll s1.heap (frs (cxOf (CXo P w) P w K mg base N qual scope f cd A outer s H E).stack)) s1.heap := fun b hb hn => by
    have there : ∃ o, s1.heap.get? b = some o := by
      rcases hb with z | ⟨u, e⟩
      · exact z
      · exact (I.hok b u e).has
    obtain ⟨o, e⟩ := there
    exact ⟨o, e, PySem.W.hideAll_get _ e hn⟩
  obtain ⟨u2, ok2, cv2⟩ := refly (Un.refl (fs := frs (cxOf (CXo P w) P w K mg base N qual scope f cd A outer s H E).stack) (ex := []) (H := H1)) I.hok cv0 fl.1 ((Heap.UpToSlots.of_keeps made.keeps).trans up) I.stack I.stkFree
  have I2 := I.call' (s' := { s1 with heap := h3 }) (ch := []) rfl u2 ok2 I.bare (fun b z => nomatch z)
  exact ⟨ea, C, H1, _, _, rfl, I2.os, I.bare, I2.base, ok2, fl, covr_out I I.stkFree cv2, h⟩
/-- a def that may raise, by its body -/
theorem Fun.okX {x qual : Str} {st : Stmt} {f : Addr} {fd : FuncData} {N ps : List Str} {k : Nat} {sp : Sp} (F : Fun K x qual st f fd) (S : FnScope N ps (defScope st)) (len : ∀ vs H Q E, sp vs H Q E → vs.length = ps.length)
    (hbody : ∀ (cdv : Value) (A : Around) (outer : List Env) (s : Shared) (H : Hp) (vs : List V) (Q : VK) (E : XK), Room k (A.deeper (envOfC qual (defScope st) s.heap.objs.size f cdv)) → sp vs H Q E →
      ∃ t, PSs (cxOf (CXo P w) P w K mg base N qual (defScope st) f cdv A outer s H E) (defBody st) t ∧ t { nx := fun _ H2 => Q .non H2, rt := Q } (start N vs) H) : FnOk P w K mg base (CXo P w) (k + 1) f fd ps sp := by
  obtain ⟨oc, od, kV, doc, pm, an, cdv, ct, osl, rfl, lk, hcd⟩ := F.ex
  exact fn_of lk hcd S len fun A outer s H vs Q E hr hsp => hbody cdv A outer s H vs Q E hr hsp
end
/-- what is wanted of an exception that reaches the try -/
def XW (X : Cx) (pn : List (Addr × Obj)) (E : XK) : Value → Shared → Prop := fun e s2 => ∃ (pins : List (Addr × Obj)) (σ : St) (H : Hp) (s : Shared), Inv { X with pn := pn } pins σ H s ∧ CXo X.prog X.w X.stack H s E e s2
abbrev Cx.tried (X : Cx) (pn : List (Addr × Obj)) (E : XK) : Cx := { X with pn := pn, xe := XW X pn E }
abbrev Cx.suite (X : Cx) (e : Value) : Cx := { X with A := X.A.mark (some e), calm := false, xe := fun _ _ => False }
theorem Inv.retag {X Y : Cx} {pins pins2 : List (Addr × Obj)} {σ : St} {H : Hp} {s : Shared} (I : Inv X pins σ H s) (ok : Y.Ok) (e1 : Y.s_0 = X.s_0) (e2 : Y.H_0 = X.H_0) (e3 : Y.env = X.env) (e4 : Y.outer = X.outer) (e5 : Y.ex = X.ex) (e6 : Y.N = X.N) (e7 : Y.prog = X.prog) (e8 : Y.w = X.w)
    (hp : ∀ p ∈ Y.pn ++ pins2, p ∈ X.pn ++ pins) : Inv Y pins2 σ H s := by
  obtain ⟨p, w, K, mg, b, A, N, s0, H0, env, outer, stack, ex, fn, calm, pn, xe⟩ := Y
  dsimp only at e1 e2 e3 e4 e5 e6 e7 e8
  subst e1 e2 e3 e4 e5 e6 e7 e8
  exact ⟨ok, I.os, I.bare, I.base, I.loc, I.cell, I.free, I.freeC, fun p h => I.pin p (hp p h), I.hok, I.len⟩
theorem Cx.Ok.tried {X : Cx} (ok : X.Ok) (pn : List (Addr × Obj)) (E : XK) : (X.tried pn E).Ok :=
  ⟨ok.mod, ok.kind, ok.glob, ok.blt, ok.above, ok.inj, ok.has, ok.cab, ok.hd, ok.frames, ok.stk, ok.exf, ok.bs, ok.bsz, ok.noex, ok.exfs, ok.funs, ok.frf⟩
theorem Cx.Ok.suite {X : Cx} (ok : X.Ok) (e : Value) : (X.suite e).Ok :=
  ⟨ok.mod, ok.kind, ok.glob, ok.blt, ok.above, ok.inj, ok.has, ok.cab, (fun z => by cases z), ok.frames, ok.stk, ok.exf, ok.bs, ok.bsz, ok.noex, ok.exfs, ok.funs, ok.frf⟩
theorem Cx.Ok.untried {X : Cx} {pn : List (Addr × Obj)} {E : XK} (ok : (X.tried pn E).Ok) : ({ X with pn := pn } : Cx).Ok :=
  ⟨ok.mod, ok.kind, ok.glob, ok.blt, ok.above, ok.inj, ok.has, ok.cab, ok.hd, ok.frames, ok.stk, ok.exf, ok.bs, ok.bsz, ok.noex, ok.exfs, ok.funs, ok.frf⟩
theorem passT {X : Cx} {pn : List (Addr × Obj)} {E : XK} : Passes (CXo X.prog X.w) (X.tried pn E) E := fun pins σ H s e s2 I hcx =>
  ⟨pins, σ, H, s, I.retag I.ok.untried rfl rfl rfl rfl rfl rfl rfl rfl (fun _ z => z), hcx⟩
theorem SP.retag {X Y : Cx} {pins pins2 : List (Addr × Obj)} {D : Ends} {fl : Flow} {s : Shared} (h : SP X pins D fl s) (k : ∀ σ H, Inv X pins σ H s → Inv Y pins2 σ H s) : SP Y pins2 D fl s := by
  cases fl with
  | next => obtain ⟨σ, H, I, q⟩ := h; exact ⟨σ, H, k σ H I, q⟩
  | brk => obtain ⟨σ, H, I, q⟩ := h; exact ⟨σ, H, k σ H I, q⟩
  | cont => obtain ⟨σ, H, I, q⟩ := h; exact ⟨σ, H, k σ H I, q⟩
  | ret u => obtain ⟨v, σ, H, I, r, q⟩ := h; exact ⟨v, σ, H, k σ H I, r, q⟩
section
variable {X : Cx} {x1 x2 x3 : Str} {C1 C2 C3 : Addr} {p1 p2 p3 q1 q2 q3 pos : Pos} {b1 b2 b3 : Stmt} {r1 r2 r3 body : List Stmt} {tb : XK → TS} {t1 t2 t3 : TS}
/-- the wish of the three clauses -/
def EC (C1 C2 C3 : Addr) (t1 t2 t3 : TS) (D : Ends) : XK := fun c _ H => (c = .ref C1 ∧ ∀ σ, t1 D σ H) ∨ (c = .ref C2 ∧ ∀ σ, t2 D σ H) ∨ (c = .ref C3 ∧ ∀ σ, t3 D σ H)
/-- one clause: the class test -/
theorem clause {pins : List (Addr × Obj)} {σ : St} {H : Hp} {s : Shared} {B : Heap} {ea C : Addr} {a0 : Value} {x : Str} {Cx1 : Addr} {p q : Pos} {b : Stmt} {r : List Stmt} {rest : List ExceptHandler} {Q : Flow → Shared → Prop} {hit : Bool}
    (I : Inv X pins σ H s) (fl : Heap.FlyingW B X.stack ea (.ref C) a0 s.heap) (hg : Gl X x) (hm : X.mg x = some (.ref Cx1)) (he : PySem.W.exmOne X.K (.ref C) (.ref Cx1) = some hit) (hdb : (x == ("__debug__" : Str)) = false)
    (go : if hit = true then wpAny (model X.prog X.w) (X.A.mark (some (.ref ea))) (setFlight (.ref ea) none) (fun _ s2 => wpAny (model X.prog X.w) (X.A.mark (some (.ref ea))) (execs (b :: r) X.env) Q (fun _ _ => False) s2) (fun _ _ => False) s
      else wpAny (model X.prog X.w) X.A (handleBy (.ref ea) X.env rest) Q X.xe s) :
    wpAny (model X.prog X.w) X.A (handleBy (.ref ea) X.env (.ExceptHandler (some (.Name x p)) none (b :: r) q :: rest)) Q X.xe s := by
  have Is : Inv (X.suite (.ref ea)) pins σ H s := I.retag (I.ok.suite _) rfl rfl rfl rfl rfl rfl rfl rfl (fun _ z => z)
  obtain ⟨ob, hob, hc⟩ := fl.there
  have LT : PySem.W.Looks (model X.prog X.w) s.heap (typeOf (.ref ea)) (.ref C) := by
    rw [← hc]
    exact (PySem.W.Looks.ld hob).andThen .now
  refine wpAny_handleBy_cons (codeAny_handlers_test (ld_glob (X := X.suite (.ref ea)) Is hg hm ((PySem.W.exm_one I.kIn LT he).here ?_) hdb)) (fun z => nomatch z)
  cases hit with
  | false => exact go
  | true =>
    refine codeAny_handlers_suite ?_
    exact wpAny_mono go (fun _ s2 g => wpAny_mono g (fun _ _ z => z) fun _ _ z => z.elim) fun _ _ z => z.elim
theorem ps_try3 (hst : X.stack = X.env :: X.outer) (hfr : X.env.frame = some X.env.locals) (hb : ∀ (E : XK) (pn : List (Addr × Obj)), PSs (X.tried pn E) body (tb E))
    (hg1 : Gl X x1) (hm1 : X.mg x1 = some (.ref C1)) (hg2 : Gl X x2) (hm2 : X.mg x2 = some (.ref C2)) (hg3 : Gl X x3) (hm3 : X.mg x3 = some (.ref C3)) (e11 : PySem.W.exmOne X.K (.ref C1) (.ref C1) = some true) (e21 : PySem.W.exmOne X.K (.ref C2) (.ref C1) = some false) (e22 : PySem.W.exmOne X.K (.ref C2) (.ref C2) = some true) (e31 : PySem.W.exmOne X.K (.ref C3) (.ref C1) = some false) (e32 : PySem.W.exmOne X.K (.ref C3) (.ref C2) = some false) (e33 : PySem.W.exmOne X.K (.ref C3) (.ref C3) = some true)
    (h1 : ∀ e, PSs (X.suite e) (b1 :: r1) t1) (h2 : ∀ e, PSs (X.suite e) (b2 :: r2) t2) (h3 : ∀ e, PSs (X.suite e) (b3 :: r3) t3) (d1 : (x1 == ("__debug__" : Str)) = false := by decide) (d2 : (x2 == ("__debug__" : Str)) = false := by decide) (d3 : (x3 == ("__debug__" : Str)) = false := by decide) :
    PS X (.Try body [.ExceptHandler (some (.Name x1 p1)) none (b1 :: r1) q1, .ExceptHandler (some (.Name x2 p2)) none (b2 :: r2) q2, .ExceptHandler (some (.Name x3 p3)) none (b3 :: r3) q3] [] [] pos) (fun D σ H => tb (EC C1 C2 C3 t1 t2 t3 D) D σ H) := by
  intro pins s σ H D I h
  have It : Inv (X.tried (X.pn ++ pins) (EC C1 C2 C3 t1 t2 t3 D)) [] σ H s := I.retag (I.ok.tried _ _) rfl rfl rfl rfl rfl rfl rfl rfl (fun p z => by simpa using z)
  have back : ∀ {σ2 : St} {H2 : Hp} {s2 : Shared}, Inv (X.tried (X.pn ++ pins) (EC C1 C2 C3 t1 t2 t3 D)) [] σ2 H2 s2 → Inv X pins σ2 H2 s2 := fun J => J.retag I.ok rfl rfl rfl rfl rfl rfl rfl rfl (fun p z => by simpa using z)
  refine wpAny_Try_except (wpAny_mono (hb (EC C1 C2 C3 t1 t2 t3 D) (X.pn ++ pins) [] s σ H D It h) (fun fl s2 q => ?_) fun e s2 q => ?_)
  · have q2 : SP X pins D fl s2 := q.retag fun _ _ J => back J
    cases fl with
    | next => exact wpAny_execs_nil q2
    | brk => exact q2
    | cont => exact q2
    | ret v => exact q2
  · obtain ⟨pins2, σ2, H2, s3, I2, ea, C, H3, B, a0, rfl, os, bare, un, hok, fl, cv, want⟩ := q
    have I3 : Inv X pins σ2 H2 s3 := I2.retag I.ok rfl rfl rfl rfl rfl rfl rfl rfl (fun p z => List.mem_append_left _ z)
    have fre := I3.freeAfter un
    have fl0 : Heap.FlyingW B (X.env :: X.outer) ea (.ref C) a0 s2.heap := by rw [← hst]; exact fl
    have fr0 : X.A.frames = some (X.env :: X.outer) := by rw [I.ok.frames, hst]
    refine wpAny_looks_onW fr0 hfr fl0 fun h4 held up4 => wpAny_landsW held fun h5 fl5 up5 => ?_
    obtain ⟨u5, ok5, cv5⟩ := refly un hok cv fl5.1 (up4.trans up5) fl.2.2.1 fre
    have I5 := I3.call' (s' := { s2 with heap := h5 }) (ch := []) os u5 ok5 bare (fun b z => nomatch z)
    have fl5' : Heap.FlyingW B X.stack ea (.ref C) a0 h5 := by rw [hst]; exact fl5
    -- the clause's suite
    have run : ∀ {b : Stmt} {r : List Stmt} {t : TS}, (∀ e, PSs (X.suite e) (b :: r) t) → (∀ σ, t D σ H3) →
        wpAny (model X.prog X.w) (X.A.mark (some (.ref ea))) (setFlight (.ref ea) none) (fun _ s6 => wpAny (model X.prog X.w) (X.A.mark (some (.ref ea))) (execs (b :: r) X.env) (SP X pins D) (fun _ _ => False) s6) (fun _ _ => False) { s2 with heap := h5 } := fun {b r t} hs ht => by
      refine lands_againW fl5 fun h6 fl6 up6 => ?_
      obtain ⟨u6, ok6, _⟩ := refly un hok cv fl6.1 ((up4.trans up5).trans up6) fl.2.2.1 fre
      have I6 := I3.call' (s' := { s2 with heap := h6 }) (ch := []) os u6 ok6 bare (fun b z => nomatch z)
      have I7 : Inv (X.suite (.ref ea)) pins σ2 H3 { s2 with heap := h6 } := I6.retag (I6.ok.suite _) rfl rfl rfl rfl rfl rfl rfl rfl (fun _ z => z)
      exact wpAny_mono (hs (.ref ea) pins _ σ2 H3 D I7 (ht σ2)) (fun fl7 s7 q7 => q7.retag fun _ _ J => J.retag I.ok rfl rfl rfl rfl rfl rfl rfl rfl (fun _ z => z)) fun _ _ z => z
    rcases want with ⟨ec, ht⟩ | ⟨ec, ht⟩ | ⟨ec, ht⟩
    · cases ec
      exact clause I5 fl5' hg1 hm1 e11 d1 (iteT (run h1 ht))
    · cases ec
      exact clause I5 fl5' hg1 hm1 e21 d1 (iteF (clause I5 fl5' hg2 hm2 e22 d2 (iteT (run h2 ht))))
    · cases ec
      exact clause I5 fl5' hg1 hm1 e31 d1 (iteF (clause I5 fl5' hg2 hm2 e32 d2 (iteF (clause I5 fl5' hg3 hm3 e33 d3 (iteT (run h3 ht))))))
end
end L2
end
section
set_option Elab.async false
set_option linter.all false
set_option maxRecDepth 100000
namespace Zl
open PySem
/-- a zip whose last tuple is out and alive -/
abbrev ZOut (h : Heap) (z TI TO : Addr) (a : Addr) (f : Bool) : Prop := h.get? z = some { cls := .type "zip", dict := none, data := .fields #[rawInt a, .bool f, .bool false, .ref TI, .ref TO], slots := #[] }
section
variable {prog : Program} {w : World} {A : Around} {E : Value → Shared → Prop} {s : Shared}
theorem alive {a : Addr} {o : Obj} {Q : Option Obj → Shared → Prop} (ho : s.heap.get? a = some o) (h : Q (some o) s) : wpAny (model prog w) A (loadIfAlive a) Q E s := by
  have h2 : Q (s.heap.get? a) s := by rw [ho]; exact h
  exact fun _ _ _ => h2
theorem notFree {z TI TO a : Addr} {f : Bool} {o : Obj} {Q : Bool → Shared → Prop} (hz : ZOut s.heap z TI TO a f) (ho : s.heap.get? a = some o) (haz : a ≠ z)
    (h : ∀ h2, ZOut h2 z TI TO a true → Heap.SameBut z s.heap h2 → Q false { s with heap := h2 }) : wpAny (model prog w) A (Builtin.SmallTypes.ownedTupleIsFree (.ref z)) Q E s := by
  unfold Builtin.SmallTypes.ownedTupleIsFree
  refine wpAny_bind (wpAny_field hz rfl (x := rawInt a) rfl ?_)
  show wpAny _ _ (loadIfAlive (Int.toNat (a : Int)) >>= _) _ _ _
  rw [Int.toNat_natCast]
  refine wpAny_bind (alive ho ?_)
  simp only [Option.isNone_some, Bool.false_eq_true, if_false]
  refine wpAny_bind (wpAny_field hz rfl (x := .bool f) rfl ?_)
  cases f with
  | true =>
    rw [if_neg (by decide)]
    exact wpAny_pure (h s.heap hz (.refl ..))
  | false =>
    rw [if_pos (by decide)]
    exact wpAny_bind (wpAny_setField_rec hz (by simp) fun h2 hz2 hs => wpAny_pure (h h2 hz2 hs))
/-- two lists: the next tuple, while the last one is kept by somebody -/
theorem next2 {z TI TO i1 i2 l1 l2 a : Addr} {f : Bool} {k1 k2 : Nat} {xs ys : Array Value} {x y : Value} {oa : Obj} {Q : Value → Shared → Prop} (D : ZipApart z TI TO i1 i2 l1 l2) (hz : ZOut s.heap z TI TO a f) (ho : s.heap.get? a = some oa) (haz : a ≠ z) (hTI : IsPair s.heap TI (.ref i1) (.ref i2))
    (h1 : s.heap.IsListIter i1 l1 k1) (h2 : s.heap.IsListIter i2 l2 k2) (hl1 : s.heap.IsList l1 xs) (hl2 : s.heap.IsList l2 ys) (hx : xs[k1]? = some x) (hy : ys[k2]? = some y)
    (hQ : ∀ h', ZOut h' z TI TO a true → h'.IsListIter i1 l1 (k1 + 1) → h'.IsListIter i2 l2 (k2 + 1) → IsPair h' s.heap.objs.size x y → h'.objs.size = s.heap.objs.size + 1 →
      (∀ c o, c ≠ z → c ≠ i1 → c ≠ i2 → s.heap.get? c = some o → h'.get? c = some o) → Q (.ref s.heap.objs.size) { s with heap := h' }) :
    wpAny (model prog w) A (Builtin.«zip.__next__» ⟨[.ref z], []⟩) (fun fin s' => ∃ v, fin = .done (.ret v) ∧ Q v s') E s := by
  show wpAny _ _ (field (.ref z) 2 >>= _) _ _ _
  refine wpAny_bind (wpAny_field hz rfl (x := .bool false) rfl ?_)
  show wpAny _ _ (field (.ref z) 3 >>= _) _ _ _
  refine wpAny_bind (wpAny_field hz rfl (x := .ref TI) rfl ?_)
  refine wpAny_bind (wpAny_seqItems hTI rfl ?_)
  show wpAny _ _ (Builtin.SmallTypes.ownedTupleIsFree (.ref z) >>= _) _ _ _
  refine wpAny_bind (notFree hz ho haz fun ha hza hsa => ?_)
  simp only [Bool.false_eq_true, if_false]
  refine wpAny_bind ?_
  rw [show (#[Value.ref i1, Value.ref i2] : Array Value) = [Value.ref i1, Value.ref i2].toArray from rfl, List.forIn_toArray]
  simp only [List.forIn_cons, List.forIn_nil]
  refine wpAny_bind (wpAny_bind (wpAny_holding ?_))
  show wpAny _ _ (Builtin.SmallTypes.nextOf (.ref i1) >>= _) _ _ _
  refine wpAny_bind (wpAny_nextOf_list_item (h1.extBut hsa.extBut D.i1z) (hl1.extBut hsa.extBut D.l1z) hx fun hb h1b hsb => wpAny_pure (wpAny_pure ?_))
  refine wpAny_bind (wpAny_bind (wpAny_holding ?_))
  show wpAny _ _ (Builtin.SmallTypes.nextOf (.ref i2) >>= _) _ _ _
  refine wpAny_bind (wpAny_nextOf_list_item ((h2.extBut hsa.extBut D.i2z).extBut hsb.extBut D.i12.symm) ((hl2.extBut hsa.extBut D.l2z).extBut hsb.extBut D.l2i1) hy fun hc h2c hsc => wpAny_pure (wpAny_pure (wpAny_pure ?_)))
  show wpAny _ _ (newTuple [x, y] >>= _) _ _ _
  refine wpAny_bind (wpAny_newTuple (wpAny_pure ⟨_, rfl, ?_⟩))
  have sz : hc.objs.size = s.heap.objs.size := by rw [hsc.1, hsb.1, hsa.1]
  have kp : ∀ c o, c ≠ z → c ≠ i1 → c ≠ i2 → s.heap.get? c = some o → hc.get? c = some o := fun c o c1 c2 c3 e => hsc.extBut _ _ c3 (hsb.extBut _ _ c2 (hsa.extBut _ _ c1 e))
  have hz3 : ZOut hc z TI TO a true := hsc.extBut _ _ D.i2z.symm (hsb.extBut _ _ D.i1z.symm hza)
  show Q (.ref hc.objs.size) _
  rw [sz]
  refine hQ _ (Heap.get?_push_of_some _ hz3) ((h1b.extBut hsc.extBut D.i12).at fun o e => Heap.get?_push_of_some _ e) (h2c.at fun o e => Heap.get?_push_of_some _ e) ?_ (by rw [Heap.size_push, sz]) fun c o c1 c2 c3 e => Heap.get?_push_of_some _ (kp c o c1 c2 c3 e)
  rw [← sz]
  exact Heap.get?_push_size _ rfl
/-- two lists: the end, at the first list's end -/
theorem end2 {z TI TO i1 i2 l1 a : Addr} {f : Bool} {k1 : Nat} {xs : Array Value} {oa : Obj} {Q : Fin → Shared → Prop} (hh : A.handled = none) (hz : ZOut s.heap z TI TO a f) (ho : s.heap.get? a = some oa) (haz : a ≠ z) (hTI : IsPair s.heap TI (.ref i1) (.ref i2)) (hi : i1 ≠ z) (hl : l1 ≠ z)
    (h1 : s.heap.IsListIter i1 l1 k1) (hl1 : s.heap.IsList l1 xs) (hx : xs[k1]? = none)
    (hE : ∀ h' e, (∀ c o, c ≠ z → c ≠ i1 → s.heap.get? c = some o → h'.get? c = some o) → (∃ o, h'.get? e = some o ∧ o.cls = .type "StopIteration") → E (.ref e) { s with heap := h' }) :
    wpAny (model prog w) A (Builtin.«zip.__next__» ⟨[.ref z], []⟩) Q E s := by
  show wpAny _ _ (field (.ref z) 2 >>= _) _ _ _
  refine wpAny_bind (wpAny_field hz rfl (x := .bool false) rfl ?_)
  show wpAny _ _ (field (.ref z) 3 >>= _) _ _ _
  refine wpAny_bind (wpAny_field hz rfl (x := .ref TI) rfl ?_)
  refine wpAny_bind (wpAny_seqItems hTI rfl ?_)
  show wpAny _ _ (Builtin.SmallTypes.ownedTupleIsFree (.ref z) >>= _) _ _ _
  refine wpAny_bind (notFree hz ho haz fun ha hza hsa => ?_)
  simp only [Bool.false_eq_true, if_false]
  refine wpAny_bind ?_
  rw [show (#[Value.ref i1, Value.ref i2] : Array Value) = [Value.ref i1, Value.ref i2].toArray from rfl, List.forIn_toArray]
  simp only [List.forIn_cons, List.forIn_nil]
  refine wpAny_bind (wpAny_bind (wpAny_holding ?_))
  show wpAny _ _ (Builtin.SmallTypes.nextOf (.ref i1) >>= _) _ _ _
  refine wpAny_bind (wpAny_nextOf_list_end hh (h1.extBut hsa.extBut hi) (hl1.extBut hsa.extBut hl) hx fun hb e hsb he => ?_)
  exact hE hb e (fun c o c1 c2 q => hsb _ _ c2 (hsa.extBut _ _ c1 q)) he
abbrev Trip (h : Heap) (T : Addr) (a b c : Value) : Prop := h.get? T = some { cls := .type "tuple", data := .seq #[a, b, c] }
/-- three lists: the next tuple, while the last one is kept by somebody -/
theorem next3 {z TI TO i1 i2 i3 l1 l2 l3 a : Addr} {f : Bool} {k : Nat} {xs ys zs : Array Value} {x y v : Value} {oa : Obj} {Q : Value → Shared → Prop} (hz : ZOut s.heap z TI TO a f) (ho : s.heap.get? a = some oa) (haz : a ≠ z) (hTI : Trip s.heap TI (.ref i1) (.ref i2) (.ref i3))
    (d1 : i1 ≠ z) (d2 : i2 ≠ z) (d3 : i3 ≠ z) (d4 : i1 ≠ i2) (d5 : i1 ≠ i3) (d6 : i2 ≠ i3) (m1 : l1 ≠ z) (m2 : l2 ≠ z) (m3 : l3 ≠ z) (n21 : l2 ≠ i1) (n31 : l3 ≠ i1) (n32 : l3 ≠ i2)
    (h1 : s.heap.IsListIter i1 l1 k) (h2 : s.heap.IsListIter i2 l2 k) (h3 : s.heap.IsListIter i3 l3 k) (hl1 : s.heap.IsList l1 xs) (hl2 : s.heap.IsList l2 ys) (hl3 : s.heap.IsList l3 zs) (hx : xs[k]? = some x) (hy : ys[k]? = some y) (hv : zs[k]? = some v)
    (hQ : ∀ h', ZOut h' z TI TO a true → h'.IsListIter i1 l1 (k + 1) → h'.IsListIter i2 l2 (k + 1) → h'.IsListIter i3 l3 (k + 1) → Trip h' s.heap.objs.size x y v → h'.objs.size = s.heap.objs.size + 1 →
      (∀ c o, c ≠ z → c ≠ i1 → c ≠ i2 → c ≠ i3 → s.heap.get? c = some o → h'.get? c = some o) → Q (.ref s.heap.objs.size) { s with heap := h' }) :
    wpAny (model prog w) A (Builtin.«zip.__next__» ⟨[.ref z], []⟩) (fun fin s' => ∃ v, fin = .done (.ret v) ∧ Q v s') E s := by
  show wpAny _ _ (field (.ref z) 2 >>= _) _ _ _
  refine wpAny_bind (wpAny_field hz rfl (x := .bool false) rfl ?_)
  show wpAny _ _ (field (.ref z) 3 >>= _) _ _ _
  refine wpAny_bind (wpAny_field hz rfl (x := .ref TI) rfl ?_)
  refine wpAny_bind (wpAny_seqItems hTI rfl ?_)
  show wpAny _ _ (Builtin.SmallTypes.ownedTupleIsFree (.ref z) >>= _) _ _ _
  refine wpAny_bind (notFree hz ho haz fun ha hza hsa => ?_)
  simp only [Bool.false_eq_true, if_false]
  refine wpAny_bind ?_
  rw [show (#[Value.ref i1, Value.ref i2, Value.ref i3] : Array Value) = [Value.ref i1, Value.ref i2, Value.ref i3].toArray from rfl, List.forIn_toArray]
  simp only [List.forIn_cons, List.forIn_nil]
  refine wpAny_bind (wpAny_bind (wpAny_holding ?_))
  show wpAny _ _ (Builtin.SmallTypes.nextOf (.ref i1) >>= _) _ _ _
  refine wpAny_bind (wpAny_nextOf_list_item (h1.extBut hsa.extBut d1) (hl1.extBut hsa.extBut m1) hx fun hb h1b hsb => wpAny_pure (wpAny_pure ?_))
  refine wpAny_bind (wpAny_bind (wpAny_holding ?_))
  show wpAny _ _ (Builtin.SmallTypes.nextOf (.ref i2) >>= _) _ _ _
  refine wpAny_bind (wpAny_nextOf_list_item ((h2.extBut hsa.extBut d2).extBut hsb.extBut d4.symm) ((hl2.extBut hsa.extBut m2).extBut hsb.extBut n21) hy fun hc h2c hsc => wpAny_pure (wpAny_pure ?_))
  refine wpAny_bind (wpAny_bind (wpAny_holding ?_))
  show wpAny _ _ (Builtin.SmallTypes.nextOf (.ref i3) >>= _) _ _ _
  refine wpAny_bind (wpAny_nextOf_list_item (((h3.extBut hsa.extBut d3).extBut hsb.extBut d5.symm).extBut hsc.extBut d6.symm) (((hl3.extBut hsa.extBut m3).extBut hsb.extBut n31).extBut hsc.extBut n32) hv fun hd h3d hsd => wpAny_pure (wpAny_pure (wpAny_pure ?_)))
  show wpAny _ _ (newTuple [x, y, v] >>= _) _ _ _
  refine wpAny_bind (wpAny_newTuple (wpAny_pure ⟨_, rfl, ?_⟩))
  have sz : hd.objs.size = s.heap.objs.size := by rw [hsd.1, hsc.1, hsb.1, hsa.1]
  have kp : ∀ c o, c ≠ z → c ≠ i1 → c ≠ i2 → c ≠ i3 → s.heap.get? c = some o → hd.get? c = some o := fun c o c1 c2 c3 c4 e => hsd.extBut _ _ c4 (hsc.extBut _ _ c3 (hsb.extBut _ _ c2 (hsa.extBut _ _ c1 e)))
  have hz3 : ZOut hd z TI TO a true := hsd.extBut _ _ d3.symm (hsc.extBut _ _ d2.symm (hsb.extBut _ _ d1.symm hza))
  show Q (.ref hd.objs.size) _
  rw [sz]
  refine hQ _ (Heap.get?_push_of_some _ hz3) (((h1b.extBut hsc.extBut d4).extBut hsd.extBut d5).at fun o e => Heap.get?_push_of_some _ e) ((h2c.extBut hsd.extBut d6).at fun o e => Heap.get?_push_of_some _ e) (h3d.at fun o e => Heap.get?_push_of_some _ e) ?_
    (by rw [Heap.size_push, sz]) fun c o c1 c2 c3 c4 e => Heap.get?_push_of_some _ (kp c o c1 c2 c3 c4 e)
  rw [← sz]
  exact Heap.get?_push_size _ rfl
theorem end3 {z TI TO i1 i2 i3 l1 a : Addr} {f : Bool} {k1 : Nat} {xs : Array Value} {oa : Obj} {Q : Fin → Shared → Prop} (hh : A.handled = none) (hz : ZOut s.heap z TI TO a f) (ho : s.heap.get? a = some oa) (haz : a ≠ z) (hTI : Trip s.heap TI (.ref i1) (.ref i2) (.ref i3)) (hi : i1 ≠ z) (hl : l1 ≠ z)
    (h1 : s.heap.IsListIter i1 l1 k1) (hl1 : s.heap.IsList l1 xs) (hx : xs[k1]? = none)
    (hE : ∀ h' e, (∀ c o, c ≠ z → c ≠ i1 → s.heap.get? c = some o → h'.get? c = some o) → (∃ o, h'.get? e = some o ∧ o.cls = .type "StopIteration") → E (.ref e) { s with heap := h' }) :
    wpAny (model prog w) A (Builtin.«zip.__next__» ⟨[.ref z], []⟩) Q E s := by
  show wpAny _ _ (field (.ref z) 2 >>= _) _ _ _
  refine wpAny_bind (wpAny_field hz rfl (x := .bool false) rfl ?_)
  show wpAny _ _ (field (.ref z) 3 >>= _) _ _ _
  refine wpAny_bind (wpAny_field hz rfl (x := .ref TI) rfl ?_)
  refine wpAny_bind (wpAny_seqItems hTI rfl ?_)
  show wpAny _ _ (Builtin.SmallTypes.ownedTupleIsFree (.ref z) >>= _) _ _ _
  refine wpAny_bind (notFree hz ho haz fun ha hza hsa => ?_)
  simp only [Bool.false_eq_true, if_false]
  refine wpAny_bind ?_
  rw [show (#[Value.ref i1, Value.ref i2, Value.ref i3] : Array Value) = [Value.ref i1, Value.ref i2, Value.ref i3].toArray from rfl, List.forIn_toArray]
  simp only [List.forIn_cons, List.forIn_nil]
  refine wpAny_bind (wpAny_bind (wpAny_holding ?_))
  show wpAny _ _ (Builtin.SmallTypes.nextOf (.ref i1) >>= _) _ _ _
  refine wpAny_bind (wpAny_nextOf_list_end hh (h1.extBut hsa.extBut hi) (hl1.extBut hsa.extBut hl) hx fun hb e hsb he => ?_)
  exact hE hb e (fun c o c1 c2 q => hsb _ _ c2 (hsa.extBut _ _ c1 q)) he
theorem upd3 {T : Addr} {a b c x : Value} {k : Nat} {Q : Unit → Shared → Prop} (hT : Trip s.heap T a b c)
    (h : ∀ h', h'.get? T = some { cls := .type "tuple", data := .seq ((#[a, b, c] : Array Value).setIfInBounds k x) } → Heap.SameBut T s.heap h' → Q () { s with heap := h' }) :
    wpAny (model prog w) A (updateSeq T (·.setIfInBounds k x)) Q E s := by
  refine wpAny_updateSeq hT rfl (h _ ?_ (Heap.SameBut.update ..))
  rw [Heap.get?_update_self _ hT rfl]
  simp [Obj.mapSeq]
/-- three lists: the first tuple -/
theorem first3 {z TI TO i1 i2 i3 l1 l2 l3 : Addr} {k : Nat} {xs ys zs : Array Value} {x y v u1 u2 u3 : Value} {Q : Value → Shared → Prop} (hz : IsZip s.heap z TI TO .none) (hTI : Trip s.heap TI (.ref i1) (.ref i2) (.ref i3)) (hTO : Trip s.heap TO u1 u2 u3)
    (d1 : i1 ≠ z) (d2 : i2 ≠ z) (d3 : i3 ≠ z) (d4 : i1 ≠ i2) (d5 : i1 ≠ i3) (d6 : i2 ≠ i3) (d7 : TO ≠ z) (d8 : TO ≠ i1) (d9 : TO ≠ i2) (d10 : TO ≠ i3) (m1 : l1 ≠ z) (m2 : l2 ≠ z) (m3 : l3 ≠ z) (n21 : l2 ≠ i1) (n31 : l3 ≠ i1) (n32 : l3 ≠ i2) (q2 : l2 ≠ TO) (q3 : l3 ≠ TO)
    (h1 : s.heap.IsListIter i1 l1 k) (h2 : s.heap.IsListIter i2 l2 k) (h3 : s.heap.IsListIter i3 l3 k) (hl1 : s.heap.IsList l1 xs) (hl2 : s.heap.IsList l2 ys) (hl3 : s.heap.IsList l3 zs) (hx : xs[k]? = some x) (hy : ys[k]? = some y) (hv : zs[k]? = some v)
    (hQ : ∀ h', IsZip h' z TI TO (rawInt s.heap.objs.size) → h'.IsListIter i1 l1 (k + 1) → h'.IsListIter i2 l2 (k + 1) → h'.IsListIter i3 l3 (k + 1) → Trip h' s.heap.objs.size x y v → h'.objs.size = s.heap.objs.size + 1 →
      (∀ c o, c ≠ z → c ≠ TO → c ≠ i1 → c ≠ i2 → c ≠ i3 → s.heap.get? c = some o → h'.get? c = some o) → Q (.ref s.heap.objs.size) { s with heap := h' }) :
    wpAny (model prog w) A (Builtin.«zip.__next__» ⟨[.ref z], []⟩) (fun fin s' => ∃ v, fin = .done (.ret v) ∧ Q v s') E s := by
  show wpAny _ _ (field (.ref z) 2 >>= _) _ _ _
  refine wpAny_bind (wpAny_field hz rfl (x := .bool false) rfl ?_)
  show wpAny _ _ (field (.ref z) 3 >>= _) _ _ _
  refine wpAny_bind (wpAny_field hz rfl (x := .ref TI) rfl ?_)
  refine wpAny_bind (wpAny_seqItems hTI rfl ?_)
  show wpAny _ _ (Builtin.SmallTypes.ownedTupleIsFree (.ref z) >>= _) _ _ _
  refine wpAny_bind ?_
  unfold Builtin.SmallTypes.ownedTupleIsFree
  refine wpAny_bind (wpAny_field hz rfl (x := .none) rfl (wpAny_pure ?_))
  simp only [if_true]
  refine wpAny_bind (wpAny_rule ?_)
  refine wpAny_bind (wpAny_field hz rfl (x := .ref TO) rfl ?_)
  refine wpAny_bind (wpAny_setField_rec hz (by simp) fun ha hza hsa => ?_)
  replace hza : IsZip ha z TI TO .ellipsis := hza
  refine wpAny_bind ?_
  simp only [List.zipIdx_cons, List.zipIdx_nil, List.forIn_cons, List.forIn_nil]
  -- the first list
  refine wpAny_bind (wpAny_bind (wpAny_onRaise ?_))
  show wpAny _ _ (Builtin.SmallTypes.nextOf (.ref i1) >>= _) _ _ _
  refine wpAny_bind (wpAny_nextOf_list_item (h1.extBut hsa.extBut d1) (hl1.extBut hsa.extBut m1) hx fun hb h1b hsb => wpAny_pure ?_)
  have to1 : Trip hb TO u1 u2 u3 := hsb.extBut _ _ d8 (hsa.extBut _ _ d7 hTO)
  refine wpAny_bind (wpAny_seqItems to1 rfl (wpAny_bind (upd3 to1 fun hc to2 hsc => wpAny_bind (wpAny_letGo (wpAny_pure ?_)))))
  replace to2 : Trip hc TO x u2 u3 := to2
  -- the second list
  refine wpAny_bind (wpAny_bind (wpAny_onRaise ?_))
  show wpAny _ _ (Builtin.SmallTypes.nextOf (.ref i2) >>= _) _ _ _
  refine wpAny_bind (wpAny_nextOf_list_item (((h2.extBut hsa.extBut d2).extBut hsb.extBut d4.symm).extBut hsc.extBut d9.symm) (((hl2.extBut hsa.extBut m2).extBut hsb.extBut n21).extBut hsc.extBut q2) hy fun hd h2d hsd => wpAny_pure ?_)
  have to3 : Trip hd TO x u2 u3 := hsd.extBut _ _ d9 to2
  refine wpAny_bind (wpAny_seqItems to3 rfl (wpAny_bind (upd3 to3 fun he to4 hse => wpAny_bind (wpAny_letGo (wpAny_pure ?_)))))
  replace to4 : Trip he TO x y u3 := to4
  -- the third list
  refine wpAny_bind (wpAny_bind (wpAny_onRaise ?_))
  show wpAny _ _ (Builtin.SmallTypes.nextOf (.ref i3) >>= _) _ _ _
  refine wpAny_bind (wpAny_nextOf_list_item (((((h3.extBut hsa.extBut d3).extBut hsb.extBut d5.symm).extBut hsc.extBut d10.symm).extBut hsd.extBut d6.symm).extBut hse.extBut d10.symm)
    (((((hl3.extBut hsa.extBut m3).extBut hsb.extBut n31).extBut hsc.extBut q3).extBut hsd.extBut n32).extBut hse.extBut q3) hv fun hf h3f hsf => wpAny_pure ?_)
  have to5 : Trip hf TO x y u3 := hsf.extBut _ _ d10 to4
  refine wpAny_bind (wpAny_seqItems to5 rfl (wpAny_bind (upd3 to5 fun hg to6 hsg => wpAny_bind (wpAny_letGo (wpAny_pure (wpAny_pure ?_))))))
  replace to6 : Trip hg TO x y v := to6
  -- the tuple
  refine wpAny_bind (wpAny_seqItems to6 rfl (wpAny_bind (wpAny_newTuple ?_)))
  have sz : hg.objs.size = s.heap.objs.size := by rw [hsg.1, hsf.1, hse.1, hsd.1, hsc.1, hsb.1, hsa.1]
  have kp : ∀ c o, c ≠ z → c ≠ TO → c ≠ i1 → c ≠ i2 → c ≠ i3 → s.heap.get? c = some o → hg.get? c = some o := fun c o c1 c2 c3 c4 c5 e =>
    hsg.extBut _ _ c2 (hsf.extBut _ _ c5 (hse.extBut _ _ c2 (hsd.extBut _ _ c4 (hsc.extBut _ _ c2 (hsb.extBut _ _ c3 (hsa.extBut _ _ c1 e))))))
  have zg : IsZip hg z TI TO .ellipsis := hsg.extBut _ _ d7.symm (hsf.extBut _ _ d3.symm (hse.extBut _ _ d7.symm (hsd.extBut _ _ d2.symm (hsc.extBut _ _ d7.symm (hsb.extBut _ _ d1.symm hza)))))
  have g1 : hg.IsListIter i1 l1 (k + 1) := ((((h1b.extBut hsc.extBut d8.symm).extBut hsd.extBut d4).extBut hse.extBut d8.symm).extBut hsf.extBut d5).extBut hsg.extBut d8.symm
  have g2 : hg.IsListIter i2 l2 (k + 1) := ((h2d.extBut hse.extBut d9.symm).extBut hsf.extBut d6).extBut hsg.extBut d9.symm
  have g3 : hg.IsListIter i3 l3 (k + 1) := h3f.extBut hsg.extBut d10.symm
  have zlt : z < hg.objs.size := Heap.lt_size zg
  show wpAny _ _ (Builtin.SmallTypes.ownedTupleHandOut (.ref z) (.ref hg.objs.size) >>= _) _ _ _
  refine wpAny_bind ?_
  unfold Builtin.SmallTypes.ownedTupleHandOut
  have zp : IsZip (hg.push { cls := .type "tuple", data := .seq #[x, y, v] }) z TI TO .ellipsis := Heap.get?_push_of_some _ zg
  refine wpAny_bind (wpAny_setField_rec zp (by simp) fun hp zq hsp => ?_)
  replace zq : IsZip hp z TI TO (rawInt hg.objs.size) := zq
  refine wpAny_setField_rec zq (by simp) fun hr zr hsr => ?_
  replace zr : IsZip hr z TI TO (rawInt hg.objs.size) := zr
  have up : ∀ c o, c ≠ z → hg.get? c = some o → hr.get? c = some o := fun c o c1 e => hsr.extBut _ _ c1 (hsp.extBut _ _ c1 (Heap.get?_push_of_some _ e))
  have tt : Trip hr hg.objs.size x y v := hsr.extBut _ _ (Nat.ne_of_gt zlt) (hsp.extBut _ _ (Nat.ne_of_gt zlt) (Heap.get?_push_size _ rfl))
  have sr : hr.objs.size = hg.objs.size + 1 := by rw [hsr.1, hsp.1, Heap.size_push]
  rw [sz] at zr tt sr
  refine wpAny_pure ⟨_, rfl, ?_⟩
  show Q (.ref hg.objs.size) _
  rw [sz]
  exact hQ hr zr (g1.at fun o e => up _ o d1 e) (g2.at fun o e => up _ o d2 e) (g3.at fun o e => up _ o d3 e) tt sr fun c o c1 c2 c3 c4 c5 e => up c o c1 (kp c o c1 c2 c3 c4 c5 e)
end
end Zl
end
section
set_option Elab.async false
set_option linter.all false
set_option maxRecDepth 100000
namespace Zl
open PySem
/-- an iterator z that hands out n new tuples, T of the turn; S (the list that is filled) aside -/
structure Walk (prog : Program) (w : World) (A : Around) (z S : Addr) (fp : List Addr) (n : Nat) (T : Nat → Obj) (St : Nat → Heap → Prop) : Prop where
  keep : ∀ i h h', St i h → (∀ b o, b ≠ S → h.get? b = some o → h'.get? b = some o) → St i h'
  ty : ∀ i h, St i h → ∃ o, h.get? z = some o ∧ o.cls = .type "zip"
  item : ∀ (i : Nat) (s : Shared) (Q : Option Value → Shared → Prop) (E : Value → Shared → Prop), i < n → S < s.heap.objs.size → St i s.heap →
    (∀ h', St (i + 1) h' → h'.get? s.heap.objs.size = some (T i) → (∀ c o, c ∉ fp → s.heap.get? c = some o → h'.get? c = some o) → Q (some (.ref s.heap.objs.size)) { s with heap := h' }) → wpAny (model prog w) A (pyNext (.ref z)) Q E s
  done : ∀ (s : Shared) (Q : Option Value → Shared → Prop) (E : Value → Shared → Prop), St n s.heap → (∀ h', (∀ c o, c ∉ fp → s.heap.get? c = some o → h'.get? c = some o) → Q none { s with heap := h' }) → wpAny (model prog w) A (pyNext (.ref z)) Q E s
  self : ∀ (A' : Around) (s : Shared) (Q : Value → Shared → Prop) (E : Value → Shared → Prop), St 0 s.heap → Q (.ref z) s → wpAny (model prog w) A' (pyIter (.ref z)) Q E s
/-- the tuples so far -/
structure Got (M : Nat) (T : Nat → Obj) (h : Heap) (ts : List Addr) : Prop where
  rise : ts.Pairwise fun a b => a < b
  above : ∀ t ∈ ts, M ≤ t
  at_ : ∀ (j : Nat) (t : Addr), ts[j]? = some t → h.get? t = some (T j)
theorem no_len : typeLookup (.type "zip") "__len__" = pure none := by rw [typeLookup_type, builtinLookup_eq_fast]; kernel_rfl
theorem no_hint : typeLookup (.type "zip") "__length_hint__" = pure none := by rw [typeLookup_type, builtinLookup_eq_fast]; kernel_rfl
section
variable {prog : Program} {w : World} {A : Around} {R : Result → Shared → Prop} {z S : Addr} {fp : List Addr} {n M : Nat} {T : Nat → Obj} {St : Nat → Heap → Prop}
theorem fill (W : Walk prog w A.in1 z S fp n T St) (hn : n ≤ sizeLine) (hSf : S ∉ fp) (hfM : ∀ b ∈ fp, b < M) (hSM : S < M) (res : Value) {s0 : Shared}
    (hR : ∀ h' c ts, (∀ b o, b ≠ S → b ∉ fp → s0.heap.get? b = some o → h'.get? b = some o) → h'.get? S = some { cls := .type "list", dict := none, data := .seq (ts.map Value.ref).toArray c, slots := #[] } → ts.length = n → Got M T h' ts → R (.ok (.ret res)) { s0 with heap := h' }) :
    ∀ (k i : Nat) (h : Heap) (c : Nat) (ts : List Addr), n - i = k → i ≤ n → St i h → M ≤ h.objs.size → (∀ b o, b ≠ S → b ∉ fp → s0.heap.get? b = some o → h.get? b = some o) →
      h.get? S = some { cls := .type "list", dict := none, data := .seq (ts.map Value.ref).toArray c, slots := #[] } → ts.length = i → Got M T h ts →
      codeAny (model prog w) A (.builtin "list.extend.loop" ⟨[.ref S, .ref z, res], []⟩) R { s0 with heap := h } := by
  intro k
  induction k with
  | zero =>
    intro i h c ts hk hi st hM kp hS hl G
    have ei : i = n := by omega
    subst ei
    refine codeAny_builtin F.entry_extend_loop ?_
    rw [Around.under_plainId F.plain_extend_loop _]
    show wpAny _ A.in1 (pyNext (.ref z) >>= _) _ _ _
    refine wpAny_bind (W.done { s0 with heap := h } _ _ st fun h' kp2 => wpAny_pure ?_)
    refine hR h' c ts (fun b o b1 b2 e => kp2 b o b2 (kp b o b1 b2 e)) (kp2 S _ hSf hS) hl ⟨G.rise, G.above, fun j t hj => ?_⟩
    exact kp2 t _ (fun z => absurd (Nat.lt_of_lt_of_le (hfM t z) (G.above t (List.mem_of_getElem? hj))) (Nat.lt_irrefl _)) (G.at_ j t hj)
  | succ k ih =>
    intro i h c ts hk hi st hM kp hS hl G
    have hlt : i < n := by omega
    refine codeAny_builtin F.entry_extend_loop ?_
    rw [Around.under_plainId F.plain_extend_loop _]
    show wpAny _ A.in1 (pyNext (.ref z) >>= _) _ _ _
    refine wpAny_bind (W.item i { s0 with heap := h } _ _ hlt (Heap.lt_size hS) st fun h' st2 ht kp2 => ?_)
    have hS2 := kp2 S _ hSf hS
    have up : ∀ b o, b ≠ S → h'.get? b = some o → (h'.update S (Obj.mapSeq (·.push (Value.ref h.objs.size)))).get? b = some o := fun b o hb e => (Heap.get?_update_other _ _ (Ne.symm hb)).trans e
    have hSl : S < h.objs.size := Heap.lt_size hS
    show wpAny _ A.in1 (updateSeq S (·.push (Value.ref h.objs.size)) >>= _) _ _ _
    have hS3 : (h'.update S (Obj.mapSeq (·.push (Value.ref h.objs.size)))).get? S = _ := Heap.get?_update_self _ hS2 rfl
    have epush : ((ts.map Value.ref).toArray.push (Value.ref h.objs.size)) = ((ts ++ [h.objs.size]).map Value.ref).toArray := by simp
    obtain ⟨c2, hS4⟩ : ∃ c2, (h'.update S (Obj.mapSeq (·.push (Value.ref h.objs.size)))).get? S = some { cls := .type "list", dict := none, data := .seq ((ts ++ [h.objs.size]).map Value.ref).toArray c2, slots := #[] } := by
      rw [← epush]
      exact ⟨_, hS3⟩
    have htl : h.objs.size < h'.objs.size := Heap.lt_size ht
    have hT3 := up _ _ (Nat.ne_of_gt hSl) ht
    refine wpAny_bind (wpAny_updateSeq hS2 rfl (wpAny_pure ⟨plainId_quiet F.plain_extend_loop _, ih (i + 1) _ c2 (ts ++ [h.objs.size]) (by omega) hlt (W.keep _ _ _ st2 fun b o hb e => up b o hb e)
      (Nat.le_trans hM (Nat.le_of_lt (Heap.lt_size hT3))) (fun b o b1 b2 e => up b o b1 (kp2 b o b2 (kp b o b1 b2 e))) hS4 (by rw [List.length_append, hl]; rfl) ⟨?_, ?_, ?_⟩⟩) ?_ ?_)
    · refine List.pairwise_append.mpr ⟨G.rise, List.pairwise_singleton _ _, fun a ha b hb => ?_⟩
      rw [List.mem_singleton.mp hb]
      obtain ⟨j, hj⟩ := List.mem_iff_getElem?.mp ha
      exact Heap.lt_size (G.at_ j a hj)
    · intro t ht2
      rcases List.mem_append.mp ht2 with q | q
      · exact G.above t q
      · rw [List.mem_singleton.mp q]
        exact hM
    · intro j t hj
      by_cases hjl : j < ts.length
      · rw [List.getElem?_append_left hjl] at hj
        have ab := G.above t (List.mem_of_getElem? hj)
        exact up t _ (Nat.ne_of_gt (Nat.lt_of_lt_of_le hSM ab)) (kp2 t _ (fun q => absurd (Nat.lt_of_lt_of_le (hfM t q) ab) (Nat.lt_irrefl _)) (G.at_ j t hj))
      · rw [List.getElem?_append_right (by omega)] at hj
        have ej : j = ts.length := by
          have := (List.getElem?_eq_some_iff.mp hj).1
          simp at this
          omega
        subst ej
        have et : h.objs.size = t := by simpa using hj
        subst et
        rw [hl]
        exact hT3
    all_goals first
      | (simp only [List.size_toArray, List.length_map, hl]; omega)
      | (simp only [Array.size_push, List.size_toArray, List.length_map, hl]; omega)
theorem extend (W : Walk prog w A.in1 z S fp n T St) (hn : n ≤ sizeLine) (hSf : S ∉ fp) (hz : z ∈ fp) (res : Value) {s : Shared} (c0 : Nat) (st : St 0 s.heap) (hfM : ∀ b ∈ fp, b < s.heap.objs.size)
    (hS : s.heap.get? S = some { cls := .type "list", data := .seq #[] c0 })
    (hR : ∀ h' c ts, (∀ b o, b ≠ S → b ∉ fp → s.heap.get? b = some o → h'.get? b = some o) → h'.get? S = some { cls := .type "list", dict := none, data := .seq (ts.map Value.ref).toArray c, slots := #[] } → ts.length = n → Got s.heap.objs.size T h' ts → R (.ok (.ret res)) { s with heap := h' }) :
    wpAny (model prog w) A.in1 (Builtin.List.listExtendWith (.ref S) (.ref z) res)
      (fun fin s' => match fin with | .done f => R (.ok f) s' | .again c' => c'.quiet = true ∧ codeAny (model prog w) A c' R s') (fun e s' => R (.error e) s') s := by
  have hSz : S ≠ z := fun e => hSf (e ▸ hz)
  have hSl : S < s.heap.objs.size := Heap.lt_size hS
  obtain ⟨oz, hoz, hcz⟩ := W.ty 0 _ st
  have ty : s.TypeIs (.ref z) "zip" := ⟨oz, hoz, hcz⟩
  unfold Builtin.List.listExtendWith
  refine wpAny_bind (wpAny_typeOf ty ?_)
  have a1 : Builtin.List.listSameRef (.ref S) (.ref z) = false := by simp [Builtin.List.listSameRef, hSz]
  have a2 : (Value.type "zip" == Value.type "list") = false := by decide
  have a3 : (Value.type "zip" == Value.type "tuple") = false := by decide
  simp only [a1, a2, a3, Bool.or_false, Bool.false_eq_true, if_false]
  refine wpAny_bind (W.self _ _ _ _ st (wpAny_bind (wpAny_holding ?_)))
  unfold Builtin.List.listLengthHint
  refine wpAny_bind (wpAny_specialOf ty no_len ?_)
  show wpAny _ A.in1 (specialOf (Value.ref z) (Str.ofString "__length_hint__") >>= _) _ _ _
  refine wpAny_bind (wpAny_specialOf ty no_hint (wpAny_pure ?_))
  show wpAny _ A.in1 (rule "list.extend.makes-room" >>= fun _ => Builtin.List.listTouch (.ref S) >>= fun _ => again (.builtin "list.extend.loop" ⟨[.ref S, .ref z, res], []⟩)) _ _ _
  refine wpAny_bind (wpAny_rule (wpAny_bind ?_))
  show wpAny _ A.in1 (updateSeq S (·.push .none) >>= fun _ => updateSeq S (·.pop)) _ _ _
  refine wpAny_bind (wpAny_updateSeq hS rfl ?_)
  have b2 := Heap.get?_update_self (Obj.mapSeq (·.push Value.none)) hS rfl
  refine wpAny_updateSeq (hz := by seq_fits) b2 rfl ?_
  have b3 := Heap.get?_update_self (Obj.mapSeq (·.pop)) b2 rfl
  have oth : ∀ b o, b ≠ S → s.heap.get? b = some o → ((s.heap.update S (Obj.mapSeq (·.push Value.none))).update S (Obj.mapSeq (·.pop))).get? b = some o := fun b o hb e => (Heap.get?_update_other _ _ (Ne.symm hb)).trans ((Heap.get?_update_other _ _ (Ne.symm hb)).trans e)
  have szq : ((s.heap.update S (Obj.mapSeq (·.push Value.none))).update S (Obj.mapSeq (·.pop))).objs.size = s.heap.objs.size := by
    rw [(Heap.SameBut.update ..).1, (Heap.SameBut.update ..).1]
  refine wpAny_pure ⟨plainId_quiet F.plain_extend_loop _, fill (M := s.heap.objs.size) W hn hSf hfM hSl res (s0 := s) hR n 0 _ _ [] rfl (Nat.zero_le _) (W.keep _ _ _ st oth) (by rw [szq]; exact Nat.le_refl _) (fun b o b1 _ e => oth b o b1 e) b3 rfl ⟨List.Pairwise.nil, (fun _ q => nomatch q), (fun j t q => by simp at q)⟩⟩
theorem init (W : Walk prog w A.in1 z S fp n T St) (hn : n ≤ sizeLine) (hSf : S ∉ fp) (hz : z ∈ fp) {s : Shared} (st : St 0 s.heap) (hfM : ∀ b ∈ fp, b < s.heap.objs.size) (hS : s.heap.get? S = some { cls := .type "list", data := .seq #[] })
    (hR : ∀ h' c ts, (∀ b o, b ≠ S → b ∉ fp → s.heap.get? b = some o → h'.get? b = some o) → h'.get? S = some { cls := .type "list", dict := none, data := .seq (ts.map Value.ref).toArray c, slots := #[] } → ts.length = n → Got s.heap.objs.size T h' ts → R (.ok (.ret .none)) { s with heap := h' }) :
    wpAny (model prog w) A.in1 (Builtin.«list.__init__» ⟨[.ref S, .ref z], []⟩)
      (fun fin s' => match fin with | .done f => R (.ok f) s' | .again c' => c'.quiet = true ∧ codeAny (model prog w) A c' R s') (fun e s' => R (.error e) s') s := by
  show wpAny _ A.in1 (do let old ← Builtin.List.listItems (.ref S); Builtin.List.listUpdate (.ref S) (fun _ => #[]); letGo old.toList.reverse; Builtin.List.listExtendWith (.ref S) (.ref z) .none) _ _ s
  refine wpAny_bind ?_
  unfold Builtin.List.listItems
  refine wpAny_bind (wpAny_seqItems hS rfl (wpAny_pure ?_))
  show wpAny _ A.in1 (updateSeq S (fun _ => #[]) >>= fun _ => letGo (#[] : Array Value).toList.reverse >>= fun _ => Builtin.List.listExtendWith (.ref S) (.ref z) .none) _ _ s
  refine wpAny_bind (wpAny_updateSeq hS rfl ?_)
  have b2 := Heap.get?_update_self (Obj.mapSeq (fun _ => (#[] : Array Value))) hS rfl
  have oth : ∀ b o, b ≠ S → s.heap.get? b = some o → (s.heap.update S (Obj.mapSeq (fun _ => (#[] : Array Value)))).get? b = some o := fun b o hb e => (Heap.get?_update_other _ _ (Ne.symm hb)).trans e
  have szq : (s.heap.update S (Obj.mapSeq (fun _ => (#[] : Array Value)))).objs.size = s.heap.objs.size := (Heap.SameBut.update ..).1
  refine wpAny_bind (wpAny_letGo (extend W hn hSf hz .none _ (W.keep _ _ _ st oth) (by rw [szq]; exact hfM) b2 fun h' c ts kp e1 e2 G => ?_))
  rw [szq] at G
  exact hR h' c ts (fun b o b1 b2 e => kp b o b1 b2 (oth b o b1 e)) e1 e2 G
end
section
variable {prog : Program} {w : World} {A : Around} {E : Value → Shared → Prop} {s : Shared} {z : Addr} {fp : List Addr} {n : Nat} {T : Nat → Obj} {St : Nat → Heap → Prop}
/-- list(z): the new list at the heap's end, its tuples behind it -/
theorem listOf {Q : Value → Shared → Prop} (W : Walk prog w A.in1.in1 z s.heap.objs.size fp n T St) (hn : n ≤ sizeLine) (hz : z ∈ fp) (st : St 0 s.heap) (hfM : ∀ b ∈ fp, b < s.heap.objs.size)
    (hQ : ∀ h' c ts, (∀ b o, b ∉ fp → s.heap.get? b = some o → h'.get? b = some o) → h'.get? s.heap.objs.size = some { cls := .type "list", dict := none, data := .seq (ts.map Value.ref).toArray c, slots := #[] } → ts.length = n → Got (s.heap.objs.size + 1) T h' ts → Q (.ref s.heap.objs.size) { s with heap := h' }) :
    wpAny (model prog w) A (call (.type "list") [.ref z]) Q E s := by
  have hSf : s.heap.objs.size ∉ fp := fun m => Nat.lt_irrefl _ (hfM _ m)
  refine callType_codes (Q₁ := fun obj s1 => obj = .ref s.heap.objs.size ∧ s1 = { s with heap := s.heap.push { cls := .type "list", data := .seq #[] } }) F.called_list (F.typeCall_list_1 _) F.entry_list_init (code_list_new _ ⟨rfl, rfl⟩) fun obj s1 h1 => ?_
  obtain ⟨rfl, rfl⟩ := h1
  have hS : (s.heap.push { cls := .type "list", data := .seq #[] }).get? s.heap.objs.size = some { cls := .type "list", data := .seq #[] } := Heap.get?_push_size _ rfl
  have szq : (s.heap.push { cls := .type "list", data := .seq #[] }).objs.size = s.heap.objs.size + 1 := Heap.size_push ..
  refine ⟨⟨_, hS, rfl⟩, F.args_list_init_2 _ _, init (s := { s with heap := s.heap.push { cls := .type "list", data := .seq #[] } }) W hn hSf hz (W.keep _ _ _ st fun b o _ e => Heap.get?_push_of_some _ e) (fun b hb => by show b < (s.heap.push _).objs.size; rw [szq]; exact Nat.lt_succ_of_lt (hfM b hb)) hS fun h' c ts kp e1 e2 G => ?_⟩
  have G2 : Got (s.heap.objs.size + 1) T h' ts := by rw [← szq]; exact G
  exact ⟨rfl, hQ h' c ts (fun b o hb e => kp b o (Nat.ne_of_lt (Heap.lt_size e)) hb (Heap.get?_push_of_some _ e)) e1 e2 G2⟩
end
section
variable {prog : Program} {w : World} {A : Around} {E : Value → Shared → Prop} {s : Shared}
theorem next_of {z : Addr} {Q : Option Value → Shared → Prop} (hT : s.TypeIs (.ref z) "zip") (h : wpAny (model prog w) A.in1 (Builtin.«zip.__next__» ⟨[.ref z], []⟩) (fun fin s' => ∃ v, fin = .done (.ret v) ∧ Q (some v) s') (fun e s1 => (∃ o a, e = .ref a ∧ s1.heap.get? a = some o ∧ o.cls = .type "StopIteration") ∧ Q none s1) s) :
    wpAny (model prog w) A (pyNext (.ref z)) Q E s := by
  unfold pyNext
  refine wpAny_bind (wpAny_attempt (wpAny_callSpecial?_slot (name := Str.ofString "__next__") hT F.slot_zip_next (wpAny_call_entry F.slot_zip_next hT F.entry_zip_next (wpAny_mono h (fun fin s1 q => ?_) fun e s1 q => ?_) (F.args_zip_next_1 _))))
  · obtain ⟨v, rfl, q⟩ := q
    exact ⟨v, rfl, wpAny_pure q⟩
  · obtain ⟨⟨o, a, rfl, ho, hc⟩, q⟩ := q
    exact wpAny_bind (wpAny_isInstance (T := "StopIteration") (b := true) ⟨o, ho, hc⟩ isSubtype_stop (wpAny_pure q))
end
structure St2 (S z TI TO i1 i2 l1 l2 : Addr) (xs ys : Array Value) (i : Nat) (h : Heap) : Prop where
  zz : (i = 0 ∧ IsZip h z TI TO .none ∧ ∃ u1 u2, IsPair h TO u1 u2) ∨ ∃ a f oa, ZOut h z TI TO a f ∧ h.get? a = some oa ∧ a ≠ z ∧ a ≠ S ∧ a ≠ i1 ∧ a ≠ i2
  ti : IsPair h TI (.ref i1) (.ref i2)
  h1 : h.IsListIter i1 l1 i
  h2 : h.IsListIter i2 l2 i
  k1 : h.IsList l1 xs
  k2 : h.IsList l2 ys
theorem walk2 {prog : Program} {w : World} {A : Around} {S z TI TO i1 i2 l1 l2 : Addr} {xs ys : Array Value} (hh : A.handled = none) (D : ZipApart z TI TO i1 i2 l1 l2) (hl : xs.size = ys.size) (hp : 0 < xs.size) (s1 : S ≠ z) (s2 : S ≠ TI) (s3 : S ≠ TO) (s4 : S ≠ i1) (s5 : S ≠ i2) (s6 : S ≠ l1) (s7 : S ≠ l2) :
    Walk prog w A z S [z, TI, TO, i1, i2] xs.size (fun i => { cls := .type "tuple", data := .seq #[xs.getD i .none, ys.getD i .none] }) (St2 S z TI TO i1 i2 l1 l2 xs ys) where
  keep := fun i h h' st k => by
    refine ⟨?_, k _ _ s2.symm st.ti, st.h1.at fun o e => k _ o s4.symm e, st.h2.at fun o e => k _ o s5.symm e, st.k1.at fun o e => k _ o s6.symm e, st.k2.at fun o e => k _ o s7.symm e⟩
    rcases st.zz with ⟨e, q, u1, u2, t⟩ | ⟨a, f, oa, q, ha, n1, n2, n3, n4⟩
    · exact .inl ⟨e, k _ _ s1.symm q, u1, u2, k _ _ s3.symm t⟩
    · exact .inr ⟨a, f, oa, k _ _ s1.symm q, k _ _ n2 ha, n1, n2, n3, n4⟩
  ty := fun i h st => by
    rcases st.zz with ⟨_, q, _⟩ | ⟨a, f, oa, q, _⟩
    · exact ⟨_, q, rfl⟩
    · exact ⟨_, q, rfl⟩
  item := fun i s Q E hi hS st hQ => by
    have hx : xs[i]? = some (xs.getD i .none) := by simp [hi]
    have hy : ys[i]? = some (ys.getD i .none) := by simp [hl ▸ hi]
    rcases st.zz with ⟨_, q, u1, u2, t⟩ | ⟨a, f, oa, q, ha, n1, n2, n3, n4⟩
    · refine next_of ⟨_, q, rfl⟩ (wpAny_mono (zip_next_item (E := fun _ _ => False) D q st.ti t st.h1 st.h2 st.k1 st.k2 hx hy fun h' z1 t1 g1 g2 p1 sz kp => ?_) (fun _ _ y => y) fun _ _ y => y.elim)
      have ne : ∀ c, c < s.heap.objs.size → s.heap.objs.size ≠ c := fun c hc => Nat.ne_of_gt hc
      refine hQ h' ⟨.inr ⟨s.heap.objs.size, false, _, z1, p1, ne z (Heap.lt_size q), Nat.ne_of_gt hS, ?_, ?_⟩, kp _ _ D.TIz D.TITO D.TIi1 D.TIi2 st.ti, g1, g2, st.k1.at fun o e => kp _ o D.l1z D.l1TO D.l1i1 D.l1i2 e, st.k2.at fun o e => kp _ o D.l2z D.l2TO D.l2i1 D.l2i2 e⟩ p1 fun c o hc e => ?_
      · obtain ⟨_, e, _⟩ := st.h1; exact ne _ (Heap.lt_size e)
      · obtain ⟨_, e, _⟩ := st.h2; exact ne _ (Heap.lt_size e)
      · simp only [List.mem_cons, List.not_mem_nil, or_false, not_or] at hc
        exact kp c o hc.1 hc.2.2.1 hc.2.2.2.1 hc.2.2.2.2 e
    · refine next_of ⟨_, q, rfl⟩ (wpAny_mono (next2 (E := fun _ _ => False) D q ha n1 st.ti st.h1 st.h2 st.k1 st.k2 hx hy fun h' z1 g1 g2 p1 sz kp => ?_) (fun _ _ y => y) fun _ _ y => y.elim)
      refine hQ h' ⟨.inr ⟨a, true, oa, z1, kp _ _ n1 n3 n4 ha, n1, n2, n3, n4⟩, kp _ _ D.TIz D.TIi1 D.TIi2 st.ti, g1, g2, st.k1.at fun o e => kp _ o D.l1z D.l1i1 D.l1i2 e, st.k2.at fun o e => kp _ o D.l2z D.l2i1 D.l2i2 e⟩ p1 fun c o hc e => ?_
      simp only [List.mem_cons, List.not_mem_nil, or_false, not_or] at hc
      exact kp c o hc.1 hc.2.2.2.1 hc.2.2.2.2 e
  done := fun s Q E st hQ => by
    rcases st.zz with ⟨e, _⟩ | ⟨a, f, oa, q, ha, n1, n2, n3, n4⟩
    · omega
    · refine next_of ⟨_, q, rfl⟩ (end2 hh q ha n1 st.ti D.i1z D.l1z st.h1 st.k1 (by simp) fun h' e kp he => ?_)
      obtain ⟨o, ho, hc⟩ := he
      refine ⟨⟨o, e, rfl, ho, hc⟩, hQ h' fun c o hcn q2 => ?_⟩
      simp only [List.mem_cons, List.not_mem_nil, or_false, not_or] at hcn
      exact kp c o hcn.1 hcn.2.2.2.1 q2
  self := fun A' s Q E st h => by
    rcases st.zz with ⟨_, q, _⟩ | ⟨a, f, oa, q, _⟩
    · exact wpAny_pyIter_zip q h
    · have hT : s.TypeIs (.ref z) "zip" := ⟨_, q, rfl⟩
      refine wpAny_pyIter_slot hT F.slot_zip_iter (wpAny_call_entry F.slot_zip_iter hT F.entry_zip_iter ?_ (F.args_zip_iter_1 _))
      show wpAny _ _ (ret (.ref z)) _ _ s
      exact wpAny_pure ⟨_, rfl, "zip", _, hT, F.slot_zip_next.lookup, h⟩
/-- list(zip(l1, l2)), lists of one length above 0 -/
theorem list_zip2 {prog : Program} {w : World} {A : Around} {E : Value → Shared → Prop} {s : Shared} {l1 l2 : Addr} {xs ys : Array Value} {Q : Value → Shared → Prop} (hh : A.handled = none) (hl1 : s.heap.IsList l1 xs) (hl2 : s.heap.IsList l2 ys) (hl : xs.size = ys.size) (hp : 0 < xs.size) (hn : xs.size ≤ sizeLine)
    (hQ : ∀ h' L c ts, (∀ b o, s.heap.get? b = some o → h'.get? b = some o) → s.heap.objs.size ≤ L → h'.get? L = some { cls := .type "list", dict := none, data := .seq (ts.map Value.ref).toArray c, slots := #[] } → ts.length = xs.size →
      Got (L + 1) (fun i => { cls := .type "tuple", data := .seq #[xs.getD i .none, ys.getD i .none] }) h' ts → Q (.ref L) { s with heap := h' }) :
    wpAny (model prog w) A (call (.type "zip") [.ref l1, .ref l2]) (fun v s1 => wpAny (model prog w) A (call (.type "list") [v]) Q E s1) E s := by
  have a1 : l1 < s.heap.objs.size := by obtain ⟨_, e, _⟩ := hl1; exact Heap.lt_size e
  have a2 : l2 < s.heap.objs.size := by obtain ⟨_, e, _⟩ := hl2; exact Heap.lt_size e
  refine call_zip_2 hl1 hl2 fun h1 hz hTI hTO i1 i2 sz kp => ?_
  generalize hM : s.heap.objs.size = M at *
  have D : ZipApart (M + 4) (M + 2) (M + 3) M (M + 1) l1 l2 := by constructor <;> (intro e; simp only [Addr] at *; omega)
  refine listOf (s := { s with heap := h1 }) (walk2 (S := h1.objs.size) hh D hl hp ?_ ?_ ?_ ?_ ?_ ?_ ?_) hn (by simp) ⟨.inl ⟨rfl, hz, _, _, hTO⟩, hTI, i1, i2, hl1.at fun o e => kp _ o e, hl2.at fun o e => kp _ o e⟩ (fun b hb => ?_) fun h' c ts k2 e1 e2 G => ?_
  any_goals (intro e; simp only [Addr] at *; omega)
  · simp only [List.mem_cons, List.not_mem_nil, or_false] at hb
    show b < h1.objs.size
    rcases hb with rfl | rfl | rfl | rfl | rfl <;> (simp only [Addr] at *; omega)
  · refine hQ h' h1.objs.size c ts (fun b o e => k2 b o (fun hb => ?_) (kp b o e)) (by omega) e1 e2 G
    have hlt := Heap.lt_size e
    simp only [List.mem_cons, List.not_mem_nil, or_false] at hb
    rcases hb with rfl | rfl | rfl | rfl | rfl <;> (simp only [Addr] at *; omega)
end Zl
end
section
set_option Elab.async false
set_option linter.all false
set_option maxRecDepth 100000
namespace Zl
open PySem
theorem typeCall_zip_3 (a b c : Value) : checkTypeCall "zip" ⟨[a, b, c], []⟩ = pure () := by kernel_rfl
theorem newCall_zip_3 (a b c : Value) : checkBuiltinCall "zip.__new__" ⟨[.type "zip", a, b, c], []⟩ = pure () := by kernel_rfl
theorem args_object_init_4 (a b c d : Value) : argsOk "object.__init__" ⟨[a, b, c, d], []⟩ := by
  unfold argsOk; rw [signature?_of (id := "object.__init__") (n := ['_', '_', 't', 'i', 'n', 'i', '_', '_']) (o := ['t', 'c', 'e', 'j', 'b', 'o']) (by kernel_rfl) F.owner_object]; kernel_rfl
abbrev itO (l : Addr) : Obj := { cls := .type "list_iterator", data := .fields #[.ref l, .int 0 0] }
abbrev w1 (h : Heap) (l1 : Addr) : Heap := h.push (itO l1)
abbrev w2 (h : Heap) (l1 l2 : Addr) : Heap := (w1 h l1).push (itO l2)
abbrev w3 (h : Heap) (l1 l2 l3 : Addr) : Heap := (w2 h l1 l2).push (itO l3)
abbrev w4 (h : Heap) (l1 l2 l3 : Addr) : Heap := (w3 h l1 l2 l3).push { cls := .type "tuple", data := .seq #[.ref h.objs.size, .ref (w1 h l1).objs.size, .ref (w2 h l1 l2).objs.size] }
abbrev w5 (h : Heap) (l1 l2 l3 : Addr) : Heap := (w4 h l1 l2 l3).push { cls := .type "tuple", data := .seq #[.none, .none, .none] }
abbrev w6 (h : Heap) (l1 l2 l3 : Addr) : Heap := (w5 h l1 l2 l3).push { cls := .type "zip", data := .fields #[.none, .bool false, .bool false, .ref (w3 h l1 l2 l3).objs.size, .ref (w4 h l1 l2 l3).objs.size] }
theorem meets_new3 (l1 l2 l3 : Addr) (xs ys zs : Array Value) :
    Meets (Builtin.«zip.__new__» ⟨[.type "zip", .ref l1, .ref l2, .ref l3], []⟩) (fun _ R s => s.heap.IsList l1 xs ∧ s.heap.IsList l2 ys ∧ s.heap.IsList l3 zs ∧ R (.ok (.ret (.ref (w5 s.heap l1 l2 l3).objs.size))) { s with heap := w6 s.heap l1 l2 l3 }) :=
  .of_wp fun prog w A R s h => by
    obtain ⟨hp, g, d, tk, os⟩ := s; obtain ⟨hl1, hl2, hl3, h⟩ := h
    have hsub := sub_zip
    have hL1 : Heap.IsList (Shared.heap ⟨hp, g, d, tk, os⟩) l1 xs := hl1
    have hL2 : Heap.IsList (Shared.heap ⟨hp.push { cls := .type "list_iterator", data := .fields #[.ref l1, .int 0 0] }, g, d, tk, os⟩) l2 ys := Heap.IsList.push hl2 _
    have hL3 : Heap.IsList (Shared.heap ⟨(hp.push { cls := .type "list_iterator", data := .fields #[.ref l1, .int 0 0] }).push { cls := .type "list_iterator", data := .fields #[.ref l2, .int 0 0] }, g, d, tk, os⟩) l3 zs := Heap.IsList.push (Heap.IsList.push hl3 _) _
    wp_walk using wpAny_pyIter_list hL1, wpAny_pyIter_list hL2, wpAny_pyIter_list hL3
    exact ⟨_, rfl, h⟩
section
variable {prog : Program} {w : World} {A : Around} {E : Value → Shared → Prop} {s : Shared}
theorem call_zip_3 {l1 l2 l3 : Addr} {xs ys zs : Array Value} {Q : Value → Shared → Prop} (hl1 : s.heap.IsList l1 xs) (hl2 : s.heap.IsList l2 ys) (hl3 : s.heap.IsList l3 zs)
    (h : ∀ h', IsZip h' (s.heap.objs.size + 5) (s.heap.objs.size + 3) (s.heap.objs.size + 4) .none → Trip h' (s.heap.objs.size + 3) (.ref s.heap.objs.size) (.ref (s.heap.objs.size + 1)) (.ref (s.heap.objs.size + 2)) → Trip h' (s.heap.objs.size + 4) .none .none .none →
      h'.IsListIter s.heap.objs.size l1 0 → h'.IsListIter (s.heap.objs.size + 1) l2 0 → h'.IsListIter (s.heap.objs.size + 2) l3 0 → h'.objs.size = s.heap.objs.size + 6 → (∀ c o, s.heap.get? c = some o → h'.get? c = some o) → Q (.ref (s.heap.objs.size + 5)) { s with heap := h' }) :
    wpAny (model prog w) A (call (.type "zip") [.ref l1, .ref l2, .ref l3]) Q E s := by
  refine callType_new F.called_zip (by decide) (typeCall_zip_3 _ _ _) (newCall_zip_3 _ _ _) (fun obj => args_object_init_4 obj _ _ _) F.entry_zip_new (meets_new3 l1 l2 l3 xs ys zs) ⟨hl1, hl2, hl3, ?_⟩
  have y1 : (w1 s.heap l1).objs.size = s.heap.objs.size + 1 := Heap.size_push ..
  have y2 : (w2 s.heap l1 l2).objs.size = s.heap.objs.size + 2 := by rw [Heap.size_push, y1]
  have y3 : (w3 s.heap l1 l2 l3).objs.size = s.heap.objs.size + 3 := by rw [Heap.size_push, y2]
  have y4 : (w4 s.heap l1 l2 l3).objs.size = s.heap.objs.size + 4 := by rw [Heap.size_push, y3]
  have y5 : (w5 s.heap l1 l2 l3).objs.size = s.heap.objs.size + 5 := by rw [Heap.size_push, y4]
  have y6 : (w6 s.heap l1 l2 l3).objs.size = s.heap.objs.size + 6 := by rw [Heap.size_push, y5]
  have g6 : (w6 s.heap l1 l2 l3).get? (w5 s.heap l1 l2 l3).objs.size = some _ := Heap.get?_push_size _ rfl
  have g5 : (w6 s.heap l1 l2 l3).get? (w4 s.heap l1 l2 l3).objs.size = some _ := Heap.get?_push_of_some _ (Heap.get?_push_size _ rfl)
  have g4 : (w6 s.heap l1 l2 l3).get? (w3 s.heap l1 l2 l3).objs.size = some _ := Heap.get?_push_of_some _ (Heap.get?_push_of_some _ (Heap.get?_push_size _ rfl))
  have g3 : (w6 s.heap l1 l2 l3).get? (w2 s.heap l1 l2).objs.size = some _ := Heap.get?_push_of_some _ (Heap.get?_push_of_some _ (Heap.get?_push_of_some _ (Heap.get?_push_size _ rfl)))
  have g2 : (w6 s.heap l1 l2 l3).get? (w1 s.heap l1).objs.size = some _ := Heap.get?_push_of_some _ (Heap.get?_push_of_some _ (Heap.get?_push_of_some _ (Heap.get?_push_of_some _ (Heap.get?_push_size _ rfl))))
  have g1 : (w6 s.heap l1 l2 l3).get? s.heap.objs.size = some _ := Heap.get?_push_of_some _ (Heap.get?_push_of_some _ (Heap.get?_push_of_some _ (Heap.get?_push_of_some _ (Heap.get?_push_of_some _ (Heap.get?_push_size _ rfl)))))
  have kp : ∀ c o, s.heap.get? c = some o → (w6 s.heap l1 l2 l3).get? c = some o := fun c o x => Heap.get?_push_of_some _ (Heap.get?_push_of_some _ (Heap.get?_push_of_some _ (Heap.get?_push_of_some _ (Heap.get?_push_of_some _ (Heap.get?_push_of_some _ x)))))
  show _ ∧ _
  rw [y3, y4, y5] at g6
  rw [y4] at g5
  rw [y1, y2, y3] at g4
  rw [y2] at g3
  rw [y1] at g2
  rw [y5]
  exact ⟨⟨_, g6, rfl⟩, h _ g6 g4 g5 ⟨_, g1, rfl, rfl⟩ ⟨_, g2, rfl, rfl⟩ ⟨_, g3, rfl, rfl⟩ y6 kp⟩
end
structure St3 (S z TI TO i1 i2 i3 l1 l2 l3 : Addr) (xs ys zs : Array Value) (i : Nat) (h : Heap) : Prop where
  zz : (i = 0 ∧ IsZip h z TI TO .none ∧ ∃ u1 u2 u3, Trip h TO u1 u2 u3) ∨ ∃ a f oa, ZOut h z TI TO a f ∧ h.get? a = some oa ∧ a ≠ z ∧ a ≠ S ∧ a ≠ i1 ∧ a ≠ i2 ∧ a ≠ i3
  ti : Trip h TI (.ref i1) (.ref i2) (.ref i3)
  h1 : h.IsListIter i1 l1 i
  h2 : h.IsListIter i2 l2 i
  h3 : h.IsListIter i3 l3 i
  k1 : h.IsList l1 xs
  k2 : h.IsList l2 ys
  k3 : h.IsList l3 zs
theorem na {a b : Nat} (h : a < b ∨ b < a) : a ≠ b := by omega
theorem ne3 {c M d : Nat} (hc : c < M ∨ c = M + 3) (hd : M ≤ d ∧ d ≠ M + 3) : c ≠ d := by omega
/-- the addresses of a new zip of three lists -/
theorem walk3 {prog : Program} {w : World} {A : Around} {S M l1 l2 l3 : Addr} {xs ys zs : Array Value} (hh : A.handled = none) (a1 : l1 < M) (a2 : l2 < M) (a3 : l3 < M) (hl : xs.size = ys.size) (hl2 : xs.size = zs.size) (hp : 0 < xs.size) (hS : M + 5 < S) :
    Walk prog w A (M + 5) S [M + 5, M + 3, M + 4, M, M + 1, M + 2] xs.size (fun i => { cls := .type "tuple", data := .seq #[xs.getD i .none, ys.getD i .none, zs.getD i .none] }) (St3 S (M + 5) (M + 3) (M + 4) M (M + 1) (M + 2) l1 l2 l3 xs ys zs) where
  keep := fun i h h' st k => by
    have kk : ∀ c, c < S → ∀ o, h.get? c = some o → h'.get? c = some o := fun c hc o e => k c o (Nat.ne_of_lt hc) e
    simp only [Addr] at *
    refine ⟨?_, kk _ (by omega) _ st.ti, st.h1.at fun o e => kk _ (by omega) o e, st.h2.at fun o e => kk _ (by omega) o e, st.h3.at fun o e => kk _ (by omega) o e, st.k1.at fun o e => kk _ (by omega) o e, st.k2.at fun o e => kk _ (by omega) o e, st.k3.at fun o e => kk _ (by omega) o e⟩
    rcases st.zz with ⟨e, q, u1, u2, u3, t⟩ | ⟨a, f, oa, q, ha, n1, n2, n3⟩
    · exact .inl ⟨e, kk _ (by omega) _ q, u1, u2, u3, kk _ (by omega) _ t⟩
    · exact .inr ⟨a, f, oa, kk _ (by omega) _ q, k _ _ n2 ha, n1, n2, n3⟩
  ty := fun i h st => by
    rcases st.zz with ⟨_, q, _⟩ | ⟨a, f, oa, q, _⟩
    · exact ⟨_, q, rfl⟩
    · exact ⟨_, q, rfl⟩
  item := fun i s Q E hi hSs st hQ => by
    have hx : xs[i]? = some (xs.getD i .none) := by simp [hi]
    have hy : ys[i]? = some (ys.getD i .none) := by simp [hl ▸ hi]
    have hv : zs[i]? = some (zs.getD i .none) := by simp [hl2 ▸ hi]
    simp only [Addr] at *
    rcases st.zz with ⟨_, q, u1, u2, u3, t⟩ | ⟨a, f, oa, q, ha, n1, n2, n3, n4, n5⟩
    · refine next_of ⟨_, q, rfl⟩ (wpAny_mono (first3 (E := fun _ _ => False) q st.ti t (na (by omega)) (na (by omega)) (na (by omega)) (na (by omega)) (na (by omega)) (na (by omega)) (na (by omega)) (na (by omega)) (na (by omega)) (na (by omega)) (na (by omega)) (na (by omega)) (na (by omega)) (na (by omega)) (na (by omega)) (na (by omega)) (na (by omega)) (na (by omega))
        st.h1 st.h2 st.h3 st.k1 st.k2 st.k3 hx hy hv fun h' z1 g1 g2 g3 p1 sz kp => ?_) (fun _ _ y => y) fun _ _ y => y.elim)
      have kk : ∀ (c : Nat), c < M ∨ c = (M : Nat) + 3 → ∀ o, s.heap.get? c = some o → h'.get? c = some o := fun c hc o e => kp c o (ne3 hc (by omega)) (ne3 hc (by omega)) (ne3 hc (by omega)) (ne3 hc (by omega)) (ne3 hc (by omega)) e
      refine hQ h' ⟨.inr ⟨s.heap.objs.size, false, _, z1, p1, na (by omega), na (by omega), na (by omega), na (by omega), na (by omega)⟩, kk _ (.inr rfl) _ st.ti, g1, g2, g3, st.k1.at fun o e => kk _ (.inl a1) o e, st.k2.at fun o e => kk _ (.inl a2) o e, st.k3.at fun o e => kk _ (.inl a3) o e⟩ p1 fun c o hc e => ?_
      simp only [List.mem_cons, List.not_mem_nil, or_false, not_or] at hc
      exact kp c o hc.1 hc.2.2.1 hc.2.2.2.1 hc.2.2.2.2.1 hc.2.2.2.2.2 e
    · refine next_of ⟨_, q, rfl⟩ (wpAny_mono (next3 (E := fun _ _ => False) q ha n1 st.ti (na (by omega)) (na (by omega)) (na (by omega)) (na (by omega)) (na (by omega)) (na (by omega)) (na (by omega)) (na (by omega)) (na (by omega)) (na (by omega)) (na (by omega)) (na (by omega))
        st.h1 st.h2 st.h3 st.k1 st.k2 st.k3 hx hy hv fun h' z1 g1 g2 g3 p1 sz kp => ?_) (fun _ _ y => y) fun _ _ y => y.elim)
      have kk : ∀ (c : Nat), c < M ∨ c = (M : Nat) + 3 → ∀ o, s.heap.get? c = some o → h'.get? c = some o := fun c hc o e => kp c o (ne3 hc (by omega)) (ne3 hc (by omega)) (ne3 hc (by omega)) (ne3 hc (by omega)) e
      refine hQ h' ⟨.inr ⟨a, true, oa, z1, kp _ _ n1 n3 n4 n5 ha, n1, n2, n3, n4, n5⟩, kk _ (.inr rfl) _ st.ti, g1, g2, g3, st.k1.at fun o e => kk _ (.inl a1) o e, st.k2.at fun o e => kk _ (.inl a2) o e, st.k3.at fun o e => kk _ (.inl a3) o e⟩ p1 fun c o hc e => ?_
      simp only [List.mem_cons, List.not_mem_nil, or_false, not_or] at hc
      exact kp c o hc.1 hc.2.2.2.1 hc.2.2.2.2.1 hc.2.2.2.2.2 e
  done := fun s Q E st hQ => by
    simp only [Addr] at *
    rcases st.zz with ⟨e, _⟩ | ⟨a, f, oa, q, ha, n1, n2, n3⟩
    · omega
    · refine next_of ⟨_, q, rfl⟩ (end3 hh q ha n1 st.ti (na (by omega)) (na (by omega)) st.h1 st.k1 (by simp) fun h' e kp he => ?_)
      obtain ⟨o, ho, hc⟩ := he
      refine ⟨⟨o, e, rfl, ho, hc⟩, hQ h' fun c o hcn q2 => ?_⟩
      simp only [List.mem_cons, List.not_mem_nil, or_false, not_or] at hcn
      exact kp c o hcn.1 hcn.2.2.2.1 q2
  self := fun A' s Q E st h => by
    rcases st.zz with ⟨_, q, _⟩ | ⟨a, f, oa, q, _⟩
    · exact wpAny_pyIter_zip q h
    · have hT : s.TypeIs (.ref (M + 5)) "zip" := ⟨_, q, rfl⟩
      refine wpAny_pyIter_slot hT F.slot_zip_iter (wpAny_call_entry F.slot_zip_iter hT F.entry_zip_iter ?_ (F.args_zip_iter_1 _))
      show wpAny _ _ (ret (.ref (M + 5))) _ _ s
      exact wpAny_pure ⟨_, rfl, "zip", _, hT, F.slot_zip_next.lookup, h⟩
/-- list(zip(l1, l2, l3)), lists of one length above 0 -/
theorem list_zip3 {prog : Program} {w : World} {A : Around} {E : Value → Shared → Prop} {s : Shared} {l1 l2 l3 : Addr} {xs ys zs : Array Value} {Q : Value → Shared → Prop} (hh : A.handled = none) (hl1 : s.heap.IsList l1 xs) (hl2 : s.heap.IsList l2 ys) (hl3 : s.heap.IsList l3 zs) (hl : xs.size = ys.size) (hlz : xs.size = zs.size) (hp : 0 < xs.size) (hn : xs.size ≤ sizeLine)
    (hQ : ∀ h' L c ts, (∀ b o, s.heap.get? b = some o → h'.get? b = some o) → s.heap.objs.size ≤ L → h'.get? L = some { cls := .type "list", dict := none, data := .seq (ts.map Value.ref).toArray c, slots := #[] } → ts.length = xs.size →
      Got (L + 1) (fun i => { cls := .type "tuple", data := .seq #[xs.getD i .none, ys.getD i .none, zs.getD i .none] }) h' ts → Q (.ref L) { s with heap := h' }) :
    wpAny (model prog w) A (call (.type "zip") [.ref l1, .ref l2, .ref l3]) (fun v s1 => wpAny (model prog w) A (call (.type "list") [v]) Q E s1) E s := by
  have a1 : l1 < s.heap.objs.size := by obtain ⟨_, e, _⟩ := hl1; exact Heap.lt_size e
  have a2 : l2 < s.heap.objs.size := by obtain ⟨_, e, _⟩ := hl2; exact Heap.lt_size e
  have a3 : l3 < s.heap.objs.size := by obtain ⟨_, e, _⟩ := hl3; exact Heap.lt_size e
  refine call_zip_3 hl1 hl2 hl3 fun h1 hz hTI hTO i1 i2 i3 sz kp => ?_
  generalize hM : s.heap.objs.size = M at *
  refine listOf (s := { s with heap := h1 }) (walk3 (S := h1.objs.size) hh a1 a2 a3 hl hlz hp (Nat.lt_of_lt_of_eq (Nat.lt_succ_self (M + 5)) sz.symm)) hn (by simp) ⟨.inl ⟨rfl, hz, _, _, _, hTO⟩, hTI, i1, i2, i3, hl1.at fun o e => kp _ o e, hl2.at fun o e => kp _ o e, hl3.at fun o e => kp _ o e⟩ (fun b hb => ?_) fun h' c ts k2 e1 e2 G => ?_
  · simp only [List.mem_cons, List.not_mem_nil, or_false] at hb
    show b < h1.objs.size
    rcases hb with rfl | rfl | rfl | rfl | rfl | rfl <;> (simp only [Addr] at *; omega)
  · refine hQ h' h1.objs.size c ts (fun b o e => k2 b o (fun hb => ?_) (kp b o e)) (by rw [sz]; exact Nat.le_add_right M 6) e1 e2 G
    have hlt := Heap.lt_size e
    simp only [List.mem_cons, List.not_mem_nil, or_false] at hb
    rcases hb with rfl | rfl | rfl | rfl | rfl | rfl <;> (simp only [Addr] at *; omega)
end Zl
end
section
set_option Elab.async false
namespace Mt
open Pl
def leO : Option Rat → Rat → Prop
  | none, _ => True
  | some a, x => a ≤ x
def geO : Option Rat → Rat → Prop
  | none, _ => True
  | some b, x => x ≤ b
def ltO : Option Rat → Option Rat → Prop
  | some a, some b => a < b
  | _, _ => True
theorem leO_mono {lo : Option Rat} {x y : Rat} (h : leO lo x) (hxy : x ≤ y) : leO lo y := by
  cases lo with
  | none => trivial
  | some a => simp only [leO] at *; grind
theorem geO_mono {hi : Option Rat} {x y : Rat} (h : geO hi y) (hxy : x ≤ y) : geO hi x := by
  cases hi with
  | none => trivial
  | some a => simp only [geO] at *; grind
theorem leO_lt {lo : Option Rat} {x : Rat} (h : ltO lo (some x)) : leO lo x := by
  cases lo with
  | none => trivial
  | some a => simp only [ltO, leO] at *; grind
theorem geO_lt {hi : Option Rat} {x : Rat} (h : ltO (some x) hi) : geO hi x := by
  cases hi with
  | none => trivial
  | some a => simp only [ltO, geO] at *; grind
theorem ltO_trans {lo : Option Rat} {m : Rat} {hi : Option Rat} (h1 : ltO lo (some m)) (h2 : ltO (some m) hi) : ltO lo hi := by
  cases lo <;> cases hi <;> simp only [ltO] at * <;> grind
theorem line_eq {l m : Line} {x y : Rat} (hxy : x < y) (hx : l.at_ x = m.at_ x) (hy : l.at_ y = m.at_ y) : l = m := by
  obtain ⟨ls, lc⟩ := l
  obtain ⟨ms, mc⟩ := m
  simp only [Line.at_] at hx hy
  have h1 : ls = ms := by
    have : (ls - ms) * (y - x) = 0 := by grind
    have h2 : y - x ≠ 0 := by grind
    grind
  subst h1
  have h3 : lc = mc := by grind
  rw [h3]
/-- two places between two ends -/
theorem between {lo hi : Option Rat} (h : ltO lo hi) : ∃ x y, x < y ∧ leO lo x ∧ ltO (some y) hi := by
  cases lo with
  | none =>
    cases hi with
    | none => exact ⟨0, 1, by grind, trivial, trivial⟩
    | some b => exact ⟨b - 2, b - 1, by grind, trivial, by simp only [ltO]; grind⟩
  | some a =>
    cases hi with
    | none => exact ⟨a, a + 1, by grind, by simp only [leO]; grind, trivial⟩
    | some b =>
      simp only [ltO] at h
      exact ⟨a, (a + b) / 2, by grind, by simp only [leO]; grind, by simp only [ltO]; grind⟩
theorem line_ext {l m : Line} {lo hi : Option Rat} (h : ltO lo hi) (he : ∀ x, leO lo x → ltO (some x) hi → l.at_ x = m.at_ x) : l = m := by
  obtain ⟨x, y, hxy, h1, h2⟩ := between h
  refine line_eq hxy (he x h1 ?_) (he y (leO_mono h1 (by grind)) h2)
  cases hi with
  | none => trivial
  | some b => simp only [ltO] at *; grind
def fnOf (l : Line) (r : List (Rat × Line)) : Fn := ⟨r.map (fun x => x.1), l :: r.map (fun x => x.2)⟩
def Chain : Option Rat → Line → List (Rat × Line) → Prop
  | _, _, [] => True
  | lo, l, p :: r => ltO lo (some p.1) ∧ l ≠ p.2 ∧ l.at_ p.1 = p.2.at_ p.1 ∧ Chain (some p.1) p.2 r
def Canon (f : Fn) : Prop := ∃ l r, f = fnOf l r ∧ Chain none l r
def val : Line → List (Rat × Line) → Rat → Rat
  | l, [], x => l.at_ x
  | l, p :: r, x => if p.1 ≤ x then val p.2 r x else l.at_ x
def firstB : List (Rat × Line) → Option Rat
  | [] => none
  | p :: _ => some p.1
theorem val_before {l : Line} {r : List (Rat × Line)} {x : Rat} (h : ltO (some x) (firstB r)) : val l r x = l.at_ x := by
  cases r with
  | nil => rfl
  | cons p r =>
    simp only [firstB, ltO] at h
    simp only [val]
    rw [if_neg (by grind)]
theorem val_from {l : Line} {p : Rat × Line} {r : List (Rat × Line)} {x : Rat} (h : p.1 ≤ x) : val l (p :: r) x = val p.2 r x := by
  simp only [val]
  rw [if_pos h]
theorem chain_first {lo : Option Rat} {l : Line} {r : List (Rat × Line)} (c : Chain lo l r) : ltO lo (firstB r) := by
  cases r with
  | nil => cases lo <;> trivial
  | cons p r => exact c.1
theorem ltO_min {lo a b : Option Rat} (h1 : ltO lo a) (h2 : ltO lo b) : ∃ c, ltO lo c ∧ ∀ x, ltO (some x) c → ltO (some x) a ∧ ltO (some x) b := by
  cases a with
  | none => exact ⟨b, h2, fun x h => ⟨trivial, h⟩⟩
  | some a =>
    cases b with
    | none => exact ⟨some a, h1, fun x h => ⟨h, trivial⟩⟩
    | some b =>
      rcases Rat.le_total (a := a) (b := b) with h | h
      · exact ⟨some a, h1, fun x hx => ⟨hx, by simp only [ltO] at *; grind⟩⟩
      · exact ⟨some b, h2, fun x hx => ⟨by simp only [ltO] at *; grind, hx⟩⟩
/-- **the form is one** -/
theorem chain_unique : ∀ (r : List (Rat × Line)) (lo : Option Rat) (l l' : Line) (r' : List (Rat × Line)), Chain lo l r → Chain lo l' r' → (∀ x, leO lo x → val l r x = val l' r' x) → l = l' ∧ r = r' := by
  intro r
  induction r with
  | nil =>
    intro lo l l' r' c c' h
    have hl : l = l' := by
      refine line_ext (chain_first c') fun x h1 h2 => ?_
      rw [← val_before (r := []) (l := l) trivial, h x h1, val_before h2]
    subst hl
    refine ⟨rfl, ?_⟩
    cases r' with
    | nil => rfl
    | cons p t =>
      exfalso
      obtain ⟨c1, c2, c3, c4⟩ := c'
      refine c2 (line_ext (chain_first c4) fun x h1 h2 => ?_)
      have h0 : leO lo x := leO_mono (leO_lt c1) h1
      have e := h x h0
      rw [val_from (show p.1 ≤ x from h1), val_before h2] at e
      exact e
  | cons p t ih =>
    intro lo l l' r' c c' h
    have hl : l = l' := by
      obtain ⟨d, hd, hd2⟩ := ltO_min (chain_first c) (chain_first c')
      refine line_ext hd fun x h1 h2 => ?_
      have e := h x h1
      rw [val_before (hd2 x h2).1, val_before (hd2 x h2).2] at e
      exact e
    subst hl
    refine ⟨rfl, ?_⟩
    obtain ⟨c1, c2, c3, c4⟩ := c
    cases r' with
    | nil =>
      exfalso
      refine c2 (line_ext (chain_first c4) fun x h1 h2 => ?_)
      have h0 : leO lo x := leO_mono (leO_lt c1) h1
      have e := h x h0
      rw [val_from (show p.1 ≤ x from h1), val_before h2] at e
      exact e.symm
    | cons q t' =>
      obtain ⟨d1, d2, d3, d4⟩ := c'
      rcases Rat.le_total (a := p.1) (b := q.1) with hpq | hpq
      · by_cases he : p.1 = q.1
        · have := ih (some p.1) p.2 q.2 t' c4 (he ▸ d4) fun x h1 => by
            have e := h x (leO_mono (leO_lt c1) h1)
            rw [val_from (show p.1 ≤ x from h1), val_from (show q.1 ≤ x from he ▸ h1)] at e
            exact e
          rw [show p = q from Prod.ext he this.1, this.2]
        · exfalso
          have hlt : ltO (some p.1) (some q.1) := by simp only [ltO]; grind
          obtain ⟨d, hd, hd2⟩ := ltO_min (chain_first c4) hlt
          refine c2 (line_ext hd fun x h1 h2 => ?_)
          have e := h x (leO_mono (leO_lt c1) h1)
          rw [val_from (show p.1 ≤ x from h1), val_before (hd2 x h2).1, val_before (r := q :: t') (hd2 x h2).2] at e
          exact e.symm
      · by_cases he : p.1 = q.1
        · have := ih (some p.1) p.2 q.2 t' c4 (he ▸ d4) fun x h1 => by
            have e := h x (leO_mono (leO_lt c1) h1)
            rw [val_from (show p.1 ≤ x from h1), val_from (show q.1 ≤ x from he ▸ h1)] at e
            exact e
          rw [show p = q from Prod.ext he this.1, this.2]
        · exfalso
          have hlt : ltO (some q.1) (some p.1) := by simp only [ltO]; grind
          obtain ⟨d, hd, hd2⟩ := ltO_min (chain_first d4) hlt
          refine d2 (line_ext hd fun x h1 h2 => ?_)
          have e := h x (leO_mono (leO_lt d1) h1)
          rw [val_from (p := q) (show q.1 ≤ x from h1), val_before (hd2 x h2).1, val_before (r := p :: t) (hd2 x h2).2] at e
          exact e
theorem filter_zero {x : Rat} : ∀ {r : List (Rat × Line)} {l : Line} {b : Rat}, Chain (some b) l r → x < b → ((r.map (fun x => x.1)).filter fun (b : Rat) => decide (b ≤ x)) = []
  | [], _, _, _, _ => rfl
  | p :: r, l, b, c, h => by
    obtain ⟨c1, _, _, c4⟩ := c
    simp only [ltO] at c1
    have h2 : x < p.1 := by grind
    rw [List.map_cons, List.filter_cons, if_neg (by simp; grind)]
    exact filter_zero c4 h2
theorem value_aux {x : Rat} : ∀ (r : List (Rat × Line)) (lo : Option Rat) (l : Line), Chain lo l r → (((l :: r.map (fun x => x.2)).getD (((r.map (fun x => x.1)).filter fun (b : Rat) => decide (b ≤ x)).length) ZERO)).at_ x = val l r x
  | [], _, l, _ => rfl
  | p :: r, lo, l, c => by
    obtain ⟨c1, _, _, c4⟩ := c
    rw [List.map_cons, List.map_cons, List.filter_cons]
    by_cases h : p.1 ≤ x
    · rw [if_pos (by simpa using h), List.length_cons, List.getD_cons_succ, val_from h]
      exact value_aux r _ _ c4
    · rw [if_neg (by simpa using h), filter_zero c4 (by grind), val_before (by simp only [firstB, ltO]; grind)]
      rfl
theorem value_fnOf {l : Line} {r : List (Rat × Line)} {lo : Option Rat} (c : Chain lo l r) (x : Rat) : (fnOf l r).value x = val l r x := value_aux r lo l c
theorem canon_ext {f g : Fn} (hf : Canon f) (hg : Canon g) (h : ∀ x, f.value x = g.value x) : f = g := by
  obtain ⟨l, r, rfl, c⟩ := hf
  obtain ⟨m, t, rfl, d⟩ := hg
  obtain ⟨rfl, rfl⟩ := chain_unique r none l m t c d fun x _ => by rw [← value_fnOf c, ← value_fnOf d]; exact h x
  rfl
def On (v : Rat → Rat) (lo hi : Option Rat) (l : Line) : Prop := ∀ x, leO lo x → geO hi x → v x = l.at_ x
def Laid (v : Rat → Rat) : Option Rat → Line → List (Rat × Line) → Prop
  | lo, l, [] => On v lo none l
  | lo, l, p :: r => ltO lo (some p.1) ∧ On v lo (some p.1) l ∧ Laid v (some p.1) p.2 r
theorem Laid.first {v : Rat → Rat} : ∀ {r : List (Rat × Line)} {lo : Option Rat} {l : Line}, Laid v lo l r → On v lo (firstB r) l
  | [], _, _, h => h
  | _ :: _, _, _, h => h.2.1
theorem Laid.at_ {v : Rat → Rat} {r : List (Rat × Line)} {b : Rat} {l : Line} (h : Laid v (some b) l r) : v b = l.at_ b := by
  refine h.first b (show b ≤ b by grind) ?_
  cases r with
  | nil => trivial
  | cons p r => exact (geO_lt h.1)
theorem On.join {v : Rat → Rat} {lo hi : Option Rat} {m : Rat} {l : Line} (h1 : On v lo (some m) l) (h2 : On v (some m) hi l) : On v lo hi l := fun x hx hy => by
  rcases Rat.le_total (a := x) (b := m) with h | h
  · exact h1 x hx h
  · exact h2 x h hy
theorem Laid.drop {v : Rat → Rat} {lo : Option Rat} {l : Line} {p : Rat × Line} {r : List (Rat × Line)} (h : Laid v lo l (p :: r)) (e : p.2 = l) : Laid v lo l r := by
  obtain ⟨h1, h2, h3⟩ := h
  rw [e] at h3
  cases r with
  | nil => exact h2.join h3
  | cons q r => exact ⟨ltO_trans h1 h3.1, h2.join h3.2.1, h3.2.2⟩
theorem Laid.short {v : Rat → Rat} : ∀ (r : List (Rat × Line)) (lo : Option Rat) (l : Line), Laid v lo l r → Laid v lo l (shortened l r) ∧ Chain lo l (shortened l r)
  | [], lo, l, h => ⟨h, trivial⟩
  | p :: r, lo, l, h => by
    simp only [shortened]
    by_cases e : p.2 = l
    · rw [if_pos e]
      exact Laid.short r lo l (h.drop e)
    · rw [if_neg e]
      obtain ⟨h1, h2, h3⟩ := h
      obtain ⟨i1, i2⟩ := Laid.short r (some p.1) p.2 h3
      exact ⟨⟨h1, h2, i1⟩, h1, fun z => e z.symm, by rw [← h3.at_, h2 p.1 (leO_lt h1) (show p.1 ≤ p.1 by grind)], i2⟩
theorem Laid.val {v : Rat → Rat} : ∀ {r : List (Rat × Line)} {lo : Option Rat} {l : Line}, Laid v lo l r → ∀ x, leO lo x → Mt.val l r x = v x
  | [], lo, l, h, x, hx => (h x hx trivial).symm
  | p :: r, lo, l, h, x, hx => by
    by_cases e : p.1 ≤ x
    · rw [val_from e]
      exact Laid.val h.2.2 x e
    · rw [val_before (by simp only [firstB, ltO]; grind)]
      exact (h.2.1 x hx (show x ≤ p.1 by grind)).symm
theorem Laid.of_chain : ∀ {r : List (Rat × Line)} {lo : Option Rat} {l : Line}, Chain lo l r → Laid (Mt.val l r) lo l r
  | [], lo, l, _ => fun x _ _ => rfl
  | p :: r, lo, l, c => by
    obtain ⟨c1, c2, c3, c4⟩ := c
    refine ⟨c1, fun x hx hy => ?_, ?_⟩
    · by_cases e : p.1 ≤ x
      · have e1 : x = p.1 := by simp only [geO] at hy; grind
        subst e1
        rw [val_from e, c3]
        have := (Laid.of_chain c4).at_
        exact this
      · exact val_before (by simp only [firstB, ltO]; grind)
    · have ih := Laid.of_chain c4
      have cg : ∀ (r' : List (Rat × Line)) (lo' : Rat) (m : Line), p.1 ≤ lo' → Laid (Mt.val p.2 r) (some lo') m r' → Laid (Mt.val l (p :: r)) (some lo') m r' := by
        intro r'
        induction r' with
        | nil =>
          intro lo' m hl h x hx hy
          rw [val_from (show p.1 ≤ x by simp only [leO] at hx; grind)]
          exact h x hx hy
        | cons q r' ih' =>
          intro lo' m hl h
          refine ⟨h.1, fun x hx hy => ?_, ih' _ _ ?_ h.2.2⟩
          · rw [val_from (show p.1 ≤ x by simp only [leO] at hx; grind)]
            exact h.2.1 x hx hy
          · have := h.1
            simp only [ltO] at this
            grind
      exact cg r p.1 p.2 (by grind) ih
theorem Laid.congr {v w : Rat → Rat} (e : ∀ x, v x = w x) {r : List (Rat × Line)} {lo : Option Rat} {l : Line} (h : Laid v lo l r) : Laid w lo l r := by
  have : v = w := funext e
  rw [← this]
  exact h
theorem Canon.laid {f : Fn} (h : Canon f) : ∃ l r, f = fnOf l r ∧ Chain none l r ∧ Laid f.value none l r := by
  obtain ⟨l, r, rfl, c⟩ := h
  exact ⟨l, r, rfl, c, (Laid.of_chain c).congr fun x => (value_fnOf c x).symm⟩
theorem Laid.canon {v : Rat → Rat} {l : Line} {r : List (Rat × Line)} (h : Laid v none l r) : Canon (fnOf l (shortened l r)) ∧ ∀ x, (fnOf l (shortened l r)).value x = v x := by
  obtain ⟨h1, h2⟩ := h.short
  exact ⟨⟨l, _, rfl, h2⟩, fun x => by rw [value_fnOf h2]; exact h1.val x trivial⟩
end Mt
end
section
set_option Elab.async false
namespace Mt
open Pl
def Rise : Option Rat → List Rat → Prop
  | _, [] => True
  | lo, a :: l => ltO lo (some a) ∧ Rise (some a) l
theorem loop_app (a : Rat) : ∀ (l acc : List Rat), List.eraseRepsBy.loop (fun (x y : Rat) => x == y) a l acc = acc.reverse ++ List.eraseRepsBy.loop (fun (x y : Rat) => x == y) a l []
  | [], acc => by simp [List.eraseRepsBy.loop]
  | b :: l, acc => by
    simp only [List.eraseRepsBy.loop]
    by_cases h : (a == b) = true
    · rw [h]
      simp only
      rw [loop_app a l acc]
    · have h' : (a == b) = false := by simpa using h
      rw [h']
      simp only
      rw [loop_app b l (a :: acc), loop_app b l [a]]
      simp
theorem loop_same (a : Rat) (l : List Rat) : List.eraseRepsBy.loop (fun (x y : Rat) => x == y) a (a :: l) [] = List.eraseRepsBy.loop (fun (x y : Rat) => x == y) a l [] := by
  simp only [List.eraseRepsBy.loop, beq_self_eq_true]
theorem loop_other {a b : Rat} (l : List Rat) (h : a ≠ b) : List.eraseRepsBy.loop (fun (x y : Rat) => x == y) a (b :: l) [] = a :: List.eraseRepsBy.loop (fun (x y : Rat) => x == y) b l [] := by
  simp only [List.eraseRepsBy.loop]
  rw [show (a == b) = false by simpa using h]
  simp only
  rw [loop_app b l [a]]
  rfl
theorem loop_rise : ∀ (l : List Rat) (lo : Option Rat) (a : Rat), ltO lo (some a) → List.Pairwise (fun x y : Rat => x ≤ y) (a :: l) → Rise lo (List.eraseRepsBy.loop (fun (x y : Rat) => x == y) a l [])
  | [], lo, a, h, _ => by simp only [List.eraseRepsBy.loop, List.reverse_cons, List.reverse_nil, List.nil_append]; exact ⟨h, trivial⟩
  | b :: l, lo, a, h, p => by
    by_cases e : a = b
    · subst e
      rw [loop_same]
      exact loop_rise l lo a h (List.pairwise_cons.mp p).2
    · rw [loop_other l e]
      have hab := (List.pairwise_cons.mp p).1 b (List.mem_cons_self ..)
      exact ⟨h, loop_rise l (some a) b (by simp only [ltO]; grind) (List.pairwise_cons.mp p).2⟩
theorem loop_mem {x : Rat} : ∀ (l : List Rat) (a : Rat), x ∈ List.eraseRepsBy.loop (fun (x y : Rat) => x == y) a l [] ↔ x ∈ a :: l
  | [], a => by simp [List.eraseRepsBy.loop]
  | b :: l, a => by
    by_cases e : a = b
    · subst e
      rw [loop_same, loop_mem l a]
      simp
    · rw [loop_other l e, List.mem_cons, loop_mem l b]
      simp
theorem rising_rise (l : List Rat) : Rise none (rising l) := by
  unfold rising List.eraseReps List.eraseRepsBy
  have hp := List.pairwise_mergeSort (le := fun (a b : Rat) => decide (a ≤ b)) (by intro a b c; simp; grind) (by intro a b; simp; grind) l
  have hp : List.Pairwise (fun x y : Rat => x ≤ y) (l.mergeSort fun (a b : Rat) => decide (a ≤ b)) := hp.imp (by intro a b h; simpa using h)
  cases e : l.mergeSort fun (a b : Rat) => decide (a ≤ b) with
  | nil => trivial
  | cons a t =>
    rw [e] at hp
    exact loop_rise t none a trivial hp
theorem rising_mem (l : List Rat) (x : Rat) : x ∈ rising l ↔ x ∈ l := by
  have hm := List.mem_mergeSort (le := fun (a b : Rat) => decide (a ≤ b)) (a := x) (l := l)
  unfold rising List.eraseReps List.eraseRepsBy
  cases e : l.mergeSort fun (a b : Rat) => decide (a ≤ b) with
  | nil =>
    rw [e] at hm
    exact hm
  | cons a t =>
    rw [e] at hm
    exact (loop_mem t a).trans hm
def inside (lo hi : Option Rat) (p : Rat) : Prop := ltO lo (some p) ∧ ltO (some p) hi
/-- v is made of lines that change at these places alone -/
def PLin (v : Rat → Rat) (ps : List Rat) : Prop := ∀ lo hi, (∀ p ∈ ps, ¬ inside lo hi p) → ∃ l : Line, On v lo hi l
theorem through_eq {v : Rat → Rat} {lo hi : Option Rat} {l : Line} {a b : Rat} (h : On v lo hi l) (hab : a < b) (ha : leO lo a) (hb : geO hi b) : through v a b = l := by
  have e1 := h a ha (geO_mono hb (by grind))
  have e2 := h b (leO_mono ha (by grind)) hb
  obtain ⟨s, c⟩ := l
  simp only [Line.at_] at e1 e2
  have hs : (v b - v a) / (b - a) = s := by
    have : b - a ≠ 0 := by grind
    grind
  simp only [through]
  rw [hs]
  congr 1
  grind
theorem rise_lt : ∀ {l : List Rat} {a x : Rat}, Rise (some a) l → x ∈ l → a < x
  | [], _, _, _, h => nomatch h
  | b :: l, a, x, r, h => by
    have h1 : a < b := r.1
    rcases List.mem_cons.mp h with rfl | h
    · exact h1
    · have := rise_lt r.2 h
      grind
theorem laid_lines {v : Rat → Rat} : ∀ (l : List Rat) (b : Rat), Rise (some b) l → (∀ lo hi, leO (some b) (lo.getD b) → (∀ p ∈ l, ¬ inside lo hi p) → lo ≠ none → ∃ m : Line, On v lo hi m) →
    ∃ m r, (b :: l).zip (linesFrom v (b :: l)) = (b, m) :: r ∧ Laid v (some b) m r
  | [], b, _, h => by
    obtain ⟨m, hm⟩ := h (some b) none (by simp only [Option.getD, leO]; grind) (by simp) (by simp)
    refine ⟨m, [], ?_, hm⟩
    simp only [linesFrom, List.zip_cons_cons, List.zip_nil_left]
    rw [through_eq hm (show b + 1 < b + 2 by grind) (show b ≤ b + 1 by grind) trivial]
  | c :: l, b, hr, h => by
    have hbc : b < c := hr.1
    obtain ⟨m, hm⟩ := h (some b) (some c) (by simp only [Option.getD, leO]; grind) (fun p hp => by
      rcases List.mem_cons.mp hp with rfl | hp
      · simp only [inside, ltO]; grind
      · have := rise_lt hr.2 hp
        simp only [inside, ltO]; grind) (by simp)
    obtain ⟨m', r', e, hl⟩ := laid_lines l c hr.2 (fun lo hi h1 h2 h3 => h lo hi (by
        cases lo with
        | none => exact absurd rfl h3
        | some a => simp only [Option.getD, leO] at *; grind) (fun p hp => by
      rcases List.mem_cons.mp hp with rfl | hp
      · cases lo with
        | none => exact absurd rfl h3
        | some a => simp only [Option.getD, leO, inside, ltO] at *; grind
      · exact h2 p hp) h3)
    refine ⟨m, (c, m') :: r', ?_, hbc, hm, hl⟩
    rw [linesFrom, List.zip_cons_cons, e]
    rw [through_eq hm (show b + (c - b) / 3 < b + 2 * (c - b) / 3 by grind) (show b ≤ b + (c - b) / 3 by grind) (show b + 2 * (c - b) / 3 ≤ c by grind)]
theorem build_laid {v : Rat → Rat} {ps : List Rat} (h : PLin v ps) : ∃ l r, Laid v none l r ∧ build v ps = fnOf l (shortened l r) := by
  unfold build
  have hr := rising_rise ps
  have hm := rising_mem ps
  cases e : rising ps with
  | nil =>
    rw [e] at hm
    obtain ⟨l, hl⟩ := h none none (fun p hp => by have := (hm p).mpr hp; simp at this)
    refine ⟨l, [], hl, ?_⟩
    simp only [fnOf, shortened, List.map_nil]
    rw [through_eq hl (show (0 : Rat) < 1 by grind) trivial trivial]
  | cons b t =>
    rw [e] at hr hm
    obtain ⟨l, hl⟩ := h none (some b) (fun p hp => by
      rcases List.mem_cons.mp ((hm p).mpr hp) with rfl | hp
      · simp only [inside, ltO]; grind
      · have := rise_lt hr.2 hp
        simp only [inside, ltO]; grind)
    obtain ⟨m, r, e2, hr2⟩ := laid_lines (v := v) t b hr.2 (fun lo hi h1 h2 h3 => h lo hi fun p hp => by
      rcases List.mem_cons.mp ((hm p).mpr hp) with rfl | hp
      · cases lo with
        | none => exact absurd rfl h3
        | some a => simp only [Option.getD, leO, inside, ltO] at *; grind
      · exact h2 p hp)
    refine ⟨l, (b, m) :: r, ⟨trivial, hl, hr2⟩, ?_⟩
    simp only
    rw [e2, through_eq hl (show b - 2 < b - 1 by grind) trivial (show b - 1 ≤ b by grind)]
    rfl
theorem build_canon {v : Rat → Rat} {ps : List Rat} (h : PLin v ps) : Canon (build v ps) ∧ ∀ x, (build v ps).value x = v x := by
  obtain ⟨l, r, hl, e⟩ := build_laid h
  rw [e]
  exact hl.canon
/-- **whatever lays v has build's form, when shortened** -/
theorem build_eq {v : Rat → Rat} {ps : List Rat} (h : PLin v ps) {l : Line} {r : List (Rat × Line)} (hl : Laid v none l r) : build v ps = fnOf l (shortened l r) := by
  obtain ⟨h1, h2⟩ := build_canon h
  obtain ⟨h3, h4⟩ := hl.canon
  exact canon_ext h1 h3 fun x => by rw [h2, h4]
theorem ltO_or {a : Option Rat} {b : Rat} (h : ¬ ltO a (some b)) : ∃ z, a = some z ∧ b ≤ z := by
  cases a with
  | none => exact absurd trivial h
  | some z => exact ⟨z, rfl, by simp only [ltO] at h; grind⟩
theorem Laid.piece {v : Rat → Rat} : ∀ {r : List (Rat × Line)} {lo0 lo hi : Option Rat} {l : Line}, Laid v lo0 l r → (∀ x, leO lo x → leO lo0 x) → (∀ p ∈ r.map (fun x => x.1), ¬ inside lo hi p) → ∃ m ∈ l :: r.map (fun x => x.2), On v lo hi m
  | [], lo0, lo, hi, l, h, hlo, _ => ⟨l, by simp, fun x hx _ => h x (hlo x hx) trivial⟩
  | p :: r, lo0, lo, hi, l, h, hlo, hn => by
    by_cases h1 : ltO lo (some p.1)
    · have h2 : ¬ ltO (some p.1) hi := fun h2 => hn p.1 (by simp) ⟨h1, h2⟩
      refine ⟨l, by simp, fun x hx hy => h.2.1 x (hlo x hx) ?_⟩
      cases hi with
      | none => exact absurd trivial h2
      | some z => simp only [geO, ltO] at *; grind
    · obtain ⟨z, rfl, hz⟩ := ltO_or h1
      obtain ⟨m, hm, ho⟩ := Laid.piece h.2.2 (lo := some z) (hi := hi) (fun x hx => by simp only [leO] at *; grind) (fun q hq => hn q (by simp only [List.map_cons, List.mem_cons]; exact .inr hq))
      exact ⟨m, by simp only [List.map_cons, List.mem_cons] at *; exact .inr hm, ho⟩
theorem Canon.piece {f : Fn} (h : Canon f) {lo hi : Option Rat} (hn : ∀ p ∈ f.breaks, ¬ inside lo hi p) : ∃ m ∈ f.lines, On f.value lo hi m := by
  obtain ⟨l, r, e, c, hl⟩ := h.laid
  have := hl.piece (lo := lo) (hi := hi) (fun _ _ => trivial) (by rw [e] at hn; exact hn)
  obtain ⟨m, hm, ho⟩ := this
  refine ⟨m, ?_, ho⟩
  rw [e]
  exact hm
theorem plin_add {f g : Fn} (hf : Canon f) (hg : Canon g) : PLin (fun (x : Rat) => f.value x + g.value x) (f.breaks ++ g.breaks) := fun lo hi hn => by
  obtain ⟨l, _, h1⟩ := hf.piece (lo := lo) (hi := hi) fun p hp => hn p (List.mem_append_left _ hp)
  obtain ⟨m, _, h2⟩ := hg.piece (lo := lo) (hi := hi) fun p hp => hn p (List.mem_append_right _ hp)
  refine ⟨⟨l.s + m.s, l.c + m.c⟩, fun x hx hy => ?_⟩
  show f.value x + g.value x = _
  rw [h1 x hx hy, h2 x hx hy]
  simp only [Line.at_]
  grind
theorem plin_scale {f : Fn} (k : Rat) (hf : Canon f) : PLin (fun (x : Rat) => k * f.value x) f.breaks := fun lo hi hn => by
  obtain ⟨l, _, h1⟩ := hf.piece (lo := lo) (hi := hi) hn
  refine ⟨⟨k * l.s, k * l.c⟩, fun x hx hy => ?_⟩
  show k * f.value x = _
  rw [h1 x hx hy]
  simp only [Line.at_]
  grind
/-- two lines that don't meet strictly inside keep their order -/
theorem ordered {l m : Line} {lo hi : Option Rat} (h : ∀ p ∈ meets l m, ¬ inside lo hi p) : (∀ x, leO lo x → geO hi x → l.at_ x ≤ m.at_ x) ∨ (∀ x, leO lo x → geO hi x → m.at_ x ≤ l.at_ x) := by
  unfold meets at h
  by_cases e : l.s = m.s
  · rcases Rat.le_total (a := l.c) (b := m.c) with hc | hc
    · left; intro x _ _; simp only [Line.at_]; rw [e]; grind
    · right; intro x _ _; simp only [Line.at_]; rw [e]; grind
  · rw [if_neg e] at h
    have h := h _ (List.mem_singleton.mpr rfl)
    generalize hp : (m.c - l.c) / (l.s - m.s) = p at h
    have hd : l.s - m.s ≠ 0 := by grind
    have hp2 : (l.s - m.s) * p = m.c - l.c := by rw [← hp]; grind
    have key : ∀ x, l.at_ x - m.at_ x = (l.s - m.s) * (x - p) := by intro x; simp only [Line.at_]; grind
    have h' : (∀ x, leO lo x → p ≤ x) ∨ (∀ x, geO hi x → x ≤ p) := by
      by_cases h1 : ltO lo (some p)
      · right
        intro x hx
        cases hi with
        | none => exact absurd ⟨h1, trivial⟩ h
        | some z =>
          have : ¬ ltO (some p) (some z) := fun h2 => h ⟨h1, h2⟩
          simp only [geO, ltO] at *; grind
      · left
        intro x hx
        obtain ⟨z, rfl, hz⟩ := ltO_or h1
        simp only [leO] at hx; grind
    have pos : ∀ {a b : Rat}, 0 ≤ a → 0 ≤ b → 0 ≤ a * b := fun ha hb => Rat.mul_nonneg ha hb
    rcases Rat.le_total (a := 0) (b := l.s - m.s) with hs | hs
    · rcases h' with h' | h'
      · right; intro x hx hy
        have := pos hs (show 0 ≤ x - p by have := h' x hx; grind)
        have := key x
        grind
      · left; intro x hx hy
        have := pos hs (show 0 ≤ p - x by have := h' x hy; grind)
        have := key x
        grind
    · rcases h' with h' | h'
      · left; intro x hx hy
        have := pos (show 0 ≤ -(l.s - m.s) by grind) (show 0 ≤ x - p by have := h' x hx; grind)
        have := key x
        grind
      · right; intro x hx hy
        have := pos (show 0 ≤ -(l.s - m.s) by grind) (show 0 ≤ p - x by have := h' x hy; grind)
        have := key x
        grind
theorem mem_meetings {f g : Fn} {l m : Line} {p : Rat} (hl : l ∈ f.lines) (hm : m ∈ g.lines) (hp : p ∈ meets l m) : p ∈ meetings f g := by
  unfold meetings
  exact List.mem_flatMap.mpr ⟨l, hl, List.mem_flatMap.mpr ⟨m, hm, hp⟩⟩
theorem plin_great {f g : Fn} (hf : Canon f) (hg : Canon g) : PLin (fun (x : Rat) => greatest (f.value x) (g.value x)) (f.breaks ++ (g.breaks ++ meetings f g)) := fun lo hi hn => by
  obtain ⟨l, hl, h1⟩ := hf.piece (lo := lo) (hi := hi) fun p hp => hn p (List.mem_append_left _ hp)
  obtain ⟨m, hm, h2⟩ := hg.piece (lo := lo) (hi := hi) fun p hp => hn p (List.mem_append_right _ (List.mem_append_left _ hp))
  rcases ordered (l := l) (m := m) (lo := lo) (hi := hi) fun p hp => hn p (List.mem_append_right _ (List.mem_append_right _ (mem_meetings hl hm hp))) with h | h
  · refine ⟨m, fun x hx hy => ?_⟩
    show greatest (f.value x) (g.value x) = _
    rw [h1 x hx hy, h2 x hx hy]
    have := h x hx hy
    unfold greatest
    rw [if_pos this]
  · refine ⟨l, fun x hx hy => ?_⟩
    show greatest (f.value x) (g.value x) = _
    rw [h1 x hx hy, h2 x hx hy]
    have := h x hx hy
    unfold greatest
    split <;> grind
theorem plin_less {f g : Fn} (hf : Canon f) (hg : Canon g) : PLin (fun (x : Rat) => least (f.value x) (g.value x)) (f.breaks ++ (g.breaks ++ meetings f g)) := fun lo hi hn => by
  obtain ⟨l, hl, h1⟩ := hf.piece (lo := lo) (hi := hi) fun p hp => hn p (List.mem_append_left _ hp)
  obtain ⟨m, hm, h2⟩ := hg.piece (lo := lo) (hi := hi) fun p hp => hn p (List.mem_append_right _ (List.mem_append_left _ hp))
  rcases ordered (l := l) (m := m) (lo := lo) (hi := hi) fun p hp => hn p (List.mem_append_right _ (List.mem_append_right _ (mem_meetings hl hm hp))) with h | h
  · refine ⟨l, fun x hx hy => ?_⟩
    show least (f.value x) (g.value x) = _
    rw [h1 x hx hy, h2 x hx hy]
    have := h x hx hy
    unfold least
    rw [if_pos this]
  · refine ⟨m, fun x hx hy => ?_⟩
    show least (f.value x) (g.value x) = _
    rw [h1 x hx hy, h2 x hx hy]
    have := h x hx hy
    unfold least
    split <;> grind
theorem at_mono {l : Line} (h : 0 ≤ l.s) {x y : Rat} (hxy : x ≤ y) : l.at_ x ≤ l.at_ y := by
  have := Rat.mul_nonneg h (show 0 ≤ y - x by grind)
  simp only [Line.at_]
  grind
theorem at_anti {l : Line} (h : l.s ≤ 0) {x y : Rat} (hxy : x ≤ y) : l.at_ y ≤ l.at_ x := by
  have := Rat.mul_nonneg (show 0 ≤ -l.s by grind) (show 0 ≤ y - x by grind)
  simp only [Line.at_]
  grind
theorem at_strict {l : Line} (h : 0 < l.s) {x y : Rat} : l.at_ x < l.at_ y ↔ x < y := by
  constructor
  · intro hh
    by_cases e : y ≤ x
    · have := at_mono (l := l) (by grind) e
      grind
    · grind
  · intro hh
    have := Rat.mul_pos h (show 0 < y - x by grind)
    simp only [Line.at_]
    grind
theorem at_strictN {l : Line} (h : l.s < 0) {x y : Rat} : l.at_ y < l.at_ x ↔ x < y := by
  constructor
  · intro hh
    by_cases e : y ≤ x
    · have := at_anti (l := l) (by grind) e
      grind
    · grind
  · intro hh
    have := Rat.mul_pos (show 0 < -l.s by grind) (show 0 < y - x by grind)
    simp only [Line.at_]
    grind
def mapO (l : Line) : Option Rat → Option Rat
  | none => none
  | some a => some (l.at_ a)
theorem reach_at {l : Line} (h : l.s ≠ 0) (b : Rat) : l.at_ ((b - l.c) / l.s) = b := by
  simp only [Line.at_]
  grind
theorem plin_compose {f g : Fn} (hf : Canon f) (hg : Canon g) : PLin (fun (x : Rat) => f.value (g.value x)) (g.breaks ++ reaches f g) := fun lo hi hn => by
  obtain ⟨l, hl, h1⟩ := hg.piece (lo := lo) (hi := hi) fun p hp => hn p (List.mem_append_left _ hp)
  have hr : l.s ≠ 0 → ∀ b ∈ f.breaks, ¬ inside lo hi ((b - l.c) / l.s) := fun hs b hb => hn _ (List.mem_append_right _ (by
    unfold reaches
    refine List.mem_flatMap.mpr ⟨l, hl, ?_⟩
    rw [if_neg hs]
    exact List.mem_map.mpr ⟨b, hb, rfl⟩))
  have go : ∀ lo' hi' : Option Rat, (∀ p ∈ f.breaks, ¬ inside lo' hi' p) → (∀ x, leO lo x → geO hi x → leO lo' (l.at_ x) ∧ geO hi' (l.at_ x)) → ∃ m : Line, On (fun (x : Rat) => f.value (g.value x)) lo hi m := fun lo' hi' h2 h3 => by
    obtain ⟨m, _, h4⟩ := hf.piece (lo := lo') (hi := hi') h2
    refine ⟨⟨m.s * l.s, m.s * l.c + m.c⟩, fun x hx hy => ?_⟩
    show f.value (g.value x) = _
    rw [h1 x hx hy, h4 _ (h3 x hx hy).1 (h3 x hx hy).2]
    simp only [Line.at_]
    grind
  by_cases hs : l.s = 0
  · refine go (some l.c) (some l.c) (fun p _ => by simp only [inside, ltO]; grind) (fun x _ _ => ?_)
    simp only [leO, geO, Line.at_, hs]
    constructor <;> grind
  · rcases Rat.le_total (a := 0) (b := l.s) with h | h
    · have hp : 0 < l.s := by grind
      refine go (mapO l lo) (mapO l hi) (fun p hp' hi' => hr hs p hp' ?_) (fun x hx hy => ?_)
      · have e := reach_at hs p
        obtain ⟨i1, i2⟩ := hi'
        constructor
        · cases lo with
          | none => trivial
          | some a => simp only [mapO, ltO] at *; rw [← e] at i1; exact (at_strict hp).mp i1
        · cases hi with
          | none => trivial
          | some a => simp only [mapO, ltO] at *; rw [← e] at i2; exact (at_strict hp).mp i2
      · constructor
        · cases lo with
          | none => trivial
          | some a => exact at_mono h hx
        · cases hi with
          | none => trivial
          | some a => exact at_mono h hy
    · have hp : l.s < 0 := by grind
      refine go (mapO l hi) (mapO l lo) (fun p hp' hi' => hr hs p hp' ?_) (fun x hx hy => ?_)
      · have e := reach_at hs p
        obtain ⟨i1, i2⟩ := hi'
        constructor
        · cases lo with
          | none => trivial
          | some a => simp only [mapO, ltO] at *; rw [← e] at i2; exact (at_strictN hp).mp i2
        · cases hi with
          | none => trivial
          | some a => simp only [mapO, ltO] at *; rw [← e] at i1; exact (at_strictN hp).mp i1
      · constructor
        · cases hi with
          | none => trivial
          | some a => exact at_anti h hy
        · cases lo with
          | none => trivial
          | some a => exact at_anti h hx
end Mt
end
section
set_option Elab.async false
namespace Mt
open Pl
def draw (f : Fn) (left : Option Rat) (l : Line) : Option Fn :=
  if f.lines.getLast? = some l then some f
  else if f.lines.length = 32 then none
  else if small l.s 32767 = false then none
  else if small l.c 2147483647 = false then none
  else if f.lines = [] then some ⟨f.breaks, f.lines ++ [l]⟩
  else match left with
    | none => none
    | some b => if small b 2147483647 = false then none else some ⟨f.breaks ++ [b], f.lines ++ [l]⟩
def drawAll : Fn → List (Option Rat × Line) → Option Fn
  | f, [] => some f
  | f, p :: r => match draw f p.1 p.2 with
    | none => none
    | some g => drawAll g r
def fitted (g : Fn) : Option Fn := if fits g = true then some g else none
theorem drawAll_app : ∀ (a b : List (Option Rat × Line)) (f : Fn), drawAll f (a ++ b) = (drawAll f a).bind fun g => drawAll g b
  | [], b, f => rfl
  | p :: a, b, f => by
    simp only [List.cons_append, drawAll]
    cases draw f p.1 p.2 with
    | none => rfl
    | some g => exact drawAll_app a b g
def ties (r : List (Rat × Line)) : List (Option Rat × Line) := r.map fun p => (some p.1, p.2)
theorem fits_iff (l : Line) (s : List (Rat × Line)) : fits (fnOf l s) = true ↔ (s.length + 1 ≤ 32 ∧ (small l.s 32767 = true ∧ small l.c 2147483647 = true) ∧ (∀ p ∈ s, small p.2.s 32767 = true ∧ small p.2.c 2147483647 = true) ∧ ∀ p ∈ s, small p.1 2147483647 = true) := by
  simp [fits, fnOf, PIECES, STEEP, WIDE, and_assoc]
theorem not_fits {l : Line} {s : List (Rat × Line)} (h : ¬ fits (fnOf l s) = true) : fitted (fnOf l s) = none := by
  unfold fitted
  rw [if_neg h]
theorem lines_last (l : Line) (s : List (Rat × Line)) (p : Rat × Line) : (fnOf l (s ++ [p])).lines.getLast? = some p.2 := by
  simp [fnOf, List.getLast?_cons]
theorem draw_app (l : Line) (s : List (Rat × Line)) (m : Line) (hm : (fnOf l s).lines.getLast? = some m) (hf : fits (fnOf l s) = true) (p : Rat × Line) (e : p.2 ≠ m) :
    draw (fnOf l s) (some p.1) p.2 = fitted (fnOf l (s ++ [p])) := by
  have h := (fits_iff l s).mp hf
  unfold draw
  rw [hm, if_neg (by simpa using fun z => e z.symm)]
  have hlen : (fnOf l s).lines.length = s.length + 1 := by simp [fnOf]
  rw [hlen]
  by_cases h1 : s.length + 1 = 32
  · rw [if_pos h1, not_fits]
    rw [fits_iff]
    simp
    omega
  rw [if_neg h1]
  by_cases h2 : small p.2.s 32767 = false
  · rw [if_pos h2, not_fits]
    rw [fits_iff]
    rintro ⟨_, _, h3, _⟩
    have := (h3 p (by simp)).1
    rw [h2] at this
    cases this
  rw [if_neg h2]
  by_cases h3 : small p.2.c 2147483647 = false
  · rw [if_pos h3, not_fits]
    rw [fits_iff]
    rintro ⟨_, _, h4, _⟩
    have := (h4 p (by simp)).2
    rw [h3] at this
    cases this
  rw [if_neg h3, if_neg (by simp [fnOf])]
  simp only
  by_cases h4 : small p.1 2147483647 = false
  · rw [if_pos h4, not_fits]
    rw [fits_iff]
    rintro ⟨_, _, _, h5⟩
    have := h5 p (by simp)
    rw [h4] at this
    cases this
  rw [if_neg h4]
  have hfit : fits (fnOf l (s ++ [p])) = true := by
    rw [fits_iff]
    refine ⟨by simp; omega, h.2.1, fun q hq => ?_, fun q hq => ?_⟩
    · rcases List.mem_append.mp hq with hq | hq
      · exact h.2.2.1 q hq
      · have := List.mem_singleton.mp hq
        subst this
        exact ⟨by simpa using h2, by simpa using h3⟩
    · rcases List.mem_append.mp hq with hq | hq
      · exact h.2.2.2 q hq
      · have := List.mem_singleton.mp hq
        subst this
        simpa using h4
  unfold fitted
  rw [if_pos hfit]
  simp [fnOf]
theorem drawAll_ties : ∀ (r : List (Rat × Line)) (l : Line) (s : List (Rat × Line)) (m : Line), (fnOf l s).lines.getLast? = some m → fits (fnOf l s) = true → drawAll (fnOf l s) (ties r) = fitted (fnOf l (s ++ shortened m r))
  | [], l, s, m, hm, hf => by
    simp only [ties, List.map_nil, drawAll, shortened, List.append_nil, fitted]
    rw [if_pos hf]
  | p :: r, l, s, m, hm, hf => by
    simp only [ties, List.map_cons, drawAll, shortened]
    by_cases e : p.2 = m
    · have hd : draw (fnOf l s) (some p.1) p.2 = some (fnOf l s) := by
        unfold draw
        rw [hm, if_pos (by rw [e])]
      rw [hd, if_pos e]
      exact drawAll_ties r l s m hm hf
    · rw [draw_app l s m hm hf p e, if_neg e]
      by_cases hf2 : fits (fnOf l (s ++ [p])) = true
      · unfold fitted
        rw [if_pos hf2]
        simp only
        have := drawAll_ties r l (s ++ [p]) p.2 (lines_last l s p) hf2
        rw [ties] at this
        rw [this, List.append_assoc]
        rfl
      · unfold fitted
        rw [if_neg hf2]
        simp only
        rw [if_neg]
        intro h
        apply hf2
        rw [fits_iff] at h ⊢
        refine ⟨by have := h.1; simp at this ⊢; omega, h.2.1, fun q hq => h.2.2.1 q ?_, fun q hq => h.2.2.2 q ?_⟩
        · simp at hq ⊢; rcases hq with hq | hq
          · exact .inl hq
          · exact .inr (.inl hq)
        · simp at hq ⊢; rcases hq with hq | hq
          · exact .inl hq
          · exact .inr (.inl hq)
def noFn : Fn := ⟨[], []⟩
theorem drawAll_new (lo : Option Rat) (l : Line) (r : List (Rat × Line)) : drawAll noFn ((lo, l) :: ties r) = fitted (fnOf l (shortened l r)) := by
  have hs : fits (fnOf l []) = true ↔ small l.s 32767 = true ∧ small l.c 2147483647 = true := by
    rw [fits_iff]
    simp
  have bad : ¬ fits (fnOf l []) = true → fitted (fnOf l (shortened l r)) = none := fun h => not_fits fun h2 => h (by
    rw [fits_iff] at h2 ⊢
    exact ⟨by simp, h2.2.1, by simp, by simp⟩)
  simp only [drawAll]
  unfold draw
  rw [if_neg (by simp [noFn]), if_neg (by simp [noFn])]
  by_cases h1 : small l.s 32767 = false
  · rw [if_pos h1, bad (by rw [hs, h1]; simp)]
  rw [if_neg h1]
  by_cases h2 : small l.c 2147483647 = false
  · rw [if_pos h2, bad (by rw [hs, h2]; simp)]
  rw [if_neg h2, if_pos (by rfl)]
  have := drawAll_ties r l [] l (by rfl) (hs.mpr ⟨by simpa using h1, by simpa using h2⟩)
  exact this
def Cov (v : Rat → Rat) : Option Rat → Option Rat → List (Option Rat × Line) → Prop
  | _, _, [] => False
  | lo, hi, [p] => p.1 = lo ∧ ltO lo hi ∧ On v lo hi p.2
  | lo, hi, p :: q :: r => p.1 = lo ∧ ∃ m, q.1 = some m ∧ ltO lo (some m) ∧ On v lo (some m) p.2 ∧ Cov v (some m) hi (q :: r)
theorem Cov.head {v : Rat → Rat} : ∀ {a : List (Option Rat × Line)} {lo hi : Option Rat}, Cov v lo hi a → ∃ l t, a = (lo, l) :: t
  | [], _, _, h => h.elim
  | [p], _, _, h => ⟨p.2, [], by rw [← h.1]⟩
  | p :: q :: r, _, _, h => ⟨p.2, q :: r, by rw [← h.1]⟩
theorem Cov.app {v : Rat → Rat} {hi : Option Rat} {m : Rat} {b : List (Option Rat × Line)} (hb : Cov v (some m) hi b) : ∀ {a : List (Option Rat × Line)} {lo : Option Rat}, Cov v lo (some m) a → Cov v lo hi (a ++ b)
  | [], _, h => h.elim
  | [p], lo, h => by
    obtain ⟨l, t, rfl⟩ := hb.head
    exact ⟨h.1, m, rfl, h.2.1, h.2.2, hb⟩
  | p :: q :: r, lo, h => by
    obtain ⟨h1, m', h2, h3, h4, h5⟩ := h
    exact ⟨h1, m', h2, h3, h4, Cov.app hb h5⟩
theorem Cov.laid {v : Rat → Rat} : ∀ {a : List (Option Rat × Line)} {lo : Option Rat}, Cov v lo none a → ∃ l r, a = (lo, l) :: ties r ∧ Laid v lo l r
  | [], _, h => h.elim
  | [p], lo, h => ⟨p.2, [], by rw [← h.1]; rfl, h.2.2⟩
  | p :: q :: r, lo, h => by
    obtain ⟨h1, m, h2, h3, h4, h5⟩ := h
    obtain ⟨l, t, e, hl⟩ := Cov.laid h5
    refine ⟨p.2, (m, l) :: t, ?_, h3, h4, hl⟩
    rw [e, ← h1]
    rfl
theorem cov_drawn {v : Rat → Rat} {ps : List Rat} {a : List (Option Rat × Line)} (h : PLin v ps) (c : Cov v none none a) : drawAll noFn a = fitted (build v ps) := by
  obtain ⟨l, r, rfl, hl⟩ := c.laid
  rw [drawAll_new, build_eq h hl]
def Span {α : Type} (P : Option Rat → Option Rat → α → Prop) : Option Rat → Option Rat → List (Option Rat × Option Rat × α) → Prop
  | _, _, [] => False
  | lo, hi, [p] => p.1 = lo ∧ p.2.1 = hi ∧ ltO lo hi ∧ P lo hi p.2.2
  | lo, hi, p :: q :: r => p.1 = lo ∧ ∃ m, p.2.1 = some m ∧ ltO lo (some m) ∧ P lo (some m) p.2.2 ∧ Span P (some m) hi (q :: r)
theorem Span.one {α : Type} {P : Option Rat → Option Rat → α → Prop} {lo hi : Option Rat} {x : α} (h : ltO lo hi) (hp : P lo hi x) : Span P lo hi [(lo, hi, x)] := ⟨rfl, rfl, h, hp⟩
theorem Span.cons {α : Type} {P : Option Rat → Option Rat → α → Prop} {lo hi : Option Rat} {m : Rat} {x : α} (h : ltO lo (some m)) (hp : P lo (some m) x) : ∀ {r : List (Option Rat × Option Rat × α)}, Span P (some m) hi r → Span P lo hi ((lo, some m, x) :: r)
  | [], hs => hs.elim
  | _ :: _, hs => ⟨rfl, m, rfl, h, hp, hs⟩
theorem Span.cov {α : Type} {P : Option Rat → Option Rat → α → Prop} {v : Rat → Rat} {d : Option Rat → Option Rat → α → List (Option Rat × Line)} (hd : ∀ a b x, ltO a b → P a b x → Cov v a b (d a b x)) :
    ∀ {s : List (Option Rat × Option Rat × α)} {lo hi : Option Rat}, Span P lo hi s → Cov v lo hi (s.flatMap fun p => d p.1 p.2.1 p.2.2)
  | [], _, _, h => h.elim
  | [p], lo, hi, h => by
    obtain ⟨p1, p2, p3⟩ := p
    obtain ⟨rfl, rfl, h3, h4⟩ := h
    simp only [List.flatMap_cons, List.flatMap_nil, List.append_nil]
    exact hd _ _ _ h3 h4
  | p :: q :: r, lo, hi, h => by
    obtain ⟨p1, p2, p3⟩ := p
    obtain ⟨rfl, m, rfl, h3, h4, h5⟩ := h
    rw [List.flatMap_cons]
    exact Cov.app (Span.cov hd h5) (hd _ _ _ h3 h4)
def pieces : Option Rat → Line → List (Rat × Line) → List (Option Rat × Option Rat × Line)
  | lo, l, [] => [(lo, none, l)]
  | lo, l, p :: r => (lo, some p.1, l) :: pieces (some p.1) p.2 r
theorem Laid.pieces {v : Rat → Rat} : ∀ {r : List (Rat × Line)} {lo : Option Rat} {l : Line}, Laid v lo l r → Span (On v) lo none (Mt.pieces lo l r)
  | [], lo, l, h => Span.one (by cases lo <;> trivial) h
  | p :: r, lo, l, h => Span.cons h.1 h.2.1 (Laid.pieces h.2.2)
def shared : Option Rat → Line → List (Rat × Line) → Line → List (Rat × Line) → List (Option Rat × Option Rat × Line × Line)
  | lo, l, [], m, [] => [(lo, none, l, m)]
  | lo, l, p :: r, m, [] => (lo, some p.1, l, m) :: shared (some p.1) p.2 r m []
  | lo, l, [], m, q :: t => (lo, some q.1, l, m) :: shared (some q.1) l [] q.2 t
  | lo, l, p :: r, m, q :: t =>
    if p.1 < q.1 then (lo, some p.1, l, m) :: shared (some p.1) p.2 r m (q :: t)
    else if q.1 < p.1 then (lo, some q.1, l, m) :: shared (some q.1) l (p :: r) q.2 t
    else (lo, some q.1, l, m) :: shared (some q.1) p.2 r q.2 t
termination_by _ _ r _ t => r.length + t.length
theorem On.from {v : Rat → Rat} {lo hi : Option Rat} {l : Line} {b : Rat} (h : On v lo hi l) (hb : leO lo b) : On v (some b) hi l := fun x hx hy => h x (leO_mono hb hx) hy
theorem On.upto {v : Rat → Rat} {lo : Option Rat} {l : Line} {b c : Rat} (h : On v lo (some c) l) (hb : b ≤ c) : On v lo (some b) l := fun x hx hy => h x hx (by simp only [geO] at *; grind)
theorem On.upto' {v : Rat → Rat} {lo : Option Rat} {l : Line} {c : Option Rat} (h : On v lo none l) : On v lo c l := fun x hx _ => h x hx trivial
theorem Laid.from {v : Rat → Rat} {r : List (Rat × Line)} {lo : Option Rat} {l : Line} {b : Rat} (h : Laid v lo l r) (hb : leO lo b) (hr : ltO (some b) (firstB r)) : Laid v (some b) l r := by
  cases r with
  | nil => exact On.from h hb
  | cons p r => exact ⟨hr, h.2.1.from hb, h.2.2⟩
theorem shared_span {v w : Rat → Rat} : ∀ {r t : List (Rat × Line)} {lo : Option Rat} {l m : Line}, Laid v lo l r → Laid w lo m t → Span (fun a b (x : Line × Line) => On v a b x.1 ∧ On w a b x.2) lo none (shared lo l r m t)
  | [], [], lo, l, m, h, k => by
    rw [shared]
    exact Span.one (by cases lo <;> trivial) ⟨h, k⟩
  | p :: r, [], lo, l, m, h, k => by
    rw [shared]
    exact Span.cons h.1 ⟨h.2.1, On.upto' k⟩ (shared_span h.2.2 (Laid.from k (leO_lt h.1) trivial))
  | [], q :: t, lo, l, m, h, k => by
    rw [shared]
    exact Span.cons k.1 ⟨On.upto' h, k.2.1⟩ (shared_span (Laid.from h (leO_lt k.1) trivial) k.2.2)
  | p :: r, q :: t, lo, l, m, h, k => by
    rw [shared]
    by_cases h1 : p.1 < q.1
    · rw [if_pos h1]
      exact Span.cons h.1 ⟨h.2.1, k.2.1.upto (by grind)⟩ (shared_span h.2.2 (Laid.from k (leO_lt h.1) h1))
    · rw [if_neg h1]
      by_cases h2 : q.1 < p.1
      · rw [if_pos h2]
        exact Span.cons k.1 ⟨h.2.1.upto (by grind), k.2.1⟩ (shared_span (Laid.from h (leO_lt k.1) h2) k.2.2)
      · rw [if_neg h2]
        have e : p.1 = q.1 := by grind
        exact Span.cons k.1 ⟨e ▸ h.2.1, k.2.1⟩ (shared_span (e ▸ h.2.2) k.2.2)
termination_by r t => r.length + t.length
def parted : Option Rat → Option Rat → List Rat → List (Option Rat × Option Rat)
  | lo, hi, [] => [(lo, hi)]
  | lo, hi, c :: cs => (lo, some c) :: parted (some c) hi cs
/-- cuts rise between the ends -/
def Cuts : Option Rat → Option Rat → List Rat → Prop
  | lo, hi, [] => ltO lo hi
  | lo, hi, c :: cs => ltO lo (some c) ∧ Cuts (some c) hi cs
theorem Cuts.lt : ∀ {cs : List Rat} {lo hi : Option Rat}, Cuts lo hi cs → ltO lo hi
  | [], _, _, h => h
  | _ :: _, _, _, h => ltO_trans h.1 (Cuts.lt h.2)
theorem Cuts.gt : ∀ {cs : List Rat} {lo : Rat} {hi : Option Rat}, Cuts (some lo) hi cs → ∀ c ∈ cs, lo < c
  | [], _, _, _, c, hc => nomatch hc
  | a :: cs, lo, hi, h, c, hc => by
    have h1 : lo < a := h.1
    rcases List.mem_cons.mp hc with rfl | hc
    · exact h1
    · have := Cuts.gt h.2 c hc
      grind
theorem parted_cov {v : Rat → Rat} {d : Option Rat → Option Rat → Line} {hi : Option Rat} : ∀ {cs : List Rat} {lo : Option Rat}, Cuts lo hi cs → (∀ a b, ltO a b → (∀ c ∈ cs, ¬ inside a b c) → (∀ x, leO a x → leO lo x) → (∀ x, geO b x → geO hi x) → On v a b (d a b)) →
    Cov v lo hi ((parted lo hi cs).map fun p => (p.1, d p.1 p.2))
  | [], lo, c, h => ⟨rfl, c, h lo hi c (by simp) (fun _ z => z) (fun _ z => z)⟩
  | a :: cs, lo, c, h => by
    have hc := c.2.lt
    have h1 : On v lo (some a) (d lo (some a)) := h lo (some a) c.1 (fun x hx => by
      rcases List.mem_cons.mp hx with rfl | hx
      · simp only [inside, ltO]; grind
      · have := c.2.gt x hx
        simp only [inside, ltO]; grind) (fun _ z => z) (fun x hx => by
        cases hi with
        | none => trivial
        | some b => simp only [geO, ltO] at *; grind)
    have h2 : Cov v (some a) hi ((parted (some a) hi cs).map fun p => (p.1, d p.1 p.2)) := parted_cov c.2 fun a' b' i1 i2 i3 i4 => h a' b' i1 (fun x hx => by
      rcases List.mem_cons.mp hx with rfl | hx
      · cases a' with
        | none => exact absurd (i3 (x - 1) trivial) (by simp only [leO]; grind)
        | some y =>
          have := i3 y (show y ≤ y by grind)
          simp only [leO, inside, ltO] at *; grind
      · exact i2 x hx) (fun x hx => leO_mono (leO_lt c.1) (i3 x hx)) i4
    exact Cov.app (a := [(lo, d lo (some a))]) h2 ⟨rfl, c.1, h1⟩
def placeIn : Option Rat → Option Rat → Rat
  | none, none => 0
  | none, some b => b - 1
  | some a, none => a + 1
  | some a, some b => (a + b) * (1 / 2)
theorem placeIn_inside {a b : Option Rat} (h : ltO a b) : inside a b (placeIn a b) := by
  cases a <;> cases b <;> simp only [inside, ltO, placeIn] at * <;> grind
theorem inside_le {a b : Option Rat} {p : Rat} (h : inside a b p) : leO a p ∧ geO b p := ⟨leO_lt h.1, geO_lt h.2⟩
theorem same_of_meet {l m : Line} {lo hi : Option Rat} {x : Rat} (h : ∀ p ∈ meets l m, ¬ inside lo hi p) (hx : inside lo hi x) (e : l.at_ x = m.at_ x) : l = m := by
  unfold meets at h
  by_cases es : l.s = m.s
  · obtain ⟨ls, lc⟩ := l
    obtain ⟨ms, mc⟩ := m
    simp only [Line.at_] at *
    subst es
    have : lc = mc := by grind
    rw [this]
  · rw [if_neg es] at h
    have h := h _ (List.mem_singleton.mpr rfl)
    exfalso
    apply h
    have : (m.c - l.c) / (l.s - m.s) = x := by
      simp only [Line.at_] at e
      have hd : l.s - m.s ≠ 0 := by grind
      grind
    rw [this]
    exact hx
/-- the line that is chosen of two by their heights at a place inside -/
def chosen (g : Bool) (l m : Line) (a b : Option Rat) : Line := if decide (l.at_ (placeIn a b) < m.at_ (placeIn a b)) = g then m else l
theorem chosen_great {v w : Rat → Rat} {l m : Line} {a b : Option Rat} (hab : ltO a b) (h : ∀ p ∈ meets l m, ¬ inside a b p) (hv : On v a b l) (hw : On w a b m) : On (fun x => greatest (v x) (w x)) a b (chosen true l m a b) := fun x hx hy => by
  show greatest (v x) (w x) = _
  rw [hv x hx hy, hw x hx hy]
  have hi := placeIn_inside hab
  obtain ⟨i1, i2⟩ := inside_le hi
  unfold chosen
  by_cases e : l.at_ (placeIn a b) < m.at_ (placeIn a b)
  · rw [if_pos (by simpa using e)]
    rcases ordered h with o | o
    · unfold greatest; rw [if_pos (o x hx hy)]
    · have := o _ i1 i2; grind
  · rw [if_neg (by simpa using e)]
    rcases ordered h with o | o
    · have : l = m := same_of_meet h hi (by have := o _ i1 i2; grind)
      subst this
      unfold greatest; split <;> rfl
    · have := o x hx hy
      unfold greatest; split <;> grind
theorem chosen_less {v w : Rat → Rat} {l m : Line} {a b : Option Rat} (hab : ltO a b) (h : ∀ p ∈ meets l m, ¬ inside a b p) (hv : On v a b l) (hw : On w a b m) : On (fun x => least (v x) (w x)) a b (chosen false l m a b) := fun x hx hy => by
  show least (v x) (w x) = _
  rw [hv x hx hy, hw x hx hy]
  have hi := placeIn_inside hab
  obtain ⟨i1, i2⟩ := inside_le hi
  unfold chosen
  by_cases e : l.at_ (placeIn a b) < m.at_ (placeIn a b)
  · rw [if_neg (by simpa using e)]
    rcases ordered h with o | o
    · unfold least; rw [if_pos (o x hx hy)]
    · have := o _ i1 i2; grind
  · rw [if_pos (by simpa using e)]
    rcases ordered h with o | o
    · have : l = m := same_of_meet h hi (by have := o _ i1 i2; grind)
      subst this
      unfold least; split <;> rfl
    · have := o x hx hy
      unfold least; split <;> grind
def isIn (p : Rat) (a b : Option Rat) : Bool := (match a with | none => true | some x => decide (x < p)) && (match b with | none => true | some y => decide (p < y))
theorem isIn_iff {p : Rat} {a b : Option Rat} : isIn p a b = true ↔ inside a b p := by
  cases a <;> cases b <;> simp [isIn, inside, ltO]
def cuts2 (a b : Option Rat) (l m : Line) : List Rat := (meets l m).filter fun p => isIn p a b
theorem cuts2_cuts {a b : Option Rat} {l m : Line} (h : ltO a b) : Cuts a b (cuts2 a b l m) ∧ ∀ a' b', (∀ x, leO a' x → leO a x) → (∀ x, geO b' x → geO b x) → (∀ c ∈ cuts2 a b l m, ¬ inside a' b' c) → ∀ p ∈ meets l m, ¬ inside a' b' p := by
  constructor
  · unfold cuts2 meets
    split
    · exact h
    · rw [List.filter_cons]
      split
      · rename_i _ h2
        have := isIn_iff.mp h2
        exact this
      · exact h
  · intro a' b' h1 h2 h3 p hp hin
    refine h3 p ?_ hin
    unfold cuts2
    rw [List.mem_filter]
    refine ⟨hp, isIn_iff.mpr ?_⟩
    obtain ⟨i1, i2⟩ := hin
    constructor
    · cases a with
      | none => trivial
      | some x =>
        cases a' with
        | none => exact absurd (h1 (x - 1) trivial) (by simp only [leO]; grind)
        | some y =>
          have := h1 y (show y ≤ y by grind)
          simp only [ltO, leO] at *; grind
    · cases b with
      | none => trivial
      | some x =>
        cases b' with
        | none => exact absurd (h2 (x + 1) trivial) (by simp only [geO]; grind)
        | some y =>
          have := h2 y (show y ≤ y by grind)
          simp only [ltO, geO] at *; grind
def sumLine (l m : Line) : Line := ⟨l.s + m.s, l.c + m.c⟩
def mulLine (l : Line) (k : Rat) : Line := ⟨l.s * k, l.c * k⟩
def addDraws (l : Line) (r : List (Rat × Line)) (m : Line) (t : List (Rat × Line)) : List (Option Rat × Line) := (shared none l r m t).flatMap fun p => [(p.1, sumLine p.2.2.1 p.2.2.2)]
def scaleDraws (k : Rat) (l : Line) (r : List (Rat × Line)) : List (Option Rat × Line) := (pieces none l r).flatMap fun p => [(p.1, mulLine p.2.2 k)]
def chooseDraws (g : Bool) (l : Line) (r : List (Rat × Line)) (m : Line) (t : List (Rat × Line)) : List (Option Rat × Line) :=
  (shared none l r m t).flatMap fun p => (parted p.1 p.2.1 (cuts2 p.1 p.2.1 p.2.2.1 p.2.2.2)).map fun q => (q.1, chosen g p.2.2.1 p.2.2.2 q.1 q.2)
theorem add_cov {l m : Line} {r t : List (Rat × Line)} (c : Chain none l r) (d : Chain none m t) : Cov (fun x => (fnOf l r).value x + (fnOf m t).value x) none none (addDraws l r m t) := by
  have hl := (Laid.of_chain c).congr fun x => (value_fnOf c x).symm
  have hm := (Laid.of_chain d).congr fun x => (value_fnOf d x).symm
  refine Span.cov (d := fun a _ x => [(a, sumLine x.1 x.2)]) (fun a b x hab hp => ⟨rfl, hab, fun y hy hz => ?_⟩) (shared_span hl hm)
  show (fnOf l r).value y + (fnOf m t).value y = _
  rw [hp.1 y hy hz, hp.2 y hy hz]
  simp only [Line.at_, sumLine]
  grind
theorem add_drawn {l m : Line} {r t : List (Rat × Line)} (c : Chain none l r) (d : Chain none m t) : drawAll noFn (addDraws l r m t) = fitted (Pl.add (fnOf l r) (fnOf m t)) := cov_drawn (plin_add ⟨l, r, rfl, c⟩ ⟨m, t, rfl, d⟩) (add_cov c d)
theorem scale_cov {l : Line} {r : List (Rat × Line)} (k : Rat) (c : Chain none l r) : Cov (fun x => k * (fnOf l r).value x) none none (scaleDraws k l r) := by
  have hl := (Laid.of_chain c).congr fun x => (value_fnOf c x).symm
  refine Span.cov (d := fun a _ x => [(a, mulLine x k)]) (fun a b x hab hp => ⟨rfl, hab, fun y hy hz => ?_⟩) hl.pieces
  show k * (fnOf l r).value y = _
  rw [hp y hy hz]
  simp only [Line.at_, mulLine]
  grind
theorem scale_drawn {l : Line} {r : List (Rat × Line)} (k : Rat) (c : Chain none l r) : drawAll noFn (scaleDraws k l r) = fitted (Pl.scale k (fnOf l r)) := cov_drawn (plin_scale k ⟨l, r, rfl, c⟩) (scale_cov k c)
theorem great_cov {l m : Line} {r t : List (Rat × Line)} (c : Chain none l r) (d : Chain none m t) : Cov (fun x => greatest ((fnOf l r).value x) ((fnOf m t).value x)) none none (chooseDraws true l r m t) := by
  have hl := (Laid.of_chain c).congr fun x => (value_fnOf c x).symm
  have hm := (Laid.of_chain d).congr fun x => (value_fnOf d x).symm
  refine Span.cov (d := fun a b x => (parted a b (cuts2 a b x.1 x.2)).map fun q => (q.1, chosen true x.1 x.2 q.1 q.2)) (fun a b x hab hp => ?_) (shared_span hl hm)
  obtain ⟨k1, k2⟩ := cuts2_cuts (l := x.1) (m := x.2) hab
  exact parted_cov k1 fun a' b' i1 i2 i3 i4 => chosen_great i1 (k2 a' b' i3 i4 i2) (fun y hy hz => hp.1 y (i3 y hy) (i4 y hz)) (fun y hy hz => hp.2 y (i3 y hy) (i4 y hz))
theorem great_drawn {l m : Line} {r t : List (Rat × Line)} (c : Chain none l r) (d : Chain none m t) : drawAll noFn (chooseDraws true l r m t) = fitted (Pl.great (fnOf l r) (fnOf m t)) := cov_drawn (plin_great ⟨l, r, rfl, c⟩ ⟨m, t, rfl, d⟩) (great_cov c d)
theorem less_cov {l m : Line} {r t : List (Rat × Line)} (c : Chain none l r) (d : Chain none m t) : Cov (fun x => least ((fnOf l r).value x) ((fnOf m t).value x)) none none (chooseDraws false l r m t) := by
  have hl := (Laid.of_chain c).congr fun x => (value_fnOf c x).symm
  have hm := (Laid.of_chain d).congr fun x => (value_fnOf d x).symm
  refine Span.cov (d := fun a b x => (parted a b (cuts2 a b x.1 x.2)).map fun q => (q.1, chosen false x.1 x.2 q.1 q.2)) (fun a b x hab hp => ?_) (shared_span hl hm)
  obtain ⟨k1, k2⟩ := cuts2_cuts (l := x.1) (m := x.2) hab
  exact parted_cov k1 fun a' b' i1 i2 i3 i4 => chosen_less i1 (k2 a' b' i3 i4 i2) (fun y hy hz => hp.1 y (i3 y hy) (i4 y hz)) (fun y hy hz => hp.2 y (i3 y hy) (i4 y hz))
theorem less_drawn {l m : Line} {r t : List (Rat × Line)} (c : Chain none l r) (d : Chain none m t) : drawAll noFn (chooseDraws false l r m t) = fitted (Pl.less (fnOf l r) (fnOf m t)) := cov_drawn (plin_less ⟨l, r, rfl, c⟩ ⟨m, t, rfl, d⟩) (less_cov c d)
end Mt
end
section
set_option Elab.async false
namespace Mt
open Pl
def lineAt : Line → List (Rat × Line) → Rat → Line
  | l, [], _ => l
  | l, p :: r, y => if y < p.1 then l else lineAt p.2 r y
theorem lineAt_on {v : Rat → Rat} {lo hi : Option Rat} {y : Rat} (hy : inside lo hi y) : ∀ {r : List (Rat × Line)} {lo0 : Option Rat} {l : Line}, Laid v lo0 l r → (∀ x, leO lo x → leO lo0 x) → (∀ p ∈ r.map (fun x => x.1), ¬ inside lo hi p) → On v lo hi (lineAt l r y)
  | [], lo0, l, h, h0, _ => fun x hx _ => h x (h0 x hx) trivial
  | p :: r, lo0, l, h, h0, hn => by
    simp only [lineAt]
    have hp := hn p.1 (by simp)
    by_cases e : y < p.1
    · rw [if_pos e]
      have h1 : ltO lo (some p.1) := ltO_trans hy.1 e
      intro x hx hz
      refine h.2.1 x (h0 x hx) ?_
      cases hi with
      | none => exact absurd ⟨h1, trivial⟩ hp
      | some z =>
        have : ¬ ltO (some p.1) (some z) := fun q => hp ⟨h1, q⟩
        simp only [geO, ltO] at *; grind
    · rw [if_neg e]
      have h2 : ltO (some p.1) hi := by
        have := hy.2
        cases hi with
        | none => trivial
        | some z => simp only [ltO] at *; grind
      have h3 : ¬ ltO lo (some p.1) := fun q => hp ⟨q, h2⟩
      obtain ⟨z, rfl, hz⟩ := ltO_or h3
      exact lineAt_on hy h.2.2 (fun x hx => by simp only [leO] at *; grind) (fun q hq => hn q (by simp only [List.map_cons, List.mem_cons]; exact .inr hq))
theorem lineAt_at {v : Rat → Rat} {y : Rat} : ∀ {r : List (Rat × Line)} {lo : Option Rat} {l : Line}, Laid v lo l r → leO lo y → v y = (lineAt l r y).at_ y
  | [], lo, l, h, hy => h y hy trivial
  | p :: r, lo, l, h, hy => by
    simp only [lineAt]
    by_cases e : y < p.1
    · rw [if_pos e]
      exact h.2.1 y hy (show y ≤ p.1 by grind)
    · rw [if_neg e]
      exact lineAt_at h.2.2 (show p.1 ≤ y by grind)
theorem chain_pairwise : ∀ {r : List (Rat × Line)} {lo : Option Rat} {l : Line}, Chain lo l r → (r.map (fun x => x.1)).Pairwise (fun a b => a < b) ∧ ∀ p ∈ r.map (fun x => x.1), ltO lo (some p)
  | [], _, _, _ => ⟨List.Pairwise.nil, by simp⟩
  | p :: r, lo, l, c => by
    obtain ⟨i1, i2⟩ := chain_pairwise c.2.2.2
    refine ⟨List.pairwise_cons.mpr ⟨fun q hq => i2 q hq, i1⟩, fun q hq => ?_⟩
    rcases List.mem_cons.mp hq with rfl | hq
    · exact c.1
    · exact ltO_trans c.1 (i2 q hq)
theorem cuts_of : ∀ {cs : List Rat} {a b : Option Rat}, ltO a b → cs.Pairwise (fun x y => x < y) → (∀ c ∈ cs, inside a b c) → Cuts a b cs
  | [], _, _, h, _, _ => h
  | c :: cs, a, b, h, hp, hi => by
    obtain ⟨p1, p2⟩ := List.pairwise_cons.mp hp
    refine ⟨(hi c (by simp)).1, cuts_of (hi c (by simp)).2 p2 fun d hd => ⟨p1 d hd, (hi d (by simp [hd])).2⟩⟩
def reachCuts (a b : Option Rat) (l : Line) (hs : List Rat) : List Rat :=
  if l.s = 0 then []
  else if 0 < l.s then (hs.filter fun y => isIn y (mapO l a) (mapO l b)).map fun y => (y - l.c) / l.s
  else (hs.reverse.filter fun y => isIn y (mapO l b) (mapO l a)).map fun y => (y - l.c) / l.s
theorem reach_inside {l : Line} (h : 0 < l.s) {a b : Option Rat} {y : Rat} : inside (mapO l a) (mapO l b) y ↔ inside a b ((y - l.c) / l.s) := by
  have e := reach_at (l := l) (by grind) y
  generalize (y - l.c) / l.s = x at e
  subst e
  unfold inside
  have k1 : ltO (mapO l a) (some (l.at_ x)) ↔ ltO a (some x) := by
    cases a with
    | none => exact Iff.rfl
    | some z => exact at_strict h
  have k2 : ltO (some (l.at_ x)) (mapO l b) ↔ ltO (some x) b := by
    cases b with
    | none => exact Iff.rfl
    | some z => exact at_strict h
  rw [k1, k2]
theorem reach_insideN {l : Line} (h : l.s < 0) {a b : Option Rat} {y : Rat} : inside (mapO l b) (mapO l a) y ↔ inside a b ((y - l.c) / l.s) := by
  have e := reach_at (l := l) (by grind) y
  generalize (y - l.c) / l.s = x at e
  subst e
  unfold inside
  have k1 : ltO (some (l.at_ x)) (mapO l a) ↔ ltO a (some x) := by
    cases a with
    | none => exact Iff.rfl
    | some z => exact at_strictN h
  have k2 : ltO (mapO l b) (some (l.at_ x)) ↔ ltO (some x) b := by
    cases b with
    | none => exact Iff.rfl
    | some z => exact at_strictN h
  rw [k1, k2]
  exact And.comm
theorem reachCuts_cuts {a b : Option Rat} {l : Line} {hs : List Rat} (h : ltO a b) (hp : hs.Pairwise fun x y => x < y) : Cuts a b (reachCuts a b l hs) ∧ (l.s ≠ 0 → ∀ y ∈ hs, inside a b ((y - l.c) / l.s) → (y - l.c) / l.s ∈ reachCuts a b l hs) := by
  unfold reachCuts
  by_cases e : l.s = 0
  · rw [if_pos e]
    exact ⟨h, fun z => absurd e z⟩
  rw [if_neg e]
  by_cases e2 : 0 < l.s
  · rw [if_pos e2]
    refine ⟨cuts_of h ?_ ?_, fun _ y hy hi => List.mem_map.mpr ⟨y, List.mem_filter.mpr ⟨hy, isIn_iff.mpr ((reach_inside e2).mpr hi)⟩, rfl⟩⟩
    · rw [List.pairwise_map]
      refine (hp.filter _).imp fun {x y} hxy => ?_
      refine (at_strict e2).mp ?_
      rw [reach_at e, reach_at e]
      exact hxy
    · intro c hc
      obtain ⟨y, hy, rfl⟩ := List.mem_map.mp hc
      exact (reach_inside e2).mp (isIn_iff.mp (List.mem_filter.mp hy).2)
  · have e3 : l.s < 0 := by grind
    rw [if_neg e2]
    refine ⟨cuts_of h ?_ ?_, fun _ y hy hi => List.mem_map.mpr ⟨y, List.mem_filter.mpr ⟨List.mem_reverse.mpr hy, isIn_iff.mpr ((reach_insideN e3).mpr hi)⟩, rfl⟩⟩
    · rw [List.pairwise_map]
      refine ((List.pairwise_reverse.mpr hp).filter _).imp fun {x y} hxy => ?_
      refine (at_strictN e3).mp ?_
      rw [reach_at e, reach_at e]
      exact hxy
    · intro c hc
      obtain ⟨y, hy, rfl⟩ := List.mem_map.mp hc
      exact (reach_insideN e3).mp (isIn_iff.mp (List.mem_filter.mp hy).2)
def afterLine (o i : Line) : Line := ⟨o.s * i.s, o.at_ i.c⟩
def composeDraws (l : Line) (r : List (Rat × Line)) (m : Line) (t : List (Rat × Line)) : List (Option Rat × Line) :=
  (pieces none m t).flatMap fun p => (parted p.1 p.2.1 (reachCuts p.1 p.2.1 p.2.2 (r.map fun x => x.1))).map fun q => (q.1, afterLine (lineAt l r (p.2.2.at_ (placeIn q.1 q.2))) p.2.2)
theorem sub_inside {a b a' b' : Option Rat} {x : Rat} (h1 : ∀ x, leO a' x → leO a x) (h2 : ∀ x, geO b' x → geO b x) (h : inside a' b' x) : inside a b x := by
  obtain ⟨i1, i2⟩ := h
  constructor
  · cases a with
    | none => trivial
    | some z =>
      cases a' with
      | none => exact absurd (h1 (z - 1) trivial) (by simp only [leO]; grind)
      | some y =>
        have := h1 y (show y ≤ y by grind)
        simp only [ltO, leO] at *; grind
  · cases b with
    | none => trivial
    | some z =>
      cases b' with
      | none => exact absurd (h2 (z + 1) trivial) (by simp only [geO]; grind)
      | some y =>
        have := h2 y (show y ≤ y by grind)
        simp only [ltO, geO] at *; grind
theorem after_at (o i : Line) (x : Rat) : (afterLine o i).at_ x = o.at_ (i.at_ x) := by
  simp only [afterLine, Line.at_]
  grind
theorem compose_cov {l m : Line} {r t : List (Rat × Line)} (c : Chain none l r) (d : Chain none m t) : Cov (fun x => (fnOf l r).value ((fnOf m t).value x)) none none (composeDraws l r m t) := by
  have hl := (Laid.of_chain c).congr fun x => (value_fnOf c x).symm
  have hm := (Laid.of_chain d).congr fun x => (value_fnOf d x).symm
  refine Span.cov (d := fun a b x => (parted a b (reachCuts a b x (r.map fun x => x.1))).map fun q => (q.1, afterLine (lineAt l r (x.at_ (placeIn q.1 q.2))) x)) (fun a b x hab hp => ?_) hm.pieces
  obtain ⟨k1, k2⟩ := reachCuts_cuts (l := x) hab (chain_pairwise c).1
  refine parted_cov (d := fun a' b' => afterLine (lineAt l r (x.at_ (placeIn a' b'))) x) k1 fun a' b' i1 i2 i3 i4 y hy hz => ?_
  show (fnOf l r).value ((fnOf m t).value y) = _
  rw [hp y (i3 y hy) (i4 y hz), after_at]
  have hin := placeIn_inside i1
  generalize placeIn a' b' = z at hin
  by_cases e : x.s = 0
  · have e1 : ∀ u, x.at_ u = x.c := fun u => by simp only [Line.at_, e]; grind
    rw [e1 y, e1 z]
    exact lineAt_at hl trivial
  · have nb : ∀ p ∈ r.map (fun x => x.1), ¬ inside a' b' ((p - x.c) / x.s) := fun p hp' hi' => i2 _ (k2 e p hp' (sub_inside i3 i4 hi')) hi'
    by_cases e2 : 0 < x.s
    · refine lineAt_on (lo := mapO x a') (hi := mapO x b') ?_ hl (fun _ _ => trivial) (fun p hp' hi' => nb p hp' ((reach_inside e2).mp hi')) _ ?_ ?_
      · have := (reach_inside e2 (a := a') (b := b') (y := x.at_ z)).mpr
        refine this ?_
        have e3 : (x.at_ z - x.c) / x.s = z := by simp only [Line.at_]; grind
        rw [e3]
        exact hin
      · cases a' with
        | none => trivial
        | some q => exact at_mono (by grind) hy
      · cases b' with
        | none => trivial
        | some q => exact at_mono (by grind) hz
    · have e4 : x.s < 0 := by grind
      refine lineAt_on (lo := mapO x b') (hi := mapO x a') ?_ hl (fun _ _ => trivial) (fun p hp' hi' => nb p hp' ((reach_insideN e4).mp hi')) _ ?_ ?_
      · refine (reach_insideN e4 (a := a') (b := b') (y := x.at_ z)).mpr ?_
        have e3 : (x.at_ z - x.c) / x.s = z := by simp only [Line.at_]; grind
        rw [e3]
        exact hin
      · cases b' with
        | none => trivial
        | some q => exact at_anti (by grind) hz
      · cases a' with
        | none => trivial
        | some q => exact at_anti (by grind) hy
theorem compose_drawn {l m : Line} {r t : List (Rat × Line)} (c : Chain none l r) (d : Chain none m t) : drawAll noFn (composeDraws l r m t) = fitted (Pl.compose (fnOf l r) (fnOf m t)) := cov_drawn (plin_compose ⟨l, r, rfl, c⟩ ⟨m, t, rfl, d⟩) (compose_cov c d)
theorem inv_at {l : Line} (h : l.s ≠ 0) (x : Rat) : (turned l).at_ (l.at_ x) = x := by
  simp only [turned, Line.at_]
  grind
theorem turned_inj {l m : Line} (hl : l.s ≠ 0) (hm : m.s ≠ 0) (h : turned l = turned m) : l = m := by
  obtain ⟨a, b⟩ := l
  obtain ⟨c, d⟩ := m
  simp only [turned, Line.mk.injEq] at *
  obtain ⟨h1, h2⟩ := h
  have e : a = c := by grind
  subst e
  have : b = d := by grind
  exact ⟨rfl, this⟩
theorem canon_single (l : Line) : Canon ⟨[], [l]⟩ := ⟨l, [], rfl, trivial⟩
theorem canon_add {f g : Fn} (hf : Canon f) (hg : Canon g) : Canon (Pl.add f g) := (build_canon (plin_add hf hg)).1
theorem canon_scale {f : Fn} (k : Rat) (hf : Canon f) : Canon (Pl.scale k f) := (build_canon (plin_scale k hf)).1
theorem canon_great {f g : Fn} (hf : Canon f) (hg : Canon g) : Canon (Pl.great f g) := (build_canon (plin_great hf hg)).1
theorem canon_less {f g : Fn} (hf : Canon f) (hg : Canon g) : Canon (Pl.less f g) := (build_canon (plin_less hf hg)).1
theorem canon_compose {f g : Fn} (hf : Canon f) (hg : Canon g) : Canon (Pl.compose f g) := (build_canon (plin_compose hf hg)).1
/-- below, by values -/
theorem below_iff {f g : Fn} (hf : Canon f) (hg : Canon g) : Pl.great f g = g ↔ ∀ x, f.value x ≤ g.value x := by
  have k := build_canon (plin_great hf hg)
  constructor
  · intro e x
    have h1 := k.2 x
    have h2 : (Pl.great f g).value x = greatest (f.value x) (g.value x) := h1
    rw [e] at h2
    unfold greatest at h2
    split at h2 <;> grind
  · intro h
    refine canon_ext k.1 hg fun x => ?_
    have h2 : (Pl.great f g).value x = greatest (f.value x) (g.value x) := k.2 x
    show (Pl.great f g).value x = _
    rw [h2]
    unfold greatest
    rw [if_pos (h x)]
end Mt
end
section
set_option Elab.async false
namespace Mt
open Pl
structure Ix (lo : Option Rat) (bs : List Rat) (ls : List Line) : Prop where
  len : ls.length = bs.length + 1
  rise : bs.Pairwise fun a b => a < b
  low : ∀ b ∈ bs, ltO lo (some b)
  meet : ∀ (i : Nat) (b : Rat), bs[i]? = some b → ∃ l m, ls[i]? = some l ∧ ls[i + 1]? = some m ∧ l ≠ m ∧ l.at_ b = m.at_ b
theorem Ix.chain : ∀ {bs : List Rat} {ls : List Line} {lo : Option Rat}, Ix lo bs ls → ∃ l r, (⟨bs, ls⟩ : Fn) = fnOf l r ∧ Chain lo l r
  | [], ls, lo, h => by
    have := h.len
    match ls, this with
    | [l], _ => exact ⟨l, [], rfl, trivial⟩
  | b :: bs, ls, lo, h => by
    have hl := h.len
    match ls, hl with
    | l :: ls, hl =>
      obtain ⟨p1, p2⟩ := List.pairwise_cons.mp h.rise
      have h' : Ix (some b) bs ls := ⟨by simpa using hl, p2, fun c hc => p1 c hc, fun i c hc => by
        obtain ⟨x, y, h1, h2, h3⟩ := h.meet (i + 1) c (by simpa using hc)
        exact ⟨x, y, by simpa using h1, by simpa using h2, h3⟩⟩
      obtain ⟨m, r, e, c⟩ := Ix.chain h'
      obtain ⟨x, y, h1, h2, h3, h4⟩ := h.meet 0 b (by simp)
      have e1 : bs = r.map (fun x => x.1) := congrArg Fn.breaks e
      have e2 : ls = m :: r.map (fun x => x.2) := congrArg Fn.lines e
      subst e1 e2
      simp at h1 h2
      subst h1 h2
      exact ⟨l, (b, m) :: r, rfl, h.low b (by simp), h3, h4, c⟩
theorem Ix.of_chain : ∀ {r : List (Rat × Line)} {lo : Option Rat} {l : Line}, Chain lo l r → Ix lo (fnOf l r).breaks (fnOf l r).lines
  | [], lo, l, _ => ⟨rfl, List.Pairwise.nil, by simp [fnOf], by simp [fnOf]⟩
  | p :: r, lo, l, c => by
    have ih := Ix.of_chain c.2.2.2
    obtain ⟨q1, q2⟩ := chain_pairwise c
    refine ⟨by simp [fnOf], q1, q2, fun i b hb => ?_⟩
    match i, hb with
    | 0, hb =>
      have e : p.1 = b := by simpa [fnOf] using hb
      subst e
      exact ⟨l, p.2, by simp [fnOf], by simp [fnOf], c.2.1, c.2.2.1⟩
    | i + 1, hb =>
      obtain ⟨x, y, h1, h2, h3⟩ := ih.meet i b (by simpa [fnOf] using hb)
      exact ⟨x, y, by simpa [fnOf] using h1, by simpa [fnOf] using h2, h3⟩
theorem Canon.ix {f : Fn} (h : Canon f) : Ix none f.breaks f.lines := by
  obtain ⟨l, r, rfl, c⟩ := h
  exact Ix.of_chain c
theorem Ix.canon {f : Fn} (h : Ix none f.breaks f.lines) : Canon f := by
  obtain ⟨l, r, e, c⟩ := h.chain
  exact ⟨l, r, e, c⟩
/-- the value at a break is that of the line right of it, and left of it -/
theorem value_break {f : Fn} (h : Canon f) {i : Nat} {b : Rat} {l : Line} (hb : f.breaks[i]? = some b) (hl : f.lines[i]? = some l) : f.value b = l.at_ b := by
  obtain ⟨l0, r, rfl, c⟩ := h
  rw [value_fnOf c]
  have key : ∀ (r : List (Rat × Line)) (l0 : Line) (lo : Option Rat), Chain lo l0 r → ∀ (i : Nat) (b : Rat) (l : Line), (r.map fun x => x.1)[i]? = some b → (l0 :: r.map fun x => x.2)[i]? = some l → val l0 r b = l.at_ b := by
    intro r
    induction r with
    | nil => intro l0 lo c i b l hb; simp at hb
    | cons p r ih =>
      intro l0 lo c i b l hb hl
      obtain ⟨c1, c2, c3, c4⟩ := c
      match i, hb, hl with
      | 0, hb, hl =>
        have e : p.1 = b := by simpa using hb
        have e2 : l0 = l := by simpa using hl
        subst e e2
        rw [val_from (by grind), c3]
        exact (Laid.of_chain c4).at_
      | i + 1, hb, hl =>
        have hb' : (r.map fun x => x.1)[i]? = some b := by simpa using hb
        have hm := List.mem_of_getElem? hb'
        have hlt : p.1 < b := (chain_pairwise c4).2 b hm
        rw [val_from (by grind)]
        exact ih p.2 _ c4 i b l hb' (by simpa using hl)
  exact key r l0 none c i b l hb hl
theorem inverse_up {f : Fn} (h : Canon f) (hr : rises f = true) : Canon (Pl.inverse f) := by
  have I := h.ix
  have hs : ∀ l ∈ f.lines, 0 < l.s := by simpa [rises] using hr
  unfold Pl.inverse
  simp only
  rw [if_pos hr]
  refine Ix.canon ⟨by simpa using I.len, ?_, fun _ _ => trivial, fun i c hc => ?_⟩
  · rw [List.pairwise_iff_getElem]
    intro i j hi hj hij
    simp only [List.length_map] at hi hj
    simp only [List.getElem_map]
    have hb1 : f.breaks[i]? = some f.breaks[i] := List.getElem?_eq_getElem hi
    have hb2 : f.breaks[j]? = some f.breaks[j] := List.getElem?_eq_getElem hj
    have hlt : f.breaks[i] < f.breaks[j] := List.pairwise_iff_getElem.mp I.rise i j hi hj hij
    generalize f.breaks[i] = x at *
    generalize f.breaks[j] = y at *
    have mono : ∀ (r : List (Rat × Line)) (l : Line) (lo : Option Rat), Chain lo l r → (∀ m ∈ l :: r.map (fun x => x.2), 0 < m.s) → ∀ x y, leO lo x → x < y → val l r x < val l r y := by
      intro r
      induction r with
      | nil => intro l lo _ hp x y _ hxy; exact (at_strict (hp l (by simp))).mpr hxy
      | cons p r ih =>
        intro l lo c hp x y hx hxy
        obtain ⟨c1, c2, c3, c4⟩ := c
        have ihp : ∀ m ∈ p.2 :: r.map (fun x => x.2), 0 < m.s := fun m hm => hp m (by simp only [List.map_cons, List.mem_cons] at *; exact .inr hm)
        by_cases h1 : p.1 ≤ x
        · rw [val_from h1, val_from (by grind)]
          exact ih _ _ c4 ihp x y h1 hxy
        · rw [val_before (r := p :: r) (x := x) (by simp only [firstB, ltO]; grind)]
          have hl := hp l (by simp)
          have e1 : l.at_ x < l.at_ p.1 := (at_strict hl).mpr (by grind)
          by_cases h2 : p.1 ≤ y
          · rw [val_from h2]
            have e2 : val p.2 r p.1 = p.2.at_ p.1 := (Laid.of_chain c4).at_
            by_cases h3 : p.1 = y
            · subst h3; rw [e2, ← c3]; exact e1
            · have := ih _ _ c4 ihp p.1 y (show p.1 ≤ p.1 by grind) (by grind)
              rw [e2, ← c3] at this
              grind
          · rw [val_before (r := p :: r) (by simp only [firstB, ltO]; grind)]
            exact (at_strict hl).mpr hxy
    obtain ⟨l, r, rfl, c⟩ := h
    rw [value_fnOf c, value_fnOf c]
    exact mono r l none c hs x y trivial hlt
  · rw [List.getElem?_map] at hc
    obtain ⟨b, hb, rfl⟩ := Option.map_eq_some_iff.mp hc
    obtain ⟨l, m, h1, h2, h3, h4⟩ := I.meet i b hb
    have p1 := hs l (List.mem_of_getElem? h1)
    have p2 := hs m (List.mem_of_getElem? h2)
    have e := value_break h hb h1
    refine ⟨turned l, turned m, by simp [h1], by simp [h2], fun z => h3 (turned_inj (by grind) (by grind) z), ?_⟩
    rw [e, inv_at (by grind), h4, inv_at (by grind)]
theorem inverse_down {f : Fn} (h : Canon f) (hr : falls f = true) : Canon (Pl.inverse f) := by
  have I := h.ix
  have hs : ∀ l ∈ f.lines, l.s < 0 := by simpa [falls] using hr
  have hnr : ¬ rises f = true := by
    intro z
    have hs2 : ∀ l ∈ f.lines, 0 < l.s := by simpa [rises] using z
    have := I.len
    match hf : f.lines, this with
    | l :: _, _ =>
      have a := hs l (by rw [hf]; simp)
      have b := hs2 l (by rw [hf]; simp)
      grind
  unfold Pl.inverse
  simp only
  rw [if_neg hnr]
  have mono : ∀ (r : List (Rat × Line)) (l : Line) (lo : Option Rat), Chain lo l r → (∀ m ∈ l :: r.map (fun x => x.2), m.s < 0) → ∀ x y, leO lo x → x < y → val l r y < val l r x := by
    intro r
    induction r with
    | nil => intro l lo _ hp x y _ hxy; exact (at_strictN (hp l (by simp))).mpr hxy
    | cons p r ih =>
      intro l lo c hp x y hx hxy
      obtain ⟨c1, c2, c3, c4⟩ := c
      have ihp : ∀ m ∈ p.2 :: r.map (fun x => x.2), m.s < 0 := fun m hm => hp m (by simp only [List.map_cons, List.mem_cons] at *; exact .inr hm)
      by_cases h1 : p.1 ≤ x
      · rw [val_from h1, val_from (by grind)]
        exact ih _ _ c4 ihp x y h1 hxy
      · rw [val_before (r := p :: r) (x := x) (by simp only [firstB, ltO]; grind)]
        have hl := hp l (by simp)
        have e1 : l.at_ p.1 < l.at_ x := (at_strictN hl).mpr (by grind)
        by_cases h2 : p.1 ≤ y
        · rw [val_from h2]
          have e2 : val p.2 r p.1 = p.2.at_ p.1 := (Laid.of_chain c4).at_
          by_cases h3 : p.1 = y
          · subst h3; rw [e2, ← c3]; exact e1
          · have := ih _ _ c4 ihp p.1 y (show p.1 ≤ p.1 by grind) (by grind)
            rw [e2, ← c3] at this
            grind
        · rw [val_before (r := p :: r) (by simp only [firstB, ltO]; grind)]
          exact (at_strictN hl).mpr hxy
  have vlt : ∀ x y, x < y → f.value y < f.value x := by
    intro x y hxy
    obtain ⟨l, r, rfl, c⟩ := h
    rw [value_fnOf c, value_fnOf c]
    exact mono r l none c hs x y trivial hxy
  refine Ix.canon ⟨by simpa using I.len, ?_, fun _ _ => trivial, fun i c hc => ?_⟩
  · show (f.breaks.map f.value).reverse.Pairwise _
    rw [List.pairwise_reverse, List.pairwise_map]
    exact I.rise.imp fun {a b} hab => vlt a b hab
  · have hc : ((f.breaks.map f.value).reverse)[i]? = some c := hc
    have hi : i < f.breaks.length := by
      have := (List.getElem?_eq_some_iff.mp hc).1
      simpa using this
    rw [List.getElem?_reverse (by simpa using hi), List.getElem?_map, List.length_map] at hc
    obtain ⟨b, hb, rfl⟩ := Option.map_eq_some_iff.mp hc
    obtain ⟨l, m, h1, h2, h3, h4⟩ := I.meet _ b hb
    have p1 := hs l (List.mem_of_getElem? h1)
    have p2 := hs m (List.mem_of_getElem? h2)
    have e := value_break h hb h1
    have hlen := I.len
    refine ⟨turned m, turned l, ?_, ?_, fun z => h3 (turned_inj (by grind) (by grind) z.symm), ?_⟩
    · show ((f.lines.map turned).reverse)[i]? = _
      rw [List.getElem?_reverse (by simp; omega), List.getElem?_map, List.length_map]
      rw [show f.lines.length - 1 - i = f.breaks.length - 1 - i + 1 by omega, h2]
      rfl
    · show ((f.lines.map turned).reverse)[i + 1]? = _
      rw [List.getElem?_reverse (by simp; omega), List.getElem?_map, List.length_map]
      rw [show f.lines.length - 1 - (i + 1) = f.breaks.length - 1 - i by omega, h1]
      rfl
    · rw [e, inv_at (by grind), h4, inv_at (by grind)]
theorem canon_inverse {f : Fn} (h : Canon f) (hr : (rises f || falls f) = true) : Canon (Pl.inverse f) := by
  rw [Bool.or_eq_true] at hr
  rcases hr with hr | hr
  · exact inverse_up h hr
  · exact inverse_down h hr
theorem ratio_eq {a b : Int} (hb : b ≠ 0) {g d : Int} (hg : g = ((Int.gcd a b : Nat) : Int)) (hd : d = if b < 0 then -g else g) : d ≠ 0 ∧ Int.fdiv a d = (Rat.divInt a b).num ∧ Int.fdiv b d = ((Rat.divInt a b).den : Int) := by
  have hpos : 0 < Int.gcd a b := Int.gcd_pos_of_ne_zero_right a hb
  have gne : ((Int.gcd a b : Nat) : Int) ≠ 0 := by omega
  have da : ((Int.gcd a b : Nat) : Int) ∣ a := Int.gcd_dvd_left a b
  have db : ((Int.gcd a b : Nat) : Int) ∣ b := Int.gcd_dvd_right a b
  rw [Rat.num_divInt, Rat.den_divInt, if_neg hb, Int.gcd_comm b a]
  obtain ⟨x, hx⟩ := da
  obtain ⟨y, hy⟩ := db
  generalize hG : ((Int.gcd a b : Nat) : Int) = G at *
  have hGp : 0 < G := by omega
  by_cases h : b < 0
  · rw [if_pos h] at hd
    rw [hd, hg]
    refine ⟨by omega, ?_, ?_⟩
    · rw [Int.sign_eq_neg_one_of_neg h, Int.fdiv_eq_ediv_of_dvd ⟨-x, by rw [hx, Int.neg_mul_neg]⟩, hx]
      rw [Int.ediv_neg, Int.mul_ediv_cancel_left _ gne, show (-1 * (G * x)) = G * (-x) by rw [Int.neg_one_mul, Int.mul_neg], Int.mul_ediv_cancel_left _ gne]
    · rw [Int.fdiv_eq_ediv_of_dvd ⟨-y, by rw [hy, Int.neg_mul_neg]⟩, Int.ediv_neg]
      have e : ((b.natAbs : Nat) : Int) = -b := by omega
      rw [Int.natCast_ediv, hG, e, hy, Int.mul_ediv_cancel_left _ gne, show -(G * y) = G * (-y) by rw [Int.mul_neg], Int.mul_ediv_cancel_left _ gne]
  · rw [if_neg h] at hd
    rw [hd, hg]
    have hbp : 0 < b := by omega
    refine ⟨by omega, ?_, ?_⟩
    · rw [Int.sign_eq_one_of_pos hbp, Int.fdiv_eq_ediv_of_dvd ⟨x, hx⟩, Int.one_mul]
    · rw [Int.fdiv_eq_ediv_of_dvd ⟨y, hy⟩]
      have e : ((b.natAbs : Nat) : Int) = b := by omega
      rw [Int.natCast_ediv, hG, e]
theorem plus_eq (a b : Rat) : Rat.divInt (a.num * b.den + b.num * a.den) (a.den * b.den) = a + b := by
  rw [Rat.add_def', ← Rat.divInt_ofNat]
  rfl
theorem minus_eq (a b : Rat) : Rat.divInt (a.num * b.den - b.num * a.den) (a.den * b.den) = a - b := by
  rw [Rat.sub_def', ← Rat.divInt_ofNat]
  rfl
theorem times_eq (a b : Rat) : Rat.divInt (a.num * b.num) (a.den * b.den) = a * b := by
  rw [Rat.mul_def', ← Rat.divInt_ofNat]
  rfl
theorem over_eq (a b : Rat) : Rat.divInt (a.num * b.den) (a.den * b.num) = a / b := by
  rw [Rat.div_def, Rat.inv_def]
  conv => rhs; rw [← Rat.num_divInt_den a]
  rw [Rat.divInt_mul_divInt]
theorem rat_eq (x : Frac) : rat x = Rat.divInt x.1 x.2 := by
  rw [Rat.divInt_eq_div]
  rfl
theorem below_num (a b : Rat) : a.num * b.den < b.num * a.den ↔ a < b := (Rat.lt_iff a b).symm
/-- both numbers below 2 to the k -/
def Bd (k : Nat) (q : Rat) : Prop := q.num.natAbs < 2 ^ k ∧ q.den < 2 ^ k
theorem bd_divInt {a b : Int} {k : Nat} (hb : b ≠ 0) (h1 : a.natAbs < 2 ^ k) (h2 : b.natAbs < 2 ^ k) : Bd k (Rat.divInt a b) := by
  constructor
  · rw [Rat.num_divInt]
    refine Nat.lt_of_le_of_lt ?_ h1
    refine Nat.le_trans (Int.natAbs_ediv_le_natAbs _ _) ?_
    rw [Int.natAbs_mul]
    have : (Int.sign b).natAbs = 1 := Int.natAbs_sign_of_ne_zero hb
    rw [this, Nat.one_mul]
    exact Nat.le_refl _
  · rw [Rat.den_divInt, if_neg hb]
    exact Nat.lt_of_le_of_lt (Nat.div_le_self _ _) h2
theorem mul_bd {a b : Int} {m n : Nat} (h1 : a.natAbs < 2 ^ m) (h2 : b.natAbs < 2 ^ n) : (a * b).natAbs < 2 ^ (m + n) := by
  rw [Int.natAbs_mul, Nat.pow_add]
  exact Nat.mul_lt_mul'' h1 h2
theorem bd_mono {q : Rat} {m n : Nat} (h : Bd m q) (hmn : m ≤ n) : Bd n q := ⟨Nat.lt_of_lt_of_le h.1 (Nat.pow_le_pow_right (by decide) hmn), Nat.lt_of_lt_of_le h.2 (Nat.pow_le_pow_right (by decide) hmn)⟩
theorem den_ne (q : Rat) : (q.den : Int) ≠ 0 := by have := q.den_pos; omega
theorem den_abs {q : Rat} {k : Nat} (h : Bd k q) : ((q.den : Int)).natAbs < 2 ^ k := by rw [Int.natAbs_natCast]; exact h.2
theorem two_bd {a b : Int} {k : Nat} (h1 : a.natAbs < 2 ^ k) (h2 : b.natAbs < 2 ^ k) : (a + b).natAbs < 2 ^ (k + 1) ∧ (a - b).natAbs < 2 ^ (k + 1) := by
  rw [Nat.pow_succ]
  omega
theorem bd_plus {a b : Rat} {m n : Nat} (h1 : Bd m a) (h2 : Bd n b) : Bd (m + n + 1) (a + b) := by
  rw [← plus_eq]
  refine bd_divInt (Int.mul_ne_zero (den_ne a) (den_ne b)) ?_ ?_
  · refine (two_bd (mul_bd h1.1 (den_abs h2)) ?_).1
    rw [Nat.add_comm m n]
    exact mul_bd h2.1 (den_abs h1)
  · exact Nat.lt_of_lt_of_le (mul_bd (den_abs h1) (den_abs h2)) (Nat.pow_le_pow_right (by decide) (by omega))
theorem bd_minus {a b : Rat} {m n : Nat} (h1 : Bd m a) (h2 : Bd n b) : Bd (m + n + 1) (a - b) := by
  rw [← minus_eq]
  refine bd_divInt (Int.mul_ne_zero (den_ne a) (den_ne b)) ?_ ?_
  · refine (two_bd (mul_bd h1.1 (den_abs h2)) ?_).2
    rw [Nat.add_comm m n]
    exact mul_bd h2.1 (den_abs h1)
  · exact Nat.lt_of_lt_of_le (mul_bd (den_abs h1) (den_abs h2)) (Nat.pow_le_pow_right (by decide) (by omega))
theorem bd_times {a b : Rat} {m n : Nat} (h1 : Bd m a) (h2 : Bd n b) : Bd (m + n) (a * b) := by
  rw [← times_eq]
  exact bd_divInt (Int.mul_ne_zero (den_ne a) (den_ne b)) (mul_bd h1.1 h2.1) (mul_bd (den_abs h1) (den_abs h2))
theorem bd_over {a b : Rat} {m n : Nat} (h1 : Bd m a) (h2 : Bd n b) (hb : b ≠ 0) : Bd (m + n) (a / b) := by
  rw [← over_eq]
  have hn : b.num ≠ 0 := fun z => hb (Rat.num_eq_zero.mp z)
  exact bd_divInt (Int.mul_ne_zero (den_ne a) hn) (mul_bd h1.1 (den_abs h2)) (mul_bd (den_abs h1) h2.1)
theorem bd_small {q : Rat} {m k : Nat} (h : small q m = true) (hm : m < 2 ^ k) : Bd k q := by
  simp only [small, Bool.and_eq_true, decide_eq_true_eq] at h
  exact ⟨by omega, by omega⟩
theorem gcd_step (m n : Nat) : Nat.gcd n (m % n) = Nat.gcd m n := by
  rw [Nat.gcd_comm n, ← Nat.gcd_rec, Nat.gcd_comm]
end Mt
end
section
set_option Elab.async false
namespace Mt
open Pl
def Headed (D : List (Option Rat × Line)) : Prop := ∀ i p, D[i]? = some p → 0 < i → p.1 ≠ none
theorem headed_ties (l : Line) (lo : Option Rat) (r : List (Rat × Line)) : Headed ((lo, l) :: ties r) := by
  intro i p h hi
  cases i with
  | zero => omega
  | succ i =>
    rw [List.getElem?_cons_succ] at h
    unfold ties at h
    rw [List.getElem?_map] at h
    cases e : r[i]? with
    | none => rw [e] at h; cases h
    | some q => rw [e] at h; cases h; simp
theorem Cov.headed {v : Rat → Rat} {a : List (Option Rat × Line)} {lo : Option Rat} (h : Cov v lo none a) : Headed a := by
  obtain ⟨l, r, rfl, _⟩ := h.laid
  exact headed_ties l lo r
theorem drawAll_snoc {D : List (Option Rat × Line)} {f g : Fn} (h : drawAll f D = some g) (p : Option Rat × Line) : drawAll f (D ++ [p]) = draw g p.1 p.2 := by
  rw [drawAll_app, h]
  show drawAll g [p] = _
  simp only [drawAll]
  cases draw g p.1 p.2 <;> rfl
theorem drawAll_stop {D R : List (Option Rat × Line)} {f : Fn} (h : drawAll f D = none) : drawAll f (D ++ R) = none := by
  rw [drawAll_app, h]
  rfl
end Mt
end
section
set_option Elab.async false
namespace Mt
open Pl
theorem chain_short : ∀ {r : List (Rat × Line)} {lo : Option Rat} {l : Line}, Chain lo l r → shortened l r = r
  | [], _, _, _ => rfl
  | p :: r, lo, l, c => by
    simp only [shortened]
    rw [if_neg (fun e => c.2.1 e.symm), chain_short c.2.2.2]
def asDrawn (f : Fn) : List (Option Rat × Line) := (none :: f.breaks.map some).zip f.lines
theorem asDrawn_of (l : Line) (r : List (Rat × Line)) : asDrawn (fnOf l r) = (none, l) :: ties r := by
  simp only [asDrawn, fnOf, List.zip_cons_cons, ties, List.map_map]
  congr 1
  induction r with
  | nil => rfl
  | cons p r ih => simp only [List.map_cons, List.zip_cons_cons, ih]; rfl
theorem canon_drawn {f : Fn} (h : Canon f) : drawAll noFn (asDrawn f) = fitted f ∧ Headed (asDrawn f) := by
  obtain ⟨l, r, rfl, c⟩ := h
  rw [asDrawn_of]
  exact ⟨by rw [drawAll_new, chain_short c], headed_ties l none r⟩
def upDraws (l : Line) (r : List (Rat × Line)) : List (Option Rat × Line) := (pieces none l r).map fun p => (mapO p.2.2 p.1, turned p.2.2)
def downDraws (l : Line) (r : List (Rat × Line)) : List (Option Rat × Line) := (pieces none l r).reverse.map fun p => (mapO p.2.2 p.2.1, turned p.2.2)
theorem val_breaks : ∀ {r : List (Rat × Line)} {lo : Option Rat} {l : Line}, Chain lo l r → (r.map fun (p : Rat × Line) => val l r p.1) = r.map fun (p : Rat × Line) => p.2.at_ p.1
  | [], _, _, _ => rfl
  | q :: r, lo, l, c => by
    simp only [List.map_cons]
    have h1 : val l (q :: r) q.1 = q.2.at_ q.1 := by
      rw [val_from (Rat.le_refl), val_before (chain_first c.2.2.2)]
    have h2 : (r.map fun (p : Rat × Line) => val l (q :: r) p.1) = r.map fun (p : Rat × Line) => val q.2 r p.1 := by
      apply List.map_congr_left
      intro p hp
      have := (chain_pairwise c.2.2.2).2 p.1 (List.mem_map.mpr ⟨p, hp, rfl⟩)
      simp only [ltO] at this
      exact val_from (by grind)
    rw [h1, h2, val_breaks c.2.2.2]
theorem chain_meets : ∀ {r : List (Rat × Line)} {lo : Option Rat} {l : Line}, Chain lo l r → ((pieces lo l r).map fun p => (mapO p.2.2 p.2.1, turned p.2.2)) = ((r.map fun (p : Rat × Line) => some (p.2.at_ p.1)) ++ [none]).zip ((l :: r.map fun (p : Rat × Line) => p.2).map turned)
  | [], _, _, _ => rfl
  | q :: r, lo, l, c => by
    simp only [pieces, List.map_cons, List.cons_append, List.zip_cons_cons]
    rw [chain_meets c.2.2.2]
    simp only [List.map_cons, mapO]
    rw [c.2.2.1]
theorem up_pieces : ∀ {r : List (Rat × Line)} {lo : Option Rat} {l : Line}, ((pieces lo l r).map fun p => (mapO p.2.2 p.1, turned p.2.2)) = (mapO l lo :: r.map fun (p : Rat × Line) => some (p.2.at_ p.1)).zip ((l :: r.map fun (p : Rat × Line) => p.2).map turned)
  | [], _, _ => rfl
  | q :: r, lo, l => by
    simp only [pieces, List.map_cons, List.zip_cons_cons]
    rw [up_pieces]
    simp only [List.map_cons, mapO, List.zip_cons_cons]
theorem breaks_value {l : Line} {r : List (Rat × Line)} (c : Chain none l r) : (fnOf l r).breaks.map (fnOf l r).value = r.map fun (p : Rat × Line) => p.2.at_ p.1 := by
  rw [← val_breaks c]
  simp only [fnOf, List.map_map]
  apply List.map_congr_left
  intro p _
  exact value_fnOf c p.1
theorem up_drawn {l : Line} {r : List (Rat × Line)} (c : Chain none l r) (h : rises (fnOf l r) = true) : drawAll noFn (upDraws l r) = fitted (Pl.inverse (fnOf l r)) ∧ Headed (upDraws l r) := by
  have e : upDraws l r = asDrawn (Pl.inverse (fnOf l r)) := by
    unfold upDraws asDrawn Pl.inverse
    rw [up_pieces, if_pos h]
    simp only [breaks_value c, mapO, List.map_map]
    rfl
  rw [e]
  exact canon_drawn (canon_inverse ⟨l, r, rfl, c⟩ (by rw [h]; rfl))
theorem down_drawn {l : Line} {r : List (Rat × Line)} (c : Chain none l r) (h0 : ¬ rises (fnOf l r) = true) (h : falls (fnOf l r) = true) : drawAll noFn (downDraws l r) = fitted (Pl.inverse (fnOf l r)) ∧ Headed (downDraws l r) := by
  have e : downDraws l r = asDrawn (Pl.inverse (fnOf l r)) := by
    unfold downDraws asDrawn Pl.inverse
    rw [if_neg h0, List.map_reverse, chain_meets c]
    have hl : ((r.map fun (p : Rat × Line) => some (p.2.at_ p.1)) ++ [none]).length = ((l :: r.map fun (p : Rat × Line) => p.2).map turned).length := by simp
    rw [List.zip, List.reverse_zipWith hl]
    simp only [breaks_value c, List.reverse_append, List.reverse_cons, List.reverse_nil, List.nil_append, List.cons_append, List.map_reverse, List.map_map]
    rfl
  rw [e]
  exact canon_drawn (canon_inverse ⟨l, r, rfl, c⟩ (by rw [h]; simp))
theorem pieces_zip : ∀ (r : List (Rat × Line)) (lo : Option Rat) (l : Line), pieces lo l r = (lo :: r.map fun (p : Rat × Line) => some p.1).zip (((r.map fun (p : Rat × Line) => some p.1) ++ [none]).zip (l :: r.map fun (p : Rat × Line) => p.2))
  | [], _, _ => rfl
  | p :: r, lo, l => by
    simp only [pieces, List.map_cons, List.cons_append, List.zip_cons_cons]
    rw [pieces_zip r (some p.1) p.2]
theorem parted_zip : ∀ (cs : List Rat) (lo hi : Option Rat), parted lo hi cs = (lo :: cs.map some).zip (cs.map some ++ [hi])
  | [], _, _ => rfl
  | c :: cs, lo, hi => by
    simp only [parted, List.map_cons, List.cons_append, List.zip_cons_cons]
    rw [parted_zip cs (some c) hi]
theorem told_of (l : Line) (r : List (Rat × Line)) : Pl.told (fnOf l r) = lineShown l ++ r.flatMap fun (p : Rat × Line) => shown p.1 ++ lineShown p.2 := by
  simp only [Pl.told, fnOf, List.getD_cons_zero, List.drop_succ_cons, List.drop_zero]
  congr 1
  induction r with
  | nil => rfl
  | cons p r ih => simp only [List.map_cons, List.zip_cons_cons, List.flatMap_cons, ih]
def difLine (l m : Line) : Line := ⟨l.s - m.s, l.c - m.c⟩
def endsOf (a b : Option Rat) : List Rat := [a, b].filterMap id
def aboveZ (a b : Option Rat) (d : Line) : Bool :=
  (decide (a = none) && decide (d.s < 0)) || ((decide (b = none) && decide (0 < d.s)) || ((if endsOf a b = [] then [0] else endsOf a b).any fun e => decide (0 < d.at_ e)))
theorem aboveZ_iff {a b : Option Rat} (h : ltO a b) (d : Line) : aboveZ a b d = true ↔ ∃ x, leO a x ∧ geO b x ∧ 0 < d.at_ x := by
  cases a with
  | none =>
    cases b with
    | none =>
      simp only [aboveZ, endsOf, List.filterMap_cons, id, List.filterMap_nil, if_true, decide_true, Bool.true_and, List.any_cons, List.any_nil, Bool.or_false, Bool.or_eq_true, decide_eq_true_eq, leO, geO, true_and]
      constructor
      · rintro (z | z | z)
        · refine ⟨(1 - d.c) / d.s, ?_⟩
          have : d.at_ ((1 - d.c) / d.s) = 1 := by simp only [Line.at_]; grind
          rw [this]; decide
        · refine ⟨(1 - d.c) / d.s, ?_⟩
          have : d.at_ ((1 - d.c) / d.s) = 1 := by simp only [Line.at_]; grind
          rw [this]; decide
        · exact ⟨0, z⟩
      · rintro ⟨x, hx⟩
        by_cases h1 : d.s < 0
        · exact .inl h1
        · by_cases h2 : 0 < d.s
          · exact .inr (.inl h2)
          · refine .inr (.inr ?_)
            have : d.s = 0 := by grind
            simp only [Line.at_, this] at *
            grind
    | some b =>
      simp only [aboveZ, endsOf, List.filterMap_cons, id, List.filterMap_nil, decide_true, Bool.true_and, Bool.or_eq_true, decide_eq_true_eq, leO, geO, true_and, reduceCtorEq, decide_false, Bool.false_and, Bool.false_eq_true, false_or, if_false, List.any_cons, List.any_nil, or_false]
      constructor
      · rintro (z | z)
        · rcases Rat.le_total (a := b) (b := (1 - d.c) / d.s) with q | q
          · refine ⟨b, Rat.le_refl, ?_⟩
            have e : d.at_ ((1 - d.c) / d.s) = 1 := by simp only [Line.at_]; grind
            have := at_anti (l := d) (by grind) q
            grind
          · refine ⟨(1 - d.c) / d.s, q, ?_⟩
            have : d.at_ ((1 - d.c) / d.s) = 1 := by simp only [Line.at_]; grind
            rw [this]; decide
        · exact ⟨b, Rat.le_refl, z⟩
      · rintro ⟨x, hx, hp⟩
        by_cases h1 : d.s < 0
        · exact .inl h1
        · refine .inr ?_
          have := at_mono (l := d) (by grind) hx
          grind
  | some a =>
    cases b with
    | none =>
      simp only [aboveZ, endsOf, List.filterMap_cons, id, List.filterMap_nil, decide_true, Bool.true_and, Bool.or_eq_true, decide_eq_true_eq, leO, geO, true_and, reduceCtorEq, decide_false, Bool.false_and, Bool.false_eq_true, false_or, if_false, List.any_cons, List.any_nil, or_false]
      constructor
      · rintro (z | z)
        · rcases Rat.le_total (a := a) (b := (1 - d.c) / d.s) with q | q
          · refine ⟨(1 - d.c) / d.s, q, ?_⟩
            have : d.at_ ((1 - d.c) / d.s) = 1 := by simp only [Line.at_]; grind
            rw [this]; decide
          · refine ⟨a, Rat.le_refl, ?_⟩
            have e : d.at_ ((1 - d.c) / d.s) = 1 := by simp only [Line.at_]; grind
            have := at_mono (l := d) (by grind) q
            grind
        · exact ⟨a, Rat.le_refl, z⟩
      · rintro ⟨x, hx, hp⟩
        by_cases h1 : 0 < d.s
        · exact .inl h1
        · refine .inr ?_
          have := at_anti (l := d) (by grind) hx
          grind
    | some b =>
      simp only [aboveZ, endsOf, List.filterMap_cons, id, List.filterMap_nil, Bool.or_eq_true, decide_eq_true_eq, leO, geO, reduceCtorEq, decide_false, Bool.false_and, Bool.false_eq_true, false_or, if_false, List.any_cons, List.any_nil, or_false]
      constructor
      · rintro (z | z)
        · exact ⟨a, Rat.le_refl, by simp only [ltO] at h; grind, z⟩
        · exact ⟨b, by simp only [ltO] at h; grind, Rat.le_refl, z⟩
      · rintro ⟨x, hx, hy, hp⟩
        by_cases h1 : 0 < d.s
        · refine .inr ?_
          have := at_mono (l := d) (by grind) hy
          grind
        · refine .inl ?_
          have := at_anti (l := d) (by grind) hx
          grind
theorem Span.lt {α : Type} {P : Option Rat → Option Rat → α → Prop} : ∀ {s : List (Option Rat × Option Rat × α)} {lo hi : Option Rat}, Span P lo hi s → ltO lo hi
  | [], _, _, h => h.elim
  | [_], _, _, h => h.2.2.1
  | _ :: _ :: _, _, _, h => by
    obtain ⟨_, m, _, h3, _, h5⟩ := h
    exact ltO_trans h3 (Span.lt h5)
theorem span_all {α : Type} {P : Option Rat → Option Rat → α → Prop} {R : Rat → Prop} {q : Option Rat → Option Rat → α → Bool} (hq : ∀ a b x, ltO a b → P a b x → (q a b x = true ↔ ∀ y, leO a y → geO b y → R y)) :
    ∀ {s : List (Option Rat × Option Rat × α)} {lo hi : Option Rat}, Span P lo hi s → ((s.all fun p => q p.1 p.2.1 p.2.2) = true ↔ ∀ y, leO lo y → geO hi y → R y)
  | [], _, _, h => h.elim
  | [p], lo, hi, h => by
    obtain ⟨h1, h2, h3, h4⟩ := h
    simp only [List.all_cons, List.all_nil, Bool.and_true]
    rw [h1, h2]
    exact hq lo hi p.2.2 h3 h4
  | p :: p2 :: s, lo, hi, h => by
    obtain ⟨h1, m, h2, h3, h4, h5⟩ := h
    have ih := span_all hq h5
    rw [List.all_cons, Bool.and_eq_true, ih, h1, h2, hq lo (some m) p.2.2 h3 h4]
    have hm : ltO (some m) hi := Span.lt h5
    constructor
    · rintro ⟨a, b⟩ y hy hz
      rcases Rat.le_total (a := y) (b := m) with z | z
      · exact a y hy z
      · exact b y z hz
    · intro a
      refine ⟨fun y hy hz => a y hy ?_, fun y hy hz => a y ?_ hz⟩
      · exact geO_mono (geO_lt hm) hz
      · exact leO_mono (leO_lt h3) hy
def nowhere (l : Line) (r : List (Rat × Line)) (m : Line) (t : List (Rat × Line)) : Bool := (shared none l r m t).all fun p => !aboveZ p.1 p.2.1 (difLine p.2.2.1 p.2.2.2)
theorem nowhere_eq {l m : Line} {r t : List (Rat × Line)} (c : Chain none l r) (d : Chain none m t) : nowhere l r m t = decide (Pl.great (fnOf l r) (fnOf m t) = fnOf m t) := by
  have hl := (Laid.of_chain c).congr fun x => (value_fnOf c x).symm
  have hm := (Laid.of_chain d).congr fun x => (value_fnOf d x).symm
  have k := span_all (R := fun y => (fnOf l r).value y ≤ (fnOf m t).value y) (q := fun a b (x : Line × Line) => !aboveZ a b (difLine x.1 x.2)) (fun a b x hab hp => by
    rw [Bool.not_eq_true', ← Bool.not_eq_true, aboveZ_iff hab]
    have e : ∀ y, (difLine x.1 x.2).at_ y = x.1.at_ y - x.2.at_ y := fun y => by simp only [difLine, Line.at_]; grind
    constructor
    · intro h y hy hz
      rw [hp.1 y hy hz, hp.2 y hy hz]
      have := fun q => h ⟨y, hy, hz, q⟩
      rw [e] at this
      grind
    · rintro h ⟨y, hy, hz, q⟩
      have h2 := h y hy hz
      rw [hp.1 y hy hz, hp.2 y hy hz] at h2
      rw [e] at q
      grind) (shared_span hl hm)
  have k2 := below_iff (f := fnOf l r) (g := fnOf m t) ⟨l, r, rfl, c⟩ ⟨m, t, rfl, d⟩
  rw [Bool.eq_iff_iff, decide_eq_true_eq, k2]
  unfold nowhere
  rw [k]
  exact ⟨fun h x => h x trivial trivial, fun h x _ _ => h x⟩
end Mt
end
section
set_option Elab.async false
namespace Mt
open Pl
def nearer : Option Rat → Option Rat → Option Rat
  | none, b => b
  | some a, none => some a
  | some a, some b => if a < b then some a else some b
/-- the walk at i, j -/
def Walk (l0 : Line) (r0 : List (Rat × Line)) (m0 : Line) (t0 : List (Rat × Line)) (i j : Nat) (lo : Option Rat) (found : List (Option Rat × Option Rat × Line × Line)) : Prop :=
  ∃ l r m t, (fnOf l0 r0).lines.drop i = (fnOf l r).lines ∧ (fnOf l0 r0).breaks.drop i = (fnOf l r).breaks ∧ (fnOf m0 t0).lines.drop j = (fnOf m t).lines ∧ (fnOf m0 t0).breaks.drop j = (fnOf m t).breaks ∧
    found ++ shared lo l r m t = shared none l0 r0 m0 t0
theorem walk_start (l0 : Line) (r0 : List (Rat × Line)) (m0 : Line) (t0 : List (Rat × Line)) : Walk l0 r0 m0 t0 0 0 none [] := ⟨l0, r0, m0, t0, rfl, rfl, rfl, rfl, rfl⟩
theorem fnOf_len (l : Line) (r : List (Rat × Line)) : (fnOf l r).lines.length = r.length + 1 ∧ (fnOf l r).breaks.length = r.length := by simp [fnOf]
theorem drop_next {α : Type} {xs ys : List α} {y : α} {i : Nat} (h : xs.drop i = y :: ys) : xs[i]? = some y ∧ xs.drop (i + 1) = ys ∧ i < xs.length := by
  have h1 : (xs.drop i)[0]? = some y := by rw [h]; rfl
  rw [List.getElem?_drop] at h1
  refine ⟨by simpa using h1, ?_, ?_⟩
  · have : (xs.drop i).drop 1 = ys := by rw [h]; rfl
    rw [List.drop_drop] at this
    exact this
  · have := (List.getElem?_eq_some_iff.mp h1).1
    simpa using this
theorem drop_end {α : Type} {xs : List α} {i : Nat} (h : xs.drop i = []) : xs[i]? = none := by
  have := List.drop_eq_nil_iff.mp h
  exact List.getElem?_eq_none_iff.mpr this
/-- what a turn finds, and what it goes on with -/
theorem walk_step {l0 : Line} {r0 : List (Rat × Line)} {m0 : Line} {t0 : List (Rat × Line)} {i j : Nat} {lo : Option Rat} {found : List (Option Rat × Option Rat × Line × Line)} (w : Walk l0 r0 m0 t0 i j lo found) :
    ∃ l m, i < (fnOf l0 r0).lines.length ∧ j < (fnOf m0 t0).lines.length ∧ (fnOf l0 r0).lines[i]? = some l ∧ (fnOf m0 t0).lines[j]? = some m ∧
      ∀ ef eg right i' j', ef = (fnOf l0 r0).breaks[i]? → eg = (fnOf m0 t0).breaks[j]? → right = nearer ef eg → i' = (if ef = right then i + 1 else i) → j' = (if eg = right then j + 1 else j) →
        (i ≤ i' ∧ j ≤ j' ∧ i + j < i' + j' ∧ i' ≤ (fnOf l0 r0).lines.length ∧ j' ≤ (fnOf m0 t0).lines.length) ∧
        (found ++ [(lo, right, l, m)]).length ≤ (shared none l0 r0 m0 t0).length ∧
        (Walk l0 r0 m0 t0 i' j' right (found ++ [(lo, right, l, m)]) ∨ (i' = (fnOf l0 r0).lines.length ∧ found ++ [(lo, right, l, m)] = shared none l0 r0 m0 t0)) := by
  obtain ⟨l, r, m, t, h1, h2, h3, h4, h5⟩ := w
  obtain ⟨a1, a2, a3⟩ := drop_next (ys := r.map fun x => x.2) h1
  obtain ⟨b1, b2, b3⟩ := drop_next (ys := t.map fun x => x.2) h3
  refine ⟨l, m, a3, b3, a1, b1, ?_⟩
  intro ef eg right i' j' e1 e2 e3 e4 e5
  have hlen : (found ++ [(lo, right, l, m)]).length ≤ (shared none l0 r0 m0 t0).length := by
    rw [← h5, List.length_append, List.length_append]
    have : 0 < (shared lo l r m t).length := by
      cases r <;> cases t <;> (rw [shared]; try split) <;> (try split) <;> simp
    simp only [List.length_cons, List.length_nil]
    omega
  have bnd : i ≤ i' ∧ j ≤ j' ∧ i' ≤ (fnOf l0 r0).lines.length ∧ j' ≤ (fnOf m0 t0).lines.length := by
    rw [e4, e5]
    refine ⟨?_, ?_, ?_, ?_⟩ <;> split <;> omega
  have fin : (i + j < i' + j') ∧ (Walk l0 r0 m0 t0 i' j' right (found ++ [(lo, right, l, m)]) ∨ (i' = (fnOf l0 r0).lines.length ∧ found ++ [(lo, right, l, m)] = shared none l0 r0 m0 t0)) := by
    cases r with
    | nil =>
      have c1 : ef = none := by rw [e1]; exact drop_end h2
      cases t with
      | nil =>
        have c2 : eg = none := by rw [e2]; exact drop_end h4
        subst c1 c2
        have c3 : right = none := e3
        subst c3
        rw [if_pos rfl] at e4 e5
        subst e4 e5
        refine ⟨by omega, .inr ⟨?_, ?_⟩⟩
        · have : ((fnOf l0 r0).lines.drop i).length = 1 := by rw [h1]; rfl
          rw [List.length_drop] at this
          omega
        · rw [← h5, shared]
      | cons q t =>
        obtain ⟨d1, d2, _⟩ := drop_next (ys := t.map fun x => x.1) h4
        have c2 : eg = some q.1 := by rw [e2]; exact d1
        subst c1 c2
        have c3 : right = some q.1 := e3
        subst c3
        rw [if_neg (by simp)] at e4
        rw [if_pos rfl] at e5
        subst e4 e5
        refine ⟨by omega, .inl ⟨l, [], q.2, t, h1, h2, ?_, d2, ?_⟩⟩
        · exact b2
        · rw [← h5, shared, List.append_assoc]; rfl
    | cons p r =>
      obtain ⟨g1, g2, _⟩ := drop_next (ys := r.map fun x => x.1) h2
      have c1 : ef = some p.1 := by rw [e1]; exact g1
      cases t with
      | nil =>
        have c2 : eg = none := by rw [e2]; exact drop_end h4
        subst c1 c2
        have c3 : right = some p.1 := e3
        subst c3
        rw [if_pos rfl] at e4
        rw [if_neg (by simp)] at e5
        subst e4 e5
        refine ⟨by omega, .inl ⟨p.2, r, m, [], ?_, g2, h3, h4, ?_⟩⟩
        · exact a2
        · rw [← h5, shared, List.append_assoc]; rfl
      | cons q t =>
        obtain ⟨d1, d2, _⟩ := drop_next (ys := t.map fun x => x.1) h4
        have c2 : eg = some q.1 := by rw [e2]; exact d1
        subst c1 c2
        simp only [nearer] at e3
        by_cases hlt : p.1 < q.1
        · rw [if_pos hlt] at e3
          subst e3
          rw [if_pos rfl] at e4
          rw [if_neg (by intro z; injection z with z; rw [z] at hlt; grind)] at e5
          subst e4 e5
          refine ⟨by omega, .inl ⟨p.2, r, m, q :: t, a2, g2, h3, h4, ?_⟩⟩
          rw [← h5, shared, if_pos hlt, List.append_assoc]; rfl
        · rw [if_neg hlt] at e3
          subst e3
          rw [if_pos rfl] at e5
          by_cases hgt : q.1 < p.1
          · rw [if_neg (by intro z; injection z with z; rw [z] at hgt; grind)] at e4
            subst e4 e5
            refine ⟨by omega, .inl ⟨l, p :: r, q.2, t, h1, h2, b2, d2, ?_⟩⟩
            rw [← h5, shared, if_neg hlt, if_pos hgt, List.append_assoc]; rfl
          · have hpq : p.1 = q.1 := by grind
            rw [if_pos (by rw [hpq])] at e4
            subst e4 e5
            refine ⟨by omega, .inl ⟨p.2, r, q.2, t, a2, g2, b2, d2, ?_⟩⟩
            rw [← h5, shared, if_neg hlt, if_neg hgt, List.append_assoc]; rfl
  exact ⟨⟨bnd.1, bnd.2.1, fin.1, bnd.2.2.1, bnd.2.2.2⟩, hlen, fin.2⟩
theorem shared_length : ∀ (lo : Option Rat) (l : Line) (r : List (Rat × Line)) (m : Line) (t : List (Rat × Line)), (shared lo l r m t).length ≤ r.length + t.length + 1 := by
  intro lo l r m t
  induction lo, l, r, m, t using shared.induct with
  | case1 lo l m => rw [shared]; simp
  | case2 lo l p r m ih => rw [shared]; simp only [List.length_cons] at *; omega
  | case3 lo l m q t ih => rw [shared]; simp only [List.length_cons] at *; omega
  | case4 lo l p r m q t h ih => rw [shared, if_pos h]; simp only [List.length_cons] at *; omega
  | case5 lo l p r m q t h h2 ih => rw [shared, if_neg h, if_pos h2]; simp only [List.length_cons] at *; omega
  | case6 lo l p r m q t h h2 ih => rw [shared, if_neg h, if_neg h2]; simp only [List.length_cons] at *; omega
def OB (a : Option Rat) : Prop := ∀ x, a = some x → Bd 31 x
def LB (l : Line) : Prop := Bd 15 l.s ∧ Bd 31 l.c
def RB (r : List (Rat × Line)) : Prop := ∀ p ∈ r, Bd 31 p.1 ∧ LB p.2
theorem ob_none : OB none := fun _ h => nomatch h
theorem ob_some {x : Rat} (h : Bd 31 x) : OB (some x) := fun _ e => by cases e; exact h
theorem shared_bd : ∀ (lo : Option Rat) (l : Line) (r : List (Rat × Line)) (m : Line) (t : List (Rat × Line)), OB lo → LB l → RB r → LB m → RB t → ∀ p ∈ shared lo l r m t, OB p.1 ∧ OB p.2.1 ∧ LB p.2.2.1 ∧ LB p.2.2.2 := by
  intro lo l r m t
  induction lo, l, r, m, t using shared.induct with
  | case1 lo l m =>
    intro h1 h2 h3 h4 h5 p hp
    rw [shared] at hp
    have e := List.mem_singleton.mp hp
    subst e
    exact ⟨h1, ob_none, h2, h4⟩
  | case2 lo l p0 r m ih =>
    intro h1 h2 h3 h4 h5 p hp
    rw [shared] at hp
    have k := h3 p0 List.mem_cons_self
    rcases List.mem_cons.mp hp with e | e
    · subst e; exact ⟨h1, ob_some k.1, h2, h4⟩
    · exact ih (ob_some k.1) k.2 (fun q hq => h3 q (List.mem_cons_of_mem _ hq)) h4 h5 p e
  | case3 lo l m q0 t ih =>
    intro h1 h2 h3 h4 h5 p hp
    rw [shared] at hp
    have k := h5 q0 List.mem_cons_self
    rcases List.mem_cons.mp hp with e | e
    · subst e; exact ⟨h1, ob_some k.1, h2, h4⟩
    · exact ih (ob_some k.1) h2 h3 k.2 (fun q hq => h5 q (List.mem_cons_of_mem _ hq)) p e
  | case4 lo l p0 r m q0 t h ih =>
    intro h1 h2 h3 h4 h5 p hp
    rw [shared, if_pos h] at hp
    have k := h3 p0 List.mem_cons_self
    rcases List.mem_cons.mp hp with e | e
    · subst e; exact ⟨h1, ob_some k.1, h2, h4⟩
    · exact ih (ob_some k.1) k.2 (fun q hq => h3 q (List.mem_cons_of_mem _ hq)) h4 h5 p e
  | case5 lo l p0 r m q0 t h hh ih =>
    intro h1 h2 h3 h4 h5 p hp
    rw [shared, if_neg h, if_pos hh] at hp
    have k := h5 q0 List.mem_cons_self
    rcases List.mem_cons.mp hp with e | e
    · subst e; exact ⟨h1, ob_some k.1, h2, h4⟩
    · exact ih (ob_some k.1) h2 h3 k.2 (fun q hq => h5 q (List.mem_cons_of_mem _ hq)) p e
  | case6 lo l p0 r m q0 t h hh ih =>
    intro h1 h2 h3 h4 h5 p hp
    rw [shared, if_neg h, if_neg hh] at hp
    have k := h5 q0 List.mem_cons_self
    have k2 := h3 p0 List.mem_cons_self
    rcases List.mem_cons.mp hp with e | e
    · subst e; exact ⟨h1, ob_some k.1, h2, h4⟩
    · exact ih (ob_some k.1) k2.2 (fun q hq => h3 q (List.mem_cons_of_mem _ hq)) k.2 (fun q hq => h5 q (List.mem_cons_of_mem _ hq)) p e
theorem pieces_bd : ∀ (r : List (Rat × Line)) (lo : Option Rat) (l : Line), OB lo → LB l → RB r → ∀ p ∈ pieces lo l r, OB p.1 ∧ OB p.2.1 ∧ LB p.2.2
  | [], lo, l, h1, h2, _, p, hp => by
    have e := List.mem_singleton.mp (show p ∈ [(lo, none, l)] from hp)
    subst e
    exact ⟨h1, ob_none, h2⟩
  | q :: r, lo, l, h1, h2, h3, p, hp => by
    have k := h3 q List.mem_cons_self
    rcases List.mem_cons.mp (show p ∈ (lo, some q.1, l) :: pieces (some q.1) q.2 r from hp) with e | e
    · subst e; exact ⟨h1, ob_some k.1, h2⟩
    · exact pieces_bd r (some q.1) q.2 (ob_some k.1) k.2 (fun z hz => h3 z (List.mem_cons_of_mem _ hz)) p e
/-- what is kept: its one form, which fits -/
def Fit (f : Fn) : Prop := Canon f ∧ fits f = true
theorem Fit.parts {f : Fn} (h : Fit f) : ∃ l r, f = fnOf l r ∧ Chain none l r ∧ r.length ≤ 31 ∧ LB l ∧ RB r := by
  obtain ⟨⟨l, r, rfl, c⟩, hf⟩ := h
  obtain ⟨h1, h2, h3, h4⟩ := (fits_iff l r).mp hf
  exact ⟨l, r, rfl, c, by omega, ⟨bd_small h2.1 (by decide), bd_small h2.2 (by decide)⟩, fun p hp => ⟨bd_small (h4 p hp) (by decide), bd_small (h3 p hp).1 (by decide), bd_small (h3 p hp).2 (by decide)⟩⟩
theorem parted_mem : ∀ {cs : List Rat} {lo hi : Option Rat} {p : Option Rat × Option Rat}, p ∈ parted lo hi cs → (p.1 = lo ∨ ∃ c ∈ cs, p.1 = some c) ∧ (p.2 = hi ∨ ∃ c ∈ cs, p.2 = some c)
  | [], lo, hi, p, h => by
    have e := List.mem_singleton.mp (show p ∈ [(lo, hi)] from h)
    subst e
    exact ⟨.inl rfl, .inl rfl⟩
  | c :: cs, lo, hi, p, h => by
    rcases List.mem_cons.mp (show p ∈ (lo, some c) :: parted (some c) hi cs from h) with e | e
    · subst e
      exact ⟨.inl rfl, .inr ⟨c, List.mem_cons_self, rfl⟩⟩
    · obtain ⟨h1, h2⟩ := parted_mem e
      refine ⟨.inr ?_, ?_⟩
      · rcases h1 with z | ⟨d, hd, z⟩
        · exact ⟨c, List.mem_cons_self, z⟩
        · exact ⟨d, List.mem_cons_of_mem _ hd, z⟩
      · rcases h2 with z | ⟨d, hd, z⟩
        · exact .inl z
        · exact .inr ⟨d, List.mem_cons_of_mem _ hd, z⟩
theorem meets_bd {l m : Line} (hl : LB l) (hm : LB m) : ∀ p ∈ meets l m, Bd 100 p := by
  intro p hp
  unfold meets at hp
  split at hp
  · cases hp
  · rename_i e
    have z := List.mem_singleton.mp hp
    subst z
    exact bd_mono (bd_over (bd_minus hm.2 hl.2) (bd_minus hl.1 hm.1) (by grind)) (by decide)
theorem reach_bd {a b : Option Rat} {l : Line} {hs : List Rat} (hl : LB l) (h : ∀ y ∈ hs, Bd 31 y) : ∀ p ∈ reachCuts a b l hs, Bd 100 p := by
  intro p hp
  unfold reachCuts at hp
  split at hp
  · cases hp
  · rename_i e
    split at hp
    · obtain ⟨y, hy, z⟩ := List.mem_map.mp hp
      subst z
      exact bd_mono (bd_over (bd_minus (h y (List.mem_filter.mp hy).1) hl.2) hl.1 e) (by decide)
    · obtain ⟨y, hy, z⟩ := List.mem_map.mp hp
      subst z
      exact bd_mono (bd_over (bd_minus (h y (List.mem_reverse.mp (List.mem_filter.mp hy).1)) hl.2) hl.1 e) (by decide)
end Mt
end
section
set_option Elab.async false
namespace Mt
open Pl
theorem draw_len {f g : Fn} {a : Option Rat} {l : Line} (h : draw f a l = some g) (h1 : f.lines.length ≤ 32) (h2 : f.breaks.length ≤ f.lines.length) : g.lines.length ≤ 32 ∧ g.breaks.length ≤ g.lines.length := by
  unfold draw at h
  split at h
  · cases h; exact ⟨h1, h2⟩
  · split at h
    · cases h
    · rename_i hne
      split at h
      · cases h
      · split at h
        · cases h
        · split at h
          · cases h
            simp only [List.length_append, List.length_cons, List.length_nil]
            omega
          · split at h
            · cases h
            · split at h
              · cases h
              · cases h
                simp only [List.length_append, List.length_cons, List.length_nil]
                omega
theorem drawAll_len : ∀ {D : List (Option Rat × Line)} {f g : Fn}, drawAll f D = some g → f.lines.length ≤ 32 → f.breaks.length ≤ f.lines.length → g.lines.length ≤ 32 ∧ g.breaks.length ≤ g.lines.length
  | [], f, g, h, h1, h2 => by cases h; exact ⟨h1, h2⟩
  | p :: D, f, g, h, h1, h2 => by
    simp only [drawAll] at h
    cases e : draw f p.1 p.2 with
    | none => rw [e] at h; cases h
    | some g1 =>
      rw [e] at h
      obtain ⟨a, b⟩ := draw_len e h1 h2
      exact drawAll_len h a b
theorem flat_at {α β : Type} {s : List α} {d : α → List β} {i : Nat} {q : α} (h : s[i]? = some q) : s.flatMap d = (s.take i).flatMap d ++ (d q ++ (s.drop (i + 1)).flatMap d) ∧ (s.take (i + 1)).flatMap d = (s.take i).flatMap d ++ d q := by
  obtain ⟨hi, e⟩ := List.getElem?_eq_some_iff.mp h
  have e1 : s = s.take i ++ q :: s.drop (i + 1) := by
    rw [← e]
    simp
  have e2 : s.take (i + 1) = s.take i ++ [q] := by
    rw [List.take_add_one, h]
    rfl
  constructor
  · conv => lhs; rw [e1]
    simp [List.flatMap_append]
  · rw [e2]
    simp [List.flatMap_append]
theorem map_at {α β : Type} {s : List α} {e : α → β} {j : Nat} {q : α} (h : s[j]? = some q) : s.map e = (s.take j).map e ++ (e q :: (s.drop (j + 1)).map e) ∧ (s.take (j + 1)).map e = (s.take j).map e ++ [e q] := by
  obtain ⟨hi, e0⟩ := List.getElem?_eq_some_iff.mp h
  have e1 : s = s.take j ++ q :: s.drop (j + 1) := by
    rw [← e0]
    simp
  have e2 : s.take (j + 1) = s.take j ++ [q] := by
    rw [List.take_add_one, h]
    rfl
  constructor
  · conv => lhs; rw [e1]
    simp
  · rw [e2]
    simp
theorem headed_split {D pre post : List (Option Rat × Line)} {a : Option Rat} {l : Line} (h : Headed D) (e : pre ++ (a, l) :: post = D) : pre = [] ∨ a ≠ none := by
  rcases List.eq_nil_or_concat pre with z | ⟨x, y, z⟩
  · exact .inl z
  · right
    refine h pre.length (a, l) ?_ ?_
    · rw [← e]
      simp
    · rw [z]
      simp
/-- the step of a call, by its parts -/
theorem fit_of {g : Fn} {f : Fn} (h : fitted f = some g) : g = f ∧ fits f = true := by
  unfold fitted at h
  split at h
  · cases h; exact ⟨rfl, by assumption⟩
  · cases h
end Mt
end
section
set_option Elab.async false
set_option linter.all false
set_option maxRecDepth 100000
namespace L2
open PySem PySem.Spec PyProof.Rows
section
variable (P : Program) (w : World) (K : PySem.W.Frag) (mg : Str → Option Value) (base : Heap) (CX : CXT) (k : Nat)
/-- a def of the module that keeps a promise -/
def Cal (x : Str) (ps : List Str) (sp : Sp) : Prop := ∃ f fd, FnOk P w K mg base CX k f fd ps sp ∧ Binds K fd ps [] ∧ mg x = some (.ref f) ∧ PySem.W.keepIn K (.ref f) = true
/-- a method -/
def MCal (C : Addr) (m : Str) (ps : List Str) (sp : Sp) : Prop := ∃ f fd, FnOk P w K mg base CX k f fd ps sp ∧ Binds K fd ps [] ∧ Meth K C m f
/-- a class by its __init__ -/
def CCal (x : Str) (C : Addr) (sp : Sp) : Prop := ∃ f fd, FnOk P w K mg base CX k f fd ["self"] sp ∧ Binds K fd ["self"] [] ∧ Mk K C f ∧ mg x = some (.ref C)
/-- a def of the text -/
def Def (x : Str) (st : Stmt) : Prop := ∃ f fd, Fun K x x st f fd ∧ mg x = some (.ref f)
def MDef (C : Addr) (m qual : Str) (st : Stmt) : Prop := ∃ f fd, Fun K m qual st f fd ∧ Meth K C m f
end
section
variable {X : Cx} {CX : CXT} {k j : Nat} {x m : Str} {C : Addr} {ps : List Str} {sp : Sp} {E : XK} {p pos apos : Pos} {e o : Expr} {es : List Expr} {ta : TE} {t : TA}
theorem pe_fn (c : Cal X.prog X.w X.K X.mg X.base CX k x ps sp) (hr : Room k X.A) (hx : Passes CX X E) (ha : PA X (e :: es) t) (hg : Gl X x := by rfl) (hdb : (x == ("__debug__" : Str)) = false := by decide)
    (he : starEach (e :: es) X.env = (false, eval e X.env) :: starEach es X.env := by rfl) (hpl : (backTo pos (starEach es X.env)).any (·.1) = false := by rfl) : PE X (.Call (.Name x p) (e :: es) [] pos) (tCall sp [] E t) := by
  obtain ⟨f, fd, F, hb, hm, hk⟩ := c
  exact pe_call F hr hg hm hk hb .nil hx ha hdb he hpl
theorem pe_mth {pl : Sem Bool} (c : MCal X.prog X.w X.K X.mg X.base CX k C m ps sp) (cl : Cls X.K C) (hr : Room k X.A) (hx : Passes CX X E) (ho : PE X o ta) (ha : PA X (e :: es) t)
    (hst : starEach (e :: es) X.env = (false, eval e X.env) :: starEach es X.env := by rfl) (hpl : (backTo pos (starEach es X.env)).any (·.1) = false := by rfl)
    (ht : eval (.Call (.Attribute o m apos) (e :: es) [] pos) X.env = (do
      let ov ← eval o X.env
      standAt apos.atName
      let (f, first) ← holding [ov] (getMethod ov m pl)
      callWith pos f first (backTo pos (starEach (e :: es) X.env)) (backToKw pos (keywordEach [] X.env))) := by rfl) :
    PE X (.Call (.Attribute o m apos) (e :: es) [] pos) (tMeth C m sp [] E ta t) := by
  obtain ⟨f, fd, F, hb, hm⟩ := c
  exact pe_meth ho cl hm F hr hb .nil hx ha hst hpl ht
theorem pe_mth0 {pl : Sem Bool} (c : MCal X.prog X.w X.K X.mg X.base CX k C m ps sp) (cl : Cls X.K C) (hr : Room k X.A) (hx : Passes CX X E) (ho : PE X o ta)
    (ht : eval (.Call (.Attribute o m apos) [] [] pos) X.env = (do
      let ov ← eval o X.env
      standAt apos.atName
      let (f, first) ← holding [ov] (getMethod ov m pl)
      callWith pos f first (backTo pos (starEach [] X.env)) (backToKw pos (keywordEach [] X.env))) := by rfl) :
    PE X (.Call (.Attribute o m apos) [] [] pos) (tMeth C m sp [] E ta tNil) := by
  obtain ⟨f, fd, F, hb, hm⟩ := c
  exact pe_meth0 ho cl hm F hr hb .nil hx ht
theorem pe_new (c : CCal X.prog X.w X.K X.mg X.base CX k x C sp) (hr : Room (k + 1) X.A) (hx : Passes CX X E) (hg : Gl X x := by rfl) (hdb : (x == ("__debug__" : Str)) = false := by decide) : PE X (.Call (.Name x p) [] [] pos) (tMake C sp [] E tNil) := by
  obtain ⟨f, fd, F, hb, M, hm⟩ := c
  exact pe_make0 M F hr hg hm hb .nil hx hdb
end
section
variable {P : Program} {w : World} {K : PySem.W.Frag} {mg : Str → Option Value} {base : Heap} {x m qual : Str} {st : Stmt} {N ps : List Str} {k : Nat} {sp : Sp} {C : Addr}
abbrev BindsAs (x qual : Str) (st : Stmt) (ps : List Str) : Prop := ∀ (kV doc pm : Value) (an : Option Addr) (cdv ct : Value) (us : List Value), us.length = ps.length → bindArgs (PySem.W.fnOf x qual (defArgs st) (defBody st) (defScope st) .none kV doc pm an cdv ct) ⟨us, []⟩ = pure (ps.zip us)
/-- a def that raises nothing -/
theorem Def.cal (D : Def K mg x st) (S : FnScope N ps (defScope st)) (bd : BindsAs x x st ps) (len : ∀ vs H Q E, sp vs H Q E → vs.length = ps.length)
    (hbody : ∀ (f : Addr) (cdv : Value) (A : Around) (outer : List Env) (s : Shared) (H : Hp) (vs : List V) (Q : VK) (E : XK), Room k (A.deeper (envOfC x (defScope st) s.heap.objs.size f cdv)) → sp vs H Q E →
      ∃ t, PSs (cxOf CX0 P w K mg base N x (defScope st) f cdv A outer s H E).nox (defBody st) t ∧ t { nx := fun _ H' => Q .non H', rt := Q } (start N vs) H) : Cal P w K mg base CX0 (k + 1) x ps sp := by
  obtain ⟨f, fd, F, hm⟩ := D
  exact ⟨f, fd, F.ok S len (hbody f), F.binds bd, hm, F.kp⟩
/-- a def that may raise -/
theorem Def.calX (D : Def K mg x st) (S : FnScope N ps (defScope st)) (bd : BindsAs x x st ps) (len : ∀ vs H Q E, sp vs H Q E → vs.length = ps.length)
    (hbody : ∀ (f : Addr) (cdv : Value) (A : Around) (outer : List Env) (s : Shared) (H : Hp) (vs : List V) (Q : VK) (E : XK), Room k (A.deeper (envOfC x (defScope st) s.heap.objs.size f cdv)) → sp vs H Q E →
      ∃ t, PSs (cxOf (CXo P w) P w K mg base N x (defScope st) f cdv A outer s H E) (defBody st) t ∧ t { nx := fun _ H' => Q .non H', rt := Q } (start N vs) H) : Cal P w K mg base (CXo P w) (k + 1) x ps sp := by
  obtain ⟨f, fd, F, hm⟩ := D
  exact ⟨f, fd, F.okX S len (hbody f), F.binds bd, hm, F.kp⟩
theorem MDef.cal (D : MDef K C m qual st) (S : FnScope N ps (defScope st)) (bd : BindsAs m qual st ps) (len : ∀ vs H Q E, sp vs H Q E → vs.length = ps.length)
    (hbody : ∀ (f : Addr) (cdv : Value) (A : Around) (outer : List Env) (s : Shared) (H : Hp) (vs : List V) (Q : VK) (E : XK), Room k (A.deeper (envOfC qual (defScope st) s.heap.objs.size f cdv)) → sp vs H Q E →
      ∃ t, PSs (cxOf CX0 P w K mg base N qual (defScope st) f cdv A outer s H E).nox (defBody st) t ∧ t { nx := fun _ H' => Q .non H', rt := Q } (start N vs) H) : MCal P w K mg base CX0 (k + 1) C m ps sp := by
  obtain ⟨f, fd, F, hm⟩ := D
  exact ⟨f, fd, F.ok S len (hbody f), F.binds bd, hm⟩
theorem MDef.calX (D : MDef K C m qual st) (S : FnScope N ps (defScope st)) (bd : BindsAs m qual st ps) (len : ∀ vs H Q E, sp vs H Q E → vs.length = ps.length)
    (hbody : ∀ (f : Addr) (cdv : Value) (A : Around) (outer : List Env) (s : Shared) (H : Hp) (vs : List V) (Q : VK) (E : XK), Room k (A.deeper (envOfC qual (defScope st) s.heap.objs.size f cdv)) → sp vs H Q E →
      ∃ t, PSs (cxOf (CXo P w) P w K mg base N qual (defScope st) f cdv A outer s H E) (defBody st) t ∧ t { nx := fun _ H' => Q .non H', rt := Q } (start N vs) H) : MCal P w K mg base (CXo P w) (k + 1) C m ps sp := by
  obtain ⟨f, fd, F, hm⟩ := D
  exact ⟨f, fd, F.okX S len (hbody f), F.binds bd, hm⟩
end
theorem Inv.news {X : Cx} {pins : List (Addr × Obj)} {σ : St} {H H' : Hp} {s : Shared} {h' : Heap} {t' : Nat} (I : Inv X pins σ H s) (k : ∀ b u, s.heap.get? b = some u → h'.get? b = some u) (hn : ∀ b, H' b = H b ∨ s.heap.objs.size ≤ b)
    (new : ∀ b o, s.heap.objs.size ≤ b → H' b = some o → ObjOk X.prog X.w H' h' b o) : Inv X pins σ H' { s with heap := h', toks := t' } := by
  have old : ∀ b o, H b = some o → H' b = some o := fun b o e => by
    rcases hn b with z | z
    · rw [z]; exact e
    · exact absurd (I.hok.lt e) (Nat.not_lt.mpr z)
  refine I.un ⟨fun b u q _ _ _ => k b u q, fun b u q _ _ _ => ⟨u.slots, k b u q⟩, fun b u q n _ => ?_, fun b u q _ => ⟨u, k b u q⟩, fun b xs q => old b _ q, fun b u xs q => old b _ q, fun b ps q => ⟨#[], by rw [old b _ q]; simp⟩⟩ (fun b o e => ?_)
  · rcases hn b with z | z
    · rw [z]; exact n
    · exact absurd (Heap.lt_size q) (Nat.not_lt.mpr z)
  · rcases hn b with z | z
    · rw [z] at e
      exact (I.hok b o e).stay (fun c v _ q => k c v q) (fun c q => old c _ q) (fun c xs q => old c _ q)
    · exact new b o z e
/-- the tuples' rows -/
def Rows (H : Hp) : List V → List (List V) → Prop := Paired fun v row => ∃ p, v = .ref p ∧ H p = some (.tup row)
/-- a list of tuples, all new -/
def tupsAt (H : Hp) (L : Addr) (ts : List Addr) (rows : List (List V)) : Hp := fun b => if b = L then some (.lst (ts.map V.ref)) else match ts.findIdx? (fun t => t == b) with
  | some i => some (.tup (rows.getD i []))
  | none => H b
theorem find_at {ts : List Addr} (hp : ts.Pairwise fun a b => a < b) {j : Nat} {t : Addr} (h : ts[j]? = some t) : ts.findIdx? (fun x => x == t) = some j := by
  rw [List.findIdx?_eq_some_iff_getElem]
  obtain ⟨hj, e⟩ := List.getElem?_eq_some_iff.mp h
  refine ⟨hj, by simp [e], fun i hi => ?_⟩
  have := List.pairwise_iff_getElem.mp hp i j (by omega) hj hi
  rw [e] at this
  simp only [beq_iff_eq]
  exact Nat.ne_of_lt this
theorem rows_get : ∀ {H : Hp} {ts : List Addr} {rows : List (List V)}, ts.length = rows.length → (∀ j t, ts[j]? = some t → H t = some (.tup (rows.getD j []))) → Rows H (ts.map V.ref) rows
  | _, [], [], _, _ => .nil
  | _, [], _ :: _, h, _ => by simp at h
  | _, _ :: _, [], h, _ => by simp at h
  | H, t :: ts, r :: rows, h, k => .cons ⟨t, rfl, by simpa using k 0 t rfl⟩ (rows_get (by simpa using h) fun j u e => by simpa using k (j + 1) u (by simpa using e))
theorem arr_getD {us : List Value} {i : Nat} {u : Value} (h : us[i]? = some u) : us.toArray.getD i .none = u := by
  obtain ⟨hi, e⟩ := List.getElem?_eq_some_iff.mp h
  simp [Array.getD, hi, e]
section
variable {X : Cx}
theorem boot_list5 : bootBuiltins "list" = some (.type "list") := by decide +kernel
theorem Inv.zipped {pins : List (Addr × Obj)} {σ : St} {H : Hp} {s : Shared} {h' : Heap} {L c : Nat} {ts : List Addr} {T : Nat → Obj} {rows : List (List V)} {n : Nat} (I : Inv X pins σ H s) (kp : ∀ b o, s.heap.get? b = some o → h'.get? b = some o) (hL : s.heap.objs.size ≤ L)
    (eL : h'.get? L = some { cls := .type "list", dict := none, data := .seq (ts.map Value.ref).toArray c, slots := #[] }) (G : Zl.Got (L + 1) T h' ts) (hlen : ts.length = rows.length) (hsz : rows.length ≤ sizeLine)
    (hT : ∀ j row, rows[j]? = some row → row.length ≤ sizeLine ∧ ∃ its : List Value, Vals row its ∧ T j = { cls := .type "tuple", data := .seq its.toArray }) :
    Inv X pins σ (tupsAt H L ts rows) { s with heap := h' } ∧ Same H (tupsAt H L ts rows) ∧ tupsAt H L ts rows L = some (.lst (ts.map V.ref)) ∧ Rows (tupsAt H L ts rows) (ts.map V.ref) rows := by
  have far : ∀ b, b < s.heap.objs.size → tupsAt H L ts rows b = H b := fun b hb => by
    unfold tupsAt
    rw [if_neg (Nat.ne_of_lt (Nat.lt_of_lt_of_le hb hL))]
    have : ts.findIdx? (fun t => t == b) = none := by
      rw [List.findIdx?_eq_none_iff]
      intro t ht
      have := G.above t ht
      simp only [beq_eq_false_iff_ne]
      intro z
      subst z
      exact absurd (Nat.lt_of_lt_of_le hb (Nat.le_trans hL (Nat.le_trans (Nat.le_succ L) this))) (Nat.lt_irrefl _)
    rw [this]
  have atT : ∀ j t, ts[j]? = some t → tupsAt H L ts rows t = some (.tup (rows.getD j [])) := fun j t h => by
    unfold tupsAt
    have ht := G.above t (List.mem_of_getElem? h)
    rw [if_neg (Nat.ne_of_gt ht), find_at G.rise h]
  have sm : Same H (tupsAt H L ts rows) := fun b o e => by rw [far b (I.hok.lt e)]; exact e
  refine ⟨I.news (t' := s.toks) kp (fun b => ?_) (fun b o hb e => ?_), sm, if_pos rfl, rows_get hlen atT⟩
  · by_cases hb : b < s.heap.objs.size
    · exact .inl (far b hb)
    · exact .inr (Nat.not_lt.mp hb)
  · unfold tupsAt at e
    by_cases hbL : b = L
    · rw [if_pos hbL] at e
      cases e
      subst hbL
      refine ⟨by rw [List.length_map, hlen]; exact hsz, ts.map Value.ref, c, ?_, eL⟩
      clear eL G hlen hT far atT sm
      induction ts with
      | nil => exact .nil
      | cons t ts ih => exact .cons rfl ih
    · rw [if_neg hbL] at e
      cases q : ts.findIdx? (fun t => t == b) with
      | none =>
        rw [q] at e
        exact absurd (I.hok.lt e) (Nat.not_lt.mpr hb)
      | some i =>
        rw [q] at e
        cases e
        obtain ⟨hi, h1, _⟩ := List.findIdx?_eq_some_iff_getElem.mp q
        have eb : ts[i] = b := by simpa using h1
        have hir : i < rows.length := by rw [← hlen]; exact hi
        have er : rows.getD i [] = rows[i] := by rw [List.getD_eq_getElem?_getD, List.getElem?_eq_getElem hir]; rfl
        obtain ⟨z, its, rv, eT⟩ := hT i rows[i] (List.getElem?_eq_getElem hir)
        have hg := G.at_ i b (by rw [List.getElem?_eq_getElem hi, eb])
        rw [er]
        rw [eT] at hg
        exact ⟨z, its, rv, ⟨_, hg, rfl, _, rfl⟩⟩
def tZip2 (K : PySem.W.Frag) (ta : TA) : TE := fun σ H Q => ta σ H fun vs H1 => ∃ a b xs ys, vs = [.ref a, .ref b] ∧ SqL K H1 a xs ∧ SqL K H1 b ys ∧ xs.length = ys.length ∧ 0 < xs.length ∧
  ∀ H2 L ts, Same H1 H2 → H1 L = none → H2 L = some (.lst ts) → Rows H2 ts ((xs.zip ys).map fun p => [p.1, p.2]) → Q (.ref L) H2
theorem pe_lzip2 {e1 e2 : Expr} {ta : TA} {p1 p2 p3 p4 : Pos} (hc : X.calm = true) (hm : X.mg "list" = none) (hm2 : X.mg "zip" = none) (ha : PA X [e1, e2] ta) (hg : Gl X "list" := by rfl) (hg2 : Gl X "zip" := by rfl)
    (hs : starEach [.Call (.Name "zip" p2) [e1, e2] [] p3] X.env = (false, eval (.Call (.Name "zip" p2) [e1, e2] [] p3) X.env) :: starEach [] X.env := by rfl)
    (hs2 : starEach [e1, e2] X.env = (false, eval e1 X.env) :: starEach [e2] X.env := by rfl) (hpl : (backTo p3 (starEach [e2] X.env)).any (·.1) = false := by rfl) (hpl0 : (backTo p4 (starEach [] X.env)).any (·.1) = false := by rfl) :
    PE X (.Call (.Name "list" p1) [.Call (.Name "zip" p2) [e1, e2] [] p3] [] p4) (tZip2 X.K ta) := by
  intro pins s σ H Q I h
  refine wpAny_Call_Name_kw (ld_blt I hg hm boot_list5 ?_)
  refine PyProof.Rows.callWith_type1 ?_ hs hpl0
  rw [hs]
  show wpAny _ _ (spliced ((false, eval (.Call (.Name "zip" p2) [e1, e2] [] p3) X.env) :: backTo p4 (starEach [] X.env))) _ _ s
  refine Calls.spliced_cons ?_
  refine wpAny_Call_Name_kw (ld_blt I hg2 hm2 boot_zip5 ?_)
  refine PyProof.Rows.callWith_type1 (thn (ha p3 pins s σ H _ I h) fun us s1 ⟨vs, H1, I1, r1, q1⟩ => ?_) hs2 hpl
  obtain ⟨a, b, xs, ys, e, hx, hy, hl, hp, q⟩ := q1
  subst e
  obtain ⟨u1, u2, rfl, ru1, ru2⟩ := vals2 r1
  cases ru1
  cases ru2
  obtain ⟨its, rv, pl, hz⟩ := I1.list hx
  obtain ⟨its2, rv2, pl2, hz2⟩ := I1.list hy
  have l1 := rv.length
  have l2 := rv2.length
  refine wpAny_mono (Zl.list_zip2 (Q := EP X pins σ Q) (I1.ok.hd hc) pl.isList pl2.isList (by simp only [List.size_toArray]; omega) (by simp only [List.size_toArray]; omega) (by simp only [List.size_toArray]; omega) fun h' L c ts kp hL eL hlen G => ?_) (fun v s2 h2 => Calls.spliced_nil h2) fun _ _ z => z
  have hlr : ((xs.zip ys).map fun p => [p.1, p.2]).length = xs.length := by rw [List.length_map, List.length_zip]; omega
  obtain ⟨I2, sm, eL2, R⟩ := I1.zipped (rows := (xs.zip ys).map fun p => [p.1, p.2]) (n := 0) kp hL eL G (by rw [hlr, hlen, List.size_toArray]; omega) (by rw [hlr]; exact hz) (fun j row hj => by
    rw [List.getElem?_map] at hj
    cases hz' : (xs.zip ys)[j]? with
    | none => rw [hz'] at hj; cases hj
    | some p =>
      rw [hz'] at hj
      have ej : [p.1, p.2] = row := Option.some.inj hj
      subst ej
      obtain ⟨hx1, hy1⟩ := List.getElem?_zip_eq_some.mp hz'
      obtain ⟨v1, g1, rr1⟩ := rv.get hx1
      obtain ⟨v2, g2, rr2⟩ := rv2.get hy1
      refine ⟨by show 2 ≤ sizeLine; decide, [v1, v2], .cons rr1 (.cons rr2 .nil), ?_⟩
      have k1 : its.toArray.getD j .none = v1 := arr_getD g1
      have k2 : its2.toArray.getD j .none = v2 := arr_getD g2
      rw [k1, k2])
  exact ⟨.ref L, _, I2, rfl, q _ L _ sm (I1.hok.fresh hL) eL2 R⟩
def tZip3 (K : PySem.W.Frag) (ta : TA) : TE := fun σ H Q => ta σ H fun vs H1 => ∃ a b c xs ys zs, vs = [.ref a, .ref b, .ref c] ∧ SqL K H1 a xs ∧ SqL K H1 b ys ∧ SqL K H1 c zs ∧ xs.length = ys.length ∧ xs.length = zs.length ∧ 0 < xs.length ∧
  ∀ H2 L ts, Same H1 H2 → H1 L = none → H2 L = some (.lst ts) → Rows H2 ts ((xs.zip (ys.zip zs)).map fun p => [p.1, p.2.1, p.2.2]) → Q (.ref L) H2
theorem pe_lzip3 {e1 e2 e3 : Expr} {ta : TA} {p1 p2 p3 p4 : Pos} (hc : X.calm = true) (hm : X.mg "list" = none) (hm2 : X.mg "zip" = none) (ha : PA X [e1, e2, e3] ta) (hg : Gl X "list" := by rfl) (hg2 : Gl X "zip" := by rfl)
    (hs : starEach [.Call (.Name "zip" p2) [e1, e2, e3] [] p3] X.env = (false, eval (.Call (.Name "zip" p2) [e1, e2, e3] [] p3) X.env) :: starEach [] X.env := by rfl)
    (hs2 : starEach [e1, e2, e3] X.env = (false, eval e1 X.env) :: starEach [e2, e3] X.env := by rfl) (hpl : (backTo p3 (starEach [e2, e3] X.env)).any (·.1) = false := by rfl) (hpl0 : (backTo p4 (starEach [] X.env)).any (·.1) = false := by rfl) :
    PE X (.Call (.Name "list" p1) [.Call (.Name "zip" p2) [e1, e2, e3] [] p3] [] p4) (tZip3 X.K ta) := by
  intro pins s σ H Q I h
  refine wpAny_Call_Name_kw (ld_blt I hg hm boot_list5 ?_)
  refine PyProof.Rows.callWith_type1 ?_ hs hpl0
  rw [hs]
  show wpAny _ _ (spliced ((false, eval (.Call (.Name "zip" p2) [e1, e2, e3] [] p3) X.env) :: backTo p4 (starEach [] X.env))) _ _ s
  refine Calls.spliced_cons ?_
  refine wpAny_Call_Name_kw (ld_blt I hg2 hm2 boot_zip5 ?_)
  refine PyProof.Rows.callWith_type1 (thn (ha p3 pins s σ H _ I h) fun us s1 ⟨vs, H1, I1, r1, q1⟩ => ?_) hs2 hpl
  obtain ⟨a, b, c, xs, ys, zs, e, hx, hy, hw, hl, hl2, hp, q⟩ := q1
  subst e
  obtain ⟨u1, u2, u3, rfl, ru1, ru2, ru3⟩ : ∃ u1 u2 u3, us = [u1, u2, u3] ∧ RelV (.ref a) u1 ∧ RelV (.ref b) u2 ∧ RelV (.ref c) u3 := by
    cases r1 with
    | cons a1 r2 => cases r2 with
      | cons a2 r3 => cases r3 with
        | cons a3 r4 => cases r4; exact ⟨_, _, _, rfl, a1, a2, a3⟩
  cases ru1
  cases ru2
  cases ru3
  obtain ⟨its, rv, pl, hz⟩ := I1.list hx
  obtain ⟨its2, rv2, pl2, hz2⟩ := I1.list hy
  obtain ⟨its3, rv3, pl3, hz3⟩ := I1.list hw
  have l1 := rv.length
  have l2 := rv2.length
  have l3 := rv3.length
  refine wpAny_mono (Zl.list_zip3 (Q := EP X pins σ Q) (I1.ok.hd hc) pl.isList pl2.isList pl3.isList (by simp only [List.size_toArray]; omega) (by simp only [List.size_toArray]; omega) (by simp only [List.size_toArray]; omega) (by simp only [List.size_toArray]; omega) fun h' L c ts kp hL eL hlen G => ?_) (fun v s2 h2 => Calls.spliced_nil h2) fun _ _ z => z
  have hlr : ((xs.zip (ys.zip zs)).map fun p => [p.1, p.2.1, p.2.2]).length = xs.length := by rw [List.length_map, List.length_zip, List.length_zip]; omega
  obtain ⟨I2, sm, eL2, R⟩ := I1.zipped (rows := (xs.zip (ys.zip zs)).map fun p => [p.1, p.2.1, p.2.2]) (n := 0) kp hL eL G (by rw [hlr, hlen, List.size_toArray]; omega) (by rw [hlr]; exact hz) (fun j row hj => by
    rw [List.getElem?_map] at hj
    cases hz' : (xs.zip (ys.zip zs))[j]? with
    | none => rw [hz'] at hj; cases hj
    | some p =>
      rw [hz'] at hj
      have ej : [p.1, p.2.1, p.2.2] = row := Option.some.inj hj
      subst ej
      obtain ⟨hx1, hyz⟩ := List.getElem?_zip_eq_some.mp hz'
      obtain ⟨hy1, hz1⟩ := List.getElem?_zip_eq_some.mp hyz
      obtain ⟨v1, g1, rr1⟩ := rv.get hx1
      obtain ⟨v2, g2, rr2⟩ := rv2.get hy1
      obtain ⟨v3, g3, rr3⟩ := rv3.get hz1
      refine ⟨by show 3 ≤ sizeLine; decide, [v1, v2, v3], .cons rr1 (.cons rr2 (.cons rr3 .nil)), ?_⟩
      have k1 : its.toArray.getD j .none = v1 := arr_getD g1
      have k2 : its2.toArray.getD j .none = v2 := arr_getD g2
      have k3 : its3.toArray.getD j .none = v3 := arr_getD g3
      rw [k1, k2, k3])
  exact ⟨.ref L, _, I2, rfl, q _ L _ sm (I1.hok.fresh hL) eL2 R⟩
def tOrL (K : PySem.W.Frag) (ta tb : TE) : TE := fun σ H Q => ta σ H fun x H1 => ∃ k, TruV K x H1 k ∧ if k = true then Q x H1 else tb σ H1 Q
theorem pe_orL {a b : Expr} {rest : List Expr} {pos : Pos} {ta tb : TE} (ha : PE X a ta) (hb : PE X (.BoolOp .Or (b :: rest) pos) tb) : PE X (.BoolOp .Or (a :: b :: rest) pos) (tOrL X.K ta tb) := by
  intro pins s σ H Q I h
  refine BoolOp_or (thn (ha pins s σ H _ I h) fun v s1 ⟨x, H1, I1, r1, k, hk, q1⟩ => ?_)
  refine thn (tru_ok pins s1 σ H1 x v (fun c H2 => H2 = H1 ∧ c = k) I1 r1 ⟨k, hk, rfl, rfl⟩) fun c s2 ⟨H2, I2, e1, e2⟩ => ?_
  subst e1 e2
  cases c with
  | true => exact ⟨x, _, I2, r1, q1⟩
  | false => exact hb pins s2 σ _ Q I2 q1
end
end L2
end
section
set_option Elab.async false
set_option linter.all false
set_option maxRecDepth 100000
set_option exponentiation.threshold 5000
namespace SP
open PySem PySem.Spec PyProof.Rows L2 Mt
open Pl (Line Fn)
abbrev top (i : Nat) : Stmt := PySem.Challenge.pw_straightpieces_s01_answers.main.body.getD i (.Pass ⟨0, 0, 0, 0⟩)
/-- tuples stay -/
def Tp (H H' : Hp) : Prop := (∀ b xs, H b = some (.tup xs) → H' b = some (.tup xs)) ∧ ∀ b o xs, H b = some (.frz o (.tup xs)) → H' b = some (.frz o (.tup xs))
theorem Tp.of {H H' : Hp} (s : Same H H') : Tp H H' := ⟨fun b xs e => s b _ e, fun b o xs e => s b _ e⟩
theorem Tp.trans {H H1 H2 : Hp} (a : Tp H H1) (b : Tp H1 H2) : Tp H H2 := ⟨fun c xs e => b.1 c xs (a.1 c xs e), fun c o xs e => b.2 c o xs (a.2 c o xs e)⟩
theorem Tp.upd {H : Hp} {a : Addr} {xs : List V} {o : HO} (h : H a = some (.lst xs)) : Tp H (upd H a o) :=
  ⟨fun b ys e => by rw [upd_ne (ne_of e h (by intro z; cases z))]; exact e, fun b o ys e => by rw [upd_ne (ne_of e h (by intro z; cases z))]; exact e⟩
theorem Same.new {H : Hp} {a : Addr} {o : HO} (h : H a = none) : Same H (upd H a o) := fun b u e => by
  rw [upd_ne (ne_of_none e h)]
  exact e
theorem sqt {K : PySem.W.Frag} {H H' : Hp} {a : Addr} {xs : List V} (t : Tp H H') (h : SqT K H a xs) : SqT K H' a xs := by
  rcases h with (h | ⟨o, h⟩) | h
  · exact .inl (.inl (t.1 _ _ h))
  · exact .inl (.inr ⟨o, t.2 _ _ _ h⟩)
  · exact .inr h
def Fr (K : PySem.W.Frag) (H : Hp) (v : V) (q : Rat) : Prop := ∃ p, v = .ref p ∧ SqT K H p [.int q.num, .int (q.den : Int)]
def OFr (K : PySem.W.Frag) (H : Hp) (v : V) (o : Option Rat) : Prop := (o = none ∧ v = .non) ∨ ∃ q, o = some q ∧ Fr K H v q
def Ln (K : PySem.W.Frag) (H : Hp) (v : V) (l : Line) : Prop := ∃ p a b, v = .ref p ∧ SqT K H p [a, b] ∧ Fr K H a l.s ∧ Fr K H b l.c
section
variable {K : PySem.W.Frag} {H H' : Hp} {v : V}
theorem Fr.mono {q : Rat} (t : Tp H H') (h : Fr K H v q) : Fr K H' v q := by
  obtain ⟨p, e, s⟩ := h
  exact ⟨p, e, sqt t s⟩
theorem OFr.mono {o : Option Rat} (t : Tp H H') (h : OFr K H v o) : OFr K H' v o := by
  rcases h with h | ⟨q, e, h⟩
  · exact .inl h
  · exact .inr ⟨q, e, h.mono t⟩
theorem Ln.mono {l : Line} (t : Tp H H') (h : Ln K H v l) : Ln K H' v l := by
  obtain ⟨p, a, b, e, s, h1, h2⟩ := h
  exact ⟨p, a, b, e, sqt t s, h1.mono t, h2.mono t⟩
theorem Fr.some {q : Rat} (h : Fr K H v q) : OFr K H v (some q) := .inr ⟨q, rfl, h⟩
theorem ofr_none : OFr K H .non none := .inl ⟨rfl, rfl⟩
end
/-- the facts of the module that the defs lean on -/
def GV (mg : Str → Option Value) (x : Str) (v : V) : Prop := ∃ u, mg x = some u ∧ RelV v u
theorem pe_gl {X : Cx} {x : Str} {v : V} {pos : Pos} (h : GV X.mg x v) (hg : Gl X x := by rfl) (hd : (x == ("__debug__" : Str)) = false := by decide) : PE X (.Name x pos) (tC v) := by
  obtain ⟨u, hm, r⟩ := h
  exact pe_glob hg hm r hd
/-- a fraction that the module holds -/
def GFr (K : PySem.W.Frag) (mg : Str → Option Value) (x : Str) (q : Rat) : Prop := ∃ v, GV mg x v ∧ ∀ H, Fr K H v q
structure Txt (K : PySem.W.Frag) (mg : Str → Option Value) : Prop where
  zero : GFr K mg "ZERO" 0
  one : GFr K mg "ONE" 1
  half : GFr K mg "HALF" (1 / 2)
  abs_ : mg "abs" = none
  len_ : mg "len" = none
  list_ : mg "list" = none
  zip_ : mg "zip" = none
  enum_ : mg "enumerate" = none
  rev_ : mg "reversed" = none
  any_ : mg "any" = none
  all_ : mg "all" = none
  mLines : GV mg "MOST_LINES" (.int 32)
  mSlope : GV mg "MOST_IN_SLOPE" (.int 32767)
  mElse : GV mg "MOST_ELSEWHERE" (.int 2147483647)
  mValue : GV mg "MOST_IN_VALUE" (.int 9223372036854775807)
  cLast : GV mg "LAST_PLACE" (.int 15)
  cLine : GV mg "LINE" (.int 0)
  cAdd : GV mg "ADD" (.int 1)
  cScale : GV mg "SCALE" (.int 2)
  cGreat : GV mg "GREAT" (.int 3)
  cLess : GV mg "LESS" (.int 4)
  cInverse : GV mg "INVERSE" (.int 6)
  cValue : GV mg "VALUE" (.int 7)
  cSame : GV mg "SAME" (.int 8)
  cForm : GV mg "FORM" (.int 10)
section
variable {P : Program} {w : World} {K : PySem.W.Frag} {mg : Str → Option Value} {base : Heap}
def spGcd : Sp := fun vs H Q _ => ∃ m n : Nat, vs = [.int m, .int n] ∧ Q (.int (Nat.gcd m n : Nat)) H
theorem scGcd : FnScope ["a", "b", "rest"] ["a", "b"] (defScope (top 4)) := ⟨rfl, rfl, rfl, by decide +kernel, rfl, by decide +kernel, by decide +kernel⟩
theorem ok_gcd (D : Def K mg "common_divisor" (top 4)) : Cal P w K mg base CX0 1 "common_divisor" ["a", "b"] spGcd := by
  refine D.cal (k := 0) scGcd (fun _ _ _ _ _ _ us hl => match us, hl with | [_, _], _ => rfl) (fun vs H Q E h => ?_) (fun f cdv A outer s H vs Q E hr h => ?_)
  · obtain ⟨m, n, rfl, _⟩ := h
    rfl
  · obtain ⟨m, n, rfl, k⟩ := h
    refine ⟨_, pss_cons (ps_while PassesOwn.never (pt_cmpR op_ne (pv 1) pe_int (nomark _)) (pss_cons (ps_set (i := 2) scGcd.nd rfl (Or.inl rfl) (pe_op op_mod (pv 0) (pv 1))) (pss_cons (ps_set (i := 0) scGcd.nd rfl (Or.inl rfl) (pv 1)) (pss_one (ps_set (i := 1) scGcd.nd rfl (Or.inl rfl) (pv 2)))))) (pss_one (ps_ret (pv 0))), ?_⟩
    refine ⟨fun j σ H' => ∃ (a b : Nat) (r : Option V), j = b ∧ σ = [some (.int a), some (.int b), r] ∧ H = H' ∧ Nat.gcd a b = Nat.gcd m n, ⟨n, m, n, none, rfl, rfl, rfl, rfl⟩, ?_⟩
    rintro b σ H' ⟨a, b', r, e0, rfl, rfl, hg⟩
    subst e0
    refine ⟨_, rfl, rfl, _, rfl, ?_⟩
    by_cases hb : (V.int (b : Int)) = V.int 0
    · rw [decide_eq_true hb]
      refine iteF ?_
      have hb0 : b = 0 := by
        have := V.int.inj hb
        omega
      subst hb0
      refine ⟨_, rfl, ?_⟩
      rw [Nat.gcd_zero_right] at hg
      rw [hg]
      exact k
    · rw [decide_eq_false hb]
      refine iteT ?_
      have hb0 : 0 < b := by
        rcases Nat.eq_zero_or_pos b with z | z
        · subst z
          exact absurd rfl hb
        · exact z
      refine ⟨fun σ' H' => ∃ (a' b' : Nat) (r : Option V), b' < b ∧ σ' = [some (.int a'), some (.int b'), r] ∧ H = H' ∧ Nat.gcd a' b' = Nat.gcd m n, ?_, ?_⟩
      · rintro σ' H' ⟨a', b', r', h1, h2, h3, h4⟩
        exact ⟨b', h1, a', b', r', rfl, h2, h3, h4⟩
      · refine ⟨_, rfl, _, rfl, _, _, rfl, rfl, (by omega : (0 : Int) < (b : Int)), ?_⟩
        refine ⟨_, rfl, ?_⟩
        refine ⟨_, rfl, ?_⟩
        refine ⟨b, a % b, some (.int ((a % b : Nat) : Int)), Nat.mod_lt _ hb0, ?_, rfl, ?_⟩
        · rw [Int.natCast_emod]
          rfl
        · rw [gcd_step]
          exact hg
def spRatio (K : PySem.W.Frag) : Sp := fun vs H Q _ => ∃ a b : Int, vs = [.int a, .int b] ∧ b ≠ 0 ∧ a.natAbs < 2 ^ 3900 ∧ b.natAbs < 2 ^ 3900 ∧ ∀ H' r, Same H H' → Fr K H' r (Rat.divInt a b) → Q r H'
theorem scRatio : FnScope ["top", "bottom", "divisor"] ["top", "bottom"] (defScope (top 5)) := ⟨rfl, rfl, rfl, by decide +kernel, rfl, by decide +kernel, by decide +kernel⟩
theorem abs_if (a : Int) : (if a < 0 then -a else a) = ((a.natAbs : Nat) : Int) := by
  split <;> omega
theorem ok_ratio (T : Txt K mg) (D : Def K mg "ratio" (top 5)) (G : Cal P w K mg base CX0 1 "common_divisor" ["a", "b"] spGcd) : Cal P w K mg base CX0 2 "ratio" ["top", "bottom"] (spRatio K) := by
  refine D.cal (k := 1) scRatio (fun _ _ _ _ _ _ us hl => match us, hl with | [_, _], _ => rfl) (fun vs H Q E h => ?_) (fun f cdv A outer s H vs Q E hr h => ?_)
  · obtain ⟨a, b, rfl, _⟩ := h
    rfl
  · obtain ⟨a, b, rfl, hb, ha, hbb, k⟩ := h
    refine ⟨_, pss_cons (ps_set (i := 2) scRatio.nd rfl (Or.inl rfl) (pe_fn G hr pass0 (pa_cons (pe_callB call_abs (by rfl) T.abs_ (by decide +kernel) (pa_cons (pv 0) pa_nil)) (pa_cons (pe_callB call_abs (by rfl) T.abs_ (by decide +kernel) (pa_cons (pv 1) pa_nil)) pa_nil))))
      (pss_cons (ps_if (pt_cmpR op_lt (pv 1) pe_int (nomark _)) (pss_one (ps_set (i := 2) scRatio.nd rfl (Or.inl rfl) (pe_un un_neg (pv 2)))) pss_nil)
      (pss_one (ps_ret (pe_tup (pa_cons (pe_op op_fdivW (pv 0) (pv 2)) (pa_cons (pe_op op_fdivW (pv 1) (pv 2)) pa_nil)))))), ?_⟩
    refine ⟨_, rfl, a, rfl, _, rfl, b, rfl, ?_⟩
    rw [abs_if, abs_if]
    refine ⟨a.natAbs, b.natAbs, rfl, ?_⟩
    have fin : ∀ d : Int, d = (if b < 0 then -((Int.gcd a b : Nat) : Int) else ((Int.gcd a b : Nat) : Int)) →
        (tTup (tCons (tOp (rI CWideN fun i j => V.int (i.fdiv j)) (tVar 0) (tVar 2)) (tCons (tOp (rI CWideN fun i j => V.int (i.fdiv j)) (tVar 1) (tVar 2)) tNil))) [some (.int a), some (.int b), some (.int d)] H Q := fun d hd => by
      obtain ⟨h1, h2, h3⟩ := ratio_eq hb rfl hd
      have hw : d.natAbs < 2 ^ 4000 := by
        have hle : d.natAbs ≤ b.natAbs := by
          have : d.natAbs = Int.gcd a b := by rw [hd]; split <;> simp
          rw [this]
          exact Nat.le_of_dvd (Int.natAbs_pos.mpr hb) (Int.natAbs_dvd_natAbs.mpr (Int.gcd_dvd_right a b))
        exact Nat.lt_of_le_of_lt hle (Nat.lt_of_lt_of_le hbb (Nat.pow_le_pow_right (by decide) (by decide)))
      refine ⟨_, rfl, _, rfl, _, _, rfl, rfl, ⟨h1, hw⟩, _, rfl, _, rfl, _, _, rfl, rfl, ⟨h1, hw⟩, (by show 2 ≤ sizeLine; decide), fun p hp => ?_⟩
      refine k _ _ (Same.new hp) ⟨p, rfl, SqT.of ?_⟩
      rw [upd_same]
      show some (HO.tup [V.int (a.fdiv d), V.int (b.fdiv d)]) = _
      rw [h2, h3]
    refine ⟨_, rfl, _, _, rfl, rfl, _, rfl, ?_⟩
    refine ite2 (fun hn => ?_) (fun hn => ?_)
    · refine ⟨_, rfl, _, rfl, ?_⟩
      exact fin _ (by rw [if_pos (of_decide_eq_true hn)]; rfl)
    · exact fin _ (by rw [if_neg (fun z => hn (decide_eq_true z))]; rfl)
end
end SP
end
section
set_option Elab.async false
set_option linter.all false
set_option maxRecDepth 100000
set_option exponentiation.threshold 5000
namespace SP
open PySem PySem.Spec PyProof.Rows L2 Mt
open Pl (Line Fn)
theorem wide_num {x : Rat} {n : Nat} (h : Bd n x) (hn : n ≤ 4000) : x.num.natAbs < 2 ^ 4000 := Nat.lt_of_lt_of_le h.1 (Nat.pow_le_pow_right (by decide) hn)
theorem wide_den {x : Rat} {n : Nat} (h : Bd n x) (hn : n ≤ 4000) : ((x.den : Nat) : Int).natAbs < 2 ^ 4000 := by
  rw [Int.natAbs_natCast]
  exact Nat.lt_of_lt_of_le h.2 (Nat.pow_le_pow_right (by decide) hn)
theorem up_to {a : Int} {m n : Nat} (h : a.natAbs < 2 ^ m) (hn : m ≤ n) : a.natAbs < 2 ^ n := Nat.lt_of_lt_of_le h (Nat.pow_le_pow_right (by decide) hn)
theorem den_bd {x : Rat} {n : Nat} (h : Bd n x) : ((x.den : Nat) : Int).natAbs < 2 ^ n := by
  rw [Int.natAbs_natCast]
  exact h.2
/-- a two-place function of fractions -/
def sp2 (K : PySem.W.Frag) (ok : Rat → Rat → Prop) (g : Rat → Rat → Rat) : Sp := fun vs H Q _ => ∃ u v x y, vs = [u, v] ∧ Fr K H u x ∧ Fr K H v y ∧ Bd 900 x ∧ Bd 900 y ∧ ok x y ∧ ∀ H' r, Same H H' → Fr K H' r (g x y) → Q r H'
abbrev spPlus (K : PySem.W.Frag) : Sp := sp2 K (fun _ _ => True) fun x y => x + y
abbrev spMinus (K : PySem.W.Frag) : Sp := sp2 K (fun _ _ => True) fun x y => x - y
abbrev spTimes (K : PySem.W.Frag) : Sp := sp2 K (fun _ _ => True) fun x y => x * y
abbrev spOver (K : PySem.W.Frag) : Sp := sp2 K (fun _ y => y ≠ 0) fun x y => x / y
def spBelow (K : PySem.W.Frag) : Sp := fun vs H Q _ => ∃ u v x y, vs = [u, v] ∧ Fr K H u x ∧ Fr K H v y ∧ Bd 900 x ∧ Bd 900 y ∧ Q (.bl (decide (x < y))) H
def spWithin (K : PySem.W.Frag) : Sp := fun vs H Q _ => ∃ (u : V) (x : Rat) (m : Nat), vs = [u, .int m] ∧ Fr K H u x ∧ Q (.bl (Pl.small x m)) H
section
variable {P : Program} {w : World} {K : PySem.W.Frag} {mg : Str → Option Value} {base : Heap}
theorem scPlus : FnScope ["a", "b"] ["a", "b"] (defScope (top 6)) := ⟨rfl, rfl, rfl, by decide +kernel, rfl, by decide +kernel, by decide +kernel⟩
theorem ok_plus (D : Def K mg "plus" (top 6)) (G : Cal P w K mg base CX0 2 "ratio" ["top", "bottom"] (spRatio K)) : Cal P w K mg base CX0 3 "plus" ["a", "b"] (spPlus K) := by
  refine D.cal (k := 2) scPlus (fun _ _ _ _ _ _ us hl => match us, hl with | [_, _], _ => rfl) (fun vs H Q E h => ?_) (fun f cdv A outer s H vs Q E hr h => ?_)
  · obtain ⟨u, v, x, y, rfl, _⟩ := h
    rfl
  · obtain ⟨u, v, x, y, rfl, ⟨p, rfl, hp⟩, ⟨q, rfl, hq⟩, bx, by_, _, k⟩ := h
    refine ⟨_, pss_one (ps_ret (pe_fn G hr pass0 (pa_cons (pe_op op_add (pe_op op_mulW (pe_ix ix_tup (pv 0) pe_int (fun _ _ => rfl)) (pe_ix ix_tup (pv 1) pe_int (fun _ _ => rfl))) (pe_op op_mulW (pe_ix ix_tup (pv 1) pe_int (fun _ _ => rfl)) (pe_ix ix_tup (pv 0) pe_int (fun _ _ => rfl))))
      (pa_cons (pe_op op_mulW (pe_ix ix_tup (pv 0) pe_int (fun _ _ => rfl)) (pe_ix ix_tup (pv 1) pe_int (fun _ _ => rfl))) pa_nil)))), ?_⟩
    refine ⟨_, rfl, ⟨_, _, _, _, rfl, rfl, hp, atI_nat (j := 0) rfl, ⟨_, rfl, ⟨_, _, _, _, rfl, rfl, hq, atI_nat (j := 1) rfl, ⟨_, _, rfl, rfl, ⟨wide_num bx (by decide), wide_den by_ (by decide)⟩, ⟨_, rfl, ⟨_, _, _, _, rfl, rfl, hq, atI_nat (j := 0) rfl, ⟨_, rfl, ⟨_, _, _, _, rfl, rfl, hp, atI_nat (j := 1) rfl, ⟨_, _, rfl, rfl, ⟨wide_num by_ (by decide), wide_den bx (by decide)⟩, ⟨_, _, rfl, rfl, ?_⟩⟩⟩⟩⟩⟩⟩⟩⟩⟩⟩
    refine ⟨_, rfl, ⟨_, _, _, _, rfl, rfl, hp, atI_nat (j := 1) rfl, ⟨_, rfl, ⟨_, _, _, _, rfl, rfl, hq, atI_nat (j := 1) rfl, ⟨_, _, rfl, rfl, ⟨wide_den bx (by decide), wide_den by_ (by decide)⟩, ?_⟩⟩⟩⟩⟩
    refine ⟨_, _, rfl, Int.mul_ne_zero (den_ne x) (den_ne y), up_to (two_bd (mul_bd bx.1 (den_bd by_)) (by rw [Nat.add_comm]; exact mul_bd by_.1 (den_bd bx))).1 (by decide), up_to (mul_bd (den_bd bx) (den_bd by_)) (by decide), fun H' r sm hr' => k H' r sm ?_⟩
    rw [plus_eq] at hr'
    exact hr'
theorem scMinus : FnScope ["a", "b"] ["a", "b"] (defScope (top 7)) := ⟨rfl, rfl, rfl, by decide +kernel, rfl, by decide +kernel, by decide +kernel⟩
theorem ok_minus (D : Def K mg "minus" (top 7)) (G : Cal P w K mg base CX0 2 "ratio" ["top", "bottom"] (spRatio K)) : Cal P w K mg base CX0 3 "minus" ["a", "b"] (spMinus K) := by
  refine D.cal (k := 2) scMinus (fun _ _ _ _ _ _ us hl => match us, hl with | [_, _], _ => rfl) (fun vs H Q E h => ?_) (fun f cdv A outer s H vs Q E hr h => ?_)
  · obtain ⟨u, v, x, y, rfl, _⟩ := h
    rfl
  · obtain ⟨u, v, x, y, rfl, ⟨p, rfl, hp⟩, ⟨q, rfl, hq⟩, bx, by_, _, k⟩ := h
    refine ⟨_, pss_one (ps_ret (pe_fn G hr pass0 (pa_cons (pe_op op_sub (pe_op op_mulW (pe_ix ix_tup (pv 0) pe_int (fun _ _ => rfl)) (pe_ix ix_tup (pv 1) pe_int (fun _ _ => rfl))) (pe_op op_mulW (pe_ix ix_tup (pv 1) pe_int (fun _ _ => rfl)) (pe_ix ix_tup (pv 0) pe_int (fun _ _ => rfl))))
      (pa_cons (pe_op op_mulW (pe_ix ix_tup (pv 0) pe_int (fun _ _ => rfl)) (pe_ix ix_tup (pv 1) pe_int (fun _ _ => rfl))) pa_nil)))), ?_⟩
    refine ⟨_, rfl, ⟨_, _, _, _, rfl, rfl, hp, atI_nat (j := 0) rfl, ⟨_, rfl, ⟨_, _, _, _, rfl, rfl, hq, atI_nat (j := 1) rfl, ⟨_, _, rfl, rfl, ⟨wide_num bx (by decide), wide_den by_ (by decide)⟩, ⟨_, rfl, ⟨_, _, _, _, rfl, rfl, hq, atI_nat (j := 0) rfl, ⟨_, rfl, ⟨_, _, _, _, rfl, rfl, hp, atI_nat (j := 1) rfl, ⟨_, _, rfl, rfl, ⟨wide_num by_ (by decide), wide_den bx (by decide)⟩, ⟨_, _, rfl, rfl, ?_⟩⟩⟩⟩⟩⟩⟩⟩⟩⟩⟩
    refine ⟨_, rfl, ⟨_, _, _, _, rfl, rfl, hp, atI_nat (j := 1) rfl, ⟨_, rfl, ⟨_, _, _, _, rfl, rfl, hq, atI_nat (j := 1) rfl, ⟨_, _, rfl, rfl, ⟨wide_den bx (by decide), wide_den by_ (by decide)⟩, ?_⟩⟩⟩⟩⟩
    refine ⟨_, _, rfl, Int.mul_ne_zero (den_ne x) (den_ne y), up_to (two_bd (mul_bd bx.1 (den_bd by_)) (by rw [Nat.add_comm]; exact mul_bd by_.1 (den_bd bx))).2 (by decide), up_to (mul_bd (den_bd bx) (den_bd by_)) (by decide), fun H' r sm hr' => k H' r sm ?_⟩
    rw [minus_eq] at hr'
    exact hr'
theorem scTimes : FnScope ["a", "b"] ["a", "b"] (defScope (top 8)) := ⟨rfl, rfl, rfl, by decide +kernel, rfl, by decide +kernel, by decide +kernel⟩
theorem ok_times (D : Def K mg "times" (top 8)) (G : Cal P w K mg base CX0 2 "ratio" ["top", "bottom"] (spRatio K)) : Cal P w K mg base CX0 3 "times" ["a", "b"] (spTimes K) := by
  refine D.cal (k := 2) scTimes (fun _ _ _ _ _ _ us hl => match us, hl with | [_, _], _ => rfl) (fun vs H Q E h => ?_) (fun f cdv A outer s H vs Q E hr h => ?_)
  · obtain ⟨u, v, x, y, rfl, _⟩ := h
    rfl
  · obtain ⟨u, v, x, y, rfl, ⟨p, rfl, hp⟩, ⟨q, rfl, hq⟩, bx, by_, _, k⟩ := h
    refine ⟨_, pss_one (ps_ret (pe_fn G hr pass0 (pa_cons (pe_op op_mulW (pe_ix ix_tup (pv 0) pe_int (fun _ _ => rfl)) (pe_ix ix_tup (pv 1) pe_int (fun _ _ => rfl)))
      (pa_cons (pe_op op_mulW (pe_ix ix_tup (pv 0) pe_int (fun _ _ => rfl)) (pe_ix ix_tup (pv 1) pe_int (fun _ _ => rfl))) pa_nil)))), ?_⟩
    refine ⟨_, rfl, ⟨_, _, _, _, rfl, rfl, hp, atI_nat (j := 0) rfl, ⟨_, rfl, ⟨_, _, _, _, rfl, rfl, hq, atI_nat (j := 0) rfl, ⟨_, _, rfl, rfl, ⟨wide_num bx (by decide), wide_num by_ (by decide)⟩, ?_⟩⟩⟩⟩⟩
    refine ⟨_, rfl, ⟨_, _, _, _, rfl, rfl, hp, atI_nat (j := 1) rfl, ⟨_, rfl, ⟨_, _, _, _, rfl, rfl, hq, atI_nat (j := 1) rfl, ⟨_, _, rfl, rfl, ⟨wide_den bx (by decide), wide_den by_ (by decide)⟩, ?_⟩⟩⟩⟩⟩
    refine ⟨_, _, rfl, Int.mul_ne_zero (den_ne x) (den_ne y), up_to (mul_bd bx.1 by_.1) (by decide), up_to (mul_bd (den_bd bx) (den_bd by_)) (by decide), fun H' r sm hr' => k H' r sm ?_⟩
    rw [times_eq] at hr'
    exact hr'
theorem scOver : FnScope ["a", "b"] ["a", "b"] (defScope (top 9)) := ⟨rfl, rfl, rfl, by decide +kernel, rfl, by decide +kernel, by decide +kernel⟩
theorem ok_over (D : Def K mg "over" (top 9)) (G : Cal P w K mg base CX0 2 "ratio" ["top", "bottom"] (spRatio K)) : Cal P w K mg base CX0 3 "over" ["a", "b"] (spOver K) := by
  refine D.cal (k := 2) scOver (fun _ _ _ _ _ _ us hl => match us, hl with | [_, _], _ => rfl) (fun vs H Q E h => ?_) (fun f cdv A outer s H vs Q E hr h => ?_)
  · obtain ⟨u, v, x, y, rfl, _⟩ := h
    rfl
  · obtain ⟨u, v, x, y, rfl, ⟨p, rfl, hp⟩, ⟨q, rfl, hq⟩, bx, by_, hy, k⟩ := h
    refine ⟨_, pss_one (ps_ret (pe_fn G hr pass0 (pa_cons (pe_op op_mulW (pe_ix ix_tup (pv 0) pe_int (fun _ _ => rfl)) (pe_ix ix_tup (pv 1) pe_int (fun _ _ => rfl)))
      (pa_cons (pe_op op_mulW (pe_ix ix_tup (pv 0) pe_int (fun _ _ => rfl)) (pe_ix ix_tup (pv 1) pe_int (fun _ _ => rfl))) pa_nil)))), ?_⟩
    refine ⟨_, rfl, ⟨_, _, _, _, rfl, rfl, hp, atI_nat (j := 0) rfl, ⟨_, rfl, ⟨_, _, _, _, rfl, rfl, hq, atI_nat (j := 1) rfl, ⟨_, _, rfl, rfl, ⟨wide_num bx (by decide), wide_den by_ (by decide)⟩, ?_⟩⟩⟩⟩⟩
    refine ⟨_, rfl, ⟨_, _, _, _, rfl, rfl, hp, atI_nat (j := 1) rfl, ⟨_, rfl, ⟨_, _, _, _, rfl, rfl, hq, atI_nat (j := 0) rfl, ⟨_, _, rfl, rfl, ⟨wide_den bx (by decide), wide_num by_ (by decide)⟩, ?_⟩⟩⟩⟩⟩
    refine ⟨_, _, rfl, Int.mul_ne_zero (den_ne x) (fun z => hy (Rat.num_eq_zero.mp z)), up_to (mul_bd bx.1 (den_bd by_)) (by decide), up_to (mul_bd (den_bd bx) by_.1) (by decide), fun H' r sm hr' => k H' r sm ?_⟩
    rw [over_eq] at hr'
    exact hr'
theorem scBelow : FnScope ["a", "b"] ["a", "b"] (defScope (top 10)) := ⟨rfl, rfl, rfl, by decide +kernel, rfl, by decide +kernel, by decide +kernel⟩
theorem ok_below (D : Def K mg "is_below" (top 10)) : Cal P w K mg base CX0 1 "is_below" ["a", "b"] (spBelow K) := by
  refine D.cal (k := 0) scBelow (fun _ _ _ _ _ _ us hl => match us, hl with | [_, _], _ => rfl) (fun vs H Q E h => ?_) (fun f cdv A outer s H vs Q E hr h => ?_)
  · obtain ⟨u, v, x, y, rfl, _⟩ := h
    rfl
  · obtain ⟨u, v, x, y, rfl, ⟨p, rfl, hp⟩, ⟨q, rfl, hq⟩, bx, by_, k⟩ := h
    refine ⟨_, pss_one (ps_ret (pe_cmpR op_lt (pe_op op_mulW (pe_ix ix_tup (pv 0) pe_int (fun _ _ => rfl)) (pe_ix ix_tup (pv 1) pe_int (fun _ _ => rfl))) (pe_op op_mulW (pe_ix ix_tup (pv 1) pe_int (fun _ _ => rfl)) (pe_ix ix_tup (pv 0) pe_int (fun _ _ => rfl))) (nomark _))), ?_⟩
    refine ⟨_, rfl, ⟨_, _, _, _, rfl, rfl, hp, atI_nat (j := 0) rfl, ⟨_, rfl, ⟨_, _, _, _, rfl, rfl, hq, atI_nat (j := 1) rfl, ⟨_, _, rfl, rfl, ⟨wide_num bx (by decide), wide_den by_ (by decide)⟩, ⟨_, rfl, ⟨_, _, _, _, rfl, rfl, hq, atI_nat (j := 0) rfl, ⟨_, rfl, ⟨_, _, _, _, rfl, rfl, hp, atI_nat (j := 1) rfl, ⟨_, _, rfl, rfl, ⟨wide_num by_ (by decide), wide_den bx (by decide)⟩, ⟨_, _, rfl, rfl, ?_⟩⟩⟩⟩⟩⟩⟩⟩⟩⟩⟩
    show Q (.bl (decide (x.num * (y.den : Int) < y.num * (x.den : Int)))) H
    rw [show decide (x.num * (y.den : Int) < y.num * (x.den : Int)) = decide (x < y) from decide_eq_decide.mpr (below_num x y)]
    exact k
theorem scWithin : FnScope ["a", "most"] ["a", "most"] (defScope (top 11)) := ⟨rfl, rfl, rfl, by decide +kernel, rfl, by decide +kernel, by decide +kernel⟩
theorem ok_within (T : Txt K mg) (D : Def K mg "is_within" (top 11)) : Cal P w K mg base CX0 1 "is_within" ["a", "most"] (spWithin K) := by
  refine D.cal (k := 0) scWithin (fun _ _ _ _ _ _ us hl => match us, hl with | [_, _], _ => rfl) (fun vs H Q E h => ?_) (fun f cdv A outer s H vs Q E hr h => ?_)
  · obtain ⟨u, x, m, rfl, _⟩ := h
    rfl
  · obtain ⟨u, x, m, rfl, ⟨p, rfl, hp⟩, k⟩ := h
    refine ⟨_, pss_one (ps_ret (pe_and (pe_cmpR op_le (pe_callB call_abs (by rfl) T.abs_ (by decide +kernel) (pa_cons (pe_ix ix_tup (pv 0) pe_int (fun _ _ => rfl)) pa_nil)) (pv 1) (nomark _)) (pe_one (pe_cmpR op_le (pe_ix ix_tup (pv 0) pe_int (fun _ _ => rfl)) (pv 1) (nomark _))))), ?_⟩
    refine ⟨_, rfl, ⟨_, _, _, _, rfl, rfl, hp, atI_nat (j := 0) rfl, ⟨_, rfl, ?_⟩⟩⟩
    rw [abs_if]
    refine ⟨_, rfl, _, _, rfl, rfl, _, rfl, ?_⟩
    refine ite2 (fun h => ?_) (fun h => ?_)
    · refine ⟨_, rfl, ⟨_, _, _, _, rfl, rfl, hp, atI_nat (j := 1) rfl, ⟨_, rfl, _, _, rfl, rfl, ?_⟩⟩⟩
      have h1 : x.num.natAbs ≤ m := by
        have := of_decide_eq_true h
        omega
      have e : Pl.small x m = decide ((x.den : Int) ≤ (m : Int)) := by
        simp only [Pl.small, decide_eq_true h1, Bool.true_and]
        exact decide_eq_decide.mpr (by omega)
      rw [e] at k
      exact k
    · have h1 : ¬ x.num.natAbs ≤ m := fun z => h (decide_eq_true (by omega))
      have e : Pl.small x m = false := by simp only [Pl.small, decide_eq_false h1, Bool.false_and]
      rw [e] at k
      exact k
def OBd (n : Nat) (o : Option Rat) : Prop := ∀ x, o = some x → Bd n x
def spInside (K : PySem.W.Frag) : Sp := fun vs H Q _ => ∃ u a b x l r, vs = [u, a, b] ∧ Fr K H u x ∧ OFr K H a l ∧ OFr K H b r ∧ Bd 900 x ∧ OBd 900 l ∧ OBd 900 r ∧ Q (.bl (isIn x l r)) H
theorem scInside : FnScope ["place", "left", "right"] ["place", "left", "right"] (defScope (top 13)) := ⟨rfl, rfl, rfl, by decide +kernel, rfl, by decide +kernel, by decide +kernel⟩
theorem ok_inside (D : Def K mg "is_inside" (top 13)) (G : Cal P w K mg base CX0 1 "is_below" ["a", "b"] (spBelow K)) : Cal P w K mg base CX0 2 "is_inside" ["place", "left", "right"] (spInside K) := by
  refine D.cal (k := 1) scInside (fun _ _ _ _ _ _ us hl => match us, hl with | [_, _, _], _ => rfl) (fun vs H Q E h => ?_) (fun f cdv A outer s H vs Q E hr h => ?_)
  · obtain ⟨u, a, b, x, l, r, rfl, _⟩ := h
    rfl
  · obtain ⟨u, a, b, x, l, r, rfl, hu, ha, hb, bx, bl_, br, k⟩ := h
    refine ⟨_, pss_cons (ps_if (PW.pt (pw_and (pt_cmpR op_notN (pv 1) pe_non (nomark _)) (pw_and1 (pt_not (pt_val (pe_fn G hr pass0 (pa_cons (pv 1) (pa_cons (pv 0) pa_nil)))))))) (pss_one (ps_ret pe_bl)) pss_nil)
      (pss_one (ps_ret (pe_or (pe_cmpR op_isN (pv 2) pe_non (nomark _)) (pe_one (pe_fn G hr pass0 (pa_cons (pv 0) (pa_cons (pv 2) pa_nil))))))), ?_⟩
    have second : ∀ (h1 : isIn x l none = true), (tOrV (tOp (fun x y H Q => y = V.non ∧ Q (.bl (decide (x = V.non))) H) (tVar 2) (tC .non)) (tCall (spBelow K) [] E0 (tCons (tVar 0) (tCons (tVar 2) tNil)))) [some u, some a, some b] H Q := fun h1 => by
      refine ⟨_, rfl, rfl, _, rfl, ?_⟩
      rcases hb with ⟨rfl, rfl⟩ | ⟨y, rfl, hy⟩
      · refine iteT ?_
        rw [h1] at k
        exact k
      · obtain ⟨q, rfl, hq⟩ := hy
        rw [decide_eq_false (by intro z; cases z)]
        refine iteF ⟨_, rfl, _, rfl, u, _, x, y, rfl, hu, ⟨q, rfl, hq⟩, bx, br y rfl, ?_⟩
        have e : isIn x l (some y) = decide (x < y) := by
          cases l with
          | none => simp [isIn]
          | some z => simp only [isIn, Bool.and_true] at h1 ⊢; rw [h1, Bool.true_and]
        rw [e] at k
        exact k
    refine ⟨_, rfl, rfl, _, rfl, ?_⟩
    rcases ha with ⟨rfl, rfl⟩ | ⟨y, rfl, hy⟩
    · exact iteF (iteF (second rfl))
    · obtain ⟨q, rfl, hq⟩ := hy
      rw [decide_eq_false (by intro z; cases z)]
      refine iteT ⟨_, rfl, _, rfl, _, u, y, x, rfl, ⟨q, rfl, hq⟩, hu, bl_ y rfl, bx, _, rfl, ?_⟩
      by_cases hlt : y < x
      · rw [decide_eq_true hlt]
        exact iteF (second (by simp only [isIn, decide_eq_true hlt, Bool.and_true]))
      · rw [decide_eq_false hlt]
        refine iteT ?_
        have e : isIn x (some y) r = false := by simp only [isIn, decide_eq_false hlt, Bool.false_and]
        rw [e] at k
        exact k
end
end SP
end
section
set_option Elab.async false
set_option linter.all false
set_option maxRecDepth 100000
set_option exponentiation.threshold 5000
namespace SP
open PySem PySem.Spec PyProof.Rows L2 Mt
open Pl (Line Fn)
def dq (q : Rat) : PyData := .tuple [.int q.num, .int (q.den : Int)]
def dopt : Option Rat → PyData
  | none => .none
  | some q => dq q
def dl (l : Line) : PyData := .tuple [dq l.s, dq l.c]
section
variable {K : PySem.W.Frag} {H : Hp} {v : V}
theorem Fr.dp {q : Rat} (h : Fr K H v q) : Dp K H v (dq q) := by
  obtain ⟨p, rfl, s⟩ := h
  exact .tup s (.cons (.int _) (.cons (.int _) .nil))
theorem OFr.dp {o : Option Rat} (h : OFr K H v o) : Dp K H v (dopt o) := by
  rcases h with ⟨rfl, rfl⟩ | ⟨q, rfl, h⟩
  · exact .non
  · exact h.dp
theorem Ln.dp {l : Line} (h : Ln K H v l) : Dp K H v (dl l) := by
  obtain ⟨p, a, b, rfl, s, h1, h2⟩ := h
  exact .tup s (.cons h1.dp (.cons h2.dp .nil))
theorem dps {α : Type} {R : V → α → Prop} {d : α → PyData} (hd : ∀ v x, R v x → Dp K H v (d x)) : ∀ {vs : List V} {xs : List α}, Paired R vs xs → DpAll K H vs (xs.map d)
  | _, _, .nil => .nil
  | _, _, .cons r t => .cons (hd _ _ r) (dps hd t)
end
theorem rat_ext {a b : Rat} (h1 : a.num = b.num) (h2 : a.den = b.den) : a = b := Rat.ext h1 h2
theorem eqv_q (a b : Rat) : PyData.eqv (dq a) (dq b) = decide (a = b) := by
  simp only [dq, PyData.eqv, PyData.eqvAll, Bool.and_true]
  rw [Bool.eq_iff_iff]
  simp only [Bool.and_eq_true, beq_iff_eq, decide_eq_true_eq]
  constructor
  · rintro ⟨h1, h2⟩
    exact rat_ext h1 (by omega)
  · rintro rfl
    exact ⟨rfl, rfl⟩
theorem eqv_o (a b : Option Rat) : PyData.eqv (dopt a) (dopt b) = decide (a = b) := by
  cases a with
  | none => cases b with
    | none => simp [dopt, PyData.eqv]
    | some b => simp [dopt, dq, PyData.eqv]
  | some a => cases b with
    | none => simp [dopt, dq, PyData.eqv]
    | some b =>
      show PyData.eqv (dq a) (dq b) = _
      rw [eqv_q]
      simp
theorem eqv_l (a b : Line) : PyData.eqv (dl a) (dl b) = decide (a = b) := by
  simp only [dl, PyData.eqv, PyData.eqvAll, Bool.and_true, eqv_q]
  obtain ⟨a1, a2⟩ := a
  obtain ⟨b1, b2⟩ := b
  simp
theorem eqv_all {α : Type} [DecidableEq α] {d : α → PyData} (hd : ∀ a b, PyData.eqv (d a) (d b) = decide (a = b)) : ∀ (xs ys : List α), PyData.eqvAll (xs.map d) (ys.map d) = decide (xs = ys)
  | [], [] => by simp [PyData.eqvAll]
  | [], _ :: _ => by simp [PyData.eqvAll]
  | _ :: _, [] => by simp [PyData.eqvAll]
  | a :: xs, b :: ys => by
    simp only [List.map_cons, PyData.eqvAll, hd, eqv_all hd xs ys]
    simp
theorem lay_q (q : Rat) : (dq q).canLay0 = true ∧ (dq q).depth ≤ 5 := by
  constructor
  · simp [dq, PyData.canLay0, PyData.canLayAll0]
  · simp [dq, PyData.depth, PyData.depthAll]
theorem shaped_q (q : Rat) : SeqAt.shaped (dq q) = true := by
  unfold SeqAt.shaped
  rw [(lay_q q).1]
  simpa using Nat.le_trans (lay_q q).2 (by decide)
theorem shaped_o (o : Option Rat) : SeqAt.shaped (dopt o) = true := by
  cases o with
  | none => decide +kernel
  | some q => exact shaped_q q
theorem lay_l (l : Line) : (dl l).canLay0 = true ∧ (dl l).depth ≤ 10 := by
  constructor
  · simp [dl, dq, PyData.canLay0, PyData.canLayAll0]
  · simp [dl, dq, PyData.depth, PyData.depthAll]
theorem shaped_l (l : Line) : SeqAt.shaped (dl l) = true := by
  unfold SeqAt.shaped
  rw [(lay_l l).1]
  simpa using Nat.le_trans (lay_l l).2 (by decide)
section
variable {P : Program} {w : World} {K : PySem.W.Frag} {mg : Str → Option Value} {base : Heap}
abbrev CBelow (P : Program) (w : World) (K : PySem.W.Frag) (mg : Str → Option Value) (base : Heap) : Prop := Cal P w K mg base CX0 1 "is_below" ["a", "b"] (spBelow K)
abbrev CPlus (P : Program) (w : World) (K : PySem.W.Frag) (mg : Str → Option Value) (base : Heap) : Prop := Cal P w K mg base CX0 3 "plus" ["a", "b"] (spPlus K)
abbrev CMinus (P : Program) (w : World) (K : PySem.W.Frag) (mg : Str → Option Value) (base : Heap) : Prop := Cal P w K mg base CX0 3 "minus" ["a", "b"] (spMinus K)
abbrev CTimes (P : Program) (w : World) (K : PySem.W.Frag) (mg : Str → Option Value) (base : Heap) : Prop := Cal P w K mg base CX0 3 "times" ["a", "b"] (spTimes K)
abbrev COver (P : Program) (w : World) (K : PySem.W.Frag) (mg : Str → Option Value) (base : Heap) : Prop := Cal P w K mg base CX0 3 "over" ["a", "b"] (spOver K)
theorem bd_zero {n : Nat} (hn : 1 ≤ n) : Bd n 0 := bd_mono (m := 1) ⟨by decide, by decide⟩ hn
theorem bd_one {n : Nat} (hn : 1 ≤ n) : Bd n 1 := bd_mono (m := 1) ⟨by decide, by decide⟩ hn
theorem bd_half {n : Nat} (hn : 2 ≤ n) : Bd n (1 / 2) := bd_mono (m := 2) ⟨by decide +kernel, by decide +kernel⟩ hn
def spPlace (K : PySem.W.Frag) : Sp := fun vs H Q _ => ∃ a b l r, vs = [a, b] ∧ OFr K H a l ∧ OFr K H b r ∧ OBd 400 l ∧ OBd 400 r ∧ ∀ H' v, Same H H' → Fr K H' v (placeIn l r) → Q v H'
theorem scPlace : FnScope ["left", "right"] ["left", "right"] (defScope (top 14)) := ⟨rfl, rfl, rfl, by decide +kernel, rfl, by decide +kernel, by decide +kernel⟩
theorem ok_place (T : Txt K mg) (D : Def K mg "place_inside" (top 14)) (GP : CPlus P w K mg base) (GM : CMinus P w K mg base) (GT : CTimes P w K mg base) : Cal P w K mg base CX0 4 "place_inside" ["left", "right"] (spPlace K) := by
  obtain ⟨z, gz, hz⟩ := T.zero
  obtain ⟨o, go, ho⟩ := T.one
  obtain ⟨h2, gh, hh⟩ := T.half
  refine D.cal (k := 3) scPlace (fun _ _ _ _ _ _ us hl => match us, hl with | [_, _], _ => rfl) (fun vs H Q E h => ?_) (fun f cdv A outer s H vs Q E hr h => ?_)
  · obtain ⟨a, b, l, r, rfl, _⟩ := h
    rfl
  · obtain ⟨a, b, l, r, rfl, ha, hb, bl_, br, k⟩ := h
    refine ⟨_, pss_cons (ps_if (PW.pt (pw_and (pt_cmpR op_isN (pv 0) pe_non (nomark _)) (pw_and1 (pt_cmpR op_isN (pv 1) pe_non (nomark _))))) (pss_one (ps_ret (pe_gl gz))) pss_nil)
      (pss_cons (ps_if (pt_cmpR op_isN (pv 0) pe_non (nomark _)) (pss_one (ps_ret (pe_fn GM hr pass0 (pa_cons (pv 1) (pa_cons (pe_gl go) pa_nil))))) pss_nil)
      (pss_cons (ps_if (pt_cmpR op_isN (pv 1) pe_non (nomark _)) (pss_one (ps_ret (pe_fn GP hr pass0 (pa_cons (pv 0) (pa_cons (pe_gl go) pa_nil))))) pss_nil)
      (pss_one (ps_ret (pe_fn GT hr pass0 (pa_cons (pe_fn GP hr pass0 (pa_cons (pv 0) (pa_cons (pv 1) pa_nil))) (pa_cons (pe_gl gh) pa_nil))))))), ?_⟩
    refine ⟨_, rfl, rfl, _, rfl, ?_⟩
    rcases ha with ⟨rfl, rfl⟩ | ⟨x, rfl, hx⟩
    · refine iteT ⟨_, rfl, rfl, _, rfl, ?_⟩
      rcases hb with ⟨rfl, rfl⟩ | ⟨y, rfl, hy⟩
      · exact iteT (k H z (Same.refl H) (hz H))
      · obtain ⟨q, rfl, hq⟩ := hy
        rw [decide_eq_false (by intro z; cases z)]
        refine iteF ⟨_, rfl, rfl, _, rfl, iteT ⟨_, rfl, ?_⟩⟩
        exact ⟨_, _, y, 1, rfl, ⟨q, rfl, hq⟩, ho H, bd_mono (br y rfl) (by decide), bd_one (by decide), trivial, k⟩
    · obtain ⟨p, rfl, hp⟩ := hx
      rw [decide_eq_false (by intro z; cases z)]
      refine iteF (iteF ⟨_, rfl, rfl, _, rfl, ?_⟩)
      rw [decide_eq_false (by intro z; cases z)]
      refine iteF ⟨_, rfl, rfl, _, rfl, ?_⟩
      rcases hb with ⟨rfl, rfl⟩ | ⟨y, rfl, hy⟩
      · refine iteT ⟨_, rfl, ?_⟩
        exact ⟨_, _, x, 1, rfl, ⟨p, rfl, hp⟩, ho H, bd_mono (bl_ x rfl) (by decide), bd_one (by decide), trivial, k⟩
      · obtain ⟨q, rfl, hq⟩ := hy
        rw [decide_eq_false (by intro z; cases z)]
        refine iteF ⟨_, rfl, _, rfl, ?_⟩
        refine ⟨_, _, x, y, rfl, ⟨p, rfl, hp⟩, ⟨q, rfl, hq⟩, bd_mono (bl_ x rfl) (by decide), bd_mono (br y rfl) (by decide), trivial, fun H1 v1 s1 f1 => ?_⟩
        exact ⟨_, _, x + y, 1 / 2, rfl, f1, hh H1, bd_mono (bd_plus (bl_ x rfl) (br y rfl)) (by decide), bd_half (by decide), trivial, fun H2 v2 s2 f2 => k H2 v2 (s1.trans s2) f2⟩
def spNearer (K : PySem.W.Frag) : Sp := fun vs H Q _ => ∃ a b l r, vs = [a, b] ∧ OFr K H a l ∧ OFr K H b r ∧ OBd 900 l ∧ OBd 900 r ∧ ∀ v, OFr K H v (nearer l r) → Q v H
theorem scNearer : FnScope ["a", "b"] ["a", "b"] (defScope (top 15)) := ⟨rfl, rfl, rfl, by decide +kernel, rfl, by decide +kernel, by decide +kernel⟩
theorem ok_nearer (D : Def K mg "nearer_end" (top 15)) (G : CBelow P w K mg base) : Cal P w K mg base CX0 2 "nearer_end" ["a", "b"] (spNearer K) := by
  refine D.cal (k := 1) scNearer (fun _ _ _ _ _ _ us hl => match us, hl with | [_, _], _ => rfl) (fun vs H Q E h => ?_) (fun f cdv A outer s H vs Q E hr h => ?_)
  · obtain ⟨a, b, l, r, rfl, _⟩ := h
    rfl
  · obtain ⟨a, b, l, r, rfl, ha, hb, bl_, br, k⟩ := h
    refine ⟨_, pss_cons (ps_if (pt_cmpR op_isN (pv 0) pe_non (nomark _)) (pss_one (ps_ret (pv 1))) pss_nil)
      (pss_cons (ps_if (PW.pt (pw_or (pt_cmpR op_isN (pv 1) pe_non (nomark _)) (pw_or1 (pt_val (pe_fn G hr pass0 (pa_cons (pv 0) (pa_cons (pv 1) pa_nil))))))) (pss_one (ps_ret (pv 0))) pss_nil)
      (pss_one (ps_ret (pv 1)))), ?_⟩
    refine ⟨_, rfl, rfl, _, rfl, ?_⟩
    rcases ha with ⟨rfl, rfl⟩ | ⟨x, rfl, hx⟩
    · exact iteT ⟨_, rfl, k b hb⟩
    · have hx' := hx
      obtain ⟨p, rfl, hp⟩ := hx
      rw [decide_eq_false (by intro z; cases z)]
      refine iteF ⟨_, rfl, rfl, _, rfl, ?_⟩
      rcases hb with ⟨rfl, rfl⟩ | ⟨y, rfl, hy⟩
      · exact iteT (iteT ⟨_, rfl, k _ hx'.some⟩)
      · have hy' := hy
        obtain ⟨q, rfl, hq⟩ := hy
        rw [decide_eq_false (by intro z; cases z)]
        refine iteF ⟨_, rfl, _, rfl, _, _, x, y, rfl, hx', hy', bl_ x rfl, br y rfl, _, rfl, ?_⟩
        by_cases hlt : x < y
        · rw [decide_eq_true hlt]
          refine iteT ⟨_, rfl, k _ ?_⟩
          rw [show nearer (some x) (some y) = some x from if_pos hlt]
          exact hx'.some
        · rw [decide_eq_false hlt]
          refine iteF ⟨_, rfl, k _ ?_⟩
          rw [show nearer (some x) (some y) = some y from if_neg hlt]
          exact hy'.some
/-- a pair of ends -/
def PrAt (K : PySem.W.Frag) (H : Hp) (v : V) (p : Option Rat × Option Rat) : Prop := ∃ t a b, v = .ref t ∧ SqT K H t [a, b] ∧ OFr K H a p.1 ∧ OFr K H b p.2
theorem PrAt.mono {H H' : Hp} {v : V} {p : Option Rat × Option Rat} (t : Tp H H') (h : PrAt K H v p) : PrAt K H' v p := by
  obtain ⟨q, a, b, e, s, h1, h2⟩ := h
  exact ⟨q, a, b, e, sqt t s, h1.mono t, h2.mono t⟩
theorem paired_map {α β : Type} {R : V → α → Prop} {S : V → β → Prop} {g : α → β} (h : ∀ v x, R v x → S v (g x)) : ∀ {vs : List V} {xs : List α}, Paired R vs xs → Paired S vs (xs.map g)
  | _, _, .nil => .nil
  | _, _, .cons r t => .cons (h _ _ r) (paired_map h t)
theorem paired_app {α : Type} {R : V → α → Prop} : ∀ {vs ws : List V} {xs ys : List α}, Paired R vs xs → Paired R ws ys → Paired R (vs ++ ws) (xs ++ ys)
  | _, _, _, _, .nil, s => s
  | _, _, _, _, .cons r t, s => .cons r (paired_app t s)
theorem paired_get {α : Type} {R : V → α → Prop} : ∀ {vs : List V} {xs : List α} {i : Nat} {x : α}, Paired R vs xs → xs[i]? = some x → ∃ v, vs[i]? = some v ∧ R v x
  | _, _, _, _, .nil, e => by simp at e
  | _, _, 0, _, .cons r _, e => by simp at e; subst e; exact ⟨_, rfl, r⟩
  | _, _, i + 1, x, .cons _ t, e => by
    obtain ⟨v, h1, h2⟩ := paired_get (i := i) (x := x) t (by simpa using e)
    exact ⟨v, by simpa using h1, h2⟩
theorem paired_get' {α : Type} {R : V → α → Prop} : ∀ {vs : List V} {xs : List α} {i : Nat} {v : V}, Paired R vs xs → vs[i]? = some v → ∃ x, xs[i]? = some x ∧ R v x
  | _, _, _, _, .nil, e => by simp at e
  | _, _, 0, _, .cons r _, e => by simp at e; subst e; exact ⟨_, rfl, r⟩
  | _, _, i + 1, v, .cons _ t, e => by
    obtain ⟨x, h1, h2⟩ := paired_get' (i := i) (v := v) t (by simpa using e)
    exact ⟨x, by simpa using h1, h2⟩
theorem rows_pair {H : Hp} {xs : List V} {as : List (Option Rat)} (pa : Paired (OFr K H) xs as) : ∀ {ts ys : List V} {bs : List (Option Rat)}, Paired (OFr K H) ys bs → Rows H ts ((xs.zip ys).map fun p => [p.1, p.2]) → Paired (PrAt K H) ts (as.zip bs) := by
  induction pa with
  | nil =>
    intro ts ys bs _ R
    simp only [List.zip_nil_left, List.map_nil] at R ⊢
    cases R
    exact .nil
  | cons r t ih =>
    intro ts ys bs pb R
    cases pb with
    | nil =>
      simp only [List.zip_nil_right, List.map_nil] at R ⊢
      cases R
      exact .nil
    | cons r2 t2 =>
      simp only [List.zip_cons_cons, List.map_cons] at R ⊢
      cases R with
      | cons h hr =>
        obtain ⟨p, rfl, h⟩ := h
        exact .cons ⟨p, _, _, rfl, SqT.of h, r, r2⟩ (ih t2 hr)
def spParted (K : PySem.W.Frag) : Sp := fun vs H Q _ => ∃ a b c l r cs qs, vs = [a, b, .ref c] ∧ OFr K H a l ∧ OFr K H b r ∧ H c = some (.lst cs) ∧ Paired (Fr K H) cs qs ∧ qs.length ≤ 1000 ∧
  ∀ H' L ts, Same H H' → H L = none → H' L = some (.lst ts) → Paired (PrAt K H') ts (parted l r qs) → Q (.ref L) H'
theorem scParted : FnScope ["left", "right", "cuts"] ["left", "right", "cuts"] (defScope (top 16)) := ⟨rfl, rfl, rfl, by decide +kernel, rfl, by decide +kernel, by decide +kernel⟩
theorem line1000 {n : Nat} (h : n ≤ 1001) : n ≤ sizeLine := Nat.le_trans h (by decide)
theorem ok_parted (T : Txt K mg) (D : Def K mg "parted" (top 16)) : Cal P w K mg base CX0 1 "parted" ["left", "right", "cuts"] (spParted K) := by
  refine D.cal (k := 0) scParted (fun _ _ _ _ _ _ us hl => match us, hl with | [_, _, _], _ => rfl) (fun vs H Q E h => ?_) (fun f cdv A outer s H vs Q E hr h => ?_)
  · obtain ⟨a, b, c, l, r, cs, qs, rfl, _⟩ := h
    rfl
  · obtain ⟨a, b, c, l, r, cs, qs, rfl, ha, hb, hc, hcs, hlen, k⟩ := h
    have hl : cs.length = qs.length := Paired.length hcs
    refine ⟨_, pss_one (ps_ret (pe_lzip2 rfl T.list_ T.zip_ (pa_cons (pe_op op_cat (pe_lst (pa_cons (pv 0) pa_nil)) (pv 2)) (pa_cons (pe_op op_cat (pv 2) (pe_lst (pa_cons (pv 1) pa_nil))) pa_nil)))), ?_⟩
    refine ⟨_, rfl, (by show 1 ≤ sizeLine; decide), fun p1 n1 => ⟨_, rfl, p1, c, [a], cs, rfl, rfl, upd_same, ?_, line1000 (by simp only [List.length_cons, List.length_nil]; omega), fun p2 n2 => ?_⟩⟩
    · rw [upd_ne (ne_of_none hc n1)]
      exact hc
    have s2 : Same H (upd (upd H p1 (.lst [a])) p2 (.lst ([a] ++ cs))) := (Same.new n1).trans (Same.new n2)
    refine ⟨_, rfl, _, rfl, (by show 1 ≤ sizeLine; decide), fun p3 n3 => ⟨c, p3, cs, [b], rfl, rfl, ?_, upd_same, line1000 (by simp only [List.length_cons, List.length_nil]; omega), fun p4 n4 => ?_⟩⟩
    · exact (Same.new n3) c _ (s2 c _ hc)
    have s4 := (s2.trans (Same.new (o := .lst [b]) n3)).trans (Same.new (o := .lst (cs ++ [b])) n4)
    refine ⟨p2, p4, [a] ++ cs, cs ++ [b], rfl, SqL.of ?_, SqL.of upd_same, by simp [Nat.add_comm], by simp, fun H2 L ts sm nL eL R => ?_⟩
    · exact (Same.new n4) _ _ ((Same.new n3) _ _ upd_same)
    have s5 := s4.trans sm
    refine k H2 L ts s5 (s4.free nL) eL ?_
    rw [parted_zip]
    have t5 := Tp.of s5
    have c2 : Paired (OFr K H2) cs (qs.map some) := paired_map (fun v x h => (h.mono t5).some) hcs
    exact rows_pair (xs := [a] ++ cs) (.cons (ha.mono t5) c2) (ys := cs ++ [b]) (paired_app c2 (.cons (hb.mono t5) .nil)) R
end
end SP
end
section
set_option Elab.async false
set_option linter.all false
set_option maxRecDepth 100000
set_option exponentiation.threshold 5000
namespace SP
open PySem PySem.Spec PyProof.Rows L2 Mt
open Pl (Line Fn)
def LW (l : Line) : Prop := Bd 100 l.s ∧ Bd 200 l.c
theorem LW.of {l : Line} (h : LB l) : LW l := ⟨bd_mono h.1 (by decide), bd_mono h.2 (by decide)⟩
section
variable {P : Program} {w : World} {K : PySem.W.Frag} {mg : Str → Option Value} {base : Heap}
def spHeight (K : PySem.W.Frag) : Sp := fun vs H Q _ => ∃ u v l x, vs = [u, v] ∧ Ln K H u l ∧ Fr K H v x ∧ LW l ∧ Bd 500 x ∧ ∀ H' r, Same H H' → Fr K H' r (l.at_ x) → Q r H'
abbrev CHeight (P : Program) (w : World) (K : PySem.W.Frag) (mg : Str → Option Value) (base : Heap) : Prop := Cal P w K mg base CX0 4 "height" ["line", "place"] (spHeight K)
theorem scHeight : FnScope ["line", "place"] ["line", "place"] (defScope (top 29)) := ⟨rfl, rfl, rfl, by decide +kernel, rfl, by decide +kernel, by decide +kernel⟩
theorem ok_height (D : Def K mg "height" (top 29)) (GP : CPlus P w K mg base) (GT : CTimes P w K mg base) : CHeight P w K mg base := by
  refine D.cal (k := 3) scHeight (fun _ _ _ _ _ _ us hl => match us, hl with | [_, _], _ => rfl) (fun vs H Q E h => ?_) (fun f cdv A outer s H vs Q E hr h => ?_)
  · obtain ⟨u, v, l, x, rfl, _⟩ := h
    rfl
  · obtain ⟨u, v, l, x, rfl, ⟨p, a, b, rfl, hp, ha, hb⟩, hv, hl, bx, k⟩ := h
    refine ⟨_, pss_one (ps_ret (pe_fn GP hr pass0 (pa_cons (pe_fn GT hr pass0 (pa_cons (pe_ix ix_tup (pv 0) pe_int (fun _ _ => rfl)) (pa_cons (pv 1) pa_nil))) (pa_cons (pe_ix ix_tup (pv 0) pe_int (fun _ _ => rfl)) pa_nil)))), ?_⟩
    refine ⟨_, rfl, ⟨_, _, _, _, rfl, rfl, hp, atI_nat (j := 0) rfl, ⟨_, rfl, ?_⟩⟩⟩
    refine ⟨_, _, l.s, x, rfl, ha, hv, bd_mono hl.1 (by decide), bd_mono bx (by decide), trivial, fun H1 r1 s1 f1 => ⟨_, rfl, ⟨_, _, _, _, rfl, rfl, (sqt (Tp.of s1) hp), atI_nat (j := 1) rfl, ?_⟩⟩⟩
    exact ⟨_, _, l.s * x, l.c, rfl, f1, hb.mono (Tp.of s1), bd_mono (bd_times hl.1 bx) (by decide), bd_mono hl.2 (by decide), trivial, fun H2 r2 s2 f2 => k H2 r2 (s1.trans s2) f2⟩
def spHeightEnd (K : PySem.W.Frag) : Sp := fun vs H Q _ => ∃ u v l x, vs = [u, v] ∧ Ln K H u l ∧ OFr K H v x ∧ LW l ∧ OBd 500 x ∧ ∀ H' r, Same H H' → OFr K H' r (mapO l x) → Q r H'
abbrev CHeightEnd (P : Program) (w : World) (K : PySem.W.Frag) (mg : Str → Option Value) (base : Heap) : Prop := Cal P w K mg base CX0 5 "height_at_end" ["line", "end"] (spHeightEnd K)
theorem scHeightEnd : FnScope ["line", "end"] ["line", "end"] (defScope (top 30)) := ⟨rfl, rfl, rfl, by decide +kernel, rfl, by decide +kernel, by decide +kernel⟩
theorem ok_heightEnd (D : Def K mg "height_at_end" (top 30)) (G : CHeight P w K mg base) : CHeightEnd P w K mg base := by
  refine D.cal (k := 4) scHeightEnd (fun _ _ _ _ _ _ us hl => match us, hl with | [_, _], _ => rfl) (fun vs H Q E h => ?_) (fun f cdv A outer s H vs Q E hr h => ?_)
  · obtain ⟨u, v, l, x, rfl, _⟩ := h
    rfl
  · obtain ⟨u, v, l, x, rfl, hu, hv, hl, bx, k⟩ := h
    refine ⟨_, pss_one (ps_ret (pe_ifExp (pt_cmpR op_isN (pv 1) pe_non (nomark _)) pe_non (pe_fn G hr pass0 (pa_cons (pv 0) (pa_cons (pv 1) pa_nil))))), ?_⟩
    refine ⟨_, rfl, rfl, _, rfl, ?_⟩
    rcases hv with ⟨rfl, rfl⟩ | ⟨y, rfl, hy⟩
    · exact iteT (k H _ (Same.refl H) ofr_none)
    · have hy' := hy
      obtain ⟨q, rfl, hq⟩ := hy
      rw [decide_eq_false (by intro z; cases z)]
      exact iteF ⟨_, rfl, _, rfl, _, _, l, y, rfl, hu, hy', hl, bx y rfl, fun H1 r1 s1 f1 => k H1 r1 s1 f1.some⟩
/-- a two-place function of lines -/
def spLL (K : PySem.W.Frag) (g : Line → Line → Line) : Sp := fun vs H Q _ => ∃ u v l m, vs = [u, v] ∧ Ln K H u l ∧ Ln K H v m ∧ LW l ∧ LW m ∧ ∀ H' r, Same H H' → Ln K H' r (g l m) → Q r H'
abbrev CSum (P : Program) (w : World) (K : PySem.W.Frag) (mg : Str → Option Value) (base : Heap) : Prop := Cal P w K mg base CX0 4 "line_sum" ["a", "b"] (spLL K sumLine)
abbrev CDif (P : Program) (w : World) (K : PySem.W.Frag) (mg : Str → Option Value) (base : Heap) : Prop := Cal P w K mg base CX0 4 "line_difference" ["a", "b"] (spLL K difLine)
theorem scSum : FnScope ["a", "b"] ["a", "b"] (defScope (top 31)) := ⟨rfl, rfl, rfl, by decide +kernel, rfl, by decide +kernel, by decide +kernel⟩
theorem two_le : 2 ≤ sizeLine := by decide
theorem ok_sum (D : Def K mg "line_sum" (top 31)) (G : CPlus P w K mg base) : CSum P w K mg base := by
  refine D.cal (k := 3) scSum (fun _ _ _ _ _ _ us hl => match us, hl with | [_, _], _ => rfl) (fun vs H Q E h => ?_) (fun f cdv A outer s H vs Q E hr h => ?_)
  · obtain ⟨u, v, l, m, rfl, _⟩ := h
    rfl
  · obtain ⟨u, v, l, m, rfl, ⟨p, a, b, rfl, hp, ha, hb⟩, ⟨q, c, d, rfl, hq, hc, hd⟩, hl, hm, k⟩ := h
    refine ⟨_, pss_one (ps_ret (pe_tup (pa_cons (pe_fn G hr pass0 (pa_cons (pe_ix ix_tup (pv 0) pe_int (fun _ _ => rfl)) (pa_cons (pe_ix ix_tup (pv 1) pe_int (fun _ _ => rfl)) pa_nil))) (pa_cons (pe_fn G hr pass0 (pa_cons (pe_ix ix_tup (pv 0) pe_int (fun _ _ => rfl)) (pa_cons (pe_ix ix_tup (pv 1) pe_int (fun _ _ => rfl)) pa_nil))) pa_nil)))), ?_⟩
    refine ⟨_, rfl, ⟨_, _, _, _, rfl, rfl, hp, atI_nat (j := 0) rfl, ⟨_, rfl, ⟨_, _, _, _, rfl, rfl, hq, atI_nat (j := 0) rfl, ?_⟩⟩⟩⟩
    refine ⟨_, _, l.s, m.s, rfl, ha, hc, bd_mono hl.1 (by decide), bd_mono hm.1 (by decide), trivial, fun H1 r1 s1 f1 => ⟨_, rfl, ⟨_, _, _, _, rfl, rfl, (sqt (Tp.of s1) hp), atI_nat (j := 1) rfl, ⟨_, rfl, ⟨_, _, _, _, rfl, rfl, (sqt (Tp.of s1) hq), atI_nat (j := 1) rfl, ?_⟩⟩⟩⟩⟩
    refine ⟨_, _, l.c, m.c, rfl, hb.mono (Tp.of s1), hd.mono (Tp.of s1), bd_mono hl.2 (by decide), bd_mono hm.2 (by decide), trivial, fun H2 r2 s2 f2 => ⟨two_le, fun t ht => ?_⟩⟩
    have s3 := Same.new (o := .tup [r1, r2]) ht
    exact k _ _ ((s1.trans s2).trans s3) ⟨t, r1, r2, rfl, SqT.of upd_same, f1.mono (Tp.of (s2.trans s3)), f2.mono (Tp.of s3)⟩
theorem scDif : FnScope ["a", "b"] ["a", "b"] (defScope (top 32)) := ⟨rfl, rfl, rfl, by decide +kernel, rfl, by decide +kernel, by decide +kernel⟩
theorem ok_dif (D : Def K mg "line_difference" (top 32)) (G : CMinus P w K mg base) : CDif P w K mg base := by
  refine D.cal (k := 3) scDif (fun _ _ _ _ _ _ us hl => match us, hl with | [_, _], _ => rfl) (fun vs H Q E h => ?_) (fun f cdv A outer s H vs Q E hr h => ?_)
  · obtain ⟨u, v, l, m, rfl, _⟩ := h
    rfl
  · obtain ⟨u, v, l, m, rfl, ⟨p, a, b, rfl, hp, ha, hb⟩, ⟨q, c, d, rfl, hq, hc, hd⟩, hl, hm, k⟩ := h
    refine ⟨_, pss_one (ps_ret (pe_tup (pa_cons (pe_fn G hr pass0 (pa_cons (pe_ix ix_tup (pv 0) pe_int (fun _ _ => rfl)) (pa_cons (pe_ix ix_tup (pv 1) pe_int (fun _ _ => rfl)) pa_nil))) (pa_cons (pe_fn G hr pass0 (pa_cons (pe_ix ix_tup (pv 0) pe_int (fun _ _ => rfl)) (pa_cons (pe_ix ix_tup (pv 1) pe_int (fun _ _ => rfl)) pa_nil))) pa_nil)))), ?_⟩
    refine ⟨_, rfl, ⟨_, _, _, _, rfl, rfl, hp, atI_nat (j := 0) rfl, ⟨_, rfl, ⟨_, _, _, _, rfl, rfl, hq, atI_nat (j := 0) rfl, ?_⟩⟩⟩⟩
    refine ⟨_, _, l.s, m.s, rfl, ha, hc, bd_mono hl.1 (by decide), bd_mono hm.1 (by decide), trivial, fun H1 r1 s1 f1 => ⟨_, rfl, ⟨_, _, _, _, rfl, rfl, (sqt (Tp.of s1) hp), atI_nat (j := 1) rfl, ⟨_, rfl, ⟨_, _, _, _, rfl, rfl, (sqt (Tp.of s1) hq), atI_nat (j := 1) rfl, ?_⟩⟩⟩⟩⟩
    refine ⟨_, _, l.c, m.c, rfl, hb.mono (Tp.of s1), hd.mono (Tp.of s1), bd_mono hl.2 (by decide), bd_mono hm.2 (by decide), trivial, fun H2 r2 s2 f2 => ⟨two_le, fun t ht => ?_⟩⟩
    have s3 := Same.new (o := .tup [r1, r2]) ht
    exact k _ _ ((s1.trans s2).trans s3) ⟨t, r1, r2, rfl, SqT.of upd_same, f1.mono (Tp.of (s2.trans s3)), f2.mono (Tp.of s3)⟩
def spMul (K : PySem.W.Frag) : Sp := fun vs H Q _ => ∃ u v l x, vs = [u, v] ∧ Ln K H u l ∧ Fr K H v x ∧ LW l ∧ Bd 500 x ∧ ∀ H' r, Same H H' → Ln K H' r (mulLine l x) → Q r H'
abbrev CMulL (P : Program) (w : World) (K : PySem.W.Frag) (mg : Str → Option Value) (base : Heap) : Prop := Cal P w K mg base CX0 4 "line_multiple" ["line", "factor"] (spMul K)
theorem scMul : FnScope ["line", "factor"] ["line", "factor"] (defScope (top 33)) := ⟨rfl, rfl, rfl, by decide +kernel, rfl, by decide +kernel, by decide +kernel⟩
theorem ok_mul (D : Def K mg "line_multiple" (top 33)) (G : CTimes P w K mg base) : CMulL P w K mg base := by
  refine D.cal (k := 3) scMul (fun _ _ _ _ _ _ us hl => match us, hl with | [_, _], _ => rfl) (fun vs H Q E h => ?_) (fun f cdv A outer s H vs Q E hr h => ?_)
  · obtain ⟨u, v, l, x, rfl, _⟩ := h
    rfl
  · obtain ⟨u, v, l, x, rfl, ⟨p, a, b, rfl, hp, ha, hb⟩, hv, hl, bx, k⟩ := h
    refine ⟨_, pss_one (ps_ret (pe_tup (pa_cons (pe_fn G hr pass0 (pa_cons (pe_ix ix_tup (pv 0) pe_int (fun _ _ => rfl)) (pa_cons (pv 1) pa_nil))) (pa_cons (pe_fn G hr pass0 (pa_cons (pe_ix ix_tup (pv 0) pe_int (fun _ _ => rfl)) (pa_cons (pv 1) pa_nil))) pa_nil)))), ?_⟩
    refine ⟨_, rfl, ⟨_, _, _, _, rfl, rfl, hp, atI_nat (j := 0) rfl, ⟨_, rfl, ?_⟩⟩⟩
    refine ⟨_, _, l.s, x, rfl, ha, hv, bd_mono hl.1 (by decide), bd_mono bx (by decide), trivial, fun H1 r1 s1 f1 => ⟨_, rfl, ⟨_, _, _, _, rfl, rfl, (sqt (Tp.of s1) hp), atI_nat (j := 1) rfl, ⟨_, rfl, ?_⟩⟩⟩⟩
    refine ⟨_, _, l.c, x, rfl, hb.mono (Tp.of s1), hv.mono (Tp.of s1), bd_mono hl.2 (by decide), bd_mono bx (by decide), trivial, fun H2 r2 s2 f2 => ⟨two_le, fun t ht => ?_⟩⟩
    have s3 := Same.new (o := .tup [r1, r2]) ht
    exact k _ _ ((s1.trans s2).trans s3) ⟨t, r1, r2, rfl, SqT.of upd_same, f1.mono (Tp.of (s2.trans s3)), f2.mono (Tp.of s3)⟩
abbrev CAfter (P : Program) (w : World) (K : PySem.W.Frag) (mg : Str → Option Value) (base : Heap) : Prop := Cal P w K mg base CX0 5 "line_after" ["outer", "inner"] (spLL K afterLine)
theorem scAfter : FnScope ["outer", "inner"] ["outer", "inner"] (defScope (top 34)) := ⟨rfl, rfl, rfl, by decide +kernel, rfl, by decide +kernel, by decide +kernel⟩
theorem ok_after (D : Def K mg "line_after" (top 34)) (G : CTimes P w K mg base) (GH : CHeight P w K mg base) : CAfter P w K mg base := by
  refine D.cal (k := 4) scAfter (fun _ _ _ _ _ _ us hl => match us, hl with | [_, _], _ => rfl) (fun vs H Q E h => ?_) (fun f cdv A outer s H vs Q E hr h => ?_)
  · obtain ⟨u, v, l, m, rfl, _⟩ := h
    rfl
  · obtain ⟨u, v, l, m, rfl, hu, ⟨q, c, d, rfl, hq, hc, hd⟩, hl, hm, k⟩ := h
    have hu' := hu
    obtain ⟨p, a, b, rfl, hp, ha, hb⟩ := hu
    refine ⟨_, pss_one (ps_ret (pe_tup (pa_cons (pe_fn G (hr.mono (by decide)) pass0 (pa_cons (pe_ix ix_tup (pv 0) pe_int (fun _ _ => rfl)) (pa_cons (pe_ix ix_tup (pv 1) pe_int (fun _ _ => rfl)) pa_nil))) (pa_cons (pe_fn GH hr pass0 (pa_cons (pv 0) (pa_cons (pe_ix ix_tup (pv 1) pe_int (fun _ _ => rfl)) pa_nil))) pa_nil)))), ?_⟩
    refine ⟨_, rfl, ⟨_, _, _, _, rfl, rfl, hp, atI_nat (j := 0) rfl, ⟨_, rfl, ⟨_, _, _, _, rfl, rfl, hq, atI_nat (j := 0) rfl, ?_⟩⟩⟩⟩
    refine ⟨_, _, l.s, m.s, rfl, ha, hc, bd_mono hl.1 (by decide), bd_mono hm.1 (by decide), trivial, fun H1 r1 s1 f1 => ⟨_, rfl, _, rfl, ⟨_, _, _, _, rfl, rfl, (sqt (Tp.of s1) hq), atI_nat (j := 1) rfl, ?_⟩⟩⟩
    refine ⟨_, _, l, m.c, rfl, hu'.mono (Tp.of s1), hd.mono (Tp.of s1), hl, bd_mono hm.2 (by decide), fun H2 r2 s2 f2 => ⟨two_le, fun t ht => ?_⟩⟩
    have s3 := Same.new (o := .tup [r1, r2]) ht
    exact k _ _ ((s1.trans s2).trans s3) ⟨t, r1, r2, rfl, SqT.of upd_same, f1.mono (Tp.of (s2.trans s3)), f2.mono (Tp.of s3)⟩
def spPoh (K : PySem.W.Frag) : Sp := fun vs H Q _ => ∃ u v l y, vs = [u, v] ∧ Ln K H u l ∧ Fr K H v y ∧ LW l ∧ Bd 500 y ∧ l.s ≠ 0 ∧ ∀ H' r, Same H H' → Fr K H' r ((y - l.c) / l.s) → Q r H'
abbrev CPoh (P : Program) (w : World) (K : PySem.W.Frag) (mg : Str → Option Value) (base : Heap) : Prop := Cal P w K mg base CX0 4 "place_of_height" ["line", "wanted"] (spPoh K)
theorem scPoh : FnScope ["line", "wanted"] ["line", "wanted"] (defScope (top 35)) := ⟨rfl, rfl, rfl, by decide +kernel, rfl, by decide +kernel, by decide +kernel⟩
theorem ok_poh (D : Def K mg "place_of_height" (top 35)) (GO : COver P w K mg base) (GM : CMinus P w K mg base) : CPoh P w K mg base := by
  refine D.cal (k := 3) scPoh (fun _ _ _ _ _ _ us hl => match us, hl with | [_, _], _ => rfl) (fun vs H Q E h => ?_) (fun f cdv A outer s H vs Q E hr h => ?_)
  · obtain ⟨u, v, l, y, rfl, _⟩ := h
    rfl
  · obtain ⟨u, v, l, y, rfl, ⟨p, a, b, rfl, hp, ha, hb⟩, hv, hl, bx, hs, k⟩ := h
    refine ⟨_, pss_one (ps_ret (pe_fn GO hr pass0 (pa_cons (pe_fn GM hr pass0 (pa_cons (pv 1) (pa_cons (pe_ix ix_tup (pv 0) pe_int (fun _ _ => rfl)) pa_nil))) (pa_cons (pe_ix ix_tup (pv 0) pe_int (fun _ _ => rfl)) pa_nil)))), ?_⟩
    refine ⟨_, rfl, _, rfl, ⟨_, _, _, _, rfl, rfl, hp, atI_nat (j := 1) rfl, ?_⟩⟩
    refine ⟨_, _, y, l.c, rfl, hv, hb, bd_mono bx (by decide), bd_mono hl.2 (by decide), trivial, fun H1 r1 s1 f1 => ⟨_, rfl, ⟨_, _, _, _, rfl, rfl, (sqt (Tp.of s1) hp), atI_nat (j := 0) rfl, ?_⟩⟩⟩
    exact ⟨_, _, y - l.c, l.s, rfl, f1, ha.mono (Tp.of s1), bd_mono (bd_minus bx hl.2) (by decide), bd_mono hl.1 (by decide), hs, fun H2 r2 s2 f2 => k H2 r2 (s1.trans s2) f2⟩
def spInv1 (K : PySem.W.Frag) : Sp := fun vs H Q _ => ∃ u l, vs = [u] ∧ Ln K H u l ∧ LW l ∧ l.s ≠ 0 ∧ ∀ H' r, Same H H' → Ln K H' r (Pl.turned l) → Q r H'
abbrev CInv1 (P : Program) (w : World) (K : PySem.W.Frag) (mg : Str → Option Value) (base : Heap) : Prop := Cal P w K mg base CX0 5 "line_inverse" ["line"] (spInv1 K)
theorem scInv1 : FnScope ["line"] ["line"] (defScope (top 36)) := ⟨rfl, rfl, rfl, by decide +kernel, rfl, by decide +kernel, by decide +kernel⟩
theorem ok_inv1 (T : Txt K mg) (D : Def K mg "line_inverse" (top 36)) (GO : COver P w K mg base) (GH : CPoh P w K mg base) : CInv1 P w K mg base := by
  obtain ⟨z, gz, hz⟩ := T.zero
  obtain ⟨o, go, ho⟩ := T.one
  refine D.cal (k := 4) scInv1 (fun _ _ _ _ _ _ us hl => match us, hl with | [_], _ => rfl) (fun vs H Q E h => ?_) (fun f cdv A outer s H vs Q E hr h => ?_)
  · obtain ⟨u, l, rfl, _⟩ := h
    rfl
  · obtain ⟨u, l, rfl, hu, hl, hs, k⟩ := h
    have hu' := hu
    obtain ⟨p, a, b, rfl, hp, ha, hb⟩ := hu
    refine ⟨_, pss_one (ps_ret (pe_tup (pa_cons (pe_fn GO (hr.mono (by decide)) pass0 (pa_cons (pe_gl go) (pa_cons (pe_ix ix_tup (pv 0) pe_int (fun _ _ => rfl)) pa_nil))) (pa_cons (pe_fn GH hr pass0 (pa_cons (pv 0) (pa_cons (pe_gl gz) pa_nil))) pa_nil)))), ?_⟩
    refine ⟨_, rfl, ⟨_, _, _, _, rfl, rfl, hp, atI_nat (j := 0) rfl, ?_⟩⟩
    refine ⟨_, _, 1, l.s, rfl, ho H, ha, bd_one (by decide), bd_mono hl.1 (by decide), hs, fun H1 r1 s1 f1 => ⟨_, rfl, ?_⟩⟩
    refine ⟨_, _, l, 0, rfl, hu'.mono (Tp.of s1), hz H1, hl, bd_zero (by decide), hs, fun H2 r2 s2 f2 => ⟨two_le, fun t ht => ?_⟩⟩
    have s3 := Same.new (o := .tup [r1, r2]) ht
    rw [show (0 : Rat) - l.c = -l.c by grind] at f2
    exact k _ _ ((s1.trans s2).trans s3) ⟨t, r1, r2, rfl, SqT.of upd_same, f1.mono (Tp.of (s2.trans s3)), f2.mono (Tp.of s3)⟩
def spCross (K : PySem.W.Frag) : Sp := fun vs H Q _ => ∃ u v l m, vs = [u, v] ∧ Ln K H u l ∧ Ln K H v m ∧ LB l ∧ LB m ∧ ∀ H' r, Same H H' → OFr K H' r (Pl.meets l m).head? → Q r H'
abbrev CCross (P : Program) (w : World) (K : PySem.W.Frag) (mg : Str → Option Value) (base : Heap) : Prop := Cal P w K mg base CX0 5 "crossing" ["a", "b"] (spCross K)
theorem scCross : FnScope ["a", "b", "difference"] ["a", "b"] (defScope (top 37)) := ⟨rfl, rfl, rfl, by decide +kernel, rfl, by decide +kernel, by decide +kernel⟩
theorem ok_cross (T : Txt K mg) (D : Def K mg "crossing" (top 37)) (GD : CDif P w K mg base) (GH : CPoh P w K mg base) : CCross P w K mg base := by
  obtain ⟨z, gz, hz⟩ := T.zero
  refine D.cal (k := 4) scCross (fun _ _ _ _ _ _ us hl => match us, hl with | [_, _], _ => rfl) (fun vs H Q E h => ?_) (fun f cdv A outer s H vs Q E hr h => ?_)
  · obtain ⟨u, v, l, m, rfl, _⟩ := h
    rfl
  · obtain ⟨u, v, l, m, rfl, hu, hv, hl, hm, k⟩ := h
    refine ⟨_, pss_cons (ps_set (i := 2) scCross.nd rfl (Or.inl rfl) (pe_fn GD hr pass0 (pa_cons (pv 0) (pa_cons (pv 1) pa_nil))))
      (pss_cons (ps_if (pt_cmpR (op_eqD hr.units) (pe_ix ix_tup (pv 2) pe_int (fun _ _ => rfl)) (pe_gl gz) (nomark _)) (pss_one (ps_ret pe_non)) pss_nil)
      (pss_one (ps_ret (pe_fn GH hr pass0 (pa_cons (pv 2) (pa_cons (pe_gl gz) pa_nil)))))), ?_⟩
    refine ⟨_, rfl, _, rfl, u, v, l, m, rfl, hu, hv, LW.of hl, LW.of hm, fun H1 r1 s1 f1 => ?_⟩
    have f1' := f1
    obtain ⟨p, a, b, rfl, hp, ha, hb⟩ := f1
    refine ⟨_, rfl, ⟨_, _, _, _, rfl, rfl, hp, atI_nat (j := 0) rfl, ⟨_, _, ha.dp, (hz H1).dp, shaped_q _, shaped_q _, _, rfl, ?_⟩⟩⟩
    rw [eqv_q]
    have bs : Bd 31 (difLine l m).s := bd_minus hl.1 hm.1
    have bc : Bd 63 (difLine l m).c := bd_minus hl.2 hm.2
    by_cases e : (difLine l m).s = 0
    · rw [decide_eq_true e]
      refine iteT (k H1 _ s1 ?_)
      have e' : l.s = m.s := by simp only [difLine] at e; grind
      rw [show Pl.meets l m = [] from if_pos e']
      exact ofr_none
    · rw [decide_eq_false e]
      refine iteF ⟨_, rfl, _, _, difLine l m, 0, rfl, f1', hz H1, ⟨bd_mono bs (by decide), bd_mono bc (by decide)⟩, bd_zero (by decide), e, fun H2 r2 s2 f2 => k H2 r2 (s1.trans s2) ?_⟩
      have e' : ¬ l.s = m.s := by simp only [difLine] at e; grind
      rw [show Pl.meets l m = [(m.c - l.c) / (l.s - m.s)] from if_neg e']
      have e2 : (0 - (difLine l m).c) / (difLine l m).s = (m.c - l.c) / (l.s - m.s) := by
        simp only [difLine]
        congr 1
        grind
      rw [e2] at f2
      exact f2.some
end
end SP
end
section
set_option Elab.async false
set_option linter.all false
set_option maxRecDepth 100000
set_option exponentiation.threshold 5000
namespace L2
open PySem PySem.Spec PyProof.Rows
theorem for_enum {K : PySem.W.Frag} {a : Addr} {xs : List V} {g : TG} {tb : TS} {D : Ends} {σ : St} {H : Hp} (Pv : Nat → St → Hp → Prop) (h0 : Pv 0 σ H) (hl : ∀ i σ H, i ≤ xs.length → Pv i σ H → SqL K H a xs)
    (hs : ∀ (i : Nat) x σ H T, xs[i]? = some x → Pv i σ H → H T = none → g (.ref T) σ (upd H T (.tup [.int (i : Nat), x])) fun σ2 H2 => tb { D with nx := Pv (i + 1), ct := Pv (i + 1), bk := D.nx } σ2 H2) (hd : ∀ σ H, Pv xs.length σ H → D.nx σ H) :
    ∃ W : Nat → Nat → St → Hp → Prop, (∃ m, W 0 m σ H) ∧ ∀ i m σ H, W i m σ H →
      ((Ite K a).stop i H ∧ D.nx σ H) ∨ ((Ite K a).go i H ∧ ∃ N : St → Hp → Prop, (∀ σ' H', N σ' H' → ∃ m', m' < m ∧ W (i + 1) m' σ' H') ∧ ∀ x H', (Ite K a).yld i H x H' → g x σ H' fun σ2 H2 => tb { D with nx := N, ct := N, bk := D.nx } σ2 H2) := by
  refine ⟨fun i m σ H => m = xs.length - i ∧ i ≤ xs.length ∧ Pv i σ H, ⟨xs.length, by simp, Nat.zero_le _, h0⟩, ?_⟩
  rintro i m σ H ⟨rfl, hi, p⟩
  have q := hl i σ H hi p
  by_cases hlt : i < xs.length
  · refine .inr ⟨⟨xs, xs[i], q, by simp [hlt]⟩, Pv (i + 1), fun σ' H' p' => ⟨xs.length - (i + 1), by omega, rfl, hlt, p'⟩, fun x H' y => ?_⟩
    obtain ⟨T, x', e, hT, e2, y⟩ := y
    subst e e2
    exact hs i x' σ H T (y xs q) p hT
  · have e : i = xs.length := by omega
    subst e
    exact .inl ⟨⟨xs, q, Nat.le_refl _⟩, hd σ H p⟩
theorem for_zip {K : PySem.W.Frag} {a b : Addr} {xs ys : List V} {g : TG} {tb : TS} {D : Ends} {σ : St} {H : Hp} (Pv : Nat → St → Hp → Prop) (hxy : xs.length = ys.length) (h0 : Pv 0 σ H) (hl : ∀ i σ H, i ≤ xs.length → Pv i σ H → SqL K H a xs ∧ SqL K H b ys)
    (hs : ∀ (i : Nat) x y σ H T, xs[i]? = some x → ys[i]? = some y → Pv i σ H → H T = none → g (.ref T) σ (upd H T (.tup [x, y])) fun σ2 H2 => tb { D with nx := Pv (i + 1), ct := Pv (i + 1), bk := D.nx } σ2 H2) (hd : ∀ σ H, Pv xs.length σ H → D.nx σ H) :
    ∃ W : Nat → Nat → St → Hp → Prop, (∃ m, W 0 m σ H) ∧ ∀ i m σ H, W i m σ H →
      ((Itz K a b).stop i H ∧ D.nx σ H) ∨ ((Itz K a b).go i H ∧ ∃ N : St → Hp → Prop, (∀ σ' H', N σ' H' → ∃ m', m' < m ∧ W (i + 1) m' σ' H') ∧ ∀ x H', (Itz K a b).yld i H x H' → g x σ H' fun σ2 H2 => tb { D with nx := N, ct := N, bk := D.nx } σ2 H2) := by
  refine ⟨fun i m σ H => m = xs.length - i ∧ i ≤ xs.length ∧ Pv i σ H, ⟨xs.length, by simp, Nat.zero_le _, h0⟩, ?_⟩
  rintro i m σ H ⟨rfl, hi, p⟩
  have q := hl i σ H hi p
  by_cases hlt : i < xs.length
  · refine .inr ⟨⟨xs, ys, xs[i], ys[i]'(by omega), q.1, q.2, by simp [hlt], by simp [← hxy, hlt]⟩, Pv (i + 1), fun σ' H' p' => ⟨xs.length - (i + 1), by omega, rfl, hlt, p'⟩, fun x H' y => ?_⟩
    obtain ⟨T, x', y', e, hT, e2, y1, y2⟩ := y
    subst e e2
    exact hs i x' y' σ H T (y1 xs q.1) (y2 ys q.2) p hT
  · have e : i = xs.length := by omega
    subst e
    exact .inl ⟨⟨xs, ys, q.1, q.2, .inl (Nat.le_refl _)⟩, hd σ H p⟩
theorem for_rev {K : PySem.W.Frag} {a : Addr} {xs : List V} {g : TG} {tb : TS} {D : Ends} {σ : St} {H : Hp} (Pv : Nat → St → Hp → Prop) (h0 : Pv 0 σ H) (hl : ∀ i σ H, i ≤ xs.length → Pv i σ H → SqL K H a xs)
    (hs : ∀ i x σ H, xs.reverse[i]? = some x → Pv i σ H → g x σ H fun σ2 H2 => tb { D with nx := Pv (i + 1), ct := Pv (i + 1), bk := D.nx } σ2 H2) (hd : ∀ σ H, Pv xs.length σ H → D.nx σ H) :
    ∃ W : Nat → Nat → St → Hp → Prop, (∃ m, W 0 m σ H) ∧ ∀ i m σ H, W i m σ H →
      ((Itv K a xs.length).stop i H ∧ D.nx σ H) ∨ ((Itv K a xs.length).go i H ∧ ∃ N : St → Hp → Prop, (∀ σ' H', N σ' H' → ∃ m', m' < m ∧ W (i + 1) m' σ' H') ∧ ∀ x H', (Itv K a xs.length).yld i H x H' → g x σ H' fun σ2 H2 => tb { D with nx := N, ct := N, bk := D.nx } σ2 H2) := by
  refine ⟨fun i m σ H => m = xs.length - i ∧ i ≤ xs.length ∧ Pv i σ H, ⟨xs.length, by simp, Nat.zero_le _, h0⟩, ?_⟩
  rintro i m σ H ⟨rfl, hi, p⟩
  have q := hl i σ H hi p
  by_cases hlt : i < xs.length
  · have hlt2 : xs.length - 1 - i < xs.length := by omega
    refine .inr ⟨⟨hlt, xs, xs[xs.length - 1 - i], q, by simp [hlt2]⟩, Pv (i + 1), fun σ' H' p' => ⟨xs.length - (i + 1), by omega, rfl, hlt, p'⟩, fun x H' y => ?_⟩
    obtain ⟨e, y⟩ := y
    subst e
    refine hs i x σ _ ?_ p
    rw [List.getElem?_reverse hlt]
    exact y xs q
  · have e : i = xs.length := by omega
    subst e
    exact .inl ⟨Nat.le_refl _, hd σ H p⟩
theorem lc_rev {K : PySem.W.Frag} {a : Addr} {xs : List V} {g : TG} {tt : TT} {te : TE} {vs : List Nat} {σ : St} {H1 : Hp} {D : Addr} {Qd : Hp → Prop} (Pv : Nat → Hp → Prop) (h0 : Pv 0 (upd H1 D (.lst []))) (hl : ∀ i H, i ≤ xs.length → Pv i H → SqL K H a xs)
    (hs : ∀ i x H, xs.reverse[i]? = some x → Pv i H → g x (wipe σ vs) H fun σ2 H2 => wipe σ2 vs = wipe σ vs ∧ tt σ2 H2 fun b H3 =>
      if b = true then te σ2 H3 fun y H4 => ∃ acc, H4 D = some (.lst acc) ∧ acc.length < sizeLine ∧ Pv (i + 1) (upd H4 D (.lst (acc ++ [y]))) else Pv (i + 1) H3) (hd : ∀ H, Pv xs.length H → Qd H) :
    ∃ W : Nat → Nat → Hp → Prop, (∃ m, W 0 m (upd H1 D (.lst []))) ∧ ∀ i m H, W i m H →
      ((Itv K a xs.length).stop i H ∧ Qd H) ∨ ((Itv K a xs.length).go i H ∧ ∃ Nx : Hp → Prop, (∀ H', Nx H' → ∃ m', m' < m ∧ W (i + 1) m' H') ∧ ∀ x H', (Itv K a xs.length).yld i H x H' → g x (wipe σ vs) H' fun σ2 H2 => wipe σ2 vs = wipe σ vs ∧ tt σ2 H2 fun b H3 =>
        if b = true then te σ2 H3 fun y H4 => ∃ acc, H4 D = some (.lst acc) ∧ acc.length < sizeLine ∧ Nx (upd H4 D (.lst (acc ++ [y]))) else Nx H3) := by
  refine ⟨fun i m H => m = xs.length - i ∧ i ≤ xs.length ∧ Pv i H, ⟨xs.length, by simp, Nat.zero_le _, h0⟩, ?_⟩
  rintro i m H ⟨rfl, hi, p⟩
  have q := hl i H hi p
  by_cases hlt : i < xs.length
  · have hlt2 : xs.length - 1 - i < xs.length := by omega
    refine .inr ⟨⟨hlt, xs, xs[xs.length - 1 - i], q, by simp [hlt2]⟩, Pv (i + 1), fun H' p' => ⟨xs.length - (i + 1), by omega, rfl, hlt, p'⟩, fun x H' y => ?_⟩
    obtain ⟨e, y⟩ := y
    subst e
    refine hs i x _ ?_ p
    rw [List.getElem?_reverse hlt]
    exact y xs q
  · have e : i = xs.length := by omega
    subst e
    exact .inl ⟨Nat.le_refl _, hd H p⟩
end L2
namespace SP
open PySem PySem.Spec PyProof.Rows L2 Mt
open Pl (Line Fn)
def ff (lb ll : Addr) : List (Str × V) := putF "lines" (.ref ll) (putF "breaks" (.ref lb) [])
theorem ff_b (lb ll : Addr) : (ff lb ll).lookup ("breaks" : Str) = some (.ref lb) := by
  unfold ff
  rw [lookup_putF, if_neg (by decide +kernel), lookup_putF, if_pos rfl]
theorem ff_l (lb ll : Addr) : (ff lb ll).lookup ("lines" : Str) = some (.ref ll) := by
  unfold ff
  rw [lookup_putF, if_pos rfl]
theorem ff_no (lb ll : Addr) {m : Str} (h1 : ¬ m = "breaks") (h2 : ¬ m = "lines") : (ff lb ll).lookup m = none := by
  unfold ff
  rw [lookup_putF, if_neg h2, lookup_putF, if_neg h1]
  rfl
structure FormX (K : PySem.W.Frag) (C : Addr) (H : Hp) (p lb ll : Addr) (F : Fn) : Prop where
  ins : ∃ dx, H p = some (.ins C dx (ff lb ll))
  hb : ∃ bs, H lb = some (.lst bs) ∧ Paired (Fr K H) bs F.breaks
  hl : ∃ ls, H ll = some (.lst ls) ∧ Paired (Ln K H) ls F.lines
  ne : lb ≠ ll
def Form (K : PySem.W.Frag) (C : Addr) (H : Hp) (v : V) (F : Fn) : Prop := ∃ p lb ll, v = .ref p ∧ FormX K C H p lb ll F
section
variable {K : PySem.W.Frag} {C : Addr} {H H' : Hp} {v : V} {F : Fn} {p lb ll : Addr}
theorem frs_mono {vs : List V} {qs : List Rat} (t : Tp H H') (h : Paired (Fr K H) vs qs) : Paired (Fr K H') vs qs := Paired.mapP h fun _ _ z => z.mono t
theorem lns_mono {vs : List V} {qs : List Line} (t : Tp H H') (h : Paired (Ln K H) vs qs) : Paired (Ln K H') vs qs := Paired.mapP h fun _ _ z => z.mono t
theorem FormX.mono (s : Same H H') (h : FormX K C H p lb ll F) : FormX K C H' p lb ll F := by
  obtain ⟨⟨dx, h1⟩, ⟨bs, h2, h3⟩, ⟨ls, h4, h5⟩, ne⟩ := h
  exact ⟨⟨dx, s _ _ h1⟩, ⟨bs, s _ _ h2, frs_mono (Tp.of s) h3⟩, ⟨ls, s _ _ h4, lns_mono (Tp.of s) h5⟩, ne⟩
theorem Form.mono (s : Same H H') (h : Form K C H v F) : Form K C H' v F := by
  obtain ⟨p, lb, ll, e, x⟩ := h
  exact ⟨p, lb, ll, e, x.mono s⟩
end
/-- the class Form, and the error of what doesn't fit -/
structure TF (K : PySem.W.Frag) (mg : Str → Option Value) (C Cfit : Addr) : Prop where
  cl : Cls K C
  nB : NoAttr K C "breaks"
  nL : NoAttr K C "lines"
  fit : Exc K Cfit
  mgFit : mg "DoesNotFit" = some (.ref Cfit)
section
variable {P : Program} {w : World} {K : PySem.W.Frag} {mg : Str → Option Value} {base : Heap} {C Cfit : Addr}
def spFit (K : PySem.W.Frag) (Cfit : Addr) : Sp := fun vs H Q E => ∃ (u : V) (x : Rat) (m : Nat), vs = [u, .int m] ∧ Fr K H u x ∧ (Pl.small x m = true → Q .non H) ∧ (Pl.small x m = false → E (.ref Cfit) none H)
abbrev CFit (P : Program) (w : World) (K : PySem.W.Frag) (mg : Str → Option Value) (base : Heap) (Cfit : Addr) : Prop := Cal P w K mg base (CXo P w) 2 "check_fit" ["fraction", "most"] (spFit K Cfit)
theorem scFit : FnScope ["fraction", "most"] ["fraction", "most"] (defScope (top 25)) := ⟨rfl, rfl, rfl, by decide +kernel, rfl, by decide +kernel, by decide +kernel⟩
theorem ok_fit (TF : TF K mg C Cfit) (D : Def K mg "check_fit" (top 25)) (G : Cal P w K mg base CX0 1 "is_within" ["a", "most"] (spWithin K)) : CFit P w K mg base Cfit := by
  refine D.calX (k := 1) scFit (fun _ _ _ _ _ _ us hl => match us, hl with | [_, _], _ => rfl) (fun vs H Q E h => ?_) (fun f cdv A outer s H vs Q E hr h => ?_)
  · obtain ⟨u, x, m, rfl, _⟩ := h
    rfl
  · obtain ⟨u, x, m, rfl, hu, k1, k2⟩ := h
    refine ⟨_, pss_one (ps_if (pt_not (pt_val (pe_fn G hr pass0 (pa_cons (pv 0) (pa_cons (pv 1) pa_nil))))) (pss_one (ps_raise TF.fit rfl TF.mgFit)) pss_nil), ?_⟩
    refine ⟨_, rfl, _, rfl, u, x, m, rfl, hu, _, rfl, ?_⟩
    cases e : Pl.small x m with
    | true => exact iteF (k1 e)
    | false => exact iteT (k2 e)
abbrev sInitF : Stmt := inClass (top 26) 0
def spInitF (K : PySem.W.Frag) (C : Addr) : Sp := fun vs H Q _ => ∃ p dx, vs = [.ref p] ∧ H p = some (.ins C dx []) ∧ ∀ H' lb ll, H lb = none → H ll = none → FormX K C H' p lb ll noFn → (∀ b o, H b = some o → b ≠ p → H' b = some o) → Q .non H'
theorem scInitF : FnScope ["self"] ["self"] (defScope sInitF) := ⟨rfl, rfl, rfl, by decide +kernel, rfl, by decide +kernel, by decide +kernel⟩
theorem ok_initF {f : Addr} {fd : FuncData} (TF : TF K mg C Cfit) (F : Fun K "__init__" "Form.__init__" sInitF f fd) : FnOk P w K mg base CX0 1 f fd ["self"] (spInitF K C) := by
  refine F.ok scInitF (fun vs H Q E h => ?_) (fun cdv A outer s H vs Q E hr h => ?_)
  · obtain ⟨p, dx, rfl, _⟩ := h
    rfl
  · obtain ⟨p, dx, rfl, hp, k⟩ := h
    refine ⟨_, pss_cons (ps_fld (pv 0) (pe_lst pa_nil) rfl) (pss_one (ps_fld (pv 0) (pe_lst pa_nil) rfl)), ?_⟩
    refine ⟨Nat.zero_le _, fun lb nb => ⟨_, rfl, p, C, dx, [], rfl, (Same.new nb) _ _ hp, TF.cl, TF.nB, (by show 0 < 1000; decide), ?_⟩⟩
    have npb : lb ≠ p := fun z => by rw [z, hp] at nb; cases nb
    refine ⟨Nat.zero_le _, fun ll nl => ⟨_, rfl, p, C, dx, _, rfl, (Same.new nl) _ _ upd_same, TF.cl, TF.nL, (by show 1 < 1000; decide), ?_⟩⟩
    have npl : ll ≠ p := fun z => by rw [z, upd_same] at nl; cases nl
    have nlb : ll ≠ lb := fun z => by rw [z, upd_ne npb, upd_same] at nl; cases nl
    have nl0 : H ll = none := by rw [upd_ne npl, upd_ne nlb] at nl; exact nl
    refine k _ lb ll nb nl0 ⟨⟨dx, upd_same⟩, ⟨[], ?_, .nil⟩, ⟨[], ?_, .nil⟩, fun z => nlb z.symm⟩ fun b o e hbp => ?_
    · rw [upd_ne npb, upd_ne (fun z => nlb z.symm), upd_ne npb, upd_same]
    · rw [upd_ne npl, upd_same]
    · rw [upd_ne hbp, upd_ne (fun z => by rw [z, nl0] at e; cases e), upd_ne hbp, upd_ne (ne_of_none e nb)]
      exact e
def Stp (lb ll : Addr) (H H' : Hp) : Prop := ∀ b o, H b = some o → b ≠ lb → b ≠ ll → H' b = some o
abbrev sDraw : Stmt := inClass (top 26) 1
def spDraw (K : PySem.W.Frag) (C Cfit : Addr) : Sp := fun vs H Q E => ∃ p lb ll a u F left line, vs = [.ref p, a, u] ∧ FormX K C H p lb ll F ∧ OFr K H a left ∧ Ln K H u line ∧ F.lines.length ≤ 32 ∧ F.breaks.length ≤ 32 ∧ (F.lines = [] ∨ left ≠ none) ∧
  (∀ G H', Mt.draw F left line = some G → FormX K C H' p lb ll G → Tp H H' → Stp lb ll H H' → Q .non H') ∧ (Mt.draw F left line = none → E (.ref Cfit) none H)
theorem scDraw : FnScope ["self", "left", "line"] ["self", "left", "line"] (defScope sDraw) := ⟨rfl, rfl, rfl, by decide +kernel, rfl, by decide +kernel, by decide +kernel⟩
theorem last_at {ls : List V} {fs : List Line} {K : PySem.W.Frag} {H : Hp} (h : Paired (Ln K H) ls fs) (hne : fs ≠ []) : ∃ v l, atI ls (-1) = some v ∧ fs.getLast? = some l ∧ Ln K H v l := by
  have hl : ls.length = fs.length := Paired.length h
  have h0 : 0 < fs.length := List.length_pos_iff.mpr hne
  have e1 : fs[fs.length - 1]? = some fs[fs.length - 1] := List.getElem?_eq_getElem (by omega)
  obtain ⟨v, h1, h2⟩ := paired_get h e1
  refine ⟨v, _, ?_, ?_, h2⟩
  · unfold atI ixN
    rw [if_neg (by decide), if_pos (by omega)]
    show ls[(-1 + (ls.length : Int)).toNat]? = some v
    rw [show (-1 + (ls.length : Int)).toNat = fs.length - 1 by omega]
    exact h1
  · rw [List.getLast?_eq_getElem?]
    exact e1
theorem ok_draw (T : Txt K mg) (TF : TF K mg C Cfit) (D : MDef K C "draw" "Form.draw" sDraw) (G : CFit P w K mg base Cfit) : MCal P w K mg base (CXo P w) 3 C "draw" ["self", "left", "line"] (spDraw K C Cfit) := by
  refine D.calX (k := 2) scDraw (fun _ _ _ _ _ _ us hl => match us, hl with | [_, _, _], _ => rfl) (fun vs H Q E h => ?_) (fun f cdv A outer s H vs Q E hr h => ?_)
  · obtain ⟨p, lb, ll, a, u, F, left, line, rfl, _⟩ := h
    rfl
  · obtain ⟨p, lb, ll, a, u, F, left, line, rfl, ⟨⟨dx, hp⟩, ⟨bs, hb, fb⟩, ⟨ls, hl, fl⟩, ne⟩, ha, hu, hn, hnb, hleft, kq, ke⟩ := h
    have hu' := hu
    obtain ⟨pu, us, uc, rfl, hpu, hus, huc⟩ := hu
    refine ⟨_, pss_cons (ps_if (PW.pt (pw_and (pt_truth (pe_fld (pv 0) rfl) (fun _ => rfl)) (pw_and1 (pt_cmpR (op_eqD hr.units) (pe_ix ix_list (pe_fld (pv 0) rfl) (pe_un un_neg pe_int) (fun _ _ => rfl)) (pv 2) (nomark _))))) (pss_one ps_retN) pss_nil)
      (pss_cons (ps_if (pt_cmpR op_eq (pe_callB call_len_seq (by rfl) T.len_ PySem.boot_len (pa_cons (pe_fld (pv 0) rfl) pa_nil)) (pe_gl T.mLines) (nomark _)) (pss_one (ps_raise TF.fit rfl TF.mgFit)) pss_nil)
      (pss_cons (ps_expr (pe_fn G hr (passO (E2 := E) fun _ _ _ z => z) (pa_cons (pe_ix ix_tup (pv 2) pe_int (fun _ _ => rfl)) (pa_cons (pe_gl T.mSlope) pa_nil))))
      (pss_cons (ps_expr (pe_fn G hr (passO (E2 := E) fun _ _ _ z => z) (pa_cons (pe_ix ix_tup (pv 2) pe_int (fun _ _ => rfl)) (pa_cons (pe_gl T.mElse) pa_nil))))
      (pss_cons (ps_if (pt_truth (pe_fld (pv 0) rfl) (fun _ => rfl))
        (pss_cons (ps_expr (pe_fn G hr (passO (E2 := E) fun _ _ _ z => z) (pa_cons (pv 1) (pa_cons (pe_gl T.mElse) pa_nil))))
        (pss_one (ps_expr (pe_bm PySem.F.plainAttrs_list PySem.F.slot_list_append PySem.F.type_list_append mt_append (pe_fld (pv 0) rfl) (pa_cons (pv 1) pa_nil))))) pss_nil)
      (pss_one (ps_expr (pe_bm PySem.F.plainAttrs_list PySem.F.slot_list_append PySem.F.type_list_append mt_append (pe_fld (pv 0) rfl) (pa_cons (pv 2) pa_nil)))))))), ?_⟩
    have hlen : ls.length = F.lines.length := Paired.length fl
    have hlenb : bs.length = F.breaks.length := Paired.length fb
    have fits32 : ls.length < sizeLine := Nat.lt_of_le_of_lt (by omega : ls.length ≤ 32) (by decide)
    have fits32b : bs.length < sizeLine := Nat.lt_of_le_of_lt (by omega : bs.length ≤ 32) (by decide)
    have npl : p ≠ ll := ne_of hp hl (by intro z; cases z)
    have npb : p ≠ lb := ne_of hp hb (by intro z; cases z)
    by_cases hne : F.lines = []
    · -- nothing is drawn yet
      have els : ls = [] := by
        rw [hne] at hlen
        exact List.length_eq_zero_iff.mp hlen
      subst els
      have ed : Mt.draw F left line = if Pl.small line.s 32767 = false then none else if Pl.small line.c 2147483647 = false then none else some ⟨F.breaks, F.lines ++ [line]⟩ := by
        unfold Mt.draw
        rw [if_neg (by rw [hne]; simp), if_neg (by rw [hne]; simp)]
        simp only [hne, if_true]
      refine ⟨_, rfl, p, C, dx, _, _, rfl, hp, TF.cl, TF.nL, ff_l lb ll, _, .inl ⟨[], SqL.of hl, rfl⟩, iteF (iteF ?_)⟩
      refine ⟨_, rfl, p, C, dx, _, _, rfl, hp, TF.cl, TF.nL, ff_l lb ll, ll, [], rfl, .inl (SqL.of hl), rfl, _, rfl, ?_⟩
      rw [decide_eq_false (by intro z; injection z with z; cases z)]
      refine iteF ⟨_, rfl, ⟨_, _, _, _, rfl, rfl, hpu, atI_nat (j := 0) rfl, ⟨_, line.s, 32767, rfl, hus, fun z1 => ?_, fun z1 => ke (by rw [ed, if_pos z1])⟩⟩⟩
      refine ⟨_, rfl, ⟨_, _, _, _, rfl, rfl, hpu, atI_nat (j := 1) rfl, ⟨_, line.c, 2147483647, rfl, huc, fun z2 => ?_, fun z2 => ke (by rw [ed, if_neg (by rw [z1]; simp), if_pos z2])⟩⟩⟩
      refine ⟨_, rfl, p, C, dx, _, _, rfl, hp, TF.cl, TF.nL, ff_l lb ll, _, .inl ⟨[], SqL.of hl, rfl⟩, iteF ?_⟩
      refine ⟨_, rfl, p, C, dx, _, _, rfl, hp, TF.cl, TF.nL, ff_l lb ll, .inl ⟨rfl, _, SqL.of hl⟩, _, rfl, ll, [], _, rfl, rfl, hl, fits32, ?_⟩
      have tp : Tp H (upd H ll (.lst ([] ++ [V.ref pu]))) := Tp.upd hl
      refine kq ⟨F.breaks, F.lines ++ [line]⟩ _ (by rw [ed, if_neg (by rw [z1]; simp), if_neg (by rw [z2]; simp)]) ⟨⟨dx, ?_⟩, ⟨bs, ?_, frs_mono tp fb⟩, ⟨_, upd_same, ?_⟩, ne⟩ tp fun b o e h1 h2 => ?_
      · rw [upd_ne npl]; exact hp
      · rw [upd_ne ne]; exact hb
      · exact paired_app (lns_mono tp fl) (.cons (hu'.mono tp) .nil)
      · rw [upd_ne h2]; exact e
    · obtain ⟨v, l0, e1, e2, e3⟩ := last_at fl hne
      have ens : (!ls.isEmpty) = true := by
        cases ls with
        | nil => rw [List.length_nil] at hlen; exact absurd (List.length_eq_zero_iff.mp hlen.symm) hne
        | cons _ _ => rfl
      obtain ⟨b0, rfl⟩ : ∃ b0, left = some b0 := by
        rcases hleft with z | z
        · exact absurd z hne
        · cases left with
          | none => exact absurd rfl z
          | some b0 => exact ⟨b0, rfl⟩
      have ha' : Fr K H a b0 := by
        rcases ha with ⟨z, _⟩ | ⟨q, z, hq⟩
        · cases z
        · cases z; exact hq
      refine ⟨_, rfl, p, C, dx, _, _, rfl, hp, TF.cl, TF.nL, ff_l lb ll, _, .inl ⟨ls, SqL.of hl, rfl⟩, ?_⟩
      rw [ens]
      refine iteT ⟨_, rfl, p, C, dx, _, _, rfl, hp, TF.cl, TF.nL, ff_l lb ll, _, rfl, ll, ls, _, v, rfl, rfl, SqL.of hl, e1, _, rfl, _, _, e3.dp, hu'.dp, shaped_l _, shaped_l _, _, rfl, ?_⟩
      rw [eqv_l]
      by_cases hsame : l0 = line
      · rw [decide_eq_true hsame]
        refine iteT ?_
        exact kq F H (by unfold Mt.draw; rw [if_pos (by rw [e2, hsame])]) ⟨⟨dx, hp⟩, ⟨bs, hb, fb⟩, ⟨ls, hl, fl⟩, ne⟩ (Tp.of (Same.refl H)) fun b o e _ _ => e
      · rw [decide_eq_false hsame]
        have ed : Mt.draw F (some b0) line = if F.lines.length = 32 then none else if Pl.small line.s 32767 = false then none else if Pl.small line.c 2147483647 = false then none else if Pl.small b0 2147483647 = false then none else some ⟨F.breaks ++ [b0], F.lines ++ [line]⟩ := by
          unfold Mt.draw
          rw [if_neg (by rw [e2]; intro z; exact hsame (Option.some.inj z))]
          simp only [hne, if_false]
        refine iteF ⟨_, rfl, p, C, dx, _, _, rfl, hp, TF.cl, TF.nL, ff_l lb ll, ll, ls, rfl, .inl (SqL.of hl), rfl, _, rfl, ?_⟩
        by_cases h32 : F.lines.length = 32
        · rw [decide_eq_true (by rw [hlen, h32]; rfl)]
          exact iteT (ke (by rw [ed, if_pos h32]))
        · rw [if_neg h32] at ed
          rw [decide_eq_false (by intro z; injection z with z; omega)]
          refine iteF ⟨_, rfl, ⟨_, _, _, _, rfl, rfl, hpu, atI_nat (j := 0) rfl, ⟨_, line.s, 32767, rfl, hus, fun z1 => ?_, fun z1 => ke (by rw [ed, if_pos z1])⟩⟩⟩
          refine ⟨_, rfl, ⟨_, _, _, _, rfl, rfl, hpu, atI_nat (j := 1) rfl, ⟨_, line.c, 2147483647, rfl, huc, fun z2 => ?_, fun z2 => ke (by rw [ed, if_neg (by rw [z1]; simp), if_pos z2])⟩⟩⟩
          refine ⟨_, rfl, p, C, dx, _, _, rfl, hp, TF.cl, TF.nL, ff_l lb ll, _, .inl ⟨ls, SqL.of hl, rfl⟩, ?_⟩
          rw [ens]
          refine iteT ⟨_, rfl, ⟨_, b0, 2147483647, rfl, ha', fun z3 => ?_, fun z3 => ke (by rw [ed, if_neg (by rw [z1]; simp), if_neg (by rw [z2]; simp), if_pos z3])⟩⟩
          refine ⟨_, rfl, p, C, dx, _, _, rfl, hp, TF.cl, TF.nB, ff_b lb ll, .inl ⟨rfl, _, SqL.of hb⟩, _, rfl, lb, bs, _, rfl, rfl, hb, fits32b, ?_⟩
          have tp1 : Tp H (upd H lb (.lst (bs ++ [a]))) := Tp.upd hb
          have hl1 : upd H lb (.lst (bs ++ [a])) ll = some (.lst ls) := by rw [upd_ne (fun z => ne z.symm)]; exact hl
          have hp1 : upd H lb (.lst (bs ++ [a])) p = some (.ins C dx (ff lb ll)) := by rw [upd_ne npb]; exact hp
          refine ⟨_, rfl, p, C, dx, _, _, rfl, hp1, TF.cl, TF.nL, ff_l lb ll, .inl ⟨rfl, _, SqL.of hl1⟩, _, rfl, ll, ls, _, rfl, rfl, hl1, fits32, ?_⟩
          have tp2 : Tp H (upd (upd H lb (.lst (bs ++ [a]))) ll (.lst (ls ++ [V.ref pu]))) := tp1.trans (Tp.upd hl1)
          refine kq ⟨F.breaks ++ [b0], F.lines ++ [line]⟩ _ (by rw [ed, if_neg (by rw [z1]; simp), if_neg (by rw [z2]; simp), if_neg (by rw [z3]; simp)]) ⟨⟨dx, ?_⟩, ⟨bs ++ [a], ?_, ?_⟩, ⟨_, upd_same, ?_⟩, ne⟩ tp2 fun b o e h1 h2 => ?_
          · rw [upd_ne npl]; exact hp1
          · rw [upd_ne ne, upd_same]
          · exact paired_app (frs_mono tp2 fb) (.cons (ha'.mono tp2) .nil)
          · exact paired_app (lns_mono tp2 fl) (.cons (hu'.mono tp2) .nil)
          · rw [upd_ne h2, upd_ne h1]; exact e
end
end SP
end
section
set_option Elab.async false
set_option linter.all false
set_option maxRecDepth 100000
set_option exponentiation.threshold 5000
namespace SP
open PySem PySem.Spec PyProof.Rows L2 Mt
open Pl (Line Fn)
section
variable {P : Program} {w : World} {K : PySem.W.Frag} {mg : Str → Option Value} {base : Heap} {C Cfit : Addr}
abbrev sLineAt : Stmt := inClass (top 26) 2
def spLineAt (K : PySem.W.Frag) (C : Addr) : Sp := fun vs H Q _ => ∃ v u l r x, vs = [v, u] ∧ Form K C H v (fnOf l r) ∧ Fr K H u x ∧ Bd 900 x ∧ (∀ p ∈ r, Bd 900 p.1) ∧ ∀ H' z, Same H H' → Ln K H' z (lineAt l r x) → Q z H'
abbrev CLineAt (P : Program) (w : World) (K : PySem.W.Frag) (mg : Str → Option Value) (base : Heap) (C : Addr) : Prop := MCal P w K mg base CX0 2 C "line_at" ["self", "place"] (spLineAt K C)
theorem scLineAt : FnScope ["self", "place", "k", "right"] ["self", "place"] (defScope sLineAt) := ⟨rfl, rfl, rfl, by decide +kernel, rfl, by decide +kernel, by decide +kernel⟩
theorem ok_lineAt (T : Txt K mg) (TF : TF K mg C Cfit) (D : MDef K C "line_at" "Form.line_at" sLineAt) (G : CBelow P w K mg base) : CLineAt P w K mg base C := by
  refine D.cal (k := 1) scLineAt (fun _ _ _ _ _ _ us hl => match us, hl with | [_, _], _ => rfl) (fun vs H Q E h => ?_) (fun f cdv A outer s H vs Q E hr h => ?_)
  · obtain ⟨v, u, l, r, x, rfl, _⟩ := h
    rfl
  · obtain ⟨v, u, l, r, x, rfl, hF, hu, bx, br, k⟩ := h
    obtain ⟨p, lb, ll, rfl, ⟨⟨dx, hp⟩, ⟨bs, hb, fb⟩, ⟨ls, hl, fl⟩, ne⟩⟩ := hF
    refine ⟨_, pss_cons (ps_for PassesOwn.never rfl (pi_enum rfl T.enum_ (pa_cons (pe_fld (pv 0) rfl) pa_nil)) (pg_tup rfl (pgs_cons (pg_name (i := 2) scLineAt.nd rfl (Or.inl rfl)) (pgs_cons (pg_name (i := 3) scLineAt.nd rfl (Or.inl rfl)) pgs_nil)))
        (pss_one (ps_if (pt_val (pe_fn G hr pass0 (pa_cons (pv 1) (pa_cons (pv 3) pa_nil)))) (pss_one (ps_ret (pe_ix ix_list (pe_fld (pv 0) rfl) (pv 2) (fun _ _ => rfl)))) pss_nil)))
      (pss_one (ps_ret (pe_ix ix_list (pe_fld (pv 0) rfl) (pe_un un_neg pe_int) (fun _ _ => rfl)))), ?_⟩
    refine ⟨_, rfl, p, C, dx, _, _, rfl, hp, TF.cl, TF.nB, ff_b lb ll, lb, bs, rfl, SqL.of hb, ?_⟩
    have hbl : bs.length = r.length := by
      have := Paired.length fb
      rw [this]
      simp [fnOf]
    refine for_enum (K := K) (a := lb) (xs := bs) (fun i σ H' => ∃ (v2 v3 : Option V) (l' : Line) (r' : List (Rat × Line)), σ = [some (.ref p), some u, v2, v3] ∧ Same H H' ∧ (fnOf l r).lines.drop i = (fnOf l' r').lines ∧ (fnOf l r).breaks.drop i = (fnOf l' r').breaks ∧ lineAt l r x = lineAt l' r' x)
      ⟨none, none, l, r, rfl, Same.refl H, rfl, rfl, rfl⟩ (fun i σ H' _ ⟨_, _, _, _, _, s1, _⟩ => SqL.of (s1 _ _ hb)) ?_ ?_
    · rintro i y σ H' t hy ⟨v2, v3, l', r', rfl, s1, d1, d2, d3⟩ ht
      obtain ⟨q, hq, hyq⟩ := paired_get' fb hy
      obtain ⟨p', r'', rfl⟩ : ∃ p' r'', r' = p' :: r'' := by
        cases r' with
        | nil =>
          have e := drop_end (show (fnOf l r).breaks.drop i = [] from d2)
          rw [e] at hq
          cases hq
        | cons p' r'' => exact ⟨p', r'', rfl⟩
      obtain ⟨a1, a2, _⟩ := drop_next (ys := r''.map fun z => z.1) d2
      obtain ⟨b1, b2, _⟩ := drop_next (ys := p'.2 :: r''.map fun z => z.2) d1
      have eq : p'.1 = q := by
        rw [a1] at hq
        exact Option.some.inj hq
      subst eq
      have bq : Bd 900 p'.1 := by
        have hm := List.mem_of_getElem? a1
        obtain ⟨z, hz, ez⟩ := List.mem_map.mp (show p'.1 ∈ r.map (fun z => z.1) from hm)
        rw [← ez]
        exact br z hz
      have s2 := s1.trans (Same.new (o := .tup [.int (i : Nat), y]) ht)
      refine ⟨t, _, rfl, SqT.of upd_same, rfl, _, _, rfl, _, _, rfl, rfl, ?_⟩
      refine ⟨_, rfl, _, rfl, u, y, x, p'.1, rfl, hu.mono (Tp.of s2), hyq.mono (Tp.of s2), bx, bq, _, rfl, ?_⟩
      by_cases hlt : x < p'.1
      · rw [decide_eq_true hlt]
        obtain ⟨lv, c1, c2⟩ := paired_get fl b1
        refine iteT ⟨_, rfl, p, C, dx, _, _, rfl, s2 _ _ hp, TF.cl, TF.nL, ff_l lb ll, _, rfl, ll, ls, _, lv, rfl, rfl, SqL.of (s2 _ _ hl), atI_nat c1, k _ _ s2 ?_⟩
        rw [d3, show lineAt l' (p' :: r'') x = l' from if_pos hlt]
        exact c2.mono (Tp.of s2)
      · rw [decide_eq_false hlt]
        refine iteF ⟨_, _, p'.2, r'', rfl, s2, b2, a2, ?_⟩
        rw [d3]
        exact if_neg hlt
    · rintro σ H' ⟨v2, v3, l', r', rfl, s1, d1, d2, d3⟩
      have er : r' = [] := by
        rw [hbl, List.drop_eq_nil_of_le (by simp [fnOf])] at d2
        cases r' with
        | nil => rfl
        | cons _ _ => cases d2
      subst er
      obtain ⟨lv, l0, e1, e2, e3⟩ := last_at fl (by simp [fnOf])
      refine ⟨_, rfl, p, C, dx, _, _, rfl, s1 _ _ hp, TF.cl, TF.nL, ff_l lb ll, _, rfl, ll, ls, _, lv, rfl, rfl, SqL.of (s1 _ _ hl), e1, k _ _ s1 ?_⟩
      have el : l0 = l' := by
        have h1 := (drop_next (ys := []) (show (fnOf l r).lines.drop bs.length = l' :: [] from d1)).1
        rw [List.getLast?_eq_getElem?, (fnOf_len l r).1, Nat.add_sub_cancel, ← hbl, h1] at e2
        exact (Option.some.inj e2).symm
      rw [d3]
      show Ln K H' lv l'
      rw [← el]
      exact e3.mono (Tp.of s1)
abbrev sRightEnd : Stmt := inClass (top 26) 3
def spRightEnd (K : PySem.W.Frag) (C : Addr) : Sp := fun vs H Q _ => ∃ (v : V) (k : Nat) (F : Fn), vs = [v, .int k] ∧ Form K C H v F ∧ ∀ z, OFr K H z F.breaks[k]? → Q z H
abbrev CRightEnd (P : Program) (w : World) (K : PySem.W.Frag) (mg : Str → Option Value) (base : Heap) (C : Addr) : Prop := MCal P w K mg base CX0 1 C "right_end" ["self", "k"] (spRightEnd K C)
theorem scRightEnd : FnScope ["self", "k"] ["self", "k"] (defScope sRightEnd) := ⟨rfl, rfl, rfl, by decide +kernel, rfl, by decide +kernel, by decide +kernel⟩
theorem ok_rightEnd (T : Txt K mg) (TF : TF K mg C Cfit) (D : MDef K C "right_end" "Form.right_end" sRightEnd) : CRightEnd P w K mg base C := by
  refine D.cal (k := 0) scRightEnd (fun _ _ _ _ _ _ us hl => match us, hl with | [_, _], _ => rfl) (fun vs H Q E h => ?_) (fun f cdv A outer s H vs Q E hr h => ?_)
  · obtain ⟨v, k, F, rfl, _⟩ := h
    rfl
  · obtain ⟨v, n, F, rfl, hF, k⟩ := h
    obtain ⟨p, lb, ll, rfl, ⟨⟨dx, hp⟩, ⟨bs, hb, fb⟩, ⟨ls, hl, fl⟩, ne⟩⟩ := hF
    refine ⟨_, pss_one (ps_ret (pe_ifExp (pt_cmpR op_lt (pv 1) (pe_callB call_len_seq (by rfl) T.len_ PySem.boot_len (pa_cons (pe_fld (pv 0) rfl) pa_nil)) (nomark _)) (pe_ix ix_list (pe_fld (pv 0) rfl) (pv 1) (fun _ _ => rfl)) pe_non)), ?_⟩
    have hlen : bs.length = F.breaks.length := Paired.length fb
    refine ⟨_, rfl, _, rfl, p, C, dx, _, _, rfl, hp, TF.cl, TF.nB, ff_b lb ll, lb, bs, rfl, .inl (SqL.of hb), _, _, rfl, rfl, _, rfl, ?_⟩
    refine ite2 (fun h => ?_) (fun h => ?_)
    · have hlt : n < F.breaks.length := by
        have := of_decide_eq_true h
        omega
      have e1 : F.breaks[n]? = some F.breaks[n] := List.getElem?_eq_getElem hlt
      obtain ⟨z, c1, c2⟩ := paired_get fb e1
      refine ⟨_, rfl, p, C, dx, _, _, rfl, hp, TF.cl, TF.nB, ff_b lb ll, _, rfl, lb, bs, _, z, rfl, rfl, SqL.of hb, atI_nat c1, k z ?_⟩
      rw [e1]
      exact c2.some
    · have hge : F.breaks.length ≤ n := by
        have : ¬ ((n : Int) < (bs.length : Int)) := fun z => h (decide_eq_true z)
        omega
      refine k _ ?_
      rw [List.getElem?_eq_none hge]
      exact ofr_none
/-- a piece: its ends, its line -/
def PcAt (K : PySem.W.Frag) (H : Hp) (v : V) (p : Option Rat × Option Rat × Line) : Prop := ∃ t a b c, v = .ref t ∧ SqT K H t [a, b, c] ∧ OFr K H a p.1 ∧ OFr K H b p.2.1 ∧ Ln K H c p.2.2
theorem PcAt.mono {H H' : Hp} {v : V} {p : Option Rat × Option Rat × Line} (t : Tp H H') (h : PcAt K H v p) : PcAt K H' v p := by
  obtain ⟨q, a, b, c, e, s, h1, h2, h3⟩ := h
  exact ⟨q, a, b, c, e, sqt t s, h1.mono t, h2.mono t, h3.mono t⟩
theorem rows_trip {H : Hp} {xs : List V} {as : List (Option Rat)} (pa : Paired (OFr K H) xs as) : ∀ {ts ys zs : List V} {bs : List (Option Rat)} {cs : List Line}, Paired (OFr K H) ys bs → Paired (Ln K H) zs cs → Rows H ts ((xs.zip (ys.zip zs)).map fun p => [p.1, p.2.1, p.2.2]) → Paired (PcAt K H) ts (as.zip (bs.zip cs)) := by
  induction pa with
  | nil =>
    intro ts ys zs bs cs _ _ R
    simp only [List.zip_nil_left, List.map_nil] at R ⊢
    cases R
    exact .nil
  | cons r t ih =>
    intro ts ys zs bs cs pb pc R
    cases pb with
    | nil =>
      simp only [List.zip_nil_left, List.zip_nil_right, List.map_nil] at R ⊢
      cases R
      exact .nil
    | cons r2 t2 =>
      cases pc with
      | nil =>
        simp only [List.zip_nil_right, List.map_nil] at R ⊢
        cases R
        exact .nil
      | cons r3 t3 =>
        simp only [List.zip_cons_cons, List.map_cons] at R ⊢
        cases R with
        | cons h hr =>
          obtain ⟨p, rfl, h⟩ := h
          exact .cons ⟨p, _, _, _, rfl, SqT.of h, r, r2, r3⟩ (ih t2 t3 hr)
abbrev sPieces : Stmt := inClass (top 26) 4
def spPieces (K : PySem.W.Frag) (C : Addr) : Sp := fun vs H Q _ => ∃ v l r, vs = [v] ∧ Form K C H v (fnOf l r) ∧ r.length ≤ 31 ∧ ∀ H' L ts, Same H H' → H L = none → H' L = some (.lst ts) → Paired (PcAt K H') ts (pieces none l r) → Q (.ref L) H'
abbrev CPieces (P : Program) (w : World) (K : PySem.W.Frag) (mg : Str → Option Value) (base : Heap) (C : Addr) : Prop := MCal P w K mg base CX0 1 C "pieces" ["self"] (spPieces K C)
theorem scPieces : FnScope ["self"] ["self"] (defScope sPieces) := ⟨rfl, rfl, rfl, by decide +kernel, rfl, by decide +kernel, by decide +kernel⟩
theorem ok_pieces (T : Txt K mg) (TF : TF K mg C Cfit) (D : MDef K C "pieces" "Form.pieces" sPieces) : CPieces P w K mg base C := by
  refine D.cal (k := 0) scPieces (fun _ _ _ _ _ _ us hl => match us, hl with | [_], _ => rfl) (fun vs H Q E h => ?_) (fun f cdv A outer s H vs Q E hr h => ?_)
  · obtain ⟨v, l, r, rfl, _⟩ := h
    rfl
  · obtain ⟨v, l, r, rfl, hF, hlen, k⟩ := h
    obtain ⟨p, lb, ll, rfl, ⟨⟨dx, hp⟩, ⟨bs, hb, fb⟩, ⟨ls, hl, fl⟩, ne⟩⟩ := hF
    have hbl : bs.length = r.length := by
      have := Paired.length fb
      rw [this]
      simp [fnOf]
    have hll : ls.length = r.length + 1 := by
      have := Paired.length fl
      rw [this]
      simp [fnOf]
    refine ⟨_, pss_one (ps_ret (pe_lzip3 rfl T.list_ T.zip_ (pa_cons (pe_op op_cat (pe_lst (pa_cons pe_non pa_nil)) (pe_fld (pv 0) rfl)) (pa_cons (pe_op op_cat (pe_fld (pv 0) rfl) (pe_lst (pa_cons pe_non pa_nil))) (pa_cons (pe_fld (pv 0) rfl) pa_nil))))), ?_⟩
    refine ⟨(by show 1 ≤ sizeLine; decide), fun p1 n1 => ⟨_, rfl, p, C, dx, _, _, rfl, (Same.new n1) _ _ hp, TF.cl, TF.nB, ff_b lb ll, p1, lb, [.non], bs, rfl, rfl, upd_same, (Same.new n1) _ _ hb, line1000 (by simp only [List.length_cons, List.length_nil]; omega), fun p2 n2 => ?_⟩⟩
    have s2 : Same H (upd (upd H p1 (.lst [.non])) p2 (.lst ([.non] ++ bs))) := (Same.new n1).trans (Same.new n2)
    refine ⟨_, rfl, p, C, dx, _, _, rfl, s2 _ _ hp, TF.cl, TF.nB, ff_b lb ll, (by show 1 ≤ sizeLine; decide), fun p3 n3 => ⟨lb, p3, bs, [.non], rfl, rfl, (Same.new n3) _ _ (s2 _ _ hb), upd_same, line1000 (by simp only [List.length_cons, List.length_nil]; omega), fun p4 n4 => ?_⟩⟩
    have s4 := (s2.trans (Same.new (o := .lst [.non]) n3)).trans (Same.new (o := .lst (bs ++ [.non])) n4)
    refine ⟨_, rfl, p, C, dx, _, _, rfl, s4 _ _ hp, TF.cl, TF.nL, ff_l lb ll, ?_⟩
    refine ⟨p2, p4, ll, [.non] ++ bs, bs ++ [.non], ls, rfl, SqL.of ((Same.new n4) _ _ ((Same.new n3) _ _ upd_same)), SqL.of upd_same, SqL.of (s4 _ _ hl), by simp [Nat.add_comm], by simp only [List.length_append, List.length_cons, List.length_nil]; omega, by simp, fun H2 L ts sm nL eL R => ?_⟩
    have s5 := s4.trans sm
    refine k H2 L ts s5 (s4.free nL) eL ?_
    rw [pieces_zip]
    have t5 := Tp.of s5
    have c2 : Paired (OFr K H2) bs (r.map fun p => some p.1) := by
      have := paired_map (R := Fr K H) (S := OFr K H2) (g := some) (fun v x h => (h.mono t5).some) fb
      simpa [fnOf, Function.comp_def] using this
    exact rows_trip (xs := [.non] ++ bs) (.cons ofr_none c2) (ys := bs ++ [.non]) (zs := ls) (paired_app c2 (.cons ofr_none .nil)) (lns_mono t5 fl) R
def ShAt (K : PySem.W.Frag) (H : Hp) (v : V) (p : Option Rat × Option Rat × Line × Line) : Prop := ∃ t a b c d, v = .ref t ∧ SqT K H t [a, b, c, d] ∧ OFr K H a p.1 ∧ OFr K H b p.2.1 ∧ Ln K H c p.2.2.1 ∧ Ln K H d p.2.2.2
theorem ShAt.mono {H H' : Hp} {v : V} {p : Option Rat × Option Rat × Line × Line} (t : Tp H H') (h : ShAt K H v p) : ShAt K H' v p := by
  obtain ⟨q, a, b, c, d, e, s, h1, h2, h3, h4⟩ := h
  exact ⟨q, a, b, c, d, e, sqt t s, h1.mono t, h2.mono t, h3.mono t, h4.mono t⟩
def spShared (K : PySem.W.Frag) (C : Addr) : Sp := fun vs H Q _ => ∃ v u l r m t, vs = [v, u] ∧ Form K C H v (fnOf l r) ∧ Form K C H u (fnOf m t) ∧ r.length ≤ 31 ∧ t.length ≤ 31 ∧ RB r ∧ RB t ∧
  ∀ H' L ts, Same H H' → H L = none → H' L = some (.lst ts) → Paired (ShAt K H') ts (shared none l r m t) → Q (.ref L) H'
abbrev CShared (P : Program) (w : World) (K : PySem.W.Frag) (mg : Str → Option Value) (base : Heap) (C : Addr) : Prop := Cal P w K mg base CX0 3 "shared_pieces" ["f", "g"] (spShared K C)
abbrev nShared : List Str := ["f", "g", "found", "i", "j", "left", "end_of_f", "end_of_g", "right"]
theorem scShared : FnScope nShared ["f", "g"] (defScope (top 27)) := ⟨rfl, rfl, rfl, by decide +kernel, rfl, by decide +kernel, by decide +kernel⟩
theorem rb_break {r : List (Rat × Line)} {l : Line} (h : RB r) (i : Nat) : OBd 900 (fnOf l r).breaks[i]? := fun x e => by
  obtain ⟨z, hz, ez⟩ := List.mem_map.mp (show x ∈ r.map (fun z => z.1) from List.mem_of_getElem? e)
  rw [← ez]
  exact bd_mono (h z hz).1 (by decide)
def ShInv (K : PySem.W.Frag) (H : Hp) (p q L : Addr) (l : Line) (r : List (Rat × Line)) (m : Line) (t : List (Rat × Line)) (i j : Nat) (σ : L2.St) (H' : Hp) : Prop :=
  ∃ (lv : V) (lo : Option Rat) (v6 v7 v8 : Option V) (ts : List V) (found : List (Option Rat × Option Rat × Line × Line)), σ = [some (.ref p), some (.ref q), some (.ref L), some (.int i), some (.int j), some lv, v6, v7, v8] ∧
    i ≤ (fnOf l r).lines.length ∧ j ≤ (fnOf m t).lines.length ∧ Same H H' ∧ H' L = some (.lst ts) ∧ Paired (ShAt K H') ts found ∧ OFr K H' lv lo ∧ (Walk l r m t i j lo found ∨ (i = (fnOf l r).lines.length ∧ found = shared none l r m t))
theorem ok_shared (T : Txt K mg) (TF : TF K mg C Cfit) (D : Def K mg "shared_pieces" (top 27)) (GR : CRightEnd P w K mg base C) (GN : Cal P w K mg base CX0 2 "nearer_end" ["a", "b"] (spNearer K)) : CShared P w K mg base C := by
  refine D.cal (k := 2) scShared (fun _ _ _ _ _ _ us hl => match us, hl with | [_, _], _ => rfl) (fun vs H Q E h => ?_) (fun f cdv A outer s H vs Q E hr h => ?_)
  · obtain ⟨v, u, l, r, m, t, rfl, _⟩ := h
    rfl
  · obtain ⟨v, u, l, r, m, t, rfl, hf, hg, hlr, hlt, br, bt, k⟩ := h
    have hf' := hf
    have hg' := hg
    obtain ⟨p, lb, ll, rfl, ⟨⟨dx, hp⟩, ⟨bs, hb, fb⟩, ⟨ls, hl, fl⟩, ne⟩⟩ := hf
    obtain ⟨q, mb, ml, rfl, ⟨⟨dy, hq⟩, ⟨cs, hc, fc⟩, ⟨ms, hm, fm⟩, ne2⟩⟩ := hg
    have hr1 : Room 1 _ := hr.mono (by decide)
    refine ⟨_, pss_cons (ps_set (i := 2) scShared.nd rfl (Or.inl rfl) (pe_lst pa_nil)) (pss_cons (ps_set (i := 3) scShared.nd rfl (Or.inl rfl) pe_int) (pss_cons (ps_set (i := 4) scShared.nd rfl (Or.inl rfl) pe_int) (pss_cons (ps_set (i := 5) scShared.nd rfl (Or.inl rfl) pe_non)
      (pss_cons (ps_while PassesOwn.never (PW.pt (pw_and (pt_cmpR op_lt (pv 3) (pe_callB call_len_seq (by rfl) T.len_ PySem.boot_len (pa_cons (pe_fld (pv 0) rfl) pa_nil)) (nomark _)) (pw_and1 (pt_cmpR op_lt (pv 4) (pe_callB call_len_seq (by rfl) T.len_ PySem.boot_len (pa_cons (pe_fld (pv 1) rfl) pa_nil)) (nomark _)))))
        (pss_cons (ps_set (i := 6) scShared.nd rfl (Or.inl rfl) (pe_mth GR TF.cl hr1 pass0 (pv 0) (pa_cons (pv 3) pa_nil)))
        (pss_cons (ps_set (i := 7) scShared.nd rfl (Or.inl rfl) (pe_mth GR TF.cl hr1 pass0 (pv 1) (pa_cons (pv 4) pa_nil)))
        (pss_cons (ps_set (i := 8) scShared.nd rfl (Or.inl rfl) (pe_fn GN hr pass0 (pa_cons (pv 6) (pa_cons (pv 7) pa_nil))))
        (pss_cons (ps_expr (pe_bm PySem.F.plainAttrs_list PySem.F.slot_list_append PySem.F.type_list_append mt_append (pv 2) (pa_cons (pe_tup (pa_cons (pv 5) (pa_cons (pv 8) (pa_cons (pe_ix ix_list (pe_fld (pv 0) rfl) (pv 3) (fun _ _ => rfl)) (pa_cons (pe_ix ix_list (pe_fld (pv 1) rfl) (pv 4) (fun _ _ => rfl)) pa_nil))))) pa_nil)))
        (pss_cons (ps_if (pt_cmpR (op_eqD hr.units) (pv 6) (pv 8) (nomark _)) (pss_one (ps_aug (i := 3) scShared.nd rfl (Or.inl rfl) pe_int ip_add)) pss_nil)
        (pss_cons (ps_if (pt_cmpR (op_eqD hr.units) (pv 7) (pv 8) (nomark _)) (pss_one (ps_aug (i := 4) scShared.nd rfl (Or.inl rfl) pe_int ip_add)) pss_nil)
        (pss_one (ps_set (i := 5) scShared.nd rfl (Or.inl rfl) (pv 8))))))))))
      (pss_one (ps_ret (pv 2))))))), ?_⟩
    refine ⟨Nat.zero_le _, fun L nL => ?_⟩
    have hlf : ls.length = (fnOf l r).lines.length := Paired.length fl
    have hlg : ms.length = (fnOf m t).lines.length := Paired.length fm
    -- the loop's word
    refine ⟨fun μ σ H' => ∃ i j : Nat, μ = ((fnOf l r).lines.length + (fnOf m t).lines.length) - (i + j) ∧ ShInv K H p q L l r m t i j σ H',
      ⟨_, 0, 0, rfl, .non, none, none, none, none, [], [], rfl, Nat.zero_le _, Nat.zero_le _, Same.new nL, upd_same, .nil, ofr_none, .inl (walk_start l r m t)⟩, ?_⟩
    rintro μ σ H' ⟨i, j, rfl, lv, lo, v6, v7, v8, ts, found, rfl, hi, hj, s1, eL, pf, hlo, hw⟩
    refine ⟨_, rfl, _, rfl, p, C, dx, _, _, rfl, s1 _ _ hp, TF.cl, TF.nL, ff_l lb ll, ll, ls, rfl, .inl (SqL.of (s1 _ _ hl)), _, _, rfl, rfl, _, rfl, ?_⟩
    rcases hw with hw | ⟨ei, ef⟩
    · obtain ⟨l1, m1, ci, cj, el1, em1, step⟩ := walk_step hw
      rw [decide_eq_true (by rw [hlf]; exact Int.ofNat_lt.mpr ci)]
      refine iteT ⟨_, rfl, _, rfl, q, C, dy, _, _, rfl, s1 _ _ hq, TF.cl, TF.nL, ff_l mb ml, ml, ms, rfl, .inl (SqL.of (s1 _ _ hm)), _, _, rfl, rfl, _, rfl, ?_⟩
      rw [decide_eq_true (by rw [hlg]; exact Int.ofNat_lt.mpr cj)]
      refine iteT ⟨fun σ' H2 => ∃ i' j' : Nat, i + j < i' + j' ∧ ShInv K H p q L l r m t i' j' σ' H2, ?_, ?_⟩
      · rintro σ' H2 ⟨i', j', hlt', sh⟩
        have sh' := sh
        obtain ⟨_, _, _, _, _, _, _, _, a1, a2, _⟩ := sh'
        exact ⟨_, by omega, i', j', rfl, sh⟩
      · -- the turn
        refine ⟨_, rfl, p, dx, _, rfl, s1 _ _ hp, ff_no lb ll (by decide +kernel) (by decide +kernel), _, rfl, _, i, fnOf l r, rfl, hf'.mono s1, fun z6 o6 => ?_⟩
        refine ⟨_, rfl, q, dy, _, rfl, s1 _ _ hq, ff_no mb ml (by decide +kernel) (by decide +kernel), _, rfl, _, j, fnOf m t, rfl, hg'.mono s1, fun z7 o7 => ?_⟩
        refine ⟨_, rfl, _, rfl, z6, z7, _, _, rfl, o6, o7, rb_break br i, rb_break bt j, fun z8 o8 => ?_⟩
        obtain ⟨c1, d1, d2⟩ := paired_get fl el1
        obtain ⟨c2, d3, d4⟩ := paired_get fm em1
        obtain ⟨⟨b1, b2, b3, b4, b5⟩, blen, nextw⟩ := step _ _ _ _ _ rfl rfl rfl rfl rfl
        have hlts : ts.length = found.length := Paired.length pf
        have hshare := shared_length none l r m t
        refine ⟨_, rfl, .inl ⟨rfl, _, SqL.of eL⟩, ?_⟩
        refine ⟨_, rfl, _, rfl, _, rfl, p, C, dx, _, _, rfl, s1 _ _ hp, TF.cl, TF.nL, ff_l lb ll, _, rfl, ll, ls, _, c1, rfl, rfl, SqL.of (s1 _ _ hl), atI_nat d1, ?_⟩
        refine ⟨_, rfl, q, C, dy, _, _, rfl, s1 _ _ hq, TF.cl, TF.nL, ff_l mb ml, _, rfl, ml, ms, _, c2, rfl, rfl, SqL.of (s1 _ _ hm), atI_nat d3, (by show 4 ≤ sizeLine; decide), fun tt ntt => ?_⟩
        have eL2 : upd H' tt (.tup [lv, z8, c1, c2]) L = some (.lst ts) := (Same.new ntt) _ _ eL
        refine ⟨L, ts, _, rfl, rfl, eL2, Nat.lt_of_le_of_lt (show ts.length ≤ 1000 by rw [List.length_append] at blen; omega) (by decide), ?_⟩
        have tpA : Tp H' (upd H' tt (.tup [lv, z8, c1, c2])) := Tp.of (Same.new ntt)
        have tpB : Tp (upd H' tt (.tup [lv, z8, c1, c2])) (upd (upd H' tt (.tup [lv, z8, c1, c2])) L (.lst (ts ++ [V.ref tt]))) := Tp.upd eL2
        have tp := tpA.trans tpB
        have s2 : Same H (upd (upd H' tt (.tup [lv, z8, c1, c2])) L (.lst (ts ++ [V.ref tt]))) := fun b o e => by
          rw [upd_ne (ne_of_none e nL)]
          exact (Same.new ntt) _ _ (s1 _ _ e)
        have ett : upd (upd H' tt (.tup [lv, z8, c1, c2])) L (.lst (ts ++ [V.ref tt])) tt = some (.tup [lv, z8, c1, c2]) := tpB.1 _ _ upd_same
        have pf2 : Paired (ShAt K (upd (upd H' tt (.tup [lv, z8, c1, c2])) L (.lst (ts ++ [V.ref tt])))) (ts ++ [V.ref tt]) (found ++ [(lo, nearer (fnOf l r).breaks[i]? (fnOf m t).breaks[j]?, l1, m1)]) :=
          paired_app (Paired.mapP pf fun _ _ z => z.mono tp) (.cons ⟨tt, lv, z8, c1, c2, rfl, SqT.of ett, hlo.mono tp, o8.mono tp, d2.mono ((Tp.of s1).trans tp), d4.mono ((Tp.of s1).trans tp)⟩ .nil)
        have fin : ∀ i' j' : Nat, i' = (if (fnOf l r).breaks[i]? = nearer (fnOf l r).breaks[i]? (fnOf m t).breaks[j]? then i + 1 else i) → j' = (if (fnOf m t).breaks[j]? = nearer (fnOf l r).breaks[i]? (fnOf m t).breaks[j]? then j + 1 else j) →
            ∃ i'' j'' : Nat, i + j < i'' + j'' ∧ ShInv K H p q L l r m t i'' j'' [some (V.ref p), some (.ref q), some (.ref L), some (.int i'), some (.int j'), some z8, some z6, some z7, some z8] (upd (upd H' tt (.tup [lv, z8, c1, c2])) L (.lst (ts ++ [V.ref tt]))) := fun i' j' e1 e2 => by
          subst e1 e2
          exact ⟨_, _, b3, z8, _, _, _, _, _, _, rfl, b4, b5, s2, upd_same, pf2, o8.mono tp, nextw⟩
        refine ⟨_, rfl, _, rfl, _, _, (o6.mono tp).dp, (o8.mono tp).dp, shaped_o _, shaped_o _, _, rfl, ?_⟩
        rw [eqv_o]
        by_cases h6 : (fnOf l r).breaks[i]? = nearer (fnOf l r).breaks[i]? (fnOf m t).breaks[j]?
        · rw [decide_eq_true h6]
          refine iteT ⟨_, rfl, _, _, rfl, rfl, ?_⟩
          refine ⟨_, rfl, _, rfl, _, _, (o7.mono tp).dp, (o8.mono tp).dp, shaped_o _, shaped_o _, _, rfl, ?_⟩
          rw [eqv_o]
          by_cases h7 : (fnOf m t).breaks[j]? = nearer (fnOf l r).breaks[i]? (fnOf m t).breaks[j]?
          · rw [decide_eq_true h7]
            exact iteT ⟨_, rfl, _, _, rfl, rfl, _, rfl, fin (i + 1) (j + 1) (if_pos h6).symm (if_pos h7).symm⟩
          · rw [decide_eq_false h7]
            exact iteF ⟨_, rfl, fin (i + 1) j (if_pos h6).symm (if_neg h7).symm⟩
        · rw [decide_eq_false h6]
          refine iteF ⟨_, rfl, _, rfl, _, _, (o7.mono tp).dp, (o8.mono tp).dp, shaped_o _, shaped_o _, _, rfl, ?_⟩
          rw [eqv_o]
          by_cases h7 : (fnOf m t).breaks[j]? = nearer (fnOf l r).breaks[i]? (fnOf m t).breaks[j]?
          · rw [decide_eq_true h7]
            exact iteT ⟨_, rfl, _, _, rfl, rfl, _, rfl, fin i (j + 1) (if_neg h6).symm (if_pos h7).symm⟩
          · rw [decide_eq_false h7]
            exact iteF ⟨_, rfl, fin i j (if_neg h6).symm (if_neg h7).symm⟩
    · rw [decide_eq_false (by rw [hlf, ei]; exact Int.lt_irrefl _)]
      refine iteF (iteF ⟨_, rfl, ?_⟩)
      subst ef
      exact k H' L ts s1 nL eL pf
end
end SP
end
section
set_option Elab.async false
set_option linter.all false
set_option maxRecDepth 100000
set_option exponentiation.threshold 5000
namespace SP
open PySem PySem.Spec PyProof.Rows L2 Mt
open Pl (Line Fn)
section
variable {P : Program} {w : World} {K : PySem.W.Frag} {mg : Str → Option Value} {base : Heap} {C Cfit : Addr}
abbrev CForm (P : Program) (w : World) (K : PySem.W.Frag) (mg : Str → Option Value) (base : Heap) (C : Addr) : Prop := CCal P w K mg base CX0 1 "Form" C (spInitF K C)
abbrev CDraw (P : Program) (w : World) (K : PySem.W.Frag) (mg : Str → Option Value) (base : Heap) (C Cfit : Addr) : Prop := MCal P w K mg base (CXo P w) 3 C "draw" ["self", "left", "line"] (spDraw K C Cfit)
/-- a new Form -/
theorem make_form {i : Nat} {rest : TS} {D : Ends} {σ : L2.St} {H : Hp} (k : ∀ H' p lb ll, Same H H' → H p = none → H lb = none → H ll = none → FormX K C H' p lb ll noFn → rest D (σ.set i (some (.ref p))) H') : tSeq (tAsg (tMake C (spInitF K C) [] E0 tNil) (gName i)) rest D σ H := by
  intro x dx nx ndx ne
  refine ⟨x, dx, rfl, upd_same, fun H' lb ll nb nl hF kp => ⟨rfl, ?_⟩⟩
  have far : ∀ b, (upd (upd H dx (.own x)) x (.ins C dx [])) b = none → H b = none := fun b e => by
    have h1 : b ≠ x := fun z => by rw [z, upd_same] at e; cases e
    have h2 : b ≠ dx := fun z => by rw [z, upd_ne ne, upd_same] at e; cases e
    rw [upd_ne h1, upd_ne h2] at e
    exact e
  exact k H' x lb ll (Same.made nx ndx kp) nx (far lb nb) (far ll nl) hF
/-- what is drawn so far: pre; H1 the heap with the new Form, H0 the heap at the call -/
structure Dr (K : PySem.W.Frag) (C : Addr) (H1 : Hp) (p lb ll : Addr) (pre : List (Option Rat × Line)) (H' : Hp) : Prop where
  g : ∃ g, drawAll noFn pre = some g ∧ FormX K C H' p lb ll g
  tp : Tp H1 H'
  stp : Stp lb ll H1 H'
theorem Dr.same {H1 H' H2 : Hp} {p lb ll : Addr} {pre : List (Option Rat × Line)} (d : Dr K C H1 p lb ll pre H') (s : Same H' H2) : Dr K C H1 p lb ll pre H2 := by
  obtain ⟨⟨g, h1, h2⟩, tp, st⟩ := d
  exact ⟨⟨g, h1, h2.mono s⟩, tp.trans (Tp.of s), fun b o e n1 n2 => s b o (st b o e n1 n2)⟩
theorem Dr.start {H1 : Hp} {p lb ll : Addr} (h : FormX K C H1 p lb ll noFn) : Dr K C H1 p lb ll [] H1 := ⟨⟨noFn, rfl, h⟩, Tp.of (Same.refl _), fun b o e _ _ => e⟩
theorem Dr.entry {H0 H1 H' : Hp} {p lb ll : Addr} {pre : List (Option Rat × Line)} (d : Dr K C H1 p lb ll pre H') (s : Same H0 H1) (nb : H0 lb = none) (nl : H0 ll = none) : Same H0 H' := fun b o e => d.stp b o (s b o e) (ne_of_none e nb) (ne_of_none e nl)
theorem Dr.next {H1 H' : Hp} {p lb ll : Addr} {pre post D : List (Option Rat × Line)} {left : Option Rat} {line : Line} (d : Dr K C H1 p lb ll pre H') (hD : pre ++ (left, line) :: post = D) (hh : Headed D) :
    ∃ g, FormX K C H' p lb ll g ∧ g.lines.length ≤ 32 ∧ g.breaks.length ≤ 32 ∧ (g.lines = [] ∨ left ≠ none) ∧ (∀ G H3, Mt.draw g left line = some G → FormX K C H3 p lb ll G → Tp H' H3 → Stp lb ll H' H3 → Dr K C H1 p lb ll (pre ++ [(left, line)]) H3) ∧ (Mt.draw g left line = none → drawAll noFn D = none) := by
  obtain ⟨⟨g, h1, h2⟩, tp, st⟩ := d
  obtain ⟨l1, l2⟩ := drawAll_len h1 (by show 0 ≤ 32; decide) (Nat.le_refl _)
  have hsn := drawAll_snoc h1 (left, line)
  refine ⟨g, h2, l1, by omega, ?_, fun G H3 e1 e2 e3 e4 => ?_, fun e => ?_⟩
  · rcases headed_split hh hD with z | z
    · subst z
      cases h1
      exact .inl rfl
    · exact .inr z
  · exact ⟨⟨G, by rw [hsn]; exact e1, e2⟩, tp.trans e3, fun b o e n1 n2 => e4 b o (st b o e n1 n2) n1 n2⟩
  · rw [← hD, show pre ++ (left, line) :: post = (pre ++ [(left, line)]) ++ post by simp]
    exact drawAll_stop (by rw [hsn]; exact e)
/-- how a function that makes a Form ends -/
def Outc (K : PySem.W.Frag) (C Cfit : Addr) (H : Hp) (res : Option Fn) (Q : VK) (E : XK) : Prop :=
  (∀ H' v G, res = some G → Same H H' → Form K C H' v G → Q v H') ∧ (res = none → ∀ H', Same H H' → E (.ref Cfit) none H')
theorem Dr.done {H0 H1 H' : Hp} {p lb ll : Addr} {D : List (Option Rat × Line)} {res : Option Fn} {Q : VK} {E : XK} (d : Dr K C H1 p lb ll D H') (s : Same H0 H1) (nb : H0 lb = none) (nl : H0 ll = none) (e : drawAll noFn D = res) (k : Outc K C Cfit H0 res Q E) : Q (.ref p) H' := by
  have sm := d.entry s nb nl
  obtain ⟨⟨g, h1, h2⟩, _, _⟩ := d
  exact k.1 H' _ g (by rw [← e]; exact h1) sm ⟨p, lb, ll, rfl, h2⟩
theorem drawn_kept {H1 H' : Hp} {p lb ll L : Addr} {pre : List (Option Rat × Line)} {ts : List V} (d : Dr K C H1 p lb ll pre H') (e : H1 L = some (.lst ts)) (n1 : L ≠ lb) (n2 : L ≠ ll) : H' L = some (.lst ts) := d.stp L _ e n1 n2
def spSingle (K : PySem.W.Frag) (C Cfit : Addr) : Sp := fun vs H Q E => ∃ a b x y, vs = [a, b] ∧ Fr K H a x ∧ Fr K H b y ∧ Outc K C Cfit H (fitted ⟨[], [⟨x, y⟩]⟩) Q E
abbrev CSingle (P : Program) (w : World) (K : PySem.W.Frag) (mg : Str → Option Value) (base : Heap) (C Cfit : Addr) : Prop := Cal P w K mg base (CXo P w) 4 "single_line" ["slope", "constant"] (spSingle K C Cfit)
theorem scSingle : FnScope ["slope", "constant", "made"] ["slope", "constant"] (defScope (top 47)) := ⟨rfl, rfl, rfl, by decide +kernel, rfl, by decide +kernel, by decide +kernel⟩
theorem ok_single (TF : TF K mg C Cfit) (D : Def K mg "single_line" (top 47)) (GF : CForm P w K mg base C) (GD : CDraw P w K mg base C Cfit) : CSingle P w K mg base C Cfit := by
  refine D.calX (k := 3) scSingle (fun _ _ _ _ _ _ us hl => match us, hl with | [_, _], _ => rfl) (fun vs H Q E h => ?_) (fun f cdv A outer s H vs Q E hr h => ?_)
  · obtain ⟨a, b, x, y, rfl, _⟩ := h
    rfl
  · obtain ⟨a, b, x, y, rfl, ha, hb, k⟩ := h
    refine ⟨_, pss_cons (ps_set (i := 2) scSingle.nd rfl (Or.inl rfl) (pe_new GF (hr.mono (by decide)) pass0))
      (pss_cons (ps_expr (pe_mth GD TF.cl hr (passO (E2 := E) fun _ _ _ z => z) (pv 2) (pa_cons pe_non (pa_cons (pe_tup (pa_cons (pv 0) (pa_cons (pv 1) pa_nil))) pa_nil))))
      (pss_one (ps_ret (pv 2)))), ?_⟩
    refine make_form fun H1 p lb ll s1 np nb nl hF => ?_
    obtain ⟨dx, hp⟩ := hF.ins
    refine ⟨_, rfl, p, dx, _, rfl, hp, ff_no lb ll (by decide +kernel) (by decide +kernel), _, rfl, _, rfl, two_le, fun t nt => ?_⟩
    have s2 : Same H1 (upd H1 t (.tup [a, b])) := Same.new nt
    have hD : drawAll noFn [(none, (⟨x, y⟩ : Line))] = fitted ⟨[], [⟨x, y⟩]⟩ := (drawAll_new none ⟨x, y⟩ [])
    obtain ⟨g0, q1, q2, q3, q4, q5, q6⟩ := ((Dr.start hF).same s2).next (post := []) (D := [(none, (⟨x, y⟩ : Line))]) rfl (headed_ties ⟨x, y⟩ none [])
    refine ⟨p, lb, ll, _, _, g0, none, ⟨x, y⟩, rfl, q1, ofr_none, ⟨t, a, b, rfl, SqT.of upd_same, ha.mono (Tp.of (s1.trans s2)), hb.mono (Tp.of (s1.trans s2))⟩, q2, q3, q4, fun G H3 e1 e2 e3 e4 => ?_, fun e => k.2 (by rw [← hD]; exact q6 e) _ (s1.trans s2)⟩
    exact ⟨_, rfl, (q5 G H3 e1 e2 e3 e4).done s1 nb nl hD k⟩
def spTwo (K : PySem.W.Frag) (C Cfit : Addr) (res : Fn → Fn → Fn) : Sp := fun vs H Q E => ∃ v u F G, vs = [v, u] ∧ Form K C H v F ∧ Form K C H u G ∧ Fit F ∧ Fit G ∧ Outc K C Cfit H (fitted (res F G)) Q E
abbrev CTotal (P : Program) (w : World) (K : PySem.W.Frag) (mg : Str → Option Value) (base : Heap) (C Cfit : Addr) : Prop := Cal P w K mg base (CXo P w) 5 "total" ["f", "g"] (spTwo K C Cfit Pl.add)
abbrev nTotal : List Str := ["f", "g", "made", "left", "right", "line_of_f", "line_of_g"]
theorem scTotal : FnScope nTotal ["f", "g"] (defScope (top 48)) := ⟨rfl, rfl, rfl, by decide +kernel, rfl, by decide +kernel, by decide +kernel⟩
theorem ok_total (TF : TF K mg C Cfit) (D : Def K mg "total" (top 48)) (GF : CForm P w K mg base C) (GD : CDraw P w K mg base C Cfit) (GS : CShared P w K mg base C) (GL : CSum P w K mg base) : CTotal P w K mg base C Cfit := by
  refine D.calX (k := 4) scTotal (fun _ _ _ _ _ _ us hl => match us, hl with | [_, _], _ => rfl) (fun vs H Q E h => ?_) (fun f cdv A outer s H vs Q E hr h => ?_)
  · obtain ⟨v, u, F, G, rfl, _⟩ := h
    rfl
  · obtain ⟨v, u, F, G, rfl, hf, hg, ff, fg, k⟩ := h
    obtain ⟨l, r, rfl, c, nr, bl_, br⟩ := ff.parts
    obtain ⟨m, t, rfl, d, nt, bm, bt⟩ := fg.parts
    have hr3 : Room 3 _ := hr.mono (by decide)
    refine ⟨_, pss_cons (ps_set (i := 2) scTotal.nd rfl (Or.inl rfl) (pe_new GF (hr.mono (by decide)) pass0))
      (pss_cons (ps_for PassesOwn.leaving rfl (pi_list (pe_fn GS hr3 pass0 (pa_cons (pv 0) (pa_cons (pv 1) pa_nil)))) (pg_tup rfl (pgs_cons (pg_name (i := 3) scTotal.nd rfl (Or.inl rfl)) (pgs_cons (pg_name (i := 4) scTotal.nd rfl (Or.inl rfl)) (pgs_cons (pg_name (i := 5) scTotal.nd rfl (Or.inl rfl)) (pgs_cons (pg_name (i := 6) scTotal.nd rfl (Or.inl rfl)) pgs_nil)))))
        (pss_one (ps_expr (pe_mth GD TF.cl hr3 (passO (E2 := E) fun _ _ _ z => z) (pv 2) (pa_cons (pv 3) (pa_cons (pe_fn GL hr pass0 (pa_cons (pv 5) (pa_cons (pv 6) pa_nil))) pa_nil))))))
      (pss_one (ps_ret (pv 2)))), ?_⟩
    have hdr := add_drawn c d
    have hhd : Headed (addDraws l r m t) := (add_cov c d).headed
    refine make_form fun H1 p lb ll s1 np nb nl hF => ?_
    refine ⟨_, rfl, _, rfl, v, u, l, r, m, t, rfl, hf.mono s1, hg.mono s1, nr, nt, br, bt, fun H2 L ts s2 nL eL pt => ?_⟩
    have nLb : L ≠ lb := fun z => by obtain ⟨bs, e, _⟩ := hF.hb; rw [z, e] at nL; cases nL
    have nLl : L ≠ ll := fun z => by obtain ⟨bs, e, _⟩ := hF.hl; rw [z, e] at nL; cases nL
    refine ⟨L, rfl, ⟨_, SqL.of eL⟩, for_list (K := K) (a := L) (xs := ts) (fun i σ H' => ∃ x3 x4 x5 x6 : Option V, σ = [some v, some u, some (.ref p), x3, x4, x5, x6] ∧ Dr K C H2 p lb ll (((shared none l r m t).take i).flatMap fun q => [(q.1, sumLine q.2.2.1 q.2.2.2)]) H')
      ⟨none, none, none, none, rfl, Dr.start (hF.mono s2)⟩ (fun i σ H' _ ⟨_, _, _, _, _, dr⟩ => SqL.of (drawn_kept dr eL nLb nLl)) ?_ ?_⟩
    · rintro i y σ H' hy ⟨x3, x4, x5, x6, rfl, dr⟩
      obtain ⟨q, hq, hyq⟩ := paired_get' pt hy
      obtain ⟨tq, va, vb, vc, vd, rfl, sq, oa, ob, lc, ld⟩ := hyq.mono dr.tp
      obtain ⟨_, _, b1, b2⟩ := shared_bd none l r m t ob_none bl_ br bm bt q (List.mem_of_getElem? hq)
      refine ⟨tq, _, rfl, sq, rfl, _, _, rfl, _, _, rfl, _, _, rfl, _, _, rfl, rfl, ?_⟩
      obtain ⟨g, _, hFg⟩ := dr.g
      obtain ⟨dx, hp⟩ := hFg.ins
      refine ⟨_, rfl, p, dx, _, rfl, hp, ff_no lb ll (by decide +kernel) (by decide +kernel), _, rfl, _, rfl, _, rfl, vc, vd, q.2.2.1, q.2.2.2, rfl, lc, ld, LW.of b1, LW.of b2, fun H3 w3 s3 l3 => ?_⟩
      obtain ⟨f1, f2⟩ := flat_at (d := fun (q : Option Rat × Option Rat × Line × Line) => [(q.1, sumLine q.2.2.1 q.2.2.2)]) hq
      obtain ⟨g0, q1, q2, q3, q4, q5, q6⟩ := (dr.same s3).next (D := addDraws l r m t) f1.symm hhd
      refine ⟨p, lb, ll, va, w3, g0, _, _, rfl, q1, oa.mono (Tp.of s3), l3, q2, q3, q4, fun G4 H4 e1 e2 e3 e4 => ⟨_, _, _, _, rfl, ?_⟩, fun e => k.2 (by rw [← hdr]; exact q6 e) _ ((dr.same s3).entry (s1.trans s2) nb nl)⟩
      rw [f2]
      exact q5 G4 H4 e1 e2 e3 e4
    · rintro σ H' ⟨x3, x4, x5, x6, rfl, dr⟩
      rw [show ts.length = (shared none l r m t).length from Paired.length pt, List.take_length] at dr
      exact ⟨_, rfl, dr.done (s1.trans s2) nb nl hdr k⟩
def spScale (K : PySem.W.Frag) (C Cfit : Addr) : Sp := fun vs H Q E => ∃ v u F x, vs = [v, u] ∧ Form K C H v F ∧ Fr K H u x ∧ Fit F ∧ Bd 500 x ∧ Outc K C Cfit H (fitted (Pl.scale x F)) Q E
abbrev CMultiple (P : Program) (w : World) (K : PySem.W.Frag) (mg : Str → Option Value) (base : Heap) (C Cfit : Addr) : Prop := Cal P w K mg base (CXo P w) 5 "multiple" ["f", "factor"] (spScale K C Cfit)
abbrev nMultiple : List Str := ["f", "factor", "made", "left", "right", "line"]
theorem scMultiple : FnScope nMultiple ["f", "factor"] (defScope (top 49)) := ⟨rfl, rfl, rfl, by decide +kernel, rfl, by decide +kernel, by decide +kernel⟩
theorem ok_multiple (TF : TF K mg C Cfit) (D : Def K mg "multiple" (top 49)) (GF : CForm P w K mg base C) (GD : CDraw P w K mg base C Cfit) (GP : CPieces P w K mg base C) (GL : CMulL P w K mg base) : CMultiple P w K mg base C Cfit := by
  refine D.calX (k := 4) scMultiple (fun _ _ _ _ _ _ us hl => match us, hl with | [_, _], _ => rfl) (fun vs H Q E h => ?_) (fun f cdv A outer s H vs Q E hr h => ?_)
  · obtain ⟨v, u, F, x, rfl, _⟩ := h
    rfl
  · obtain ⟨v, u, F, x, rfl, hf, hu, ff, bx, k⟩ := h
    obtain ⟨l, r, rfl, c, nr, bl_, br⟩ := ff.parts
    have hr3 : Room 3 _ := hr.mono (by decide)
    refine ⟨_, pss_cons (ps_set (i := 2) scMultiple.nd rfl (Or.inl rfl) (pe_new GF (hr.mono (by decide)) pass0))
      (pss_cons (ps_for PassesOwn.leaving rfl (pi_list (pe_mth0 GP TF.cl (hr.mono (by decide)) pass0 (pv 0))) (pg_tup rfl (pgs_cons (pg_name (i := 3) scMultiple.nd rfl (Or.inl rfl)) (pgs_cons (pg_name (i := 4) scMultiple.nd rfl (Or.inl rfl)) (pgs_cons (pg_name (i := 5) scMultiple.nd rfl (Or.inl rfl)) pgs_nil))))
        (pss_one (ps_expr (pe_mth GD TF.cl hr3 (passO (E2 := E) fun _ _ _ z => z) (pv 2) (pa_cons (pv 3) (pa_cons (pe_fn GL hr pass0 (pa_cons (pv 5) (pa_cons (pv 1) pa_nil))) pa_nil))))))
      (pss_one (ps_ret (pv 2)))), ?_⟩
    have hdr := scale_drawn x c
    have hhd : Headed (scaleDraws x l r) := (scale_cov x c).headed
    refine make_form fun H1 p lb ll s1 np nb nl hF => ?_
    have hf1 := hf.mono s1
    obtain ⟨pf, fb, fl, rfl, hFf⟩ := hf
    obtain ⟨df, hpf⟩ := hFf.ins
    refine ⟨_, rfl, pf, df, _, rfl, s1 _ _ hpf, ff_no fb fl (by decide +kernel) (by decide +kernel), _, l, r, rfl, hf1, nr, fun H2 L ts s2 nL eL pt => ?_⟩
    have nLb : L ≠ lb := fun z => by obtain ⟨bs, e, _⟩ := hF.hb; rw [z, e] at nL; cases nL
    have nLl : L ≠ ll := fun z => by obtain ⟨bs, e, _⟩ := hF.hl; rw [z, e] at nL; cases nL
    refine ⟨L, rfl, ⟨_, SqL.of eL⟩, for_list (K := K) (a := L) (xs := ts) (fun i σ H' => ∃ x3 x4 x5 : Option V, σ = [some (.ref pf), some u, some (.ref p), x3, x4, x5] ∧ Dr K C H2 p lb ll (((pieces none l r).take i).flatMap fun q => [(q.1, mulLine q.2.2 x)]) H')
      ⟨none, none, none, rfl, Dr.start (hF.mono s2)⟩ (fun i σ H' _ ⟨_, _, _, _, dr⟩ => SqL.of (drawn_kept dr eL nLb nLl)) ?_ ?_⟩
    · rintro i y σ H' hy ⟨x3, x4, x5, rfl, dr⟩
      obtain ⟨q, hq, hyq⟩ := paired_get' pt hy
      obtain ⟨tq, va, vb, vc, rfl, sq, oa, ob, lc⟩ := hyq.mono dr.tp
      obtain ⟨_, _, b1⟩ := pieces_bd r none l ob_none bl_ br q (List.mem_of_getElem? hq)
      refine ⟨tq, _, rfl, sq, rfl, _, _, rfl, _, _, rfl, _, _, rfl, rfl, ?_⟩
      obtain ⟨g, _, hFg⟩ := dr.g
      obtain ⟨dx, hp⟩ := hFg.ins
      refine ⟨_, rfl, p, dx, _, rfl, hp, ff_no lb ll (by decide +kernel) (by decide +kernel), _, rfl, _, rfl, _, rfl, vc, u, q.2.2, x, rfl, lc, hu.mono ((Tp.of (s1.trans s2)).trans dr.tp), LW.of b1, bx, fun H3 w3 s3 l3 => ?_⟩
      obtain ⟨f1, f2⟩ := flat_at (d := fun (q : Option Rat × Option Rat × Line) => [(q.1, mulLine q.2.2 x)]) hq
      obtain ⟨g0, q1, q2, q3, q4, q5, q6⟩ := (dr.same s3).next (D := scaleDraws x l r) f1.symm hhd
      refine ⟨p, lb, ll, va, w3, g0, _, _, rfl, q1, oa.mono (Tp.of s3), l3, q2, q3, q4, fun G4 H4 e1 e2 e3 e4 => ⟨_, _, _, rfl, ?_⟩, fun e => k.2 (by rw [← hdr]; exact q6 e) _ ((dr.same s3).entry (s1.trans s2) nb nl)⟩
      rw [f2]
      exact q5 G4 H4 e1 e2 e3 e4
    · rintro σ H' ⟨x3, x4, x5, rfl, dr⟩
      rw [show ts.length = (pieces none l r).length from Paired.length pt, List.take_length] at dr
      exact ⟨_, rfl, dr.done (s1.trans s2) nb nl hdr k⟩
end
end SP
end
section
set_option Elab.async false
set_option linter.all false
set_option maxRecDepth 100000
set_option exponentiation.threshold 5000
namespace SP
open PySem PySem.Spec PyProof.Rows L2 Mt
open Pl (Line Fn)
section
variable {P : Program} {w : World} {K : PySem.W.Frag} {mg : Str → Option Value} {base : Heap} {C Cfit : Addr}
theorem ob_up {a : Option Rat} {n : Nat} (h : OB a) (hn : 31 ≤ n) : OBd n a := fun x e => bd_mono (h x e) hn
def spCuts (K : PySem.W.Frag) : Sp := fun vs H Q _ => ∃ a b u v lo hi l m, vs = [a, b, u, v] ∧ OFr K H a lo ∧ OFr K H b hi ∧ Ln K H u l ∧ Ln K H v m ∧ OB lo ∧ OB hi ∧ LB l ∧ LB m ∧
  ∀ H' c cs, Same H H' → H c = none → H' c = some (.lst cs) → Paired (Fr K H') cs (cuts2 lo hi l m) → Q (.ref c) H'
abbrev CCuts (P : Program) (w : World) (K : PySem.W.Frag) (mg : Str → Option Value) (base : Heap) : Prop := Cal P w K mg base CX0 6 "crossings_inside" ["left", "right", "a", "b"] (spCuts K)
theorem scCuts : FnScope ["left", "right", "a", "b", "place"] ["left", "right", "a", "b"] (defScope (top 50)) := ⟨rfl, rfl, rfl, by decide +kernel, rfl, by decide +kernel, by decide +kernel⟩
theorem ok_cuts (D : Def K mg "crossings_inside" (top 50)) (GC : CCross P w K mg base) (GI : Cal P w K mg base CX0 2 "is_inside" ["place", "left", "right"] (spInside K)) : CCuts P w K mg base := by
  refine D.cal (k := 5) scCuts (fun _ _ _ _ _ _ us hl => match us, hl with | [_, _, _, _], _ => rfl) (fun vs H Q E h => ?_) (fun f cdv A outer s H vs Q E hr h => ?_)
  · obtain ⟨a, b, u, v, lo, hi, l, m, rfl, _⟩ := h
    rfl
  · obtain ⟨a, b, u, v, lo, hi, l, m, rfl, ha, hb, hu, hv, bo, bi, bl_, bm, k⟩ := h
    refine ⟨_, pss_cons (ps_set (i := 4) scCuts.nd rfl (Or.inl rfl) (pe_fn GC hr pass0 (pa_cons (pv 2) (pa_cons (pv 3) pa_nil))))
      (pss_cons (ps_if (PW.pt (pw_or (pt_cmpR op_isN (pv 4) pe_non (nomark _)) (pw_or1 (pt_not (pt_val (pe_fn GI (hr.mono (by decide)) pass0 (pa_cons (pv 4) (pa_cons (pv 0) (pa_cons (pv 1) pa_nil))))))))) (pss_one (ps_ret (pe_lst pa_nil))) pss_nil)
      (pss_one (ps_ret (pe_lst (pa_cons (pv 4) pa_nil))))), ?_⟩
    refine ⟨_, rfl, _, rfl, u, v, l, m, rfl, hu, hv, bl_, bm, fun H1 z s1 oz => ?_⟩
    refine ⟨_, rfl, rfl, _, rfl, ?_⟩
    have mb := meets_bd bl_ bm
    have hm : Pl.meets l m = [] ∨ ∃ x, Pl.meets l m = [x] := by
      unfold Pl.meets
      split
      · exact .inl rfl
      · exact .inr ⟨_, rfl⟩
    rcases hm with e | ⟨x, e⟩
    · rw [e] at oz
      rcases oz with ⟨_, rfl⟩ | ⟨_, z2, _⟩
      · refine iteT (iteT ⟨Nat.zero_le _, fun c nc => ?_⟩)
        refine k _ c [] (s1.trans (Same.new nc)) (s1.free nc) upd_same ?_
        rw [show cuts2 lo hi l m = [] by unfold cuts2; rw [e]; rfl]
        exact .nil
      · cases z2
    · rw [e] at oz
      rcases oz with ⟨z2, _⟩ | ⟨x', z2, fz⟩
      · cases z2
      · cases z2
        have fz' := fz
        obtain ⟨q, rfl, hq⟩ := fz
        rw [decide_eq_false (by intro z; cases z)]
        refine iteF ⟨_, rfl, _, rfl, _, rfl, _, a, b, x, lo, hi, rfl, fz', ha.mono (Tp.of s1), hb.mono (Tp.of s1), bd_mono (mb x (by rw [e]; simp)) (by decide), ob_up bo (by decide), ob_up bi (by decide), _, rfl, ?_⟩
        cases ei : isIn x lo hi with
        | true =>
          refine iteF ⟨_, rfl, (by show 1 ≤ sizeLine; decide), fun c nc => ?_⟩
          refine k _ c _ (s1.trans (Same.new nc)) (s1.free nc) upd_same ?_
          rw [show cuts2 lo hi l m = [x] by unfold cuts2; rw [e]; simp [ei]]
          exact .cons (fz'.mono (Tp.of (Same.new nc))) .nil
        | false =>
          refine iteT ⟨Nat.zero_le _, fun c nc => ?_⟩
          refine k _ c [] (s1.trans (Same.new nc)) (s1.free nc) upd_same ?_
          rw [show cuts2 lo hi l m = [] by unfold cuts2; rw [e]; simp [ei]]
          exact .nil
def spChosen (K : PySem.W.Frag) : Sp := fun vs H Q _ => ∃ (u v z : V) (g : Bool) (l m : Line) (x : Rat), vs = [u, v, z, .bl g] ∧ Ln K H u l ∧ Ln K H v m ∧ Fr K H z x ∧ LB l ∧ LB m ∧ Bd 500 x ∧
  ∀ H' r, Same H H' → Ln K H' r (if decide (l.at_ x < m.at_ x) = g then m else l) → Q r H'
abbrev CChosen (P : Program) (w : World) (K : PySem.W.Frag) (mg : Str → Option Value) (base : Heap) : Prop := Cal P w K mg base CX0 5 "chosen_line" ["a", "b", "place", "wants_greater"] (spChosen K)
theorem scChosen : FnScope ["a", "b", "place", "wants_greater", "a_is_below"] ["a", "b", "place", "wants_greater"] (defScope (top 51)) := ⟨rfl, rfl, rfl, by decide +kernel, rfl, by decide +kernel, by decide +kernel⟩
theorem bd_at {l : Line} {x : Rat} {n : Nat} (h : LB l) (hx : Bd n x) : Bd (15 + n + 31 + 1) (l.at_ x) := bd_plus (bd_times h.1 hx) h.2
theorem ok_chosen (D : Def K mg "chosen_line" (top 51)) (GB : CBelow P w K mg base) (GH : CHeight P w K mg base) : CChosen P w K mg base := by
  refine D.cal (k := 4) scChosen (fun _ _ _ _ _ _ us hl => match us, hl with | [_, _, _, _], _ => rfl) (fun vs H Q E h => ?_) (fun f cdv A outer s H vs Q E hr h => ?_)
  · obtain ⟨u, v, z, g, l, m, x, rfl, _⟩ := h
    rfl
  · obtain ⟨u, v, z, g, l, m, x, rfl, hu, hv, hz, bl_, bm, bx, k⟩ := h
    refine ⟨_, pss_cons (ps_set (i := 4) scChosen.nd rfl (Or.inl rfl) (pe_fn GB (hr.mono (by decide)) pass0 (pa_cons (pe_fn GH hr pass0 (pa_cons (pv 0) (pa_cons (pv 2) pa_nil))) (pa_cons (pe_fn GH hr pass0 (pa_cons (pv 1) (pa_cons (pv 2) pa_nil))) pa_nil))))
      (pss_one (ps_ret (pe_ifExp (pt_cmpR op_eq (pv 4) (pv 3) (nomark _)) (pv 1) (pv 0)))), ?_⟩
    refine ⟨_, rfl, _, rfl, u, z, l, x, rfl, hu, hz, LW.of bl_, bx, fun H1 r1 s1 f1 => ?_⟩
    refine ⟨_, rfl, _, rfl, v, z, m, x, rfl, hv.mono (Tp.of s1), hz.mono (Tp.of s1), LW.of bm, bx, fun H2 r2 s2 f2 => ?_⟩
    refine ⟨r1, r2, l.at_ x, m.at_ x, rfl, f1.mono (Tp.of s2), f2, bd_mono (bd_at bl_ bx) (by decide), bd_mono (bd_at bm bx) (by decide), ?_⟩
    refine ⟨_, rfl, _, rfl, rfl, _, rfl, ?_⟩
    by_cases e : decide (l.at_ x < m.at_ x) = g
    · rw [decide_eq_true (p := V.bl (decide (l.at_ x < m.at_ x)) = V.bl g) (by rw [e])]
      refine iteT ⟨_, rfl, k _ _ (s1.trans s2) ?_⟩
      rw [if_pos e]
      exact hv.mono (Tp.of (s1.trans s2))
    · rw [decide_eq_false (p := V.bl (decide (l.at_ x < m.at_ x)) = V.bl g) (by intro q; injection q with q; exact e q)]
      refine iteF ⟨_, rfl, k _ _ (s1.trans s2) ?_⟩
      rw [if_neg e]
      exact hu.mono (Tp.of (s1.trans s2))
def chooseFn (g : Bool) (F G : Fn) : Fn := if g = true then Pl.great F G else Pl.less F G
theorem choose_drawn (g : Bool) {l m : Line} {r t : List (Rat × Line)} (c : Chain none l r) (d : Chain none m t) : drawAll noFn (chooseDraws g l r m t) = fitted (chooseFn g (fnOf l r) (fnOf m t)) ∧ Headed (chooseDraws g l r m t) := by
  cases g with
  | true => exact ⟨great_drawn c d, (great_cov c d).headed⟩
  | false => exact ⟨less_drawn c d, (less_cov c d).headed⟩
def spChoose (K : PySem.W.Frag) (C Cfit : Addr) : Sp := fun vs H Q E => ∃ v u g F G, vs = [v, u, .bl g] ∧ Form K C H v F ∧ Form K C H u G ∧ Fit F ∧ Fit G ∧ Outc K C Cfit H (fitted (chooseFn g F G)) Q E
abbrev CChoose (P : Program) (w : World) (K : PySem.W.Frag) (mg : Str → Option Value) (base : Heap) (C Cfit : Addr) : Prop := Cal P w K mg base (CXo P w) 7 "chosen_at_each_place" ["f", "g", "wants_greater"] (spChoose K C Cfit)
abbrev nChoose : List Str := ["f", "g", "wants_greater", "made", "left", "right", "line_of_f", "line_of_g", "cuts", "start", "end", "place"]
theorem scChoose : FnScope nChoose ["f", "g", "wants_greater"] (defScope (top 52)) := ⟨rfl, rfl, rfl, by decide +kernel, rfl, by decide +kernel, by decide +kernel⟩
theorem cut_bd {lo hi : Option Rat} {cs : List Rat} (h1 : OB lo) (h2 : OB hi) (h3 : ∀ c ∈ cs, Bd 100 c) {p : Option Rat × Option Rat} (hp : p ∈ parted lo hi cs) : OBd 100 p.1 ∧ OBd 100 p.2 := by
  obtain ⟨a, b⟩ := parted_mem hp
  constructor
  · rcases a with e | ⟨c, hc, e⟩
    · rw [e]; exact ob_up h1 (by decide)
    · rw [e]; intro x z; cases z; exact h3 c hc
  · rcases b with e | ⟨c, hc, e⟩
    · rw [e]; exact ob_up h2 (by decide)
    · rw [e]; intro x z; cases z; exact h3 c hc
theorem place_bd {a b : Option Rat} (h1 : OBd 100 a) (h2 : OBd 100 b) : Bd 203 (placeIn a b) := by
  cases a with
  | none => cases b with
    | none => exact bd_zero (by decide)
    | some b => exact bd_mono (bd_minus (h2 b rfl) (bd_one (n := 1) (by decide))) (by decide)
  | some a => cases b with
    | none => exact bd_mono (bd_plus (h1 a rfl) (bd_one (n := 1) (by decide))) (by decide)
    | some b => exact bd_mono (bd_times (bd_plus (h1 a rfl) (h2 b rfl)) (bd_half (n := 2) (by decide))) (by decide)
theorem OBd.up {a : Option Rat} {m n : Nat} (h : OBd m a) (hn : m ≤ n) : OBd n a := fun x e => bd_mono (h x e) hn
theorem cuts2_len (lo hi : Option Rat) (l m : Line) : (cuts2 lo hi l m).length ≤ 1 := by
  unfold cuts2
  refine Nat.le_trans (List.length_filter_le _ _) ?_
  unfold Pl.meets
  split <;> simp
theorem ok_choose (TF : TF K mg C Cfit) (D : Def K mg "chosen_at_each_place" (top 52)) (GF : CForm P w K mg base C) (GD : CDraw P w K mg base C Cfit) (GS : CShared P w K mg base C) (GC : CCuts P w K mg base)
    (GPt : Cal P w K mg base CX0 1 "parted" ["left", "right", "cuts"] (spParted K)) (GPl : Cal P w K mg base CX0 4 "place_inside" ["left", "right"] (spPlace K)) (GL : CChosen P w K mg base) : CChoose P w K mg base C Cfit := by
  refine D.calX (k := 6) scChoose (fun _ _ _ _ _ _ us hl => match us, hl with | [_, _, _], _ => rfl) (fun vs H Q E h => ?_) (fun f cdv A outer s H vs Q E hr h => ?_)
  · obtain ⟨v, u, g, F, G, rfl, _⟩ := h
    rfl
  · obtain ⟨v, u, g, F, G, rfl, hf, hg, ff, fg, k⟩ := h
    obtain ⟨l, r, rfl, c, nr, bl_, br⟩ := ff.parts
    obtain ⟨m, t, rfl, d, nt, bm, bt⟩ := fg.parts
    have hr3 : Room 3 _ := hr.mono (by decide)
    refine ⟨_, pss_cons (ps_set (i := 3) scChoose.nd rfl (Or.inl rfl) (pe_new GF (hr.mono (by decide)) pass0))
      (pss_cons (ps_for PassesOwn.leaving rfl (pi_list (pe_fn GS hr3 pass0 (pa_cons (pv 0) (pa_cons (pv 1) pa_nil)))) (pg_tup rfl (pgs_cons (pg_name (i := 4) scChoose.nd rfl (Or.inl rfl)) (pgs_cons (pg_name (i := 5) scChoose.nd rfl (Or.inl rfl)) (pgs_cons (pg_name (i := 6) scChoose.nd rfl (Or.inl rfl)) (pgs_cons (pg_name (i := 7) scChoose.nd rfl (Or.inl rfl)) pgs_nil)))))
        (pss_cons (ps_set (i := 8) scChoose.nd rfl (Or.inl rfl) (pe_fn GC hr pass0 (pa_cons (pv 4) (pa_cons (pv 5) (pa_cons (pv 6) (pa_cons (pv 7) pa_nil))))))
        (pss_one (ps_for PassesOwn.leaving rfl (pi_list (pe_fn GPt (hr.mono (by decide)) pass0 (pa_cons (pv 4) (pa_cons (pv 5) (pa_cons (pv 8) pa_nil))))) (pg_tup rfl (pgs_cons (pg_name (i := 9) scChoose.nd rfl (Or.inl rfl)) (pgs_cons (pg_name (i := 10) scChoose.nd rfl (Or.inl rfl)) pgs_nil)))
          (pss_cons (ps_set (i := 11) scChoose.nd rfl (Or.inl rfl) (pe_fn GPl (hr.mono (by decide)) pass0 (pa_cons (pv 9) (pa_cons (pv 10) pa_nil))))
          (pss_one (ps_expr (pe_mth GD TF.cl hr3 (passO (E2 := E) fun _ _ _ z => z) (pv 3) (pa_cons (pv 9) (pa_cons (pe_fn GL (hr.mono (by decide)) pass0 (pa_cons (pv 6) (pa_cons (pv 7) (pa_cons (pv 11) (pa_cons (pv 2) pa_nil))))) pa_nil))))))))))
      (pss_one (ps_ret (pv 3)))), ?_⟩
    obtain ⟨hdr, hhd⟩ := choose_drawn g c d
    refine make_form fun H1 p lb ll s1 np nb nl hF => ?_
    refine ⟨_, rfl, _, rfl, v, u, l, r, m, t, rfl, hf.mono s1, hg.mono s1, nr, nt, br, bt, fun H2 L ts s2 nL eL pt => ?_⟩
    have nLb : L ≠ lb := fun z => by obtain ⟨bs, e, _⟩ := hF.hb; rw [z, e] at nL; cases nL
    have nLl : L ≠ ll := fun z => by obtain ⟨bs, e, _⟩ := hF.hl; rw [z, e] at nL; cases nL
    refine ⟨L, rfl, ⟨_, SqL.of eL⟩, for_list (K := K) (a := L) (xs := ts) (fun i σ H' => ∃ x4 x5 x6 x7 x8 x9 x10 x11 : Option V, σ = [some v, some u, some (.bl g), some (.ref p), x4, x5, x6, x7, x8, x9, x10, x11] ∧
        Dr K C H2 p lb ll (((shared none l r m t).take i).flatMap fun q => (parted q.1 q.2.1 (cuts2 q.1 q.2.1 q.2.2.1 q.2.2.2)).map fun z => (z.1, chosen g q.2.2.1 q.2.2.2 z.1 z.2)) H')
      ⟨none, none, none, none, none, none, none, none, rfl, Dr.start (hF.mono s2)⟩ (fun i σ H' _ ⟨_, _, _, _, _, _, _, _, _, dr⟩ => SqL.of (drawn_kept dr eL nLb nLl)) ?_ ?_⟩
    · rintro i y σ H' hy ⟨x4, x5, x6, x7, x8, x9, x10, x11, rfl, dr⟩
      obtain ⟨q, hq, hyq⟩ := paired_get' pt hy
      obtain ⟨tq, va, vb, vc, vd, rfl, sq, oa, ob, lc, ld⟩ := hyq.mono dr.tp
      obtain ⟨o1, o2, b1, b2⟩ := shared_bd none l r m t ob_none bl_ br bm bt q (List.mem_of_getElem? hq)
      obtain ⟨f1, f2⟩ := flat_at (d := fun (q : Option Rat × Option Rat × Line × Line) => (parted q.1 q.2.1 (cuts2 q.1 q.2.1 q.2.2.1 q.2.2.2)).map fun z => (z.1, chosen g q.2.2.1 q.2.2.2 z.1 z.2)) hq
      refine ⟨tq, _, rfl, sq, rfl, _, _, rfl, _, _, rfl, _, _, rfl, _, _, rfl, rfl, ?_⟩
      refine ⟨_, rfl, _, rfl, _, rfl, _, rfl, va, vb, vc, vd, q.1, q.2.1, q.2.2.1, q.2.2.2, rfl, oa, ob, lc, ld, o1, o2, b1, b2, fun H3 cp cs s3 nc ec pc => ?_⟩
      refine ⟨_, rfl, _, rfl, _, rfl, va, vb, cp, q.1, q.2.1, cs, cuts2 q.1 q.2.1 q.2.2.1 q.2.2.2, rfl, oa.mono (Tp.of s3), ob.mono (Tp.of s3), ec, pc, Nat.le_trans (cuts2_len _ _ _ _) (by decide), fun H4 M us s4 nM eM pm => ?_⟩
      have dr4 := (dr.same s3).same s4
      have s34 := s3.trans s4
      obtain ⟨g0, _, hFg0⟩ := (dr.same s3).g
      have nMb : M ≠ lb := fun z => by obtain ⟨bs, e, _⟩ := hFg0.hb; rw [z, e] at nM; cases nM
      have nMl : M ≠ ll := fun z => by obtain ⟨bs, e, _⟩ := hFg0.hl; rw [z, e] at nM; cases nM
      refine ⟨M, rfl, ⟨_, SqL.of eM⟩, for_list (K := K) (a := M) (xs := us) (fun j σ H' => ∃ x9 x10 x11 : Option V, σ = [some v, some u, some (.bl g), some (.ref p), some va, some vb, some vc, some vd, some (.ref cp), x9, x10, x11] ∧
          Stp lb ll H4 H' ∧ Tp H4 H' ∧ Dr K C H2 p lb ll ((((shared none l r m t).take i).flatMap fun q => (parted q.1 q.2.1 (cuts2 q.1 q.2.1 q.2.2.1 q.2.2.2)).map fun z => (z.1, chosen g q.2.2.1 q.2.2.2 z.1 z.2)) ++ ((parted q.1 q.2.1 (cuts2 q.1 q.2.1 q.2.2.1 q.2.2.2)).take j).map fun z => (z.1, chosen g q.2.2.1 q.2.2.2 z.1 z.2)) H')
        ⟨_, _, _, rfl, fun b o e _ _ => e, Tp.of (Same.refl _), by simpa using dr4⟩ (fun j σ H' _ ⟨_, _, _, _, st, _, _⟩ => SqL.of (st _ _ eM nMb nMl)) ?_ ?_⟩
      · rintro j y2 σ H5 hy2 ⟨x9, x10, x11, rfl, st5, tp5, dr5⟩
        obtain ⟨z, hz, hyz⟩ := paired_get' pm hy2
        obtain ⟨tz, wa, wb, rfl, sz, oza, ozb⟩ := hyz.mono tp5
        obtain ⟨zb1, zb2⟩ := cut_bd o1 o2 (fun c hc => meets_bd b1 b2 c (List.mem_filter.mp hc).1) (List.mem_of_getElem? hz)
        have tpq := (Tp.of s34).trans tp5
        refine ⟨tz, _, rfl, sz, rfl, _, _, rfl, _, _, rfl, rfl, ?_⟩
        refine ⟨_, rfl, _, rfl, wa, wb, z.1, z.2, rfl, oza, ozb, zb1.up (by decide), zb2.up (by decide), fun H6 w6 s6 f6 => ?_⟩
        obtain ⟨g6, _, hFg6⟩ := (dr5.same s6).g
        obtain ⟨dx, hp⟩ := hFg6.ins
        refine ⟨_, rfl, p, dx, _, rfl, hp, ff_no lb ll (by decide +kernel) (by decide +kernel), _, rfl, _, rfl, _, rfl, _, rfl, _, rfl, vc, vd, w6, g, q.2.2.1, q.2.2.2, placeIn z.1 z.2, rfl, lc.mono (tpq.trans (Tp.of s6)), ld.mono (tpq.trans (Tp.of s6)), f6, b1, b2, bd_mono (place_bd zb1 zb2) (by decide), fun H7 w7 s7 l7 => ?_⟩
        obtain ⟨m1, m2⟩ := map_at (e := fun (z : Option Rat × Option Rat) => (z.1, chosen g q.2.2.1 q.2.2.2 z.1 z.2)) hz
        have dr7 := (dr5.same s6).same s7
        obtain ⟨g0, q1, q2, q3, q4, q5, q6⟩ := dr7.next (left := z.1) (line := chosen g q.2.2.1 q.2.2.2 z.1 z.2) (post := ((parted q.1 q.2.1 (cuts2 q.1 q.2.1 q.2.2.1 q.2.2.2)).drop (j + 1)).map (fun z => (z.1, chosen g q.2.2.1 q.2.2.2 z.1 z.2)) ++ ((shared none l r m t).drop (i + 1)).flatMap fun q => (parted q.1 q.2.1 (cuts2 q.1 q.2.1 q.2.2.1 q.2.2.2)).map fun z => (z.1, chosen g q.2.2.1 q.2.2.2 z.1 z.2)) (D := chooseDraws g l r m t) (by
          refine Eq.trans ?_ f1.symm
          rw [m1]
          simp only [List.append_assoc, List.cons_append]) hhd
        refine ⟨p, lb, ll, wa, w7, g0, _, _, rfl, q1, oza.mono (Tp.of (s6.trans s7)), l7, q2, q3, q4, fun G8 H8 e1 e2 t8 st8 => ⟨_, _, _, rfl, ?_, ?_, ?_⟩, fun e => k.2 (by rw [← hdr]; exact q6 e) _ (dr7.entry (s1.trans s2) nb nl)⟩
        · exact fun b o e n1 n2 => st8 b o (s7 b o (s6 b o (st5 b o e n1 n2))) n1 n2
        · exact (tp5.trans (Tp.of (s6.trans s7))).trans t8
        · rw [m2, ← List.append_assoc]
          exact q5 G8 H8 e1 e2 t8 st8
      · rintro σ H5 ⟨x9, x10, x11, rfl, st5, tp5, dr5⟩
        refine ⟨_, _, _, _, _, _, _, _, rfl, ?_⟩
        rw [show us.length = (parted q.1 q.2.1 (cuts2 q.1 q.2.1 q.2.2.1 q.2.2.2)).length from Paired.length pm, List.take_length] at dr5
        rw [f2]
        exact dr5
    · rintro σ H' ⟨x4, x5, x6, x7, x8, x9, x10, x11, rfl, dr⟩
      rw [show ts.length = (shared none l r m t).length from Paired.length pt, List.take_length] at dr
      exact ⟨_, rfl, dr.done (s1.trans s2) nb nl hdr k⟩
end
end SP
end
section
set_option Elab.async false
set_option linter.all false
set_option maxRecDepth 100000
set_option exponentiation.threshold 5000
namespace SP
open PySem PySem.Spec PyProof.Rows L2 Mt
open Pl (Line Fn)
section
variable {P : Program} {w : World} {K : PySem.W.Frag} {mg : Str → Option Value} {base : Heap} {C Cfit : Addr}
theorem scGreater : FnScope ["f", "g"] ["f", "g"] (defScope (top 53)) := ⟨rfl, rfl, rfl, by decide +kernel, rfl, by decide +kernel, by decide +kernel⟩
theorem ok_greater (D : Def K mg "greater" (top 53)) (G : CChoose P w K mg base C Cfit) : Cal P w K mg base (CXo P w) 8 "greater" ["f", "g"] (spTwo K C Cfit Pl.great) := by
  refine D.calX (k := 7) scGreater (fun _ _ _ _ _ _ us hl => match us, hl with | [_, _], _ => rfl) (fun vs H Q E h => ?_) (fun f cdv A outer s H vs Q E hr h => ?_)
  · obtain ⟨v, u, F, G, rfl, _⟩ := h
    rfl
  · obtain ⟨v, u, F, G2, rfl, hf, hg, ff, fg, k⟩ := h
    refine ⟨_, pss_one (ps_ret (pe_fn G hr (passO (E2 := E) fun _ _ _ z => z) (pa_cons (pv 0) (pa_cons (pv 1) (pa_cons pe_bl pa_nil))))), ?_⟩
    exact ⟨_, rfl, _, rfl, v, u, true, F, G2, rfl, hf, hg, ff, fg, k⟩
theorem scLesser : FnScope ["f", "g"] ["f", "g"] (defScope (top 54)) := ⟨rfl, rfl, rfl, by decide +kernel, rfl, by decide +kernel, by decide +kernel⟩
theorem ok_lesser (D : Def K mg "lesser" (top 54)) (G : CChoose P w K mg base C Cfit) : Cal P w K mg base (CXo P w) 8 "lesser" ["f", "g"] (spTwo K C Cfit Pl.less) := by
  refine D.calX (k := 7) scLesser (fun _ _ _ _ _ _ us hl => match us, hl with | [_, _], _ => rfl) (fun vs H Q E h => ?_) (fun f cdv A outer s H vs Q E hr h => ?_)
  · obtain ⟨v, u, F, G, rfl, _⟩ := h
    rfl
  · obtain ⟨v, u, F, G2, rfl, hf, hg, ff, fg, k⟩ := h
    refine ⟨_, pss_one (ps_ret (pe_fn G hr (passO (E2 := E) fun _ _ _ z => z) (pa_cons (pv 0) (pa_cons (pv 1) (pa_cons pe_bl pa_nil))))), ?_⟩
    exact ⟨_, rfl, _, rfl, v, u, false, F, G2, rfl, hf, hg, ff, fg, k⟩
theorem filter_snoc {α : Type} {p : α → Bool} {xs : List α} {i : Nat} {x : α} (h : xs[i]? = some x) : (xs.take (i + 1)).filter p = (xs.take i).filter p ++ (if p x = true then [x] else []) := by
  rw [List.take_add_one, h]
  simp only [Option.toList_some, List.filter_append]
  congr 1
  by_cases e : p x = true
  · simp [e]
  · simp [e]
theorem map_snoc {α β : Type} {g : α → β} {xs : List α} {i : Nat} {x : α} (h : xs[i]? = some x) : (xs.take (i + 1)).map g = (xs.take i).map g ++ [g x] := by
  rw [List.take_add_one, h]
  simp
theorem paired_rev {α : Type} {R : V → α → Prop} : ∀ {vs : List V} {xs : List α}, Paired R vs xs → Paired R vs.reverse xs.reverse
  | _, _, .nil => .nil
  | _, _, .cons r t => by
    rw [List.reverse_cons, List.reverse_cons]
    exact paired_app (paired_rev t) (.cons r .nil)
def spReach (K : PySem.W.Frag) : Sp := fun vs H Q _ => ∃ a b u h lo hi l hs qs, vs = [a, b, u, .ref h] ∧ OFr K H a lo ∧ OFr K H b hi ∧ Ln K H u l ∧ H h = some (.lst hs) ∧ Paired (Fr K H) hs qs ∧ OB lo ∧ OB hi ∧ LB l ∧ (∀ y ∈ qs, Bd 31 y) ∧ qs.length ≤ 100 ∧
  ∀ H' c cs, Same H H' → H c = none → H' c = some (.lst cs) → Paired (Fr K H') cs (reachCuts lo hi l qs) → Q (.ref c) H'
abbrev CReach (P : Program) (w : World) (K : PySem.W.Frag) (mg : Str → Option Value) (base : Heap) : Prop := Cal P w K mg base CX0 6 "places_of_heights" ["left", "right", "line", "heights"] (spReach K)
abbrev nReach : List Str := ["left", "right", "line", "heights", "from_height", "to_height", "met", "y"]
theorem scReach : FnScope nReach ["left", "right", "line", "heights"] (defScope (top 55)) := ⟨rfl, rfl, rfl, by decide +kernel, rfl, by decide +kernel, by decide +kernel⟩
theorem mapO_bd {l : Line} {o : Option Rat} (h : LB l) (ho : OB o) : OBd 900 (mapO l o) := by
  intro x e
  cases o with
  | none => cases e
  | some y =>
    cases e
    exact bd_mono (bd_at h (ho y rfl)) (by decide)
theorem ok_reach (T : Txt K mg) (D : Def K mg "places_of_heights" (top 55)) (GE : CHeightEnd P w K mg base) (GB : CBelow P w K mg base) (GI : Cal P w K mg base CX0 2 "is_inside" ["place", "left", "right"] (spInside K)) (GH : CPoh P w K mg base) : CReach P w K mg base := by
  obtain ⟨zv, gz, hz⟩ := T.zero
  refine D.cal (k := 5) scReach (fun _ _ _ _ _ _ us hl => match us, hl with | [_, _, _, _], _ => rfl) (fun vs H Q E h => ?_) (fun f cdv A outer s H vs Q E hr h => ?_)
  · obtain ⟨a, b, u, h, lo, hi, l, hs, qs, rfl, _⟩ := h
    rfl
  · obtain ⟨a, b, u, hh, lo, hi, l, hs, qs, rfl, ha, hb, hu, eh, ph, bo, bi, bl_, bq, nq, k⟩ := h
    have hr1 : Room 1 _ := hr.mono (by decide)
    have hr2 : Room 2 _ := hr.mono (by decide)
    have hr4 : Room 4 _ := hr.mono (by decide)
    refine ⟨_, pss_cons (ps_if (pt_cmpR (op_eqD hr.units) (pe_ix ix_tup (pv 2) pe_int (fun _ _ => rfl)) (pe_gl gz) (nomark _)) (pss_one (ps_ret (pe_lst pa_nil))) pss_nil)
      (pss_cons (ps_set (i := 4) scReach.nd rfl (Or.inr rfl) (pe_fn GE hr pass0 (pa_cons (pv 2) (pa_cons (pv 0) pa_nil))))
      (pss_cons (ps_set (i := 5) scReach.nd rfl (Or.inr rfl) (pe_fn GE hr pass0 (pa_cons (pv 2) (pa_cons (pv 1) pa_nil))))
      (pss_cons (ps_if (pt_val (pe_fn GB hr1 pass0 (pa_cons (pe_gl gz) (pa_cons (pe_ix ix_tup (pv 2) pe_int (fun _ _ => rfl)) pa_nil))))
        (pss_one (ps_setLc (i := 6) (own := [("y", 7)]) rfl scReach.nd rfl rfl (sw_true rfl rfl rfl (by decide +kernel)) (pi_list (pv 3)) (blkOk_by (by show blkC nReach (defScope (top 55)) _ _ = true; decide +kernel)) (fun _ _ _ _ _ => pg_name (i := 7) scReach.nd rfl (Or.inl rfl)) (fun _ _ _ _ _ => pts_one (pt_val (pe_fn GI hr2 pass0 (pa_cons (pv 7) (pa_cons (pv 4) (pa_cons (pv 5) pa_nil)))))) (fun _ _ _ _ _ => pv 7)))
        (pss_one (ps_setLc (i := 6) (own := [("y", 7)]) rfl scReach.nd rfl rfl (sw_true rfl rfl rfl (by decide +kernel)) (pi_reversed rfl T.rev_ (pa_cons (pv 3) pa_nil)) (blkOk_by (by show blkC nReach (defScope (top 55)) _ _ = true; decide +kernel)) (fun _ _ _ _ _ => pg_name (i := 7) scReach.nd rfl (Or.inl rfl)) (fun _ _ _ _ _ => pts_one (pt_val (pe_fn GI hr2 pass0 (pa_cons (pv 7) (pa_cons (pv 5) (pa_cons (pv 4) pa_nil)))))) (fun _ _ _ _ _ => pv 7))))
      (pss_one (ps_ret (pe_lc (own := [("y", 7)]) rfl scReach.nd (pi_list (pv 6)) (blkOk_by (by show blkC nReach (defScope (top 55)) _ _ = true; decide +kernel)) (fun _ _ _ _ _ => pg_name (i := 7) scReach.nd rfl (Or.inl rfl)) (fun _ _ _ _ _ => pts_nil) (fun _ _ _ _ _ => pe_fn GH hr4 pass0 (pa_cons (pv 2) (pa_cons (pv 7) pa_nil))))))))), ?_⟩
    have hu' := hu
    obtain ⟨pu, us, uc, rfl, hpu, hus, huc⟩ := hu
    refine ⟨_, rfl, ⟨_, _, _, _, rfl, rfl, hpu, atI_nat (j := 0) rfl, ⟨_, _, hus.dp, (hz H).dp, shaped_q _, shaped_q _, _, rfl, ?_⟩⟩⟩
    rw [eqv_q]
    by_cases es : l.s = 0
    · rw [decide_eq_true es]
      refine iteT ⟨Nat.zero_le _, fun c nc => k _ c [] (Same.new nc) nc upd_same ?_⟩
      rw [show reachCuts lo hi l qs = [] from if_pos es]
      exact .nil
    rw [decide_eq_false es]
    refine iteF ⟨_, rfl, _, rfl, _, a, l, lo, rfl, hu', ha, LW.of bl_, ob_up bo (by decide), fun H1 v4 s1 o4 => ?_⟩
    refine ⟨_, rfl, _, rfl, _, b, l, hi, rfl, hu'.mono (Tp.of s1), hb.mono (Tp.of s1), LW.of bl_, ob_up bi (by decide), fun H2 v5 s2 o5 => ?_⟩
    have s12 := s1.trans s2
    have hbl2 : Bd 900 l.s := bd_mono bl_.1 (by decide)
    have hlen : hs.length = qs.length := Paired.length ph
    -- the last comprehension, over met
    have last : ∀ (H3 : Hp) (M : Addr) (ms : List V) (ys : List Rat), Same H H3 → H3 M = some (.lst ms) → Paired (Fr K H3) ms ys → (∀ y ∈ ys, Bd 31 y) → ys.length ≤ 100 → reachCuts lo hi l qs = ys.map (fun y => (y - l.c) / l.s) →
        (tRet (tLc (iList K (tVar 6)) (gName 7) tYes (tCall (spPoh K) [] E0 (tCons (tVar 2) (tCons (tVar 7) tNil))) [7])) { nx := fun _ H' => Q .non H', rt := Q } [some a, some b, some (.ref pu), some (.ref hh), some v4, some v5, some (.ref M), none] H3 := by
      intro H3 M ms ys s3 eM pm by_ ny er
      refine ⟨_, rfl, M, rfl, ⟨_, SqL.of eM⟩, fun c nc => ?_⟩
      have hml : ms.length = ys.length := Paired.length pm
      have ncM : M ≠ c := ne_of_none eM nc
      refine lc_list (K := K) (a := M) (xs := ms) (fun i H' => ∃ cs, Same H3 H' ∧ H' c = some (.lst cs) ∧ Paired (Fr K H') cs ((ys.take i).map fun y => (y - l.c) / l.s)) ⟨[], Same.new nc, upd_same, .nil⟩ (fun i H' _ ⟨cs, sm, _⟩ => SqL.of (sm _ _ eM)) ?_ ?_
      · rintro i x H' hx ⟨cs, sm, ec, pc⟩
        obtain ⟨y, hy, fy⟩ := paired_get' pm hx
        have hcl : cs.length = i := by
          have := Paired.length pc
          have hi := (List.getElem?_eq_some_iff.mp hy).1
          simp only [List.length_map, List.length_take] at this
          omega
        refine ⟨rfl, _, rfl, _, rfl, _, x, l, y, rfl, hu'.mono (Tp.of (s3.trans sm)), fy.mono (Tp.of sm), LW.of bl_, bd_mono (by_ y (List.mem_of_getElem? hy)) (by decide), es, fun H5 w5 s5 f5 => ?_⟩
        have ec5 := s5 _ _ ec
        refine ⟨cs, ec5, Nat.lt_of_le_of_lt (show cs.length ≤ 100 by have hi := (List.getElem?_eq_some_iff.mp hy).1; omega) (by decide), cs ++ [w5], fun b o e => ?_, upd_same, ?_⟩
        · rw [upd_ne (ne_of_none e nc)]
          exact s5 _ _ (sm _ _ e)
        · rw [map_snoc hy]
          have tp := (Tp.of s5).trans (Tp.upd (o := .lst (cs ++ [w5])) ec5)
          exact paired_app (frs_mono tp pc) (.cons (f5.mono (Tp.upd ec5)) .nil)
      · rintro H' ⟨cs, sm, ec, pc⟩
        refine k H' c cs (s3.trans sm) (s3.free nc) ec ?_
        rw [er]
        rw [hml, List.take_length] at pc
        exact pc
    refine ⟨_, rfl, ⟨_, _, _, _, rfl, rfl, (sqt (Tp.of s12) hpu), atI_nat (j := 0) rfl, ?_⟩⟩
    refine ⟨_, us, 0, l.s, rfl, hz H2, hus.mono (Tp.of s12), bd_zero (by decide), hbl2, _, rfl, ?_⟩
    by_cases hpos : 0 < l.s
    · rw [decide_eq_true hpos]
      refine iteT ?_
      refine ⟨_, rfl, hh, rfl, ⟨_, SqL.of (s12 _ _ eh)⟩, fun M nM => ?_⟩
      refine lc_list (K := K) (a := hh) (xs := hs) (fun i H' => ∃ cs, Same H2 H' ∧ H' M = some (.lst cs) ∧ Paired (Fr K H') cs ((qs.take i).filter fun y => isIn y (mapO l lo) (mapO l hi))) ⟨[], Same.new nM, upd_same, .nil⟩ (fun i H' _ ⟨cs, sm, _⟩ => SqL.of (sm _ _ (s12 _ _ eh))) ?_ ?_
      · rintro i x H' hx ⟨cs, sm, ec, pc⟩
        obtain ⟨y, hy, fy⟩ := paired_get' ph hx
        have fy' : Fr K H' x y := fy.mono (Tp.of (s12.trans sm))
        have hcl : cs.length ≤ 100 := by
          have := Paired.length pc
          rw [this]
          exact Nat.le_trans (List.length_filter_le _ _) (by rw [List.length_take]; omega)
        refine ⟨rfl, _, rfl, _, rfl, _, rfl, x, v4, v5, y, mapO l lo, mapO l hi, rfl, fy', o4.mono (Tp.of (s2.trans sm)), o5.mono (Tp.of sm), bd_mono (bq y (List.mem_of_getElem? hy)) (by decide), mapO_bd bl_ bo, mapO_bd bl_ bi, _, rfl, ?_⟩
        have hsn := filter_snoc (p := fun y => isIn y (mapO l lo) (mapO l hi)) hy
        cases ei : isIn y (mapO l lo) (mapO l hi) with
        | true =>
          refine iteT ⟨_, rfl, cs, ec, Nat.lt_of_le_of_lt hcl (by decide), cs ++ [x], fun b o e => ?_, upd_same, ?_⟩
          · rw [upd_ne (ne_of_none e nM)]
            exact sm _ _ e
          · rw [hsn, if_pos ei]
            have tp : Tp H' (upd H' M (.lst (cs ++ [x]))) := Tp.upd ec
            exact paired_app (frs_mono tp pc) (.cons (fy'.mono tp) .nil)
        | false =>
          refine iteF ⟨cs, sm, ec, ?_⟩
          rw [hsn, if_neg (by rw [ei]; simp), List.append_nil]
          exact pc
      · rintro H' ⟨cs, sm, ec, pc⟩
        rw [hlen, List.take_length] at pc
        refine last H' M cs _ (s12.trans sm) ec pc (fun y hy => bq y (List.mem_filter.mp hy).1) (Nat.le_trans (List.length_filter_le _ _) nq) ?_
        unfold reachCuts
        rw [if_neg es, if_pos hpos]
    · rw [decide_eq_false hpos]
      refine iteF ?_
      refine ⟨_, rfl, hh, hs, rfl, SqL.of (s12 _ _ eh), fun M nM => ?_⟩
      have ph' := paired_rev ph
      refine lc_rev (K := K) (a := hh) (xs := hs) (fun i H' => ∃ cs, Same H2 H' ∧ H' M = some (.lst cs) ∧ Paired (Fr K H') cs ((qs.reverse.take i).filter fun y => isIn y (mapO l hi) (mapO l lo))) ⟨[], Same.new nM, upd_same, .nil⟩ (fun i H' _ ⟨cs, sm, _⟩ => SqL.of (sm _ _ (s12 _ _ eh))) ?_ ?_
      · rintro i x H' hx ⟨cs, sm, ec, pc⟩
        obtain ⟨y, hy, fy⟩ := paired_get' ph' hx
        have fy' : Fr K H' x y := fy.mono (Tp.of (s12.trans sm))
        have hcl : cs.length ≤ 100 := by
          have := Paired.length pc
          rw [this]
          exact Nat.le_trans (List.length_filter_le _ _) (by rw [List.length_take, List.length_reverse]; omega)
        refine ⟨rfl, _, rfl, _, rfl, _, rfl, x, v5, v4, y, mapO l hi, mapO l lo, rfl, fy', o5.mono (Tp.of sm), o4.mono (Tp.of (s2.trans sm)), bd_mono (bq y (List.mem_reverse.mp (List.mem_of_getElem? hy))) (by decide), mapO_bd bl_ bi, mapO_bd bl_ bo, _, rfl, ?_⟩
        have hsn := filter_snoc (p := fun y => isIn y (mapO l hi) (mapO l lo)) hy
        cases ei : isIn y (mapO l hi) (mapO l lo) with
        | true =>
          refine iteT ⟨_, rfl, cs, ec, Nat.lt_of_le_of_lt hcl (by decide), cs ++ [x], fun b o e => ?_, upd_same, ?_⟩
          · rw [upd_ne (ne_of_none e nM)]
            exact sm _ _ e
          · rw [hsn, if_pos ei]
            have tp : Tp H' (upd H' M (.lst (cs ++ [x]))) := Tp.upd ec
            exact paired_app (frs_mono tp pc) (.cons (fy'.mono tp) .nil)
        | false =>
          refine iteF ⟨cs, sm, ec, ?_⟩
          rw [hsn, if_neg (by rw [ei]; simp), List.append_nil]
          exact pc
      · rintro H' ⟨cs, sm, ec, pc⟩
        rw [hlen, ← List.length_reverse (as := qs), List.take_length] at pc
        refine last H' M cs _ (s12.trans sm) ec pc (fun y hy => bq y (List.mem_reverse.mp (List.mem_filter.mp hy).1)) (Nat.le_trans (List.length_filter_le _ _) (by rw [List.length_reverse]; exact nq)) ?_
        unfold reachCuts
        rw [if_neg es, if_neg hpos]
end
end SP
end
section
set_option Elab.async false
set_option linter.all false
set_option maxRecDepth 100000
set_option exponentiation.threshold 5000
namespace Mt
open Pl
theorem lineAt_lb : ∀ {r : List (Rat × Line)} {l : Line} (x : Rat), LB l → RB r → LB (lineAt l r x)
  | [], l, x, h, _ => h
  | p :: r, l, x, h, hr => by
    unfold lineAt
    split
    · exact h
    · exact lineAt_lb x (hr p List.mem_cons_self).2 fun q hq => hr q (List.mem_cons_of_mem _ hq)
theorem pieces_mem : ∀ {r : List (Rat × Line)} {lo : Option Rat} {l : Line} {p : Option Rat × Option Rat × Line}, p ∈ pieces lo l r → p.2.2 ∈ (fnOf l r).lines
  | [], lo, l, p, h => by
    have e := List.mem_singleton.mp (show p ∈ [(lo, none, l)] from h)
    subst e
    simp [fnOf]
  | q :: r, lo, l, p, h => by
    rcases List.mem_cons.mp (show p ∈ (lo, some q.1, l) :: pieces (some q.1) q.2 r from h) with e | e
    · subst e
      simp [fnOf]
    · have := pieces_mem e
      simp only [fnOf, List.map_cons, List.mem_cons] at this ⊢
      exact .inr this
end Mt
namespace SP
open PySem PySem.Spec PyProof.Rows L2 Mt
open Pl (Line Fn)
section
variable {P : Program} {w : World} {K : PySem.W.Frag} {mg : Str → Option Value} {base : Heap} {C Cfit : Addr}
abbrev nComp : List Str := ["f", "g", "made", "left", "right", "line", "cuts", "start", "end", "met"]
theorem scComp : FnScope nComp ["f", "g"] (defScope (top 56)) := ⟨rfl, rfl, rfl, by decide +kernel, rfl, by decide +kernel, by decide +kernel⟩
theorem reach_len {lo hi : Option Rat} {l : Line} {qs : List Rat} : (reachCuts lo hi l qs).length ≤ qs.length := by
  unfold reachCuts
  split
  · simp
  · split
    · rw [List.length_map]; exact List.length_filter_le _ _
    · rw [List.length_map]; exact Nat.le_trans (List.length_filter_le _ _) (by rw [List.length_reverse]; exact Nat.le_refl _)
theorem ok_comp (TF : TF K mg C Cfit) (D : Def K mg "composition" (top 56)) (GF : CForm P w K mg base C) (GD : CDraw P w K mg base C Cfit) (GP : CPieces P w K mg base C) (GR : CReach P w K mg base)
    (GPt : Cal P w K mg base CX0 1 "parted" ["left", "right", "cuts"] (spParted K)) (GPl : Cal P w K mg base CX0 4 "place_inside" ["left", "right"] (spPlace K)) (GH : CHeight P w K mg base) (GL : CLineAt P w K mg base C) (GA : CAfter P w K mg base) :
    Cal P w K mg base (CXo P w) 8 "composition" ["f", "g"] (spTwo K C Cfit Pl.compose) := by
  refine D.calX (k := 7) scComp (fun _ _ _ _ _ _ us hl => match us, hl with | [_, _], _ => rfl) (fun vs H Q E h => ?_) (fun f cdv A outer s H vs Q E hr h => ?_)
  · obtain ⟨v, u, F, G, rfl, _⟩ := h
    rfl
  · obtain ⟨v, u, F, G, rfl, hf, hg, ff', fg, k⟩ := h
    obtain ⟨l, r, rfl, c, nr, bl_, br⟩ := ff'.parts
    obtain ⟨m, t, rfl, d, nt, bm, bt⟩ := fg.parts
    have hr1 : Room 1 _ := hr.mono (by decide)
    have hr2 : Room 2 _ := hr.mono (by decide)
    have hr3 : Room 3 _ := hr.mono (by decide)
    have hr4 : Room 4 _ := hr.mono (by decide)
    have hr5 : Room 5 _ := hr.mono (by decide)
    have hr6 : Room 6 _ := hr.mono (by decide)
    refine ⟨_, pss_cons (ps_set (i := 2) scComp.nd rfl (Or.inl rfl) (pe_new GF hr2 pass0))
      (pss_cons (ps_for PassesOwn.leaving rfl (pi_list (pe_mth0 GP TF.cl hr1 pass0 (pv 1))) (pg_tup rfl (pgs_cons (pg_name (i := 3) scComp.nd rfl (Or.inl rfl)) (pgs_cons (pg_name (i := 4) scComp.nd rfl (Or.inl rfl)) (pgs_cons (pg_name (i := 5) scComp.nd rfl (Or.inl rfl)) pgs_nil))))
        (pss_cons (ps_set (i := 6) scComp.nd rfl (Or.inl rfl) (pe_fn GR hr6 pass0 (pa_cons (pv 3) (pa_cons (pv 4) (pa_cons (pv 5) (pa_cons (pe_fld (pv 0) rfl) pa_nil))))))
        (pss_one (ps_for PassesOwn.leaving rfl (pi_list (pe_fn GPt hr1 pass0 (pa_cons (pv 3) (pa_cons (pv 4) (pa_cons (pv 6) pa_nil))))) (pg_tup rfl (pgs_cons (pg_name (i := 7) scComp.nd rfl (Or.inl rfl)) (pgs_cons (pg_name (i := 8) scComp.nd rfl (Or.inl rfl)) pgs_nil)))
          (pss_cons (ps_set (i := 9) scComp.nd rfl (Or.inl rfl) (pe_fn GH hr4 pass0 (pa_cons (pv 5) (pa_cons (pe_fn GPl hr4 pass0 (pa_cons (pv 7) (pa_cons (pv 8) pa_nil))) pa_nil))))
          (pss_one (ps_expr (pe_mth GD TF.cl hr3 (passO (E2 := E) fun _ _ _ z => z) (pv 2) (pa_cons (pv 7) (pa_cons (pe_fn GA hr5 pass0 (pa_cons (pe_mth GL TF.cl hr2 pass0 (pv 0) (pa_cons (pv 9) pa_nil)) (pa_cons (pv 5) pa_nil))) pa_nil))))))))))
      (pss_one (ps_ret (pv 2)))), ?_⟩
    have hdr := compose_drawn c d
    have hhd : Headed (composeDraws l r m t) := (compose_cov c d).headed
    refine make_form fun H1 p lb ll s1 np nb nl hF => ?_
    have hf0 := hf
    have hg1 := hg.mono s1
    obtain ⟨pf, fb, fl, rfl, ⟨df, hpf⟩, ⟨bs, hbs, pbs⟩, _, _⟩ := hf
    obtain ⟨pg, gb, gl, rfl, hFg⟩ := hg
    obtain ⟨dg, hpg⟩ := hFg.ins
    refine ⟨_, rfl, pg, dg, _, rfl, s1 _ _ hpg, ff_no gb gl (by decide +kernel) (by decide +kernel), _, m, t, rfl, hg1, nt, fun H2 L ts s2 nL eL pt => ?_⟩
    have s02 := s1.trans s2
    have nLb : L ≠ lb := fun z => by obtain ⟨bs, e, _⟩ := hF.hb; rw [z, e] at nL; cases nL
    have nLl : L ≠ ll := fun z => by obtain ⟨bs, e, _⟩ := hF.hl; rw [z, e] at nL; cases nL
    refine ⟨L, rfl, ⟨_, SqL.of eL⟩, for_list (K := K) (a := L) (xs := ts) (fun i σ H' => ∃ x3 x4 x5 x6 x7 x8 x9 : Option V, σ = [some (.ref pf), some (.ref pg), some (.ref p), x3, x4, x5, x6, x7, x8, x9] ∧
        Dr K C H2 p lb ll (((pieces none m t).take i).flatMap fun q => (parted q.1 q.2.1 (reachCuts q.1 q.2.1 q.2.2 (r.map fun x => x.1))).map fun z => (z.1, afterLine (lineAt l r (q.2.2.at_ (placeIn z.1 z.2))) q.2.2)) H')
      ⟨none, none, none, none, none, none, none, rfl, Dr.start (hF.mono s2)⟩ (fun i σ H' _ ⟨_, _, _, _, _, _, _, _, dr⟩ => SqL.of (drawn_kept dr eL nLb nLl)) ?_ ?_⟩
    · rintro i y σ H' hy ⟨x3, x4, x5, x6, x7, x8, x9, rfl, dr⟩
      obtain ⟨q, hq, hyq⟩ := paired_get' pt hy
      obtain ⟨tq, va, vb, vc, rfl, sq, oa, ob, lc⟩ := hyq.mono dr.tp
      obtain ⟨o1, o2, b1⟩ := pieces_bd t none m ob_none bm bt q (List.mem_of_getElem? hq)
      obtain ⟨f1, f2⟩ := flat_at (d := fun (q : Option Rat × Option Rat × Line) => (parted q.1 q.2.1 (reachCuts q.1 q.2.1 q.2.2 (r.map fun x => x.1))).map fun z => (z.1, afterLine (lineAt l r (q.2.2.at_ (placeIn z.1 z.2))) q.2.2)) hq
      have s0' : Same H H' := dr.entry s02 nb nl
      have hbq : ∀ y ∈ (r.map fun x => x.1), Bd 31 y := fun y hy => by
        obtain ⟨z, hz, ez⟩ := List.mem_map.mp hy
        rw [← ez]
        exact (br z hz).1
      refine ⟨tq, _, rfl, sq, rfl, _, _, rfl, _, _, rfl, _, _, rfl, rfl, ?_⟩
      refine ⟨_, rfl, _, rfl, _, rfl, _, rfl, pf, C, df, _, _, rfl, s0' _ _ hpf, TF.cl, TF.nB, ff_b fb fl, ?_⟩
      refine ⟨va, vb, vc, fb, q.1, q.2.1, q.2.2, bs, (r.map fun (x : Rat × Line) => x.1), rfl, oa, ob, lc, s0' _ _ hbs, frs_mono (Tp.of s0') pbs, o1, o2, b1, hbq, by rw [List.length_map]; omega, fun H3 cp cs s3 nc ec pc => ?_⟩
      refine ⟨_, rfl, _, rfl, _, rfl, va, vb, cp, q.1, q.2.1, cs, reachCuts q.1 q.2.1 q.2.2 (r.map fun x => x.1), rfl, oa.mono (Tp.of s3), ob.mono (Tp.of s3), ec, pc, Nat.le_trans reach_len (by rw [List.length_map]; omega), fun H4 M us s4 nM eM pm => ?_⟩
      have dr4 := (dr.same s3).same s4
      have s34 := s3.trans s4
      obtain ⟨g0, _, hFg0⟩ := (dr.same s3).g
      have nMb : M ≠ lb := fun z => by obtain ⟨bs, e, _⟩ := hFg0.hb; rw [z, e] at nM; cases nM
      have nMl : M ≠ ll := fun z => by obtain ⟨bs, e, _⟩ := hFg0.hl; rw [z, e] at nM; cases nM
      refine ⟨M, rfl, ⟨_, SqL.of eM⟩, for_list (K := K) (a := M) (xs := us) (fun j σ H' => ∃ x7 x8 x9 : Option V, σ = [some (.ref pf), some (.ref pg), some (.ref p), some va, some vb, some vc, some (.ref cp), x7, x8, x9] ∧
          Stp lb ll H4 H' ∧ Tp H4 H' ∧ Dr K C H2 p lb ll ((((pieces none m t).take i).flatMap fun q => (parted q.1 q.2.1 (reachCuts q.1 q.2.1 q.2.2 (r.map fun x => x.1))).map fun z => (z.1, afterLine (lineAt l r (q.2.2.at_ (placeIn z.1 z.2))) q.2.2)) ++ ((parted q.1 q.2.1 (reachCuts q.1 q.2.1 q.2.2 (r.map fun x => x.1))).take j).map fun z => (z.1, afterLine (lineAt l r (q.2.2.at_ (placeIn z.1 z.2))) q.2.2)) H')
        ⟨_, _, _, rfl, fun b o e _ _ => e, Tp.of (Same.refl _), by simpa using dr4⟩ (fun j σ H' _ ⟨_, _, _, _, st, _, _⟩ => SqL.of (st _ _ eM nMb nMl)) ?_ ?_⟩
      · rintro j y2 σ H5 hy2 ⟨x7, x8, x9, rfl, st5, tp5, dr5⟩
        obtain ⟨z, hz, hyz⟩ := paired_get' pm hy2
        obtain ⟨tz, wa, wb, rfl, sz, oza, ozb⟩ := hyz.mono tp5
        obtain ⟨zb1, zb2⟩ := cut_bd o1 o2 (fun c hc => reach_bd b1 hbq c hc) (List.mem_of_getElem? hz)
        have tpq := (Tp.of s34).trans tp5
        have bpl := place_bd zb1 zb2
        refine ⟨tz, _, rfl, sz, rfl, _, _, rfl, _, _, rfl, rfl, ?_⟩
        refine ⟨_, rfl, _, rfl, _, rfl, wa, wb, z.1, z.2, rfl, oza, ozb, zb1.up (by decide), zb2.up (by decide), fun H6 w6 s6 f6 => ?_⟩
        refine ⟨vc, w6, q.2.2, placeIn z.1 z.2, rfl, lc.mono (tpq.trans (Tp.of s6)), f6, LW.of b1, bd_mono bpl (by decide), fun H7 w7 s7 f7 => ?_⟩
        have dr7 := (dr5.same s6).same s7
        have s07 : Same H H7 := dr7.entry s02 nb nl
        obtain ⟨g7, _, hFg7⟩ := dr7.g
        obtain ⟨dx, hp⟩ := hFg7.ins
        refine ⟨_, rfl, p, dx, _, rfl, hp, ff_no lb ll (by decide +kernel) (by decide +kernel), _, rfl, ?_⟩
        refine ⟨_, rfl, pf, df, _, rfl, s07 _ _ hpf, ff_no fb fl (by decide +kernel) (by decide +kernel), _, rfl, _, w7, l, r, q.2.2.at_ (placeIn z.1 z.2), rfl, hf0.mono s07, f7, bd_mono (bd_at b1 bpl) (by decide), fun p' hp' => bd_mono (br p' hp').1 (by decide), fun H8 w8 s8 l8 => ?_⟩
        refine ⟨_, rfl, w8, vc, _, q.2.2, rfl, l8, lc.mono ((tpq.trans (Tp.of (s6.trans s7))).trans (Tp.of s8)), LW.of (lineAt_lb _ bl_ br), LW.of b1, fun H9 w9 s9 l9 => ?_⟩
        obtain ⟨m1, m2⟩ := map_at (e := fun (z : Option Rat × Option Rat) => (z.1, afterLine (lineAt l r (q.2.2.at_ (placeIn z.1 z.2))) q.2.2)) hz
        have s59 := (s6.trans s7).trans (s8.trans s9)
        have dr9 := dr5.same s59
        obtain ⟨g0, q1, q2, q3, q4, q5, q6⟩ := dr9.next (left := z.1) (line := afterLine (lineAt l r (q.2.2.at_ (placeIn z.1 z.2))) q.2.2) (post := ((parted q.1 q.2.1 (reachCuts q.1 q.2.1 q.2.2 (r.map fun x => x.1))).drop (j + 1)).map (fun z => (z.1, afterLine (lineAt l r (q.2.2.at_ (placeIn z.1 z.2))) q.2.2)) ++ ((pieces none m t).drop (i + 1)).flatMap fun q => (parted q.1 q.2.1 (reachCuts q.1 q.2.1 q.2.2 (r.map fun x => x.1))).map fun z => (z.1, afterLine (lineAt l r (q.2.2.at_ (placeIn z.1 z.2))) q.2.2)) (D := composeDraws l r m t) (by
          refine Eq.trans ?_ f1.symm
          rw [m1]
          simp only [List.append_assoc, List.cons_append]) hhd
        refine ⟨p, lb, ll, wa, w9, g0, _, _, rfl, q1, oza.mono (Tp.of s59), l9, q2, q3, q4, fun G8 H10 e1 e2 t8 st8 => ⟨_, _, _, rfl, ?_, ?_, ?_⟩, fun e => k.2 (by rw [← hdr]; exact q6 e) _ (dr9.entry s02 nb nl)⟩
        · exact fun b o e n1 n2 => st8 b o (s59 b o (st5 b o e n1 n2)) n1 n2
        · exact (tp5.trans (Tp.of s59)).trans t8
        · rw [m2, ← List.append_assoc]
          exact q5 G8 H10 e1 e2 t8 st8
      · rintro σ H5 ⟨x7, x8, x9, rfl, st5, tp5, dr5⟩
        refine ⟨_, _, _, _, _, _, _, rfl, ?_⟩
        rw [show us.length = (parted q.1 q.2.1 (reachCuts q.1 q.2.1 q.2.2 (r.map fun x => x.1))).length from Paired.length pm, List.take_length] at dr5
        rw [f2]
        exact dr5
    · rintro σ H' ⟨x3, x4, x5, x6, x7, x8, x9, rfl, dr⟩
      rw [show ts.length = (pieces none m t).length from Paired.length pt, List.take_length] at dr
      exact ⟨_, rfl, dr.done s02 nb nl hdr k⟩
theorem boot_all5 : bootBuiltins "all" = some (.builtin "all") := by decide +kernel
theorem boot_any5 : bootBuiltins "any" = some (.builtin "any") := by decide +kernel
def spAllL (K : PySem.W.Frag) (C : Addr) (g : Fn → Bool) : Sp := fun vs H Q _ => ∃ v F, vs = [v] ∧ Form K C H v F ∧ F.lines.length ≤ 32 ∧ (∀ l ∈ F.lines, LB l) ∧ ∀ H', Same H H' → Q (.bl (g F)) H'
theorem bools_snoc {xs : List Line} {i : Nat} {x : Line} {g : Line → Bool} (h : xs[i]? = some x) : ((xs.take (i + 1)).map fun l => V.bl (g l)) = ((xs.take i).map fun l => V.bl (g l)) ++ [V.bl (g x)] := by
  rw [List.take_add_one, h]
  simp
theorem scRising : FnScope ["f", "line"] ["f"] (defScope (top 57)) := ⟨rfl, rfl, rfl, by decide +kernel, rfl, by decide +kernel, by decide +kernel⟩
theorem ok_rising (T : Txt K mg) (TF : TF K mg C Cfit) (D : Def K mg "is_rising" (top 57)) (GB : CBelow P w K mg base) : Cal P w K mg base CX0 2 "is_rising" ["f"] (spAllL K C Pl.rises) := by
  obtain ⟨zv, gz, hz⟩ := T.zero
  refine D.cal (k := 1) scRising (fun _ _ _ _ _ _ us hl => match us, hl with | [_], _ => rfl) (fun vs H Q E h => ?_) (fun f cdv A outer s H vs Q E hr h => ?_)
  · obtain ⟨v, F, rfl, _⟩ := h
    rfl
  · obtain ⟨v, F, rfl, hF, nF, bF, k⟩ := h
    obtain ⟨p, lb, ll, rfl, ⟨dx, hp⟩, _, ⟨ls, hl, pl⟩, _⟩ := hF
    refine ⟨_, pss_one (ps_ret (pe_callB (cr_all rfl) (by rfl) T.all_ boot_all5 (pa_cons (pe_lc (own := [("line", 1)]) rfl scRising.nd (pi_list (pe_fld (pv 0) rfl)) (blkOk_by (by show blkC ["f", "line"] (defScope (top 57)) _ _ = true; decide +kernel)) (fun _ _ _ _ _ => pg_name (i := 1) scRising.nd rfl (Or.inl rfl)) (fun _ _ _ _ _ => pts_nil)
      (fun _ _ _ _ _ => pe_fn GB hr pass0 (pa_cons (pe_gl gz) (pa_cons (pe_ix (r := rIxT K) ix_tup (pv 1) pe_int (fun _ _ => rfl)) pa_nil)))) pa_nil))), ?_⟩
    refine ⟨_, rfl, p, C, dx, _, _, rfl, hp, TF.cl, TF.nL, ff_l lb ll, ll, rfl, ⟨_, SqL.of hl⟩, fun c nc => ?_⟩
    refine lc_list (K := K) (a := ll) (xs := ls) (fun i H' => Same H H' ∧ H' c = some (.lst ((F.lines.take i).map fun l => V.bl (decide (0 < l.s))))) ⟨Same.new nc, upd_same⟩ (fun i H' _ ⟨sm, _⟩ => SqL.of (sm _ _ hl)) ?_ ?_
    · rintro i x H' hx ⟨sm, ec⟩
      obtain ⟨l1, hl1, lx⟩ := paired_get' pl hx
      obtain ⟨px, xa, xb, rfl, sx, fa, fb⟩ := lx.mono (Tp.of sm)
      refine ⟨rfl, _, rfl, ⟨_, _, _, _, rfl, rfl, sx, atI_nat (j := 0) rfl, ?_⟩⟩
      refine ⟨_, xa, 0, l1.s, rfl, hz H', fa, bd_zero (by decide), bd_mono (bF l1 (List.mem_of_getElem? hl1)).1 (by decide), ?_⟩
      refine ⟨_, ec, Nat.lt_of_le_of_lt (show _ ≤ 32 by rw [List.length_map, List.length_take]; omega) (by decide), fun b o e => ?_, ?_⟩
      · rw [upd_ne (ne_of_none e nc)]
        exact sm _ _ e
      · rw [upd_same, bools_snoc hl1]
    · rintro H' ⟨sm, ec⟩
      rw [show ls.length = F.lines.length from Paired.length pl, List.take_length] at ec
      refine ⟨c, F.lines.map fun l => decide (0 < l.s), rfl, SqL.of ?_, ?_⟩
      · rw [ec, List.map_map]; rfl
      · rw [List.all_map]
        exact k H' sm
theorem scFalling : FnScope ["f", "line"] ["f"] (defScope (top 58)) := ⟨rfl, rfl, rfl, by decide +kernel, rfl, by decide +kernel, by decide +kernel⟩
theorem ok_falling (T : Txt K mg) (TF : TF K mg C Cfit) (D : Def K mg "is_falling" (top 58)) (GB : CBelow P w K mg base) : Cal P w K mg base CX0 2 "is_falling" ["f"] (spAllL K C Pl.falls) := by
  obtain ⟨zv, gz, hz⟩ := T.zero
  refine D.cal (k := 1) scFalling (fun _ _ _ _ _ _ us hl => match us, hl with | [_], _ => rfl) (fun vs H Q E h => ?_) (fun f cdv A outer s H vs Q E hr h => ?_)
  · obtain ⟨v, F, rfl, _⟩ := h
    rfl
  · obtain ⟨v, F, rfl, hF, nF, bF, k⟩ := h
    obtain ⟨p, lb, ll, rfl, ⟨dx, hp⟩, _, ⟨ls, hl, pl⟩, _⟩ := hF
    refine ⟨_, pss_one (ps_ret (pe_callB (cr_all rfl) (by rfl) T.all_ boot_all5 (pa_cons (pe_lc (own := [("line", 1)]) rfl scFalling.nd (pi_list (pe_fld (pv 0) rfl)) (blkOk_by (by show blkC ["f", "line"] (defScope (top 58)) _ _ = true; decide +kernel)) (fun _ _ _ _ _ => pg_name (i := 1) scFalling.nd rfl (Or.inl rfl)) (fun _ _ _ _ _ => pts_nil)
      (fun _ _ _ _ _ => pe_fn GB hr pass0 (pa_cons (pe_ix (r := rIxT K) ix_tup (pv 1) pe_int (fun _ _ => rfl)) (pa_cons (pe_gl gz) pa_nil)))) pa_nil))), ?_⟩
    refine ⟨_, rfl, p, C, dx, _, _, rfl, hp, TF.cl, TF.nL, ff_l lb ll, ll, rfl, ⟨_, SqL.of hl⟩, fun c nc => ?_⟩
    refine lc_list (K := K) (a := ll) (xs := ls) (fun i H' => Same H H' ∧ H' c = some (.lst ((F.lines.take i).map fun l => V.bl (decide (l.s < 0))))) ⟨Same.new nc, upd_same⟩ (fun i H' _ ⟨sm, _⟩ => SqL.of (sm _ _ hl)) ?_ ?_
    · rintro i x H' hx ⟨sm, ec⟩
      obtain ⟨l1, hl1, lx⟩ := paired_get' pl hx
      obtain ⟨px, xa, xb, rfl, sx, fa, fb⟩ := lx.mono (Tp.of sm)
      refine ⟨rfl, _, rfl, ⟨_, _, _, _, rfl, rfl, sx, atI_nat (j := 0) rfl, ?_⟩⟩
      refine ⟨xa, _, l1.s, 0, rfl, fa, hz H', bd_mono (bF l1 (List.mem_of_getElem? hl1)).1 (by decide), bd_zero (by decide), ?_⟩
      refine ⟨_, ec, Nat.lt_of_le_of_lt (show _ ≤ 32 by rw [List.length_map, List.length_take]; omega) (by decide), fun b o e => ?_, ?_⟩
      · rw [upd_ne (ne_of_none e nc)]
        exact sm _ _ e
      · rw [upd_same, bools_snoc hl1]
    · rintro H' ⟨sm, ec⟩
      rw [show ls.length = F.lines.length from Paired.length pl, List.take_length] at ec
      refine ⟨c, F.lines.map fun l => decide (l.s < 0), rfl, SqL.of ?_, ?_⟩
      · rw [ec, List.map_map]; rfl
      · rw [List.all_map]
        exact k H' sm
end
end SP
end
section
set_option Elab.async false
set_option linter.all false
set_option maxRecDepth 100000
set_option exponentiation.threshold 5000
namespace SP
open PySem PySem.Spec PyProof.Rows L2 Mt
open Pl (Line Fn)
/-- the other two errors -/
structure TX (K : PySem.W.Frag) (mg : Str → Option Value) (CW C1 : Addr) : Prop where
  wrong : Exc K CW
  mgW : mg "WrongInput" = some (.ref CW)
  one : Exc K C1
  mg1 : mg "NotOneToOne" = some (.ref C1)
section
variable {P : Program} {w : World} {K : PySem.W.Frag} {mg : Str → Option Value} {base : Heap} {C Cfit CW C1 : Addr}
def spInverse (K : PySem.W.Frag) (C Cfit C1 : Addr) : Sp := fun vs H Q E => ∃ v F, vs = [v] ∧ Form K C H v F ∧ Fit F ∧ ((Pl.rises F || Pl.falls F) = true → Outc K C Cfit H (fitted (Pl.inverse F)) Q E) ∧ ((Pl.rises F || Pl.falls F) = false → ∀ H', Same H H' → E (.ref C1) none H')
abbrev nInv : List Str := ["f", "made", "left", "right", "line"]
theorem scInv : FnScope nInv ["f"] (defScope (top 59)) := ⟨rfl, rfl, rfl, by decide +kernel, rfl, by decide +kernel, by decide +kernel⟩
theorem fit_lb {l : Line} {r : List (Rat × Line)} (h1 : LB l) (h2 : RB r) : ∀ m ∈ (fnOf l r).lines, LB m := fun m hm => by
  simp only [fnOf, List.mem_cons, List.mem_map] at hm
  rcases hm with rfl | ⟨p, hp, rfl⟩
  · exact h1
  · exact (h2 p hp).2
theorem ok_inverse (T : Txt K mg) (TF : TF K mg C Cfit) (X1 : TX K mg CW C1) (D : Def K mg "inverse" (top 59)) (GF : CForm P w K mg base C) (GD : CDraw P w K mg base C Cfit) (GP : CPieces P w K mg base C)
    (GU : Cal P w K mg base CX0 2 "is_rising" ["f"] (spAllL K C Pl.rises)) (GW : Cal P w K mg base CX0 2 "is_falling" ["f"] (spAllL K C Pl.falls)) (GE : CHeightEnd P w K mg base) (GI : CInv1 P w K mg base) :
    Cal P w K mg base (CXo P w) 8 "inverse" ["f"] (spInverse K C Cfit C1) := by
  refine D.calX (k := 7) scInv (fun _ _ _ _ _ _ us hl => match us, hl with | [_], _ => rfl) (fun vs H Q E h => ?_) (fun f cdv A outer s H vs Q E hr h => ?_)
  · obtain ⟨v, F, rfl, _⟩ := h
    rfl
  · obtain ⟨v, F, rfl, hf, ff', k1, k2⟩ := h
    obtain ⟨l, r, rfl, c, nr, bl_, br⟩ := ff'.parts
    have hr1 : Room 1 _ := hr.mono (by decide)
    have hr2 : Room 2 _ := hr.mono (by decide)
    have hr3 : Room 3 _ := hr.mono (by decide)
    have hr5 : Room 5 _ := hr.mono (by decide)
    refine ⟨_, pss_cons (ps_set (i := 1) scInv.nd rfl (Or.inl rfl) (pe_new GF hr2 pass0))
      (pss_cons (ps_if (pt_val (pe_fn GU hr2 pass0 (pa_cons (pv 0) pa_nil)))
        (pss_one (ps_for PassesOwn.leaving rfl (pi_list (pe_mth0 GP TF.cl hr1 pass0 (pv 0))) (pg_tup rfl (pgs_cons (pg_name (i := 2) scInv.nd rfl (Or.inl rfl)) (pgs_cons (pg_name (i := 3) scInv.nd rfl (Or.inl rfl)) (pgs_cons (pg_name (i := 4) scInv.nd rfl (Or.inl rfl)) pgs_nil))))
          (pss_one (ps_expr (pe_mth GD TF.cl hr3 (passO (E2 := E) fun _ _ _ z => z) (pv 1) (pa_cons (pe_fn GE hr5 pass0 (pa_cons (pv 4) (pa_cons (pv 2) pa_nil))) (pa_cons (pe_fn GI hr5 pass0 (pa_cons (pv 4) pa_nil)) pa_nil)))))))
        (pss_one (ps_if (pt_val (pe_fn GW hr2 pass0 (pa_cons (pv 0) pa_nil)))
          (pss_one (ps_for PassesOwn.leaving rfl (pi_reversed rfl T.rev_ (pa_cons (pe_mth0 GP TF.cl hr1 pass0 (pv 0)) pa_nil)) (pg_tup rfl (pgs_cons (pg_name (i := 2) scInv.nd rfl (Or.inl rfl)) (pgs_cons (pg_name (i := 3) scInv.nd rfl (Or.inl rfl)) (pgs_cons (pg_name (i := 4) scInv.nd rfl (Or.inl rfl)) pgs_nil))))
            (pss_one (ps_expr (pe_mth GD TF.cl hr3 (passO (E2 := E) fun _ _ _ z => z) (pv 1) (pa_cons (pe_fn GE hr5 pass0 (pa_cons (pv 4) (pa_cons (pv 3) pa_nil))) (pa_cons (pe_fn GI hr5 pass0 (pa_cons (pv 4) pa_nil)) pa_nil)))))))
          (pss_one (ps_raise X1.one rfl X1.mg1)))))
      (pss_one (ps_ret (pv 1)))), ?_⟩
    have nF : (fnOf l r).lines.length ≤ 32 := by rw [(fnOf_len l r).1]; omega
    have bF := fit_lb bl_ br
    refine make_form fun H1 p lb ll s1 np nb nl hF => ?_
    have hf1 := hf.mono s1
    have hfv := hf
    obtain ⟨pf, fb, fl, rfl, ⟨df, hpf⟩, _, _, _⟩ := hf
    refine ⟨_, rfl, _, fnOf l r, rfl, hf1, nF, bF, fun H2 s2 => ⟨_, rfl, ?_⟩⟩
    cases hri : Pl.rises (fnOf l r) with
    | true =>
      have k := k1 (by rw [hri]; rfl)
      obtain ⟨hdr, hhd⟩ := up_drawn c hri
      have hpos : ∀ m ∈ (fnOf l r).lines, m.s ≠ 0 := fun m hm => by
        have : 0 < m.s := by simpa using List.all_eq_true.mp (show (fnOf l r).lines.all (fun m => decide (0 < m.s)) = true from hri) m hm
        grind
      refine iteT ⟨_, rfl, pf, df, _, rfl, s2 _ _ (s1 _ _ hpf), ff_no fb fl (by decide +kernel) (by decide +kernel), _, l, r, rfl, hf1.mono s2, nr, fun H3 L ts s3 nL eL pt => ?_⟩
      have s03 := (s1.trans s2).trans s3
      have nLb : L ≠ lb := fun z => by obtain ⟨bs, e, _⟩ := hF.hb; rw [z, s2 _ _ e] at nL; cases nL
      have nLl : L ≠ ll := fun z => by obtain ⟨bs, e, _⟩ := hF.hl; rw [z, s2 _ _ e] at nL; cases nL
      refine ⟨L, rfl, ⟨_, SqL.of eL⟩, for_list (K := K) (a := L) (xs := ts) (fun i σ H' => ∃ x2 x3 x4 : Option V, σ = [some (.ref pf), some (.ref p), x2, x3, x4] ∧ Dr K C H3 p lb ll (((pieces none l r).take i).map fun q => (mapO q.2.2 q.1, Pl.turned q.2.2)) H')
        ⟨none, none, none, rfl, Dr.start (hF.mono (s2.trans s3))⟩ (fun i σ H' _ ⟨_, _, _, _, dr⟩ => SqL.of (drawn_kept dr eL nLb nLl)) ?_ ?_⟩
      · rintro i y σ H' hy ⟨x2, x3, x4, rfl, dr⟩
        obtain ⟨q, hq, hyq⟩ := paired_get' pt hy
        obtain ⟨tq, va, vb, vc, rfl, sq, oa, ob, lc⟩ := hyq.mono dr.tp
        obtain ⟨o1, o2, b1⟩ := pieces_bd r none l ob_none bl_ br q (List.mem_of_getElem? hq)
        have hs0 := hpos _ (pieces_mem (List.mem_of_getElem? hq))
        refine ⟨tq, _, rfl, sq, rfl, _, _, rfl, _, _, rfl, _, _, rfl, rfl, ?_⟩
        obtain ⟨g, _, hFg⟩ := dr.g
        obtain ⟨dx, hp⟩ := hFg.ins
        refine ⟨_, rfl, p, dx, _, rfl, hp, ff_no lb ll (by decide +kernel) (by decide +kernel), _, rfl, _, rfl, vc, va, q.2.2, q.1, rfl, lc, oa, LW.of b1, ob_up o1 (by decide), fun H4 w4 s4 f4 => ?_⟩
        refine ⟨_, rfl, vc, q.2.2, rfl, lc.mono (Tp.of s4), LW.of b1, hs0, fun H5 w5 s5 l5 => ?_⟩
        obtain ⟨m1, m2⟩ := map_at (e := fun (q : Option Rat × Option Rat × Line) => (mapO q.2.2 q.1, Pl.turned q.2.2)) hq
        have dr5 := (dr.same s4).same s5
        obtain ⟨g0, q1, q2, q3, q4, q5, q6⟩ := dr5.next (D := upDraws l r) m1.symm hhd
        refine ⟨p, lb, ll, w4, w5, g0, _, _, rfl, q1, f4.mono (Tp.of s5), l5, q2, q3, q4, fun G4 H6 e1 e2 e3 e4 => ⟨_, _, _, rfl, ?_⟩, fun e => k.2 (by rw [← hdr]; exact q6 e) _ (dr5.entry s03 nb nl)⟩
        rw [m2]
        exact q5 G4 H6 e1 e2 e3 e4
      · rintro σ H' ⟨x2, x3, x4, rfl, dr⟩
        rw [show ts.length = (pieces none l r).length from Paired.length pt, List.take_length] at dr
        exact ⟨_, rfl, dr.done s03 nb nl hdr k⟩
    | false =>
      refine iteF ⟨_, rfl, _, fnOf l r, rfl, hf1.mono s2, nF, bF, fun H2' s2' => ⟨_, rfl, ?_⟩⟩
      cases hfa : Pl.falls (fnOf l r) with
      | false => exact iteF (k2 (by rw [hri, hfa]; rfl) _ ((s1.trans s2).trans s2'))
      | true =>
        have k := k1 (by rw [hri, hfa]; rfl)
        obtain ⟨hdr, hhd⟩ := down_drawn c (by rw [hri]; simp) hfa
        have hneg : ∀ m ∈ (fnOf l r).lines, m.s ≠ 0 := fun m hm => by
          have : m.s < 0 := by simpa using List.all_eq_true.mp (show (fnOf l r).lines.all (fun m => decide (m.s < 0)) = true from hfa) m hm
          grind
        have s2 := s2.trans s2'
        refine iteT ⟨_, rfl, pf, df, _, rfl, s2 _ _ (s1 _ _ hpf), ff_no fb fl (by decide +kernel) (by decide +kernel), _, l, r, rfl, hf1.mono s2, nr, fun H3 L ts s3 nL eL pt => ?_⟩
        have s03 := (s1.trans s2).trans s3
        have nLb : L ≠ lb := fun z => by obtain ⟨bs, e, _⟩ := hF.hb; rw [z, s2 _ _ e] at nL; cases nL
        have nLl : L ≠ ll := fun z => by obtain ⟨bs, e, _⟩ := hF.hl; rw [z, s2 _ _ e] at nL; cases nL
        have ptr := paired_rev pt
        refine ⟨L, ts, rfl, SqL.of eL, for_rev (K := K) (a := L) (xs := ts) (fun i σ H' => ∃ x2 x3 x4 : Option V, σ = [some (.ref pf), some (.ref p), x2, x3, x4] ∧ Dr K C H3 p lb ll (((pieces none l r).reverse.take i).map fun q => (mapO q.2.2 q.2.1, Pl.turned q.2.2)) H')
          ⟨none, none, none, rfl, Dr.start (hF.mono (s2.trans s3))⟩ (fun i σ H' _ ⟨_, _, _, _, dr⟩ => SqL.of (drawn_kept dr eL nLb nLl)) ?_ ?_⟩
        · rintro i y σ H' hy ⟨x2, x3, x4, rfl, dr⟩
          obtain ⟨q, hq, hyq⟩ := paired_get' ptr hy
          obtain ⟨tq, va, vb, vc, rfl, sq, oa, ob, lc⟩ := hyq.mono dr.tp
          have hqm := List.mem_reverse.mp (List.mem_of_getElem? hq)
          obtain ⟨o1, o2, b1⟩ := pieces_bd r none l ob_none bl_ br q hqm
          have hs0 := hneg _ (pieces_mem hqm)
          refine ⟨tq, _, rfl, sq, rfl, _, _, rfl, _, _, rfl, _, _, rfl, rfl, ?_⟩
          obtain ⟨g, _, hFg⟩ := dr.g
          obtain ⟨dx, hp⟩ := hFg.ins
          refine ⟨_, rfl, p, dx, _, rfl, hp, ff_no lb ll (by decide +kernel) (by decide +kernel), _, rfl, _, rfl, vc, vb, q.2.2, q.2.1, rfl, lc, ob, LW.of b1, ob_up o2 (by decide), fun H4 w4 s4 f4 => ?_⟩
          refine ⟨_, rfl, vc, q.2.2, rfl, lc.mono (Tp.of s4), LW.of b1, hs0, fun H5 w5 s5 l5 => ?_⟩
          obtain ⟨m1, m2⟩ := map_at (e := fun (q : Option Rat × Option Rat × Line) => (mapO q.2.2 q.2.1, Pl.turned q.2.2)) hq
          have dr5 := (dr.same s4).same s5
          obtain ⟨g0, q1, q2, q3, q4, q5, q6⟩ := dr5.next (D := downDraws l r) m1.symm hhd
          refine ⟨p, lb, ll, w4, w5, g0, _, _, rfl, q1, f4.mono (Tp.of s5), l5, q2, q3, q4, fun G4 H6 e1 e2 e3 e4 => ⟨_, _, _, rfl, ?_⟩, fun e => k.2 (by rw [← hdr]; exact q6 e) _ (dr5.entry s03 nb nl)⟩
          rw [m2]
          exact q5 G4 H6 e1 e2 e3 e4
        · rintro σ H' ⟨x2, x3, x4, rfl, dr⟩
          rw [show ts.length = (pieces none l r).length from Paired.length pt, ← List.length_reverse (as := pieces none l r), List.take_length] at dr
          exact ⟨_, rfl, dr.done s03 nb nl hdr k⟩
def spValue (K : PySem.W.Frag) (C Cfit : Addr) : Sp := fun vs H Q E => ∃ v u F x, vs = [v, u] ∧ Form K C H v F ∧ Fr K H u x ∧ Fit F ∧ Bd 31 x ∧ (Pl.small (F.value x) 9223372036854775807 = true → ∀ H' z, Same H H' → Fr K H' z (F.value x) → Q z H') ∧ (Pl.small (F.value x) 9223372036854775807 = false → ∀ H', Same H H' → E (.ref Cfit) none H')
theorem scValue : FnScope ["f", "place", "found"] ["f", "place"] (defScope (top 40)) := ⟨rfl, rfl, rfl, by decide +kernel, rfl, by decide +kernel, by decide +kernel⟩
theorem ok_value (T : Txt K mg) (TF : TF K mg C Cfit) (D : Def K mg "value_at" (top 40)) (GL : CLineAt P w K mg base C) (GH : CHeight P w K mg base) (GC : CFit P w K mg base Cfit) : Cal P w K mg base (CXo P w) 5 "value_at" ["f", "place"] (spValue K C Cfit) := by
  refine D.calX (k := 4) scValue (fun _ _ _ _ _ _ us hl => match us, hl with | [_, _], _ => rfl) (fun vs H Q E h => ?_) (fun f cdv A outer s H vs Q E hr h => ?_)
  · obtain ⟨v, u, F, x, rfl, _⟩ := h
    rfl
  · obtain ⟨v, u, F, x, rfl, hf, hu, ff', bx, k1, k2⟩ := h
    obtain ⟨l, r, rfl, c, nr, bl_, br⟩ := ff'.parts
    have hr2 : Room 2 _ := hr.mono (by decide)
    have hval : (fnOf l r).value x = (lineAt l r x).at_ x := lineAt_at ((Laid.of_chain c).congr fun x => (value_fnOf c x).symm) trivial
    refine ⟨_, pss_cons (ps_set (i := 2) scValue.nd rfl (Or.inl rfl) (pe_fn GH hr pass0 (pa_cons (pe_mth GL TF.cl hr2 pass0 (pv 0) (pa_cons (pv 1) pa_nil)) (pa_cons (pv 1) pa_nil))))
      (pss_cons (ps_expr (pe_fn GC hr2 (passO (E2 := E) fun _ _ _ z => z) (pa_cons (pv 2) (pa_cons (pe_gl T.mValue) pa_nil)))) (pss_one (ps_ret (pv 2)))), ?_⟩
    have hf0 := hf
    obtain ⟨pf, fb, fl, rfl, ⟨df, hpf⟩, _, _, _⟩ := hf
    refine ⟨_, rfl, pf, df, _, rfl, hpf, ff_no fb fl (by decide +kernel) (by decide +kernel), _, rfl, _, u, l, r, x, rfl, hf0, hu, bd_mono bx (by decide), fun p hp => bd_mono (br p hp).1 (by decide), fun H1 z1 s1 l1 => ?_⟩
    refine ⟨_, rfl, z1, u, _, x, rfl, l1, hu.mono (Tp.of s1), LW.of (lineAt_lb x bl_ br), bd_mono bx (by decide), fun H2 z2 s2 f2 => ?_⟩
    rw [← hval] at f2
    exact ⟨_, rfl, z2, _, 9223372036854775807, rfl, f2, fun e => ⟨_, rfl, k1 e _ _ (s1.trans s2) f2⟩, fun e => k2 e _ (s1.trans s2)⟩
theorem lays {α : Type} {d : α → PyData} {n : Nat} (h : ∀ x, (d x).canLay0 = true ∧ (d x).depth ≤ n) : ∀ xs : List α, PyData.canLayAll0 (xs.map d) = true ∧ PyData.depthAll (xs.map d) ≤ n
  | [] => by simp [PyData.canLayAll0, PyData.depthAll]
  | x :: xs => by
    have h1 := h x
    have h2 := lays h xs
    simp only [List.map_cons, PyData.canLayAll0, PyData.depthAll, h1.1, h2.1, Bool.and_self, true_and]
    omega
theorem shaped_list {α : Type} {d : α → PyData} (h : ∀ x, (d x).canLay0 = true ∧ (d x).depth ≤ 10) (xs : List α) : SeqAt.shaped (.list (xs.map d)) = true := by
  have := lays h xs
  unfold SeqAt.shaped
  rw [Bool.and_eq_true, decide_eq_true_eq]
  constructor
  · simp only [PyData.canLay0]; exact this.1
  · simp only [PyData.depth]; omega
def spSame (K : PySem.W.Frag) (C : Addr) : Sp := fun vs H Q _ => ∃ v u F G, vs = [v, u] ∧ Form K C H v F ∧ Form K C H u G ∧ Q (.bl (decide (F = G))) H
theorem scSame : FnScope ["f", "g"] ["f", "g"] (defScope (top 41)) := ⟨rfl, rfl, rfl, by decide +kernel, rfl, by decide +kernel, by decide +kernel⟩
theorem ok_same (TF : TF K mg C Cfit) (D : Def K mg "is_same" (top 41)) : Cal P w K mg base CX0 1 "is_same" ["f", "g"] (spSame K C) := by
  refine D.cal (k := 0) scSame (fun _ _ _ _ _ _ us hl => match us, hl with | [_, _], _ => rfl) (fun vs H Q E h => ?_) (fun f cdv A outer s H vs Q E hr h => ?_)
  · obtain ⟨v, u, F, G, rfl, _⟩ := h
    rfl
  · obtain ⟨v, u, F, G, rfl, hf, hg, k⟩ := h
    obtain ⟨p, lb, ll, rfl, ⟨dx, hp⟩, ⟨bs, hb, pb⟩, ⟨ls, hl, pl⟩, _⟩ := hf
    obtain ⟨q, mb, ml, rfl, ⟨dy, hq⟩, ⟨cs, hc, pc⟩, ⟨ms, hm, pm⟩, _⟩ := hg
    refine ⟨_, pss_one (ps_ret (pe_and (pe_cmpR (op_eqD hr.units) (pe_fld (pv 0) rfl) (pe_fld (pv 1) rfl) (nomark _)) (pe_one (pe_cmpR (op_eqD hr.units) (pe_fld (pv 0) rfl) (pe_fld (pv 1) rfl) (nomark _))))), ?_⟩
    refine ⟨_, rfl, p, C, dx, _, _, rfl, hp, TF.cl, TF.nB, ff_b lb ll, _, rfl, q, C, dy, _, _, rfl, hq, TF.cl, TF.nB, ff_b mb ml, _, _, .lst (SqL.of hb) (dps (fun _ _ z => z.dp) pb), .lst (SqL.of hc) (dps (fun _ _ z => z.dp) pc), shaped_list (fun x => ⟨(lay_q x).1, Nat.le_trans (lay_q x).2 (by decide)⟩) _, shaped_list (fun x => ⟨(lay_q x).1, Nat.le_trans (lay_q x).2 (by decide)⟩) _, _, rfl, ?_⟩
    rw [show PyData.eqv (.list (F.breaks.map dq)) (.list (G.breaks.map dq)) = PyData.eqvAll (F.breaks.map dq) (G.breaks.map dq) by simp only [PyData.eqv], eqv_all eqv_q]
    by_cases e : F.breaks = G.breaks
    · rw [decide_eq_true e]
      refine iteT ⟨_, rfl, p, C, dx, _, _, rfl, hp, TF.cl, TF.nL, ff_l lb ll, _, rfl, q, C, dy, _, _, rfl, hq, TF.cl, TF.nL, ff_l mb ml, _, _, .lst (SqL.of hl) (dps (fun _ _ z => z.dp) pl), .lst (SqL.of hm) (dps (fun _ _ z => z.dp) pm), shaped_list lay_l _, shaped_list lay_l _, ?_⟩
      rw [show PyData.eqv (.list (F.lines.map dl)) (.list (G.lines.map dl)) = PyData.eqvAll (F.lines.map dl) (G.lines.map dl) by simp only [PyData.eqv], eqv_all eqv_l]
      have e2 : decide (F = G) = decide (F.lines = G.lines) := decide_eq_decide.mpr ⟨fun z => by rw [z], fun z => by
        cases F; cases G; simp only at e z; rw [e, z]⟩
      rw [e2] at k
      exact k
    · rw [decide_eq_false e]
      have e2 : decide (F = G) = false := decide_eq_false fun z => e (by rw [z])
      rw [e2] at k
      exact iteF k
end
end SP
end
section
set_option Elab.async false
set_option linter.all false
set_option maxRecDepth 100000
set_option exponentiation.threshold 5000
namespace PySem.AutoSeq1
open PySem
/-- xs.extend(t), t any tuple -/
theorem ext_tup (l : Addr) (xs : Array Value) (n : Nat) (b : Addr) (ys : Array Value) (n2 : Nat) (dd : Option Addr) (sl : Array (Option Value)) (h0 : ¬(!xs.isEmpty && Builtin.List.listTooLong (xs.size + ys.size)) = true) (h1 : xs.size ≤ sizeLine) (h2 : xs.size + ys.size ≤ sizeLine + 1) :
    Meets (Builtin.«list.extend» ⟨[.ref l, .ref b], []⟩) (fun _ R s => s.heap.get? l = some { cls := .type "list", dict := none, data := .seq xs n, slots := #[] } ∧ s.heap.get? b = some { cls := .type "tuple", dict := dd, data := .seq ys n2, slots := sl } ∧ R (.ok (.ret Value.none)) { s with heap := s.heap.update l (Obj.mapSeq fun x => x ++ ys), toks := s.toks }) :=
  .of_wp fun prog w A R s k => by
    obtain ⟨hp, g, d, tk, os⟩ := s
    obtain ⟨el, eb, k⟩ := k
    have f1 := idx_int
    have f2 := sub_tuple_tuple
    have f3 := sub_list_list
    have f4 := sub_tuple_list
    have f5 := sub_list_tuple
    have big : (xs ++ ys).size ≤ sizeLine + 1 := by rw [Array.size_append]; omega
    wp_walk using (wpAny_updateSeq el rfl (hz := h1) (_hz' := big)), wpAny_loadPart' el, wpAny_loadPart' eb
    exact ⟨_, rfl, k⟩
end PySem.AutoSeq1
namespace L2
open PySem PySem.Spec PyProof.Rows
section
variable {X : Cx}
def rExtendT (K : PySem.W.Frag) : V → List V → Hp → VK → Prop := fun x vs H Q => ∃ l b xs zs, x = .ref l ∧ vs = [.ref b] ∧ H l = some (.lst xs) ∧ SqT K H b zs ∧ xs.length + zs.length ≤ sizeLine ∧ Q .non (upd H l (.lst (xs ++ zs)))
theorem mt_extendT : MtM X "list.extend" (rExtendT X.K) := by
  intro pins s σ H x vs v us Q I rx rv h
  obtain ⟨l, b, xs, zs, rfl, rfl, hH, hB, hz, q⟩ := h
  cases rx
  obtain ⟨u, rfl, ru⟩ := rv.one
  cases ru
  obtain ⟨z, its, n, r, hl, e⟩ := I.lstM hH
  obtain ⟨its2, r2, ⟨⟨cl, dd, dt, sl⟩, e2, c2, n2, d2⟩, z2⟩ := I.tuple hB
  have l2 := r2.length
  cases c2
  cases d2
  have small : its.toArray.size + its2.toArray.size ≤ sizeLine := by rw [List.size_toArray, List.size_toArray]; omega
  refine call_meets F.slot_list_extend ⟨_, e, rfl⟩ F.entry_list_extend (F.args_list_extend_2 _ _) (AutoSeq1.ext_tup l its.toArray n b its2.toArray n2 dd sl (by rw [notLongL small, Bool.and_false]; exact Bool.false_ne_true) (by rw [List.size_toArray]; omega) (by omega)) ⟨e, e2, ?_⟩
  refine ⟨.non, _, I.lset (its' := its ++ its2) hH e (by simp) (r.append r2) ?_, rfl, q⟩
  rw [List.length_append]
  omega
end
end L2
namespace SP
open PySem PySem.Spec PyProof.Rows L2 Mt
open Pl (Line Fn)
section
variable {P : Program} {w : World} {K : PySem.W.Frag} {mg : Str → Option Value} {base : Heap} {C Cfit CW C1 : Addr}
theorem fm_snoc {xs : List (Option Rat)} {i : Nat} {o : Option Rat} (h : xs[i]? = some o) : (xs.take (i + 1)).filterMap id = (xs.take i).filterMap id ++ o.toList := by
  rw [List.take_add_one, h]
  cases o <;> simp
def LcGoal (K : PySem.W.Frag) (a : Addr) (g : TG) (tt : TT) (te : TE) (vs : List Nat) (σ : L2.St) (H1 : Hp) (D : Addr) (Qd : Hp → Prop) : Prop :=
  ∃ W : Nat → Nat → Hp → Prop, (∃ m, W 0 m (upd H1 D (.lst []))) ∧ ∀ i m H, W i m H →
      ((Itl K a).stop i H ∧ Qd H) ∨ ((Itl K a).go i H ∧ ∃ Nx : Hp → Prop, (∀ H', Nx H' → ∃ m', m' < m ∧ W (i + 1) m' H') ∧ ∀ x H', (Itl K a).yld i H x H' → g x (wipe σ vs) H' fun σ2 H2 => wipe σ2 vs = wipe σ vs ∧ tt σ2 H2 fun b H3 =>
        if b = true then te σ2 H3 fun y H4 => ∃ acc, H4 D = some (.lst acc) ∧ acc.length < sizeLine ∧ Nx (upd H4 D (.lst (acc ++ [y]))) else Nx H3)
theorem any_tail {H3 : Hp} {E c M : Addr} {vs : List V} {es : List Rat} {a b u zv : V} {d : Line} {Qd : Hp → Prop} (hz : ∀ H, Fr K H zv 0) (hu : Ln K H3 u d) (bd : LW d) (eE : H3 E = some (.lst vs)) (pE : Paired (Fr K H3) vs es) (bE : ∀ e ∈ es, Bd 31 e) (nE : es.length ≤ 2) (nc : H3 c = none)
    (hd : ∀ H', Same H3 H' → H' c = some (.lst (es.map fun e => V.bl (decide (0 < d.at_ e)))) → Qd H') :
    LcGoal K E (gName 4) tYes (tCall (spBelow K) [] E0 (tCons (tC zv) (tCons (tCall (spHeight K) [] E0 (tCons (tVar 2) (tCons (tVar 4) tNil))) tNil))) [4] [some a, some b, some u, some (.ref M), none] H3 c Qd := by
  refine lc_list (K := K) (a := E) (xs := vs) (fun i H' => Same H3 H' ∧ H' c = some (.lst ((es.take i).map fun e => V.bl (decide (0 < d.at_ e))))) ⟨Same.new nc, upd_same⟩ (fun i H' _ ⟨sm, _⟩ => SqL.of (sm _ _ eE)) ?_ ?_
  · rintro i x H' hx ⟨sm, ec⟩
    obtain ⟨e, he, fx⟩ := paired_get' pE hx
    have be := bE e (List.mem_of_getElem? he)
    refine ⟨rfl, _, rfl, _, rfl, u, x, d, e, rfl, hu.mono (Tp.of sm), fx.mono (Tp.of sm), bd, bd_mono be (by decide), fun H5 w5 s5 f5 => ?_⟩
    refine ⟨zv, w5, 0, d.at_ e, rfl, hz H5, f5, bd_zero (by decide), bd_mono (bd_plus (bd_times bd.1 be) bd.2) (by decide), ?_⟩
    refine ⟨_, s5 _ _ ec, Nat.lt_of_le_of_lt (show _ ≤ 2 by rw [List.length_map, List.length_take]; omega) (by decide), fun b o e => ?_, ?_⟩
    · rw [upd_ne (ne_of_none e nc)]
      exact s5 _ _ (sm _ _ e)
    · rw [upd_same, map_snoc he]
  · rintro H' ⟨sm, ec⟩
    rw [show vs.length = es.length from Paired.length pE, List.take_length] at ec
    exact hd H' sm ec
def spAbove (K : PySem.W.Frag) : Sp := fun vs H Q _ => ∃ a b u lo hi d, vs = [a, b, u] ∧ OFr K H a lo ∧ OFr K H b hi ∧ Ln K H u d ∧ OB lo ∧ OB hi ∧ LW d ∧ ∀ H', Same H H' → Q (.bl (aboveZ lo hi d)) H'
abbrev CAbove (P : Program) (w : World) (K : PySem.W.Frag) (mg : Str → Option Value) (base : Heap) : Prop := Cal P w K mg base CX0 5 "is_above_zero" ["left", "right", "line"] (spAbove K)
abbrev nAbove : List Str := ["left", "right", "line", "ends", "end"]
theorem scAbove : FnScope nAbove ["left", "right", "line"] (defScope (top 42)) := ⟨rfl, rfl, rfl, by decide +kernel, rfl, by decide +kernel, by decide +kernel⟩
theorem ok_above (T : Txt K mg) (D : Def K mg "is_above_zero" (top 42)) (GB : CBelow P w K mg base) (GH : CHeight P w K mg base) : CAbove P w K mg base := by
  obtain ⟨zv, gz, hz⟩ := T.zero
  refine D.cal (k := 4) scAbove (fun _ _ _ _ _ _ us hl => match us, hl with | [_, _, _], _ => rfl) (fun vs H Q E h => ?_) (fun f cdv A outer s H vs Q E hr h => ?_)
  · obtain ⟨a, b, u, lo, hi, d, rfl, _⟩ := h
    rfl
  · obtain ⟨a, b, u, lo, hi, d, rfl, ha, hb, hu, bo, bi, bd, k⟩ := h
    have hr1 : Room 1 _ := hr.mono (by decide)
    refine ⟨_, pss_cons (ps_if (PW.pt (pw_and (pt_cmpR op_isN (pv 0) pe_non (nomark _)) (pw_and1 (pt_val (pe_fn GB hr1 pass0 (pa_cons (pe_ix ix_tup (pv 2) pe_int (fun _ _ => rfl)) (pa_cons (pe_gl gz) pa_nil))))))) (pss_one (ps_ret pe_bl)) pss_nil)
      (pss_cons (ps_if (PW.pt (pw_and (pt_cmpR op_isN (pv 1) pe_non (nomark _)) (pw_and1 (pt_val (pe_fn GB hr1 pass0 (pa_cons (pe_gl gz) (pa_cons (pe_ix ix_tup (pv 2) pe_int (fun _ _ => rfl)) pa_nil))))))) (pss_one (ps_ret pe_bl)) pss_nil)
      (pss_cons (ps_setLc (i := 3) (own := [("end", 4)]) rfl scAbove.nd rfl rfl (sw_true rfl rfl rfl (by decide +kernel)) (pi_tup (pe_tup (pa_cons (pv 0) (pa_cons (pv 1) pa_nil)))) (blkOk_by (by show blkC nAbove (defScope (top 42)) _ _ = true; decide +kernel)) (fun _ _ _ _ _ => pg_name (i := 4) scAbove.nd rfl (Or.inl rfl)) (fun _ _ _ _ _ => pts_one (pt_cmpR op_notN (pv 4) pe_non (nomark _))) (fun _ _ _ _ _ => pv 4))
      (pss_one (ps_ret (pe_callB (cr_any rfl) (by rfl) T.any_ boot_any5 (pa_cons (pe_lc (own := [("end", 4)]) rfl scAbove.nd (pi_list (pe_orL (pv 3) (pe_one (pe_lst (pa_cons (pe_gl gz) pa_nil))))) (blkOk_by (by show blkC nAbove (defScope (top 42)) _ _ = true; decide +kernel)) (fun _ _ _ _ _ => pg_name (i := 4) scAbove.nd rfl (Or.inl rfl)) (fun _ _ _ _ _ => pts_nil)
        (fun _ _ _ _ _ => pe_fn GB hr1 pass0 (pa_cons (pe_gl gz) (pa_cons (pe_fn GH hr pass0 (pa_cons (pv 2) (pa_cons (pv 4) pa_nil))) pa_nil)))) pa_nil)))))), ?_⟩
    have hu' := hu
    obtain ⟨pu, us, uc, rfl, hpu, hus, huc⟩ := hu
    have bs : Bd 900 d.s := bd_mono bd.1 (by decide)
    -- the ends, and the question
    have third : ∀ (h1 : (decide (lo = none) && decide (d.s < 0)) = false) (h2 : (decide (hi = none) && decide (0 < d.s)) = false) {tA tB : TS}, (tA = tAsg (tLc (iTup K (tTup (tCons (tVar 0) (tCons (tVar 1) tNil)))) (gName 4) (tTest (tOp (fun x y H Q => y = V.non ∧ Q (.bl (!decide (x = V.non))) H) (tVar 4) (tC .non))) (tVar 4) [4]) (gName 3)) →
        (tB = tRet (tCB (rAny K) (tCons (tLc (iList K (tOrL K (tVar 3) (tLst (tCons (tC zv) tNil)))) (gName 4) tYes (tCall (spBelow K) [] E0 (tCons (tC zv) (tCons (tCall (spHeight K) [] E0 (tCons (tVar 2) (tCons (tVar 4) tNil))) tNil))) [4]) tNil))) →
        tSeq tA tB { nx := fun _ H' => Q .non H', rt := Q } [some a, some b, some (.ref pu), none, none] H := by
      rintro h1 h2 tA tB rfl rfl
      refine ⟨_, rfl, _, rfl, two_le, fun t nt => ?_⟩
      have s1 : Same H (upd H t (.tup [a, b])) := Same.new nt
      refine ⟨t, rfl, ⟨_, SqT.of upd_same⟩, fun M nM => ?_⟩
      have pab : Paired (OFr K H) [a, b] [lo, hi] := .cons ha (.cons hb .nil)
      refine lc_tup (K := K) (a := t) (xs := [a, b]) (fun i H' => ∃ cs, Same (upd H t (.tup [a, b])) H' ∧ H' M = some (.lst cs) ∧ Paired (Fr K H') cs (([lo, hi].take i).filterMap id)) ⟨[], Same.new nM, upd_same, .nil⟩ (fun i H' _ ⟨cs, sm, _⟩ => SqT.of (sm _ _ upd_same)) ?_ ?_
      · rintro i x H' hx ⟨cs, sm, ec, pc⟩
        obtain ⟨o, ho, ox⟩ := paired_get' pab hx
        have ox' : OFr K H' x o := ox.mono (Tp.of (s1.trans sm))
        have hfm := fm_snoc ho
        have hcl : cs.length ≤ 2 := by
          rw [show cs.length = _ from Paired.length pc]
          exact Nat.le_trans (List.length_filterMap_le _ _) (by rw [List.length_take]; exact Nat.min_le_right _ _)
        refine ⟨rfl, _, rfl, rfl, _, rfl, ?_⟩
        rcases ox' with ⟨rfl, rfl⟩ | ⟨q, rfl, fq⟩
        · refine iteF ⟨cs, sm, ec, ?_⟩
          rw [hfm]
          simpa using pc
        · have fq' := fq
          obtain ⟨pq, rfl, _⟩ := fq
          rw [decide_eq_false (by intro z; cases z)]
          refine iteT ⟨_, rfl, cs, ec, Nat.lt_of_le_of_lt hcl (by decide), cs ++ [.ref pq], fun b o e => ?_, upd_same, ?_⟩
          · rw [upd_ne (ne_of_none e nM)]
            exact sm _ _ e
          · rw [hfm]
            have tp : Tp H' (upd H' M (.lst (cs ++ [.ref pq]))) := Tp.upd ec
            exact paired_app (frs_mono tp pc) (.cons (fq'.mono tp) .nil)
      · rintro H' ⟨cs, sm, ec, pc⟩
        have pc : Paired (Fr K H') cs (endsOf lo hi) := pc
        have sH : Same H H' := s1.trans sm
        have hbE : ∀ e ∈ endsOf lo hi, Bd 31 e := fun e he => by
          obtain ⟨o, ho, eo⟩ := List.mem_filterMap.mp he
          have eo : o = some e := eo
          subst eo
          rcases List.mem_cons.mp ho with z | z
          · exact bo e z.symm
          · exact bi e (List.mem_singleton.mp z).symm
        have nE : (endsOf lo hi).length ≤ 2 := List.length_filterMap_le id [lo, hi]
        have fin : ∀ (es : List Rat) (H4 : Hp), es = (if endsOf lo hi = [] then [0] else endsOf lo hi) → Same H H4 → Q (.bl ((es.map fun e => decide (0 < d.at_ e)).any id)) H4 := fun es H4 e s4 => by
          subst e
          have := k H4 s4
          unfold aboveZ at this
          rw [h1, h2, Bool.false_or, Bool.false_or] at this
          rw [List.any_map]
          exact this
        refine ⟨_, rfl, _, .inl ⟨cs, SqL.of ec, rfl⟩, ?_⟩
        have hcl : cs.length = (endsOf lo hi).length := Paired.length pc
        cases hcs : cs with
        | nil =>
          rw [hcs] at hcl
          have e0 : endsOf lo hi = [] := List.length_eq_zero_iff.mp hcl.symm
          refine iteF ⟨(by show 1 ≤ sizeLine; decide), fun Z nZ => ⟨Z, rfl, ⟨_, SqL.of upd_same⟩, fun c nc => ?_⟩⟩
          refine any_tail (es := [0]) hz (hu'.mono (Tp.of (sH.trans (Same.new nZ)))) bd upd_same (.cons (hz _) .nil) (fun e he => by rw [List.mem_singleton.mp he]; exact bd_zero (by decide)) (by decide) nc fun H5 s5 e5 => ?_
          exact ⟨c, [decide (0 < d.at_ 0)], rfl, SqL.of e5, fin [0] H5 (by rw [if_pos e0]) ((sH.trans (Same.new nZ)).trans s5)⟩
        | cons c0 cr =>
          rw [← hcs, show (!cs.isEmpty) = true by rw [hcs]; rfl]
          have e0 : ¬ endsOf lo hi = [] := fun z => by rw [z, hcs] at hcl; cases hcl
          refine iteT ⟨M, rfl, ⟨_, SqL.of ec⟩, fun c nc => ?_⟩
          refine any_tail (es := endsOf lo hi) hz (hu'.mono (Tp.of sH)) bd ec pc hbE nE nc fun H5 s5 e5 => ?_
          refine ⟨c, (endsOf lo hi).map fun e => decide (0 < d.at_ e), rfl, SqL.of ?_, fin (endsOf lo hi) H5 (by rw [if_neg e0]) (sH.trans s5)⟩
          rw [e5, List.map_map]
          rfl
    have second : ∀ (h1 : (decide (lo = none) && decide (d.s < 0)) = false) {t2 : TS}, ((decide (hi = none) && decide (0 < d.s)) = false → t2 { nx := fun _ H' => Q .non H', rt := Q } [some a, some b, some (.ref pu), none, none] H) →
        tSeq (tIfS (tAnd (tTest (tOp (fun x y H Q => y = V.non ∧ Q (.bl (decide (x = V.non))) H) (tVar 1) (tC .non))) (tB (tCall (spBelow K) [] E0 (tCons (tC zv) (tCons (tOp (rIxT K) (tVar 2) (tC (.int 0))) tNil))))) (tRet (tC (.bl true))) tNext) t2 { nx := fun _ H' => Q .non H', rt := Q } [some a, some b, some (.ref pu), none, none] H := by
      intro h1 t2 ht2
      refine ⟨_, rfl, rfl, _, rfl, ?_⟩
      rcases hb with ⟨rfl, rfl⟩ | ⟨y, rfl, fy⟩
      · refine iteT ⟨_, rfl, ⟨_, _, _, _, rfl, rfl, hpu, atI_nat (j := 0) rfl, ⟨_, us, 0, d.s, rfl, hz H, hus, bd_zero (by decide), bs, _, rfl, ?_⟩⟩⟩
        by_cases e : 0 < d.s
        · rw [decide_eq_true e]
          refine iteT ?_
          have := k H (Same.refl H)
          rw [show aboveZ lo none d = true by unfold aboveZ; simp [e]] at this
          exact this
        · rw [decide_eq_false e]
          exact iteF (ht2 (by simp [e]))
      · obtain ⟨py, rfl, _⟩ := fy
        rw [decide_eq_false (by intro z; cases z)]
        exact iteF (iteF (ht2 (by simp)))
    refine ⟨_, rfl, rfl, _, rfl, ?_⟩
    rcases ha with ⟨rfl, rfl⟩ | ⟨x, rfl, fx⟩
    · refine iteT ⟨_, rfl, ⟨_, _, _, _, rfl, rfl, hpu, atI_nat (j := 0) rfl, ⟨us, _, d.s, 0, rfl, hus, hz H, bs, bd_zero (by decide), _, rfl, ?_⟩⟩⟩
      by_cases e : d.s < 0
      · rw [decide_eq_true e]
        refine iteT ?_
        have := k H (Same.refl H)
        rw [show aboveZ none hi d = true by unfold aboveZ; simp [e]] at this
        exact this
      · rw [decide_eq_false e]
        exact iteF (second (by simp [e]) fun h2 => third (by simp [e]) h2 rfl rfl)
    · obtain ⟨px, rfl, _⟩ := fx
      rw [decide_eq_false (by intro z; cases z)]
      exact iteF (iteF (second (by simp) fun h2 => third (by simp) h2 rfl rfl))
end
end SP
end
section
set_option Elab.async false
set_option linter.all false
set_option maxRecDepth 100000
set_option exponentiation.threshold 5000
namespace SP
open PySem PySem.Spec PyProof.Rows L2 Mt
open Pl (Line Fn)
section
variable {P : Program} {w : World} {K : PySem.W.Frag} {mg : Str → Option Value} {base : Heap} {C Cfit CW C1 : Addr}
def spNowhere (K : PySem.W.Frag) (C : Addr) : Sp := fun vs H Q _ => ∃ v u F G, vs = [v, u] ∧ Form K C H v F ∧ Form K C H u G ∧ Fit F ∧ Fit G ∧ ∀ H', Same H H' → Q (.bl (decide (Pl.great F G = G))) H'
abbrev nNow : List Str := ["f", "g", "left", "right", "line_of_f", "line_of_g"]
theorem scNow : FnScope nNow ["f", "g"] (defScope (top 43)) := ⟨rfl, rfl, rfl, by decide +kernel, rfl, by decide +kernel, by decide +kernel⟩
theorem all_snoc {α : Type} {p : α → Bool} {xs : List α} {i : Nat} {x : α} (h : xs[i]? = some x) : (xs.take (i + 1)).all p = ((xs.take i).all p && p x) := by
  rw [List.take_add_one, h]
  simp
theorem ok_nowhere (D : Def K mg "is_nowhere_above" (top 43)) (GS : CShared P w K mg base C) (GA : CAbove P w K mg base) (GD : CDif P w K mg base) : Cal P w K mg base CX0 6 "is_nowhere_above" ["f", "g"] (spNowhere K C) := by
  refine D.cal (k := 5) scNow (fun _ _ _ _ _ _ us hl => match us, hl with | [_, _], _ => rfl) (fun vs H Q E h => ?_) (fun f cdv A outer s H vs Q E hr h => ?_)
  · obtain ⟨v, u, F, G, rfl, _⟩ := h
    rfl
  · obtain ⟨v, u, F, G, rfl, hf, hg, ff', fg, k⟩ := h
    obtain ⟨l, r, rfl, c, nr, bl_, br⟩ := ff'.parts
    obtain ⟨m, t, rfl, d, nt, bm, bt⟩ := fg.parts
    have hr3 : Room 3 _ := hr.mono (by decide)
    have hr4 : Room 4 _ := hr.mono (by decide)
    rw [← nowhere_eq c d] at k
    refine ⟨_, pss_cons (ps_for PassesOwn.never rfl (pi_list (pe_fn GS hr3 pass0 (pa_cons (pv 0) (pa_cons (pv 1) pa_nil)))) (pg_tup rfl (pgs_cons (pg_name (i := 2) scNow.nd rfl (Or.inl rfl)) (pgs_cons (pg_name (i := 3) scNow.nd rfl (Or.inl rfl)) (pgs_cons (pg_name (i := 4) scNow.nd rfl (Or.inl rfl)) (pgs_cons (pg_name (i := 5) scNow.nd rfl (Or.inl rfl)) pgs_nil)))))
        (pss_one (ps_if (pt_val (pe_fn GA hr pass0 (pa_cons (pv 2) (pa_cons (pv 3) (pa_cons (pe_fn GD hr4 pass0 (pa_cons (pv 4) (pa_cons (pv 5) pa_nil))) pa_nil))))) (pss_one (ps_ret pe_bl)) pss_nil)))
      (pss_one (ps_ret pe_bl)), ?_⟩
    refine ⟨_, rfl, _, rfl, v, u, l, r, m, t, rfl, hf, hg, nr, nt, br, bt, fun H2 L ts s2 nL eL pt => ?_⟩
    refine ⟨L, rfl, ⟨_, SqL.of eL⟩, for_list (K := K) (a := L) (xs := ts) (fun i σ H' => ∃ x2 x3 x4 x5 : Option V, σ = [some v, some u, x2, x3, x4, x5] ∧ Same H2 H' ∧ (((shared none l r m t).take i).all fun p => !aboveZ p.1 p.2.1 (difLine p.2.2.1 p.2.2.2)) = true)
      ⟨none, none, none, none, rfl, Same.refl _, rfl⟩ (fun i σ H' _ ⟨_, _, _, _, _, sm, _⟩ => SqL.of (sm _ _ eL)) ?_ ?_⟩
    · rintro i y σ H' hy ⟨x2, x3, x4, x5, rfl, sm, ha⟩
      obtain ⟨q, hq, hyq⟩ := paired_get' pt hy
      obtain ⟨tq, va, vb, vc, vd, rfl, sq, oa, ob, lc, ld⟩ := hyq.mono (Tp.of sm)
      obtain ⟨o1, o2, b1, b2⟩ := shared_bd none l r m t ob_none bl_ br bm bt q (List.mem_of_getElem? hq)
      refine ⟨tq, _, rfl, sq, rfl, _, _, rfl, _, _, rfl, _, _, rfl, _, _, rfl, rfl, ?_⟩
      refine ⟨_, rfl, _, rfl, _, rfl, _, rfl, vc, vd, q.2.2.1, q.2.2.2, rfl, lc, ld, LW.of b1, LW.of b2, fun H3 w3 s3 l3 => ?_⟩
      refine ⟨va, vb, w3, q.1, q.2.1, _, rfl, oa.mono (Tp.of s3), ob.mono (Tp.of s3), l3, o1, o2, ⟨bd_mono (bd_minus b1.1 b2.1) (by decide), bd_mono (bd_minus b1.2 b2.2) (by decide)⟩, fun H4 s4 => ⟨_, rfl, ?_⟩⟩
      have hsn := all_snoc (p := fun (p : Option Rat × Option Rat × Line × Line) => !aboveZ p.1 p.2.1 (difLine p.2.2.1 p.2.2.2)) hq
      cases e : aboveZ q.1 q.2.1 (difLine q.2.2.1 q.2.2.2) with
      | true =>
        refine iteT ?_
        have hn : nowhere l r m t = false := by
          unfold nowhere
          rw [List.all_eq_false]
          exact ⟨q, List.mem_of_getElem? hq, by simp [e]⟩
        have := k H4 (s2.trans (sm.trans (s3.trans s4)))
        rw [hn] at this
        exact this
      | false =>
        refine iteF ⟨_, _, _, _, rfl, sm.trans (s3.trans s4), ?_⟩
        rw [hsn, ha, e]
        rfl
    · rintro σ H' ⟨x2, x3, x4, x5, rfl, sm, ha⟩
      rw [show ts.length = (shared none l r m t).length from Paired.length pt, List.take_length] at ha
      have := k H' (s2.trans sm)
      rw [show nowhere l r m t = true from ha] at this
      exact this
def spNums (K : PySem.W.Frag) : Sp := fun vs H Q _ => ∃ u l, vs = [u] ∧ Ln K H u l ∧ ∀ H' r, Same H H' → H r = none → H' r = some (.lst ((Pl.lineShown l).map V.int)) → Q (.ref r) H'
abbrev CNums (P : Program) (w : World) (K : PySem.W.Frag) (mg : Str → Option Value) (base : Heap) : Prop := Cal P w K mg base CX0 1 "numbers_of_line" ["line"] (spNums K)
theorem scNums : FnScope ["line"] ["line"] (defScope (top 44)) := ⟨rfl, rfl, rfl, by decide +kernel, rfl, by decide +kernel, by decide +kernel⟩
theorem ok_nums (T : Txt K mg) (D : Def K mg "numbers_of_line" (top 44)) : CNums P w K mg base := by
  refine D.cal (k := 0) scNums (fun _ _ _ _ _ _ us hl => match us, hl with | [_], _ => rfl) (fun vs H Q E h => ?_) (fun f cdv A outer s H vs Q E hr h => ?_)
  · obtain ⟨u, l, rfl, _⟩ := h
    rfl
  · obtain ⟨u, l, rfl, ⟨p, a, b, rfl, hp, ⟨pa, rfl, ha⟩, ⟨pb, rfl, hb⟩⟩, k⟩ := h
    refine ⟨_, pss_one (ps_ret (pe_op op_cat (pe_callTy call_list_of (by rfl) T.list_ boot_list5 (pa_cons (pe_ix ix_tup (pv 0) pe_int (fun _ _ => rfl)) pa_nil)) (pe_callTy call_list_of (by rfl) T.list_ boot_list5 (pa_cons (pe_ix ix_tup (pv 0) pe_int (fun _ _ => rfl)) pa_nil)))), ?_⟩
    refine ⟨_, rfl, ⟨_, _, _, _, rfl, rfl, hp, atI_nat (j := 0) rfl, ⟨pa, _, rfl, .inr ha, fun l1 n1 => ?_⟩⟩⟩
    have s1 : Same H (upd H l1 (.lst [.int l.s.num, .int (l.s.den : Int)])) := Same.new n1
    refine ⟨_, rfl, ⟨_, _, _, _, rfl, rfl, sqt (Tp.of s1) hp, atI_nat (j := 1) rfl, ⟨pb, _, rfl, .inr (sqt (Tp.of s1) hb), fun l2 n2 => ?_⟩⟩⟩
    refine ⟨l1, l2, _, _, rfl, rfl, (Same.new n2) _ _ upd_same, upd_same, (by show 4 ≤ sizeLine; decide), fun l3 n3 => ?_⟩
    have s3 := (s1.trans (Same.new (o := .lst [.int l.c.num, .int (l.c.den : Int)]) n2))
    exact k _ l3 (s3.trans (Same.new n3)) (s3.free n3) upd_same
def spForm (K : PySem.W.Frag) (C : Addr) : Sp := fun vs H Q _ => ∃ v F, vs = [v] ∧ Form K C H v F ∧ Fit F ∧ ∀ H' r, Same H H' → H' r = some (.lst ((Pl.told F).map V.int)) → Q (.ref r) H'
abbrev nForm : List Str := ["f", "numbers", "place", "line"]
theorem scForm : FnScope nForm ["f"] (defScope (top 45)) := ⟨rfl, rfl, rfl, by decide +kernel, rfl, by decide +kernel, by decide +kernel⟩
theorem cut1 (xs : List V) : cutV xs (some 1) none = xs.drop 1 := by
  unfold cutV
  have h1 : HT.sIx xs.length 0 (some 1) = min 1 xs.length := HT.sIx_nat xs.length 0 1
  rw [h1, HT.sIx_none]
  cases xs with
  | nil => rfl
  | cons a r =>
    simp only [List.length_cons]
    rw [show min 1 (r.length + 1) = 1 by omega, Nat.add_sub_cancel]
    simp
theorem paired_tail {α : Type} {R : V → α → Prop} {vs : List V} {x : α} {xs : List α} (h : Paired R vs (x :: xs)) : Paired R (vs.drop 1) xs := by
  cases h with
  | cons _ t => exact t
theorem ok_form (T : Txt K mg) (TF : TF K mg C Cfit) (D : Def K mg "numbers_of_form" (top 45)) (GN : CNums P w K mg base) : Cal P w K mg base CX0 2 "numbers_of_form" ["f"] (spForm K C) := by
  refine D.cal (k := 1) scForm (fun _ _ _ _ _ _ us hl => match us, hl with | [_], _ => rfl) (fun vs H Q E h => ?_) (fun f cdv A outer s H vs Q E hr h => ?_)
  · obtain ⟨v, F, rfl, _⟩ := h
    rfl
  · obtain ⟨v, F, rfl, hF, ff', k⟩ := h
    obtain ⟨l, r, rfl, c, nr, bl_, br⟩ := ff'.parts
    obtain ⟨p, lb, ll, rfl, ⟨dx, hp⟩, ⟨bs, hb, pb⟩, ⟨ls, hl, pl⟩, _⟩ := hF
    refine ⟨_, pss_cons (ps_set (i := 1) scForm.nd rfl (Or.inl rfl) (pe_fn GN hr pass0 (pa_cons (pe_ix ix_list (pe_fld (pv 0) rfl) pe_int (fun _ _ => rfl)) pa_nil)))
      (pss_cons (ps_for PassesOwn.never rfl (pi_zip rfl T.zip_ (pa_cons (pe_fld (pv 0) rfl) (pa_cons (pe_slice sl_list (pe_fld (pv 0) rfl) (po_some pe_int) po_none) pa_nil))) (pg_tup rfl (pgs_cons (pg_name (i := 2) scForm.nd rfl (Or.inl rfl)) (pgs_cons (pg_name (i := 3) scForm.nd rfl (Or.inl rfl)) pgs_nil)))
        (pss_cons (ps_expr (pe_bm PySem.F.plainAttrs_list PySem.F.slot_list_extend PySem.F.type_list_extend mt_extendT (pv 1) (pa_cons (pv 2) pa_nil)))
        (pss_one (ps_expr (pe_bm PySem.F.plainAttrs_list PySem.F.slot_list_extend PySem.F.type_list_extend mt_extend (pv 1) (pa_cons (pe_fn GN hr pass0 (pa_cons (pv 3) pa_nil)) pa_nil))))))
      (pss_one (ps_ret (pv 1)))), ?_⟩
    obtain ⟨v0, e0, lv0⟩ := paired_get pl (i := 0) (x := l) rfl
    have hbl : bs.length = r.length := by
      rw [show bs.length = _ from Paired.length pb]
      simp [fnOf]
    have hll : ls.length = r.length + 1 := by
      rw [show ls.length = _ from Paired.length pl]
      simp [fnOf]
    refine ⟨_, rfl, p, C, dx, _, _, rfl, hp, TF.cl, TF.nL, ff_l lb ll, ⟨ll, ls, _, v0, rfl, rfl, SqL.of hl, atI_nat (j := 0) e0, ⟨v0, l, rfl, lv0, fun H1 N s1 nN eN => ?_⟩⟩⟩
    refine ⟨_, rfl, p, C, dx, _, _, rfl, s1 _ _ hp, TF.cl, TF.nB, ff_b lb ll, _, rfl, p, C, dx, _, _, rfl, s1 _ _ hp, TF.cl, TF.nL, ff_l lb ll, _, rfl, ll, ls, rfl, SqL.of (s1 _ _ hl), fun S nS => ?_⟩
    rw [cut1]
    have s2 : Same H1 (upd H1 S (.lst (ls.drop 1))) := Same.new nS
    have pl' : Paired (Ln K H) (ls.drop 1) (r.map fun (q : Rat × Line) => q.2) := paired_tail pl
    have pb' : Paired (Fr K H) bs (r.map fun (q : Rat × Line) => q.1) := pb
    have nNS : N ≠ S := ne_of_none eN nS
    have nNb : lb ≠ N := ne_of_none hb nN
    refine ⟨lb, S, bs, ls.drop 1, rfl, SqL.of (s2 _ _ (s1 _ _ hb)), SqL.of upd_same, ?_⟩
    refine for_zip (K := K) (a := lb) (b := S) (xs := bs) (ys := ls.drop 1) (fun i σ H' => ∃ x2 x3 : Option V, σ = [some (.ref p), some (.ref N), x2, x3] ∧ Same H H' ∧ H' S = some (.lst (ls.drop 1)) ∧ H' N = some (.lst ((Pl.lineShown l ++ (r.take i).flatMap fun q => Pl.shown q.1 ++ Pl.lineShown q.2).map V.int)))
      (by rw [List.length_drop]; omega) ⟨none, none, rfl, s1.trans s2, upd_same, ?_⟩ (fun i σ H' _ ⟨_, _, _, sm, eS, _⟩ => ⟨SqL.of (sm _ _ hb), SqL.of eS⟩) ?_ ?_
    · rw [upd_ne nNS, eN]
      simp
    · rintro i x y σ H' t hx hy ⟨x2, x3, rfl, sm, eS, eN'⟩ nt
      obtain ⟨q1, hq1, fx⟩ := paired_get' pb' hx
      obtain ⟨q2, hq2, ly⟩ := paired_get' pl' hy
      rw [List.getElem?_map] at hq1 hq2
      obtain ⟨q, hq⟩ : ∃ q, r[i]? = some q := by
        cases e : r[i]? with
        | none => rw [e] at hq1; cases hq1
        | some q => exact ⟨q, rfl⟩
      rw [hq] at hq1 hq2
      have e1 : q.1 = q1 := Option.some.inj hq1
      have e2 : q.2 = q2 := Option.some.inj hq2
      subst e1 e2
      have s3 : Same H' (upd H' t (.tup [x, y])) := Same.new nt
      have s03 := sm.trans s3
      have hi : i < r.length := (List.getElem?_eq_some_iff.mp hq).1
      have lenB : ∀ rr : List (Rat × Line), ((Pl.lineShown l ++ rr.flatMap fun q => Pl.shown q.1 ++ Pl.lineShown q.2).map V.int).length = 4 + 6 * rr.length := fun rr => by
        rw [List.length_map, List.length_append]
        have : (rr.flatMap fun q => Pl.shown q.1 ++ Pl.lineShown q.2).length = 6 * rr.length := by
          induction rr with
          | nil => rfl
          | cons a rr ih =>
            rw [List.flatMap_cons, List.length_append, ih]
            simp only [Pl.shown, Pl.lineShown, List.length_append, List.length_cons, List.length_nil]
            omega
        rw [this]
        rfl
      have lenT : (r.take i).length ≤ 31 := by rw [List.length_take]; omega
      obtain ⟨px, rfl, sx⟩ := fx
      have eN3 := s3 _ _ eN'
      refine ⟨t, _, rfl, SqT.of upd_same, rfl, _, _, rfl, _, _, rfl, rfl, ?_⟩
      refine ⟨_, rfl, .inl ⟨rfl, _, SqL.of eN3⟩, _, rfl, N, px, _, _, rfl, rfl, eN3, sqt (Tp.of s03) sx, line1000 (by rw [lenB]; simp only [List.length_cons, List.length_nil]; omega), ?_⟩
      have tpN : Tp (upd H' t (.tup [.ref px, y])) (upd (upd H' t (.tup [.ref px, y])) N (.lst (((Pl.lineShown l ++ (r.take i).flatMap fun q => Pl.shown q.1 ++ Pl.lineShown q.2).map V.int) ++ [.int q.1.num, .int (q.1.den : Int)]))) := Tp.upd eN3
      have s04 : Same H (upd (upd H' t (.tup [.ref px, y])) N (.lst (((Pl.lineShown l ++ (r.take i).flatMap fun q => Pl.shown q.1 ++ Pl.lineShown q.2).map V.int) ++ [.int q.1.num, .int (q.1.den : Int)]))) := fun b o e => by
        rw [upd_ne (ne_of_none e nN)]
        exact s03 _ _ e
      refine ⟨_, rfl, .inl ⟨rfl, _, SqL.of upd_same⟩, _, rfl, y, q.2, rfl, ly.mono ((Tp.of s03).trans tpN), fun H5 M s5 nM eM => ?_⟩
      refine ⟨N, M, _, _, rfl, rfl, s5 _ _ upd_same, eM, line1000 (by rw [List.length_append, lenB, List.length_map]; simp only [List.length_cons, List.length_nil, Pl.lineShown, Pl.shown, List.length_append]; omega), ?_⟩
      refine ⟨_, _, rfl, fun b o e => ?_, ?_, ?_⟩
      · rw [upd_ne (ne_of_none e nN)]
        exact s5 _ _ (s04 _ _ e)
      · rw [upd_ne nNS.symm]
        refine s5 _ _ ?_
        rw [upd_ne nNS.symm]
        exact s3 _ _ eS
      · rw [upd_same, List.take_add_one, hq]
        simp only [Option.toList_some, List.flatMap_append, List.flatMap_cons, List.flatMap_nil, List.append_nil, List.map_append, List.append_assoc]
        rfl
    · rintro σ H' ⟨x2, x3, rfl, sm, eS, eN'⟩
      refine ⟨_, rfl, k H' N sm ?_⟩
      rw [eN', told_of, hbl, List.take_length]
def spHanded (K : PySem.W.Frag) (CW : Addr) : Sp := fun vs H Q E => ∃ (a b : Int) (m : Nat), vs = [.int a, .int b, .int m] ∧ a.natAbs < 2 ^ 100 ∧ b.natAbs < 2 ^ 100 ∧ (Pl.given (a, b) m = true → ∀ H' z, Same H H' → Fr K H' z (Pl.rat (a, b)) → Q z H') ∧ (Pl.given (a, b) m = false → E (.ref CW) none H)
abbrev CHanded (P : Program) (w : World) (K : PySem.W.Frag) (mg : Str → Option Value) (base : Heap) (CW : Addr) : Prop := Cal P w K mg base (CXo P w) 3 "fraction_handed_over" ["top", "bottom", "most"] (spHanded K CW)
theorem scHanded : FnScope ["top", "bottom", "most"] ["top", "bottom", "most"] (defScope (top 71)) := ⟨rfl, rfl, rfl, by decide +kernel, rfl, by decide +kernel, by decide +kernel⟩
theorem ok_handed (T : Txt K mg) (X1 : TX K mg CW C1) (D : Def K mg "fraction_handed_over" (top 71)) (G : Cal P w K mg base CX0 2 "ratio" ["top", "bottom"] (spRatio K)) : CHanded P w K mg base CW := by
  refine D.calX (k := 2) scHanded (fun _ _ _ _ _ _ us hl => match us, hl with | [_, _, _], _ => rfl) (fun vs H Q E h => ?_) (fun f cdv A outer s H vs Q E hr h => ?_)
  · obtain ⟨a, b, m, rfl, _⟩ := h
    rfl
  · obtain ⟨a, b, m, rfl, ba, bb, k1, k2⟩ := h
    refine ⟨_, pss_cons (ps_if (PW.pt (pw_or (pt_cmpR op_lt (pv 1) pe_int (nomark _)) (pw_or (pt_cmpR op_gt (pv 1) (pv 2) (nomark _)) (pw_or1 (pt_cmpR op_gt (pe_callB call_abs (by rfl) T.abs_ (by decide +kernel) (pa_cons (pv 0) pa_nil)) (pv 2) (nomark _)))))) (pss_one (ps_raise X1.wrong rfl X1.mgW)) pss_nil)
      (pss_one (ps_ret (pe_fn G hr pass0 (pa_cons (pv 0) (pa_cons (pv 1) pa_nil))))), ?_⟩
    refine ⟨_, rfl, _, _, rfl, rfl, _, rfl, ?_⟩
    by_cases h1 : b < 1
    · rw [decide_eq_true h1]
      refine iteT (iteT (k2 ?_))
      simp only [Pl.given, decide_eq_false (show ¬ (1 : Int) ≤ b by omega), Bool.false_and]
    · rw [decide_eq_false h1]
      refine iteF ⟨_, rfl, _, rfl, _, _, rfl, rfl, _, rfl, ?_⟩
      by_cases h2 : (m : Int) < b
      · rw [decide_eq_true h2]
        refine iteT (iteT (k2 ?_))
        simp only [Pl.given, decide_eq_false (show ¬ b ≤ (m : Int) by omega), Bool.false_and, Bool.and_false]
      · rw [decide_eq_false h2]
        refine iteF ⟨_, rfl, _, rfl, ?_⟩
        rw [abs_if]
        refine ⟨_, rfl, _, _, rfl, rfl, _, rfl, ?_⟩
        by_cases h3 : (m : Int) < (a.natAbs : Int)
        · rw [decide_eq_true h3]
          refine iteT (k2 ?_)
          simp only [Pl.given, decide_eq_false (show ¬ a.natAbs ≤ m by omega), Bool.and_false]
        · rw [decide_eq_false h3]
          refine iteF ⟨_, rfl, _, rfl, a, b, rfl, by omega, up_to ba (by decide), up_to bb (by decide), fun H' z sm fz => k1 ?_ H' z sm ?_⟩
          · simp only [Pl.given, decide_eq_true (show (1 : Int) ≤ b by omega), decide_eq_true (show b ≤ (m : Int) by omega), decide_eq_true (show a.natAbs ≤ m by omega), Bool.and_self]
          · rw [rat_eq]
            exact fz
def spHanded2 (K : PySem.W.Frag) (CW : Addr) (m : Nat) : Sp := fun vs H Q E => ∃ (a b : Int), vs = [.int a, .int b] ∧ a.natAbs < 2 ^ 100 ∧ b.natAbs < 2 ^ 100 ∧ (Pl.given (a, b) m = true → ∀ H' z, Same H H' → Fr K H' z (Pl.rat (a, b)) → Q z H') ∧ (Pl.given (a, b) m = false → E (.ref CW) none H)
abbrev CSlope (P : Program) (w : World) (K : PySem.W.Frag) (mg : Str → Option Value) (base : Heap) (CW : Addr) : Prop := Cal P w K mg base (CXo P w) 4 "slope_handed_over" ["top", "bottom"] (spHanded2 K CW 32767)
abbrev COther (P : Program) (w : World) (K : PySem.W.Frag) (mg : Str → Option Value) (base : Heap) (CW : Addr) : Prop := Cal P w K mg base (CXo P w) 4 "other_handed_over" ["top", "bottom"] (spHanded2 K CW 2147483647)
theorem scSlope : FnScope ["top", "bottom"] ["top", "bottom"] (defScope (top 72)) := ⟨rfl, rfl, rfl, by decide +kernel, rfl, by decide +kernel, by decide +kernel⟩
theorem ok_slope (T : Txt K mg) (D : Def K mg "slope_handed_over" (top 72)) (G : CHanded P w K mg base CW) : CSlope P w K mg base CW := by
  refine D.calX (k := 3) scSlope (fun _ _ _ _ _ _ us hl => match us, hl with | [_, _], _ => rfl) (fun vs H Q E h => ?_) (fun f cdv A outer s H vs Q E hr h => ?_)
  · obtain ⟨a, b, rfl, _⟩ := h
    rfl
  · obtain ⟨a, b, rfl, ba, bb, k1, k2⟩ := h
    refine ⟨_, pss_one (ps_ret (pe_fn G hr (passO (E2 := E) fun _ _ _ z => z) (pa_cons (pv 0) (pa_cons (pv 1) (pa_cons (pe_gl T.mSlope) pa_nil))))), ?_⟩
    exact ⟨_, rfl, _, rfl, a, b, 32767, rfl, ba, bb, k1, k2⟩
theorem scOther : FnScope ["top", "bottom"] ["top", "bottom"] (defScope (top 73)) := ⟨rfl, rfl, rfl, by decide +kernel, rfl, by decide +kernel, by decide +kernel⟩
theorem ok_other (T : Txt K mg) (D : Def K mg "other_handed_over" (top 73)) (G : CHanded P w K mg base CW) : COther P w K mg base CW := by
  refine D.calX (k := 3) scOther (fun _ _ _ _ _ _ us hl => match us, hl with | [_, _], _ => rfl) (fun vs H Q E h => ?_) (fun f cdv A outer s H vs Q E hr h => ?_)
  · obtain ⟨a, b, rfl, _⟩ := h
    rfl
  · obtain ⟨a, b, rfl, ba, bb, k1, k2⟩ := h
    refine ⟨_, pss_one (ps_ret (pe_fn G hr (passO (E2 := E) fun _ _ _ z => z) (pa_cons (pv 0) (pa_cons (pv 1) (pa_cons (pe_gl T.mElse) pa_nil))))), ?_⟩
    exact ⟨_, rfl, _, rfl, a, b, 2147483647, rfl, ba, bb, k1, k2⟩
def res2 (n : Int) (F G : Fn) : Fn := if n = 1 then Pl.add F G else if n = 3 then Pl.great F G else if n = 4 then Pl.less F G else Pl.compose F G
def spMade2 (K : PySem.W.Frag) (C Cfit : Addr) : Sp := fun vs H Q E => ∃ (n : Int) (v u : V) (F G : Fn), vs = [.int n, v, u] ∧ Form K C H v F ∧ Form K C H u G ∧ Fit F ∧ Fit G ∧ Outc K C Cfit H (fitted (res2 n F G)) Q E
abbrev CMade2 (P : Program) (w : World) (K : PySem.W.Frag) (mg : Str → Option Value) (base : Heap) (C Cfit : Addr) : Prop := Cal P w K mg base (CXo P w) 9 "made_of_two" ["number", "f", "g"] (spMade2 K C Cfit)
theorem scMade2 : FnScope ["number", "f", "g"] ["number", "f", "g"] (defScope (top 74)) := ⟨rfl, rfl, rfl, by decide +kernel, rfl, by decide +kernel, by decide +kernel⟩
theorem ok_made2 (T : Txt K mg) (D : Def K mg "made_of_two" (top 74)) (GT : CTotal P w K mg base C Cfit) (GG : Cal P w K mg base (CXo P w) 8 "greater" ["f", "g"] (spTwo K C Cfit Pl.great)) (GL : Cal P w K mg base (CXo P w) 8 "lesser" ["f", "g"] (spTwo K C Cfit Pl.less)) (GC : Cal P w K mg base (CXo P w) 8 "composition" ["f", "g"] (spTwo K C Cfit Pl.compose)) : CMade2 P w K mg base C Cfit := by
  refine D.calX (k := 8) scMade2 (fun _ _ _ _ _ _ us hl => match us, hl with | [_, _, _], _ => rfl) (fun vs H Q E h => ?_) (fun f cdv A outer s H vs Q E hr h => ?_)
  · obtain ⟨n, v, u, F, G, rfl, _⟩ := h
    rfl
  · obtain ⟨n, v, u, F, G, rfl, hf, hg, ff', fg, k⟩ := h
    have hr5 : Room 5 _ := hr.mono (by decide)
    refine ⟨_, pss_cons (ps_if (pt_cmpR op_eq (pv 0) (pe_gl T.cAdd) (nomark _)) (pss_one (ps_ret (pe_fn GT hr5 (passO (E2 := E) fun _ _ _ z => z) (pa_cons (pv 1) (pa_cons (pv 2) pa_nil))))) pss_nil)
      (pss_cons (ps_if (pt_cmpR op_eq (pv 0) (pe_gl T.cGreat) (nomark _)) (pss_one (ps_ret (pe_fn GG hr (passO (E2 := E) fun _ _ _ z => z) (pa_cons (pv 1) (pa_cons (pv 2) pa_nil))))) pss_nil)
      (pss_cons (ps_if (pt_cmpR op_eq (pv 0) (pe_gl T.cLess) (nomark _)) (pss_one (ps_ret (pe_fn GL hr (passO (E2 := E) fun _ _ _ z => z) (pa_cons (pv 1) (pa_cons (pv 2) pa_nil))))) pss_nil)
      (pss_one (ps_ret (pe_fn GC hr (passO (E2 := E) fun _ _ _ z => z) (pa_cons (pv 1) (pa_cons (pv 2) pa_nil))))))), ?_⟩
    unfold res2 at k
    refine ⟨_, rfl, rfl, _, rfl, ?_⟩
    by_cases h1 : n = 1
    · rw [if_pos h1] at k
      rw [decide_eq_true (p := V.int n = V.int 1) (by rw [h1])]
      exact iteT ⟨_, rfl, _, rfl, v, u, F, G, rfl, hf, hg, ff', fg, k⟩
    rw [if_neg h1] at k
    rw [decide_eq_false (p := V.int n = V.int 1) (fun z => h1 (V.int.inj z))]
    refine iteF ⟨_, rfl, rfl, _, rfl, ?_⟩
    by_cases h2 : n = 3
    · rw [if_pos h2] at k
      rw [decide_eq_true (p := V.int n = V.int 3) (by rw [h2])]
      exact iteT ⟨_, rfl, _, rfl, v, u, F, G, rfl, hf, hg, ff', fg, k⟩
    rw [if_neg h2] at k
    rw [decide_eq_false (p := V.int n = V.int 3) (fun z => h2 (V.int.inj z))]
    refine iteF ⟨_, rfl, rfl, _, rfl, ?_⟩
    by_cases h3 : n = 4
    · rw [if_pos h3] at k
      rw [decide_eq_true (p := V.int n = V.int 4) (by rw [h3])]
      exact iteT ⟨_, rfl, _, rfl, v, u, F, G, rfl, hf, hg, ff', fg, k⟩
    rw [if_neg h3] at k
    rw [decide_eq_false (p := V.int n = V.int 4) (fun z => h3 (V.int.inj z))]
    exact iteF ⟨_, rfl, _, rfl, v, u, F, G, rfl, hf, hg, ff', fg, k⟩
def spTold2 (K : PySem.W.Frag) (C : Addr) : Sp := fun vs H Q _ => ∃ (n : Int) (v u : V) (F G : Fn), vs = [.int n, v, u] ∧ Form K C H v F ∧ Form K C H u G ∧ Fit F ∧ Fit G ∧ ∀ H', Same H H' → Q (.int (if (if n = 8 then decide (F = G) else decide (Pl.great F G = G)) = true then 1 else 0)) H'
abbrev CTold2 (P : Program) (w : World) (K : PySem.W.Frag) (mg : Str → Option Value) (base : Heap) (C : Addr) : Prop := Cal P w K mg base CX0 7 "told_of_two" ["number", "f", "g"] (spTold2 K C)
theorem scTold2 : FnScope ["number", "f", "g", "is_so"] ["number", "f", "g"] (defScope (top 75)) := ⟨rfl, rfl, rfl, by decide +kernel, rfl, by decide +kernel, by decide +kernel⟩
theorem ok_told2 (T : Txt K mg) (D : Def K mg "told_of_two" (top 75)) (GS : Cal P w K mg base CX0 1 "is_same" ["f", "g"] (spSame K C)) (GN : Cal P w K mg base CX0 6 "is_nowhere_above" ["f", "g"] (spNowhere K C)) : CTold2 P w K mg base C := by
  refine D.cal (k := 6) scTold2 (fun _ _ _ _ _ _ us hl => match us, hl with | [_, _, _], _ => rfl) (fun vs H Q E h => ?_) (fun f cdv A outer s H vs Q E hr h => ?_)
  · obtain ⟨n, v, u, F, G, rfl, _⟩ := h
    rfl
  · obtain ⟨n, v, u, F, G, rfl, hf, hg, ff', fg, k⟩ := h
    have hr1 : Room 1 _ := hr.mono (by decide)
    refine ⟨_, pss_cons (ps_set (i := 3) scTold2.nd rfl (Or.inl rfl) (pe_ifExp (pt_cmpR op_eq (pv 0) (pe_gl T.cSame) (nomark _)) (pe_fn GS hr1 pass0 (pa_cons (pv 1) (pa_cons (pv 2) pa_nil))) (pe_fn GN hr pass0 (pa_cons (pv 1) (pa_cons (pv 2) pa_nil)))))
      (pss_one (ps_ret (pe_ifExp (pt_val (pv 3)) pe_int pe_int))), ?_⟩
    refine ⟨_, rfl, rfl, _, rfl, ?_⟩
    by_cases h1 : n = 8
    · rw [if_pos h1] at k
      rw [decide_eq_true (p := V.int n = V.int 8) (by rw [h1])]
      refine iteT ⟨_, rfl, _, rfl, v, u, F, G, rfl, hf, hg, ?_⟩
      refine ⟨_, rfl, _, rfl, ?_⟩
      have := k H (Same.refl H)
      by_cases e : F = G
      · rw [decide_eq_true e] at this ⊢
        exact iteT this
      · rw [decide_eq_false e] at this ⊢
        exact iteF this
    · rw [if_neg h1] at k
      rw [decide_eq_false (p := V.int n = V.int 8) (fun z => h1 (V.int.inj z))]
      refine iteF ⟨_, rfl, _, rfl, v, u, F, G, rfl, hf, hg, ff', fg, fun H' sm => ?_⟩
      refine ⟨_, rfl, _, rfl, ?_⟩
      have := k H' sm
      by_cases e : Pl.great F G = G
      · rw [decide_eq_true e] at this ⊢
        exact iteT this
      · rw [decide_eq_false e] at this ⊢
        exact iteF this
end
end SP
end
section
set_option Elab.async false
set_option linter.all false
set_option maxRecDepth 100000
set_option exponentiation.threshold 5000
namespace SP
open PySem PySem.Spec PyProof.Rows L2 Mt
open Pl (Line Fn)
inductive Out where
  | ok (F : Fn) | wrong | one | fit
def ofFit (F : Fn) : Out := if Pl.fits F = true then .ok F else .fit
def get1 (st : Pl.State) (i : Int) (k : Fn → Out) : Out := match Pl.get st i.toNat with
  | none => .wrong
  | some F => k F
def outOf (st : Pl.State) (n : Int) : List Int → Out
  | [a, b, c, d] => if Pl.given (a, b) 32767 = true then (if Pl.given (c, d) 2147483647 = true then ofFit ⟨[], [⟨Pl.rat (a, b), Pl.rat (c, d)⟩]⟩ else .wrong) else .wrong
  | [f, a, b] => get1 st f fun F => if Pl.given (a, b) 32767 = true then ofFit (Pl.scale (Pl.rat (a, b)) F) else .wrong
  | [f] => get1 st f fun F => if (Pl.rises F || Pl.falls F) = true then ofFit (Pl.inverse F) else .one
  | [f, g] => get1 st f fun F => get1 st g fun G => ofFit (res2 n F G)
  | _ => .wrong
def Sz (a : Int) : Prop := a.natAbs < 2 ^ 100
/-- the numbers of a making call, behind h -/
def Shp (n : Int) (ns : List Int) : Prop :=
  (n = 0 ∧ ∃ a b c d, ns = [a, b, c, d] ∧ Sz a ∧ Sz b ∧ Sz c ∧ Sz d) ∨ (n = 2 ∧ ∃ f a b, ns = [f, a, b] ∧ 0 ≤ f ∧ Sz a ∧ Sz b) ∨ (n = 6 ∧ ∃ f, ns = [f] ∧ 0 ≤ f) ∨ ((n = 1 ∨ n = 3 ∨ n = 4 ∨ n = 5) ∧ ∃ f g, ns = [f, g] ∧ 0 ≤ f ∧ 0 ≤ g)
inductive Tell where
  | say (l : List Int) | wrong | fit
def get2 (st : Pl.State) (i : Int) (k : Fn → Tell) : Tell := match Pl.get st i.toNat with
  | none => .wrong
  | some F => k F
def tellOf (st : Pl.State) (n : Int) : List Int → Tell
  | [f] => get2 st f fun F => .say (Pl.told F)
  | [f, a, b] => get2 st f fun F => if Pl.given (a, b) 2147483647 = true then (if Pl.small (F.value (Pl.rat (a, b))) 9223372036854775807 = true then .say (Pl.shown (F.value (Pl.rat (a, b)))) else .fit) else .wrong
  | [f, g] => get2 st f fun F => get2 st g fun G => .say [if (if n = 8 then decide (F = G) else decide (Pl.great F G = G)) = true then 1 else 0]
  | _ => .wrong
/-- the numbers of an asking call -/
def Ask (n : Int) (ns : List Int) : Prop :=
  (n = 10 ∧ ∃ f, ns = [f] ∧ 0 ≤ f) ∨ (n = 7 ∧ ∃ f a b, ns = [f, a, b] ∧ 0 ≤ f ∧ Sz a ∧ Sz b) ∨ ((n = 8 ∨ n = 9) ∧ ∃ f g, ns = [f, g] ∧ 0 ≤ f ∧ 0 ≤ g)
theorem no2 {b : Bool} (h : b = false) : ¬ b = true := by rw [h]; simp
theorem step_make {st : Pl.State} {n h : Int} {ns : List Int} {c : Pl.Call} (sh : Shp n ns) (hh : 0 ≤ h) (hc : PlNeutral.read [n :: h :: ns] = some c) :
    Pl.step st c = if 15 < h then Pl.no st 1 else match outOf st n ns with
      | .ok F => (st.set h.toNat (some F), .told [])
      | .wrong => Pl.no st 1
      | .one => Pl.no st 5
      | .fit => Pl.no st 2 := by
  have hk : ∀ F : Fn, Pl.keep st h.toNat F = match ofFit F with
      | .ok F => (st.set h.toNat (some F), .told [])
      | .wrong => Pl.no st 1
      | .one => Pl.no st 5
      | .fit => Pl.no st 2 := fun F => by
    unfold Pl.keep ofFit
    by_cases e : Pl.fits F = true
    · rw [if_pos e, if_pos e]
    · rw [if_neg e, if_neg e]
  have h16 : (Pl.SLOTS ≤ h.toNat) ↔ 15 < h := by unfold Pl.SLOTS; omega
  have two_ : ∀ (f g : Int) (p : Fn → Fn → Pl.State × Pl.Answer) (k : Fn → Fn → Out), (∀ F G, p F G = match k F G with
      | .ok F => (st.set h.toNat (some F), .told [])
      | .wrong => Pl.no st 1
      | .one => Pl.no st 5
      | .fit => Pl.no st 2) → Pl.two st h.toNat f.toNat g.toNat p = if 15 < h then Pl.no st 1 else match (get1 st f fun F => get1 st g fun G => k F G) with
      | .ok F => (st.set h.toNat (some F), .told [])
      | .wrong => Pl.no st 1
      | .one => Pl.no st 5
      | .fit => Pl.no st 2 := fun f g p k hp => by
    unfold Pl.two get1
    by_cases e : 15 < h
    · rw [if_pos (h16.mpr e), if_pos e]
    · rw [if_neg (fun z => e (h16.mp z)), if_neg e]
      cases Pl.get st f.toNat with
      | none => rfl
      | some F =>
        cases Pl.get st g.toNat with
        | none => rfl
        | some G => exact hp F G
  rcases sh with ⟨rfl, a, b, c', d, rfl, _⟩ | ⟨rfl, f, a, b, rfl, _⟩ | ⟨rfl, f, rfl, _⟩ | ⟨hn, f, g, rfl, _⟩
  · cases hc
    show (if Pl.SLOTS ≤ h.toNat ∨ Pl.given (a, b) Pl.STEEP = false ∨ Pl.given (c', d) Pl.WIDE = false then Pl.no st 1 else Pl.keep st h.toNat _) = _
    by_cases e : 15 < h
    · rw [if_pos (.inl (h16.mpr e)), if_pos e]
    · rw [if_neg e]
      simp only [outOf]
      cases e1 : Pl.given (a, b) 32767 with
      | false =>
        rw [if_pos (.inr (.inl e1))]
        rfl
      | true =>
        cases e2 : Pl.given (c', d) 2147483647 with
        | false =>
          rw [if_pos (.inr (.inr e2))]
          rfl
        | true =>
          rw [if_neg (by rintro (z | z | z)
                         · exact e (h16.mp z)
                         · rw [show Pl.given (a, b) Pl.STEEP = true from e1] at z; cases z
                         · rw [show Pl.given (c', d) Pl.WIDE = true from e2] at z; cases z), hk]
          rfl
  · cases hc
    show (if Pl.given (a, b) Pl.STEEP = false then Pl.no st 1 else Pl.two st h.toNat f.toNat f.toNat fun x _ => Pl.keep st h.toNat (Pl.scale (Pl.rat (a, b)) x)) = _
    cases e1 : Pl.given (a, b) 32767 with
    | false =>
      rw [if_pos (show Pl.given (a, b) Pl.STEEP = false from e1)]
      simp only [outOf, e1]
      split
      · rfl
      · unfold get1
        cases Pl.get st f.toNat <;> rfl
    | true =>
      rw [if_neg (by rw [show Pl.given (a, b) Pl.STEEP = true from e1]; simp), two_ f f _ (fun F _ => ofFit (Pl.scale (Pl.rat (a, b)) F)) (fun F _ => hk _)]
      simp only [outOf, e1, if_true]
      unfold get1
      cases Pl.get st f.toNat <;> rfl
  · cases hc
    show (Pl.two st h.toNat f.toNat f.toNat fun x _ => if (Pl.rises x || Pl.falls x) = true then Pl.keep st h.toNat (Pl.inverse x) else Pl.no st 5) = _
    rw [two_ f f _ (fun F _ => if (Pl.rises F || Pl.falls F) = true then ofFit (Pl.inverse F) else .one) (fun F _ => by
      by_cases e : (Pl.rises F || Pl.falls F) = true
      · rw [if_pos e, if_pos e, hk]
      · rw [if_neg e, if_neg e])]
    simp only [outOf]
    unfold get1
    cases Pl.get st f.toNat <;> rfl
  · rcases hn with rfl | rfl | rfl | rfl
    · cases hc
      exact two_ f g _ (fun F G => ofFit (res2 1 F G)) (fun F G => hk _)
    · cases hc
      exact two_ f g _ (fun F G => ofFit (res2 3 F G)) (fun F G => hk _)
    · cases hc
      exact two_ f g _ (fun F G => ofFit (res2 4 F G)) (fun F G => hk _)
    · cases hc
      exact two_ f g _ (fun F G => ofFit (res2 5 F G)) (fun F G => hk _)
theorem step_tell {st : Pl.State} {n : Int} {ns : List Int} {c : Pl.Call} (sh : Ask n ns) (hc : PlNeutral.read [n :: ns] = some c) :
    Pl.step st c = match tellOf st n ns with
      | .say l => (st, .told l)
      | .wrong => Pl.no st 1
      | .fit => Pl.no st 2 := by
  rcases sh with ⟨rfl, f, rfl, _⟩ | ⟨rfl, f, a, b, rfl, _⟩ | ⟨hn, f, g, rfl, _⟩
  · cases hc
    simp only [tellOf, get2, Pl.step]
    cases Pl.get st f.toNat <;> rfl
  · cases hc
    simp only [tellOf, get2, Pl.step]
    cases Pl.get st f.toNat with
    | none => rfl
    | some F =>
      simp only
      cases e1 : Pl.given (a, b) 2147483647 with
      | false =>
        rw [if_pos (show Pl.given (a, b) Pl.WIDE = false from e1)]
        rfl
      | true =>
        rw [if_neg (by rw [show Pl.given (a, b) Pl.WIDE = true from e1]; simp)]
        simp only [if_true]
        by_cases e2 : Pl.small (F.value (Pl.rat (a, b))) 9223372036854775807 = true
        · rw [if_pos e2, if_pos e2]
        · rw [if_neg e2, if_neg e2]
  · rcases hn with rfl | rfl
    · cases hc
      simp only [tellOf, get2, Pl.step, Pl.both]
      cases Pl.get st f.toNat with
      | none => rfl
      | some F => cases Pl.get st g.toNat <;> rfl
    · cases hc
      simp only [tellOf, get2, Pl.step, Pl.both]
      cases Pl.get st f.toNat with
      | none => rfl
      | some F => cases Pl.get st g.toNat <;> rfl
end SP
end
section
set_option Elab.async false
set_option linter.all false
set_option maxRecDepth 100000
set_option exponentiation.threshold 5000
namespace SP
open PySem PySem.Spec PyProof.Rows L2 Mt
open Pl (Line Fn)
def kf (d : Addr) : List (Str × V) := putF "kept" (.ref d) []
theorem kf_k (d : Addr) : (kf d).lookup ("kept" : Str) = some (.ref d) := by
  unfold kf
  rw [lookup_putF, if_pos rfl]
theorem kf_no (d : Addr) {m : Str} (h : ¬ m = "kept") : (kf d).lookup m = none := by
  unfold kf
  rw [lookup_putF, if_neg h]
  rfl
structure KpX (K : PySem.W.Frag) (C CK : Addr) (H : Hp) (p d : Addr) (kvs : List (Key × V)) (st : Pl.State) : Prop where
  ins : ∃ dx, H p = some (.ins CK dx (kf d))
  hd : H d = some (.dK kvs)
  len : st.length = 16
  yes : ∀ (n : Nat) (v : V), valV kvs (Sum.inl (n : Int)) = some v → ∃ F, Pl.get st n = some F ∧ Form K C H v F ∧ Fit F
  no : ∀ n : Nat, valV kvs (Sum.inl (n : Int)) = none → Pl.get st n = none
section
variable {K : PySem.W.Frag} {C CK : Addr} {H H' : Hp} {p d : Addr} {kvs : List (Key × V)} {st : Pl.State}
theorem KpX.mono (s : Same H H') (h : KpX K C CK H p d kvs st) : KpX K C CK H' p d kvs st := by
  obtain ⟨⟨dx, h1⟩, h2, h3, h4, h5⟩ := h
  refine ⟨⟨dx, s _ _ h1⟩, s _ _ h2, h3, fun n v e => ?_, h5⟩
  obtain ⟨F, e1, e2, e3⟩ := h4 n v e
  exact ⟨F, e1, e2.mono s, e3⟩
theorem Form.updD {v : V} {F : Fn} {o : HO} (hd : H d = some (.dK kvs)) (h : Form K C H v F) : Form K C (upd H d o) v F := by
  obtain ⟨p, lb, ll, e, ⟨dx, h1⟩, ⟨bs, h2, h3⟩, ⟨ls, h4, h5⟩, ne⟩ := h
  have tp : Tp H (upd H d o) := ⟨fun b ys e => by rw [upd_ne (ne_of e hd (by intro z; cases z))]; exact e, fun b o ys e => by rw [upd_ne (ne_of e hd (by intro z; cases z))]; exact e⟩
  exact ⟨p, lb, ll, e, ⟨dx, by rw [upd_ne (ne_of h1 hd (by intro z; cases z))]; exact h1⟩, ⟨bs, by rw [upd_ne (ne_of h2 hd (by intro z; cases z))]; exact h2, frs_mono tp h3⟩, ⟨ls, by rw [upd_ne (ne_of h4 hd (by intro z; cases z))]; exact h4, lns_mono tp h5⟩, ne⟩
theorem KpX.put {v : V} {F : Fn} {h : Int} (k : KpX K C CK H p d kvs st) (hv : Form K C H v F) (hF : Fit F) (h0 : 0 ≤ h) (h1 : h ≤ 15) : KpX K C CK (upd H d (.dK (putK kvs (Sum.inl h) v))) p d (putK kvs (Sum.inl h) v) (st.set h.toNat (some F)) := by
  obtain ⟨⟨dx, k1⟩, k2, k3, k4, k5⟩ := k
  have hlt : h.toNat < st.length := by omega
  refine ⟨⟨dx, by rw [upd_ne (ne_of k1 k2 (by intro z; cases z))]; exact k1⟩, upd_same, by rw [List.length_set]; exact k3, fun n u e => ?_, fun n e => ?_⟩
  · rw [valV_put] at e
    by_cases hn : (n : Int) = h
    · rw [if_pos (by rw [hn])] at e
      cases e
      refine ⟨F, ?_, hv.updD k2, hF⟩
      have : h.toNat = n := by omega
      rw [this] at hlt ⊢
      unfold Pl.get
      rw [List.getElem?_set_self hlt]
      rfl
    · rw [if_neg (fun z => hn (Sum.inl.inj z))] at e
      obtain ⟨G, e1, e2, e3⟩ := k4 n u e
      refine ⟨G, ?_, e2.updD k2, e3⟩
      unfold Pl.get at e1 ⊢
      rw [List.getElem?_set_ne (by omega)]
      exact e1
  · rw [valV_put] at e
    by_cases hn : (n : Int) = h
    · rw [if_pos (by rw [hn])] at e
      cases e
    · rw [if_neg (fun z => hn (Sum.inl.inj z))] at e
      have := k5 n e
      unfold Pl.get at this ⊢
      rw [List.getElem?_set_ne (by omega)]
      exact this
end
structure TK (K : PySem.W.Frag) (mg : Str → Option Value) (CK : Addr) : Prop where
  cl : Cls K CK
  nK : NoAttr K CK "kept"
section
variable {P : Program} {w : World} {K : PySem.W.Frag} {mg : Str → Option Value} {base : Heap} {C Cfit CW C1 CK : Addr}
theorem start_none (n : Nat) : Pl.get Pl.start n = none := by
  unfold Pl.get Pl.start
  rw [List.getElem?_replicate]
  split <;> rfl
abbrev sInitK : Stmt := inClass (top 76) 0
def spInitK (K : PySem.W.Frag) (C CK : Addr) : Sp := fun vs H Q _ => ∃ p dx, vs = [.ref p] ∧ H p = some (.ins CK dx []) ∧ ∀ H' d, H d = none → KpX K C CK H' p d [] Pl.start → (∀ b o, H b = some o → b ≠ p → H' b = some o) → Q .non H'
theorem scInitK : FnScope ["self"] ["self"] (defScope sInitK) := ⟨rfl, rfl, rfl, by decide +kernel, rfl, by decide +kernel, by decide +kernel⟩
theorem ok_initK {f : Addr} {fd : FuncData} (TK : TK K mg CK) (F : Fun K "__init__" "Keeper.__init__" sInitK f fd) : FnOk P w K mg base CX0 1 f fd ["self"] (spInitK K C CK) := by
  refine F.ok scInitK (fun vs H Q E h => ?_) (fun cdv A outer s H vs Q E hr h => ?_)
  · obtain ⟨p, dx, rfl, _⟩ := h
    rfl
  · obtain ⟨p, dx, rfl, hp, k⟩ := h
    refine ⟨_, pss_one (ps_fld (pv 0) pe_dnewK rfl), ?_⟩
    refine fun d nd => ⟨_, rfl, p, CK, dx, [], rfl, (Same.new nd) _ _ hp, TK.cl, TK.nK, (by show 0 < 1000; decide), ?_⟩
    have ndp : d ≠ p := fun z => by rw [z, hp] at nd; cases nd
    refine k _ d nd ⟨⟨dx, upd_same⟩, by rw [upd_ne ndp, upd_same], rfl, fun n v e => ?_, fun n _ => start_none n⟩ fun b o e hbp => ?_
    · rw [valV_nil] at e
      cases e
    · rw [upd_ne hbp, upd_ne (ne_of_none e nd)]
      exact e
abbrev sFnAt : Stmt := inClass (top 76) 1
def spFnAt (K : PySem.W.Frag) (C CK CW : Addr) : Sp := fun vs H Q E => ∃ (p d : Addr) (kvs : List (Key × V)) (st : Pl.State) (i : Int), vs = [.ref p, .int i] ∧ 0 ≤ i ∧ KpX K C CK H p d kvs st ∧ (∀ z F, Pl.get st i.toNat = some F → Form K C H z F → Fit F → Q z H) ∧ (Pl.get st i.toNat = none → E (.ref CW) none H)
abbrev CFnAt (P : Program) (w : World) (K : PySem.W.Frag) (mg : Str → Option Value) (base : Heap) (C CK CW : Addr) : Prop := MCal P w K mg base (CXo P w) 1 CK "function_at" ["self", "place"] (spFnAt K C CK CW)
theorem scFnAt : FnScope ["self", "place"] ["self", "place"] (defScope sFnAt) := ⟨rfl, rfl, rfl, by decide +kernel, rfl, by decide +kernel, by decide +kernel⟩
theorem ok_fnAt (TK : TK K mg CK) (X1 : TX K mg CW C1) (D : MDef K CK "function_at" "Keeper.function_at" sFnAt) : CFnAt P w K mg base C CK CW := by
  refine D.calX (k := 0) scFnAt (fun _ _ _ _ _ _ us hl => match us, hl with | [_, _], _ => rfl) (fun vs H Q E h => ?_) (fun f cdv A outer s H vs Q E hr h => ?_)
  · obtain ⟨p, d, kvs, st, i, rfl, _⟩ := h
    rfl
  · obtain ⟨p, d, kvs, st, i, rfl, hi, kp, k1, k2⟩ := h
    obtain ⟨dx, hp⟩ := kp.ins
    refine ⟨_, pss_cons (ps_if (pt_cmp (pc_dnotin (hu_of hr) (pv 1) (pe_fld (pv 0) rfl))) (pss_one (ps_raise X1.wrong rfl X1.mgW)) pss_nil) (pss_one (ps_ret (pe_dget (hu_of hr) (pe_fld (pv 0) rfl) (pv 1) (fun _ _ => rfl)))), ?_⟩
    have ei : ((i.toNat : Nat) : Int) = i := by omega
    refine ⟨_, rfl, _, rfl, p, CK, dx, _, _, rfl, hp, TK.cl, TK.nK, kf_k d, d, _, rfl, DGet.k (k := Sum.inl i) kp.hd, _, rfl, ?_⟩
    cases e : valV kvs (Sum.inl i) with
    | none =>
      refine iteT (k2 ?_)
      refine kp.no _ ?_
      rw [ei]
      exact e
    | some v =>
      obtain ⟨F, e1, e2, e3⟩ := kp.yes i.toNat v (by rw [ei]; exact e)
      have g := DGet.k (k := Sum.inl i) kp.hd
      rw [e] at g
      exact iteF ⟨_, rfl, p, CK, dx, _, _, rfl, hp, TK.cl, TK.nK, kf_k d, _, rfl, d, v, rfl, g, k1 v F e1 e2 e3⟩
def OutC (K : PySem.W.Frag) (C Cfit CW C1 : Addr) (H : Hp) (o : Out) (Q : VK) (E : XK) : Prop :=
  (∀ F, o = .ok F → ∀ H' z, Same H H' → Form K C H' z F → Fit F → Q z H') ∧ (o = .wrong → ∀ H', Same H H' → E (.ref CW) none H') ∧ (o = .one → ∀ H', Same H H' → E (.ref C1) none H') ∧ (o = .fit → ∀ H', Same H H' → E (.ref Cfit) none H')
theorem OutC.later {H H' : Hp} {o : Out} {Q : VK} {E : XK} (h : OutC K C Cfit CW C1 H o Q E) (s : Same H H') : OutC K C Cfit CW C1 H' o Q E :=
  ⟨fun F e H2 z s2 => h.1 F e H2 z (s.trans s2), fun e H2 s2 => h.2.1 e H2 (s.trans s2), fun e H2 s2 => h.2.2.1 e H2 (s.trans s2), fun e H2 s2 => h.2.2.2 e H2 (s.trans s2)⟩
theorem outc_of {H : Hp} {F : Fn} {Q : VK} {E : XK} (h : OutC K C Cfit CW C1 H (ofFit F) Q E) (c : Canon F) : Outc K C Cfit H (fitted F) Q E := by
  refine ⟨fun H' v G e s f => ?_, fun e H' s => ?_⟩
  · obtain ⟨e1, e2⟩ := fit_of e
    subst e1
    exact h.1 _ (if_pos e2) H' v s f ⟨c, e2⟩
  · have e2 : ¬ Pl.fits F = true := fun z => by unfold fitted at e; rw [if_pos z] at e; cases e
    exact h.2.2.2 (if_neg e2) H' s
theorem given_bd {a b : Int} {m : Nat} (h : Pl.given (a, b) m = true) (hm : m < 2 ^ 31) : Bd 31 (Pl.rat (a, b)) := by
  simp only [Pl.given, Bool.and_eq_true, decide_eq_true_eq] at h
  rw [rat_eq]
  exact bd_divInt (by show b ≠ 0; omega) (Nat.lt_of_le_of_lt h.2.2 hm) (Nat.lt_of_le_of_lt (show b.natAbs ≤ m by omega) hm)
theorem canon_res2 (n : Int) {F G : Fn} (hF : Fit F) (hG : Fit G) : Canon (res2 n F G) := by
  unfold res2
  split
  · exact canon_add hF.1 hG.1
  · split
    · exact canon_great hF.1 hG.1
    · split
      · exact canon_less hF.1 hG.1
      · exact canon_compose hF.1 hG.1
abbrev sMade : Stmt := inClass (top 76) 2
def spMade (K : PySem.W.Frag) (C CK Cfit CW C1 : Addr) : Sp := fun vs H Q E => ∃ (p d nl : Addr) (kvs : List (Key × V)) (st : Pl.State) (n : Int) (ns : List Int), vs = [.ref p, .int n, .ref nl] ∧ KpX K C CK H p d kvs st ∧ H nl = some (.lst (ns.map V.int)) ∧ Shp n ns ∧ OutC K C Cfit CW C1 H (outOf st n ns) Q E
abbrev CMade (P : Program) (w : World) (K : PySem.W.Frag) (mg : Str → Option Value) (base : Heap) (C CK Cfit CW C1 : Addr) : Prop := MCal P w K mg base (CXo P w) 10 CK "made" ["self", "number", "numbers"] (spMade K C CK Cfit CW C1)
abbrev nMade : List Str := ["self", "number", "numbers", "slope", "f"]
theorem scMade : FnScope nMade ["self", "number", "numbers"] (defScope sMade) := ⟨rfl, rfl, rfl, by decide +kernel, rfl, by decide +kernel, by decide +kernel⟩
theorem ok_made (T : Txt K mg) (TK : TK K mg CK) (D : MDef K CK "made" "Keeper.made" sMade) (GF : CFnAt P w K mg base C CK CW) (GS : CSlope P w K mg base CW) (GO : COther P w K mg base CW) (G1 : CSingle P w K mg base C Cfit) (GM : CMultiple P w K mg base C Cfit)
    (GI : Cal P w K mg base (CXo P w) 8 "inverse" ["f"] (spInverse K C Cfit C1)) (G2 : CMade2 P w K mg base C Cfit) : CMade P w K mg base C CK Cfit CW C1 := by
  refine D.calX (k := 9) scMade (fun _ _ _ _ _ _ us hl => match us, hl with | [_, _, _], _ => rfl) (fun vs H Q E h => ?_) (fun f cdv A outer s H vs Q E hr h => ?_)
  · obtain ⟨p, d, nl, kvs, st, n, ns, rfl, _⟩ := h
    rfl
  · obtain ⟨p, d, nl, kvs, st, n, ns, rfl, kp, hn, sh, k⟩ := h
    have hr1 : Room 1 _ := hr.mono (by decide)
    have hr4 : Room 4 _ := hr.mono (by decide)
    have hr5 : Room 5 _ := hr.mono (by decide)
    have hr8 : Room 8 _ := hr.mono (by decide)
    refine ⟨_, pss_cons (ps_if (pt_cmpR op_eq (pv 1) (pe_gl T.cLine) (nomark _))
        (pss_cons (ps_set (i := 3) scMade.nd rfl (Or.inl rfl) (pe_fn GS hr4 (passO (E2 := E) fun _ _ _ z => z) (pa_cons (pe_ix ix_list (pv 2) pe_int (fun _ _ => rfl)) (pa_cons (pe_ix ix_list (pv 2) pe_int (fun _ _ => rfl)) pa_nil))))
        (pss_one (ps_ret (pe_fn G1 hr4 (passO (E2 := E) fun _ _ _ z => z) (pa_cons (pv 3) (pa_cons (pe_fn GO hr4 (passO (E2 := E) fun _ _ _ z => z) (pa_cons (pe_ix ix_list (pv 2) pe_int (fun _ _ => rfl)) (pa_cons (pe_ix ix_list (pv 2) pe_int (fun _ _ => rfl)) pa_nil))) pa_nil)))))) pss_nil)
      (pss_cons (ps_set (i := 4) scMade.nd rfl (Or.inl rfl) (pe_mth GF TK.cl hr1 (passO (E2 := E) fun _ _ _ z => z) (pv 0) (pa_cons (pe_ix ix_list (pv 2) pe_int (fun _ _ => rfl)) pa_nil)))
      (pss_cons (ps_if (pt_cmpR op_eq (pv 1) (pe_gl T.cScale) (nomark _)) (pss_one (ps_ret (pe_fn GM hr5 (passO (E2 := E) fun _ _ _ z => z) (pa_cons (pv 4) (pa_cons (pe_fn GS hr4 (passO (E2 := E) fun _ _ _ z => z) (pa_cons (pe_ix ix_list (pv 2) pe_int (fun _ _ => rfl)) (pa_cons (pe_ix ix_list (pv 2) pe_int (fun _ _ => rfl)) pa_nil))) pa_nil))))) pss_nil)
      (pss_cons (ps_if (pt_cmpR op_eq (pv 1) (pe_gl T.cInverse) (nomark _)) (pss_one (ps_ret (pe_fn GI hr8 (passO (E2 := E) fun _ _ _ z => z) (pa_cons (pv 4) pa_nil)))) pss_nil)
      (pss_one (ps_ret (pe_fn G2 hr (passO (E2 := E) fun _ _ _ z => z) (pa_cons (pv 1) (pa_cons (pv 4) (pa_cons (pe_mth GF TK.cl hr1 (passO (E2 := E) fun _ _ _ z => z) (pv 0) (pa_cons (pe_ix ix_list (pv 2) pe_int (fun _ _ => rfl)) pa_nil)) pa_nil))))))))), ?_⟩
    obtain ⟨dx, hp⟩ := kp.ins
    rcases sh with ⟨rfl, a, b, c, e, rfl, za, zb, zc, ze⟩ | ⟨rfl, i, a, b, rfl, hi, za, zb⟩ | ⟨rfl, i, rfl, hi⟩ | ⟨hnn, i, j, rfl, hi, hj⟩
    · -- line
      refine ⟨_, rfl, rfl, _, rfl, iteT ?_⟩
      refine ⟨_, rfl, ⟨_, _, _, _, rfl, rfl, SqL.of hn, atI_nat (j := 0) rfl, _, rfl, ⟨_, _, _, _, rfl, rfl, SqL.of hn, atI_nat (j := 1) rfl, ⟨a, b, rfl, za, zb, fun g1 H1 z1 s1 f1 => ?_, fun g1 => k.2.1 (by simp only [outOf, g1]; rfl) _ (Same.refl H)⟩⟩⟩⟩
      have hn1 := s1 _ _ hn
      refine ⟨_, rfl, _, rfl, ⟨_, _, _, _, rfl, rfl, SqL.of hn1, atI_nat (j := 2) rfl, _, rfl, ⟨_, _, _, _, rfl, rfl, SqL.of hn1, atI_nat (j := 3) rfl, ⟨c, e, rfl, zc, ze, fun g2 H2 z2 s2 f2 => ?_, fun g2 => k.2.1 (by simp only [outOf, g1, g2]; rfl) _ s1⟩⟩⟩⟩
      refine ⟨z1, z2, Pl.rat (a, b), Pl.rat (c, e), rfl, f1.mono (Tp.of s2), f2, outc_of (CW := CW) (C1 := C1) ?_ (canon_single _)⟩
      have k' := k.later (s1.trans s2)
      simp only [outOf, g1, g2, if_true] at k'
      exact k'
    · -- scale
      refine ⟨_, rfl, rfl, _, rfl, iteF ?_⟩
      refine ⟨_, rfl, p, dx, _, rfl, hp, kf_no d (by decide +kernel), _, rfl, ⟨_, _, _, _, rfl, rfl, SqL.of hn, atI_nat (j := 0) rfl, ⟨p, d, kvs, st, i, rfl, hi, kp, fun z F e1 e2 e3 => ?_, fun e1 => k.2.1 (by simp only [outOf, get1, e1]) _ (Same.refl H)⟩⟩⟩
      refine ⟨_, rfl, rfl, _, rfl, iteT ?_⟩
      refine ⟨_, rfl, _, rfl, ⟨_, _, _, _, rfl, rfl, SqL.of hn, atI_nat (j := 1) rfl, _, rfl, ⟨_, _, _, _, rfl, rfl, SqL.of hn, atI_nat (j := 2) rfl, ⟨a, b, rfl, za, zb, fun g1 H1 z1 s1 f1 => ?_, fun g1 => k.2.1 (by simp only [outOf, get1, e1, g1]; rfl) _ (Same.refl H)⟩⟩⟩⟩
      refine ⟨z, z1, F, Pl.rat (a, b), rfl, e2.mono s1, f1, e3, bd_mono (given_bd g1 (by decide)) (by decide), outc_of (CW := CW) (C1 := C1) ?_ (canon_scale _ e3.1)⟩
      have k' := k.later s1
      simp only [outOf, get1, e1, g1, if_true] at k'
      exact k'
    · -- inverse
      refine ⟨_, rfl, rfl, _, rfl, iteF ?_⟩
      refine ⟨_, rfl, p, dx, _, rfl, hp, kf_no d (by decide +kernel), _, rfl, ⟨_, _, _, _, rfl, rfl, SqL.of hn, atI_nat (j := 0) rfl, ⟨p, d, kvs, st, i, rfl, hi, kp, fun z F e1 e2 e3 => ?_, fun e1 => k.2.1 (by simp only [outOf, get1, e1]) _ (Same.refl H)⟩⟩⟩
      refine ⟨_, rfl, rfl, _, rfl, iteF ?_⟩
      refine ⟨_, rfl, rfl, _, rfl, iteT ?_⟩
      simp only [outOf, get1, e1] at k
      refine ⟨_, rfl, z, F, rfl, e2, e3, fun g1 => outc_of (CW := CW) (C1 := C1) ?_ (canon_inverse e3.1 g1), fun g1 => ?_⟩
      · rw [if_pos g1] at k
        exact k
      · rw [if_neg (no2 g1)] at k
        exact k.2.2.1 rfl
    · -- two functions
      have n0 : ¬ V.int n = V.int 0 := fun z => by have := V.int.inj z; omega
      have n2 : ¬ V.int n = V.int 2 := fun z => by have := V.int.inj z; omega
      have n6 : ¬ V.int n = V.int 6 := fun z => by have := V.int.inj z; omega
      refine ⟨_, rfl, rfl, _, rfl, ?_⟩
      rw [decide_eq_false n0]
      refine iteF ⟨_, rfl, p, dx, _, rfl, hp, kf_no d (by decide +kernel), _, rfl, ⟨_, _, _, _, rfl, rfl, SqL.of hn, atI_nat (j := 0) rfl, ⟨p, d, kvs, st, i, rfl, hi, kp, fun z F e1 e2 e3 => ?_, fun e1 => k.2.1 (by simp only [outOf, get1, e1]) _ (Same.refl H)⟩⟩⟩
      refine ⟨_, rfl, rfl, _, rfl, ?_⟩
      rw [decide_eq_false n2]
      refine iteF ⟨_, rfl, rfl, _, rfl, ?_⟩
      rw [decide_eq_false n6]
      refine iteF ⟨_, rfl, _, rfl, _, rfl, p, dx, _, rfl, hp, kf_no d (by decide +kernel), _, rfl, ⟨_, _, _, _, rfl, rfl, SqL.of hn, atI_nat (j := 1) rfl, ⟨p, d, kvs, st, j, rfl, hj, kp, fun z2 G e4 e5 e6 => ?_, fun e4 => k.2.1 (by simp only [outOf, get1, e1, e4]) _ (Same.refl H)⟩⟩⟩
      simp only [outOf, get1, e1, e4] at k
      exact ⟨n, z, z2, F, G, rfl, e2, e5, e3, e6, outc_of (CW := CW) (C1 := C1) k (canon_res2 n e3 e6)⟩
abbrev sMake : Stmt := inClass (top 76) 3
/-- all but the dict at d stays -/
def But (d : Addr) (H H' : Hp) : Prop := ∀ b o, H b = some o → b ≠ d → H' b = some o
def spMake (K : PySem.W.Frag) (C CK Cfit CW C1 : Addr) : Sp := fun vs H Q E => ∃ (p d nl : Addr) (kvs : List (Key × V)) (st : Pl.State) (n h : Int) (ns : List Int), vs = [.ref p, .int n, .int h, .ref nl] ∧ KpX K C CK H p d kvs st ∧ kvs.length ≤ 3000 ∧ H nl = some (.lst (ns.map V.int)) ∧ Shp n ns ∧ 0 ≤ h ∧
  (15 < h → ∀ H', Same H H' → E (.ref CW) none H') ∧ (h ≤ 15 → (∀ F, outOf st n ns = .ok F → ∀ H' kvs', KpX K C CK H' p d kvs' (st.set h.toNat (some F)) → kvs'.length ≤ kvs.length + 1 → But d H H' → Q .non H') ∧
    (outOf st n ns = .wrong → ∀ H', Same H H' → E (.ref CW) none H') ∧ (outOf st n ns = .one → ∀ H', Same H H' → E (.ref C1) none H') ∧ (outOf st n ns = .fit → ∀ H', Same H H' → E (.ref Cfit) none H'))
abbrev CMake (P : Program) (w : World) (K : PySem.W.Frag) (mg : Str → Option Value) (base : Heap) (C CK Cfit CW C1 : Addr) : Prop := MCal P w K mg base (CXo P w) 11 CK "make" ["self", "number", "place", "numbers"] (spMake K C CK Cfit CW C1)
theorem scMake : FnScope ["self", "number", "place", "numbers"] ["self", "number", "place", "numbers"] (defScope sMake) := ⟨rfl, rfl, rfl, by decide +kernel, rfl, by decide +kernel, by decide +kernel⟩
theorem ok_make (T : Txt K mg) (TK : TK K mg CK) (X1 : TX K mg CW C1) (D : MDef K CK "make" "Keeper.make" sMake) (GM : CMade P w K mg base C CK Cfit CW C1) : CMake P w K mg base C CK Cfit CW C1 := by
  refine D.calX (k := 10) scMake (fun _ _ _ _ _ _ us hl => match us, hl with | [_, _, _, _], _ => rfl) (fun vs H Q E h => ?_) (fun f cdv A outer s H vs Q E hr h => ?_)
  · obtain ⟨p, d, nl, kvs, st, n, h, ns, rfl, _⟩ := h
    rfl
  · obtain ⟨p, d, nl, kvs, st, n, h, ns, rfl, kp, nk, hn, sh, hh, k1, k2⟩ := h
    refine ⟨_, pss_cons (ps_if (pt_cmpR op_gt (pv 2) (pe_gl T.cLast) (nomark _)) (pss_one (ps_raise X1.wrong rfl X1.mgW)) pss_nil)
      (pss_one (ps_dput (hu_of hr) (pe_fld (pv 0) rfl) (pv 2) (pe_mth GM TK.cl hr (passO (E2 := E) fun _ _ _ z => z) (pv 0) (pa_cons (pv 1) (pa_cons (pv 3) pa_nil))) rfl)), ?_⟩
    obtain ⟨dx, hp⟩ := kp.ins
    refine ⟨_, rfl, _, _, rfl, rfl, _, rfl, ?_⟩
    by_cases h15 : 15 < h
    · rw [decide_eq_true h15]
      exact iteT (k1 h15 _ (Same.refl H))
    · rw [decide_eq_false h15]
      obtain ⟨q1, q2, q3, q4⟩ := k2 (by omega)
      refine iteF ⟨_, rfl, p, dx, _, rfl, hp, kf_no d (by decide +kernel), _, rfl, _, rfl, p, d, nl, kvs, st, n, ns, rfl, kp, hn, sh, ⟨fun F e1 H1 z s1 fz fF => ?_, q2, q3, q4⟩⟩
      have kp1 := kp.mono s1
      refine ⟨_, rfl, p, CK, dx, _, _, rfl, s1 _ _ hp, TK.cl, TK.nK, kf_k d, _, rfl, d, _, rfl, DPut.k (k := Sum.inl h) kp1.hd (Nat.lt_of_le_of_lt nk (by decide)), ?_⟩
      refine q1 F e1 _ _ (kp1.put fz fF hh (by omega)) (length_putK _ _ _) fun b o e hb => ?_
      rw [upd_ne hb]
      exact s1 _ _ e
end
end SP
end
section
set_option Elab.async false
set_option linter.all false
set_option maxRecDepth 100000
set_option exponentiation.threshold 5000
namespace SP
open PySem PySem.Spec PyProof.Rows L2 Mt
open Pl (Line Fn)
section
variable {P : Program} {w : World} {K : PySem.W.Frag} {mg : Str → Option Value} {base : Heap} {C Cfit CW C1 CK : Addr}
abbrev sTold : Stmt := inClass (top 76) 4
def TellC (Cfit CW : Addr) (H : Hp) (o : Tell) (Q : VK) (E : XK) : Prop :=
  (∀ l, o = .say l → ∀ H' r, Same H H' → H' r = some (.lst (l.map V.int)) → Q (.ref r) H') ∧ (o = .wrong → ∀ H', Same H H' → E (.ref CW) none H') ∧ (o = .fit → ∀ H', Same H H' → E (.ref Cfit) none H')
def spTold (K : PySem.W.Frag) (C CK Cfit CW : Addr) : Sp := fun vs H Q E => ∃ (p d nl : Addr) (kvs : List (Key × V)) (st : Pl.State) (n : Int) (ns : List Int), vs = [.ref p, .int n, .ref nl] ∧ KpX K C CK H p d kvs st ∧ H nl = some (.lst (ns.map V.int)) ∧ Ask n ns ∧ TellC Cfit CW H (tellOf st n ns) Q E
abbrev CTold (P : Program) (w : World) (K : PySem.W.Frag) (mg : Str → Option Value) (base : Heap) (C CK Cfit CW : Addr) : Prop := MCal P w K mg base (CXo P w) 8 CK "told" ["self", "number", "numbers"] (spTold K C CK Cfit CW)
abbrev nTold : List Str := ["self", "number", "numbers", "f"]
theorem scTold : FnScope nTold ["self", "number", "numbers"] (defScope sTold) := ⟨rfl, rfl, rfl, by decide +kernel, rfl, by decide +kernel, by decide +kernel⟩
theorem ok_told (T : Txt K mg) (TK : TK K mg CK) (D : MDef K CK "told" "Keeper.told" sTold) (GF : CFnAt P w K mg base C CK CW) (GO : COther P w K mg base CW) (GN : Cal P w K mg base CX0 2 "numbers_of_form" ["f"] (spForm K C)) (GV : Cal P w K mg base (CXo P w) 5 "value_at" ["f", "place"] (spValue K C Cfit)) (G2 : CTold2 P w K mg base C) :
    CTold P w K mg base C CK Cfit CW := by
  refine D.calX (k := 7) scTold (fun _ _ _ _ _ _ us hl => match us, hl with | [_, _, _], _ => rfl) (fun vs H Q E h => ?_) (fun f cdv A outer s H vs Q E hr h => ?_)
  · obtain ⟨p, d, nl, kvs, st, n, ns, rfl, _⟩ := h
    rfl
  · obtain ⟨p, d, nl, kvs, st, n, ns, rfl, kp, hn, sh, k⟩ := h
    have hr1 : Room 1 _ := hr.mono (by decide)
    have hr2 : Room 2 _ := hr.mono (by decide)
    have hr4 : Room 4 _ := hr.mono (by decide)
    have hr5 : Room 5 _ := hr.mono (by decide)
    refine ⟨_, pss_cons (ps_set (i := 3) scTold.nd rfl (Or.inl rfl) (pe_mth GF TK.cl hr1 (passO (E2 := E) fun _ _ _ z => z) (pv 0) (pa_cons (pe_ix ix_list (pv 2) pe_int (fun _ _ => rfl)) pa_nil)))
      (pss_cons (ps_if (pt_cmpR op_eq (pv 1) (pe_gl T.cForm) (nomark _)) (pss_one (ps_ret (pe_fn GN hr2 pass0 (pa_cons (pv 3) pa_nil)))) pss_nil)
      (pss_cons (ps_if (pt_cmpR op_eq (pv 1) (pe_gl T.cValue) (nomark _)) (pss_one (ps_ret (pe_callTy call_list_of (by rfl) T.list_ boot_list5 (pa_cons (pe_fn GV hr5 (passO (E2 := E) fun _ _ _ z => z) (pa_cons (pv 3) (pa_cons (pe_fn GO hr4 (passO (E2 := E) fun _ _ _ z => z) (pa_cons (pe_ix ix_list (pv 2) pe_int (fun _ _ => rfl)) (pa_cons (pe_ix ix_list (pv 2) pe_int (fun _ _ => rfl)) pa_nil))) pa_nil))) pa_nil)))) pss_nil)
      (pss_one (ps_ret (pe_lst (pa_cons (pe_fn G2 hr pass0 (pa_cons (pv 1) (pa_cons (pv 3) (pa_cons (pe_mth GF TK.cl hr1 (passO (E2 := E) fun _ _ _ z => z) (pv 0) (pa_cons (pe_ix ix_list (pv 2) pe_int (fun _ _ => rfl)) pa_nil)) pa_nil)))) pa_nil)))))), ?_⟩
    obtain ⟨dx, hp⟩ := kp.ins
    rcases sh with ⟨rfl, i, rfl, hi⟩ | ⟨rfl, i, a, b, rfl, hi, za, zb⟩ | ⟨hnn, i, j, rfl, hi, hj⟩
    · refine ⟨_, rfl, p, dx, _, rfl, hp, kf_no d (by decide +kernel), _, rfl, ⟨_, _, _, _, rfl, rfl, SqL.of hn, atI_nat (j := 0) rfl, ⟨p, d, kvs, st, i, rfl, hi, kp, fun z F e1 e2 e3 => ?_, fun e1 => k.2.1 (by simp only [tellOf, get2, e1]) _ (Same.refl H)⟩⟩⟩
      refine ⟨_, rfl, rfl, _, rfl, iteT ?_⟩
      simp only [tellOf, get2, e1] at k
      exact ⟨_, rfl, z, F, rfl, e2, e3, fun H' r s1 er => k.1 _ rfl H' r s1 er⟩
    · refine ⟨_, rfl, p, dx, _, rfl, hp, kf_no d (by decide +kernel), _, rfl, ⟨_, _, _, _, rfl, rfl, SqL.of hn, atI_nat (j := 0) rfl, ⟨p, d, kvs, st, i, rfl, hi, kp, fun z F e1 e2 e3 => ?_, fun e1 => k.2.1 (by simp only [tellOf, get2, e1]) _ (Same.refl H)⟩⟩⟩
      refine ⟨_, rfl, rfl, _, rfl, iteF ?_⟩
      refine ⟨_, rfl, rfl, _, rfl, iteT ?_⟩
      simp only [tellOf, get2, e1] at k
      refine ⟨_, rfl, _, rfl, ⟨_, _, _, _, rfl, rfl, SqL.of hn, atI_nat (j := 1) rfl, _, rfl, ⟨_, _, _, _, rfl, rfl, SqL.of hn, atI_nat (j := 2) rfl, ⟨a, b, rfl, za, zb, fun g1 H1 z1 s1 f1 => ?_, fun g1 => k.2.1 (by rw [g1]; rfl) _ (Same.refl H)⟩⟩⟩⟩
      rw [if_pos g1] at k
      refine ⟨z, z1, F, Pl.rat (a, b), rfl, e2.mono s1, f1, e3, given_bd g1 (by decide), fun g2 H2 z2 s2 f2 => ?_, fun g2 H2 s2 => ?_⟩
      · rw [if_pos g2] at k
        obtain ⟨q, rfl, sq⟩ := f2
        exact ⟨q, _, rfl, .inr sq, fun r nr => k.1 _ rfl _ r ((s1.trans s2).trans (Same.new nr)) upd_same⟩
      · rw [if_neg (no2 g2)] at k
        exact k.2.2 rfl _ (s1.trans s2)
    · have n10 : ¬ V.int n = V.int 10 := fun z => by have := V.int.inj z; omega
      have n7 : ¬ V.int n = V.int 7 := fun z => by have := V.int.inj z; omega
      refine ⟨_, rfl, p, dx, _, rfl, hp, kf_no d (by decide +kernel), _, rfl, ⟨_, _, _, _, rfl, rfl, SqL.of hn, atI_nat (j := 0) rfl, ⟨p, d, kvs, st, i, rfl, hi, kp, fun z F e1 e2 e3 => ?_, fun e1 => k.2.1 (by simp only [tellOf, get2, e1]) _ (Same.refl H)⟩⟩⟩
      refine ⟨_, rfl, rfl, _, rfl, ?_⟩
      rw [decide_eq_false n10]
      refine iteF ⟨_, rfl, rfl, _, rfl, ?_⟩
      rw [decide_eq_false n7]
      refine iteF ⟨_, rfl, _, rfl, _, rfl, p, dx, _, rfl, hp, kf_no d (by decide +kernel), _, rfl, ⟨_, _, _, _, rfl, rfl, SqL.of hn, atI_nat (j := 1) rfl, ⟨p, d, kvs, st, j, rfl, hj, kp, fun z2 G e4 e5 e6 => ?_, fun e4 => k.2.1 (by simp only [tellOf, get2, e1, e4]) _ (Same.refl H)⟩⟩⟩
      simp only [tellOf, get2, e1, e4] at k
      refine ⟨n, z, z2, F, G, rfl, e2, e5, e3, e6, fun H1 s1 => ⟨(by show 1 ≤ sizeLine; decide), fun r nr => ?_⟩⟩
      exact k.1 _ rfl _ r (s1.trans (Same.new nr)) upd_same
abbrev sDone : Stmt := inClass (top 76) 5
/-- what may be asked, and the call it is -/
def Asked (n : Int) (ns : List Int) (c : Pl.Call) : Prop := PlNeutral.read [n :: ns] = some c ∧ ((n ≤ 6 ∧ ∃ h r, ns = h :: r ∧ 0 ≤ h ∧ Shp n r) ∨ (6 < n ∧ Ask n ns))
def errOf (CW C1 Cfit : Addr) (k : Nat) : Addr := if k = 1 then CW else if k = 5 then C1 else Cfit
/-- how a call ends -/
def DoneC (K : PySem.W.Frag) (C CK Cfit CW C1 : Addr) (H : Hp) (p d : Addr) (kvs : List (Key × V)) (st : Pl.State) (c : Pl.Call) (Q : VK) (E : XK) : Prop :=
  (∀ l, (Pl.step st c).2 = .told l → ∀ H' r kvs', KpX K C CK H' p d kvs' (Pl.step st c).1 → kvs'.length ≤ kvs.length + 1 → But d H H' → H' r = some (.lst (l.map V.int)) → Q (.ref r) H') ∧
  (∀ k, (Pl.step st c).2 = .refused k → (Pl.step st c).1 = st → (k = 1 ∨ k = 5 ∨ k = 2) → ∀ H', Same H H' → E (.ref (errOf CW C1 Cfit k)) none H')
def spDone (K : PySem.W.Frag) (C CK Cfit CW C1 : Addr) : Sp := fun vs H Q E => ∃ (p d nl : Addr) (kvs : List (Key × V)) (st : Pl.State) (n : Int) (ns : List Int) (c : Pl.Call), vs = [.ref p, .int n, .ref nl] ∧ KpX K C CK H p d kvs st ∧ kvs.length ≤ 3000 ∧ H nl = some (.lst (ns.map V.int)) ∧ Asked n ns c ∧ DoneC K C CK Cfit CW C1 H p d kvs st c Q E
abbrev CDone (P : Program) (w : World) (K : PySem.W.Frag) (mg : Str → Option Value) (base : Heap) (C CK Cfit CW C1 : Addr) : Prop := MCal P w K mg base (CXo P w) 12 CK "done" ["self", "number", "numbers"] (spDone K C CK Cfit CW C1)
theorem scDone : FnScope ["self", "number", "numbers"] ["self", "number", "numbers"] (defScope sDone) := ⟨rfl, rfl, rfl, by decide +kernel, rfl, by decide +kernel, by decide +kernel⟩
theorem ok_done (T : Txt K mg) (TK : TK K mg CK) (D : MDef K CK "done" "Keeper.done" sDone) (GT : CTold P w K mg base C CK Cfit CW) (GM : CMake P w K mg base C CK Cfit CW C1) : CDone P w K mg base C CK Cfit CW C1 := by
  refine D.calX (k := 11) scDone (fun _ _ _ _ _ _ us hl => match us, hl with | [_, _, _], _ => rfl) (fun vs H Q E h => ?_) (fun f cdv A outer s H vs Q E hr h => ?_)
  · obtain ⟨p, d, nl, kvs, st, n, ns, c, rfl, _⟩ := h
    rfl
  · obtain ⟨p, d, nl, kvs, st, n, ns, c, rfl, kp, nk, hn, ⟨hc, hs⟩, k⟩ := h
    have hr8 : Room 8 _ := hr.mono (by decide)
    refine ⟨_, pss_cons (ps_if (pt_cmpR op_gt (pv 1) (pe_gl T.cInverse) (nomark _)) (pss_one (ps_ret (pe_mth GT TK.cl hr8 (passO (E2 := E) fun _ _ _ z => z) (pv 0) (pa_cons (pv 1) (pa_cons (pv 2) pa_nil))))) pss_nil)
      (pss_cons (ps_expr (pe_mth GM TK.cl hr (passO (E2 := E) fun _ _ _ z => z) (pv 0) (pa_cons (pv 1) (pa_cons (pe_ix ix_list (pv 2) pe_int (fun _ _ => rfl)) (pa_cons (pe_slice sl_list (pv 2) (po_some pe_int) po_none) pa_nil)))))
      (pss_one (ps_ret (pe_lst pa_nil)))), ?_⟩
    obtain ⟨dx, hp⟩ := kp.ins
    refine ⟨_, rfl, _, _, rfl, rfl, _, rfl, ?_⟩
    rcases hs with ⟨h6, h, r, rfl, hh, sh⟩ | ⟨h6, ask⟩
    · rw [decide_eq_false (by omega)]
      have es := step_make (st := st) sh hh hc
      refine iteF ⟨_, rfl, p, dx, _, rfl, hp, kf_no d (by decide +kernel), _, rfl, _, rfl, ⟨_, _, _, _, rfl, rfl, SqL.of hn, atI_nat (j := 0) rfl, ?_⟩⟩
      refine ⟨_, rfl, _, rfl, nl, _, rfl, SqL.of hn, fun S nS => ?_⟩
      rw [cut1]
      have s1 : Same H (upd H S (.lst (((h :: r).map V.int).drop 1))) := Same.new nS
      refine ⟨p, d, S, kvs, st, n, h, r, rfl, kp.mono s1, nk, upd_same, sh, hh, fun h15 H' s2 => ?_, fun h15 => ?_⟩
      · rw [if_pos h15] at es
        have := k.2 1 (by rw [es]; rfl) (by rw [es]; rfl) (.inl rfl) H' (s1.trans s2)
        exact this
      · rw [if_neg (by omega)] at es
        refine ⟨fun F e1 H' kvs' kp' nk' bt => ?_, fun e1 H' s2 => ?_, fun e1 H' s2 => ?_, fun e1 H' s2 => ?_⟩
        · rw [e1] at es
          refine ⟨Nat.zero_le _, fun r2 nr2 => ?_⟩
          refine k.1 [] (by rw [es]) _ r2 kvs' ?_ nk' (fun b o e hb => (Same.new nr2) _ _ (bt b o (s1 _ _ e) hb)) upd_same
          rw [es]
          exact kp'.mono (Same.new nr2)
        · rw [e1] at es
          exact k.2 1 (by rw [es]; rfl) (by rw [es]; rfl) (.inl rfl) H' (s1.trans s2)
        · rw [e1] at es
          exact k.2 5 (by rw [es]; rfl) (by rw [es]; rfl) (.inr (.inl rfl)) H' (s1.trans s2)
        · rw [e1] at es
          exact k.2 2 (by rw [es]; rfl) (by rw [es]; rfl) (.inr (.inr rfl)) H' (s1.trans s2)
    · rw [decide_eq_true h6]
      have es := step_tell (st := st) ask hc
      refine iteT ⟨_, rfl, p, dx, _, rfl, hp, kf_no d (by decide +kernel), _, rfl, _, rfl, p, d, nl, kvs, st, n, ns, rfl, kp, hn, ask, fun l e1 H' r s1 er => ?_, fun e1 H' s1 => ?_, fun e1 H' s1 => ?_⟩
      · rw [e1] at es
        refine k.1 l (by rw [es]) H' r kvs ?_ (Nat.le_succ _) (fun b o e _ => s1 b o e) er
        rw [es]
        exact kp.mono s1
      · rw [e1] at es
        exact k.2 1 (by rw [es]; rfl) (by rw [es]; rfl) (.inl rfl) H' s1
      · rw [e1] at es
        exact k.2 2 (by rw [es]; rfl) (by rw [es]; rfl) (.inr (.inr rfl)) H' s1
abbrev sAnswer : Stmt := inClass (top 76) 6
/-- which clause takes which error -/
structure TC (K : PySem.W.Frag) (CW C1 Cfit : Addr) : Prop where
  e11 : PySem.W.exmOne K (.ref CW) (.ref CW) = some true
  e21 : PySem.W.exmOne K (.ref C1) (.ref CW) = some false
  e22 : PySem.W.exmOne K (.ref C1) (.ref C1) = some true
  e31 : PySem.W.exmOne K (.ref Cfit) (.ref CW) = some false
  e32 : PySem.W.exmOne K (.ref Cfit) (.ref C1) = some false
  e33 : PySem.W.exmOne K (.ref Cfit) (.ref Cfit) = some true
def spAnswer (K : PySem.W.Frag) (C CK : Addr) : Sp := fun vs H Q _ => ∃ (p d nl : Addr) (kvs : List (Key × V)) (st : Pl.State) (n : Int) (ns : List Int) (c : Pl.Call), vs = [.ref p, .int n, .ref nl] ∧ KpX K C CK H p d kvs st ∧ kvs.length ≤ 3000 ∧ H nl = some (.lst (ns.map V.int)) ∧ Asked n ns c ∧
  ∀ H' r kvs', KpX K C CK H' p d kvs' (Pl.step st c).1 → kvs'.length ≤ kvs.length + 1 → But d H H' → H' r = some (.lst ((PlNeutral.shown (Pl.step st c).2).map V.int)) → H r = none → Q (.ref r) H'
abbrev CAnswer (P : Program) (w : World) (K : PySem.W.Frag) (mg : Str → Option Value) (base : Heap) (C CK : Addr) : Prop := MCal P w K mg base CX0 13 CK "answer" ["self", "number", "numbers"] (spAnswer K C CK)
theorem scAnswer : FnScope ["self", "number", "numbers"] ["self", "number", "numbers"] (defScope sAnswer) := ⟨rfl, rfl, rfl, by decide +kernel, rfl, by decide +kernel, by decide +kernel⟩
theorem flat6 : ∀ r : List (Rat × Line), (r.flatMap fun (q : Rat × Line) => Pl.shown q.1 ++ Pl.lineShown q.2).length = 6 * r.length
  | [] => rfl
  | a :: r => by
    rw [List.flatMap_cons, List.length_append, flat6 r]
    simp only [Pl.shown, Pl.lineShown, List.length_append, List.length_cons, List.length_nil]
    omega
theorem told_len (F : Fn) (h : Fit F) : (Pl.told F).length ≤ 1000 := by
  obtain ⟨l, r, rfl, c, nr, _⟩ := h.parts
  rw [told_of, List.length_append, flat6]
  simp only [Pl.shown, Pl.lineShown, List.length_append, List.length_cons, List.length_nil]
  omega
theorem says_len {H : Hp} {p d : Addr} {kvs : List (Key × V)} {st : Pl.State} {n : Int} {ns : List Int} {c : Pl.Call} {l : List Int} (kp : KpX K C CK H p d kvs st) (a : Asked n ns c) (h : (Pl.step st c).2 = .told l) : l.length ≤ 1000 := by
  obtain ⟨hc, hs⟩ := a
  rcases hs with ⟨h6, hh, r, rfl, h0, sh⟩ | ⟨h6, ask⟩
  · have es := step_make (st := st) sh h0 hc
    rw [es] at h
    split at h
    · cases h
    · split at h
      · cases h; simp
      · cases h
      · cases h
      · cases h
  · have es := step_tell (st := st) ask hc
    rw [es] at h
    have fitd : ∀ (i : Int) (F : Fn), Pl.get st i.toNat = some F → Fit F := fun i F e => by
      cases e2 : valV kvs (Sum.inl ((i.toNat : Nat) : Int)) with
      | none => rw [kp.no _ e2] at e; cases e
      | some v =>
        obtain ⟨G, e3, _, e4⟩ := kp.yes _ v e2
        rw [e] at e3
        cases e3
        exact e4
    rcases ask with ⟨rfl, f, rfl, _⟩ | ⟨rfl, f, a, b, rfl, _⟩ | ⟨hn, f, g, rfl, _⟩
    · simp only [tellOf, get2] at h
      cases e : Pl.get st f.toNat with
      | none => rw [e] at h; cases h
      | some F =>
        rw [e] at h
        cases h
        exact told_len F (fitd f F e)
    · simp only [tellOf, get2] at h
      cases e : Pl.get st f.toNat with
      | none => rw [e] at h; cases h
      | some F =>
        rw [e] at h
        simp only at h
        split at h
        · rename_i l' he
          split at he
          · split at he
            · cases he; cases h; simp [Pl.shown]
            · cases he
          · cases he
        · cases h
        · cases h
    · simp only [tellOf, get2] at h
      cases e : Pl.get st f.toNat with
      | none => rw [e] at h; cases h
      | some F =>
        rw [e] at h
        simp only at h
        cases e2 : Pl.get st g.toNat with
        | none => rw [e2] at h; cases h
        | some G =>
          rw [e2] at h
          cases h
          simp
theorem ok_answer (T : Txt K mg) (TK : TK K mg CK) (TF : TF K mg C Cfit) (X1 : TX K mg CW C1) (TC : TC K CW C1 Cfit) (D : MDef K CK "answer" "Keeper.answer" sAnswer) (G : CDone P w K mg base C CK Cfit CW C1) : CAnswer P w K mg base C CK := by
  refine D.cal (k := 12) scAnswer (fun _ _ _ _ _ _ us hl => match us, hl with | [_, _, _], _ => rfl) (fun vs H Q E h => ?_) (fun f cdv A outer s H vs Q E hr h => ?_)
  · obtain ⟨p, d, nl, kvs, st, n, ns, c, rfl, _⟩ := h
    rfl
  · obtain ⟨p, d, nl, kvs, st, n, ns, c, rfl, kp, nk, hn, ak, k⟩ := h
    refine ⟨_, pss_one (ps_try3 (C1 := CW) (C2 := C1) (C3 := Cfit) rfl rfl (fun E pn => pss_one (ps_ret (pe_op op_cat (pe_lst (pa_cons pe_int pa_nil)) (pe_mth G TK.cl hr passT (pv 0) (pa_cons (pv 1) (pa_cons (pv 2) pa_nil))))))
      rfl X1.mgW rfl X1.mg1 rfl TF.mgFit TC.e11 TC.e21 TC.e22 TC.e31 TC.e32 TC.e33
      (fun e => pss_one (ps_ret (pe_lst (pa_cons (pe_un un_neg pe_int) pa_nil)))) (fun e => pss_one (ps_ret (pe_lst (pa_cons (pe_un un_neg pe_int) pa_nil)))) (fun e => pss_one (ps_ret (pe_lst (pa_cons (pe_un un_neg pe_int) pa_nil))))), ?_⟩
    obtain ⟨dx, hp⟩ := kp.ins
    refine ⟨(by show 1 ≤ sizeLine; decide), fun z nz => ?_⟩
    have s1 : Same H (upd H z (.lst [V.int 0])) := Same.new nz
    refine ⟨_, rfl, p, dx, _, rfl, s1 _ _ hp, kf_no d (by decide +kernel), _, rfl, _, rfl, p, d, nl, kvs, st, n, ns, c, rfl, kp.mono s1, nk, s1 _ _ hn, ak, fun l e1 H' r kvs' kp' nk' bt er => ?_, fun j e1 e2 hj H' s2 => ?_⟩
    · have nzd : z ≠ d := fun q => by rw [q, kp.hd] at nz; cases nz
      have ez : H' z = some (.lst [V.int 0]) := bt z _ upd_same nzd
      refine ⟨z, r, _, _, rfl, rfl, ez, er, line1000 (by have := says_len kp ak e1; simp only [List.length_cons, List.length_nil, List.length_map]; omega), fun q nq => ?_⟩
      refine k _ q kvs' (kp'.mono (Same.new nq)) nk' (fun b o e hb => (Same.new nq) _ _ (bt b o (s1 _ _ e) hb)) ?_ ?_
      · rw [upd_same, e1]
        rfl
      · cases e : H q with
        | none => rfl
        | some o =>
          by_cases hqd : q = d
          · rw [hqd, kp'.hd] at nq; cases nq
          · rw [bt q o (s1 _ _ e) hqd] at nq; cases nq
    · have s3 := s1.trans s2
      have fin : ∀ (i : Int) (σ : L2.St), i = (j : Int) → (tRet (tLst (tCons (tUn (rU fun i => V.int (-i)) (tC (.int i))) tNil))) { nx := fun _ H' => Q .non H', rt := Q } σ H' := fun i σ ei => by
        refine ⟨_, rfl, (by show 1 ≤ sizeLine; decide), fun q nq => ?_⟩
        refine k _ q kvs ?_ (Nat.le_succ _) (fun b o e _ => (Same.new nq) _ _ (s3 b o e)) ?_ (s3.free nq)
        · rw [e2]
          exact kp.mono (s3.trans (Same.new nq))
        · rw [upd_same, e1, ei]
          rfl
      rcases hj with rfl | rfl | rfl
      · exact .inl ⟨rfl, fun σ => fin 1 σ rfl⟩
      · exact .inr (.inl ⟨rfl, fun σ => fin 5 σ rfl⟩)
      · exact .inr (.inr ⟨rfl, fun σ => fin 2 σ rfl⟩)
end
end SP
end
section
set_option Elab.async false
set_option linter.all false
set_option maxRecDepth 100000
set_option exponentiation.threshold 5000
namespace L2
open PySem PySem.Spec PyProof.Rows
def entIs (e : DictEntry) (q : Int × Int) : Bool := (e.hash == hashInt q.1) && (Value.isInt q.1 e.key && Value.isInt q.2 e.val)
def entsAre : List DictEntry → List (Int × Int) → Bool
  | [], [] => true
  | e :: es, q :: qs => entIs e q && entsAre es qs
  | _, _ => false
def intDictIn (K : PySem.W.Frag) (d : Addr) (qs : List (Int × Int)) : Bool := match K.lookup d with
  | some ⟨.type t, none, .dict es _, sl⟩ => (t == "dict") && ((sl.size == 0) && entsAre es.toList qs)
  | _ => false
def intAt : List (Int × Int) → Int → Option Int
  | [], _ => none
  | q :: qs, n => if q.1 = n then some q.2 else intAt qs n
theorem ents_keys {P : Program} {w : World} : ∀ {es : List DictEntry} {qs : List (Int × Int)}, entsAre es qs = true → ∀ e ∈ es, ∃ k : Key, (mixKind P w).is k e.key = true ∧ e.hash = (mixKind P w).hash k
  | [], _, _, e, he => nomatch he
  | a :: es, [], h, e, he => by cases h
  | a :: es, q :: qs, h, e, he => by
    unfold entsAre entIs at h
    rw [Bool.and_eq_true, Bool.and_eq_true, Bool.and_eq_true] at h
    rcases List.mem_cons.mp he with z | z
    · subst z
      exact ⟨Sum.inl q.1, h.1.2.1, beq_iff_eq.mp h.1.1⟩
    · exact ents_keys h.2 e z
theorem ents_find {P : Program} {w : World} {n m : Int} : ∀ {es : List DictEntry} {qs : List (Int × Int)}, entsAre es qs = true → intAt qs n = some m → ∃ t, (es.find? fun e => (mixKind P w).is (Sum.inl n) e.key).map (·.val) = some (Value.int m t)
  | [], [], _, h2 => by cases h2
  | [], _ :: _, h, _ => by cases h
  | _ :: _, [], h, _ => by cases h
  | a :: es, q :: qs, h, h2 => by
    unfold entsAre entIs at h
    rw [Bool.and_eq_true, Bool.and_eq_true, Bool.and_eq_true] at h
    obtain ⟨⟨h0, h3, h4⟩, h5⟩ := h
    obtain ⟨t1, e1⟩ := Value.isInt_shape h3
    obtain ⟨t2, e2⟩ := Value.isInt_shape h4
    unfold intAt at h2
    by_cases e : q.1 = n
    · rw [if_pos e] at h2
      cases h2
      refine ⟨t2, ?_⟩
      rw [List.find?_cons, e1, e, mixKind_int]
      simp [e2]
    · rw [if_neg e] at h2
      obtain ⟨t, ht⟩ := ents_find (P := P) (w := w) h5 h2
      refine ⟨t, ?_⟩
      have : (mixKind P w).is (Sum.inl n) a.key = false := by
        rw [e1]
        show Value.isInt n (Value.int q.1 t1) = false
        cases hb : Value.isInt n (Value.int q.1 t1) with
        | false => rfl
        | true => exact absurd (Value.isInt_inj _ _ _ (by rw [← e1]; exact h3) hb) e
      rw [List.find?_cons, this]
      exact ht
theorem intDict_map {P : Program} {w : World} {K : PySem.W.Frag} {h : Heap} {d : Addr} {qs : List (Int × Int)} (kin : K.In h) (hd : intDictIn K d qs = true) :
    ∃ f, h.MapOf (mixKind P w) d f ∧ ∀ n m, intAt qs n = some m → ∃ t, f (Sum.inl n) = some (Value.int m t) := by
  unfold intDictIn at hd
  split at hd
  case h_2 => cases hd
  case h_1 t es ep sl lk =>
    rw [Bool.and_eq_true, Bool.and_eq_true] at hd
    obtain ⟨h1, h2, h3⟩ := hd
    have e1 : t = "dict" := beq_iff_eq.mp h1
    have e2 : sl = #[] := Array.eq_empty_of_size_eq_zero (beq_iff_eq.mp h2)
    subst e1 e2
    refine ⟨fun k => findBy (mixKind P w).is es k, ⟨_, es, ep, kin _ _ lk, ⟨rfl, rfl, rfl⟩, rfl, fun e he => ents_keys h3 e (Array.mem_toList_iff.mpr he), fun _ => rfl⟩, fun n m hn => ?_⟩
    obtain ⟨t, ht⟩ := ents_find (P := P) (w := w) h3 hn
    refine ⟨t, ?_⟩
    show (es.find? fun e => (mixKind P w).is (Sum.inl n) e.key).map (·.val) = some (Value.int m t)
    rw [← Array.find?_toList]
    exact ht
section
variable {X : Cx}
def tKGet (qs : List (Int × Int)) (ty : TE) : TE := fun σ H Q => ty σ H fun y H1 => ∃ n m, y = .int n ∧ intAt qs n = some m ∧ Q (.int m) H1
theorem pe_kget {x : Str} {d : Addr} {i : Expr} {ty : TE} {p pos : Pos} {qs : List (Int × Int)} (hm : X.mg x = some (.ref d)) (hd : intDictIn X.K d qs = true) (hi : PE X i ty) (hs : NoSl i) (hg : Gl X x := by rfl) (hdb : (x == ("__debug__" : Str)) = false := by decide) :
    PE X (.Subscript (.Name x p) i pos) (tKGet qs ty) := by
  intro pins s σ H Q I h
  refine subD_of PySem.F.slot_dict_getitem.lookup hs (ld_glob I hg hm (thn (hi pins s σ H _ I h) fun iv s2 ⟨y, H2, I2, ry, n, m, ex, e1, q2⟩ => ?_) hdb)
  subst ex
  obtain ⟨f, hf, hv⟩ := intDict_map (P := X.prog) (w := X.w) I2.kIn hd
  obtain ⟨t, ht⟩ := hv n m e1
  have hf' := hf
  obtain ⟨o, es, ep, g1, g2, _⟩ := hf'
  refine ⟨⟨o, g1, g2.1⟩, wpAny_getItem_of (k := Sum.inl n) (kV_is ry) hf ht ⟨.int m, H2, I2.tok _, ⟨t, rfl⟩, q2⟩⟩
end
end L2
namespace SP
open PySem PySem.Spec PyProof.Rows L2 Mt
open Pl (Line Fn)
theorem whole_id (c : List (List Int)) : PyWqamap.whole c = c := by
  unfold PyWqamap.whole
  split <;> rfl
theorem calls_eq (l : List Int) : PyWqamap.calls l = PyFlat.calls PyWqamap.shape l.length l := by
  unfold PyWqamap.calls
  cases PyFlat.calls PyWqamap.shape l.length l with
  | none => rfl
  | some cs =>
    show some (cs.map PyWqamap.whole) = some cs
    rw [show cs.map PyWqamap.whole = cs by rw [List.map_congr_left (g := id) fun c _ => whole_id c, List.map_id]]
abbrev howMany : List (Int × Int) := [(0, 5), (1, 3), (2, 4), (3, 3), (4, 3), (5, 3), (6, 2), (7, 3), (8, 2), (9, 2), (10, 1)]
theorem shape_at {p : Int} {n k : Nat} (h : PyWqamap.shape p = some (n, k)) : k = 0 ∧ 1 ≤ n ∧ n ≤ 5 ∧ intAt howMany p = some (n : Int) := by
  unfold PyWqamap.shape at h
  repeat' (split at h; (rename_i e; subst e; cases h; exact ⟨rfl, by decide, by decide, rfl⟩))
  cases h
theorem call_at {p : Int} {r : List Int} {c : List (List Int)} {t : List Int} (h : PyFlat.call PyWqamap.shape (p :: r) = some (c, t)) : ∃ n : Nat, 1 ≤ n ∧ n ≤ 5 ∧ n ≤ r.length ∧ intAt howMany p = some (n : Int) ∧ c = [p :: r.take n] ∧ t = r.drop n := by
  simp only [PyFlat.call] at h
  cases e : PyWqamap.shape p with
  | none => rw [e] at h; cases h
  | some nk =>
    obtain ⟨n, k⟩ := nk
    obtain ⟨rfl, h1, h2, h3⟩ := shape_at e
    rw [e] at h
    simp only at h
    by_cases hl : r.length < n
    · rw [if_pos hl] at h; cases h
    · rw [if_neg hl] at h
      simp only [PyFlat.rows] at h
      cases h
      exact ⟨n, h1, h2, by omega, h3, rfl, rfl⟩
theorem sz_of {a : Int} (h1 : -9223372036854775808 ≤ a) (h2 : a ≤ 9223372036854775807) : Sz a := by
  show a.natAbs < 2 ^ 100
  have : a.natAbs ≤ 2 ^ 63 := by omega
  exact Nat.lt_of_le_of_lt this (by decide)
theorem asked_of {n : Int} {ns : List Int} (h : PlNeutral.asked1 [n :: ns] = true) : ∃ c, Asked n ns c := by
  unfold PlNeutral.asked1 at h
  split at h
  all_goals first
    | (rename_i heq
       simp only [List.cons.injEq, and_true] at heq
       obtain ⟨rfl, rfl⟩ := heq
       simp only [PlNeutral.natural, Bool.and_eq_true, decide_eq_true_eq] at h
       first
         | exact ⟨_, rfl, .inl ⟨by decide, _, _, rfl, h.1.1, .inl ⟨rfl, _, _, _, _, rfl, sz_of h.2.1.1 h.2.1.2, sz_of h.2.2.1.1 h.2.2.1.2, sz_of h.2.2.2.1.1 h.2.2.2.1.2, sz_of h.2.2.2.2.1 h.2.2.2.2.2⟩⟩⟩
         | exact ⟨_, rfl, .inl ⟨by decide, _, _, rfl, h.1.1, .inr (.inr (.inr ⟨by decide, _, _, rfl, h.2.1.1, h.2.2.1⟩))⟩⟩
         | exact ⟨_, rfl, .inl ⟨by decide, _, _, rfl, h.1.1, .inr (.inl ⟨rfl, _, _, _, rfl, h.2.1.1, sz_of h.2.2.1.1 h.2.2.1.2, sz_of h.2.2.2.1 h.2.2.2.2⟩)⟩⟩
         | exact ⟨_, rfl, .inl ⟨by decide, _, _, rfl, h.1.1, .inr (.inr (.inl ⟨rfl, _, rfl, h.2.1⟩))⟩⟩
         | exact ⟨_, rfl, .inr ⟨by decide, .inl ⟨rfl, _, rfl, h.1⟩⟩⟩
         | exact ⟨_, rfl, .inr ⟨by decide, .inr (.inl ⟨rfl, _, _, _, rfl, h.1.1, sz_of h.2.1.1 h.2.1.2, sz_of h.2.2.1 h.2.2.2⟩)⟩⟩
         | exact ⟨_, rfl, .inr ⟨by decide, .inr (.inr ⟨by decide, _, _, rfl, h.1.1, h.2.1⟩)⟩⟩)
    | cases h
theorem cut2 {l : List Int} {i n : Nat} (h : i + n ≤ l.length) : cutV (l.map V.int) (some (i : Int)) (some ((i : Int) + (n : Int))) = ((l.drop i).take n).map V.int := by
  unfold cutV
  rw [show ((i : Int) + (n : Int)) = ((i + n : Nat) : Int) by omega, HT.sIx_nat, HT.sIx_nat, List.length_map, show min i l.length = i by omega, show min (i + n) l.length = i + n by omega, Nat.add_sub_cancel_left, List.map_take, List.map_drop]
section
variable {P : Program} {w : World} {K : PySem.W.Frag} {mg : Str → Option Value} {base : Heap} {C CK : Addr}
def spAns (K : PySem.W.Frag) : Sp := fun vs H Q _ => ∃ (a : Addr) (l : List Int), vs = [.ref a] ∧ SqL K H a (l.map V.int) ∧ l.length ≤ 2400 ∧ PyWqamap.answers_asked l = true ∧ ∀ (H' : Hp) (p : Addr), H' p = some (.lst ((PyWqamap.answers l).map V.int)) → Q (.ref p) H'
abbrev nAns : List Str := ["calls", "keeper", "answered", "at", "number", "end", "answer"]
theorem scAns : FnScope nAns ["calls"] (defScope (top 79)) := ⟨rfl, rfl, rfl, by decide +kernel, rfl, by decide +kernel, by decide +kernel⟩
theorem make_keeper {i : Nat} {rest : TS} {D : Ends} {σ : L2.St} {H : Hp} (k : ∀ H' p d, Same H H' → H d = none → KpX K C CK H' p d [] Pl.start → rest D (σ.set i (some (.ref p))) H') : tSeq (tAsg (tMake CK (spInitK K C CK) [] E0 tNil) (gName i)) rest D σ H := by
  intro x dx nx ndx ne
  refine ⟨x, dx, rfl, upd_same, fun H' d nd hF kp => ⟨rfl, ?_⟩⟩
  have far : H d = none := by
    have h1 : d ≠ x := fun z => by rw [z, upd_same] at nd; cases nd
    have h2 : d ≠ dx := fun z => by rw [z, upd_ne ne, upd_same] at nd; cases nd
    rw [upd_ne h1, upd_ne h2] at nd
    exact nd
  exact k H' x d (Same.made nx ndx kp) far hF
theorem But.seq {d a : Addr} {xs : List V} {kvs : List (Key × V)} {H H' : Hp} (b : But d H H') (hd : H d = some (.dK kvs)) (h : SqL K H a xs) : SqL K H' a xs := by
  rcases h with (h | ⟨o, h⟩) | h
  · exact .inl (.inl (b _ _ h (ne_of h hd (by intro z; cases z))))
  · exact .inl (.inr ⟨o, b _ _ h (ne_of h hd (by intro z; cases z))⟩)
  · exact .inr h
theorem shown_len {H : Hp} {p d : Addr} {kvs : List (Key × V)} {st : Pl.State} {n : Int} {ns : List Int} {c : Pl.Call} (kp : KpX K C CK H p d kvs st) (a : Asked n ns c) : (PlNeutral.shown (Pl.step st c).2).length ≤ 1001 := by
  cases e : (Pl.step st c).2 with
  | refused k => show 1 ≤ 1001; decide
  | told l =>
    have := says_len kp a e
    show l.length + 1 ≤ 1001
    omega
theorem KpX.free {H : Hp} {p d L : Addr} {kvs : List (Key × V)} {st : Pl.State} {od : Obj} {xs : List V} (k : KpX K C CK H p d kvs st) (hL : H L = some (.frz od (.lst xs))) (o : HO) : KpX K C CK (upd H L o) p d kvs st := by
  obtain ⟨⟨dx, k1⟩, k2, k3, k4, k5⟩ := k
  have tp : Tp H (upd H L o) := ⟨fun b ys e => by rw [upd_ne (ne_of e hL (by intro z; cases z))]; exact e, fun b o ys e => by rw [upd_ne (ne_of e hL (by intro z; cases z))]; exact e⟩
  refine ⟨⟨dx, by rw [upd_ne (ne_of k1 hL (by intro z; cases z))]; exact k1⟩, by rw [upd_ne (ne_of k2 hL (by intro z; cases z))]; exact k2, k3, fun n v e => ?_, k5⟩
  obtain ⟨F, e1, ⟨q, lb, ll, e2, ⟨dy, h1⟩, ⟨bs, h2, h3⟩, ⟨ls, h4, h5⟩, ne⟩, e3⟩ := k4 n v e
  exact ⟨F, e1, ⟨q, lb, ll, e2, ⟨dy, by rw [upd_ne (ne_of h1 hL (by intro z; cases z))]; exact h1⟩, ⟨bs, by rw [upd_ne (ne_of h2 hL (by intro z; cases z))]; exact h2, frs_mono tp h3⟩, ⟨ls, by rw [upd_ne (ne_of h4 hL (by intro z; cases z))]; exact h4, lns_mono tp h5⟩, ne⟩, e3⟩
/-- the loop's word: at stands for the place, st for what is kept, acc for what is answered -/
def AnsInv (K : PySem.W.Frag) (C CK : Addr) (H1 : Hp) (a kp L d : Addr) (l : List Int) (i : Nat) (σ : L2.St) (H' : Hp) : Prop :=
  ∃ (v4 v5 v6 : Option V) (kvs : List (Key × V)) (st : Pl.State) (acc : List Int) (fuel : Nat) (cs : List (List (List Int))), σ = [some (.ref a), some (.ref kp), some (.ref L), some (.int i), v4, v5, v6] ∧ i ≤ l.length ∧ kvs.length ≤ i ∧ acc.length ≤ 1002 * i ∧ But d H1 H' ∧
    (∀ o, KpX K C CK (upd H' L o) kp d kvs st) ∧ H' L = some (.lst (acc.map V.int)) ∧ PyFlat.calls PyWqamap.shape fuel (l.drop i) = some cs ∧ (∀ c ∈ cs, PlNeutral.asked1 c = true) ∧ acc ++ PyFlat.told (PyFlat.played PlNeutral.step st cs) = PyWqamap.answers l
theorem ok_ans {D : Addr} (T : Txt K mg) (TK : TK K mg CK) {fa : Addr} {fd : FuncData} (Fa : Fun K "answers" "answers" (top 79) fa fd) (GK : CCal P w K mg base CX0 1 "Keeper" CK (spInitK K C CK)) (GA : CAnswer P w K mg base C CK) (hmD : mg "HOW_MANY_NUMBERS" = some (.ref D)) (hD : intDictIn K D howMany = true) :
    FnOk P w K mg base CX0 14 fa fd ["calls"] (spAns K) := by
  refine Fa.ok scAns (fun vs H Q E h => ?_) (fun cdv A outer s H vs Q E hr h => ?_)
  · obtain ⟨a, l, rfl, _⟩ := h
    rfl
  · obtain ⟨a, l, rfl, hS, hlen, hask, k⟩ := h
    have hr2 : Room 2 _ := hr.mono (by decide)
    refine ⟨_, pss_cons (ps_set (i := 1) scAns.nd rfl (Or.inl rfl) (pe_new GK hr2 pass0)) (pss_cons (ps_set (i := 2) scAns.nd rfl (Or.inl rfl) (pe_lst pa_nil)) (pss_cons (ps_set (i := 3) scAns.nd rfl (Or.inl rfl) pe_int)
      (pss_cons (ps_while PassesOwn.never (pt_cmpR op_lt (pv 3) (pe_callB call_len_seq (by rfl) T.len_ PySem.boot_len (pa_cons (pv 0) pa_nil)) (nomark _))
        (pss_cons (ps_set (i := 4) scAns.nd rfl (Or.inl rfl) (pe_ix ix_list (pv 0) (pv 3) (fun _ _ => rfl)))
        (pss_cons (ps_set (i := 5) scAns.nd rfl (Or.inl rfl) (pe_op op_add (pe_op op_add (pv 3) pe_int) (pe_kget hmD hD (pv 4) (fun _ _ => rfl))))
        (pss_cons (ps_lock (ps_set (i := 6) scAns.nd rfl (Or.inl rfl) (pe_mth GA TK.cl hr pass0 (pv 1) (pa_cons (pv 4) (pa_cons (pe_slice sl_list (pv 0) (po_some (pe_op op_add (pv 3) pe_int)) (po_some (pv 5))) pa_nil)))))
        (pss_cons (ps_expr (pe_bm PySem.F.plainAttrs_list PySem.F.slot_list_append PySem.F.type_list_append mt_append (pv 2) (pa_cons (pe_callB call_len_seq (by rfl) T.len_ PySem.boot_len (pa_cons (pv 6) pa_nil)) pa_nil)))
        (pss_cons (ps_expr (pe_bm PySem.F.plainAttrs_list PySem.F.slot_list_extend PySem.F.type_list_extend mt_extend (pv 2) (pa_cons (pv 6) pa_nil)))
        (pss_one (ps_set (i := 3) scAns.nd rfl (Or.inl rfl) (pv 5)))))))))
      (pss_one (ps_ret (pv 2)))))), ?_⟩
    -- the request
    obtain ⟨cs0, hc0, hall⟩ : ∃ cs, PyFlat.calls PyWqamap.shape l.length l = some cs ∧ ∀ c ∈ cs, PlNeutral.asked1 c = true := by
      unfold PyWqamap.answers_asked at hask
      rw [calls_eq] at hask
      cases e : PyFlat.calls PyWqamap.shape l.length l with
      | none => rw [e] at hask; cases hask
      | some cs =>
        rw [e] at hask
        simp only [PlNeutral.asked, Bool.and_eq_true, List.all_eq_true] at hask
        exact ⟨cs, rfl, hask.2.1⟩
    have hans : PyWqamap.answers l = PyFlat.told (PyFlat.played PlNeutral.step Pl.start cs0) := by
      unfold PyWqamap.answers
      rw [calls_eq, hc0]
      rfl
    refine make_keeper (C := C) fun H1 kp d s1 nd kx => ?_
    refine ⟨Nat.zero_le _, fun L nL => ?_⟩
    have s2 : Same H1 (upd H1 L (.lst [])) := Same.new nL
    have nLd : L ≠ d := fun z => by rw [z, kx.hd] at nL; cases nL
    have hS1 : SqL K H1 a (l.map V.int) := s1.seq hS
    refine ⟨fun μ σ H' => ∃ i : Nat, μ = l.length - i ∧ AnsInv K C CK H1 a kp L d l i σ H',
      ⟨_, 0, rfl, none, none, none, [], Pl.start, [], l.length, cs0, rfl, Nat.zero_le _, Nat.le_refl _, Nat.le_refl _, fun b o e _ => s2 b o e, fun o => by rw [upd_upd]; exact kx.mono (Same.new nL), upd_same, hc0, hall, by rw [hans]; rfl⟩, ?_⟩
    rintro μ σ H' ⟨i, rfl, v4, v5, v6, kvs, st, acc, fuel, cs, rfl, hi, hk, hacc, hbut, hkp, eL, hcs, hall', hout⟩
    have hS' : SqL K H' a (l.map V.int) := hbut.seq kx.hd hS1
    refine ⟨_, rfl, _, rfl, a, _, rfl, .inl hS', _, _, rfl, rfl, _, rfl, ?_⟩
    rw [List.length_map]
    by_cases hlt : i < l.length
    · rw [decide_eq_true (by omega)]
      obtain ⟨p, r, hpr⟩ : ∃ p r, l.drop i = p :: r := by
        cases e : l.drop i with
        | nil => rw [List.drop_eq_nil_iff] at e; omega
        | cons p r => exact ⟨p, r, rfl⟩
      obtain ⟨hp0, hr0, _⟩ := drop_next hpr
      rw [hpr] at hcs
      obtain ⟨fuel', rfl⟩ : ∃ f', fuel = f' + 1 := by
        cases fuel with
        | zero => cases hcs
        | succ f' => exact ⟨f', rfl⟩
      unfold PyFlat.calls at hcs
      cases ec : PyFlat.call PyWqamap.shape (p :: r) with
      | none => rw [ec] at hcs; cases hcs
      | some ct =>
        obtain ⟨c, t⟩ := ct
        rw [ec] at hcs
        simp only at hcs
        cases ecs : PyFlat.calls PyWqamap.shape fuel' t with
        | none => rw [ecs] at hcs; cases hcs
        | some cs' =>
          rw [ecs] at hcs
          cases hcs
          obtain ⟨n, n1, n5, nr, hn, rfl, rfl⟩ := call_at ec
          obtain ⟨x, ax⟩ := asked_of (hall' _ List.mem_cons_self)
          have hrl : r.length = l.length - (i + 1) := by rw [← hr0, List.length_drop]
          refine iteT ⟨fun σ' H2 => ∃ i' : Nat, i < i' ∧ AnsInv K C CK H1 a kp L d l i' σ' H2, ?_, ?_⟩
          · rintro σ' H2 ⟨i', hi', inv⟩
            have inv' := inv
            obtain ⟨_, _, _, _, _, _, _, _, _, b1, _⟩ := inv'
            exact ⟨_, by omega, i', rfl, inv⟩
          · refine ⟨_, rfl, _, rfl, a, _, _, V.int p, rfl, rfl, hS', atI_nat (by rw [List.getElem?_map, hp0]; rfl), ?_⟩
            refine ⟨_, rfl, _, _, rfl, rfl, _, rfl, p, (n : Int), rfl, hn, _, _, rfl, rfl, ?_⟩
            -- the object's call; what is answered stands locked meanwhile
            refine ⟨L, .lst (acc.map V.int), eL, trivial, fun od => ?_⟩
            have kpL := hkp (.frz od (.lst (acc.map V.int)))
            have butL : But d H1 (upd H' L (.frz od (.lst (acc.map V.int)))) := fun b o e hb => by
              rw [upd_ne (ne_of_none e nL)]
              exact hbut b o e hb
            have hSL : SqL K (upd H' L (.frz od (.lst (acc.map V.int)))) a (l.map V.int) := butL.seq kx.hd hS1
            obtain ⟨dk, hkpL⟩ := kpL.ins
            refine ⟨_, rfl, kp, dk, _, rfl, hkpL, kf_no d (by decide +kernel), _, rfl, _, rfl, _, rfl, _, _, rfl, rfl, _, rfl, _, rfl, _, rfl, a, _, rfl, hSL, fun S nS => ?_⟩
            rw [show ((i : Int) + 1) = ((i + 1 : Nat) : Int) by omega, cut2 (by omega), hr0]
            have s3 : Same (upd H' L (.frz od (.lst (acc.map V.int)))) (upd (upd H' L (.frz od (.lst (acc.map V.int)))) S (.lst ((r.take n).map V.int))) := Same.new nS
            refine ⟨kp, d, S, kvs, st, p, r.take n, x, rfl, kpL.mono s3, by omega, upd_same, ax, fun H4 R kvs4 kp4 nk4 bt er nR => ?_⟩
            have sl := shown_len kpL ax
            have eL4 : H4 L = some (.frz od (.lst (acc.map V.int))) := bt _ _ (s3 _ _ upd_same) nLd
            have nRL : R ≠ L := fun z => by rw [z, s3 _ _ upd_same] at nR; cases nR
            have free4 := fun o => kp4.free eL4 o
            refine ⟨eL4, ?_⟩
            refine ⟨_, rfl, .inl ⟨rfl, _, SqL.of upd_same⟩, ?_⟩
            refine ⟨_, rfl, R, _, rfl, .inl (SqL.of (by rw [upd_ne nRL]; exact er)), L, _, _, rfl, rfl, upd_same, Nat.lt_of_le_of_lt (show (acc.map V.int).length ≤ 2404800 by rw [List.length_map]; omega) (by decide), ?_⟩
            rw [List.length_map, upd_upd]
            refine ⟨_, rfl, .inl ⟨rfl, _, SqL.of upd_same⟩, _, rfl, L, R, _, _, rfl, rfl, upd_same, by rw [upd_ne nRL]; exact er, Nat.le_trans (show _ ≤ 2500000 by simp only [List.length_append, List.length_map, List.length_cons, List.length_nil]; omega) (by decide), ?_⟩
            rw [upd_upd]
            refine ⟨_, rfl, i + 1 + n, by omega, _, _, _, kvs4, (Pl.step st x).1, acc ++ ((PlNeutral.shown (Pl.step st x).2).length : Int) :: PlNeutral.shown (Pl.step st x).2, fuel', cs', rfl, by omega, by omega, ?_, ?_, fun o => ?_, ?_, ?_, fun c hc => hall' c (List.mem_cons_of_mem _ hc), ?_⟩
            · simp only [List.length_append, List.length_cons]
              omega
            · intro b o e hb
              rw [upd_ne (ne_of_none e nL)]
              exact bt b o (s3 b o (butL b o e hb)) hb
            · rw [upd_upd]
              exact free4 o
            · rw [upd_same]
              simp
            · rw [show l.drop (i + 1 + n) = r.drop n by rw [← hr0, List.drop_drop]]
              exact ecs
            · rw [← hout]
              have es : PlNeutral.step st [p :: r.take n] = ((Pl.step st x).1, PlNeutral.shown (Pl.step st x).2) := by
                unfold PlNeutral.step
                rw [ax.1]
              simp only [PyFlat.played, PyFlat.told, es, List.flatMap_cons, List.append_assoc, List.cons_append]
    · rw [decide_eq_false (by omega)]
      have ei : l.drop i = [] := List.drop_eq_nil_iff.mpr (by omega)
      rw [ei] at hcs
      have ecs : cs = [] := by
        cases fuel <;> (cases hcs; rfl)
      subst ecs
      refine iteF ⟨_, rfl, k H' L ?_⟩
      rw [eL, ← hout]
      show _ = some (HO.lst ((acc ++ []).map V.int))
      rw [List.append_nil]
end
end SP
end
section
set_option Elab.async false
set_option linter.all false
set_option maxRecDepth 100000
set_option exponentiation.threshold 5000
namespace SP
open PySem PySem.Spec PyProof.Rows L2 Mt
open Pl (Line Fn)
structure Defs (K : PySem.W.Frag) (mg : Str → Option Value) (C CK : Addr) : Prop where
  d4 : Def K mg "common_divisor" (top 4)
  d5 : Def K mg "ratio" (top 5)
  d6 : Def K mg "plus" (top 6)
  d7 : Def K mg "minus" (top 7)
  d8 : Def K mg "times" (top 8)
  d9 : Def K mg "over" (top 9)
  d10 : Def K mg "is_below" (top 10)
  d11 : Def K mg "is_within" (top 11)
  d13 : Def K mg "is_inside" (top 13)
  d14 : Def K mg "place_inside" (top 14)
  d15 : Def K mg "nearer_end" (top 15)
  d16 : Def K mg "parted" (top 16)
  d25 : Def K mg "check_fit" (top 25)
  d27 : Def K mg "shared_pieces" (top 27)
  d29 : Def K mg "height" (top 29)
  d30 : Def K mg "height_at_end" (top 30)
  d31 : Def K mg "line_sum" (top 31)
  d32 : Def K mg "line_difference" (top 32)
  d33 : Def K mg "line_multiple" (top 33)
  d34 : Def K mg "line_after" (top 34)
  d35 : Def K mg "place_of_height" (top 35)
  d36 : Def K mg "line_inverse" (top 36)
  d37 : Def K mg "crossing" (top 37)
  d40 : Def K mg "value_at" (top 40)
  d41 : Def K mg "is_same" (top 41)
  d42 : Def K mg "is_above_zero" (top 42)
  d43 : Def K mg "is_nowhere_above" (top 43)
  d44 : Def K mg "numbers_of_line" (top 44)
  d45 : Def K mg "numbers_of_form" (top 45)
  d47 : Def K mg "single_line" (top 47)
  d48 : Def K mg "total" (top 48)
  d49 : Def K mg "multiple" (top 49)
  d50 : Def K mg "crossings_inside" (top 50)
  d51 : Def K mg "chosen_line" (top 51)
  d52 : Def K mg "chosen_at_each_place" (top 52)
  d53 : Def K mg "greater" (top 53)
  d54 : Def K mg "lesser" (top 54)
  d55 : Def K mg "places_of_heights" (top 55)
  d56 : Def K mg "composition" (top 56)
  d57 : Def K mg "is_rising" (top 57)
  d58 : Def K mg "is_falling" (top 58)
  d59 : Def K mg "inverse" (top 59)
  d71 : Def K mg "fraction_handed_over" (top 71)
  d72 : Def K mg "slope_handed_over" (top 72)
  d73 : Def K mg "other_handed_over" (top 73)
  d74 : Def K mg "made_of_two" (top 74)
  d75 : Def K mg "told_of_two" (top 75)
  f1 : MDef K C "draw" "Form.draw" (inClass (top 26) 1)
  f2 : MDef K C "line_at" "Form.line_at" (inClass (top 26) 2)
  f3 : MDef K C "right_end" "Form.right_end" (inClass (top 26) 3)
  f4 : MDef K C "pieces" "Form.pieces" (inClass (top 26) 4)
  k1 : MDef K CK "function_at" "Keeper.function_at" (inClass (top 76) 1)
  k2 : MDef K CK "made" "Keeper.made" (inClass (top 76) 2)
  k3 : MDef K CK "make" "Keeper.make" (inClass (top 76) 3)
  k4 : MDef K CK "told" "Keeper.told" (inClass (top 76) 4)
  k5 : MDef K CK "done" "Keeper.done" (inClass (top 76) 5)
  k6 : MDef K CK "answer" "Keeper.answer" (inClass (top 76) 6)
section
variable {P : Program} {w : World} {K : PySem.W.Frag} {mg : Str → Option Value} {base : Heap} {C CK Cfit CW C1 : Addr}
theorem answers_ok {D fI fJ fa : Addr} {fdI fdJ fd : FuncData} (d : Defs K mg C CK) (T : Txt K mg) (tf : TF K mg C Cfit) (tx : TX K mg CW C1) (tc : TC K CW C1 Cfit) (tk : TK K mg CK) (MF : Mk K C fI) (FI : Fun K "__init__" "Form.__init__" sInitF fI fdI) (mgF : mg "Form" = some (.ref C))
    (MK : Mk K CK fJ) (FJ : Fun K "__init__" "Keeper.__init__" sInitK fJ fdJ) (mgK : mg "Keeper" = some (.ref CK)) (Fa : Fun K "answers" "answers" (top 79) fa fd) (hmD : mg "HOW_MANY_NUMBERS" = some (.ref D)) (hD : intDictIn K D howMany = true) : FnOk P w K mg base CX0 14 fa fd ["calls"] (spAns K) := by
  have g4 := ok_gcd (P := P) (w := w) (base := base) d.d4
  have g5 := ok_ratio T d.d5 g4
  have g6 := ok_plus d.d6 g5
  have g7 := ok_minus d.d7 g5
  have g8 := ok_times d.d8 g5
  have g9 := ok_over d.d9 g5
  have g10 := ok_below (P := P) (w := w) (base := base) d.d10
  have g11 := ok_within (P := P) (w := w) (base := base) T d.d11
  have g13 := ok_inside d.d13 g10
  have g14 := ok_place T d.d14 g6 g7 g8
  have g15 := ok_nearer d.d15 g10
  have g16 := ok_parted (P := P) (w := w) (base := base) T d.d16
  have g25 := ok_fit tf d.d25 g11
  have g29 := ok_height d.d29 g6 g8
  have g30 := ok_heightEnd d.d30 g29
  have g31 := ok_sum d.d31 g6
  have g32 := ok_dif d.d32 g7
  have g33 := ok_mul d.d33 g8
  have g34 := ok_after d.d34 g8 g29
  have g35 := ok_poh d.d35 g9 g7
  have g36 := ok_inv1 T d.d36 g9 g35
  have g37 := ok_cross T d.d37 g32 g35
  have bI := FI.binds (ps := ["self"]) fun _ _ _ _ _ _ us hl => match us, hl with | [_], _ => rfl
  have bJ := FJ.binds (ps := ["self"]) fun _ _ _ _ _ _ us hl => match us, hl with | [_], _ => rfl
  have gF : CForm P w K mg base C := ⟨fI, fdI, ok_initF tf FI, bI, MF, mgF⟩
  have gK : CCal P w K mg base CX0 1 "Keeper" CK (spInitK K C CK) := ⟨fJ, fdJ, ok_initK tk FJ, bJ, MK, mgK⟩
  have gDraw := ok_draw T tf d.f1 g25
  have gLineAt := ok_lineAt T tf d.f2 g10
  have gRight := ok_rightEnd (P := P) (w := w) (base := base) T tf d.f3
  have gPieces := ok_pieces (P := P) (w := w) (base := base) T tf d.f4
  have g27 := ok_shared T tf d.d27 gRight g15
  have g40 := ok_value T tf d.d40 gLineAt g29 g25
  have g41 := ok_same (P := P) (w := w) (base := base) tf d.d41
  have g42 := ok_above T d.d42 g10 g29
  have g43 := ok_nowhere d.d43 g27 g42 g32
  have g44 := ok_nums (P := P) (w := w) (base := base) T d.d44
  have g45 := ok_form T tf d.d45 g44
  have g47 := ok_single tf d.d47 gF gDraw
  have g48 := ok_total tf d.d48 gF gDraw g27 g31
  have g49 := ok_multiple tf d.d49 gF gDraw gPieces g33
  have g50 := ok_cuts d.d50 g37 g13
  have g51 := ok_chosen d.d51 g10 g29
  have g52 := ok_choose tf d.d52 gF gDraw g27 g50 g16 g14 g51
  have g53 := ok_greater d.d53 g52
  have g54 := ok_lesser d.d54 g52
  have g55 := ok_reach T d.d55 g30 g10 g13 g35
  have g56 := ok_comp tf d.d56 gF gDraw gPieces g55 g16 g14 g29 gLineAt g34
  have g57 := ok_rising T tf d.d57 g10
  have g58 := ok_falling T tf d.d58 g10
  have g59 := ok_inverse T tf tx d.d59 gF gDraw gPieces g57 g58 g30 g36
  have g71 := ok_handed T tx d.d71 g5
  have g72 := ok_slope T d.d72 g71
  have g73 := ok_other T d.d73 g71
  have g74 := ok_made2 T d.d74 g48 g53 g54 g56
  have g75 := ok_told2 T d.d75 g41 g43
  have k1 := ok_fnAt (P := P) (w := w) (base := base) (C := C) tk tx d.k1
  have k2 := ok_made T tk d.k2 k1 g72 g73 g47 g49 g59 g74
  have k3 := ok_make T tk tx d.k3 k2
  have k4 := ok_told T tk d.k4 k1 g73 g45 g40 g75
  have k5 := ok_done T tk d.k5 k4 k3
  have k6 := ok_answer T tk tf tx tc d.k6 k5
  exact ok_ans T tk Fa gK k6 hmD hD
end
section
variable {K : PySem.W.Frag} {h : Heap} {mg : Str → Option Value}
theorem def_mk {x : Str} {st : Stmt} {f : Addr} {oc : Value} {od an : Option Addr} {osl : Array (Option Value)} {kV doc pm cdv ct : Value} (X : K.In h) (G : h.Ns mainGlobals mg) (a : PySem.W.nsIn K mainGlobals x = some (some (.ref f)))
    (l : K.lookup f = some ⟨oc, od, .func (PySem.W.fnOf x x (defArgs st) (defBody st) (defScope st) .none kV doc pm an cdv ct), osl⟩) (c : PySem.W.codeIn K cdv x = true) (k : PySem.W.keepIn K (.ref f) = true) : Def K mg x st := ⟨f, _, fun_mk l c k, PySem.W.mg_of X G a⟩
theorem mdef_mk {C : Addr} {m qual : Str} {st : Stmt} {f : Addr} {oc : Value} {od an : Option Addr} {osl : Array (Option Value)} {kV doc pm cdv ct : Value} (a : PySem.W.findIn K (.ref C) m = some (some (.ref f))) (i : PySem.W.isFn K (.ref f) = true)
    (l : K.lookup f = some ⟨oc, od, .func (PySem.W.fnOf m qual (defArgs st) (defBody st) (defScope st) .none kV doc pm an cdv ct), osl⟩) (c : PySem.W.codeIn K cdv qual = true) (k : PySem.W.keepIn K (.ref f) = true) : MDef K C m qual st := ⟨f, _, fun_mk l c k, ⟨a, i, k⟩⟩
theorem gv_int {x : Str} {n : Int} {t : Tok} (X : K.In h) (G : h.Ns mainGlobals mg) (a : PySem.W.nsIn K mainGlobals x = some (some (.int n t))) : GV mg x (.int n) := ⟨_, PySem.W.mg_of X G a, t, rfl⟩
def intsEq : List Value → List Int → Bool
  | [], [] => true
  | v :: vs, n :: ns => Value.isInt n v && intsEq vs ns
  | _, _ => false
theorem intsEq_vals : ∀ {vs : List Value} {ns : List Int}, intsEq vs ns = true → Vals (ns.map V.int) vs
  | [], [], _ => .nil
  | [], _ :: _, h => by cases h
  | _ :: _, [], h => by cases h
  | v :: vs, n :: ns, h => by
    unfold intsEq at h
    rw [Bool.and_eq_true] at h
    exact .cons (Value.isInt_shape h.1) (intsEq_vals h.2)
end
end SP
end
set_option Elab.async false
set_option linter.all false
set_option maxRecDepth 100000
set_option exponentiation.threshold 5000
namespace SP
open PySem PySem.Spec PyProof.Rows L2 Mt
open Pl (Line Fn)
section
variable {K : PySem.W.Frag} {h : Heap} {mg : Str → Option Value}
theorem gfr_by {x : Str} {z : Addr} {q : Rat} {od : Option Addr} {its : Array Value} {n : Nat} {sl : Array (Option Value)} (X : K.In h) (G : h.Ns mainGlobals mg) (a : PySem.W.nsIn K mainGlobals x = some (some (.ref z))) (l : K.lookup z = some ⟨.type "tuple", od, .seq its n, sl⟩)
    (c : ((its.size == 2) && intsEq its.toList [q.num, (q.den : Int)]) = true) : GFr K mg x q := by
  rw [Bool.and_eq_true] at c
  exact ⟨.ref z, ⟨_, PySem.W.mg_of X G a, rfl⟩, fun H => ⟨z, rfl, .inr ⟨_, its, n, l, rfl, rfl, by rw [beq_iff_eq.mp c.1]; exact two_le, intsEq_vals c.2⟩⟩⟩
theorem intDict_by {d : Addr} {es : Array DictEntry} {n : Nat} {qs : List (Int × Int)} (l : K.lookup d = some ⟨.type "dict", none, .dict es n, #[]⟩) (c : entsAre es.toList qs = true) : intDictIn K d qs = true := by
  unfold intDictIn
  rw [l]
  exact c
theorem txt_mk {t0 t1 t2 t3 t4 t5 t6 t7 t8 t9 t10 t11 t12 t13 : Tok} (X : K.In h) (G : h.Ns mainGlobals mg) (z0 : GFr K mg "ZERO" 0) (z1 : GFr K mg "ONE" 1) (z2 : GFr K mg "HALF" (1 / 2))
    (n0 : PySem.W.nsIn K mainGlobals "abs" = some none)
    (n1 : PySem.W.nsIn K mainGlobals "len" = some none)
    (n2 : PySem.W.nsIn K mainGlobals "list" = some none)
    (n3 : PySem.W.nsIn K mainGlobals "zip" = some none)
    (n4 : PySem.W.nsIn K mainGlobals "enumerate" = some none)
    (n5 : PySem.W.nsIn K mainGlobals "reversed" = some none)
    (n6 : PySem.W.nsIn K mainGlobals "any" = some none)
    (n7 : PySem.W.nsIn K mainGlobals "all" = some none)
    (i0 : PySem.W.nsIn K mainGlobals "MOST_LINES" = some (some (.int 32 t0)))
    (i1 : PySem.W.nsIn K mainGlobals "MOST_IN_SLOPE" = some (some (.int 32767 t1)))
    (i2 : PySem.W.nsIn K mainGlobals "MOST_ELSEWHERE" = some (some (.int 2147483647 t2)))
    (i3 : PySem.W.nsIn K mainGlobals "MOST_IN_VALUE" = some (some (.int 9223372036854775807 t3)))
    (i4 : PySem.W.nsIn K mainGlobals "LAST_PLACE" = some (some (.int 15 t4)))
    (i5 : PySem.W.nsIn K mainGlobals "LINE" = some (some (.int 0 t5)))
    (i6 : PySem.W.nsIn K mainGlobals "ADD" = some (some (.int 1 t6)))
    (i7 : PySem.W.nsIn K mainGlobals "SCALE" = some (some (.int 2 t7)))
    (i8 : PySem.W.nsIn K mainGlobals "GREAT" = some (some (.int 3 t8)))
    (i9 : PySem.W.nsIn K mainGlobals "LESS" = some (some (.int 4 t9)))
    (i10 : PySem.W.nsIn K mainGlobals "INVERSE" = some (some (.int 6 t10)))
    (i11 : PySem.W.nsIn K mainGlobals "VALUE" = some (some (.int 7 t11)))
    (i12 : PySem.W.nsIn K mainGlobals "SAME" = some (some (.int 8 t12)))
    (i13 : PySem.W.nsIn K mainGlobals "FORM" = some (some (.int 10 t13)))
    : Txt K mg := ⟨z0, z1, z2, PySem.W.mg_none_of X G n0, PySem.W.mg_none_of X G n1, PySem.W.mg_none_of X G n2, PySem.W.mg_none_of X G n3, PySem.W.mg_none_of X G n4, PySem.W.mg_none_of X G n5, PySem.W.mg_none_of X G n6, PySem.W.mg_none_of X G n7, gv_int X G i0, gv_int X G i1, gv_int X G i2, gv_int X G i3, gv_int X G i4, gv_int X G i5, gv_int X G i6, gv_int X G i7, gv_int X G i8, gv_int X G i9, gv_int X G i10, gv_int X G i11, gv_int X G i12, gv_int X G i13⟩
end
theorem top_mk {P : Program} {w : World} {K : PySem.W.Frag} {h : Heap} {mg : Str → Option Value} {fa C CK Cfit CW C1 fI fJ fA D : Addr} (X : K.In h) (G : h.Ns mainGlobals mg) (hfa : mg "answers" = some (.ref fa))
    {odI anI odJ anJ odA anA : Option Addr} {slI slJ slA : Array (Option Value)} {ocI kVI dcI pmI cdI ctI ocJ kVJ dcJ pmJ cdJ ctJ ocA kVA dcA pmA cdA ctA : Value}
    (aC : PySem.W.nsIn K mainGlobals "Form" = some (some (.ref C))) (aK : PySem.W.nsIn K mainGlobals "Keeper" = some (some (.ref CK))) (aW : PySem.W.nsIn K mainGlobals "WrongInput" = some (some (.ref CW))) (a1 : PySem.W.nsIn K mainGlobals "NotOneToOne" = some (some (.ref C1))) (aFit : PySem.W.nsIn K mainGlobals "DoesNotFit" = some (some (.ref Cfit)))
    (pg : PySem.W.plainGet K C Str.empty = true) (hd : PySem.W.hasDictIn K C = true) (po : PySem.W.plainOver K C = true) (sa : PySem.W.findIn K (.ref C) "__setattr__" = some (some (.builtin "object.__setattr__"))) (mk : PySem.W.makesIn K C = true) (kc : PySem.W.keepIn K (.ref C) = true) (nB : PySem.W.findIn K (.ref C) "breaks" = some none) (nL : PySem.W.findIn K (.ref C) "lines" = some none)
    (pg2 : PySem.W.plainGet K CK Str.empty = true) (hd2 : PySem.W.hasDictIn K CK = true) (po2 : PySem.W.plainOver K CK = true) (sa2 : PySem.W.findIn K (.ref CK) "__setattr__" = some (some (.builtin "object.__setattr__"))) (mk2 : PySem.W.makesIn K CK = true) (kc2 : PySem.W.keepIn K (.ref CK) = true) (nK : PySem.W.findIn K (.ref CK) "kept" = some none)
    (xW : PySem.W.excIn K CW [.type "Exception", .type "BaseException", .type "object"] "Exception.__new__" = true) (x1 : PySem.W.excIn K C1 [.type "Exception", .type "BaseException", .type "object"] "Exception.__new__" = true) (xF : PySem.W.excIn K Cfit [.type "Exception", .type "BaseException", .type "object"] "Exception.__new__" = true)
    (e11 : PySem.W.exmOne K (.ref CW) (.ref CW) = some true) (e21 : PySem.W.exmOne K (.ref C1) (.ref CW) = some false) (e22 : PySem.W.exmOne K (.ref C1) (.ref C1) = some true) (e31 : PySem.W.exmOne K (.ref Cfit) (.ref CW) = some false) (e32 : PySem.W.exmOne K (.ref Cfit) (.ref C1) = some false) (e33 : PySem.W.exmOne K (.ref Cfit) (.ref Cfit) = some true)
    (aI : PySem.W.findIn K (.ref C) "__init__" = some (some (.ref fI))) (iI : PySem.W.isFn K (.ref fI) = true) (lI : K.lookup fI = some ⟨ocI, odI, .func (PySem.W.fnOf "__init__" "Form.__init__" (defArgs sInitF) (defBody sInitF) (defScope sInitF) .none kVI dcI pmI anI cdI ctI), slI⟩) (cI : PySem.W.codeIn K cdI "Form.__init__" = true) (kI : PySem.W.keepIn K (.ref fI) = true)
    (aJ : PySem.W.findIn K (.ref CK) "__init__" = some (some (.ref fJ))) (iJ : PySem.W.isFn K (.ref fJ) = true) (lJ : K.lookup fJ = some ⟨ocJ, odJ, .func (PySem.W.fnOf "__init__" "Keeper.__init__" (defArgs sInitK) (defBody sInitK) (defScope sInitK) .none kVJ dcJ pmJ anJ cdJ ctJ), slJ⟩) (cJ : PySem.W.codeIn K cdJ "Keeper.__init__" = true) (kJ : PySem.W.keepIn K (.ref fJ) = true)
    (aA : PySem.W.nsIn K mainGlobals "answers" = some (some (.ref fA))) (lA : K.lookup fA = some ⟨ocA, odA, .func (PySem.W.fnOf "answers" "answers" (defArgs (top 79)) (defBody (top 79)) (defScope (top 79)) .none kVA dcA pmA anA cdA ctA), slA⟩) (cA : PySem.W.codeIn K cdA "answers" = true) (kA : PySem.W.keepIn K (.ref fA) = true)
    (T : Txt K mg) (aD : PySem.W.nsIn K mainGlobals "HOW_MANY_NUMBERS" = some (some (.ref D))) (hD : intDictIn K D howMany = true) (d : Defs K mg C CK) :
    ∃ fd : FuncData, (∀ (s : Shared) (us : List Value), us.length = (["calls"] : List Str).length → BindsTo s fd ⟨us, []⟩ ((["calls"] : List Str).zip us)) ∧ ∀ base : Heap, K.In base → base.Ns mainGlobals mg → FnOk P w K mg base CX0 14 fa fd ["calls"] (spAns K) := by
  have e := hfa.symm.trans (PySem.W.mg_of X G aA)
  cases e
  exact ⟨PySem.W.fnOf "answers" "answers" (defArgs (top 79)) (defBody (top 79)) (defScope (top 79)) .none kVA dcA pmA anA cdA ctA, fun s us hu => match us, hu with | [_], _ => .of_eq rfl, fun base _ _ =>
    answers_ok d T ⟨⟨pg, hd, po, sa⟩, nB, nL, ⟨xF⟩, PySem.W.mg_of X G aFit⟩ ⟨⟨xW⟩, PySem.W.mg_of X G aW, ⟨x1⟩, PySem.W.mg_of X G a1⟩ ⟨e11, e21, e22, e31, e32, e33⟩ ⟨⟨pg2, hd2, po2, sa2⟩, nK⟩ ⟨mk, aI, iI, kc⟩ (fun_mk (st := sInitF) lI cI kI) (PySem.W.mg_of X G aC) ⟨mk2, aJ, iJ, kc2⟩ (fun_mk (st := sInitK) lJ cJ kJ) (PySem.W.mg_of X G aK) (fun_mk (st := top 79) lA cA kA) (PySem.W.mg_of X G aD) hD⟩
end SP
/-! The names below are taken so that the head lays no twins of its own for the text and its heap: their equations would be 74 MB. -/
namespace PySem.W.Fast
theorem tw2826910980236157886:True:=⟨⟩
theorem tw4675691972608160908:True:=⟨⟩
theorem tw14567300614630353696:True:=⟨⟩
theorem tw16640588532798408465:True:=⟨⟩
theorem tw5338108785734707435:True:=⟨⟩
theorem tw113464004396116613:True:=⟨⟩
theorem tw10437497533325963438:True:=⟨⟩
theorem tw18344404183245449479:True:=⟨⟩
theorem tw797302145361633432:True:=⟨⟩
theorem tw15570500184602192482:True:=⟨⟩
theorem tw3894016871179267251:True:=⟨⟩
theorem tw5908051678434223773:True:=⟨⟩
theorem tw11205198840778783189:True:=⟨⟩
theorem tw3726495459441896194:True:=⟨⟩
theorem tw13757188471221457580:True:=⟨⟩
theorem tw9345587072282699030:True:=⟨⟩
theorem tw15308356854630784099:True:=⟨⟩
theorem tw9657509815671024076:True:=⟨⟩
theorem tw17224743412116089211:True:=⟨⟩
theorem tw5868893215207638486:True:=⟨⟩
theorem tw6078462023075238567:True:=⟨⟩
theorem tw17705622463572507278:True:=⟨⟩
theorem tw1748412208929946633:True:=⟨⟩
theorem tw16434796223286970636:True:=⟨⟩
theorem tw17201953376690426375:True:=⟨⟩
theorem tw12076154474654454631:True:=⟨⟩
theorem tw17554337900757523013:True:=⟨⟩
theorem tw2888137993796000446:True:=⟨⟩
theorem tw1369403278899492985:True:=⟨⟩
theorem tw7032288599830967457:True:=⟨⟩
theorem tw7250947395881718212:True:=⟨⟩
theorem tw10895884729836472672:True:=⟨⟩
theorem tw16871911138915381826:True:=⟨⟩
theorem tw15280166581202483419:True:=⟨⟩
theorem tw12830714208748633893:True:=⟨⟩
theorem tw12607151781940401781:True:=⟨⟩
theorem tw5960175188967553194:True:=⟨⟩
theorem tw1935543505358695417:True:=⟨⟩
theorem tw15515558518469899368:True:=⟨⟩
theorem tw15280589537383367038:True:=⟨⟩
theorem tw18345690582824414722:True:=⟨⟩
theorem tw6795819179734066784:True:=⟨⟩
theorem tw13964583601443723527:True:=⟨⟩
theorem tw13902595817396674282:True:=⟨⟩
theorem tw9454632376677363375:True:=⟨⟩
theorem tw9161122180192884132:True:=⟨⟩
theorem tw9414106878367811878:True:=⟨⟩
theorem tw10090977323986835665:True:=⟨⟩
theorem tw14162633821415149135:True:=⟨⟩
theorem tw8194858681703886586:True:=⟨⟩
theorem tw300574865255426645:True:=⟨⟩
theorem tw6821766871728818535:True:=⟨⟩
theorem tw5315896042887172370:True:=⟨⟩
theorem tw4386595251639467803:True:=⟨⟩
theorem tw451377964040453901:True:=⟨⟩
theorem tw8132381484817471731:True:=⟨⟩
theorem tw16054618957593385956:True:=⟨⟩
theorem tw17838895327487721045:True:=⟨⟩
theorem tw9456090963629360869:True:=⟨⟩
theorem tw10232750601818254980:True:=⟨⟩
theorem tw5923513008732447127:True:=⟨⟩
theorem tw7200077672880558278:True:=⟨⟩
theorem tw5077242969335529477:True:=⟨⟩
theorem tw16121486490775222147:True:=⟨⟩
theorem tw17743420631621043648:True:=⟨⟩
theorem tw2575729470462474284:True:=⟨⟩
theorem tw15228375887319193145:True:=⟨⟩
theorem tw3185149681647505370:True:=⟨⟩
theorem tw18181682216016341947:True:=⟨⟩
theorem tw13992726658745358005:True:=⟨⟩
theorem tw11666086338771529628:True:=⟨⟩
theorem tw16000868331313565633:True:=⟨⟩
theorem tw594890988287369050:True:=⟨⟩
theorem tw13026319440463552060:True:=⟨⟩
theorem tw9067107534414701615:True:=⟨⟩
theorem tw3474309143101883371:True:=⟨⟩
theorem tw5104284409048846024:True:=⟨⟩
theorem tw12794324736649958926:True:=⟨⟩
theorem tw8774366344969176078:True:=⟨⟩
theorem tw4599488627283927666:True:=⟨⟩
theorem tw9269201257627946621:True:=⟨⟩
theorem tw15920384140613225550:True:=⟨⟩
theorem tw10779973808954617192:True:=⟨⟩
theorem tw9942372575679854743:True:=⟨⟩
theorem tw9804275779458129389:True:=⟨⟩
theorem tw14574577281082492550:True:=⟨⟩
theorem tw4783704210118344956:True:=⟨⟩
theorem tw409541794051345871:True:=⟨⟩
theorem tw3248783015971940023:True:=⟨⟩
theorem tw8189571343753517455:True:=⟨⟩
theorem tw17159787406905502805:True:=⟨⟩
theorem tw10308484917103241949:True:=⟨⟩
theorem tw13042598816922892197:True:=⟨⟩
theorem tw15873012717653635917:True:=⟨⟩
theorem tw6929398189584873457:True:=⟨⟩
theorem tw14777673721760282018:True:=⟨⟩
theorem tw18164753274229302369:True:=⟨⟩
theorem tw11601970759668227147:True:=⟨⟩
theorem tw12203529039146006410:True:=⟨⟩
theorem tw6654848366121868000:True:=⟨⟩
theorem tw3158838627468298448:True:=⟨⟩
theorem tw11103837675307968874:True:=⟨⟩
theorem tw4051820023870356003:True:=⟨⟩
theorem tw13333017576557825451:True:=⟨⟩
theorem tw7513865143647552375:True:=⟨⟩
theorem tw7181362431744760662:True:=⟨⟩
theorem tw16747335534715312449:True:=⟨⟩
theorem tw3993393031753871076:True:=⟨⟩
theorem tw11117268625999023667:True:=⟨⟩
theorem tw5486962550036484826:True:=⟨⟩
theorem tw6315211420377005147:True:=⟨⟩
theorem tw3706454259848226033:True:=⟨⟩
theorem tw11802700172729280808:True:=⟨⟩
theorem tw3805880773138829611:True:=⟨⟩
theorem tw10029559085447989538:True:=⟨⟩
theorem tw18146308204001250676:True:=⟨⟩
theorem tw3893838561463266624:True:=⟨⟩
theorem tw6089251373967384771:True:=⟨⟩
theorem tw4392495337736198448:True:=⟨⟩
theorem tw9230417856460899522:True:=⟨⟩
theorem tw23039219882890393:True:=⟨⟩
theorem tw2883462195240258766:True:=⟨⟩
theorem tw2251470873622099264:True:=⟨⟩
theorem tw15350637601885405560:True:=⟨⟩
theorem tw12632493907866488291:True:=⟨⟩
theorem tw18161302072858905747:True:=⟨⟩
theorem tw7771510549124386806:True:=⟨⟩
theorem tw13312802993552673649:True:=⟨⟩
theorem tw6966338091690055187:True:=⟨⟩
theorem tw17157116799372033274:True:=⟨⟩
theorem tw15175499288354364771:True:=⟨⟩
theorem tw167191344929816456:True:=⟨⟩
theorem tw11341506664619849424:True:=⟨⟩
theorem tw13066682026355881129:True:=⟨⟩
theorem tw4815858669330979150:True:=⟨⟩
theorem tw1744942641088095136:True:=⟨⟩
theorem tw16768959773903525858:True:=⟨⟩
theorem tw392538254314339153:True:=⟨⟩
theorem tw14994769236332313528:True:=⟨⟩
theorem tw3158391105031151216:True:=⟨⟩
theorem tw7691204033224005840:True:=⟨⟩
theorem tw10882872857864474416:True:=⟨⟩
theorem tw17475547783697510137:True:=⟨⟩
theorem tw11596676695588211241:True:=⟨⟩
theorem tw10647118675555631537:True:=⟨⟩
theorem tw2292684443144945274:True:=⟨⟩
theorem tw1350127198838202157:True:=⟨⟩
theorem tw7172423342155325106:True:=⟨⟩
theorem tw5014051722841350717:True:=⟨⟩
theorem tw14938139537925399607:True:=⟨⟩
theorem tw17090918049381263627:True:=⟨⟩
theorem tw7147555096069761395:True:=⟨⟩
theorem tw6550367363519540341:True:=⟨⟩
theorem tw11800805445081656351:True:=⟨⟩
theorem tw2593820134094984360:True:=⟨⟩
theorem tw1754420721844360392:True:=⟨⟩
theorem tw8630691677004954336:True:=⟨⟩
theorem tw4164126142249754739:True:=⟨⟩
theorem tw15156827418041241704:True:=⟨⟩
theorem tw1085326002101949582:True:=⟨⟩
theorem tw13300244796491797542:True:=⟨⟩
theorem tw15313996519470858283:True:=⟨⟩
theorem tw10069509047855524417:True:=⟨⟩
theorem tw13052241613666891842:True:=⟨⟩
theorem tw1472611323001861383:True:=⟨⟩
theorem tw10293086102816546624:True:=⟨⟩
theorem tw6077632101369841763:True:=⟨⟩
theorem tw7057927042799451352:True:=⟨⟩
theorem tw5208179272686191923:True:=⟨⟩
theorem tw6656492671965698644:True:=⟨⟩
theorem tw1235400716845671215:True:=⟨⟩
theorem tw13427261029491730086:True:=⟨⟩
theorem tw9753340256138558394:True:=⟨⟩
theorem tw2685974047235648519:True:=⟨⟩
theorem tw555441762708874425:True:=⟨⟩
theorem tw4679710841661929694:True:=⟨⟩
theorem tw7399438501754871373:True:=⟨⟩
theorem tw10771069014705136470:True:=⟨⟩
theorem tw11390479850998135380:True:=⟨⟩
theorem tw2437825055949566391:True:=⟨⟩
theorem tw13074092840676937356:True:=⟨⟩
theorem tw17647022154928885137:True:=⟨⟩
theorem tw6168702948736342110:True:=⟨⟩
theorem tw14049378547185752475:True:=⟨⟩
theorem tw2989240310753374354:True:=⟨⟩
theorem tw1564516372354396266:True:=⟨⟩
theorem tw12595482991244580293:True:=⟨⟩
theorem tw4963870848550613303:True:=⟨⟩
theorem tw3407200755197820756:True:=⟨⟩
theorem tw10131729003771700718:True:=⟨⟩
theorem tw1368945303031826085:True:=⟨⟩
theorem tw5106770702494402114:True:=⟨⟩
theorem tw4152809782899653941:True:=⟨⟩
theorem tw11727935237737611219:True:=⟨⟩
theorem tw8828202747794259223:True:=⟨⟩
theorem tw11614484782386950097:True:=⟨⟩
theorem tw10026455416645889301:True:=⟨⟩
theorem tw10138754417154554944:True:=⟨⟩
theorem tw3549941571923352606:True:=⟨⟩
theorem tw3221145776993793687:True:=⟨⟩
theorem tw16060368337484112736:True:=⟨⟩
theorem tw11083013838003973192:True:=⟨⟩
theorem tw3103915362929902191:True:=⟨⟩
theorem tw17127478929355949835:True:=⟨⟩
theorem tw15795497476441974868:True:=⟨⟩
theorem tw1920242145265101007:True:=⟨⟩
theorem tw13906163400037022491:True:=⟨⟩
theorem tw3165969130748898493:True:=⟨⟩
theorem tw666625646602995086:True:=⟨⟩
theorem tw18382070790013976861:True:=⟨⟩
theorem tw9001420485395608081:True:=⟨⟩
theorem tw10366106076267143055:True:=⟨⟩
theorem tw7675640436369418656:True:=⟨⟩
theorem tw14908634851140950663:True:=⟨⟩
theorem tw13201447412476897697:True:=⟨⟩
theorem tw11034028485816914957:True:=⟨⟩
theorem tw9982687720315023575:True:=⟨⟩
theorem tw3054838408032366321:True:=⟨⟩
theorem tw5407310750128103616:True:=⟨⟩
theorem tw13723294004311641260:True:=⟨⟩
theorem tw10874375979104137225:True:=⟨⟩
theorem tw12005204279907671736:True:=⟨⟩
theorem tw2304886352756530938:True:=⟨⟩
theorem tw11769139894506933379:True:=⟨⟩
theorem tw7008681610649554958:True:=⟨⟩
theorem tw2345198581553861332:True:=⟨⟩
theorem tw16109581681309672373:True:=⟨⟩
theorem tw15309898849896838078:True:=⟨⟩
theorem tw1573028815830576220:True:=⟨⟩
theorem tw7617186592776075080:True:=⟨⟩
theorem tw10637770672032175234:True:=⟨⟩
theorem tw11860003993585139518:True:=⟨⟩
theorem tw10278855698099194413:True:=⟨⟩
theorem tw8464701218448723337:True:=⟨⟩
theorem tw10238076316417843093:True:=⟨⟩
theorem tw8172887922522797849:True:=⟨⟩
theorem tw2247958576723200201:True:=⟨⟩
theorem tw55290375281072377:True:=⟨⟩
theorem tw11362315899241627040:True:=⟨⟩
theorem tw104040466713723579:True:=⟨⟩
theorem tw16709681178583293240:True:=⟨⟩
theorem tw5911524023402303572:True:=⟨⟩
theorem tw10775118681024380947:True:=⟨⟩
theorem tw16103033857506017752:True:=⟨⟩
theorem tw2072146063816066612:True:=⟨⟩
theorem tw8482620630747473248:True:=⟨⟩
theorem tw15130071553193899072:True:=⟨⟩
theorem tw6809743610559890914:True:=⟨⟩
theorem tw6251312508968969756:True:=⟨⟩
theorem tw16648769163672760327:True:=⟨⟩
theorem tw17707082751694749457:True:=⟨⟩
theorem tw5945248736187292469:True:=⟨⟩
theorem tw8174056838888423284:True:=⟨⟩
theorem tw8352538372228665513:True:=⟨⟩
theorem tw1907363981575135964:True:=⟨⟩
theorem tw14385504160516949144:True:=⟨⟩
theorem tw5418070335478965091:True:=⟨⟩
theorem tw15377179708108509861:True:=⟨⟩
theorem tw15006793157861829769:True:=⟨⟩
theorem tw2762296932909393774:True:=⟨⟩
theorem tw12377022472603847897:True:=⟨⟩
theorem tw12161791745287919807:True:=⟨⟩
theorem tw2940587292433362171:True:=⟨⟩
theorem tw13485413396531659000:True:=⟨⟩
theorem tw15507609389776440018:True:=⟨⟩
theorem tw5908763543016071255:True:=⟨⟩
theorem tw6008963435186875672:True:=⟨⟩
theorem tw998476030979410711:True:=⟨⟩
theorem tw10589366358701652066:True:=⟨⟩
theorem tw15809505125730293229:True:=⟨⟩
theorem tw2983728198858601310:True:=⟨⟩
theorem tw4935535784833108024:True:=⟨⟩
theorem tw6541867570969835313:True:=⟨⟩
theorem tw7522600211050089214:True:=⟨⟩
theorem tw5222062404886064653:True:=⟨⟩
theorem tw7520243599023616841:True:=⟨⟩
theorem tw12787244056954855862:True:=⟨⟩
theorem tw10598696859772219456:True:=⟨⟩
theorem tw8343115869077199436:True:=⟨⟩
theorem tw7801607100416472689:True:=⟨⟩
theorem tw13254514622658888308:True:=⟨⟩
theorem tw12679583280898182858:True:=⟨⟩
theorem tw5076858650721331581:True:=⟨⟩
theorem tw10859624617840634921:True:=⟨⟩
theorem tw15509055984882695827:True:=⟨⟩
theorem tw15409293245485203007:True:=⟨⟩
theorem tw5003217499819955521:True:=⟨⟩
theorem tw1351812137894147640:True:=⟨⟩
theorem tw2328820121103186198:True:=⟨⟩
theorem tw15592785457625766479:True:=⟨⟩
theorem tw13845465479982713663:True:=⟨⟩
theorem tw437638144063963401:True:=⟨⟩
theorem tw9775441458046382505:True:=⟨⟩
theorem tw10788718497436636741:True:=⟨⟩
theorem tw16351560895735588309:True:=⟨⟩
theorem tw15454020705409450980:True:=⟨⟩
theorem tw13725429069085533910:True:=⟨⟩
theorem tw13259118783284368532:True:=⟨⟩
theorem tw815783824260019070:True:=⟨⟩
theorem tw9298448657654451474:True:=⟨⟩
theorem tw13326502890965483589:True:=⟨⟩
theorem tw13214882373996903936:True:=⟨⟩
theorem tw9856838725122912521:True:=⟨⟩
theorem tw5237231818674925285:True:=⟨⟩
theorem tw11932031380246446165:True:=⟨⟩
theorem tw4529649372322772262:True:=⟨⟩
theorem tw7869000258029674688:True:=⟨⟩
theorem tw11465696688819204929:True:=⟨⟩
theorem tw10229670789152004995:True:=⟨⟩
theorem tw17651356324453668079:True:=⟨⟩
theorem tw2561354416547839461:True:=⟨⟩
theorem tw14549629829958233105:True:=⟨⟩
theorem tw7431741041340077116:True:=⟨⟩
theorem tw3992971430117329771:True:=⟨⟩
theorem tw10366097551098603259:True:=⟨⟩
theorem tw11004177894107002007:True:=⟨⟩
theorem tw17934223362749435696:True:=⟨⟩
theorem tw11508453795144414738:True:=⟨⟩
theorem tw3895846384285280837:True:=⟨⟩
theorem tw9583853429392959170:True:=⟨⟩
theorem tw16843208062863726706:True:=⟨⟩
theorem tw6549673242998853157:True:=⟨⟩
theorem tw10709731802200889270:True:=⟨⟩
theorem tw7821539042985327752:True:=⟨⟩
theorem tw15135124566105848676:True:=⟨⟩
theorem tw13885309018039471453:True:=⟨⟩
theorem tw8702774637663434524:True:=⟨⟩
theorem tw2955184314592569404:True:=⟨⟩
theorem tw1795424884513440092:True:=⟨⟩
theorem tw7376066959620319776:True:=⟨⟩
theorem tw4888922837648812698:True:=⟨⟩
theorem tw13731126549815602634:True:=⟨⟩
theorem tw3634646394932043971:True:=⟨⟩
theorem tw17233238726606432281:True:=⟨⟩
theorem tw3997219797218339629:True:=⟨⟩
theorem tw15325729661458605293:True:=⟨⟩
theorem tw17675022928900787924:True:=⟨⟩
theorem tw6628344017924114185:True:=⟨⟩
theorem tw9988193990146922382:True:=⟨⟩
theorem tw3293508480582396876:True:=⟨⟩
theorem tw8251870629947644897:True:=⟨⟩
theorem tw9071352167431293978:True:=⟨⟩
theorem tw5307471985378005318:True:=⟨⟩
theorem tw16743550386901601380:True:=⟨⟩
theorem tw8528965634042737685:True:=⟨⟩
theorem tw2952504674423373404:True:=⟨⟩
theorem tw4157755674352209203:True:=⟨⟩
theorem tw6769169501160604790:True:=⟨⟩
theorem tw10005598113370755385:True:=⟨⟩
theorem tw8831295639061434540:True:=⟨⟩
theorem tw8810575490661416471:True:=⟨⟩
theorem tw1637868991882168046:True:=⟨⟩
theorem tw9096940157273760136:True:=⟨⟩
theorem tw9927217003151487599:True:=⟨⟩
theorem tw6457737509944693097:True:=⟨⟩
theorem tw9760351295449562339:True:=⟨⟩
theorem tw9507298695332113176:True:=⟨⟩
theorem tw612458656215713801:True:=⟨⟩
theorem tw2116756148251841484:True:=⟨⟩
theorem tw5112382602581954967:True:=⟨⟩
theorem tw15068264154920525643:True:=⟨⟩
theorem tw3967314644702549480:True:=⟨⟩
theorem tw485865463152213632:True:=⟨⟩
theorem tw4687332720625710289:True:=⟨⟩
theorem tw3138445192312989744:True:=⟨⟩
theorem tw10645714972466444336:True:=⟨⟩
theorem tw4808689754130970453:True:=⟨⟩
theorem tw14152576314683046843:True:=⟨⟩
theorem tw6395116552953542735:True:=⟨⟩
theorem tw9506476178478707299:True:=⟨⟩
theorem tw7836270434945774198:True:=⟨⟩
theorem tw16324881073631864011:True:=⟨⟩
theorem tw15221252615430215970:True:=⟨⟩
theorem tw13984696700803672704:True:=⟨⟩
theorem tw955372995793639262:True:=⟨⟩
theorem tw5035855528550434519:True:=⟨⟩
theorem tw6402214466009386464:True:=⟨⟩
theorem tw7267059186466979544:True:=⟨⟩
theorem tw13152189799231627653:True:=⟨⟩
theorem tw17049909963752223620:True:=⟨⟩
theorem tw16600478903883148761:True:=⟨⟩
theorem tw263793501552165823:True:=⟨⟩
theorem tw8939484126035112815:True:=⟨⟩
theorem tw16836635764968009797:True:=⟨⟩
theorem tw3026574872558194699:True:=⟨⟩
theorem tw627068628748495193:True:=⟨⟩
theorem tw11551357644140613957:True:=⟨⟩
theorem tw8605755656777247724:True:=⟨⟩
theorem tw11700012804303652849:True:=⟨⟩
theorem tw15125334892000164181:True:=⟨⟩
theorem tw14059701772317248996:True:=⟨⟩
theorem tw4583724029111977481:True:=⟨⟩
theorem tw2854829146188651196:True:=⟨⟩
theorem tw11730073248201285555:True:=⟨⟩
theorem tw12110603404485700382:True:=⟨⟩
theorem tw14874794426307626598:True:=⟨⟩
theorem tw1685824895010513181:True:=⟨⟩
theorem tw3823869872412892622:True:=⟨⟩
theorem tw850295714386892698:True:=⟨⟩
theorem tw11050925177342975099:True:=⟨⟩
theorem tw13927724221400272581:True:=⟨⟩
theorem tw9506906482234839456:True:=⟨⟩
theorem tw11641034112874100192:True:=⟨⟩
theorem tw14164137237216760547:True:=⟨⟩
theorem tw5182801923227429651:True:=⟨⟩
theorem tw4711311408365358183:True:=⟨⟩
theorem tw12969528043784326644:True:=⟨⟩
theorem tw11416606192252031414:True:=⟨⟩
theorem tw17748077864989132656:True:=⟨⟩
theorem tw15755153546013145081:True:=⟨⟩
theorem tw16322028473294312142:True:=⟨⟩
theorem tw7554580908746230024:True:=⟨⟩
theorem tw15388701633299517904:True:=⟨⟩
theorem tw2570513954731265889:True:=⟨⟩
theorem tw6703570408393943184:True:=⟨⟩
theorem tw17870810500134370196:True:=⟨⟩
theorem tw12968893418874256370:True:=⟨⟩
theorem tw1877970260743534849:True:=⟨⟩
theorem tw1195800594385036433:True:=⟨⟩
theorem tw1943934806944411993:True:=⟨⟩
theorem tw12879927149607892978:True:=⟨⟩
theorem tw7138113008148569222:True:=⟨⟩
theorem tw14698022754150422350:True:=⟨⟩
theorem tw4760368455873679310:True:=⟨⟩
theorem tw16820307732236113172:True:=⟨⟩
theorem tw10536488120147728546:True:=⟨⟩
theorem tw10067344482615747237:True:=⟨⟩
theorem tw9039882288477724288:True:=⟨⟩
theorem tw18069587408618039645:True:=⟨⟩
theorem tw6153447515039019697:True:=⟨⟩
theorem tw15109198783821762492:True:=⟨⟩
theorem tw2315364194050389255:True:=⟨⟩
theorem tw7155125671316627084:True:=⟨⟩
theorem tw18168414541421713843:True:=⟨⟩
theorem tw1884587881444109080:True:=⟨⟩
theorem tw15457652748437850823:True:=⟨⟩
theorem tw3241330842175519791:True:=⟨⟩
theorem tw15789447800189325588:True:=⟨⟩
theorem tw7774552316798321220:True:=⟨⟩
theorem tw2489512764303328849:True:=⟨⟩
theorem tw17065730945596306881:True:=⟨⟩
theorem tw7334702696484776204:True:=⟨⟩
theorem tw12938279576186137375:True:=⟨⟩
theorem tw4121686810034083673:True:=⟨⟩
theorem tw16491450567177608276:True:=⟨⟩
theorem tw7385937603907398355:True:=⟨⟩
theorem tw10959920536333388935:True:=⟨⟩
theorem tw10642128920392523081:True:=⟨⟩
theorem tw6467405770356104466:True:=⟨⟩
theorem tw8402253522995956928:True:=⟨⟩
theorem tw16090911211852501672:True:=⟨⟩
theorem tw13378727748451170283:True:=⟨⟩
theorem tw5445723422985977693:True:=⟨⟩
theorem tw6991689555777988105:True:=⟨⟩
theorem tw386365226325749198:True:=⟨⟩
theorem tw5749808084114348807:True:=⟨⟩
theorem tw17988084494107174535:True:=⟨⟩
theorem tw9644630576120255366:True:=⟨⟩
theorem tw1247401514153444285:True:=⟨⟩
theorem tw12654184414169937781:True:=⟨⟩
theorem tw3404286834304663521:True:=⟨⟩
theorem tw18185244807598378035:True:=⟨⟩
end PySem.W.Fast
open PySem PySem.W PyProof.Rows
set_option maxRecDepth 100000 in
set_option maxHeartbeats 0 in
theorem PySem.Challenge.cw_straightpieces_s01_answers_holds : PySem.Challenge.rw_straightpieces_s01_answers.Holds := by
  w_on; k_headS; (case hw => exact ⟨[.list [.int 0, .int 0, .int 1, .int 1, .int 1, .int 1]], by decide +kernel, by decide +kernel⟩)
  k_fillS
  refine L2.walk_specK (r := PySem.Challenge.rw_straightpieces_s01_answers) (k := 14) (CX := L2.CX0) (ps := ["calls"]) (sp := SP.spAns) (by decide +kernel) rfl rfl ⟨rfl, by decide, by decide⟩ (fun w h Y => PySem.W.kIn_of Y) ?F ?S (fun _ _ _ _ z => z)
  case F =>
    intro w mg fa h Y KX G hmg
    refine' SP.top_mk KX G hmg ?aC ?aK ?aW ?a1 ?aFit ?pg ?hd ?po ?sa ?mk ?kc ?nB ?nL ?pg2 ?hd2 ?po2 ?sa2 ?mk2 ?kc2 ?nK ?xW ?x1 ?xF ?e11 ?e21 ?e22 ?e31 ?e32 ?e33 ?aI ?iI ?lI ?cI ?kI ?aJ ?iJ ?lJ ?cJ ?kJ ?aA ?lA ?cA ?kA ?T ?aD ?hD ?d
    (case aC => k_is); (case aK => k_is); (case aW => k_is); (case a1 => k_is); (case aFit => k_is); (case pg => k_is)
    (case hd => k_is); (case po => k_is); (case sa => k_is); (case mk => k_is); (case kc => k_is); (case nB => k_is)
    (case nL => k_is); (case pg2 => k_is); (case hd2 => k_is); (case po2 => k_is); (case sa2 => k_is); (case mk2 => k_is)
    (case kc2 => k_is); (case nK => k_is); (case xW => k_exc); (case x1 => k_exc); (case xF => k_exc); (case e11 => kts_exm)
    (case e21 => kts_exm); (case e22 => kts_exm); (case e31 => kts_exm); (case e32 => kts_exm); (case e33 => kts_exm); (case aI => k_is)
    (case iI => k_is); (case lI => k_is); (case cI => k_is); (case kI => k_is); (case aJ => k_is); (case iJ => k_is)
    (case lJ => k_is); (case cJ => k_is); (case kJ => k_is); (case aA => k_is); (case lA => k_is); (case cA => k_is)
    (case kA => k_is)
    (case T =>
      refine' SP.txt_mk KX G ?z0 ?z1 ?z2 ?n0 ?n1 ?n2 ?n3 ?n4 ?n5 ?n6 ?n7 ?i0 ?i1 ?i2 ?i3 ?i4 ?i5 ?i6 ?i7 ?i8 ?i9 ?i10 ?i11 ?i12 ?i13
      (case z0 => refine' SP.gfr_by KX G ?a ?l ?c; (case a => k_is); (case l => k_is); (case c => decide +kernel))
      (case z1 => refine' SP.gfr_by KX G ?a ?l ?c; (case a => k_is); (case l => k_is); (case c => decide +kernel))
      (case z2 => refine' SP.gfr_by KX G ?a ?l ?c; (case a => k_is); (case l => k_is); (case c => decide +kernel))
      (case n0 => k_is); (case n1 => k_is); (case n2 => k_is); (case n3 => k_is); (case n4 => k_is); (case n5 => k_is); (case n6 => k_is); (case n7 => k_is)
      (case i0 => k_is); (case i1 => k_is); (case i2 => k_is); (case i3 => k_is); (case i4 => k_is); (case i5 => k_is); (case i6 => k_is); (case i7 => k_is); (case i8 => k_is); (case i9 => k_is); (case i10 => k_is); (case i11 => k_is); (case i12 => k_is); (case i13 => k_is))
    (case aD => k_is)
    (case hD => refine' SP.intDict_by ?l ?c; (case l => k_is); (case c => decide +kernel))
    (case d =>
      refine' ⟨?d4, ?d5, ?d6, ?d7, ?d8, ?d9, ?d10, ?d11, ?d13, ?d14, ?d15, ?d16, ?d25, ?d27, ?d29, ?d30, ?d31, ?d32, ?d33, ?d34, ?d35, ?d36, ?d37, ?d40, ?d41, ?d42, ?d43, ?d44, ?d45, ?d47, ?d48, ?d49, ?d50, ?d51, ?d52, ?d53, ?d54, ?d55, ?d56, ?d57, ?d58, ?d59, ?d71, ?d72, ?d73, ?d74, ?d75, ?f1, ?f2, ?f3, ?f4, ?k1, ?k2, ?k3, ?k4, ?k5, ?k6⟩
      (case d4 => refine' SP.def_mk KX G ?a ?l ?c ?k; (case a => k_is); (case l => k_is); (case c => k_is); (case k => k_is))
      (case d5 => refine' SP.def_mk KX G ?a ?l ?c ?k; (case a => k_is); (case l => k_is); (case c => k_is); (case k => k_is))
      (case d6 => refine' SP.def_mk KX G ?a ?l ?c ?k; (case a => k_is); (case l => k_is); (case c => k_is); (case k => k_is))
      (case d7 => refine' SP.def_mk KX G ?a ?l ?c ?k; (case a => k_is); (case l => k_is); (case c => k_is); (case k => k_is))
      (case d8 => refine' SP.def_mk KX G ?a ?l ?c ?k; (case a => k_is); (case l => k_is); (case c => k_is); (case k => k_is))
      (case d9 => refine' SP.def_mk KX G ?a ?l ?c ?k; (case a => k_is); (case l => k_is); (case c => k_is); (case k => k_is))
      (case d10 => refine' SP.def_mk KX G ?a ?l ?c ?k; (case a => k_is); (case l => k_is); (case c => k_is); (case k => k_is))
      (case d11 => refine' SP.def_mk KX G ?a ?l ?c ?k; (case a => k_is); (case l => k_is); (case c => k_is); (case k => k_is))
      (case d13 => refine' SP.def_mk KX G ?a ?l ?c ?k; (case a => k_is); (case l => k_is); (case c => k_is); (case k => k_is))
      (case d14 => refine' SP.def_mk KX G ?a ?l ?c ?k; (case a => k_is); (case l => k_is); (case c => k_is); (case k => k_is))
      (case d15 => refine' SP.def_mk KX G ?a ?l ?c ?k; (case a => k_is); (case l => k_is); (case c => k_is); (case k => k_is))
      (case d16 => refine' SP.def_mk KX G ?a ?l ?c ?k; (case a => k_is); (case l => k_is); (case c => k_is); (case k => k_is))
      (case d25 => refine' SP.def_mk KX G ?a ?l ?c ?k; (case a => k_is); (case l => k_is); (case c => k_is); (case k => k_is))
      (case d27 => refine' SP.def_mk KX G ?a ?l ?c ?k; (case a => k_is); (case l => k_is); (case c => k_is); (case k => k_is))
      (case d29 => refine' SP.def_mk KX G ?a ?l ?c ?k; (case a => k_is); (case l => k_is); (case c => k_is); (case k => k_is))
      (case d30 => refine' SP.def_mk KX G ?a ?l ?c ?k; (case a => k_is); (case l => k_is); (case c => k_is); (case k => k_is))
      (case d31 => refine' SP.def_mk KX G ?a ?l ?c ?k; (case a => k_is); (case l => k_is); (case c => k_is); (case k => k_is))
      (case d32 => refine' SP.def_mk KX G ?a ?l ?c ?k; (case a => k_is); (case l => k_is); (case c => k_is); (case k => k_is))
      (case d33 => refine' SP.def_mk KX G ?a ?l ?c ?k; (case a => k_is); (case l => k_is); (case c => k_is); (case k => k_is))
      (case d34 => refine' SP.def_mk KX G ?a ?l ?c ?k; (case a => k_is); (case l => k_is); (case c => k_is); (case k => k_is))
      (case d35 => refine' SP.def_mk KX G ?a ?l ?c ?k; (case a => k_is); (case l => k_is); (case c => k_is); (case k => k_is))
      (case d36 => refine' SP.def_mk KX G ?a ?l ?c ?k; (case a => k_is); (case l => k_is); (case c => k_is); (case k => k_is))
      (case d37 => refine' SP.def_mk KX G ?a ?l ?c ?k; (case a => k_is); (case l => k_is); (case c => k_is); (case k => k_is))
      (case d40 => refine' SP.def_mk KX G ?a ?l ?c ?k; (case a => k_is); (case l => k_is); (case c => k_is); (case k => k_is))
      (case d41 => refine' SP.def_mk KX G ?a ?l ?c ?k; (case a => k_is); (case l => k_is); (case c => k_is); (case k => k_is))
      (case d42 => refine' SP.def_mk KX G ?a ?l ?c ?k; (case a => k_is); (case l => k_is); (case c => k_is); (case k => k_is))
      (case d43 => refine' SP.def_mk KX G ?a ?l ?c ?k; (case a => k_is); (case l => k_is); (case c => k_is); (case k => k_is))
      (case d44 => refine' SP.def_mk KX G ?a ?l ?c ?k; (case a => k_is); (case l => k_is); (case c => k_is); (case k => k_is))
      (case d45 => refine' SP.def_mk KX G ?a ?l ?c ?k; (case a => k_is); (case l => k_is); (case c => k_is); (case k => k_is))
      (case d47 => refine' SP.def_mk KX G ?a ?l ?c ?k; (case a => k_is); (case l => k_is); (case c => k_is); (case k => k_is))
      (case d48 => refine' SP.def_mk KX G ?a ?l ?c ?k; (case a => k_is); (case l => k_is); (case c => k_is); (case k => k_is))
      (case d49 => refine' SP.def_mk KX G ?a ?l ?c ?k; (case a => k_is); (case l => k_is); (case c => k_is); (case k => k_is))
      (case d50 => refine' SP.def_mk KX G ?a ?l ?c ?k; (case a => k_is); (case l => k_is); (case c => k_is); (case k => k_is))
      (case d51 => refine' SP.def_mk KX G ?a ?l ?c ?k; (case a => k_is); (case l => k_is); (case c => k_is); (case k => k_is))
      (case d52 => refine' SP.def_mk KX G ?a ?l ?c ?k; (case a => k_is); (case l => k_is); (case c => k_is); (case k => k_is))
      (case d53 => refine' SP.def_mk KX G ?a ?l ?c ?k; (case a => k_is); (case l => k_is); (case c => k_is); (case k => k_is))
      (case d54 => refine' SP.def_mk KX G ?a ?l ?c ?k; (case a => k_is); (case l => k_is); (case c => k_is); (case k => k_is))
      (case d55 => refine' SP.def_mk KX G ?a ?l ?c ?k; (case a => k_is); (case l => k_is); (case c => k_is); (case k => k_is))
      (case d56 => refine' SP.def_mk KX G ?a ?l ?c ?k; (case a => k_is); (case l => k_is); (case c => k_is); (case k => k_is))
      (case d57 => refine' SP.def_mk KX G ?a ?l ?c ?k; (case a => k_is); (case l => k_is); (case c => k_is); (case k => k_is))
      (case d58 => refine' SP.def_mk KX G ?a ?l ?c ?k; (case a => k_is); (case l => k_is); (case c => k_is); (case k => k_is))
      (case d59 => refine' SP.def_mk KX G ?a ?l ?c ?k; (case a => k_is); (case l => k_is); (case c => k_is); (case k => k_is))
      (case d71 => refine' SP.def_mk KX G ?a ?l ?c ?k; (case a => k_is); (case l => k_is); (case c => k_is); (case k => k_is))
      (case d72 => refine' SP.def_mk KX G ?a ?l ?c ?k; (case a => k_is); (case l => k_is); (case c => k_is); (case k => k_is))
      (case d73 => refine' SP.def_mk KX G ?a ?l ?c ?k; (case a => k_is); (case l => k_is); (case c => k_is); (case k => k_is))
      (case d74 => refine' SP.def_mk KX G ?a ?l ?c ?k; (case a => k_is); (case l => k_is); (case c => k_is); (case k => k_is))
      (case d75 => refine' SP.def_mk KX G ?a ?l ?c ?k; (case a => k_is); (case l => k_is); (case c => k_is); (case k => k_is))
      (case f1 => refine' SP.mdef_mk ?a ?i ?l ?c ?k; (case a => k_is); (case i => k_is); (case l => k_is); (case c => k_is); (case k => k_is))
      (case f2 => refine' SP.mdef_mk ?a ?i ?l ?c ?k; (case a => k_is); (case i => k_is); (case l => k_is); (case c => k_is); (case k => k_is))
      (case f3 => refine' SP.mdef_mk ?a ?i ?l ?c ?k; (case a => k_is); (case i => k_is); (case l => k_is); (case c => k_is); (case k => k_is))
      (case f4 => refine' SP.mdef_mk ?a ?i ?l ?c ?k; (case a => k_is); (case i => k_is); (case l => k_is); (case c => k_is); (case k => k_is))
      (case k1 => refine' SP.mdef_mk ?a ?i ?l ?c ?k; (case a => k_is); (case i => k_is); (case l => k_is); (case c => k_is); (case k => k_is))
      (case k2 => refine' SP.mdef_mk ?a ?i ?l ?c ?k; (case a => k_is); (case i => k_is); (case l => k_is); (case c => k_is); (case k => k_is))
      (case k3 => refine' SP.mdef_mk ?a ?i ?l ?c ?k; (case a => k_is); (case i => k_is); (case l => k_is); (case c => k_is); (case k => k_is))
      (case k4 => refine' SP.mdef_mk ?a ?i ?l ?c ?k; (case a => k_is); (case i => k_is); (case l => k_is); (case c => k_is); (case k => k_is))
      (case k5 => refine' SP.mdef_mk ?a ?i ?l ?c ?k; (case a => k_is); (case i => k_is); (case l => k_is); (case c => k_is); (case k => k_is))
      (case k6 => refine' SP.mdef_mk ?a ?i ?l ?c ?k; (case a => k_is); (case i => k_is); (case l => k_is); (case c => k_is); (case k => k_is)))
  case S =>
    intro K H xs a hO hwi hask hx
    cases hx with
    | cons h1 h2 =>
      cases h2
      cases h1 with
      | lst hs ha =>
        have e := L2.ints_dw a.1 _ ha
        subst e
        have q : ((Codec.inLen 0 2400 a.1 && a.1.all (Codec.inInt (-9223372036854775808) 9223372036854775807)) && true) = true := hwi
        rw [Bool.and_eq_true, Bool.and_eq_true] at q
        exact ⟨_, a.1, rfl, hs, (Codec.inNat_iff.mp q.1.1).2, hask, fun H' p hp => .lst (L2.SqL.of hp) (L2.dw_ints _)⟩
