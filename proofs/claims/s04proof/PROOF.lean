import PyProof.Rows.All
import Wide.All
import OpenK.AllK
import Wide.FinOn
import PyProof.EqAt
import PyProof.EqKinds
import PyProof.TupleCall
import KE.BitLaws
import Open.SpecLaws
import KE.OsHead
import KE.OsGo
import PyKp172
import PySem.SetTable
import PyProof.Rows.SetFrom
import PyProof.TupleKey
import PyProof.IsRules
import PySem.Challenge.RW_strictpage_s04_pg_plain
set_option Elab.async false
set_option linter.all false
section
section
set_option Elab.async false
set_option linter.all false
set_option maxRecDepth 100000
set_option Elab.async false
set_option linter.all false
set_option maxRecDepth 100000
namespace L2
open PySem PySem.Spec PyProof.Rows
abbrev Key := Sum Int Str
def keyIs : Key → Value → Bool
  | .inl k, v => Value.isInt k v
  | .inr x, v => Value.isStrOf x v
def keyH (w : World) : Key → Int
  | .inl k => hashInt k
  | .inr x => hashStr w x
theorem keyIs_shape : ∀ {k : Key} {v : Value}, keyIs k v = true → (∃ i t, k = Sum.inl i ∧ v = Value.int i t) ∨ (∃ x t, k = Sum.inr x ∧ v = Value.str x t)
  | .inl i, v, h => by
    obtain ⟨t, e⟩ := Value.isInt_shape (k := i) (v := v) h
    exact .inl ⟨i, t, rfl, e⟩
  | .inr x, v, h => by
    obtain ⟨t, e⟩ := Value.isStrOf_shape (x := x) (v := v) h
    exact .inr ⟨x, t, rfl, e⟩
theorem keyIs_int (i : Int) (t : Tok) : keyIs (.inl i) (.int i t) = true := by simp [keyIs, Value.isInt]
theorem keyIs_str (x : Str) (t : Tok) : keyIs (.inr x) (.str x t) = true := by simp [keyIs, Value.isStrOf]
theorem key_ll (a b : Int) : decide ((Sum.inl a : Key) = Sum.inl b) = (a == b) := by
  by_cases e : a = b
  · subst e; simp
  · have h : ¬ (Sum.inl a : Key) = Sum.inl b := fun q => e (Sum.inl.inj q)
    rw [decide_eq_false h]
    exact (beq_eq_false_iff_ne.mpr e).symm
theorem key_rr (a b : Str) : decide ((Sum.inr a : Key) = Sum.inr b) = decide (a = b) := by
  by_cases e : a = b
  · subst e; simp
  · have h : ¬ (Sum.inr a : Key) = Sum.inr b := fun q => e (Sum.inr.inj q)
    rw [decide_eq_false h, decide_eq_false e]
theorem key_lr (a : Int) (b : Str) : decide ((Sum.inl a : Key) = Sum.inr b) = false := decide_eq_false (fun q => nomatch q)
theorem key_rl (a : Str) (b : Int) : decide ((Sum.inr a : Key) = Sum.inl b) = false := decide_eq_false (fun q => nomatch q)
def mixKind (prog : Program) (w : World) : PySem.KeyKind prog w Key where
  is := keyIs
  hash := keyH w
  inj := fun v a b ha hb => by
    rcases keyIs_shape ha with ⟨i, t, rfl, rfl⟩ | ⟨x, t, rfl, rfl⟩
    · rcases keyIs_shape hb with ⟨j, u, rfl, e⟩ | ⟨y, u, rfl, e⟩
      · injection e with e1 _; rw [e1]
      · exact nomatch e
    · rcases keyIs_shape hb with ⟨j, u, rfl, e⟩ | ⟨y, u, rfl, e⟩
      · exact nomatch e
      · injection e with e1 _; rw [e1]
  byValue := fun k v h => by
    rcases keyIs_shape h with ⟨i, t, rfl, rfl⟩ | ⟨x, t, rfl, rfl⟩ <;> rfl
  pyHash := fun hv h => by
    rcases keyIs_shape hv with ⟨i, t, rfl, rfl⟩ | ⟨x, t, rfl, rfl⟩
    · exact wpAny_pyHash_int h
    · exact wpAny_pyHash_str h
  eqBool := fun hu hv h => by
    rcases keyIs_shape hu with ⟨i, t, rfl, rfl⟩ | ⟨x, t, rfl, rfl⟩
    · rcases keyIs_shape hv with ⟨j, u, rfl, rfl⟩ | ⟨y, u, rfl, rfl⟩
      · rw [key_ll] at h; exact wpAny_eqBool_int h
      · rw [key_lr] at h; exact SeqAt.EqAt.int_str i t y u _ _ _ _ h
    · rcases keyIs_shape hv with ⟨j, u, rfl, rfl⟩ | ⟨y, u, rfl, rfl⟩
      · rw [key_rl] at h; exact SeqAt.EqAt.str_int x t j u _ _ _ _ h
      · rw [key_rr] at h; exact wpAny_eqBool_str h
  «strs» := fun k x t v h => by
    rcases keyIs_shape h with ⟨i, u, rfl, e⟩ | ⟨y, u, rfl, e⟩
    · exact nomatch e
    · injection e with e1 _
      subst e1
      cases v <;> rfl
theorem mixKind_int (prog : Program) (w : World) (i : Int) (t : Tok) : (mixKind prog w).is (.inl i) (.int i t) = true := keyIs_int i t
theorem mixKind_str (prog : Program) (w : World) (x : Str) (t : Tok) : (mixKind prog w).is (.inr x) (.str x t) = true := keyIs_str x t
end L2
namespace L2
open PySem PySem.Spec PyProof.Rows
inductive V where
  | non | bl (b : Bool) | int (i : Int) | str (x : Str) | byt (b : Array UInt8) | flt (b : UInt64) | ref (a : Addr) | ty (n : String)
  deriving DecidableEq
def RelV : V → Value → Prop
  | .non, u => u = Value.none
  | .bl b, u => u = Value.bool b
  | .int i, u => ∃ t, u = Value.int i t
  | .str x, u => ∃ t, u = Value.str x t
  | .byt b, u => ∃ t, u = Value.bytes b t
  | .flt b, u => ∃ t, u = Value.float b t
  | .ref a, u => u = Value.ref a
  | .ty n, u => u = Value.type n
abbrev Vals : List V → List Value → Prop := Paired RelV
theorem Vals.length {xs : List V} {us : List Value} (r : Vals xs us) : xs.length = us.length := Paired.length r
theorem Vals.get : ∀ {xs : List V} {us : List Value} {i : Nat} {x : V}, Vals xs us → xs[i]? = some x → ∃ u, us[i]? = some u ∧ RelV x u
  | _, _, _, _, .nil, e => by simp at e
  | _, _, 0, _, .cons r _, e => by simp at e; subst e; exact ⟨_, rfl, r⟩
  | _, _, i + 1, x, .cons _ t, e => by
    obtain ⟨u, h1, h2⟩ := Vals.get (i := i) (x := x) t (by simpa using e)
    exact ⟨u, by simpa using h1, h2⟩
theorem Vals.append : ∀ {xs ys : List V} {us ws : List Value}, Vals xs us → Vals ys ws → Vals (xs ++ ys) (us ++ ws)
  | _, _, _, _, .nil, s => s
  | _, _, _, _, .cons r t, s => .cons r (Vals.append t s)
theorem Vals.take : ∀ {xs : List V} {us : List Value} (n : Nat), Vals xs us → Vals (xs.take n) (us.take n)
  | _, _, 0, _ => .nil
  | _, _, _ + 1, .nil => .nil
  | _, _, n + 1, .cons r t => .cons r (Vals.take n t)
theorem Vals.drop : ∀ {xs : List V} {us : List Value} (n : Nat), Vals xs us → Vals (xs.drop n) (us.drop n)
  | _, _, 0, r => r
  | _, _, _ + 1, .nil => .nil
  | _, _, n + 1, .cons _ t => Vals.drop n t
def RelO : Option V → Option Value → Prop
  | some v, some u => RelV v u
  | none, none => True
  | _, _ => False
def KV {κ : Type} : List (κ × V) → List (κ × Value) → Prop := Paired fun (p : κ × V) (q : κ × Value) => p.1 = q.1 ∧ RelV p.2 q.2
def kV : Key → V
  | .inl i => .int i
  | .inr x => .str x
inductive HO where
  /-- a list -/
  | lst (xs : List V)
  /-- a tuple (never changes) -/
  | tup (xs : List V)
  /-- a dict whose keys are ints and texts; one whose keys are tuples of ints and texts (the empty one is both) -/
  | dK (kvs : List (Key × V)) | dT (kvs : List (List Key × V))
  /-- a set of ints: its members, its size -/
  | set (S : Int → Bool) (n : Nat)
  /-- an instance of the class at C, its dict at dx, its attributes -/
  | ins (C dx : Addr) (fs : List (Str × V))
  /-- the dict of the instance at x -/
  | own (x : Addr)
  /-- the dict of an exception -/
  | xd (fs : List (Str × V))
  /-- a bound method, f of x -/
  | met (f x : Addr)
  /-- a range object lo, lo + 1, .. below hi -/
  | rng (lo hi : Int)
  /-- a thing that is known to the object (the script; a dict while a loop walks it): read, never written while it is so -/
  | frz (o : Obj) (u : HO)
  /-- a code object's table -/
  | tbl (ps : Array Value)
  /-- any other thing, by what is true of its one object (a def of one's own: SetO a S n := HO.ext fun h => ..) -/
  | ext (φ : Heap → Prop)
abbrev Hp := Addr → Option HO
def upd (H : Hp) (a : Addr) (o : HO) : Hp := fun b => if b = a then some o else H b
theorem upd_same {H : Hp} {a : Addr} {o : HO} : upd H a o a = some o := by unfold upd; rw [if_pos rfl]
theorem upd_ne {H : Hp} {a b : Addr} {o : HO} (h : b ≠ a) : upd H a o b = H b := by unfold upd; rw [if_neg h]
theorem ne_of {H : Hp} {a b : Addr} {o u : HO} (h : H a = some o) (h' : H b = some u) (d : o ≠ u) : a ≠ b := by
  intro e; subst e; rw [h] at h'; exact d (Option.some.inj h')
theorem ne_of_none {H : Hp} {a b : Addr} {o : HO} (h : H a = some o) (h' : H b = none) : a ≠ b := by
  intro e; subst e; rw [h] at h'; cases h'
section
variable (P : Program) (w : World)
def ObjOk (H : Hp) (h : Heap) (a : Addr) : HO → Prop
  | .lst xs => xs.length ≤ sizeLine ∧ ∃ (its : List Value) (n : Nat), Vals xs its ∧ h.get? a = some { cls := .type "list", data := .seq its.toArray n }
  | .tup xs => xs.length ≤ sizeLine ∧ ∃ its : List Value, Vals xs its ∧ IsTup h a its.toArray
  | .dK kvs => kvs.length ≤ sizeLine ∧ (a == sysModules) = false ∧ ∃ vs, KV kvs vs ∧ h.DictOf (mixKind P w) a vs
  | .dT kvs => kvs.length ≤ sizeLine ∧ (a == sysModules) = false ∧ ∃ xs : List (List Key × Addr × Value),
      Paired (fun (p : List Key × V) (q : List Key × Addr × Value) => p.1 = q.1 ∧ H q.2.1 = some (.tup (p.1.map kV)) ∧ RelV p.2 q.2.2) kvs xs ∧
      ∃ o es ep, h.get? a = some o ∧ o.ExactDict ∧ o.data = .dict es ep ∧ es.toList = xs.map (entryOfKey (tupleKind (mixKind P w))) ∧ (xs.map (·.1)).Nodup
  | .set S n => h.SetOf (intKind P w) a S n
  | .ins C dx fs => H dx = some (.own a) ∧ fs.length ≤ 1000 ∧ dx ≠ a ∧ h.get? a = some (PySem.W.instObj C dx) ∧
      ∃ mA, h.Ns1 dx mA ∧ (∀ f, RelO (fs.lookup f) (mA f)) ∧ PySem.Within mA (fs.map (·.1))
  | .own _ => ∃ o, h.get? a = some o
  | .xd fs => ∃ mA, h.Ns1 a mA ∧ ∀ f, RelO (fs.lookup f) (mA f)
  | .rng lo hi => ∃ t u v, h.get? a = some { cls := .type "range", data := .fields #[.int lo t, .int hi u, .int 1 v] }
  | .frz o u => h.get? a = some o ∧ ObjOk H h a u
  | .tbl ps => h.get? a = some { cls := .none, data := .fields ps }
  | .met f x => h.get? a = some (PySem.W.methodObj (.ref f) (.ref x))
  | .ext φ => φ h ∧ (∃ o, h.get? a = some o) ∧ ∀ h1 h2 : Heap, φ h1 → (∀ o, h1.get? a = some o → h2.get? a = some o) → φ h2
def HOk (H : Hp) (h : Heap) : Prop := ∀ a o, H a = some o → ObjOk P w H h a o
end
section
variable {P : Program} {w : World} {H H' : Hp} {h h' : Heap} {a : Addr} {o : HO}
theorem ObjOk.lt (x : ObjOk P w H h a o) : a < h.objs.size := by
  cases o with
  | lst xs => obtain ⟨_, _, _, _, e⟩ := x; exact Heap.lt_size e
  | tup xs => obtain ⟨_, _, _, p⟩ := x; exact p.lt
  | dK kvs => obtain ⟨_, _, _, _, o, _, _, e, _⟩ := x; exact Heap.lt_size e
  | dT kvs => obtain ⟨_, _, _, _, o, _, _, e, _⟩ := x; exact Heap.lt_size e
  | set S n => obtain ⟨o, _, _, _, e, _⟩ := x; exact Heap.lt_size e
  | ins C dx fs => obtain ⟨_, _, _, e, _⟩ := x; exact Heap.lt_size e
  | own y => obtain ⟨_, e⟩ := x; exact Heap.lt_size e
  | xd fs => obtain ⟨_, ⟨_, _, _, e, _⟩, _⟩ := x; exact Heap.lt_size e
  | rng lo hi => obtain ⟨_, _, _, e⟩ := x; exact Heap.lt_size e
  | frz ob u => obtain ⟨e, _⟩ := x; exact Heap.lt_size e
  | tbl ps => exact Heap.lt_size (show h.get? a = some _ from x)
  | met f y => exact Heap.lt_size (show h.get? a = some _ from x)
  | ext φ => obtain ⟨_, ⟨_, e⟩, _⟩ := x; exact Heap.lt_size e
theorem Paired.mapP {α β : Type} {F G : α → β → Prop} : ∀ {l₁ : List α} {l₂ : List β}, Paired F l₁ l₂ → (∀ a b, F a b → G a b) → Paired G l₁ l₂
  | _, _, .nil, _ => .nil
  | _, _, .cons r t, f => .cons (f _ _ r) (Paired.mapP t f)
theorem ObjOk.stay (x : ObjOk P w H h a o) (k : ∀ b u, (b = a ∨ H b = some (.own a)) → h.get? b = some u → h'.get? b = some u)
    (ho : ∀ b, H b = some (.own a) → H' b = some (.own a)) (ht : ∀ b xs, H b = some (.tup xs) → H' b = some (.tup xs)) : ObjOk P w H' h' a o := by
  induction o with
  | lst xs => obtain ⟨z, its, n, r, e⟩ := x; exact ⟨z, its, n, r, k _ _ (.inl rfl) e⟩
  | tup xs => obtain ⟨z, its, r, ob, e, c⟩ := x; exact ⟨z, its, r, ob, k _ _ (.inl rfl) e, c⟩
  | dK kvs => obtain ⟨z, y, vs, r, ob, es, ep, e, c⟩ := x; exact ⟨z, y, vs, r, ob, es, ep, k _ _ (.inl rfl) e, c⟩
  | dT kvs =>
    obtain ⟨z, y, xs, r, ob, es, ep, e, c⟩ := x
    exact ⟨z, y, xs, Paired.mapP r fun p q z => ⟨z.1, ht _ _ z.2.1, z.2.2⟩, ob, es, ep, k _ _ (.inl rfl) e, c⟩
  | set S n => obtain ⟨ob, es, ep, t, e, c⟩ := x; exact ⟨ob, es, ep, t, k _ _ (.inl rfl) e, c⟩
  | ins C dx fs =>
    obtain ⟨d, z, ne, e, mA, ⟨od, es, ep, e2, c⟩, r⟩ := x
    exact ⟨ho _ d, z, ne, k _ _ (.inl rfl) e, mA, ⟨od, es, ep, k _ _ (.inr d) e2, c⟩, r⟩
  | own y => obtain ⟨ob, e⟩ := x; exact ⟨ob, k _ _ (.inl rfl) e⟩
  | xd fs => obtain ⟨mA, ⟨od, es, ep, e, c⟩, r⟩ := x; exact ⟨mA, ⟨od, es, ep, k _ _ (.inl rfl) e, c⟩, r⟩
  | rng lo hi => obtain ⟨t, u, v, e⟩ := x; exact ⟨t, u, v, k _ _ (.inl rfl) e⟩
  | frz ob u ih => obtain ⟨e, q⟩ := x; exact ⟨k _ _ (.inl rfl) e, ih q⟩
  | tbl ps =>
    have e : h.get? a = some { cls := .none, data := .fields ps } := x
    show h'.get? a = some { cls := .none, data := .fields ps }
    exact k a _ (.inl rfl) e
  | met f y =>
    have e : h.get? a = some (PySem.W.methodObj (.ref f) (.ref y)) := x
    show h'.get? a = some (PySem.W.methodObj (.ref f) (.ref y))
    exact k a _ (.inl rfl) e
  | ext φ => obtain ⟨p, ⟨o, e⟩, st⟩ := x; exact ⟨st _ _ p fun o q => k _ _ (.inl rfl) q, ⟨o, k _ _ (.inl rfl) e⟩, st⟩
theorem HOk.lt (x : HOk P w H h) (e : H a = some o) : a < h.objs.size := (x a o e).lt
theorem HOk.fresh (x : HOk P w H h) (e : h.objs.size ≤ a) : H a = none := by
  cases q : H a with
  | none => rfl
  | some u => exact absurd (Nat.lt_of_lt_of_le (x.lt q) e) (Nat.lt_irrefl _)
theorem HOk.kept (x : HOk P w H h) (k : ∀ b u, h.get? b = some u → h'.get? b = some u) : HOk P w H h' := fun a o e =>
  (x a o e).stay (fun b u _ q => k b u q) (fun _ q => q) fun _ _ q => q
theorem HOk.laid (x : HOk P w H h) (k : ∀ b u, h.get? b = some u → h'.get? b = some u) (hp : h.objs.size ≤ a) (new : ObjOk P w (upd H a o) h' a o) : HOk P w (upd H a o) h' := fun b u e => by
  have hn := x.fresh hp
  by_cases hb : b = a
  · subst hb; rw [upd_same] at e; cases e; exact new
  · rw [upd_ne hb] at e
    exact (x b u e).stay (fun c v _ q => k c v q) (fun c q => by rw [upd_ne (ne_of_none q hn)]; exact q) fun c xs q => by rw [upd_ne (ne_of_none q hn)]; exact q
end
def Rd (H : Hp) (a : Addr) (u : HO) : Prop := H a = some u ∨ ∃ o, H a = some (.frz o u)
theorem Rd.ok {P : Program} {w : World} {H : Hp} {h : Heap} {a : Addr} {u : HO} (r : Rd H a u) (x : HOk P w H h) : ObjOk P w H h a u := by
  rcases r with r | ⟨o, r⟩
  · exact x a u r
  · obtain ⟨_, q⟩ := x a _ r
    exact q
def Mut : Option HO → Prop
  | some (.lst _) => True
  | some (.dK _) => True
  | some (.dT _) => True
  | some (.set _ _) => True
  | some (.ins _ _ _) => True
  | some (.ext _) => True
  | _ => False
section
variable {P : Program} {w : World} {H : Hp} {h h' : Heap} {x e : Addr} {o' : HO}
theorem HOk.write (ok : HOk P w H h) (mu : Mut (H x)) (he : e = x ∨ H e = some (.own x)) (k : ∀ b u, b ≠ e → h.get? b = some u → h'.get? b = some u) (heo : ∃ u, h'.get? e = some u)
    (new : ObjOk P w (upd H x o') h' x o') : HOk P w (upd H x o') h' := fun b u q => by
  have nown : ∀ c y, H c = some (.own y) → c ≠ x := fun c y r z => by subst z; rw [r] at mu; exact mu
  have ntup : ∀ c xs, H c = some (.tup xs) → c ≠ x := fun c xs r z => by subst z; rw [r] at mu; exact mu
  by_cases hb : b = x
  · subst hb; rw [upd_same] at q; cases q; exact new
  · rw [upd_ne hb] at q
    by_cases hbe : b = e
    · have q' : H b = some (.own x) := by
        rcases he with z | z
        · exact absurd (hbe.trans z) hb
        · rw [hbe]; exact z
      rw [q] at q'; cases q'
      obtain ⟨v, hv⟩ := heo
      exact ⟨v, by rw [hbe]; exact hv⟩
    · refine (ok b u q).stay (fun c v hc r => k c v ?_ r) (fun c r => by rw [upd_ne (nown c b r)]; exact r) fun c xs r => by rw [upd_ne (ntup c xs r)]; exact r
      rcases hc with rfl | hc
      · exact hbe
      · rintro rfl
        rcases he with z | z
        · exact nown c b hc z
        · rw [hc] at z; cases z; exact hb rfl
end
structure Un (fs ex : List Addr) (H H' : Hp) (h h' : Heap) : Prop where
  keep : ∀ b o, h.get? b = some o → H b = none → b ∉ fs → b ∉ ex → h'.get? b = some o
  slot : ∀ b o, h.get? b = some o → H b = none → b ∈ fs → b ∉ ex → ∃ sl, h'.get? b = some { o with slots := sl }
  free : ∀ b o, h.get? b = some o → H b = none → b ∉ ex → H' b = none
  there : ∀ b o, h.get? b = some o → b ∉ ex → ∃ o', h'.get? b = some o'
  tups : ∀ b xs, H b = some (.tup xs) → H' b = some (.tup xs)
  frzs : ∀ b o u, H b = some (.frz o u) → H' b = some (.frz o u)
  tbls : ∀ b ps, H b = some (.tbl ps) → ∃ more, H' b = some (.tbl (ps ++ more))
section
variable {fs fs' ex ex' : List Addr} {H H1 H2 : Hp} {h h1 h2 h' : Heap} {a x e : Addr} {o : HO}
theorem Un.any (u : Un fs ex H H1 h h1) {b : Addr} {ob : Obj} (q : h.get? b = some ob) (n : H b = none) (hx : b ∉ ex) : ∃ sl, h1.get? b = some { ob with slots := sl } := by
  by_cases hb : b ∈ fs
  · exact u.slot b ob q n hb hx
  · exact ⟨ob.slots, u.keep b ob q n hb hx⟩
theorem Un.kept (k : ∀ b u, h.get? b = some u → h'.get? b = some u) : Un fs ex H H h h' :=
  ⟨fun b ob q _ _ _ => k b ob q, fun b ob q _ _ _ => ⟨ob.slots, k b ob q⟩, fun _ _ _ n _ => n, fun b ob q _ => ⟨ob, k b ob q⟩, fun _ _ q => q, fun _ _ _ q => q, fun _ ps q => ⟨#[], by rw [q]; simp⟩⟩
theorem Un.refl : Un fs ex H H h h := Un.kept fun _ _ q => q
theorem Un.laid (k : ∀ b u, h.get? b = some u → h'.get? b = some u) (hp : h.objs.size ≤ a) (hn : H a = none) : Un fs ex H (upd H a o) h h' where
  keep := fun b u q _ _ _ => k b u q
  slot := fun b u q _ _ _ => ⟨u.slots, k b u q⟩
  free := fun b u q n _ => by rw [upd_ne (Nat.ne_of_lt (Nat.lt_of_lt_of_le (Heap.lt_size q) hp))]; exact n
  there := fun b u q _ => ⟨u, k b u q⟩
  tups := fun b xs q => by rw [upd_ne (ne_of_none q hn)]; exact q
  frzs := fun b u xs q => by rw [upd_ne (ne_of_none q hn)]; exact q
  tbls := fun b ps q => ⟨#[], by rw [upd_ne (ne_of_none q hn), q]; simp⟩
theorem Un.write (mu : Mut (H x)) (he : e = x ∨ H e = some (.own x)) (k : ∀ b u, b ≠ e → h.get? b = some u → h'.get? b = some u) (heo : ∃ u, h'.get? e = some u) : Un fs ex H (upd H x o) h h' := by
  have hx : ∀ b, H b = none → b ≠ x := fun b n z => by subst z; rw [n] at mu; exact mu
  have hb : ∀ b, H b = none → b ≠ e := fun b n z => by
    subst z
    rcases he with r | r
    · exact hx b n r
    · rw [n] at r; cases r
  have hm : ∀ b u, H b = some u → ¬ Mut (some u) → b ≠ x := fun b u q nm z => by subst z; rw [q] at mu; exact nm mu
  refine ⟨fun b u q n _ _ => k b u (hb b n) q, fun b u q n _ _ => ⟨u.slots, k b u (hb b n) q⟩, fun b u q n _ => by rw [upd_ne (hx b n)]; exact n, fun b u q _ => ?_,
    fun b xs q => by rw [upd_ne (hm b _ q fun z => z)]; exact q, fun b u xs q => by rw [upd_ne (hm b _ q fun z => z)]; exact q, fun b ps q => ⟨#[], by rw [upd_ne (hm b _ q fun z => z), q]; simp⟩⟩
  by_cases hbe : b = e
  · subst hbe; exact heo
  · exact ⟨u, k b u hbe q⟩
end
def trk (h : Heap) (H : Hp) : List Addr := (List.range h.objs.size).filter fun a => (H a).isSome
def hidT (h : Heap) (H : Hp) : Heap := PySem.W.hideAll h (trk h H)
theorem hidT_size (h : Heap) (H : Hp) : (hidT h H).objs.size = h.objs.size := PySem.W.hideAll_size _ _
theorem hidT_get {h : Heap} {H : Hp} {b : Addr} {o : Obj} (e : h.get? b = some o) (n : H b = none) : (hidT h H).get? b = some o :=
  PySem.W.hideAll_get _ e fun hm => by
    have q : (H b).isSome = true := (List.mem_filter.mp hm).2
    rw [n] at q; simp at q
theorem of_hidT {h : Heap} {H : Hp} {b : Addr} {o : Obj} (e : (hidT h H).get? b = some o) : h.get? b = some o ∧ H b = none := by
  have e' : h.get? b = some o := PySem.W.of_hideAll (trk h H) e
  refine ⟨e', ?_⟩
  cases q : H b with
  | none => rfl
  | some x =>
    have hm : b ∈ trk h H := List.mem_filter.mpr ⟨List.mem_range.mpr (Heap.lt_size e'), by simp [q]⟩
    have z : (hidT h H).get? b = none := PySem.W.hideAll_none (trk h H) hm
    rw [z] at e; cases e
end L2
namespace L2
open PySem PySem.Spec PyProof.Rows
structure Mod (K : PySem.W.Frag) (mg : Str → Option Value) (base : Heap) : Prop where
  kin : K.In base
  glob : base.Ns mainGlobals mg
  blt : ∃ mb, base.Ns builtinsNs mb ∧ ∀ x : Str, x ≠ "__name__" → mb x = bootBuiltins x
  nolimit : base.NoLimit
structure Cx where
  prog : Program
  w : World
  K : PySem.W.Frag
  mg : Str → Option Value
  base : Heap
  A : Around
  N : List Str
  s_0 : Shared
  H_0 : Hp
  env : Env
  outer : List Env
  stack : List Env
  ex : List Addr
  fn : Str → Bool
  calm : Bool
  pn : List (Addr × Obj)
  xe : Value → Shared → Prop
def frs (l : List Env) : List Addr := l.filterMap (·.frame)
abbrev Cx.fs (X : Cx) : List Addr := frs X.outer
def Vis (sc : Scope) (x : Str) : Prop := sc.names.lookup x = some .local ∨ sc.names.lookup x = some .cell ∨ sc.names.lookup x = some .free
def Loc (sc : Scope) (x : Str) : Prop := sc.names.lookup x = some .local ∨ sc.names.lookup x = some .cell
def Look (env : Env) (h : Heap) (m : Str → Option Value) (x : Str) (u : Value) : Prop :=
  (env.kindOf x = some .local ∧ m x = some u) ∨ ((env.kindOf x = some .cell ∨ env.kindOf x = some .free) ∧ ∃ c, env.cells.lookup x = some c ∧ h.IsCell c (some u))
structure Cx.Ok (X : Cx) : Prop where
  mod : Mod X.K X.mg X.base
  kind : X.env.scope.kind = .function
  glob : X.env.globals = mainGlobals
  blt : X.env.builtins = builtinsNs
  above : X.s_0.heap.objs.size ≤ X.env.locals
  inj : ∀ x y c, X.env.cells.lookup x = some c → X.env.cells.lookup y = some c → x = y
  has : ∀ x, (X.env.kindOf x = some .cell ∨ X.env.kindOf x = some .free) → ∃ c, X.env.cells.lookup x = some c
  cab : ∀ x c, X.fn x = true → X.env.cells.lookup x = some c → X.s_0.heap.objs.size ≤ c
  hd : X.calm = true → X.A.handled = none
  frames : X.A.frames = some X.stack
  stk : X.stack = X.outer ∨ (X.stack = X.env :: X.outer ∧ X.env.frame = some X.env.locals)
  exf : ∀ b ∈ X.ex, b ≠ X.env.locals ∧ ∀ x c, X.env.cells.lookup x = some c → c ≠ b
  bs : ∀ b o, X.base.get? b = some o → X.s_0.heap.get? b = some o ∧ X.H_0 b = none
  bsz : X.base.objs.size ≤ X.s_0.heap.objs.size
  noex : ∀ b o, X.base.get? b = some o → b ∉ X.ex
  exfs : ∀ b ∈ X.ex, b ∉ X.fs
  funs : X.s_0.heap.FunFrames X.base X.outer
  frf : ∀ b ∈ X.fs, X.H_0 b = none
structure Inv (X : Cx) (pins : List (Addr × Obj)) (σ : List (Option V)) (H : Hp) (s : Shared) : Prop where
  ok : X.Ok
  os : s.os = X.s_0.os
  bare : AllBare s.gens
  base : Un X.fs X.ex X.H_0 H X.s_0.heap s.heap
  loc : ∃ m, s.heap.Ns X.env.locals m ∧ ∀ (i : Nat) (x : Str) (v : V), X.N[i]? = some x → σ[i]? = some (some v) → Vis X.env.scope x → ∃ u, RelV v u ∧ Look X.env s.heap m x u
  cell : ∀ x c, X.env.cells.lookup x = some c → ∃ v, s.heap.IsCell c v
  free : H X.env.locals = none
  freeC : ∀ x c, X.env.cells.lookup x = some c → H c = none
  pin : ∀ p ∈ X.pn ++ pins, s.heap.get? p.1 = some p.2 ∧ H p.1 = none ∧ p.1 ≠ X.env.locals ∧ p.1 ∉ X.fs ∧ ∀ v, p.2.data ≠ .cell v
  hok : HOk X.prog X.w H s.heap
  len : σ.length = X.N.length
section
variable {X : Cx} {pins : List (Addr × Obj)} {σ : List (Option V)} {H H' : Hp} {s : Shared} {h' : Heap}
theorem Cx.Ok.nofr (ok : X.Ok) {b : Addr} {o : Obj} (e : X.base.get? b = some o) : b ∉ X.fs := fun hb => by
  have := (ok.funs.mem hb).1
  rw [e] at this; cases this
theorem Inv.bs (I : Inv X pins σ H s) : ∀ b o, X.base.get? b = some o → s.heap.get? b = some o ∧ H b = none := fun b o e =>
  ⟨I.base.keep b o (I.ok.bs b o e).1 (I.ok.bs b o e).2 (I.ok.nofr e) (I.ok.noex b o e), I.base.free b o (I.ok.bs b o e).1 (I.ok.bs b o e).2 (I.ok.noex b o e)⟩
theorem Inv.bk (I : Inv X pins σ H s) : ∀ b o, X.base.get? b = some o → s.heap.get? b = some o := fun b o e => (I.bs b o e).1
theorem Inv.mod (I : Inv X pins σ H s) : Mod X.K X.mg X.base := I.ok.mod
theorem Inv.kIn (I : Inv X pins σ H s) : X.K.In s.heap := I.ok.mod.kin.keeps I.bk
theorem Inv.lt (I : Inv X pins σ H s) : X.env.locals < s.heap.objs.size := let ⟨_, hn, _⟩ := I.loc; hn.lt
theorem Inv.sz (I : Inv X pins σ H s) : X.s_0.heap.objs.size ≤ s.heap.objs.size := Nat.le_trans I.ok.above (Nat.le_of_lt I.lt)
theorem Inv.nofs (I : Inv X pins σ H s) {a : Addr} (h : s.heap.objs.size ≤ a) : a ∉ X.fs := fun hb => by
  obtain ⟨_, o, ho, _⟩ := I.ok.funs.mem hb
  exact absurd (Nat.lt_of_lt_of_le (Heap.lt_size ho) (Nat.le_trans I.sz h)) (Nat.lt_irrefl _)
theorem Inv.cne (I : Inv X pins σ H s) : ∀ x c, X.env.cells.lookup x = some c → c ≠ X.env.locals := fun x c e z => by
  obtain ⟨v, o, ho, hd⟩ := I.cell x c e
  obtain ⟨m, ⟨o', es, ep, ho', hd', _⟩, _⟩ := I.loc
  rw [z, ho'] at ho; cases ho; rw [hd'] at hd; cases hd
theorem Inv.funs (I : Inv X pins σ H s) : s.heap.FunFrames X.base X.outer := by
  have all : ∀ (l : List Env), (∀ b ∈ frs l, b ∈ X.fs) → X.s_0.heap.FunFrames X.base l → s.heap.FunFrames X.base l := by
    intro l
    induction l with
    | nil => intro _ _; trivial
    | cons env r ih =>
      intro hs hl
      obtain ⟨hk, ⟨L, o, hf, hn, ho, hd⟩, hr⟩ := hl
      have hL : L ∈ X.fs := hs L (by unfold frs; rw [List.filterMap_cons, hf]; exact List.mem_cons_self)
      obtain ⟨sl, e⟩ := I.base.slot L o ho (I.ok.frf L hL) hL fun z => I.ok.exfs L z hL
      exact ⟨hk, ⟨L, _, hf, hn, e, hd⟩, ih (fun b hb => hs b (by unfold frs; rw [List.filterMap_cons, hf]; exact List.mem_cons_of_mem _ hb)) hr⟩
  exact all X.outer (fun _ hb => hb) I.ok.funs
theorem Inv.stack (I : Inv X pins σ H s) : s.heap.FunFrames X.base X.stack := by
  rcases I.ok.stk with e | ⟨e, hf⟩
  · rw [e]; exact I.funs
  · rw [e]
    obtain ⟨m, hn, _⟩ := I.loc
    refine .cons (by rw [I.ok.kind]; decide) hf hn ?_ I.funs
    exact Heap.get?_none_of_le (Nat.le_trans I.ok.bsz I.ok.above)
theorem Inv.stkSub (I : Inv X pins σ H s) : ∀ b ∈ frs X.stack, b ∈ X.env.locals :: X.fs := fun b hb => by
  rcases I.ok.stk with e | ⟨e, hf⟩
  · rw [e] at hb; exact List.mem_cons_of_mem _ hb
  · rw [e] at hb
    unfold frs at hb
    rw [List.filterMap_cons, hf] at hb
    exact hb
theorem Inv.stkFree (I : Inv X pins σ H s) : ∀ b ∈ frs X.stack, H b = none := fun b hb => by
  rcases List.mem_cons.mp (I.stkSub b hb) with e | hb
  · rw [e]; exact I.free
  · obtain ⟨_, o, ho, _⟩ := I.ok.funs.mem hb
    exact I.base.free b o ho (I.ok.frf b hb) fun z => I.ok.exfs b z hb
theorem Inv.step {g' : Array GenState} {t' : Nat} {d' : Drawn} {ch : List Addr} (I : Inv X pins σ H s)
    (hch : ∀ b ∈ ch, (b ∈ X.ex ∨ X.s_0.heap.objs.size ≤ b) ∧ b ≠ X.env.locals ∧ (∀ x c, X.env.cells.lookup x = some c → c ≠ b) ∧ ∀ p ∈ X.pn ++ pins, p.1 ≠ b)
    (keep : ∀ b o, b ≠ X.env.locals → b ∉ X.fs → b ∉ ch → s.heap.get? b = some o → H b = none → h'.get? b = some o)
    (slot : ∀ b o, b ≠ X.env.locals → b ∈ X.fs → b ∉ ch → s.heap.get? b = some o → H b = none → ∃ sl, h'.get? b = some { o with slots := sl }) (free : ∀ b o, b ∉ ch → s.heap.get? b = some o → H b = none → H' b = none)
    (there : ∀ b o, b ∉ ch → s.heap.get? b = some o → ∃ o', h'.get? b = some o')
    (tups : ∀ b xs, H b = some (.tup xs) → H' b = some (.tup xs)) (frzs : ∀ b o u, H b = some (.frz o u) → H' b = some (.frz o u)) (tbls : ∀ b ps, H b = some (.tbl ps) → ∃ more, H' b = some (.tbl (ps ++ more)))
    (ns : ∀ m, s.heap.Ns X.env.locals m → h'.Ns X.env.locals m) (hok : HOk X.prog X.w H' h') (hg : AllBare g') :
    Inv X pins σ H' { s with heap := h', gens := g', drawn := d', toks := t' } := by
  have neL : ∀ b o, X.s_0.heap.get? b = some o → b ≠ X.env.locals := fun b o e => Nat.ne_of_lt (Nat.lt_of_lt_of_le (Heap.lt_size e) I.ok.above)
  have neC : ∀ b o, X.s_0.heap.get? b = some o → b ∉ X.ex → b ∉ ch := fun b o e hx hb => by
    rcases (hch b hb).1 with z | z
    · exact hx z
    · exact absurd (Nat.lt_of_lt_of_le (Heap.lt_size e) z) (Nat.lt_irrefl _)
  have cellK : ∀ x c, X.env.cells.lookup x = some c → ∀ v, s.heap.IsCell c v → h'.IsCell c v := fun x c e v ⟨o, ho, hd⟩ => by
    have nch : c ∉ ch := fun z => (hch c z).2.2.1 x c e rfl
    by_cases hc : c ∈ X.fs
    · obtain ⟨sl, q⟩ := slot c o (I.cne x c e) hc nch ho (I.freeC x c e)
      exact ⟨_, q, hd⟩
    · exact ⟨o, keep c o (I.cne x c e) hc nch ho (I.freeC x c e), hd⟩
  refine ⟨I.ok, I.os, hg, ⟨fun b o e n hb hx => ?_, fun b o e n hb hx => ?_, fun b o e n hx => ?_, fun b o e hx => ?_, fun b xs e => tups b xs (I.base.tups b xs e), fun b o xs e => frzs b o xs (I.base.frzs b o xs e), fun b ps e => ?_⟩, ?_, fun x c e => ?_, ?_, fun x c e => ?_, fun p hp => ?_, hok, I.len⟩
  · exact keep b o (neL b o e) hb (neC b o e hx) (I.base.keep b o e n hb hx) (I.base.free b o e n hx)
  · obtain ⟨sl, e1⟩ := I.base.slot b o e n hb hx
    obtain ⟨sl', e2⟩ := slot b _ (neL b o e) hb (neC b o e hx) e1 (I.base.free b o e n hx)
    exact ⟨sl', e2⟩
  · obtain ⟨o', e1⟩ := I.base.there b o e hx
    exact free b o' (neC b o e hx) e1 (I.base.free b o e n hx)
  · obtain ⟨o', e1⟩ := I.base.there b o e hx
    exact there b o' (neC b o e hx) e1
  · obtain ⟨m1, e1⟩ := I.base.tbls b ps e
    obtain ⟨m2, e2⟩ := tbls b _ e1
    exact ⟨m1 ++ m2, by rw [e2, Array.append_assoc]⟩
  · obtain ⟨m, hn, hl⟩ := I.loc
    refine ⟨m, ns m hn, fun i x v e1 e2 e3 => ?_⟩
    obtain ⟨u, r, l⟩ := hl i x v e1 e2 e3
    refine ⟨u, r, ?_⟩
    rcases l with l | ⟨k, c, e, z⟩
    · exact .inl l
    · exact .inr ⟨k, c, e, cellK x c e _ z⟩
  · obtain ⟨v, z⟩ := I.cell x c e
    exact ⟨v, cellK x c e v z⟩
  · obtain ⟨m, ⟨o, _, _, ho, _⟩, _⟩ := I.loc
    exact free _ o (fun z => (hch _ z).2.1 rfl) ho I.free
  · obtain ⟨v, o, ho, hd⟩ := I.cell x c e
    exact free c o (fun z => (hch c z).2.2.1 x c e rfl) ho (I.freeC x c e)
  · obtain ⟨e, n, ne, nf, d⟩ := I.pin p hp
    have nch : p.1 ∉ ch := fun z => (hch p.1 z).2.2.2 p hp rfl
    exact ⟨keep p.1 p.2 ne nf nch e n, free p.1 p.2 nch e n, ne, nf, d⟩
theorem Inv.un {t' : Nat} (I : Inv X pins σ H s) (u : Un X.fs [] H H' s.heap h') (hok : HOk X.prog X.w H' h') : Inv X pins σ H' { s with heap := h', toks := t' } := by
  obtain ⟨m, ⟨o, es, ep, ho, r⟩, _⟩ := id I.loc
  obtain ⟨sl, hL⟩ := u.any ho I.free (by simp)
  exact I.step (g' := s.gens) (d' := s.drawn) (ch := []) (fun _ z => nomatch z) (fun b o _ hb _ e n => u.keep b o e n hb (by simp)) (fun b o _ hb _ e n => u.slot b o e n hb (by simp)) (fun b o _ e n => u.free b o e n (by simp)) (fun b o _ e => u.there b o e (by simp)) u.tups u.frzs u.tbls (fun m' hm => by
    obtain ⟨o', es', ep', ho', r'⟩ := hm
    rw [ho] at ho'; cases ho'
    exact ⟨_, es', ep', hL, r'⟩) hok I.bare
theorem Inv.call {g' : Array GenState} {t' : Nat} {d' : Drawn} {ch : List Addr} (I : Inv X pins σ H s) (u : Un (frs X.stack) ch H H' s.heap h') (hok : HOk X.prog X.w H' h') (hg : AllBare g')
    (hch : ∀ b ∈ ch, (b ∈ X.ex ∨ X.s_0.heap.objs.size ≤ b) ∧ b ≠ X.env.locals ∧ (∀ x c, X.env.cells.lookup x = some c → c ≠ b) ∧ ∀ p ∈ X.pn ++ pins, p.1 ≠ b) :
    Inv X pins σ H' { s with heap := h', gens := g', drawn := d', toks := t' } := by
  obtain ⟨m, ⟨o, es, ep, ho, r⟩, _⟩ := id I.loc
  obtain ⟨sl, hL⟩ := u.any ho I.free fun z => (hch _ z).2.1 rfl
  exact I.step (ch := ch) hch (fun b o hL hb hc e n => u.keep b o e n (fun z => (List.mem_cons.mp (I.stkSub b z)).elim hL hb) hc) (fun b o _ _ hc e n => u.any e n hc) (fun b o hc e n => u.free b o e n hc) (fun b o hc e => u.there b o e hc) u.tups u.frzs u.tbls (fun m' hm => by
    obtain ⟨o', es', ep', ho', r'⟩ := hm
    rw [ho] at ho'; cases ho'
    exact ⟨_, es', ep', hL, r'⟩) hok hg
theorem Inv.turned {t' : Nat} {it : Addr} (I : Inv X pins σ H s) (k : ∀ b o, b ≠ it → s.heap.get? b = some o → h'.get? b = some o) (hn : H it = none) (hL : it ≠ X.env.locals)
    (h1 : it ∈ X.ex ∨ X.s_0.heap.objs.size ≤ it) (h2 : ∀ x c, X.env.cells.lookup x = some c → c ≠ it) (h3 : ∀ p ∈ X.pn ++ pins, p.1 ≠ it) : Inv X pins σ H { s with heap := h', toks := t' } := by
  have nit : ∀ b u, H b = some u → b ≠ it := fun b u e z => by rw [z, hn] at e; cases e
  refine I.step (g' := s.gens) (d' := s.drawn) (ch := [it]) (fun b hb => ?_) (fun b o _ _ hc e _ => k b o (fun z => hc (by simp [z])) e) (fun b o _ _ hc e _ => ⟨o.slots, k b o (fun z => hc (by simp [z])) e⟩) (fun _ _ _ _ n => n)
    (fun b o hc e => ⟨o, k b o (fun z => hc (by simp [z])) e⟩) (fun _ _ e => e) (fun _ _ _ e => e) (fun b ps e => ⟨#[], by rw [e]; simp⟩) (fun m hm => ?_) (fun b u e => ?_) I.bare
  · have e : b = it := by simpa using hb
    subst e
    exact ⟨h1, hL, h2, h3⟩
  · obtain ⟨o, es, ep, ho, r⟩ := hm
    exact ⟨o, es, ep, k _ o (Ne.symm hL) ho, r⟩
  · refine (I.hok b u e).stay (fun c v hc q => k c v ?_ q) (fun _ q => q) fun _ _ q => q
    rcases hc with z | z
    · rw [z]; exact nit b u e
    · exact nit c _ z
theorem Inv.tok (I : Inv X pins σ H s) (t : Nat) : Inv X pins σ H { s with toks := t } := I.un (h' := s.heap) (t' := t) Un.refl I.hok
theorem Inv.kept {t' : Nat} (I : Inv X pins σ H s) (k : ∀ b u, s.heap.get? b = some u → h'.get? b = some u) : Inv X pins σ H { s with heap := h', toks := t' } := I.un (Un.kept k) (I.hok.kept k)
theorem Inv.laid {a : Addr} {o : HO} {t' : Nat} (I : Inv X pins σ H s) (k : ∀ b u, s.heap.get? b = some u → h'.get? b = some u) (hp : s.heap.objs.size ≤ a) (new : ObjOk X.prog X.w (upd H a o) h' a o) :
    Inv X pins σ (upd H a o) { s with heap := h', toks := t' } := I.un (Un.laid k hp (I.hok.fresh hp)) (I.hok.laid k hp new)
theorem Inv.write {x e : Addr} {o : HO} {t' : Nat} (I : Inv X pins σ H s) (mu : Mut (H x)) (he : e = x ∨ H e = some (.own x)) (k : ∀ b u, b ≠ e → s.heap.get? b = some u → h'.get? b = some u) (heo : ∃ u, h'.get? e = some u)
    (new : ObjOk X.prog X.w (upd H x o) h' x o) : Inv X pins σ (upd H x o) { s with heap := h', toks := t' } := I.un (Un.write mu he k heo) (I.hok.write mu he k heo new)
theorem Inv.weak {σ' : List (Option V)} (I : Inv X pins σ H s) (hl : σ'.length = σ.length) (w : ∀ (i : Nat) v, σ'[i]? = some (some v) → σ[i]? = some (some v)) : Inv X pins σ' H s :=
  ⟨I.ok, I.os, I.bare, I.base, let ⟨m, hn, hl'⟩ := I.loc; ⟨m, hn, fun i x v e1 e2 e3 => hl' i x v e1 (w i v e2) e3⟩, I.cell, I.free, I.freeC, I.pin, I.hok, hl.trans I.len⟩
theorem Inv.pins_of {pins' : List (Addr × Obj)} (I : Inv X pins σ H s) (h : ∀ p ∈ pins', s.heap.get? p.1 = some p.2 ∧ H p.1 = none ∧ p.1 ≠ X.env.locals ∧ p.1 ∉ X.fs ∧ ∀ v, p.2.data ≠ .cell v) : Inv X pins' σ H s :=
  ⟨I.ok, I.os, I.bare, I.base, I.loc, I.cell, I.free, I.freeC, fun p hp => (List.mem_append.mp hp).elim (fun z => I.pin p (List.mem_append_left _ z)) (h p), I.hok, I.len⟩
theorem nodup_ix {N : List Str} (hN : N.Nodup) {i j : Nat} {x : Str} (a : N[i]? = some x) (b : N[j]? = some x) : i = j := by
  obtain ⟨h1, e1⟩ := List.getElem?_eq_some_iff.mp a
  obtain ⟨h2, e2⟩ := List.getElem?_eq_some_iff.mp b
  exact (List.getElem_inj hN).mp (e1.trans e2.symm)
theorem store_ok2 {M : Model} {A : Around} {E : Value → Shared → Prop} {i : Nat} {x : Str} {v : V} {u : Value} {Q : Unit → Shared → Prop} (I : Inv X pins σ H s) (hN : X.N.Nodup) (hi : X.N[i]? = some x) (hx : Loc X.env.scope x) (r : RelV v u)
    (h : ∀ s', Inv X pins (σ.set i (some v)) H s' → (∃ a, Heap.SameBut a s.heap s'.heap ∧ (a = X.env.locals ∨ X.env.cells.lookup x = some a)) → Q () s') (hf : X.fn x = true ∨ X.env.scope.names.lookup x = some .local := by first | exact .inl rfl | exact .inr rfl | assumption) : wpAny M A (storeName X.env x u) Q E s := by
  obtain ⟨m, hn, hl⟩ := id I.loc
  have hcls : (X.env.scope.kind == .class || (X.env.scope.kind == .module && X.env.locals != X.env.globals)) = false := by rw [I.ok.kind]; rfl
  have hiσ : i < σ.length := by rw [I.len]; exact (List.getElem?_eq_some_iff.mp hi).1
  have cne := I.cne
  have tracked : ∀ {a : Addr} {h' : Heap}, (∃ o, s.heap.get? a = some o ∧ H a = none) → Heap.SameBut a s.heap h' → HOk X.prog X.w H h' := fun {a h'} ha hs b ob e => by
    obtain ⟨_, _, hfree⟩ := ha
    refine (I.hok b ob e).stay (fun c w' hc q => (hs.2 c ?_).trans q) (fun _ q => q) fun _ _ q => q
    rintro rfl
    rcases hc with rfl | hc
    · rw [hfree] at e; cases e
    · rw [hfree] at hc; cases hc
  rcases hx with hk | hk
  · refine wpAny_storeName_local hk hn (fun h' hn' hs => ?_) hcls
    obtain ⟨oL, _, _, hoL, _⟩ := id hn
    refine h _ ⟨I.ok, I.os, I.bare, ⟨fun b o e n hb hx => ?_, fun b o e n hb hx => ?_, I.base.free, fun b o e hx => ?_, I.base.tups, I.base.frzs, I.base.tbls⟩, ⟨_, hn', fun j y v' e1 e2 e3 => ?_⟩, fun y c e => ?_, I.free, I.freeC, fun p hp => ?_, tracked ⟨oL, hoL, I.free⟩ hs, by simpa using I.len⟩ ⟨_, hs, .inl rfl⟩
    · exact (hs.2 b (Nat.ne_of_lt (Nat.lt_of_lt_of_le (Heap.lt_size e) I.ok.above))).trans (I.base.keep b o e n hb hx)
    · obtain ⟨sl, e1⟩ := I.base.slot b o e n hb hx
      exact ⟨sl, (hs.2 b (Nat.ne_of_lt (Nat.lt_of_lt_of_le (Heap.lt_size e) I.ok.above))).trans e1⟩
    · obtain ⟨o', e1⟩ := I.base.there b o e hx
      exact ⟨o', (hs.2 b (Nat.ne_of_lt (Nat.lt_of_lt_of_le (Heap.lt_size e) I.ok.above))).trans e1⟩
    · by_cases hj : j = i
      · subst hj
        rw [hi] at e1; cases e1
        rw [List.getElem?_set_self hiσ] at e2
        cases e2
        exact ⟨u, r, .inl ⟨hk, by simp⟩⟩
      · rw [List.getElem?_set_ne (Ne.symm hj)] at e2
        obtain ⟨u', r', q⟩ := hl j y v' e1 e2 e3
        refine ⟨u', r', ?_⟩
        rcases q with ⟨k, e⟩ | ⟨k, c, e, z⟩
        · refine .inl ⟨k, ?_⟩
          have : y ≠ x := fun e => hj (nodup_ix hN e1 (e ▸ hi))
          simp [this, e]
        · exact .inr ⟨k, c, e, z.sameBut hs (cne y c e)⟩
    · obtain ⟨w', z⟩ := I.cell y c e
      exact ⟨w', z.sameBut hs (cne y c e)⟩
    · obtain ⟨e, n, ne, nf, d⟩ := I.pin p hp
      exact ⟨(hs.2 p.1 ne).trans e, n, ne, nf, d⟩
  · have hfn : X.fn x = true := by
      rcases hf with z | z
      · exact z
      · rw [z] at hk; cases hk
    obtain ⟨c, hc⟩ := I.ok.has x (.inl hk)
    obtain ⟨w', z⟩ := I.cell x c hc
    refine wpAny_storeName_cell I.ok.kind hk hc z (fun h' hc' hs => ?_)
    obtain ⟨oc, hoc, hocd⟩ := id z
    refine h { s with heap := h' } ⟨I.ok, I.os, I.bare, ⟨fun b o e n hb hx => ?_, fun b o e n hb hx => ?_, I.base.free, fun b o e hx => ?_, I.base.tups, I.base.frzs, I.base.tbls⟩, ⟨m, hn.sameBut hs (Ne.symm (cne x c hc)), fun j y v' e1 e2 e3 => ?_⟩, fun y c' e => ?_, I.free, I.freeC, fun p hp => ?_, tracked ⟨oc, hoc, I.freeC x c hc⟩ hs, by simpa using I.len⟩ ⟨c, hs, .inr hc⟩
    · exact (hs.2 b (Nat.ne_of_lt (Nat.lt_of_lt_of_le (Heap.lt_size e) (I.ok.cab x c hfn hc)))).trans (I.base.keep b o e n hb hx)
    · obtain ⟨sl, e1⟩ := I.base.slot b o e n hb hx
      exact ⟨sl, (hs.2 b (Nat.ne_of_lt (Nat.lt_of_lt_of_le (Heap.lt_size e) (I.ok.cab x c hfn hc)))).trans e1⟩
    · obtain ⟨o', e1⟩ := I.base.there b o e hx
      exact ⟨o', (hs.2 b (Nat.ne_of_lt (Nat.lt_of_lt_of_le (Heap.lt_size e) (I.ok.cab x c hfn hc)))).trans e1⟩
    · by_cases hj : j = i
      · subst hj
        rw [hi] at e1; cases e1
        rw [List.getElem?_set_self hiσ] at e2
        cases e2
        exact ⟨u, r, .inr ⟨.inl hk, c, hc, hc'⟩⟩
      · rw [List.getElem?_set_ne (Ne.symm hj)] at e2
        obtain ⟨u', r', q⟩ := hl j y v' e1 e2 e3
        refine ⟨u', r', ?_⟩
        rcases q with q | ⟨k, c', e, z'⟩
        · exact .inl q
        · refine .inr ⟨k, c', e, z'.sameBut hs ?_⟩
          rintro rfl
          exact hj (nodup_ix hN e1 (I.ok.inj _ _ _ e hc ▸ hi))
    · by_cases hcc : c' = c
      · subst hcc; exact ⟨_, hc'⟩
      · obtain ⟨w2, z2⟩ := I.cell y c' e
        exact ⟨w2, z2.sameBut hs hcc⟩
    · obtain ⟨e, n, ne, nf, d⟩ := I.pin p hp
      refine ⟨(hs.2 p.1 ?_).trans e, n, ne, nf, d⟩
      intro q
      rw [q, hoc] at e
      have q' : oc = p.2 := Option.some.inj e
      exact d w' (by rw [← q']; exact hocd)
theorem store_ok {M : Model} {A : Around} {E : Value → Shared → Prop} {i : Nat} {x : Str} {v : V} {u : Value} {Q : Unit → Shared → Prop} (I : Inv X pins σ H s) (hN : X.N.Nodup) (hi : X.N[i]? = some x) (hx : Loc X.env.scope x) (r : RelV v u)
    (h : ∀ s', Inv X pins (σ.set i (some v)) H s' → Q () s') (hf : X.fn x = true ∨ X.env.scope.names.lookup x = some .local := by first | exact .inl rfl | exact .inr rfl | assumption) : wpAny M A (storeName X.env x u) Q E s :=
  store_ok2 I hN hi hx r (fun s' I' _ => h s' I') hf
theorem Inv.call' {s' : Shared} {ch : List Addr} (I : Inv X pins σ H s) (ho : s'.os = s.os) (u : Un (frs X.stack) ch H H' s.heap s'.heap) (hok : HOk X.prog X.w H' s'.heap) (hg : AllBare s'.gens)
    (hch : ∀ b ∈ ch, (b ∈ X.ex ∨ X.s_0.heap.objs.size ≤ b) ∧ b ≠ X.env.locals ∧ (∀ x c, X.env.cells.lookup x = some c → c ≠ b) ∧ ∀ p ∈ X.pn ++ pins, p.1 ≠ b) : Inv X pins σ H' s' := by
  obtain ⟨h', g', d', t', o'⟩ := s'
  have e : o' = s.os := ho
  subst e
  exact I.call (g' := g') (t' := t') (d' := d') u hok hg hch
end
abbrev XK := Value → Option Addr → Hp → Prop
abbrev St := List (Option V)
abbrev VK := V → Hp → Prop
abbrev TE := St → Hp → VK → Prop
abbrev TT := St → Hp → (Bool → Hp → Prop) → Prop
abbrev TA := St → Hp → (List V → Hp → Prop) → Prop
structure Ends where
  nx : St → Hp → Prop
  rt : VK
  bk : St → Hp → Prop := fun _ _ => False
  ct : St → Hp → Prop := fun _ _ => False
abbrev TS := Ends → St → Hp → Prop
def EP (X : Cx) (pins : List (Addr × Obj)) (σ : St) (Q : VK) (u : Value) (s' : Shared) : Prop := ∃ v H', Inv X pins σ H' s' ∧ RelV v u ∧ Q v H'
def TP (X : Cx) (pins : List (Addr × Obj)) (σ : St) (Q : Bool → Hp → Prop) (b : Bool) (s' : Shared) : Prop := ∃ H', Inv X pins σ H' s' ∧ Q b H'
def AP (X : Cx) (pins : List (Addr × Obj)) (σ : St) (Q : List V → Hp → Prop) (us : List Value) (s' : Shared) : Prop := ∃ vs H', Inv X pins σ H' s' ∧ Vals vs us ∧ Q vs H'
def SP (X : Cx) (pins : List (Addr × Obj)) (D : Ends) (f : Flow) (s' : Shared) : Prop :=
  match f with
  | .next => ∃ σ' H', Inv X pins σ' H' s' ∧ D.nx σ' H'
  | .brk => ∃ σ' H', Inv X pins σ' H' s' ∧ D.bk σ' H'
  | .cont => ∃ σ' H', Inv X pins σ' H' s' ∧ D.ct σ' H'
  | .ret u => ∃ v σ' H', Inv X pins σ' H' s' ∧ RelV v u ∧ D.rt v H'
def PE (X : Cx) (e : Expr) (t : TE) : Prop :=
  ∀ (pins : List (Addr × Obj)) (s : Shared) (σ : St) (H : Hp) (Q : VK), Inv X pins σ H s → t σ H Q → wpAny (model X.prog X.w) X.A (eval e X.env) (EP X pins σ Q) X.xe s
def PT (X : Cx) (e : Expr) (t : TT) : Prop :=
  ∀ (pins : List (Addr × Obj)) (s : Shared) (σ : St) (H : Hp) (Q : Bool → Hp → Prop), Inv X pins σ H s → t σ H Q → wpAny (model X.prog X.w) X.A (isTrue e X.env (eval e X.env)) (TP X pins σ Q) X.xe s
def PW (X : Cx) (e : Expr) (t : TT) : Prop :=
  ∀ (whole : Sem Value) (pins : List (Addr × Obj)) (s : Shared) (σ : St) (H : Hp) (Q : Bool → Hp → Prop), Inv X pins σ H s → t σ H Q → wpAny (model X.prog X.w) X.A (isTrue e X.env whole) (TP X pins σ Q) X.xe s
theorem PW.pt {X : Cx} {e : Expr} {t : TT} (h : PW X e t) : PT X e t := h _
def PA (X : Cx) (es : List Expr) (t : TA) : Prop :=
  ∀ (pos : Pos) (pins : List (Addr × Obj)) (s : Shared) (σ : St) (H : Hp) (Q : List V → Hp → Prop), Inv X pins σ H s → t σ H Q → wpAny (model X.prog X.w) X.A (spliced (backTo pos (starEach es X.env))) (AP X pins σ Q) X.xe s
def PS (X : Cx) (st : Stmt) (t : TS) : Prop :=
  ∀ (pins : List (Addr × Obj)) (s : Shared) (σ : St) (H : Hp) (D : Ends), Inv X pins σ H s → t D σ H → wpAny (model X.prog X.w) X.A (exec st X.env) (SP X pins D) X.xe s
def PSs (X : Cx) (st : List Stmt) (t : TS) : Prop :=
  ∀ (pins : List (Addr × Obj)) (s : Shared) (σ : St) (H : Hp) (D : Ends), Inv X pins σ H s → t D σ H → wpAny (model X.prog X.w) X.A (execs st X.env) (SP X pins D) X.xe s
theorem thn {α : Type} {t : Sem α} {Q Q' : α → Shared → Prop} {M : Model} {A : Around} {E : Value → Shared → Prop} {s : Shared} (h : wpAny M A t Q E s) (hQ : ∀ a s, Q a s → Q' a s) : wpAny M A t Q' E s := wpAny_mono h hQ fun _ _ x => x
end L2
namespace L2
open PySem PySem.Spec PyProof.Rows
section
variable {X : Cx}
def tVar (i : Nat) : TE := fun σ H Q => ∃ v, σ[i]? = some (some v) ∧ Q v H
def tC (v : V) : TE := fun _ H Q => Q v H
theorem pe_var {i : Nat} {x : Str} {pos : Pos} (hN : X.N[i]? = some x) (hv : Vis X.env.scope x) (hd : (x == ("__debug__" : Str)) = false := by decide) (hcd : (x == ("__classdict__" : Str)) = false := by decide) : PE X (.Name x pos) (tVar i) := by
  intro pins s σ H Q I h
  obtain ⟨v, e, h⟩ := h
  obtain ⟨m, hn, hl⟩ := I.loc
  obtain ⟨u, r, l⟩ := hl i x v hN e hv
  have fin : EP X pins σ Q u s := ⟨v, H, I, r, h⟩
  rcases l with ⟨hk, hm⟩ | ⟨hk, c, hc, hcell⟩
  · exact wpAny_Name (wpAny_loadName_local I.ok.kind hk hn hm fin) hd
  · rcases hk with hk | hk
    · exact wpAny_Name (wpAny_loadName_cell I.ok.kind hk hc hcell fin) hd
    · exact wpAny_Name (wpAny_loadName_free I.ok.kind hk hc hcell fin hcd) hd
theorem pe_int {i j pos} : PE X (.Constant (.int i) j pos) (tC (.int i)) := fun _ _ _ H _ I h => wpAny_Constant_int ⟨.int i, H, I.tok _, ⟨_, rfl⟩, h⟩
theorem pe_bl {b j pos} : PE X (.Constant (.bool b) j pos) (tC (.bl b)) := fun _ _ _ H _ I h => Constant_bool ⟨.bl b, H, I, rfl, h⟩
theorem pe_non {j pos} : PE X (.Constant .none j pos) (tC .non) := fun _ _ _ H _ I h => Constant_none ⟨.non, H, I, rfl, h⟩
theorem pe_str {x j pos} : PE X (.Constant (.str x) j pos) (tC (.str x)) := fun _ _ _ H _ I h => Calls.Constant_str ⟨.str x, H, I.tok _, ⟨_, rfl⟩, h⟩
def Gl (X : Cx) (x : Str) : Prop := X.env.kindOf x = some .globalImplicit
theorem ld_glob {E : Value → Shared → Prop} {pins : List (Addr × Obj)} {s : Shared} {σ : St} {H : Hp} {x : Str} {u : Value} {pos : Pos} {Q : Value → Shared → Prop} (I : Inv X pins σ H s) (hg : Gl X x) (hm : X.mg x = some u) (h : Q u s)
    (hd : (x == ("__debug__" : Str)) = false := by decide) : wpAny (model X.prog X.w) X.A (eval (.Name x pos) X.env) Q E s :=
  Calls.Name_function_global I.ok.kind hg (Calls.loadGlobal_global (by rw [I.ok.glob]; exact I.mod.glob.keeps I.bk) hm h) hd
theorem ld_blt {E : Value → Shared → Prop} {pins : List (Addr × Obj)} {s : Shared} {σ : St} {H : Hp} {x : Str} {u : Value} {pos : Pos} {Q : Value → Shared → Prop} (I : Inv X pins σ H s) (hg : Gl X x) (hm : X.mg x = none) (hv : bootBuiltins x = some u) (h : Q u s)
    (hn : x ≠ "__name__" := by decide) (hd : (x == ("__debug__" : Str)) = false := by decide) : wpAny (model X.prog X.w) X.A (eval (.Name x pos) X.env) Q E s := by
  obtain ⟨mb, h1, h2⟩ := I.mod.blt
  exact Calls.Name_function_global I.ok.kind hg (Calls.loadGlobal_builtin (by rw [I.ok.glob]; exact I.mod.glob.keeps I.bk) hm (by rw [I.ok.blt]; exact h1.keeps I.bk) ((h2 x hn).trans hv) h) hd
theorem pe_glob {x : Str} {v : V} {u : Value} {pos : Pos} (hg : Gl X x) (hm : X.mg x = some u) (r : RelV v u) (hd : (x == ("__debug__" : Str)) = false := by decide) : PE X (.Name x pos) (tC v) :=
  fun _ _ _ H _ I h => ld_glob I hg hm ⟨v, H, I, r, h⟩ hd
variable {a b : Expr} {ta tb : TE} {pos : Pos}
def PC (X : Cx) (op : CmpOp) (a b : Expr) (t : TE) : Prop :=
  ∀ (pins : List (Addr × Obj)) (s : Shared) (σ : St) (H : Hp) (Q : VK), Inv X pins σ H s → t σ H Q →
    wpAny (model X.prog X.w) X.A (eval a X.env) (fun v s₁ => wpAny (model X.prog X.w) X.A (eval b X.env) (fun u s₂ => wpAny (model X.prog X.w) X.A (compareOp op v u) (EP X pins σ Q) X.xe s₂) X.xe s₁) X.xe s
theorem nobehind (b : Expr) {op : CmpOp} (h : op ≠ .In) (h2 : op ≠ .NotIn) : behindInMarks op b = false := by
  have e1 : (op == CmpOp.In) = false := by cases op <;> first | rfl | exact absurd rfl h
  have e2 : (op == CmpOp.NotIn) = false := by cases op <;> first | rfl | exact absurd rfl h2
  cases b <;> simp [behindInMarks, e1, e2]
def tIsN (ta : TE) : TE := fun σ H Q => ta σ H fun x H1 => Q (.bl (decide (x = .non))) H1
theorem RelV.none_iff {x : V} {v : Value} (r : RelV x v) : (v == Value.none) = decide (x = .non) := by
  cases x with
  | non => cases r; rfl
  | bl _ => cases r; rfl
  | int _ => obtain ⟨t, rfl⟩ := r; rfl
  | str _ => obtain ⟨t, rfl⟩ := r; rfl
  | byt _ => obtain ⟨t, rfl⟩ := r; rfl
  | flt _ => obtain ⟨t, rfl⟩ := r; rfl
  | ref _ => cases r; rfl
  | ty _ => cases r; rfl
theorem pc_isN {j pos'} (ha : PE X a ta) : PC X .Is a (.Constant .none j pos') (tIsN ta) := by
  intro pins s σ H Q I h
  refine thn (ha pins s σ H _ I h) fun v s1 ⟨x, H1, I1, r1, q1⟩ => ?_
  exact Constant_none (is_none_gen ⟨.bl _, H1, I1, by rw [r1.none_iff]; rfl, q1⟩)
def tB (t : TE) : TT := fun σ H Q => t σ H fun x H1 => ∃ c, x = .bl c ∧ Q c H1
theorem pt_cmp {op : CmpOp} {t : TE} (h : PC X op a b t) (h1 : behindInMarks op b = false := by first | exact nobehind _ (by decide) (by decide) | rfl) : PT X (.Compare a [op] [b] pos) (tB t) := by
  intro pins s σ H Q I hw
  refine wpAny_isTrue_Compare1 (thn (h pins s σ H _ I hw) fun v s1 h1 => thn h1 fun u s2 h2 => thn h2 fun c s3 ⟨x, H1, I1, r1, q1⟩ => ?_) h1
  obtain ⟨d, rfl, q⟩ := q1
  cases r1
  exact wpAny_truthy_bool ⟨H1, I1, q⟩
theorem pt_val {e : Expr} {t : TE} (h : PE X e t) (he : ∀ whole, isTrue e X.env whole = (do let v ← whole; standAt e.pos; holding [v] (truthy v)) := by intro _; rfl) : PT X e (tB t) := by
  intro pins s σ H Q I hw
  refine isTrue_plain (thn (h pins s σ H _ I hw) fun v s1 ⟨x, H1, I1, r1, q1⟩ => ?_) (he _)
  obtain ⟨d, rfl, q⟩ := q1
  cases r1
  exact wpAny_truthy_bool ⟨H1, I1, q⟩
variable {tA tB' : TT} {rest : List Expr}
def tAnd (t u : TT) : TT := fun σ H Q => t σ H fun c H1 => if c = true then u σ H1 Q else Q false H1
def tOr (t u : TT) : TT := fun σ H Q => t σ H fun c H1 => if c = true then Q true H1 else u σ H1 Q
def tNot (t : TT) : TT := fun σ H Q => t σ H fun c H1 => Q (!c) H1
theorem pw_and1 (ha : PT X a tA) : PW X (.BoolOp .And [a] pos) tA := by
  intro wh pins s σ H Q I h
  refine isTrue_and (thn (ha pins s σ H Q I h) fun c s1 e => ?_)
  cases c with
  | true => exact isTrue_and_nil e
  | false => exact e
theorem pw_or1 (ha : PT X a tA) : PW X (.BoolOp .Or [a] pos) tA := by
  intro wh pins s σ H Q I h
  refine isTrue_or (thn (ha pins s σ H Q I h) fun c s1 e => ?_)
  cases c with
  | false => exact isTrue_or_nil e
  | true => exact e
theorem pw_and (ha : PT X a tA) (hb : PW X (.BoolOp .And (b :: rest) pos) tB') : PW X (.BoolOp .And (a :: b :: rest) pos) (tAnd tA tB') := by
  intro wh pins s σ H Q I h
  refine isTrue_and (thn (ha pins s σ H _ I h) fun c s1 ⟨H1, I1, q1⟩ => ?_)
  cases c with
  | true => exact hb wh pins s1 σ H1 Q I1 q1
  | false => exact ⟨H1, I1, q1⟩
theorem pw_or (ha : PT X a tA) (hb : PW X (.BoolOp .Or (b :: rest) pos) tB') : PW X (.BoolOp .Or (a :: b :: rest) pos) (tOr tA tB') := by
  intro wh pins s σ H Q I h
  refine isTrue_or (thn (ha pins s σ H _ I h) fun c s1 ⟨H1, I1, q1⟩ => ?_)
  cases c with
  | true => exact ⟨H1, I1, q1⟩
  | false => exact hb wh pins s1 σ H1 Q I1 q1
theorem pt_not (ha : PT X a tA) : PT X (.UnaryOp .Not a pos) (tNot tA) := by
  intro pins s σ H Q I h
  exact isTrue_not (ha pins s σ H (fun c H1 => Q (!c) H1) I h)
def tAndV (ta tb : TE) : TE := fun σ H Q => ta σ H fun x H1 => ∃ c, x = .bl c ∧ if c = true then tb σ H1 Q else Q (.bl false) H1
def tOrV (ta tb : TE) : TE := fun σ H Q => ta σ H fun x H1 => ∃ c, x = .bl c ∧ if c = true then Q (.bl true) H1 else tb σ H1 Q
theorem pe_one {op} {t : TE} (h : PE X a t) : PE X (.BoolOp op [a] pos) t := fun pins s σ H Q I hw => BoolOp_one (h pins s σ H Q I hw)
theorem pe_and (ha : PE X a ta) (hb : PE X (.BoolOp .And (b :: rest) pos) tb) : PE X (.BoolOp .And (a :: b :: rest) pos) (tAndV ta tb) := by
  intro pins s σ H Q I h
  refine BoolOp_and (thn (ha pins s σ H _ I h) fun v s1 ⟨x, H1, I1, r1, q1⟩ => ?_)
  obtain ⟨c, rfl, q1⟩ := q1
  cases r1
  refine wpAny_truthy_bool ?_
  cases c with
  | true => exact hb pins s1 σ H1 Q I1 q1
  | false => exact ⟨.bl false, H1, I1, rfl, q1⟩
theorem pe_or (ha : PE X a ta) (hb : PE X (.BoolOp .Or (b :: rest) pos) tb) : PE X (.BoolOp .Or (a :: b :: rest) pos) (tOrV ta tb) := by
  intro pins s σ H Q I h
  refine BoolOp_or (thn (ha pins s σ H _ I h) fun v s1 ⟨x, H1, I1, r1, q1⟩ => ?_)
  obtain ⟨c, rfl, q1⟩ := q1
  cases r1
  refine wpAny_truthy_bool ?_
  cases c with
  | false => exact hb pins s1 σ H1 Q I1 q1
  | true => exact ⟨.bl true, H1, I1, rfl, q1⟩
end
end L2
namespace L2
open PySem PySem.Spec PyProof.Rows
def SqL (K : PySem.W.Frag) (H : Hp) (a : Addr) (xs : List V) : Prop :=
  Rd H a (.lst xs) ∨
    ∃ (o : Obj) (its : Array Value) (n : Nat), K.lookup a = some o ∧ o.cls = .type "list" ∧ o.dict = none ∧ o.data = .seq its n ∧ its.size ≤ sizeLine ∧ Vals xs its.toList
def SqT (K : PySem.W.Frag) (H : Hp) (a : Addr) (xs : List V) : Prop :=
  Rd H a (.tup xs) ∨
    ∃ (o : Obj) (its : Array Value) (n : Nat), K.lookup a = some o ∧ o.cls = .type "tuple" ∧ o.data = .seq its n ∧ its.size ≤ sizeLine ∧ Vals xs its.toList
def absV : Value → Option V
  | .none => some .non
  | .bool b => some (.bl b)
  | .int i _ => some (.int i)
  | .str x _ => some (.str x)
  | .bytes b _ => some (.byt b)
  | .float b _ => some (.flt b)
  | .ref a => some (.ref a)
  | .type n => some (.ty n)
  | _ => none
theorem RelV.abs {x : V} {u : Value} (r : RelV x u) : absV u = some x := by
  cases x with
  | non => cases r; rfl
  | bl _ => cases r; rfl
  | int _ => obtain ⟨t, rfl⟩ := r; rfl
  | str _ => obtain ⟨t, rfl⟩ := r; rfl
  | byt _ => obtain ⟨t, rfl⟩ := r; rfl
  | flt _ => obtain ⟨t, rfl⟩ := r; rfl
  | ref _ => cases r; rfl
  | ty _ => cases r; rfl
theorem RelV.inj {x y : V} {u : Value} (r : RelV x u) (q : RelV y u) : x = y := Option.some.inj (r.abs.symm.trans q.abs)
theorem Vals.inj : ∀ {xs ys : List V} {us : List Value}, Vals xs us → Vals ys us → xs = ys
  | _, _, _, .nil, .nil => rfl
  | _, _, _, .cons r t, .cons r' t' => by rw [r.inj r', Vals.inj t t']
section
variable {X : Cx} {pins : List (Addr × Obj)} {σ : St} {H : Hp} {s : Shared} {a : Addr} {xs ys : List V}
theorem SqL.of {K : PySem.W.Frag} (h : H a = some (.lst xs)) : SqL K H a xs := .inl (.inl h)
theorem SqT.of {K : PySem.W.Frag} (h : H a = some (.tup xs)) : SqT K H a xs := .inl (.inl h)
theorem Inv.list (I : Inv X pins σ H s) (h : SqL X.K H a xs) : ∃ its : List Value, Vals xs its ∧ PlainL s.heap a its.toArray ∧ xs.length ≤ sizeLine := by
  rcases h with h | ⟨o, its, n, hk, hc, hd, hs, hz, r⟩
  · obtain ⟨z, its, n, r, e⟩ := h.ok I.hok
    exact ⟨its, r, ⟨_, n, e, rfl, rfl, rfl⟩, z⟩
  · refine ⟨its.toList, r, ⟨o, n, I.kIn a o hk, hc, hd, by simpa using hs⟩, ?_⟩
    have e := r.length
    simp only [Array.length_toList] at e
    omega
theorem Inv.tuple (I : Inv X pins σ H s) (h : SqT X.K H a xs) : ∃ its : List Value, Vals xs its ∧ IsTup s.heap a its.toArray ∧ xs.length ≤ sizeLine := by
  rcases h with h | ⟨o, its, n, hk, hc, hs, hz, r⟩
  · obtain ⟨z, its, r, p⟩ := h.ok I.hok
    exact ⟨its, r, p, z⟩
  · refine ⟨its.toList, r, ⟨o, I.kIn a o hk, hc, n, by simpa using hs⟩, ?_⟩
    have e := r.length
    simp only [Array.length_toList] at e
    omega
theorem Inv.list_inj (I : Inv X pins σ H s) (h : SqL X.K H a xs) (h' : SqL X.K H a ys) : xs = ys := by
  obtain ⟨its, r, ⟨o, n, e, _, _, d⟩, _⟩ := I.list h
  obtain ⟨its', r', ⟨o', n', e', _, _, d'⟩, _⟩ := I.list h'
  rw [e] at e'; cases e'
  rw [d] at d'
  injection d' with d1 _
  have : its = its' := by simpa using congrArg Array.toList d1
  subst this
  exact r.inj r'
end
abbrev Cx.wish (X : Cx) (E : Value → Shared → Prop) : Cx := { X with xe := E }
abbrev Cx.nox (X : Cx) : Cx := X.wish fun _ _ => False
theorem Cx.Ok.wish {X : Cx} (ok : X.Ok) (E : Value → Shared → Prop) : (X.wish E).Ok :=
  ⟨ok.mod, ok.kind, ok.glob, ok.blt, ok.above, ok.inj, ok.has, ok.cab, ok.hd, ok.frames, ok.stk, ok.exf, ok.bs, ok.bsz, ok.noex, ok.exfs, ok.funs, ok.frf⟩
theorem Cx.Ok.unwish {X : Cx} {E : Value → Shared → Prop} (ok : (X.wish E).Ok) : X.Ok :=
  ⟨ok.mod, ok.kind, ok.glob, ok.blt, ok.above, ok.inj, ok.has, ok.cab, ok.hd, ok.frames, ok.stk, ok.exf, ok.bs, ok.bsz, ok.noex, ok.exfs, ok.funs, ok.frf⟩
section
variable {X : Cx} {pins : List (Addr × Obj)} {σ : St} {H : Hp} {s : Shared} {E : Value → Shared → Prop}
theorem Inv.wish (I : Inv X pins σ H s) (E : Value → Shared → Prop) : Inv (X.wish E) pins σ H s := ⟨I.ok.wish E, I.os, I.bare, I.base, I.loc, I.cell, I.free, I.freeC, I.pin, I.hok, I.len⟩
theorem Inv.unwish (I : Inv (X.wish E) pins σ H s) : Inv X pins σ H s := ⟨I.ok.unwish, I.os, I.bare, I.base, I.loc, I.cell, I.free, I.freeC, I.pin, I.hok, I.len⟩
theorem SP.unwish {D : Ends} {f : Flow} {s' : Shared} (h : SP (X.wish E) pins D f s') : SP X pins D f s' := by
  cases f with
  | next => obtain ⟨σ', H', I, q⟩ := h; exact ⟨σ', H', I.unwish, q⟩
  | brk => obtain ⟨σ', H', I, q⟩ := h; exact ⟨σ', H', I.unwish, q⟩
  | cont => obtain ⟨σ', H', I, q⟩ := h; exact ⟨σ', H', I.unwish, q⟩
  | ret u => obtain ⟨v, σ', H', I, r, q⟩ := h; exact ⟨v, σ', H', I.unwish, r, q⟩
theorem PSs.nox {st : List Stmt} {t : TS} (h : PSs X.nox st t) : PSs X st t := fun pins s σ H D I hw =>
  wpAny_mono (h pins s σ H D (I.wish _) hw) (fun _ _ q => q.unwish) fun _ _ z => False.elim z
end
section
variable {X : Cx} {st : Stmt} {rest : List Stmt} {t u : TS} {e : Expr} {te : TE} {pos : Pos}
def tNext : TS := fun D σ H => D.nx σ H
def tSeq (t u : TS) : TS := fun D σ H => t { D with nx := u D } σ H
theorem pss_nil : PSs X [] tNext := fun _ _ σ H _ I h => wpAny_execs_nil ⟨σ, H, I, h⟩
theorem pss_cons (h1 : PS X st t) (h2 : PSs X rest u) : PSs X (st :: rest) (tSeq t u) := by
  intro pins s σ H D I h
  refine wpAny_execs_cons (thn (h1 pins s σ H { D with nx := u D } I h) fun f s1 q => ?_)
  cases f with
  | next =>
    obtain ⟨σ', H', I', q⟩ := q
    exact h2 pins s1 σ' H' D I' q
  | ret v => exact q
  | brk => exact q
  | cont => exact q
theorem pss_one (h1 : PS X st t) : PSs X [st] t := by
  intro pins s σ H D I h
  refine wpAny_execs_cons (thn (h1 pins s σ H D I h) fun f s1 q => ?_)
  cases f with
  | next => exact wpAny_execs_nil q
  | ret v => exact q
  | brk => exact q
  | cont => exact q
theorem Inv.quiet {pins : List (Addr × Obj)} {σ : St} {H : Hp} {s : Shared} (I : Inv X pins σ H s) : interactive X.env = false := by simp [interactive, I.ok.kind]
def tDrop (te : TE) : TS := fun D σ H => te σ H fun _ H1 => D.nx σ H1
theorem ps_expr (he : PE X e te) (hs : swapsWith e none pos.line X.env = pure false := by rfl) : PS X (.Expr e pos) (tDrop te) := by
  intro pins s σ H D I h
  exact wpAny_Expr_any (thn (he pins s σ H _ I h) fun v s1 ⟨x, H1, I1, r1, q1⟩ => ⟨σ, H1, I1, q1⟩) I.quiet hs
def tRet (te : TE) : TS := fun D σ H => te σ H D.rt
theorem ps_ret (he : PE X e te) : PS X (.Return (some e) pos) (tRet te) := by
  intro pins s σ H D I h
  exact wpAny_Return_some (thn (he pins s σ H _ I h) fun v s1 ⟨x, H1, I1, r1, q1⟩ => ⟨x, σ, H1, I1, r1, q1⟩)
def tIfS (c : TT) (t u : TS) : TS := fun D σ H => c σ H fun b H1 => if b = true then t D σ H1 else u D σ H1
theorem ps_if {c : Expr} {a b : List Stmt} {tc : TT} (hc : PT X c tc) (ha : PSs X a t) (hb : PSs X b u) : PS X (.If c a b pos) (tIfS tc t u) := by
  intro pins s σ H D I h
  refine wpAny_If (thn (hc pins s σ H _ I h) fun d s1 ⟨H1, I1, q1⟩ => ?_)
  cases d with
  | true => exact ha pins s1 σ H1 D I1 q1
  | false => exact hb pins s1 σ H1 D I1 q1
end
abbrev TG := V → St → Hp → (St → Hp → Prop) → Prop
abbrev TGs := List V → St → Hp → (St → Hp → Prop) → Prop
def PG (X : Cx) (target : Expr) (t : TG) : Prop :=
  ∀ (pins : List (Addr × Obj)) (s : Shared) (σ : St) (H : Hp) (v : V) (u : Value) (Q : St → Hp → Prop), Inv X pins σ H s → RelV v u → t v σ H Q →
    wpAny (model X.prog X.w) X.A (assign target X.env u) (fun _ s' => ∃ σ' H', Inv X pins σ' H' s' ∧ Q σ' H') X.xe s
def PGs (X : Cx) (ts : List Expr) (t : TGs) : Prop :=
  ∀ (pins : List (Addr × Obj)) (s : Shared) (σ : St) (H : Hp) (vs : List V) (us : List Value) (Q : St → Hp → Prop), Inv X pins σ H s → Vals vs us → t vs σ H Q →
    wpAny (model X.prog X.w) X.A (assignInOrder ((assignEach ts X.env).map (·.2)) us) (fun _ s' => ∃ σ' H', Inv X pins σ' H' s' ∧ Q σ' H') X.xe s
abbrev TIp := V → V → Hp → VK → Prop
def PIp (X : Cx) (op : Operator) (t : TIp) : Prop :=
  ∀ (pins : List (Addr × Obj)) (s : Shared) (σ : St) (H : Hp) (x y : V) (v u : Value) (Q : VK), Inv X pins σ H s → RelV x v → RelV y u → t x y H Q →
    wpAny (model X.prog X.w) X.A (inplaceOp op v u) (EP X pins σ Q) X.xe s
section
variable {X : Cx} {pos : Pos}
def gName (i : Nat) : TG := fun v σ H Q => Q (σ.set i (some v)) H
theorem pg_name {i : Nat} {x : Str} (hN : X.N.Nodup) (hi : X.N[i]? = some x) (hx : Loc X.env.scope x) (hf : X.fn x = true ∨ X.env.scope.names.lookup x = some .local := by first | exact .inl rfl | exact .inr rfl | assumption) : PG X (.Name x pos) (gName i) := by
  intro pins s σ H v u Q I r h
  exact wpAny_assign_Name (store_ok I hN hi hx r (fun s' I' => ⟨_, H, I', h⟩) hf)
def gNil : TGs := fun vs σ H Q => vs = [] ∧ Q σ H
def gCons (t : TG) (u : TGs) : TGs := fun vs σ H Q => ∃ v r, vs = v :: r ∧ t v σ H fun σ' H' => u r σ' H' Q
theorem pgs_nil : PGs X [] gNil := by
  intro pins s σ H vs us Q I r h
  obtain ⟨e, h⟩ := h
  subst e
  cases r
  exact assignInOrder_nil ⟨σ, H, I, h⟩
theorem pgs_cons {e : Expr} {es : List Expr} {t : TG} {u : TGs} (h1 : PG X e t) (h2 : PGs X es u)
    (hs : (assignEach (e :: es) X.env).map (·.2) = assign e X.env :: (assignEach es X.env).map (·.2) := by rfl) : PGs X (e :: es) (gCons t u) := by
  intro pins s σ H vs us Q I r h
  obtain ⟨v, vr, e1, h⟩ := h
  subst e1
  cases r with
  | cons r rr =>
    rw [hs]
    refine assignInOrder_cons (thn (h1 pins s σ H _ _ _ I r h) fun _ s1 ⟨σ1, H1, I1, q1⟩ => ?_)
    exact h2 pins s1 σ1 H1 _ _ Q I1 rr q1
def gTup (K : PySem.W.Frag) (n : Nat) (t : TGs) : TG := fun v σ H Q => ∃ a xs, v = .ref a ∧ SqT K H a xs ∧ xs.length = n ∧ t xs σ H Q
theorem pg_tup {es : List Expr} {k : Nat} {t : TGs} {n : Nat} (hc : X.calm = true) (h : PGs X es t)
    (hn : (assignEach es X.env).length = n := by rfl) (hst : (assignEach es X.env).findIdx? (·.1) = none := by rfl) : PG X (.Tuple es k pos) (gTup X.K n t) := by
  intro pins s σ H v u Q I r hw
  obtain ⟨a, xs, e1, hq, hl, hw⟩ := hw
  subst e1
  cases r
  obtain ⟨its, rv, ht, hz⟩ := I.tuple hq
  refine assign_Tuple_tuple (I.ok.hd hc) ht (by simp [hn, ← hl, rv.length]) hst fun h' hx => ?_
  have I1 : Inv X pins σ H { s with heap := h' } := I.kept (t' := s.toks) fun b o e => hx b o (Nat.ne_of_lt (Heap.lt_size e)) e
  exact h pins _ σ H xs _ Q I1 (by simpa using rv) hw
def tAsg (te : TE) (g : TG) : TS := fun D σ H => te σ H fun x H1 => g x σ H1 D.nx
theorem ps_set {i : Nat} {x : Str} {e : Expr} {te : TE} {pos' : Pos} (hN : X.N.Nodup) (hi : X.N[i]? = some x) (hx : Loc X.env.scope x) (he : PE X e te) (hs : swapsWith e (some (.Name x pos')) pos.line X.env = pure false := by rfl) (hf : X.fn x = true ∨ X.env.scope.names.lookup x = some .local := by first | exact .inl rfl | exact .inr rfl | assumption) :
    PS X (.Assign [.Name x pos'] e pos) (tAsg te (gName i)) := by
  intro pins s σ H D I h
  refine wpAny_Assign_Name (thn (he pins s σ H _ I h) fun v s1 ⟨y, H1, I1, r1, q1⟩ => ?_) hs
  exact store_ok I1 hN hi hx r1 (fun s2 I2 => ⟨_, H1, I2, q1⟩) hf
def tAug (i : Nat) (te : TE) (ti : TIp) : TS := fun D σ H => ∃ x, σ[i]? = some (some x) ∧ te σ H fun y H1 => ti x y H1 fun z H2 => D.nx (σ.set i (some z)) H2
theorem ps_aug {i : Nat} {x : Str} {e : Expr} {te : TE} {op : Operator} {ti : TIp} {pos' : Pos} (hN : X.N.Nodup) (hi : X.N[i]? = some x) (hx : Loc X.env.scope x) (he : PE X e te) (ho : PIp X op ti) (hf : X.fn x = true ∨ X.env.scope.names.lookup x = some .local := by first | exact .inl rfl | exact .inr rfl | assumption) :
    PS X (.AugAssign (.Name x pos') op e pos) (tAug i te ti) := by
  intro pins s σ H D I h
  obtain ⟨v, e1, h⟩ := h
  obtain ⟨m, hn, hl⟩ := I.loc
  have vis : Vis X.env.scope x := by rcases hx with k | k; exact .inl k; exact .inr (.inl k)
  obtain ⟨u, r, l⟩ := hl i x v hi e1 vis
  refine wpAny_AugAssign_Name ?_
  have go : wpAny (model X.prog X.w) X.A (eval e X.env) (fun w s₂ => wpAny (model X.prog X.w) X.A (inplaceOp op u w) (fun r s₃ => wpAny (model X.prog X.w) X.A (storeName X.env x r) (fun _ => SP X pins D .next) X.xe s₃) X.xe s₂) X.xe s := by
    refine thn (he pins s σ H _ I h) fun w s1 ⟨y, H1, I1, r1, q1⟩ => ?_
    refine thn (ho pins s1 σ H1 v y u w _ I1 r r1 q1) fun z s2 ⟨zv, H2, I2, r2, q2⟩ => ?_
    exact store_ok I2 hN hi hx r2 (fun s3 I3 => ⟨_, H2, I3, q2⟩) hf
  rcases l with ⟨hk, hm⟩ | ⟨hk, c, hc, hcell⟩
  · exact wpAny_loadName_local I.ok.kind hk hn hm go
  · rcases hk with hk | hk
    · exact wpAny_loadName_cell I.ok.kind hk hc hcell go
    · rcases hx with k | k
      · have : X.env.scope.names.lookup x = some .free := hk
        rw [k] at this; cases this
      · have : X.env.scope.names.lookup x = some .free := hk
        rw [k] at this; cases this
def ipI (f : Int → Int → Int) : TIp := fun x y H Q => ∃ i j, x = .int i ∧ y = .int j ∧ Q (.int (f i j)) H
theorem ip_add : PIp X .Add (ipI fun i j => i + j) := by
  intro pins s σ H x y v u Q I r1 r2 h
  obtain ⟨i, j, e1, e2, q⟩ := h
  subst e1; subst e2
  obtain ⟨t, rfl⟩ := r1
  obtain ⟨t', rfl⟩ := r2
  exact iadd_int ⟨.int _, H, I.tok _, ⟨_, rfl⟩, q⟩
end
section
variable {X : Cx} {pos : Pos}
def tWhile (c : TT) (tb : TS) : TS := fun D σ H => ∃ W : Nat → St → Hp → Prop, (∃ m, W m σ H) ∧ ∀ m σ H, W m σ H →
  c σ H fun b H1 => if b = true then ∃ N : St → Hp → Prop, (∀ σ' H', N σ' H' → ∃ m', m' < m ∧ W m' σ' H') ∧ tb { D with nx := N, ct := N, bk := D.nx } σ H1 else D.nx σ H1
theorem ps_while {c : Expr} {body : List Stmt} {tc : TT} {tb : TS} (hp : PassesOwn (model X.prog X.w) X.A X.env X.xe) (hc : PT X c tc) (hb : PSs X body tb) : PS X (.While c body [] pos) (tWhile tc tb) := by
  intro pins s σ H D I h
  obtain ⟨W, ⟨m0, w0⟩, turn⟩ := h
  refine wpAny_While (codeAny_whileLoop (fun n s' => ∃ σ' H', Inv X pins σ' H' s' ∧ W n σ' H') ?_ m0 ⟨σ, H, I, w0⟩)
  rintro n s1 ⟨σ1, H1, I1, w1⟩
  refine wpAny_passesOwn hp (thn (hc pins s1 σ1 H1 _ I1 (turn n σ1 H1 w1)) fun b s2 ⟨H2, I2, q2⟩ => ?_)
  cases b with
  | true =>
    obtain ⟨N, hN, q2⟩ := q2
    rw [if_pos rfl]
    refine wpAny_passesOwn hp (thn (hb pins s2 σ1 H2 _ I2 q2) fun f s3 q3 => ?_)
    cases f with
    | next =>
      obtain ⟨σ3, H3, I3, n3⟩ := q3
      obtain ⟨m', hm, w3⟩ := hN σ3 H3 n3
      exact ⟨m', hm, σ3, H3, I3, w3⟩
    | cont =>
      obtain ⟨σ3, H3, I3, n3⟩ := q3
      obtain ⟨m', hm, w3⟩ := hN σ3 H3 n3
      exact ⟨m', hm, σ3, H3, I3, w3⟩
    | brk => exact q3
    | ret v => exact q3
  | false =>
    rw [if_neg Bool.false_ne_true]
    exact wpAny_execs_nil ⟨σ1, H2, I2, q2⟩
end
structure It where
  go : Nat → Hp → Prop
  yld : Nat → Hp → V → Hp → Prop
  stop : Nat → Hp → Prop
def FpOk (X : Cx) (pins : List (Addr × Obj)) (H : Hp) (b : Addr) : Prop :=
  H b = none ∧ b ≠ X.env.locals ∧ b ∉ X.fs ∧ (b ∈ X.ex ∨ X.s_0.heap.objs.size ≤ b) ∧ (∀ x c, X.env.cells.lookup x = some c → c ≠ b) ∧ ∀ p ∈ X.pn ++ pins, p.1 ≠ b
theorem Inv.fpOk {X : Cx} {pins : List (Addr × Obj)} {σ : St} {H H' : Hp} {s : Shared} {b : Addr} (I : Inv X pins σ H s) (hb : s.heap.objs.size ≤ b) (hn : H' b = none) : FpOk X pins H' b := by
  refine ⟨hn, Nat.ne_of_gt (Nat.lt_of_lt_of_le I.lt hb), I.nofs hb, .inr (Nat.le_trans I.sz hb), fun x c e z => ?_, fun p hp z => ?_⟩
  · obtain ⟨v, q⟩ := I.cell x c e
    exact absurd (Nat.lt_of_lt_of_le q.lt (by rw [z]; exact hb)) (Nat.lt_irrefl _)
  · exact absurd (Nat.lt_of_lt_of_le (Heap.lt_size (I.pin p hp).1) (by rw [z]; exact hb)) (Nat.lt_irrefl _)
structure Turn (P : Program) (w : World) (K : PySem.W.Frag) (tg : Expr) (J : It) (fp : List Addr) (it : Addr) (tn : Nat → Heap → Prop) : Prop where
  mem : it ∈ fp
  obj : ∀ i h, tn i h → ∀ b ∈ fp, ∃ o, h.get? b = some o ∧ ∀ v, o.data ≠ .cell v
  keep : ∀ i h h', tn i h → (∀ b ∈ fp, ∀ o, h.get? b = some o → h'.get? b = some o) → tn i h'
  item : ∀ (X : Cx), X.prog = P → X.w = w → X.K = K → X.calm = true → ∀ (i : Nat) (pins : List (Addr × Obj)) (s : Shared) (σ : St) (H : Hp) (E : Value → Shared → Prop), Inv X pins σ H s → (∀ b ∈ fp, FpOk X pins H b) → tn i s.heap → J.go i H →
    wpAny (model P w) X.A (pyNext (.ref it)) (fun r s1 => ∃ u, r = some u ∧
      wpAny (model P w) X.A (letOwnedTupleGo tg (.ref it) u) (fun _ s2 => ∃ x H', Inv X pins σ H' s2 ∧ RelV x u ∧ J.yld i H x H' ∧ tn (i + 1) s2.heap ∧ ∀ b ∈ fp, H' b = none) E s1) E s
  done : ∀ (X : Cx), X.prog = P → X.w = w → X.K = K → X.calm = true → ∀ (i : Nat) (pins : List (Addr × Obj)) (s : Shared) (σ : St) (H : Hp) (E : Value → Shared → Prop), Inv X pins σ H s → (∀ b ∈ fp, FpOk X pins H b) → tn i s.heap → J.stop i H →
    wpAny (model P w) X.A (pyNext (.ref it)) (fun r s1 => r = none ∧ Inv X pins σ H s1) E s
  self : ∀ (A : Around) (i : Nat) (s : Shared) (Q : Value → Shared → Prop) (E : Value → Shared → Prop), tn i s.heap → Q (.ref it) s → wpAny (model P w) A (pyIter (.ref it)) Q E s
abbrev TI := St → Hp → (It → Hp → Prop) → Prop
def PIE (X : Cx) (pins : List (Addr × Obj)) (σ : St) (tg : Expr) (R : It → Hp → Prop) (itv : Value) (s2 : Shared) : Prop :=
  ∃ (it : Addr) (fp : List Addr) (tn : Nat → Heap → Prop) (J : It) (H' : Hp), itv = .ref it ∧ Inv X pins σ H' s2 ∧ Turn X.prog X.w X.K tg J fp it tn ∧ tn 0 s2.heap ∧ (∀ b ∈ fp, FpOk X pins H' b) ∧ R J H'
def PI (X : Cx) (tg iter : Expr) (wi : TI) : Prop :=
  ∀ (pins : List (Addr × Obj)) (s : Shared) (σ : St) (H : Hp) (R : It → Hp → Prop), Inv X pins σ H s → wi σ H R →
    wpAny (model X.prog X.w) X.A (eval iter X.env) (fun v s1 => wpAny (model X.prog X.w) X.A (pyIter v) (PIE X pins σ tg R) X.xe s1) X.xe s
theorem go_of {M : Model} {A : Around} {E : Value → Shared → Prop} {s : Shared} {tg : Expr} {it : Addr} {u : Value} {o : Obj} {n : String} {vs : Array Value} {Q : Unit → Shared → Prop} (ho : s.heap.get? it = some o) (hc : o.cls = .type n) (hd : o.data = .fields vs)
    (hn : ["enumerate", "zip", "dict_itemiterator", "dict_reverseitemiterator", "odict_iterator", "itertools.zip_longest", "itertools.pairwise"].contains n = false) (hQ : Q () s) : wpAny M A (letOwnedTupleGo tg (.ref it) u) Q E s := by
  unfold letOwnedTupleGo
  cases tg <;> first
    | exact wpAny_pure hQ
    | (cases u <;> first
        | exact wpAny_pure hQ
        | (refine wpAny_bind (wpAny_load ho ?_)
           rw [hc, hd]
           show wpAny M A (if (["enumerate", "zip", "dict_itemiterator", "dict_reverseitemiterator", "odict_iterator", "itertools.zip_longest", "itertools.pairwise"].contains n && vs[0]? == some (rawInt _)) = true then _ else _) Q E s
           rw [if_neg (by intro h; rw [hn, Bool.false_and] at h; cases h)]
           exact wpAny_pure hQ))
def Itl (K : PySem.W.Frag) (a : Addr) : It :=
  ⟨fun i H => ∃ xs x, SqL K H a xs ∧ xs[i]? = some x, fun i H x H' => H' = H ∧ ∀ xs, SqL K H a xs → xs[i]? = some x, fun i H => ∃ xs, SqL K H a xs ∧ xs.length ≤ i⟩
theorem turn_list {P : Program} {w : World} {K : PySem.W.Frag} {tg : Expr} (a it : Addr) : Turn P w K tg (Itl K a) [it] it (fun i h => h.IsListIter it a i) where
  mem := by simp
  obj := fun i h st b hb => by
    have e : b = it := by simpa using hb
    subst e
    obtain ⟨o, e, c, d⟩ := st
    exact ⟨o, e, fun v z => by rw [d] at z; cases z⟩
  keep := fun i h h' st k => st.at fun o e => k it (by simp) o e
  item := by
    intro X hP hw hK hc i pins s σ H E I hf st hg
    subst hP hw hK
    obtain ⟨xs, x, hq, hx⟩ := hg
    obtain ⟨its, rv, p, hz⟩ := I.list hq
    obtain ⟨u, hu, ru⟩ := rv.get hx
    obtain ⟨f0, f1, f2, f3, f4, f5⟩ := hf it (by simp)
    refine wpAny_pyNext_list_item st p.isList (x := u) (by simpa using hu) fun h' st' sb => ?_
    have I1 : Inv X pins σ H { s with heap := h' } := I.turned (t' := s.toks) (fun b o hb e => (sb.2 b hb).trans e) f0 f1 f3 f4 f5
    obtain ⟨o, e, c, d⟩ := id st'
    exact ⟨u, rfl, go_of (s := { s with heap := h' }) e c d (by decide) ⟨x, H, I1, ru, ⟨rfl, fun ys hy => by rw [I.list_inj hy hq]; exact hx⟩, st', fun b hb => (hf b hb).1⟩⟩
  done := by
    intro X hP hw hK hc i pins s σ H E I hf st hg
    subst hP hw hK
    obtain ⟨xs, hq, hx⟩ := hg
    obtain ⟨its, rv, p, hz⟩ := I.list hq
    obtain ⟨f0, f1, f2, f3, f4, f5⟩ := hf it (by simp)
    have hl := rv.length
    exact wpAny_pyNext_list_end (I.ok.hd hc) st p.isList (by simp; omega) fun h' eb => ⟨rfl, I.turned (t' := s.toks) (fun b o hb e => eb b o hb e) f0 f1 f3 f4 f5⟩
  self := fun _ _ _ _ _ st h => wpAny_pyIter_listiter st h
end L2
namespace L2
open PySem PySem.Spec PyProof.Rows
section
variable {X : Cx} {tg : Expr}
def iList (K : PySem.W.Frag) (tl : TE) : TI := fun σ H R => tl σ H fun x H1 => ∃ a, x = .ref a ∧ (∃ xs, SqL K H1 a xs) ∧ R (Itl K a) H1
theorem pi_list {l : Expr} {tl : TE} (hl : PE X l tl) : PI X tg l (iList X.K tl) := by
  intro pins s σ H R I h
  refine thn (hl pins s σ H _ I h) fun v s1 ⟨x, H1, I1, r1, q1⟩ => ?_
  obtain ⟨a, e, ⟨xs, hq⟩, q⟩ := q1
  subst e
  cases r1
  obtain ⟨its, rv, p, hz⟩ := I1.list hq
  refine wpAny_pyIter_list p.isList ?_
  refine ⟨s1.heap.objs.size, [s1.heap.objs.size], _, _, H1, rfl, I1.kept (t' := s1.toks) fun b o e => Heap.get?_push_of_some _ e, turn_list a _, ⟨_, Heap.get?_push_size _ rfl, rfl, rfl⟩, fun b hb => ?_, q⟩
  have e : b = s1.heap.objs.size := by simpa using hb
  subst e
  exact I1.fpOk (Nat.le_refl _) (I1.hok.fresh (Nat.le_refl _))
def tFor (wi : TI) (g : TG) (tb : TS) : TS := fun D σ H => wi σ H fun J H1 => ∃ W : Nat → Nat → St → Hp → Prop, (∃ m, W 0 m σ H1) ∧ ∀ i m σ H, W i m σ H →
  (J.stop i H ∧ D.nx σ H) ∨ (J.go i H ∧ ∃ N : St → Hp → Prop, (∀ σ' H', N σ' H' → ∃ m', m' < m ∧ W (i + 1) m' σ' H') ∧ ∀ x H', J.yld i H x H' → g x σ H' fun σ2 H2 => tb { D with nx := N, ct := N, bk := D.nx } σ2 H2)
def pinsAt (fp : List Addr) (h : Heap) : List (Addr × Obj) := fp.filterMap fun b => (h.get? b).map fun o => (b, o)
theorem mem_pinsAt {fp : List Addr} {h : Heap} {b : Addr} {o : Obj} (hb : b ∈ fp) (e : h.get? b = some o) : (b, o) ∈ pinsAt fp h := List.mem_filterMap.mpr ⟨b, hb, by rw [e]; rfl⟩
theorem of_pinsAt {fp : List Addr} {h : Heap} {p : Addr × Obj} (hp : p ∈ pinsAt fp h) : p.1 ∈ fp ∧ h.get? p.1 = some p.2 := by
  obtain ⟨b, hb, e⟩ := List.mem_filterMap.mp hp
  cases q : h.get? b with
  | none => rw [q] at e; cases e
  | some o =>
    rw [q] at e
    have e' : (b, o) = p := Option.some.inj e
    subst e'
    exact ⟨hb, q⟩
theorem Inv.pinned {pins : List (Addr × Obj)} {σ : St} {H : Hp} {s : Shared} {fp : List Addr} (I : Inv X pins σ H s) (hf : ∀ b ∈ fp, FpOk X pins H b) (ho : ∀ b ∈ fp, ∃ o, s.heap.get? b = some o ∧ ∀ v, o.data ≠ .cell v) : Inv X (pins ++ pinsAt fp s.heap) σ H s :=
  I.pins_of fun p hp => (List.mem_append.mp hp).elim (fun z => I.pin p (List.mem_append_right _ z)) fun z => by
    obtain ⟨hb, e⟩ := of_pinsAt z
    obtain ⟨f0, f1, f2, _⟩ := hf p.1 hb
    obtain ⟨o, e', d⟩ := ho p.1 hb
    rw [e] at e'; cases e'
    exact ⟨e, f0, f1, f2, d⟩
theorem Inv.unpinned {pins pl : List (Addr × Obj)} {σ : St} {H : Hp} {s : Shared} (I : Inv X (pins ++ pl) σ H s) : Inv X pins σ H s := I.pins_of fun p hp => I.pin p (List.mem_append_right _ (List.mem_append_left _ hp))
theorem ps_for {iter : Expr} {body : List Stmt} {wi : TI} {g : TG} {tb : TS} {pos : Pos} (hp : PassesOwn (model X.prog X.w) X.A X.env X.xe) (hc : X.calm = true) (hi : PI X tg iter wi) (hg : PG X tg g) (hb : PSs X body tb)
    (hs : ∀ x, foldedSetIterable iter X.env x = pure x := by intro _; rfl) : PS X (.For tg iter body [] pos) (tFor wi g tb) := by
  intro pins s σ H D I h
  refine wpAny_For (thn (hi pins s σ H _ I h) fun v s1 h1 => thn h1 fun itv s2 h2 => ?_) hs
  obtain ⟨it, fp, tn, J, H2, e, I2, T, st2, f2, W, ⟨m0, w0⟩, turn⟩ := h2
  subst e
  -- what stays true of the iterator's objects through the loop
  have stat : ∀ {H' : Hp}, (∀ b ∈ fp, H' b = none) → ∀ b ∈ fp, FpOk X pins H' b := fun hn b hb => ⟨hn b hb, (f2 b hb).2⟩
  refine codeAny_forLoop_any (fun n s' => ∃ i σ' H', Inv X pins σ' H' s' ∧ tn i s'.heap ∧ (∀ b ∈ fp, H' b = none) ∧ W i n σ' H') ?_ m0 ⟨0, σ, H2, I2, st2, fun b hb => (f2 b hb).1, w0⟩
  rintro n s3 ⟨i, σ3, H3, I3, st3, fr3, w3⟩
  rcases turn i n σ3 H3 w3 with ⟨stop, qn⟩ | ⟨go, N, hN, step⟩
  · refine wpAny_passesOwn hp (thn (T.done X rfl rfl rfl hc i pins s3 σ3 H3 X.xe I3 (stat fr3) st3 stop) fun r s4 ⟨hr, I4⟩ => ?_)
    subst hr
    exact wpAny_execs_nil ⟨σ3, H3, I4, qn⟩
  · refine wpAny_passesOwn hp (thn (T.item X rfl rfl rfl hc i pins s3 σ3 H3 X.xe I3 (stat fr3) st3 go) fun r s4 ⟨u, hr, h4⟩ => ?_)
    subst hr
    refine wpAny_passesOwn hp (thn h4 fun _ s5 ⟨x, H5, I5, r5, y5, st5, fr5⟩ => ?_)
    have I5' := I5.pinned (stat fr5) (T.obj _ _ st5)
    refine wpAny_passesOwn hp (thn (hg _ s5 σ3 H5 x u _ I5' r5 (step x H5 y5)) fun _ s6 ⟨σ6, H6, I6, q6⟩ => ?_)
    refine wpAny_passesOwn hp (thn (hb _ s6 σ6 H6 _ I6 q6) fun f s7 q7 => ?_)
    have again : ∀ {σ7 : St} {H7 : Hp}, Inv X (pins ++ pinsAt fp s5.heap) σ7 H7 s7 → N σ7 H7 → ∃ m, m < n ∧ ∃ i σ' H', Inv X pins σ' H' s7 ∧ tn i s7.heap ∧ (∀ b ∈ fp, H' b = none) ∧ W i m σ' H' := fun {σ7 H7} I7 n7 => by
      obtain ⟨m', hm, w7⟩ := hN σ7 H7 n7
      refine ⟨m', hm, i + 1, σ7, H7, I7.unpinned, T.keep _ _ _ st5 fun b hb o e => (I7.pin (b, o) (List.mem_append_right _ (List.mem_append_right _ (mem_pinsAt hb e)))).1, fun b hb => ?_, w7⟩
      obtain ⟨o, e, d⟩ := T.obj _ _ st5 b hb
      exact (I7.pin (b, o) (List.mem_append_right _ (List.mem_append_right _ (mem_pinsAt hb e)))).2.1
    cases f with
    | next => obtain ⟨σ7, H7, I7, n7⟩ := q7; exact again I7 n7
    | cont => obtain ⟨σ7, H7, I7, n7⟩ := q7; exact again I7 n7
    | brk => obtain ⟨σ7, H7, I7, q7⟩ := q7; exact ⟨σ7, H7, I7.unpinned, q7⟩
    | ret v => obtain ⟨x7, σ7, H7, I7, r7, q7⟩ := q7; exact ⟨x7, σ7, H7, I7.unpinned, r7, q7⟩
end
theorem for_list {K : PySem.W.Frag} {a : Addr} {xs : List V} {g : TG} {tb : TS} {D : Ends} {σ : St} {H : Hp} (Pv : Nat → St → Hp → Prop) (h0 : Pv 0 σ H) (hl : ∀ i σ H, i ≤ xs.length → Pv i σ H → SqL K H a xs)
    (hs : ∀ i x σ H, xs[i]? = some x → Pv i σ H → g x σ H fun σ2 H2 => tb { D with nx := Pv (i + 1), ct := Pv (i + 1), bk := D.nx } σ2 H2) (hd : ∀ σ H, Pv xs.length σ H → D.nx σ H) :
    ∃ W : Nat → Nat → St → Hp → Prop, (∃ m, W 0 m σ H) ∧ ∀ i m σ H, W i m σ H →
      ((Itl K a).stop i H ∧ D.nx σ H) ∨ ((Itl K a).go i H ∧ ∃ N : St → Hp → Prop, (∀ σ' H', N σ' H' → ∃ m', m' < m ∧ W (i + 1) m' σ' H') ∧ ∀ x H', (Itl K a).yld i H x H' → g x σ H' fun σ2 H2 => tb { D with nx := N, ct := N, bk := D.nx } σ2 H2) := by
  refine ⟨fun i m σ H => m = xs.length - i ∧ i ≤ xs.length ∧ Pv i σ H, ⟨xs.length, by simp, Nat.zero_le _, h0⟩, ?_⟩
  rintro i m σ H ⟨rfl, hi, p⟩
  have q := hl i σ H hi p
  by_cases hlt : i < xs.length
  · refine .inr ⟨⟨xs, xs[i], q, by simp [hlt]⟩, Pv (i + 1), fun σ' H' p' => ⟨xs.length - (i + 1), by omega, rfl, hlt, p'⟩, fun x H' y => ?_⟩
    obtain ⟨e, y⟩ := y
    subst e
    exact hs i x σ _ (y xs q) p
  · have e : i = xs.length := by omega
    subst e
    exact .inl ⟨⟨xs, q, Nat.le_refl _⟩, hd σ H p⟩
end L2
namespace L2
open PySem PySem.Spec PyProof.Rows
abbrev R2 := V → V → Hp → VK → Prop
def OpR (X : Cx) (f : Value → Value → Sem Value) (r : R2) : Prop :=
  ∀ (pins : List (Addr × Obj)) (s : Shared) (σ : St) (H : Hp) (x y : V) (v u : Value) (Q : VK), Inv X pins σ H s → RelV x v → RelV y u → r x y H Q →
    wpAny (model X.prog X.w) X.A (f v u) (EP X pins σ Q) X.xe s
def UnR (X : Cx) (f : Value → Sem Value) (r : V → Hp → VK → Prop) : Prop :=
  ∀ (pins : List (Addr × Obj)) (s : Shared) (σ : St) (H : Hp) (x : V) (v : Value) (Q : VK), Inv X pins σ H s → RelV x v → r x H Q →
    wpAny (model X.prog X.w) X.A (f v) (EP X pins σ Q) X.xe s
def CallR (X : Cx) (f : Value) (r : List V → Hp → VK → Prop) : Prop :=
  ∀ (pins : List (Addr × Obj)) (s : Shared) (σ : St) (H : Hp) (xs : List V) (us : List Value) (Q : VK), Inv X pins σ H s → Vals xs us → r xs H Q →
    wpAny (model X.prog X.w) X.A (call f us) (EP X pins σ Q) X.xe s
def TruR (X : Cx) (r : V → Hp → (Bool → Hp → Prop) → Prop) : Prop :=
  ∀ (pins : List (Addr × Obj)) (s : Shared) (σ : St) (H : Hp) (x : V) (v : Value) (Q : Bool → Hp → Prop), Inv X pins σ H s → RelV x v → r x H Q →
    wpAny (model X.prog X.w) X.A (truthy v) (TP X pins σ Q) X.xe s
def tOp (r : R2) (ta tb : TE) : TE := fun σ H Q => ta σ H fun x H1 => tb σ H1 fun y H2 => r x y H2 Q
def tUn (r : V → Hp → VK → Prop) (ta : TE) : TE := fun σ H Q => ta σ H fun x H1 => r x H1 Q
def rI (C : Int → Int → Prop) (g : Int → Int → V) : R2 := fun x y H Q => ∃ i j, x = .int i ∧ y = .int j ∧ C i j ∧ Q (g i j) H
def rI0 (g : Int → Int → V) : R2 := fun x y H Q => ∃ i j, x = .int i ∧ y = .int j ∧ Q (g i j) H
def rU (g : Int → V) : V → Hp → VK → Prop := fun x H Q => ∃ i, x = .int i ∧ Q (g i) H
section
variable {X : Cx} {a b c : Expr} {ta tb tc : TE} {pos : Pos}
theorem binT (ha : PE X a ta) (hb : PE X b tb) {pins : List (Addr × Obj)} {s : Shared} {σ : St} {H : Hp} {R : V → V → Hp → Prop} (I : Inv X pins σ H s)
    (h : ta σ H fun x H1 => tb σ H1 fun y H2 => R x y H2) {Q : Value → Shared → Prop} {f : Value → Value → Sem Value}
    (hf : ∀ v u s2 x y H2, Inv X pins σ H2 s2 → RelV x v → RelV y u → R x y H2 → wpAny (model X.prog X.w) X.A (f v u) Q X.xe s2) :
    wpAny (model X.prog X.w) X.A (eval a X.env) (fun v s₁ => wpAny (model X.prog X.w) X.A (eval b X.env) (fun u s₂ => wpAny (model X.prog X.w) X.A (f v u) Q X.xe s₂) X.xe s₁) X.xe s := by
  refine thn (ha pins s σ H _ I h) fun v s1 ⟨x, H1, I1, r1, q1⟩ => ?_
  refine thn (hb pins s1 σ H1 _ I1 q1) fun u s2 ⟨y, H2, I2, r2, q2⟩ => ?_
  exact hf v u s2 x y H2 I2 r1 r2 q2
theorem pe_op {op : Operator} {r : R2} (ho : OpR X (binaryOp op) r) (ha : PE X a ta) (hb : PE X b tb) : PE X (.BinOp a op b pos) (tOp r ta tb) := by
  intro pins s σ H Q I h
  exact wpAny_BinOp (binT ha hb I h fun v u s2 x y H2 I2 rx ry q => ho pins s2 σ H2 x y v u Q I2 rx ry q)
theorem pe_un {op : UnaryOp} {r : V → Hp → VK → Prop} (ho : UnR X (unaryOp op) r) (ha : PE X a ta) : PE X (.UnaryOp op a pos) (tUn r ta) := by
  intro pins s σ H Q I h
  exact UnaryOp_ (thn (ha pins s σ H _ I h) fun v s1 ⟨x, H1, I1, r1, q1⟩ => ho pins s1 σ H1 x v Q I1 r1 q1)
theorem opI {f : Value → Value → Sem Value} {C : Int → Int → Prop} {g : Int → Int → Int}
    (rule : ∀ (i j : Int) (t u : Tok) (s : Shared) (Q : Value → Shared → Prop) (E : Value → Shared → Prop), C i j → Q (.int (g i j) s.toks) { s with toks := s.toks + 1 } → wpAny (model X.prog X.w) X.A (f (.int i t) (.int j u)) Q E s) :
    OpR X f (rI C fun i j => .int (g i j)) := by
  intro pins s σ H x y v u Q I rx ry h
  obtain ⟨i, j, rfl, rfl, hc, q⟩ := h
  obtain ⟨t, rfl⟩ := rx
  obtain ⟨t', rfl⟩ := ry
  exact rule i j t t' s _ _ hc ⟨.int (g i j), H, I.tok _, ⟨_, rfl⟩, q⟩
theorem opI0 {f : Value → Value → Sem Value} {g : Int → Int → Int}
    (rule : ∀ (i j : Int) (t u : Tok) (s : Shared) (Q : Value → Shared → Prop) (E : Value → Shared → Prop), Q (.int (g i j) s.toks) { s with toks := s.toks + 1 } → wpAny (model X.prog X.w) X.A (f (.int i t) (.int j u)) Q E s) :
    OpR X f (rI0 fun i j => .int (g i j)) := by
  intro pins s σ H x y v u Q I rx ry h
  obtain ⟨i, j, rfl, rfl, q⟩ := h
  obtain ⟨t, rfl⟩ := rx
  obtain ⟨t', rfl⟩ := ry
  exact rule i j t t' s _ _ ⟨.int (g i j), H, I.tok _, ⟨_, rfl⟩, q⟩
theorem opB0 {f : Value → Value → Sem Value} {g : Int → Int → Bool}
    (rule : ∀ (i j : Int) (t u : Tok) (s : Shared) (Q : Value → Shared → Prop) (E : Value → Shared → Prop), Q (.bool (g i j)) s → wpAny (model X.prog X.w) X.A (f (.int i t) (.int j u)) Q E s) :
    OpR X f (rI0 fun i j => .bl (g i j)) := by
  intro pins s σ H x y v u Q I rx ry h
  obtain ⟨i, j, rfl, rfl, q⟩ := h
  obtain ⟨t, rfl⟩ := rx
  obtain ⟨t', rfl⟩ := ry
  exact rule i j t t' s _ _ ⟨.bl (g i j), H, I, rfl, q⟩
def CMul (i j : Int) : Prop := (-(2 ^ 64) < i ∧ i < 2 ^ 64) ∨ (-(2 ^ 64) < j ∧ j < 2 ^ 64)
theorem CMul.ok {i j : Int} (h : CMul i j) : IntMulOk i j := by
  rcases h with ⟨h1, h2⟩ | ⟨h1, h2⟩
  · exact .of_left (intBits_le_64 h1 h2)
  · exact .of_right (intBits_le_64 h1 h2)
theorem op_add : OpR X (binaryOp .Add) (rI0 fun i j => .int (i + j)) := opI0 fun _ _ _ _ _ _ _ q => add_int q
theorem op_sub : OpR X (binaryOp .Sub) (rI0 fun i j => .int (i - j)) := opI0 fun _ _ _ _ _ _ _ q => sub_int q
theorem op_mul : OpR X (binaryOp .Mult) (rI CMul fun i j => .int (i * j)) := opI fun _ _ _ _ _ _ _ hc q => mul_int q hc.ok
theorem unI {f : Value → Sem Value} {g : Int → Int}
    (rule : ∀ (i : Int) (t : Tok) (s : Shared) (Q : Value → Shared → Prop) (E : Value → Shared → Prop), Q (.int (g i) s.toks) { s with toks := s.toks + 1 } → wpAny (model X.prog X.w) X.A (f (.int i t)) Q E s) :
    UnR X f (rU fun i => .int (g i)) := by
  intro pins s σ H x v Q I rx h
  obtain ⟨i, rfl, q⟩ := h
  obtain ⟨t, rfl⟩ := rx
  exact rule i t s _ _ ⟨.int (g i), H, I.tok _, ⟨_, rfl⟩, q⟩
theorem un_neg : UnR X (unaryOp .USub) (rU fun i => .int (-i)) := unI fun _ _ _ _ _ q => neg_int q
end
def scal : V → V → Bool
  | .non, .non => true | .non, .int _ => true | .int _, .non => true | .non, .bl _ => true | .bl _, .non => true | .non, .str _ => true | .str _, .non => true
  | .int _, .int _ => true | .bl _, .bl _ => true | .str _, .str _ => true | .byt _, .byt _ => true
  | .int _, .str _ => true | .str _, .int _ => true | .bl _, .str _ => true | .str _, .bl _ => true
  | _, _ => false
def rEq : R2 := fun x y H Q => scal x y = true ∧ Q (.bl (decide (x = y))) H
def rNe : R2 := fun x y H Q => scal x y = true ∧ Q (.bl (!decide (x = y))) H
theorem dec_int {i j : Int} : decide (V.int i = V.int j) = (i == j) := by
  rw [Bool.eq_iff_iff]
  simp
theorem dec_bl {i j : Bool} : decide (V.bl i = V.bl j) = (i == j) := by
  rw [Bool.eq_iff_iff]
  simp
theorem dec_str {i j : Str} : decide (V.str i = V.str j) = (i == j) := by
  rw [Bool.eq_iff_iff]
  simp
theorem dec_byt {i j : Array UInt8} : decide (V.byt i = V.byt j) = (i.toList == j.toList) := by
  rw [Bool.eq_iff_iff]
  cases i
  cases j
  simp
section
variable {X : Cx} {a b c : Expr} {ta tb tc : TE} {pos : Pos}
theorem fin_bl {pins : List (Addr × Obj)} {σ : St} {H : Hp} {s : Shared} {Q : VK} {k k' : Bool} (I : Inv X pins σ H s) (q : Q (.bl k) H) (e : k = k') : EP X pins σ Q (.bool k') s := by
  subst e
  exact ⟨.bl k, H, I, rfl, q⟩
theorem op_eq : OpR X (compareOp .Eq) rEq := by
  intro pins s σ H x y v u Q I rx ry h
  obtain ⟨hs, q⟩ := h
  cases x with
  | non =>
    cases rx
    cases y with
    | non => cases ry; exact PySem.EqNone.eq_none_none (fin_bl I q (by simp))
    | bl j => cases ry; exact PySem.EqNone.eq_none_bool (fin_bl I q (by simp))
    | int j => obtain ⟨t', rfl⟩ := ry; exact PySem.EqNone.eq_none_int (fin_bl I q (by simp))
    | str j => obtain ⟨t', rfl⟩ := ry; exact PySem.EqNone.eq_none_str (fin_bl I q (by simp))
    | _ => exact absurd (show false = true from hs) Bool.false_ne_true
  | bl i =>
    cases rx
    cases y with
    | non => cases ry; exact PySem.EqNone.eq_bool_none (fin_bl I q (by simp))
    | bl j => cases ry; exact eq_bool (fin_bl I q dec_bl)
    | str j => obtain ⟨t', rfl⟩ := ry; exact PySem.EqMixed.eq_bool_str (fin_bl I q (by simp))
    | _ => exact absurd (show false = true from hs) Bool.false_ne_true
  | int i =>
    obtain ⟨t, rfl⟩ := rx
    cases y with
    | non => cases ry; exact PySem.EqNone.eq_int_none (fin_bl I q (by simp))
    | int j => obtain ⟨t', rfl⟩ := ry; exact eq_int (fin_bl I q dec_int)
    | str j => obtain ⟨t', rfl⟩ := ry; exact PySem.EqMixed.eq_int_str (fin_bl I q (by simp))
    | _ => exact absurd (show false = true from hs) Bool.false_ne_true
  | str i =>
    obtain ⟨t, rfl⟩ := rx
    cases y with
    | non => cases ry; exact PySem.EqNone.eq_str_none (fin_bl I q (by simp))
    | bl j => cases ry; exact PySem.EqMixed.eq_str_bool (fin_bl I q (by simp))
    | int j => obtain ⟨t', rfl⟩ := ry; exact PySem.EqMixed.eq_str_int (fin_bl I q (by simp))
    | str j => obtain ⟨t', rfl⟩ := ry; exact eq_str (fin_bl I q dec_str)
    | _ => exact absurd (show false = true from hs) Bool.false_ne_true
  | byt i =>
    obtain ⟨t, rfl⟩ := rx
    cases y with
    | byt j => obtain ⟨t', rfl⟩ := ry; exact PySem.W.eq_bytes (fin_bl I q dec_byt)
    | _ => exact absurd (show false = true from hs) Bool.false_ne_true
  | _ => cases y <;> exact absurd (show false = true from hs) Bool.false_ne_true
theorem op_ne : OpR X (compareOp .NotEq) rNe := by
  intro pins s σ H x y v u Q I rx ry h
  obtain ⟨hs, q⟩ := h
  cases x with
  | non =>
    cases rx
    cases y with
    | non => cases ry; exact PySem.EqNone.ne_none_none (fin_bl I q (by simp))
    | bl j => cases ry; exact PySem.EqNone.ne_none_bool (fin_bl I q (by simp))
    | int j => obtain ⟨t', rfl⟩ := ry; exact PySem.EqNone.ne_none_int (fin_bl I q (by simp))
    | str j => obtain ⟨t', rfl⟩ := ry; exact PySem.EqNone.ne_none_str (fin_bl I q (by simp))
    | _ => exact absurd (show false = true from hs) Bool.false_ne_true
  | bl i =>
    cases rx
    cases y with
    | non => cases ry; exact PySem.EqNone.ne_bool_none (fin_bl I q (by simp))
    | bl j => cases ry; exact ne_bool (fin_bl I q (congrArg not dec_bl))
    | str j => obtain ⟨t', rfl⟩ := ry; exact PySem.EqMixed.ne_bool_str (fin_bl I q (by simp))
    | _ => exact absurd (show false = true from hs) Bool.false_ne_true
  | int i =>
    obtain ⟨t, rfl⟩ := rx
    cases y with
    | non => cases ry; exact PySem.EqNone.ne_int_none (fin_bl I q (by simp))
    | int j => obtain ⟨t', rfl⟩ := ry; exact ne_int (fin_bl I q (congrArg not dec_int))
    | str j => obtain ⟨t', rfl⟩ := ry; exact PySem.EqMixed.ne_int_str (fin_bl I q (by simp))
    | _ => exact absurd (show false = true from hs) Bool.false_ne_true
  | str i =>
    obtain ⟨t, rfl⟩ := rx
    cases y with
    | non => cases ry; exact PySem.EqNone.ne_str_none (fin_bl I q (by simp))
    | bl j => cases ry; exact PySem.EqMixed.ne_str_bool (fin_bl I q (by simp))
    | int j => obtain ⟨t', rfl⟩ := ry; exact PySem.EqMixed.ne_str_int (fin_bl I q (by simp))
    | str j => obtain ⟨t', rfl⟩ := ry; exact ne_str (fin_bl I q (congrArg not dec_str))
    | _ => exact absurd (show false = true from hs) Bool.false_ne_true
  | byt i =>
    obtain ⟨t, rfl⟩ := rx
    cases y with
    | byt j => obtain ⟨t', rfl⟩ := ry; exact PySem.W.ne_bytes (fin_bl I q (congrArg not dec_byt))
    | _ => exact absurd (show false = true from hs) Bool.false_ne_true
  | _ => cases y <;> exact absurd (show false = true from hs) Bool.false_ne_true
theorem op_lt : OpR X (compareOp .Lt) (rI0 fun i j => .bl (decide (i < j))) := opB0 fun _ _ _ _ _ _ _ q => lt_int q
theorem op_le : OpR X (compareOp .LtE) (rI0 fun i j => .bl (decide (i ≤ j))) := opB0 fun _ _ _ _ _ _ _ q => le_int q
theorem op_gt : OpR X (compareOp .Gt) (rI0 fun i j => .bl (decide (j < i))) := opB0 fun _ _ _ _ _ _ _ q => gt_int q
theorem op_ge : OpR X (compareOp .GtE) (rI0 fun i j => .bl (decide (j ≤ i))) := opB0 fun _ _ _ _ _ _ _ q => ge_int q
theorem nomark (b : Expr) {op : CmpOp} (h : op ≠ .In := by decide) (h2 : op ≠ .NotIn := by decide) : behindInMarks op b = false := by
  have e1 : (op == CmpOp.In) = false := by cases op <;> first | rfl | exact absurd rfl h
  have e2 : (op == CmpOp.NotIn) = false := by cases op <;> first | rfl | exact absurd rfl h2
  cases b <;> simp [behindInMarks, e1, e2]
theorem pe_cmpR {op : CmpOp} {r : R2} (ho : OpR X (compareOp op) r) (ha : PE X a ta) (hb : PE X b tb) (hm : behindInMarks op b = false) : PE X (.Compare a [op] [b] pos) (tOp r ta tb) := by
  intro pins s σ H Q I h
  exact wpAny_Compare1 (binT ha hb I h fun v u s2 x y H2 I2 rx ry q => ho pins s2 σ H2 x y v u Q I2 rx ry q) hm
def tTest (t : TE) : TT := fun σ H Q => t σ H fun x H' => ∃ k, x = .bl k ∧ Q k H'
theorem pt_cmpR {op : CmpOp} {r : R2} (ho : OpR X (compareOp op) r) (ha : PE X a ta) (hb : PE X b tb) (hm : behindInMarks op b = false) : PT X (.Compare a [op] [b] pos) (tTest (tOp r ta tb)) := by
  intro pins s σ H Q I h
  refine wpAny_isTrue_Compare1 (thn (ha pins s σ H _ I h) fun v s1 ⟨x, H1, I1, r1, q1⟩ => thn (hb pins s1 σ H1 _ I1 q1) fun u s2 ⟨y, H2, I2, r2, q2⟩ =>
    thn (ho pins s2 σ H2 x y v u _ I2 r1 r2 q2) fun c s3 ⟨z, H3, I3, r3, k, e, q3⟩ => ?_) hm
  subst e
  cases r3
  exact wpAny_truthy_bool ⟨H3, I3, q3⟩
def tChain (r r' : R2) (ta tb tc : TE) : TE := fun σ H Q => ta σ H fun x H1 => tb σ H1 fun y H2 => r x y H2 fun z H3 => ∃ k, z = .bl k ∧
  (if k = true then tc σ H3 fun w' H4 => r' y w' H4 Q else Q (.bl false) H3)
theorem pe_chain {op op' : CmpOp} {r r' : R2} (ho : OpR X (compareOp op) r) (ho' : OpR X (compareOp op') r') (ha : PE X a ta) (hb : PE X b tb) (hc : PE X c tc)
    (hm : lastMarks [op, op'] [b, c] = false := by with_unfolding_all rfl) : PE X (.Compare a [op, op'] [b, c] pos) (tChain r r' ta tb tc) := by
  intro pins s σ H Q I h
  refine Compare_chain (thn (ha pins s σ H _ I h) fun v s1 ⟨x, H1, I1, r1, q1⟩ => chain_link (thn (hb pins s1 σ H1 _ I1 q1) fun u s2 ⟨y, H2, I2, r2, q2⟩ =>
    thn (ho pins s2 σ H2 x y v u _ I2 r1 r2 q2) fun d s3 ⟨z, H3, I3, r3, k, e, q3⟩ => ?_)) hm
  subst e
  cases r3
  refine wpAny_truthy_bool ?_
  cases k with
  | false => exact ite_ff ⟨.bl false, H3, I3, rfl, q3⟩
  | true => exact ite_tt (chain_last (thn (hc pins s3 σ H3 _ I3 q3) fun w' s4 ⟨z', H4, I4, r4, q4⟩ => ho' pins s4 σ H4 y z' u w' Q I4 r2 r4 q4))
def TruV (K : PySem.W.Frag) (x : V) (H : Hp) (k : Bool) : Prop :=
  match x with
  | .non => k = false
  | .bl b => k = b
  | .int i => k = (i != 0)
  | .str y => y.length ≤ sizeLine ∧ k = ((y.length : Int) != 0)
  | .byt y => y.size ≤ sizeLine ∧ k = ((y.size : Int) != 0)
  | .ref p => (∃ xs, SqL K H p xs ∧ k = !xs.isEmpty) ∨ (∃ xs, SqT K H p xs ∧ k = !xs.isEmpty) ∨ ∃ kvs, H p = some (.dK kvs) ∧ k = !kvs.isEmpty
  | _ => False
theorem isEmpty_kv {κ : Type} {kvs : List (κ × V)} {vs : List (κ × Value)} (r : KV kvs vs) : (!vs.isEmpty) = !kvs.isEmpty := by
  cases r <;> rfl
theorem isEmpty_of {xs : List V} {its : List Value} (r : Vals xs its) : (!its.toArray.isEmpty) = !xs.isEmpty := by
  cases r <;> simp
theorem line63 : (sizeLine : Nat) < 2 ^ 63 := by rw [sizeLine_eq]; decide
theorem tru_ok : TruR X (fun x H Q => ∃ k, TruV X.K x H k ∧ Q k H) := by
  intro pins s σ H x v Q I rx h
  obtain ⟨k, e, q⟩ := h
  have hl := line63
  have hs : sizeLine = 16777216 := sizeLine_eq
  cases x with
  | non =>
    cases rx
    have e' : k = false := e
    subst e'
    exact truthy_none ⟨H, I, q⟩
  | bl b =>
    cases rx
    have e' : k = b := e
    subst e'
    exact wpAny_truthy_bool ⟨H, I, q⟩
  | int i =>
    obtain ⟨t, rfl⟩ := rx
    have e' : k = (i != 0) := e
    subst e'
    exact PySem.P.truthy_int ⟨H, I, q⟩
  | str y =>
    obtain ⟨t, rfl⟩ := rx
    obtain ⟨hy, e'⟩ : y.length ≤ sizeLine ∧ k = ((y.length : Int) != 0) := e
    subst e'
    exact PySem.P.truthy_str (by omega) ⟨H, I.tok _, q⟩
  | byt y =>
    obtain ⟨t, rfl⟩ := rx
    obtain ⟨hy, e'⟩ : y.size ≤ sizeLine ∧ k = ((y.size : Int) != 0) := e
    subst e'
    exact PySem.W.truthy_bytes (by omega) ⟨H, I.tok _, q⟩
  | ref p =>
    cases rx
    have e' : (∃ xs, SqL X.K H p xs ∧ k = !xs.isEmpty) ∨ (∃ xs, SqT X.K H p xs ∧ k = !xs.isEmpty) ∨ ∃ kvs, H p = some (.dK kvs) ∧ k = !kvs.isEmpty := e
    rcases e' with ⟨xs, hx, e'⟩ | ⟨xs, hx, e'⟩ | ⟨kvs, hx, e'⟩
    · subst e'
      obtain ⟨its, r, pl, hz⟩ := I.list hx
      have hlen := r.length
      exact wpAny_truthy_list pl.isList (by simp only [List.size_toArray]; omega) ⟨H, I.tok _, by rw [isEmpty_of r]; exact q⟩
    · subst e'
      obtain ⟨its, r, pl, hz⟩ := I.tuple hx
      have hlen := r.length
      exact truthy_tuple pl (by simp only [List.size_toArray]; omega) ⟨H, I.tok _, by rw [isEmpty_of r]; exact q⟩
    · subst e'
      obtain ⟨hz, hS, vs, r, m⟩ : kvs.length ≤ sizeLine ∧ (p == sysModules) = false ∧ ∃ vs, KV kvs vs ∧ s.heap.DictOf (mixKind X.prog X.w) p vs := I.hok p _ hx
      have hlen : kvs.length = vs.length := Paired.length r
      exact wpAny_truthy_dict hS m (by omega) ⟨H, I.tok _, by rw [isEmpty_kv r]; exact q⟩
  | _ => exact (show False from e).elim
theorem pt_truth (ha : PE X a ta) (he : ∀ whole, isTrue a X.env whole = (do let v ← whole; standAt a.pos; holding [v] (truthy v))) :
    PT X a (fun σ H Q => ta σ H fun x H' => ∃ k, TruV X.K x H' k ∧ Q k H') := by
  intro pins s σ H Q I h
  exact isTrue_plain (thn (ha pins s σ H _ I h) fun v s1 ⟨x, H1, I1, r1, q1⟩ => tru_ok pins s1 σ H1 x v Q I1 r1 q1) (he _)
theorem vals1 {x : V} {us : List Value} (r : Vals [x] us) : ∃ u, us = [u] ∧ RelV x u := by
  cases r with
  | cons r1 r2 => cases r2; exact ⟨_, rfl, r1⟩
theorem call_ord : CallR X (.builtin "ord") (fun xs H Q => ∃ x, xs = [.str x] ∧ x.length = 1 ∧ Q (.int (x.cps.getD 0 0 : Nat)) H) := by
  intro pins s σ H xs us Q I r h
  obtain ⟨x, rfl, hz, q⟩ := h
  obtain ⟨u, rfl, t, rfl⟩ := vals1 r
  exact ord_of_one hz ⟨.int _, H, I.tok _, ⟨_, rfl⟩, q⟩
def LenV (K : PySem.W.Frag) (x : V) (H : Hp) (n : Nat) : Prop :=
  match x with
  | .str y => y.length ≤ sizeLine ∧ n = y.length
  | .byt y => y.size ≤ sizeLine ∧ n = y.size
  | .ref p => (∃ xs, SqL K H p xs ∧ n = xs.length) ∨ ∃ xs, SqT K H p xs ∧ n = xs.length
  | _ => False
theorem call_len : CallR X (.builtin "len") (fun xs H Q => ∃ x n, xs = [x] ∧ LenV X.K x H n ∧ Q (.int n) H) := by
  intro pins s σ H xs us Q I r h
  obtain ⟨x, n, rfl, e, q⟩ := h
  obtain ⟨u, rfl, rx⟩ := vals1 r
  have hl := line63
  have hs : sizeLine = 16777216 := sizeLine_eq
  cases x with
  | str y =>
    obtain ⟨t, rfl⟩ := rx
    obtain ⟨hy, e'⟩ : y.length ≤ sizeLine ∧ n = y.length := e
    subst e'
    exact len_str (by omega) ⟨.int _, H, I.tok _, ⟨_, rfl⟩, q⟩
  | byt y =>
    obtain ⟨t, rfl⟩ := rx
    obtain ⟨hy, e'⟩ : y.size ≤ sizeLine ∧ n = y.size := e
    subst e'
    exact PySem.W.len_bytes (by omega) ⟨.int _, H, I.tok _, ⟨_, rfl⟩, q⟩
  | ref p =>
    cases rx
    have e' : (∃ xs, SqL X.K H p xs ∧ n = xs.length) ∨ ∃ xs, SqT X.K H p xs ∧ n = xs.length := e
    rcases e' with ⟨xs, hx, e'⟩ | ⟨xs, hx, e'⟩
    · subst e'
      obtain ⟨its, r', pl, hz⟩ := I.list hx
      have hlen := r'.length
      exact Calls.call_len_list pl.isList (by simp only [List.size_toArray]; omega) ⟨.int xs.length, H, I.tok _, ⟨_, by simp only [List.size_toArray]; rw [hlen]⟩, q⟩
    · subst e'
      obtain ⟨its, r', pl, hz⟩ := I.tuple hx
      have hlen := r'.length
      exact len_tuple pl (by simp only [List.size_toArray]; omega) ⟨.int xs.length, H, I.tok _, ⟨_, by simp only [List.size_toArray]; rw [hlen]⟩, q⟩
  | _ => exact (show False from e).elim
end
end L2
namespace L2
open PySem PySem.Spec PyProof.Rows
structure ObjM (h : Heap) (x dx C : Addr) (mA : Str → Option Value) : Prop where
  obj : h.get? x = some (PySem.W.instObj C dx)
  ns : h.Ns1 dx mA
  ne : dx ≠ x
theorem lookIn_ns {h : Heap} {dx : Addr} {mA : Str → Option Value} (n : h.Ns1 dx mA) : ∃ od, h.get? dx = some od ∧ ∀ name, PySem.W.lookIn name od = some (mA name) := by
  obtain ⟨o, es, ep, ho, hd, hk, _, hm⟩ := n
  refine ⟨o, ho, fun name => ?_⟩
  have e := hm name
  unfold nsFind findBy at e
  rw [← Array.find?_toList] at e
  unfold PySem.W.lookIn
  rw [hd]
  dsimp only
  split
  · rename_i y q
    rw [q] at e
    exact congrArg some e
  · rename_i q
    rw [q] at e
    have a : es.toList.any (·.refKey) = false := by
      rw [List.any_eq_false]
      intro y hy
      obtain ⟨z, t, hkey⟩ := hk y (Array.mem_toList_iff.mp hy)
      simp [DictEntry.refKey, hkey]
    have a' : ¬ es.toList.any (·.refKey) = true := by rw [a]; exact Bool.false_ne_true
    rw [if_neg a']
    exact congrArg some e
theorem ObjM.look {h : Heap} {x dx C : Addr} {mA : Str → Option Value} (I : ObjM h x dx C mA) : ∃ od, PySem.W.InstAt h x (PySem.W.instObj C dx) C (some od) ∧ ∀ name, PySem.W.lookIn name od = some (mA name) :=
  let ⟨od, ho, hl⟩ := lookIn_ns I.ns
  ⟨od, ⟨I.obj, rfl, rfl, ho⟩, hl⟩
section
variable {prog : Program} {w : World} {A : Around} {E : Value → Shared → Prop} {s : Shared} {K : PySem.W.Frag} {x dx C f : Addr} {mA : Str → Option Value} {name : Str} {v : Value}
theorem get_map {expr : Bool} {Q : Value → Shared → Prop} (X : K.In s.heap) (I : ObjM s.heap x dx C mA) (hg : PySem.W.plainGet K C name = true) (hh : PySem.W.hasDictIn K C = true)
    (ha : PySem.W.findIn K (.ref C) name = some none) (hv : mA name = some v) (hv' : PySem.W.handedIn v = true) (h : Q v { s with toks := s.toks + 1 }) :
    wpAny (model prog w) A (getAttr (.ref x) name expr) Q E s := by
  obtain ⟨od, J, hl⟩ := I.look
  exact PySem.W.get_value X J (PySem.W.plainGet_of hg).1 (PySem.W.findObj_own hh ha rfl (by rw [hl, hv])) hv' h
theorem get_meth {pl : Sem Bool} {Q : Value × List Value → Shared → Prop} (X : K.In s.heap) (I : ObjM s.heap x dx C mA) (hg : PySem.W.plainGet K C name = true)
    (hf : PySem.W.findIn K (.ref C) name = some (some (.ref f))) (ht : PySem.W.isFn K (.ref f) = true) (hv : mA name = none) (h : Q (.ref f, [.ref x]) s) :
    wpAny (model prog w) A (getMethod (.ref x) name pl) Q E s := by
  obtain ⟨od, J, hl⟩ := I.look
  exact PySem.W.method_fn X J (PySem.W.plainGet_of hg).1 (PySem.W.plainGet_of hg).2 hf (beq_iff_eq.mp ht) (by show (PySem.W.lookIn name od).map (·.isSome) = some false; rw [hl, hv]; rfl) h
theorem set_map {ns : List Str} {Q : Unit → Shared → Prop} (X : K.In s.heap) (I : ObjM s.heap x dx C mA)
    (hs : PySem.W.findIn K (.ref C) "__setattr__" = some (some (.builtin "object.__setattr__"))) (hp : PySem.W.plainOver K C = true) (ht : PySem.W.takerIn K C name = some none) (hh : PySem.W.hasDictIn K C = true)
    (hw : PySem.Within mA ns) (hsz : ns.length ≤ sizeLine)
    (h : ∀ h', ObjM h' x dx C (fun y => if y = name then some v else mA y) → Heap.SameBut dx s.heap h' → Q () { s with heap := h', toks := s.toks + 2 }) :
    wpAny (model prog w) A (setAttr (.ref x) name v) Q E s := by
  obtain ⟨od, J, hl⟩ := I.look
  refine PySem.W.set_plain X J hs (PySem.W.osa_open (s := { s with toks := s.toks + 1 }) (r := none) X J hp ht fun b => ?_)
  obtain ⟨cd, hc, hd'⟩ := PySem.W.any_some hh
  have hx : s.heap.get? x = some ⟨.ref C, some dx, .plain, #[]⟩ := I.obj
  refine wpAny_bind (wpAny_pure (wpAny_bind (wpAny_bind (wpAny_loadPart hx (wpAny_bind (PySem.W.Looks.here (s := { s with toks := s.toks + 1 }) (PySem.W.looks_clsIn X hc) ?_))))))
  rw [hd']
  refine wpAny_pure (a := some dx) (wpAny_bind (wpAny_pure (wpAny_bind ?_)))
  refine wpAny_nsSet1 (s := { s with toks := s.toks + 1 }) I.ns fun h' hn2 hs2 => ?_
  obtain ⟨oD, esD, epD, hoD, hdD, hcD⟩ := hn2.count (PySem.Within.cons name v hw)
  refine wpAny_bind (wpAny_lookBehind hoD (by rw [hdD]; exact pastItsLine_dict (Nat.le_trans hcD (by rw [List.length_cons]; omega))) ?_)
  exact wpAny_pure (h _ ⟨(hs2.2 _ (Ne.symm I.ne)).trans I.obj, hn2, I.ne⟩ hs2)
theorem make_map {R : Result → Shared → Prop} {vs : List Value} {kw : List (Str × Value)} (X : K.In s.heap) (hm : PySem.W.makesIn K C = true)
    (hi : PySem.W.findIn K (.ref C) "__init__" = some (some (.ref f))) (hf : PySem.W.typeIn K (.ref f) = some (.type "function"))
    (h : codeAny (model prog w) (A.under (.builtin "type.__call__" ⟨.ref C :: vs, kw⟩)) (.call (.ref f) ⟨.ref (s.heap.objs.size + 1) :: vs, kw⟩) (PySem.W.InitBack (s.heap.objs.size + 1) R)
      { s with heap := (s.heap.push PySem.W.emptyDict).push (PySem.W.instObj C s.heap.objs.size) }) :
    codeAny (model prog w) A (.call (.ref C) ⟨vs, kw⟩) R s := by
  obtain ⟨hh, g, d, t, os⟩ := s
  exact PySem.W.make_core (PySem.W.makes_of X hm) (PySem.W.looks_findIn X hi) (fun self => PySem.W.bind_fn X self hf) (.inl rfl) h
end
def putF (f : Str) (v : V) : List (Str × V) → List (Str × V)
  | [] => [(f, v)]
  | (g, x) :: r => if g = f then (g, v) :: r else (g, x) :: putF f v r
theorem lookup_putF (f g : Str) (v : V) : ∀ fs : List (Str × V), (putF f v fs).lookup g = if g = f then some v else fs.lookup g
  | [] => by
    show List.lookup g [(f, v)] = _
    by_cases h : g = f
    · have hb : (g == f) = true := beq_iff_eq.mpr h
      simp only [List.lookup, hb, if_pos h]
    · have hb : (g == f) = false := beq_eq_false_iff_ne.mpr h
      simp only [List.lookup, hb, if_neg h]
  | (k, x) :: r => by
    have ih := lookup_putF f g v r
    rw [show putF f v ((k, x) :: r) = (if k = f then (k, v) :: r else (k, x) :: putF f v r) from rfl]
    by_cases hk : k = f
    · rw [if_pos hk]
      by_cases h : g = k
      · have hb : (g == k) = true := beq_iff_eq.mpr h
        simp only [List.lookup, hb, if_pos (h.trans hk)]
      · have hb : (g == k) = false := beq_eq_false_iff_ne.mpr h
        simp only [List.lookup, hb, if_neg (fun e : g = f => h (e.trans hk.symm))]
    · rw [if_neg hk]
      by_cases h : g = k
      · have hb : (g == k) = true := beq_iff_eq.mpr h
        simp only [List.lookup, hb, if_neg (fun e : g = f => hk (h.symm.trans e))]
      · have hb : (g == k) = false := beq_eq_false_iff_ne.mpr h
        simp only [List.lookup, hb]
        exact ih
theorem keys_putF (f : Str) (v : V) : ∀ fs : List (Str × V), f ∈ (putF f v fs).map (·.1) ∧ ∀ g, g ∈ fs.map (·.1) → g ∈ (putF f v fs).map (·.1)
  | [] => ⟨by simp [putF], fun g h => by simp at h⟩
  | (k, x) :: r => by
    obtain ⟨i1, i2⟩ := keys_putF f v r
    rw [show putF f v ((k, x) :: r) = (if k = f then (k, v) :: r else (k, x) :: putF f v r) from rfl]
    by_cases hk : k = f
    · rw [if_pos hk]
      subst hk
      exact ⟨by simp, fun g h => by simpa using h⟩
    · rw [if_neg hk]
      refine ⟨?_, fun g h => ?_⟩
      · rw [List.map_cons]
        exact List.mem_cons_of_mem _ i1
      · rw [List.map_cons] at h ⊢
        rcases List.mem_cons.mp h with e | e
        · exact List.mem_cons.mpr (.inl e)
        · exact List.mem_cons_of_mem _ (i2 g e)
theorem length_putF (f : Str) (v : V) : ∀ fs : List (Str × V), (putF f v fs).length ≤ fs.length + 1
  | [] => by simp [putF]
  | (k, x) :: r => by
    have ih := length_putF f v r
    rw [show putF f v ((k, x) :: r) = (if k = f then (k, v) :: r else (k, x) :: putF f v r) from rfl]
    by_cases hk : k = f
    · rw [if_pos hk, List.length_cons, List.length_cons]; omega
    · rw [if_neg hk, List.length_cons, List.length_cons]; omega
theorem RelO.some_of {v : V} {o : Option Value} (r : RelO (some v) o) : ∃ u, o = some u ∧ RelV v u := by
  cases o with
  | none => exact (show False from r).elim
  | some u => exact ⟨u, rfl, r⟩
theorem RelO.none_of {o : Option Value} (r : RelO none o) : o = none := by
  cases o with
  | none => rfl
  | some u => exact (show False from r).elim
theorem handed_of {v : V} {u : Value} (r : RelV v u) : PySem.W.handedIn u = true := by
  cases v with
  | non => cases (show u = Value.none from r); rfl
  | bl b => cases (show u = Value.bool b from r); rfl
  | int i => obtain ⟨t, e⟩ := (show ∃ t, u = Value.int i t from r); cases e; rfl
  | str x => obtain ⟨t, e⟩ := (show ∃ t, u = Value.str x t from r); cases e; rfl
  | byt b => obtain ⟨t, e⟩ := (show ∃ t, u = Value.bytes b t from r); cases e; rfl
  | flt b => obtain ⟨t, e⟩ := (show ∃ t, u = Value.float b t from r); cases e; rfl
  | ref a => cases (show u = Value.ref a from r); rfl
  | ty n => cases (show u = Value.type n from r); rfl
section
variable {P : Program} {w : World} {H H' : Hp} {h h' : Heap} {a C dx : Addr} {fs fs' : List (Str × V)}
theorem ins_get (hok : HOk P w H h) (e : H a = some (.ins C dx fs)) : ∃ mA, ObjM h a dx C mA ∧ (∀ f, RelO (fs.lookup f) (mA f)) ∧ PySem.Within mA (fs.map (·.1)) ∧ fs.length ≤ 1000 ∧ H dx = some (.own a) := by
  obtain ⟨d, z, ne, ob, mA, n, r, q⟩ := (show ObjOk P w H h a (.ins C dx fs) from hok a _ e)
  exact ⟨mA, ⟨ob, n, ne⟩, r, q, z, d⟩
end
structure Cls (K : PySem.W.Frag) (C : Addr) : Prop where
  pg : PySem.W.plainGet K C Str.empty = true
  hd : PySem.W.hasDictIn K C = true
  po : PySem.W.plainOver K C = true
  sa : PySem.W.findIn K (.ref C) "__setattr__" = some (some (.builtin "object.__setattr__"))
theorem Cls.get {K : PySem.W.Frag} {C : Addr} (c : Cls K C) (f : Str) : PySem.W.plainGet K C f = true := c.pg
def NoAttr (K : PySem.W.Frag) (C : Addr) (f : Str) : Prop := PySem.W.findIn K (.ref C) f = some none
theorem NoAttr.taker {K : PySem.W.Frag} {C : Addr} {f : Str} (n : NoAttr K C f) : PySem.W.takerIn K C f = some none := by
  unfold PySem.W.takerIn
  rw [show PySem.W.findIn K (.ref C) f = some none from n]
  rfl
structure Con (K : PySem.W.Frag) (C : Addr) (f : Str) (v : V) (u : Value) : Prop where
  at_ : PySem.W.findIn K (.ref C) f = some (some u)
  rel : RelV v u
  get : PySem.W.specialIn K u "__get__" = some none
  cp : PySem.W.copiedNames.contains f = false
structure Meth (K : PySem.W.Frag) (C : Addr) (m : Str) (f : Addr) : Prop where
  at_ : PySem.W.findIn K (.ref C) m = some (some (.ref f))
  fn : PySem.W.isFn K (.ref f) = true
  kp : PySem.W.keepIn K (.ref f) = true
section
variable {X : Cx} {pins : List (Addr × Obj)} {σ : St} {H : Hp} {s : Shared} {a C dx : Addr} {fs : List (Str × V)} {f : Str} {v : V} {A : Around} {E : Value → Shared → Prop}
theorem getattr_ok {b : Bool} {Q : Value → Shared → Prop} (I : Inv X pins σ H s) (e : H a = some (.ins C dx fs)) (c : Cls X.K C) (n : NoAttr X.K C f) (l : fs.lookup f = some v)
    (h : ∀ u s', Inv X pins σ H s' → RelV v u → Q u s') : wpAny (model X.prog X.w) A (getAttr (.ref a) f b) Q E s := by
  obtain ⟨mA, O, r, _, _, _⟩ := ins_get I.hok e
  obtain ⟨u, hu, ru⟩ := RelO.some_of (v := v) (o := mA f) (by rw [← l]; exact r f)
  exact get_map I.kIn O (c.get f) c.hd n hu (handed_of ru) (h u _ (I.tok _) ru)
theorem getmeth_ok {m : Str} {g : Addr} {pl : Sem Bool} {Q : Value × List Value → Shared → Prop} (I : Inv X pins σ H s) (e : H a = some (.ins C dx fs)) (c : Cls X.K C) (k : Meth X.K C m g) (l : fs.lookup m = none)
    (h : Q (.ref g, [.ref a]) s) : wpAny (model X.prog X.w) A (getMethod (.ref a) m pl) Q E s := by
  obtain ⟨mA, O, r, _, _, _⟩ := ins_get I.hok e
  have hn : mA m = none := RelO.none_of (by rw [← l]; exact r m)
  exact get_meth I.kIn O (c.get m) k.at_ k.fn hn h
theorem setattr_ok {y : V} {u : Value} {Q : Unit → Shared → Prop} (I : Inv X pins σ H s) (e : H a = some (.ins C dx fs)) (c : Cls X.K C) (n : NoAttr X.K C f) (hl : fs.length < 1000) (ry : RelV y u)
    (h : ∀ s', Inv X pins σ (upd H a (.ins C dx (putF f y fs))) s' → Q () s') : wpAny (model X.prog X.w) A (setAttr (.ref a) f u) Q E s := by
  obtain ⟨mA, O, r, wi, _, ho⟩ := ins_get I.hok e
  have hz : (fs.map (·.1)).length ≤ sizeLine := by rw [List.length_map, sizeLine_eq]; omega
  refine set_map I.kIn O c.sa c.po n.taker c.hd wi hz fun h' O' sb => h _ ?_
  have hd : ∃ o, h'.get? dx = some o := let ⟨o, _, _, e', _⟩ := O'.ns; ⟨o, e'⟩
  refine I.write (x := a) (e := dx) (by rw [e]; exact True.intro) (.inr ho) (fun b q hb z => (sb.2 b hb).trans z) hd ?_
  refine ⟨by rw [upd_ne O.ne]; exact ho, ?_, O.ne, O'.obj, _, O'.ns, fun g => ?_, fun g hg => ?_⟩
  · have := length_putF f y fs; omega
  · show RelO ((putF f y fs).lookup g) (if g = f then some u else mA g)
    rw [lookup_putF]
    by_cases q : g = f
    · rw [if_pos q, if_pos q]; exact ry
    · rw [if_neg q, if_neg q]; exact r g
  · by_cases q : g = f
    · rw [q]; exact (keys_putF f y fs).1
    · refine (keys_putF f y fs).2 g (wi g fun z => hg ?_)
      show (if g = f then some u else mA g) = none
      rw [if_neg q]; exact z
theorem Inv.made (I : Inv X pins σ H s) : Inv X pins σ (upd (upd H s.heap.objs.size (.own (s.heap.objs.size + 1))) (s.heap.objs.size + 1) (.ins C s.heap.objs.size []))
    { s with heap := (s.heap.push PySem.W.emptyDict).push (PySem.W.instObj C s.heap.objs.size) } := by
  have e1 : (s.heap.push PySem.W.emptyDict).get? s.heap.objs.size = some PySem.W.emptyDict := Heap.get?_push_size s.heap rfl
  have e2 : ((s.heap.push PySem.W.emptyDict).push (PySem.W.instObj C s.heap.objs.size)).get? (s.heap.objs.size + 1) = some (PySem.W.instObj C s.heap.objs.size) := by
    have := Heap.get?_push_size (s.heap.push PySem.W.emptyDict) (o := PySem.W.instObj C s.heap.objs.size) rfl
    rwa [Heap.size_push] at this
  have e3 : (s.heap.push PySem.W.emptyDict).Ns s.heap.objs.size (fun _ => none) := ⟨PySem.W.emptyDict, #[], _, e1, rfl, (fun e he => absurd he (by simp)), fun _ => rfl⟩
  have I1 := I.laid (a := s.heap.objs.size) (o := .own (s.heap.objs.size + 1)) (h' := s.heap.push PySem.W.emptyDict) (t' := s.toks) (fun b u q => Heap.get?_push_of_some _ q) (Nat.le_refl _) ⟨_, e1⟩
  refine I1.laid (a := s.heap.objs.size + 1) (o := .ins C s.heap.objs.size []) (t' := s.toks) (fun b u q => Heap.get?_push_of_some _ q) (Nat.le_of_eq (Heap.size_push _ _)) ?_
  have ne : s.heap.objs.size ≠ s.heap.objs.size + 1 := Nat.ne_of_lt (Nat.lt_succ_self _)
  refine ⟨by rw [upd_ne ne, upd_same], Nat.zero_le _, ne, e2, fun _ => none, (Heap.Ns1.of_empty e3).at fun o q => Heap.get?_push_of_some _ q, fun _ => True.intro, fun y hy => absurd rfl hy⟩
theorem attr_of {prog : Program} {w : World} {env : Env} {e : Expr} {f : Str} {pos : Pos} {s : Shared} {Q : Value → Shared → Prop} (hb : attributeBase e f env (eval e env) = eval e env)
    (h : wpAny (model prog w) A (eval e env) (fun o s₁ => wpAny (model prog w) A (getAttr o f true) Q E s₁) E s) : wpAny (model prog w) A (eval (.Attribute e f pos) env) Q E s :=
  Attribute_any_ h (by rw [arm_eval_Attribute, hb])
end
def tFld (K : PySem.W.Frag) (ta : TE) (f : Str) : TE := fun σ H Q => ta σ H fun x H1 => ∃ a C dx fs v, x = .ref a ∧ H1 a = some (.ins C dx fs) ∧ Cls K C ∧ NoAttr K C f ∧ fs.lookup f = some v ∧ Q v H1
def sFld (K : PySem.W.Frag) (ta tv : TE) (f : Str) : TS := fun D σ H => tv σ H fun y H1 => ta σ H1 fun x H2 => ∃ a C dx fs, x = .ref a ∧ H2 a = some (.ins C dx fs) ∧ Cls K C ∧ NoAttr K C f ∧ fs.length < 1000 ∧
  D.nx σ (upd H2 a (.ins C dx (putF f y fs)))
section
variable {X : Cx} {o e value : Expr} {f : Str} {pos pos' tpos : Pos} {ta tv : TE}
theorem pe_fld (he : PE X e ta) (hb : attributeBase e f X.env (eval e X.env) = eval e X.env) : PE X (.Attribute e f pos) (tFld X.K ta f) := by
  intro pins s σ H Q I h
  refine attr_of hb (thn (he pins s σ H _ I h) fun u s1 ⟨x, H1, I1, rx, a, C, dx, fs, v, ex, ea, c, n, l, q⟩ => ?_)
  subst ex
  obtain rfl : u = Value.ref a := rx
  exact getattr_ok I1 ea c n l fun u' s2 I2 ru => ⟨v, H1, I2, ru, q⟩
theorem ps_fld (ha : PE X o ta) (hv : PE X value tv) (hs : swapsWith value (some (.Attribute o f pos')) pos.line X.env = pure false) : PS X (.Assign [.Attribute o f pos'] value pos) (sFld X.K ta tv f) := by
  intro pins s σ H D I h
  refine plainObj_wpAny_Assign_Attribute (thn (hv pins s σ H _ I h) fun u s1 ⟨y, H1, I1, ry, q⟩ => thn (ha pins s1 σ H1 _ I1 q) fun ov s2 ⟨x, H2, I2, rx, a, C, dx, fs, ex, ea, c, n, l, q2⟩ => ?_) hs
  subst ex
  obtain rfl : ov = Value.ref a := rx
  exact setattr_ok I2 ea c n l ry fun s3 I3 => ⟨σ, _, I3, q2⟩
end
section
variable {X : Cx} {pins : List (Addr × Obj)} {σ : St} {H : Hp} {s : Shared} {A : Around} {E : Value → Shared → Prop} {Q : Value → Shared → Prop} {c : Value} {b : Bool}
inductive TyOf (K : PySem.W.Frag) (H : Hp) : V → Value → Prop where
  | non : TyOf K H .non (.type "NoneType")
  | bl (x : Bool) : TyOf K H (.bl x) (.type "bool")
  | int (i : Int) : TyOf K H (.int i) (.type "int")
  | str (x : Str) : TyOf K H (.str x) (.type "str")
  | flt (x : UInt64) : TyOf K H (.flt x) (.type "float")
  | lst {a : Addr} {xs : List V} (e : H a = some (.lst xs)) : TyOf K H (.ref a) (.type "list")
  | frz {a : Addr} {o : Obj} {xs : List V} (e : H a = some (.frz o (.lst xs))) : TyOf K H (.ref a) (.type "list")
  | tup {a : Addr} {xs : List V} (e : H a = some (.tup xs)) : TyOf K H (.ref a) (.type "tuple")
  | dK {a : Addr} {kvs : List (Key × V)} (e : H a = some (.dK kvs)) : TyOf K H (.ref a) (.type "dict")
  | dT {a : Addr} {kvs : List (List Key × V)} (e : H a = some (.dT kvs)) : TyOf K H (.ref a) (.type "dict")
  | ins {a C dx : Addr} {fs : List (Str × V)} (e : H a = some (.ins C dx fs)) (cl : Cls K C) (ha : PySem.W.findIn K (.ref C) "__class__" = some (some (.builtin "object.__class__")))
      (hn : PySem.W.specialIn K (.builtin "object.__class__") "__get__" = some (some (.builtin "getset_descriptor.__get__"))) (htk : PySem.W.takesIn K (.builtin "object.__class__") = some true)
      (hm : PySem.W.mroIn K C (.type "object") = some true) : TyOf K H (.ref a) (.ref C)
end
end L2
namespace L2
open PySem PySem.Spec PyProof.Rows
structure Room (k : Nat) (A : Around) : Prop where
  hd : A.handled = none
  dp : A.depth + 3 * k + 5 < recursionLimit
  un : A.units + 16 * k + 200 < cLine
theorem Room.mono {j k : Nat} {A : Around} (r : Room k A) (h : j ≤ k) : Room j A := ⟨r.hd, by have := r.dp; omega, by have := r.un; omega⟩
theorem Room.deeper {k : Nat} {A : Around} (r : Room (k + 1) A) (env : Env) : Room k (A.deeper env) :=
  ⟨r.hd, by have := r.dp; show A.depth + 1 + 3 * k + 5 < _; omega, by have := r.un; show A.units + 3 + 16 * k + 200 < _; omega⟩
theorem make_depth {A : Around} {C : Addr} {us : List Value} {kw : List (Str × Value)} : (A.under (.builtin "type.__call__" ⟨.ref C :: us, kw⟩)).depth = A.depth + 1 := by
  first | rfl | simp [Around.under, Code.weight, Code.isCreation, Code.isGuard, Code.isCaller, Code.frames, Code.isFrame, guardIds]
theorem make_units {A : Around} {C : Addr} {us : List Value} {kw : List (Str × Value)} : (A.under (.builtin "type.__call__" ⟨.ref C :: us, kw⟩)).units = A.units + 1 := by
  first | rfl | simp [Around.under, Code.cUnits, Code.frames, Code.isFrame]
theorem Room.make {k : Nat} {A : Around} (r : Room (k + 1) A) (C : Addr) (us : List Value) (kw : List (Str × Value)) : Room k (A.under (.builtin "type.__call__" ⟨.ref C :: us, kw⟩)) :=
  ⟨r.hd, by have := r.dp; rw [make_depth]; omega, by have := r.un; rw [make_units]; omega⟩
theorem Room.depth {k : Nat} {A : Around} (r : Room k A) : A.depth < recursionLimit := by have := r.dp; omega
theorem Room.units {k : Nat} {A : Around} (r : Room k A) : A.units + 64 < cLine := by have := r.un; omega
def tNil : TA := fun _ H Q => Q [] H
def tCons (ta : TE) (tr : TA) : TA := fun σ H Q => ta σ H fun x H1 => tr σ H1 fun xs H2 => Q (x :: xs) H2
section
variable {X : Cx} {e : Expr} {es : List Expr} {te : TE} {t : TA} {pos : Pos}
theorem pa_nil : PA X [] tNil := fun _ _ _ _ H Q I h => Calls.spliced_nil ⟨[], H, I, .nil, h⟩
theorem pa_cons (ha : PE X e te) (hr : PA X es t) (hs : starEach (e :: es) X.env = (false, eval e X.env) :: starEach es X.env := by rfl) : PA X (e :: es) (tCons te t) := by
  intro pos pins s σ H Q I h
  rw [hs]
  show wpAny _ _ (spliced ((false, eval e X.env) :: backTo pos (starEach es X.env))) _ _ s
  refine Calls.spliced_cons (thn (ha pins s σ H _ I h) fun u s1 ⟨x, H1, I1, r1, q1⟩ => ?_)
  exact thn (hr pos pins s1 σ H1 _ I1 q1) fun us s2 ⟨xs, H2, I2, r2, q2⟩ => ⟨x :: xs, H2, I2, .cons r1 r2, q2⟩
def tLst (t : TA) : TE := fun σ H Q => t σ H fun xs H1 => xs.length ≤ sizeLine ∧ ∀ p, H1 p = none → Q (.ref p) (upd H1 p (.lst xs))
theorem pe_lst (h : PA X es t) : PE X (.List es pos) (tLst t) := by
  intro pins s σ H Q I hq
  refine wpAny_List_spliced (thn (h pos pins s σ H _ I hq) fun us s1 ⟨xs, H1, I1, r, z, q⟩ => ⟨by rw [← r.length]; exact z, ?_⟩)
  have hf : H1 s1.heap.objs.size = none := I1.hok.fresh (Nat.le_refl _)
  refine ⟨.ref s1.heap.objs.size, upd H1 s1.heap.objs.size (.lst xs), I1.laid (t' := s1.toks) (fun b u e => Heap.get?_push_of_some _ e) (Nat.le_refl _) ?_, rfl, q _ hf⟩
  exact ⟨z, us, 0, r, Heap.get?_push_size _ rfl⟩
end
abbrev Sp := List V → Hp → VK → XK → Prop
abbrev CXT := List Env → Hp → Shared → XK → Value → Shared → Prop
structure Env0 (P : Program) (w : World) (K : PySem.W.Frag) (mg : Str → Option Value) (base : Heap) (A : Around) (outer : List Env) (s : Shared) (H : Hp) : Prop where
  frames : A.frames = some outer
  mod : Mod K mg base
  bs : ∀ b o, base.get? b = some o → s.heap.get? b = some o ∧ H b = none
  bsz : base.objs.size ≤ s.heap.objs.size
  funs : s.heap.FunFrames base outer
  frf : ∀ b ∈ frs outer, H b = none
  hok : HOk P w H s.heap
  bare : AllBare s.gens
def CE (outer : List Env) (P : Program) (w : World) (H : Hp) (s : Shared) (Q : VK) (u : Value) (s' : Shared) : Prop :=
  ∃ v H', s'.os = s.os ∧ AllBare s'.gens ∧ Un (frs outer) [] H H' s.heap s'.heap ∧ HOk P w H' s'.heap ∧ RelV v u ∧ Q v H'
def CR (CX : CXT) (outer : List Env) (P : Program) (w : World) (H : Hp) (s : Shared) (Q : VK) (E : XK) (r : Result) (s' : Shared) : Prop :=
  match r with
  | .ok (.ret u) => CE outer P w H s Q u s'
  | .ok _ => False
  | .error e => CX outer H s E e s'
structure FnOk (P : Program) (w : World) (K : PySem.W.Frag) (mg : Str → Option Value) (base : Heap) (CX : CXT) (k : Nat) (f : Addr) (fd : FuncData) (ps : List Str) (sp : Sp) : Prop where
  len : ∀ vs H Q E, sp vs H Q E → vs.length = ps.length
  run : ∀ (A : Around) (outer : List Env) (s : Shared) (H : Hp) (args : Args) (us : List Value) (vs : List V) (Q : VK) (E : XK), Room k A → Env0 P w K mg base A outer s H → BindsTo s fd args (ps.zip us) → Vals vs us → sp vs H Q E →
    codeAny (model P w) A (.call (.ref f) args) (CR CX outer P w H s Q E) s
theorem Env0.make {P : Program} {w : World} {K : PySem.W.Frag} {mg : Str → Option Value} {base : Heap} {A : Around} {outer : List Env} {s : Shared} {H : Hp} (e : Env0 P w K mg base A outer s H) (C : Addr) (us : List Value) (kw : List (Str × Value)) :
    Env0 P w K mg base (A.under (.builtin "type.__call__" ⟨.ref C :: us, kw⟩)) outer s H := ⟨by first | exact e.frames | (simpa [Around.under, Code.envs, Code.isFrame, pushEnvs] using e.frames), e.mod, e.bs, e.bsz, e.funs, e.frf, e.hok, e.bare⟩
section
variable {X : Cx} {pins : List (Addr × Obj)} {σ : St} {H : Hp} {s s' : Shared}
theorem Inv.env0 (I : Inv X pins σ H s) : Env0 X.prog X.w X.K X.mg X.base X.A X.stack s H :=
  ⟨I.ok.frames, I.ok.mod, I.bs, Nat.le_trans I.ok.bsz I.sz, I.stack, I.stkFree, I.hok, I.bare⟩
theorem Inv.after {Q : VK} {u : Value} (I : Inv X pins σ H s) (h : CE X.stack X.prog X.w H s Q u s') : EP X pins σ Q u s' := by
  obtain ⟨v, H', os, bare, un, hok, r, q⟩ := h
  obtain ⟨hh, g, d, t, os'⟩ := s'
  obtain rfl : os' = s.os := os
  exact ⟨v, H', I.call (h' := hh) (g' := g) (d' := d) (t' := t) (ch := []) un hok bare (fun b z => absurd z (by simp)), r, q⟩
end
def tCall (sp : Sp) (dvs : List V) (E : XK) (t : TA) : TE := fun σ H Q => t σ H fun vs H1 => sp (vs ++ dvs) H1 Q E
def tMeth (C : Addr) (m : Str) (sp : Sp) (dvs : List V) (E : XK) (ta : TE) (t : TA) : TE := fun σ H Q => ta σ H fun x H1 => ∃ a dx fs, x = .ref a ∧ H1 a = some (.ins C dx fs) ∧ fs.lookup m = none ∧
  t σ H1 fun vs H2 => sp (x :: (vs ++ dvs)) H2 Q E
def tMake (C : Addr) (sp : Sp) (dvs : List V) (E : XK) (t : TA) : TE := fun σ H Q => t σ H fun vs H1 => ∀ x dx, H1 x = none → H1 dx = none → dx ≠ x →
  sp (.ref x :: (vs ++ dvs)) (upd (upd H1 dx (.own x)) x (.ins C dx [])) (fun v H2 => v = .non ∧ Q (.ref x) H2) E
def Binds (K : PySem.W.Frag) (fd : FuncData) (ps : List Str) (ds : List Value) : Prop :=
  ∀ (s : Shared) (us : List Value), K.In s.heap → (us ++ ds).length = ps.length → BindsTo s fd ⟨us, []⟩ (ps.zip (us ++ ds))
theorem Binds.all {K : PySem.W.Frag} {fd : FuncData} {ps : List Str} (h : ∀ us : List Value, us.length = ps.length → bindArgs fd ⟨us, []⟩ = pure (ps.zip us)) : Binds K fd ps [] := fun s us _ hl => by
  rw [List.append_nil] at hl ⊢
  exact .of_eq (h us hl)
def Passes (CX : CXT) (X : Cx) (E : XK) : Prop := ∀ (pins : List (Addr × Obj)) (σ : St) (H : Hp) (s : Shared) (e : Value) (s' : Shared), Inv X pins σ H s → CX X.stack H s E e s' → X.xe e s'
section
variable {X : Cx} {CX : CXT} {k : Nat} {f C : Addr} {fd : FuncData} {ps : List Str} {sp : Sp} {dvs : List V} {ds : List Value} {E : XK} {x m : Str} {p pos apos : Pos} {e o : Expr} {es : List Expr} {ta : TE} {t : TA}
theorem run_fn {pins : List (Addr × Obj)} {σ : St} {H : Hp} {s : Shared} {Q : VK} {us : List Value} {vs : List V} (F : FnOk X.prog X.w X.K X.mg X.base CX k f fd ps sp) (hr : Room k X.A) (hb : Binds X.K fd ps ds) (hd : Vals dvs ds) (hx : Passes CX X E)
    (I : Inv X pins σ H s) (r : Vals vs us) (h : sp (vs ++ dvs) H Q E) : wpAny (model X.prog X.w) X.A (call (.ref f) us) (EP X pins σ Q) X.xe s := by
  have r2 : Vals (vs ++ dvs) (us ++ ds) := r.append hd
  have hl : (us ++ ds).length = ps.length := by rw [← r2.length]; exact F.len _ _ _ _ h
  refine wpAny_call (codeAny_mono (F.run X.A X.stack s H ⟨us, []⟩ (us ++ ds) (vs ++ dvs) Q E hr I.env0 (hb s us I.kIn hl) r2 h) fun r s' hq => ?_)
  cases r with
  | error e => exact hx pins σ H s e s' I hq
  | ok fl =>
    cases fl with
    | ret u => exact I.after hq
    | next => exact False.elim hq
    | brk => exact False.elim hq
    | cont => exact False.elim hq
theorem pe_call (F : FnOk X.prog X.w X.K X.mg X.base CX k f fd ps sp) (hr : Room k X.A) (hg : Gl X x) (hm : X.mg x = some (.ref f)) (hk : PySem.W.keepIn X.K (.ref f) = true) (hb : Binds X.K fd ps ds) (hd : Vals dvs ds) (hx : Passes CX X E)
    (ha : PA X (e :: es) t) (hdb : (x == ("__debug__" : Str)) = false := by decide) (he : starEach (e :: es) X.env = (false, eval e X.env) :: starEach es X.env := by rfl) (hpl : (backTo pos (starEach es X.env)).any (·.1) = false := by rfl) :
    PE X (.Call (.Name x p) (e :: es) [] pos) (tCall sp dvs E t) := by
  intro pins s σ H Q I h
  refine wpAny_Call_Name_kw (ld_glob I hg hm ?_ hdb)
  refine PySem.W.callWith_K (h₀ := X.base) I.ok.mod.kin hk (thn (ha pos pins s σ H _ I h) fun us s1 ⟨vs, H1, I1, r, q⟩ => ⟨I1.kIn, ?_⟩) he hpl
  exact run_fn F hr hb hd hx I1 r q
theorem pe_meth {pl : Sem Bool} (he : PE X o ta) (c : Cls X.K C) (hm : Meth X.K C m f) (F : FnOk X.prog X.w X.K X.mg X.base CX k f fd ps sp) (hr : Room k X.A) (hb : Binds X.K fd ps ds) (hd : Vals dvs ds) (hx : Passes CX X E) (ha : PA X (e :: es) t)
    (hst : starEach (e :: es) X.env = (false, eval e X.env) :: starEach es X.env := by rfl) (hpl : (backTo pos (starEach es X.env)).any (·.1) = false := by rfl)
    (ht : eval (.Call (.Attribute o m apos) (e :: es) [] pos) X.env = (do
      let ov ← eval o X.env
      standAt apos.atName
      let (f, first) ← holding [ov] (getMethod ov m pl)
      callWith pos f first (backTo pos (starEach (e :: es) X.env)) (backToKw pos (keywordEach [] X.env))) := by rfl) :
    PE X (.Call (.Attribute o m apos) (e :: es) [] pos) (tMeth C m sp dvs E ta t) := by
  intro pins s σ H Q I h
  refine PySem.W.methodCall_KW (pl := pl) (thn (he pins s σ H _ I h) fun u s1 ⟨x, H1, I1, rx, a, dx, fs, ex, ea, l, q⟩ => ?_) ht
  subst ex
  obtain rfl : u = Value.ref a := rx
  refine getmeth_ok I1 ea c hm l ?_
  refine PySem.W.callWith_K (first := [.ref a]) (h₀ := X.base) I.ok.mod.kin hm.kp (thn (ha pos pins s1 σ H1 _ I1 q) fun us s2 ⟨vs, H2, I2, r, q2⟩ => ⟨I2.kIn, ?_⟩) hst hpl
  exact run_fn (us := .ref a :: us) (vs := .ref a :: vs) F hr hb hd hx I2 (.cons rfl r) q2
theorem pe_meth0 {pl : Sem Bool} (he : PE X o ta) (c : Cls X.K C) (hm : Meth X.K C m f) (F : FnOk X.prog X.w X.K X.mg X.base CX k f fd ps sp) (hr : Room k X.A) (hb : Binds X.K fd ps ds) (hd : Vals dvs ds) (hx : Passes CX X E)
    (ht : eval (.Call (.Attribute o m apos) [] [] pos) X.env = (do
      let ov ← eval o X.env
      standAt apos.atName
      let (f, first) ← holding [ov] (getMethod ov m pl)
      callWith pos f first (backTo pos (starEach [] X.env)) (backToKw pos (keywordEach [] X.env))) := by rfl) :
    PE X (.Call (.Attribute o m apos) [] [] pos) (tMeth C m sp dvs E ta tNil) := by
  intro pins s σ H Q I h
  refine PySem.W.methodCall_KW (pl := pl) (thn (he pins s σ H _ I h) fun u s1 ⟨x, H1, I1, rx, a, dx, fs, ex, ea, l, q⟩ => ?_) ht
  subst ex
  obtain rfl : u = Value.ref a := rx
  refine getmeth_ok I1 ea c hm l ?_
  exact PySem.W.callWith_K0 (first := [.ref a]) I1.kIn hm.kp (run_fn (us := [.ref a]) (vs := [.ref a]) F hr hb hd hx I1 (.cons rfl .nil) q)
structure Mk (K : PySem.W.Frag) (C f : Addr) : Prop where
  makes : PySem.W.makesIn K C = true
  init : PySem.W.findIn K (.ref C) "__init__" = some (some (.ref f))
  fn : PySem.W.isFn K (.ref f) = true
  kp : PySem.W.keepIn K (.ref C) = true
theorem run_make {pins : List (Addr × Obj)} {σ : St} {H : Hp} {s : Shared} {Q : VK} {us : List Value} {vs : List V} (M : Mk X.K C f) (F : FnOk X.prog X.w X.K X.mg X.base CX k f fd ps sp) (hr : Room (k + 1) X.A) (hb : Binds X.K fd ps ds) (hd : Vals dvs ds)
    (hx : Passes CX X E) (I : Inv X pins σ H s) (r : Vals vs us)
    (h : ∀ x dx, H x = none → H dx = none → dx ≠ x → sp (.ref x :: (vs ++ dvs)) (upd (upd H dx (.own x)) x (.ins C dx [])) (fun v H2 => v = .non ∧ Q (.ref x) H2) E) :
    wpAny (model X.prog X.w) X.A (call (.ref C) us) (EP X pins σ Q) X.xe s := by
  have hq := h (s.heap.objs.size + 1) s.heap.objs.size (I.hok.fresh (Nat.le_succ _)) (I.hok.fresh (Nat.le_refl _)) (Nat.ne_of_lt (Nat.lt_succ_self _))
  have I2 := Inv.made (C := C) I
  have r2 : Vals (V.ref (s.heap.objs.size + 1) :: (vs ++ dvs)) (Value.ref (s.heap.objs.size + 1) :: (us ++ ds)) := .cons rfl (r.append hd)
  have hl : (Value.ref (s.heap.objs.size + 1) :: us ++ ds).length = ps.length := by
    have e := r2.length
    rw [F.len _ _ _ _ hq] at e
    exact e.symm
  refine wpAny_call (make_map (f := f) I.kIn M.makes M.init (beq_iff_eq.mp M.fn) (codeAny_mono (F.run _ X.stack _ _ ⟨Value.ref (s.heap.objs.size + 1) :: us, []⟩ (Value.ref (s.heap.objs.size + 1) :: (us ++ ds)) _ _ E (hr.make C us [])
    (I2.env0.make C us []) (hb _ (Value.ref (s.heap.objs.size + 1) :: us) I2.kIn hl) r2 hq) fun r s' hq' => ?_))
  cases r with
  | error e => exact hx pins σ _ _ e s' I2 hq'
  | ok fl =>
    cases fl with
    | ret u =>
      obtain ⟨v, H', I3, rv, ev, q3⟩ := I2.after hq'
      subst ev
      exact ⟨rv, ⟨V.ref (s.heap.objs.size + 1), H', I3, rfl, q3⟩⟩
    | next => exact False.elim hq'
    | brk => exact False.elim hq'
    | cont => exact False.elim hq'
theorem pe_make (M : Mk X.K C f) (F : FnOk X.prog X.w X.K X.mg X.base CX k f fd ps sp) (hr : Room (k + 1) X.A) (hg : Gl X x) (hm : X.mg x = some (.ref C)) (hb : Binds X.K fd ps ds) (hd : Vals dvs ds) (hx : Passes CX X E)
    (ha : PA X (e :: es) t) (hdb : (x == ("__debug__" : Str)) = false := by decide) (he : starEach (e :: es) X.env = (false, eval e X.env) :: starEach es X.env := by rfl) (hpl : (backTo pos (starEach es X.env)).any (·.1) = false := by rfl) :
    PE X (.Call (.Name x p) (e :: es) [] pos) (tMake C sp dvs E t) := by
  intro pins s σ H Q I h
  refine wpAny_Call_Name_kw (ld_glob I hg hm ?_ hdb)
  refine PySem.W.callWith_K (h₀ := X.base) I.ok.mod.kin M.kp (thn (ha pos pins s σ H _ I h) fun us s1 ⟨vs, H1, I1, r, q⟩ => ⟨I1.kIn, ?_⟩) he hpl
  exact run_make M F hr hb hd hx I1 r q
end
section
variable {X : Cx} {CX : CXT} {k : Nat} {f C : Addr} {fd : FuncData} {ps ks : List Str} {sp : Sp} {E : XK} {x m : Str} {p pos apos kpos : Pos} {e o : Expr} {es : List Expr} {kws : List Keyword} {te ta : TE} {t tk : TA} {nm : Option Str}
structure KBinds (K : PySem.W.Frag) (fd : FuncData) (ps ks : List Str) (g : List Value → List Value → List Value) (gV : List V → List V → List V) : Prop where
  to : ∀ (s : Shared) (us ws : List Value), K.In s.heap → (g us ws).length = ps.length → BindsTo s fd ⟨us, ks.zip ws⟩ (ps.zip (g us ws))
  rel : ∀ {vs : List V} {us : List Value} {zs : List V} {ws : List Value}, Vals vs us → Vals zs ws → Vals (gV vs zs) (g us ws)
variable {g : List Value → List Value → List Value} {gV : List V → List V → List V}
end
structure FnScope (N P : List Str) (sc : Scope) : Prop where
  kind : sc.kind = .function
  co : sc.isCoroutine = false
  gen : sc.isGenerator = false
  nd : N.Nodup
  pre : N.take P.length = P
  par : ∀ x ∈ P, sc.names.lookup x = some .local ∨ sc.names.lookup x = some .cell
  nofree : ∀ y ∈ sc.names, y.2 ≠ .free
theorem bindL_out {kindOf : Str → Option NameKind} {x : Str} : ∀ {binds : List (Str × Value)} {m : Str → Option Value}, (∀ v, (x, v) ∉ binds) → bindL kindOf binds m x = m x
  | [], _, _ => rfl
  | (n, v) :: r, m, h => by
    unfold bindL
    rw [bindL_out fun w hw => h w (List.mem_cons_of_mem _ hw)]
    split
    · have : x ≠ n := by rintro rfl; exact h v List.mem_cons_self
      simp [this]
    · rfl
theorem bindC_out {kindOf : Str → Option NameKind} {x : Str} : ∀ {binds : List (Str × Value)} {m : Str → Option Value}, (∀ v, (x, v) ∉ binds) → bindC kindOf binds m x = m x
  | [], _, _ => rfl
  | (n, v) :: r, m, h => by
    unfold bindC
    rw [bindC_out fun w hw => h w (List.mem_cons_of_mem _ hw)]
    split
    · rfl
    · have : x ≠ n := by rintro rfl; exact h v List.mem_cons_self
      simp [this]
theorem bindL_get {kindOf : Str → Option NameKind} {x : Str} {v : Value} : ∀ {P : List Str} {vs : List Value} {i : Nat} {m : Str → Option Value}, P.Nodup → P[i]? = some x → vs[i]? = some v → kindOf x = some .local →
    bindL kindOf (P.zip vs) m x = some v
  | [], _, _, _, _, h, _, _ => by simp at h
  | _ :: _, [], _, _, _, _, h, _ => by simp at h
  | p :: P, w :: vs, 0, m, nd, h1, h2, hk => by
    simp at h1 h2; subst h1; subst h2
    show bindL kindOf ((p, w) :: P.zip vs) m p = _
    unfold bindL
    rw [bindL_out fun v hv => (List.nodup_cons.mp nd).1 (List.of_mem_zip hv).1, if_pos hk]
    simp
  | p :: P, w :: vs, i + 1, m, nd, h1, h2, hk => by
    show bindL kindOf ((p, w) :: P.zip vs) m x = _
    unfold bindL
    exact bindL_get (i := i) (List.nodup_cons.mp nd).2 (by simpa using h1) (by simpa using h2) hk
theorem bindC_get {kindOf : Str → Option NameKind} {x : Str} {v : Value} : ∀ {P : List Str} {vs : List Value} {i : Nat} {m : Str → Option Value}, P.Nodup → P[i]? = some x → vs[i]? = some v → kindOf x ≠ some .local →
    bindC kindOf (P.zip vs) m x = some v
  | [], _, _, _, _, h, _, _ => by simp at h
  | _ :: _, [], _, _, _, _, h, _ => by simp at h
  | p :: P, w :: vs, 0, m, nd, h1, h2, hk => by
    simp at h1 h2; subst h1; subst h2
    show bindC kindOf ((p, w) :: P.zip vs) m p = _
    unfold bindC
    rw [bindC_out fun v hv => (List.nodup_cons.mp nd).1 (List.of_mem_zip hv).1, if_neg hk]
    simp
  | p :: P, w :: vs, i + 1, m, nd, h1, h2, hk => by
    show bindC kindOf ((p, w) :: P.zip vs) m x = _
    unfold bindC
    exact bindC_get (i := i) (List.nodup_cons.mp nd).2 (by simpa using h1) (by simpa using h2) hk
def start (N : List Str) (vs : List V) : St := vs.map some ++ List.replicate (N.length - vs.length) none
def cxOf (CX : CXT) (P : Program) (w : World) (K : PySem.W.Frag) (mg : Str → Option Value) (base : Heap) (N : List Str) (qual : Str) (scope : Scope) (f : Addr) (cd : Value) (A : Around) (outer : List Env) (s : Shared) (H : Hp) (E : XK) : Cx where
  prog := P
  w := w
  K := K
  mg := mg
  base := base
  A := A.deeper (envOfC qual scope s.heap.objs.size f cd)
  N := N
  s_0 := s
  H_0 := H
  env := envOfC qual scope s.heap.objs.size f cd
  outer := outer
  stack := envOfC qual scope s.heap.objs.size f cd :: outer
  ex := []
  calm := true
  fn := fun _ => true
  pn := []
  xe := fun e s' => wpAny (model P w) (A.deeper (envOfC qual scope s.heap.objs.size f cd)) (leaving (envOfC qual scope s.heap.objs.size f cd) e) (fun _ s'' => CX outer H s E e s'') (fun e' s'' => CX outer H s E e' s'') s'
theorem cell_has {sc : Scope} {n : Nat} {x : Str} (h : sc.names.lookup x = some .cell) : ∃ c, (cellsFrom n sc.names []).lookup x = some c := by
  have q := PySem.W.cellsFrom_some sc.names n [] (.inl h)
  exact Option.isSome_iff_exists.mp q
theorem inv_start {CX : CXT} {P : Program} {w : World} {K : PySem.W.Frag} {mg : Str → Option Value} {base : Heap} {N ps : List Str} {qual : Str} {scope : Scope} {f : Addr} {cd : Value} {A : Around} {outer : List Env} {s s1 : Shared} {H : Hp} {E : XK} {us : List Value} {vs : List V}
    (S : FnScope N ps scope) (hd : A.handled = none) (e0 : Env0 P w K mg base A outer s H) (hl : vs.length = ps.length) (r : Vals vs us)
    (x : InCallC s s.heap.objs.size (bindL (envOfC qual scope s.heap.objs.size f cd).kindOf (ps.zip us) fun _ => none) (cellsFrom (s.heap.objs.size + 1) scope.names []) (bindC (envOfC qual scope s.heap.objs.size f cd).kindOf (ps.zip us) fun _ => none) s1) :
    Inv (cxOf CX P w K mg base N qual scope f cd A outer s H E) [] (start N vs) H s1 := by
  have hpl : ps.length ≤ N.length := by have := congrArg List.length S.pre; rw [List.length_take] at this; omega
  obtain ⟨h1, tk, rfl, hk⟩ := x.done
  have noA : ∀ b : Addr, b ∉ (cxOf CX P w K mg base N qual scope f cd A outer s H E).ex := fun b z => absurd (show b ∈ ([] : List Addr) from z) (by simp)
  refine ⟨⟨e0.mod, S.kind, rfl, rfl, Nat.le_refl _, fun y z c h1 h2 => ?_, fun y hy => ?_, fun y c _ h => ?_, fun _ => hd, Around.frames_deeper e0.frames, .inr ⟨rfl, rfl⟩, fun b z => absurd z (noA b), e0.bs, e0.bsz, fun b _ _ => noA b, fun b z => absurd z (noA b), e0.funs, e0.frf⟩,
    rfl, e0.bare, Un.kept hk, ⟨_, x.toInCall.ns, fun i y v h1 h2 h3 => ?_⟩, fun y c h => ⟨_, x.cell y c h⟩, e0.hok.fresh (Nat.le_refl _), fun y c h => ?_, fun p hp => absurd (show p ∈ ([] : List (Addr × Obj)) from hp) (by simp), e0.hok.kept hk, ?_⟩
  · exact name_of_addr x.apart (PySem.mem_of_lookup h1) (PySem.mem_of_lookup h2)
  · have hy : scope.names.lookup y = some .cell ∨ scope.names.lookup y = some .free := hy
    rcases hy with hy | hy
    · exact cell_has hy
    · exact absurd rfl (S.nofree _ (PySem.mem_of_lookup hy))
  · exact Nat.le_of_lt (x.above y c (PySem.mem_of_lookup h))
  · have hi : i < vs.length := by
      unfold start at h2
      by_cases hi : i < vs.length
      · exact hi
      · rw [List.getElem?_append_right (by simpa using hi)] at h2
        rw [List.getElem?_replicate] at h2
        split at h2 <;> cases h2
    have ha : vs[i]? = some v := by
      unfold start at h2
      rw [List.getElem?_append_left (by simpa using hi), List.getElem?_map] at h2
      cases e : vs[i]? with
      | none => rw [e] at h2; cases h2
      | some a => rw [e] at h2; cases h2; rfl
    obtain ⟨u, hu, rv⟩ := r.get ha
    have hp : ps[i]? = some y := by
      rw [← S.pre, List.getElem?_take_of_lt (by omega)]; exact h1
    have ndP : ps.Nodup := by rw [← S.pre]; exact S.nd.sublist (List.take_sublist _ _)
    refine ⟨u, rv, ?_⟩
    rcases S.par y (List.mem_of_getElem? hp) with k | k
    · exact .inl ⟨k, bindL_get ndP hp hu k⟩
    · obtain ⟨c, e⟩ := cell_has (n := s.heap.objs.size + 1) k
      refine .inr ⟨.inl k, c, e, ?_⟩
      have q := x.cell y c e
      rw [bindC_get ndP hp hu (by show scope.names.lookup y ≠ _; rw [k]; decide)] at q
      exact q
  · exact e0.hok.fresh (Nat.le_of_lt (x.above y c (PySem.mem_of_lookup h)))
  · unfold start
    show _ = N.length
    rw [List.length_append, List.length_map, List.length_replicate]
    omega
theorem fn_of {CX : CXT} {P : Program} {w : World} {K : PySem.W.Frag} {mg : Str → Option Value} {base : Heap} {k : Nat} {f : Addr} {name qual : Str} {params : Arguments} {body : List Stmt} {scope : Scope} {dV kV doc pm cdv ct oc : Value} {an od : Option Addr}
    {osl : Array (Option Value)} {N ps : List Str} {sp : Sp} (lk : K.lookup f = some ⟨oc, od, .func (PySem.W.fnOf name qual params body scope dV kV doc pm an cdv ct), osl⟩) (hcd : PySem.W.codeIn K cdv qual = true) (S : FnScope N ps scope)
    (len : ∀ vs H Q E, sp vs H Q E → vs.length = ps.length)
    (hbody : ∀ (A : Around) (outer : List Env) (s : Shared) (H : Hp) (vs : List V) (Q : VK) (E : XK), Room k (A.deeper (envOfC qual scope s.heap.objs.size f cdv)) → sp vs H Q E →
      ∃ t, PSs (cxOf CX P w K mg base N qual scope f cdv A outer s H E) body t ∧ t { nx := fun _ H' => Q .non H', rt := Q } (start N vs) H) :
    FnOk P w K mg base CX (k + 1) f (PySem.W.fnOf name qual params body scope dV kV doc pm an cdv ct) ps sp := by
  refine ⟨len, fun A outer s H args us vs Q E hr e0 hb r hsp => ?_⟩
  have hl := len _ _ _ _ hsp
  have KX : K.In s.heap := e0.mod.kin.keeps fun b o e => (e0.bs b o e).1
  have lim : s.heap.NoLimit := e0.mod.nolimit.keeps fun b o e => (e0.bs b o e).1
  have hkind : ∀ y ∈ ps.zip us, scope.names.lookup y.1 = some .local ∨ (scope.names.lookup y.1 = some .cell ∧ ((cellsFrom (s.heap.objs.size + 1) scope.names []).lookup y.1).isSome = true) := fun ⟨n, v⟩ hy => by
    rcases S.par n (List.of_mem_zip hy).1 with q | q
    · exact .inl q
    · exact .inr ⟨q, PySem.W.cellsFrom_some _ _ _ (.inl q)⟩
  refine codeAny_call_function hr.depth (KX _ _ lk) rfl S.co S.gen rfl (PySem.W.codeRec_of KX hcd) (hb _ _ _ _ ?_)
  refine wpAny_newFunctionEnv_cells S.kind hkind fun env he s1 x => ?_
  subst he
  refine ⟨lim.keeps x.toInCall.keep, codeAny_func ?_⟩
  obtain ⟨t, ht, hq⟩ := hbody A outer s H vs Q E (hr.deeper _) hsp
  have I : Inv (cxOf CX P w K mg base N qual scope f cdv A outer s H E) [] (start N vs) H s1 := inv_start S hr.hd e0 hl r x
  refine wpAny_mono (ht [] s1 (start N vs) H _ I hq) (fun fl s' hs => ?_) fun e s' hs => hs
  have fin : ∀ {σ' : St} {H' : Hp} {v : V} {u : Value}, Inv (cxOf CX P w K mg base N qual scope f cdv A outer s H E) [] σ' H' s' → RelV v u → Q v H' → CE outer P w H s Q u s' :=
    fun {σ' H' v u} J rv q => ⟨v, H', J.os, J.bare, J.base, J.hok, rv, q⟩
  cases fl with
  | ret u =>
    obtain ⟨v, σ', H', J, rv, q⟩ := hs
    exact fin J rv q
  | next =>
    obtain ⟨σ', H', J, q⟩ := hs
    exact fin (v := V.non) (u := Value.none) J rfl q
  | brk =>
    obtain ⟨_, _, _, q⟩ := hs
    exact False.elim q
  | cont =>
    obtain ⟨_, _, _, q⟩ := hs
    exact False.elim q
end L2
namespace L2
open PySem PySem.Spec PyProof.Rows
section
variable {X : Cx} {x : Str} {p pos : Pos} {e : Expr} {es : List Expr} {t : TA} {id T : String} {r : List V → Hp → VK → Prop}
def tCB (r : List V → Hp → VK → Prop) (t : TA) : TE := fun σ H Q => t σ H fun vs H1 => r vs H1 Q
theorem pe_callB (hc : CallR X (.builtin id) r) (hg : Gl X x) (hm : X.mg x = none) (hv : bootBuiltins x = some (.builtin id)) (ha : PA X (e :: es) t) (hn : x ≠ "__name__" := by decide) (hdb : (x == ("__debug__" : Str)) = false := by decide)
    (he : starEach (e :: es) X.env = (false, eval e X.env) :: starEach es X.env := by rfl) (hpl : (backTo pos (starEach es X.env)).any (·.1) = false := by rfl) : PE X (.Call (.Name x p) (e :: es) [] pos) (tCB r t) := by
  intro pins s σ H Q I h
  refine wpAny_Call_Name_kw (ld_blt I hg hm hv ?_ hn hdb)
  exact PyProof.Rows.callWith_builtin1 (thn (ha pos pins s σ H _ I h) fun us s1 ⟨vs, H1, I1, r1, q1⟩ => hc pins s1 σ H1 vs us Q I1 r1 q1) he hpl
theorem pe_callTy (hc : CallR X (.type T) r) (hg : Gl X x) (hm : X.mg x = none) (hv : bootBuiltins x = some (.type T)) (ha : PA X (e :: es) t) (hn : x ≠ "__name__" := by decide) (hdb : (x == ("__debug__" : Str)) = false := by decide)
    (he : starEach (e :: es) X.env = (false, eval e X.env) :: starEach es X.env := by rfl) (hpl : (backTo pos (starEach es X.env)).any (·.1) = false := by rfl) : PE X (.Call (.Name x p) (e :: es) [] pos) (tCB r t) := by
  intro pins s σ H Q I h
  refine wpAny_Call_Name_kw (ld_blt I hg hm hv ?_ hn hdb)
  exact PyProof.Rows.callWith_type1 (thn (ha pos pins s σ H _ I h) fun us s1 ⟨vs, H1, I1, r1, q1⟩ => hc pins s1 σ H1 vs us Q I1 r1 q1) he hpl
end
end L2
namespace HT
open PySem PyProof.Rows
section
open PySem.SeqAt
open PySem.AutoSeq1 (wpAny_loadPart')
open PySem.MeetsSeq PySem.MeetsSeq2 PySem.MeetsSeq3
end
section
variable {prog : Program} {w : World} {A : Around} {E : Value → Shared → Prop} {s : Shared}
def sIx (n d : Nat) : Option Int → Nat
  | none => d
  | some v => if v < 0 then (v + (n : Int)).toNat else min v.toNat n
theorem sIx_nat (n d k : Nat) : sIx n d (some (k : Int)) = min k n := by
  show (if (k : Int) < 0 then ((k : Int) + (n : Int)).toNat else min (k : Int).toNat n) = min k n
  rw [if_neg (by omega), Int.toNat_natCast]
end
end HT
namespace L2
open PySem PySem.Spec PyProof.Rows
abbrev TO := St → Hp → (Option Int → Hp → Prop) → Prop
def PO (X : Cx) (e : Option Expr) (t : TO) : Prop :=
  ∀ (pins : List (Addr × Obj)) (s : Shared) (σ : St) (H : Hp) (Q : Option Int → Hp → Prop), Inv X pins σ H s → t σ H Q →
    wpAny (model X.prog X.w) X.A (evalPart e X.env) (fun u s' => ∃ o H', Inv X pins σ H' s' ∧ IsPart u o ∧ Q o H') X.xe s
def tPart (t : TE) : TO := fun σ H Q => t σ H fun x H1 => ∃ i, x = .int i ∧ Q (some i) H1
section
variable {X : Cx} {e : Expr} {te : TE} {lo hi : Option Expr} {tl th : TO} {pos p2 : Pos}
theorem po_some (h : PE X e te) : PO X (some e) (tPart te) := by
  intro pins s σ H Q I hw
  rw [evalPart_some]
  refine thn (h pins s σ H _ I hw) fun u s1 ⟨x, H1, I1, r1, q1⟩ => ?_
  obtain ⟨i, rfl, q⟩ := q1
  obtain ⟨t, rfl⟩ := r1
  exact ⟨some i, H1, I1, .int i t, q⟩
def SlR (X : Cx) (r : V → Option Int → Option Int → Hp → VK → Prop) : Prop :=
  ∀ (pins : List (Addr × Obj)) (s : Shared) (σ : St) (H : Hp) (x : V) (v vl vu : Value) (lo hi : Option Int) (sl : Addr) (Q : VK), Inv X pins σ H s → RelV x v → s.heap.IsSliceOf sl vl vu .none → IsPart vl lo → IsPart vu hi → r x lo hi H Q →
    ∃ T id, typeLookup (.type T) "__getitem__" = pure (some (.builtin id)) ∧ s.TypeIs v T ∧ wpAny (model X.prog X.w) X.A (getItem v (.ref sl)) (EP X pins σ Q) X.xe s
def tSl (r : V → Option Int → Option Int → Hp → VK → Prop) (te : TE) (tl th : TO) : TE := fun σ H Q => te σ H fun x H1 => tl σ H1 fun l H2 => th σ H2 fun u H3 => r x l u H3 Q
theorem pe_slice {r : V → Option Int → Option Int → Hp → VK → Prop} (hr : SlR X r) (he : PE X e te) (hl : PO X lo tl) (hu : PO X hi th) : PE X (.Subscript e (.Slice lo hi none p2) pos) (tSl r te tl th) := by
  intro pins s σ H Q I h
  refine Subscript_ (thn (he pins s σ H _ I h) fun v s1 ⟨x, H1, I1, r1, q1⟩ => ?_)
  refine wpAny_Slice (thn (hl pins s1 σ H1 _ I1 q1) fun vl s2 ⟨l, H2, I2, pl, q2⟩ => thn (hu pins s2 σ H2 _ I2 q2) fun vu s3 ⟨u, H3, I3, pu, q3⟩ => ?_)
  rw [evalPart_none]
  refine wpAny_pure ?_
  have I4 : Inv X pins σ H3 { s3 with heap := s3.heap.push { cls := .type "slice", data := .fields #[vl, vu, .none] } } := I3.kept (t' := s3.toks) fun b ob q => Heap.get?_push_of_some _ q
  obtain ⟨T, id, hT, ht, hg⟩ := hr pins { s3 with heap := s3.heap.push { cls := .type "slice", data := .fields #[vl, vu, .none] } } σ H3 x v vl vu l u s3.heap.objs.size Q I4 r1 (Heap.IsSliceOf.new ..) pl pu q3
  show wpAny (model X.prog X.w) X.A (subscriptTail e (.Slice lo hi none p2) v (.ref s3.heap.objs.size)) (EP X pins σ Q) X.xe { s3 with heap := s3.heap.push { cls := .type "slice", data := .fields #[vl, vu, .none] } }
  exact tail_any (ops := [.ref s3.heap.objs.size, v]) ht hT hg (by with_unfolding_all rfl)
def cutV (xs : List V) (lo hi : Option Int) : List V := (xs.drop (HT.sIx xs.length 0 lo)).take (HT.sIx xs.length xs.length hi - HT.sIx xs.length 0 lo)
theorem cutV_length (xs : List V) (lo hi : Option Int) : (cutV xs lo hi).length ≤ xs.length := by
  unfold cutV
  rw [List.length_take, List.length_drop]
  omega
end
end L2
namespace L2
open PySem PySem.Spec PyProof.Rows
def ixN (n : Nat) (i : Int) : Option Nat := if 0 ≤ i then (if i < n then some i.toNat else none) else if -(n : Int) ≤ i then some (i + n).toNat else none
def atI {α : Type} (xs : List α) (i : Int) : Option α := (ixN xs.length i).bind fun j => xs[j]?
theorem ixN_seq {n : Nat} {i : Int} {j : Nat} (h : ixN n i = some j) : seqIndex? i n = some j ∧ j < n ∧ -(n : Int) ≤ i ∧ i < n := by
  unfold ixN at h
  by_cases h0 : 0 ≤ i
  · rw [if_pos h0] at h
    by_cases h1 : i < n
    · rw [if_pos h1] at h
      have e : i.toNat = j := Option.some.inj h
      exact ⟨by rw [seqIndex_of h0 h1, e], by omega, by omega, h1⟩
    · rw [if_neg h1] at h; cases h
  · rw [if_neg h0] at h
    by_cases h1 : -(n : Int) ≤ i
    · rw [if_pos h1] at h
      have e : (i + n).toNat = j := Option.some.inj h
      exact ⟨by rw [seqIndex_neg (by omega) h1, e], by omega, h1, by omega⟩
    · rw [if_neg h1] at h; cases h
theorem atI_get {α : Type} {xs : List α} {i : Int} {v : α} (h : atI xs i = some v) : ∃ j, seqIndex? i xs.length = some j ∧ xs[j]? = some v ∧ j < xs.length ∧ -(xs.length : Int) ≤ i ∧ i < xs.length := by
  unfold atI at h
  cases e : ixN xs.length i with
  | none => rw [e] at h; cases h
  | some j =>
    rw [e] at h
    obtain ⟨h1, h2, h3, h4⟩ := ixN_seq e
    exact ⟨j, h1, h, h2, h3, h4⟩
theorem atI_nat {α : Type} {xs : List α} {j : Nat} {v : α} (h : xs[j]? = some v) : atI xs (j : Int) = some v := by
  have hj : j < xs.length := (List.getElem?_eq_some_iff.mp h).1
  have e : ixN xs.length (j : Int) = some j := by
    unfold ixN
    rw [if_pos (by omega), if_pos (by omega)]; simp
  unfold atI; rw [e]; exact h
def PlainIx (b : Expr) : Prop := ∀ o i, subscripted b false o i = operate [o, i] (getItem o i)
def IxR (X : Cx) (r : R2) : Prop :=
  ∀ (value slice : Expr) (pins : List (Addr × Obj)) (s : Shared) (σ : St) (H : Hp) (x y : V) (v u : Value) (Q : VK), Inv X pins σ H s → RelV x v → RelV y u → r x y H Q →
    subscripted slice false v u = operate [v, u] (getItem v u) → wpAny (model X.prog X.w) X.A (subscriptTail value slice v u) (EP X pins σ Q) X.xe s
def MtR (X : Cx) (id : String) (r : V → List V → Hp → VK → Prop) : Prop :=
  ∀ (pins : List (Addr × Obj)) (s : Shared) (σ : St) (H : Hp) (x : V) (xs : List V) (v : Value) (us : List Value) (Q : VK), Inv X pins σ H s → RelV x v → Vals xs us → r x xs H Q →
    wpAny (model X.prog X.w) X.A (call (.builtin id) (v :: us)) (EP X pins σ Q) X.xe s
section
variable {X : Cx} {a b : Expr} {ta tb : TE} {pos : Pos}
theorem pe_ix {r : R2} (hr : IxR X r) (ha : PE X a ta) (hb : PE X b tb) (hs : PlainIx b) : PE X (.Subscript a b pos) (tOp r ta tb) := by
  intro pins s σ H Q I h
  exact Subscript_ (binT ha hb I h fun v u s2 x y H2 I2 rx ry q => hr a b pins s2 σ H2 x y v u Q I2 rx ry q (hs _ _))
def rIxL (K : PySem.W.Frag) : R2 := fun x y H Q => ∃ p xs i v, x = .ref p ∧ y = .int i ∧ SqL K H p xs ∧ atI xs i = some v ∧ Q v H
theorem ix_list : IxR X (rIxL X.K) := by
  intro value slice pins s σ H x y v u Q I rx ry h hs
  obtain ⟨p, xs, i, z, rfl, rfl, hq, he, q⟩ := h
  cases rx
  obtain ⟨t, rfl⟩ := ry
  obtain ⟨its, r, pl, hz⟩ := I.list hq
  obtain ⟨j, h1, h2, h3, h4, h5⟩ := atI_get he
  obtain ⟨w, ew, rw'⟩ := r.get h2
  have hl := r.length
  have hn := line63
  have fin : EP X pins σ Q w s := ⟨z, H, I, rw', q⟩
  by_cases h0 : 0 ≤ i
  · have hj : i.toNat = j := by
      rw [seqIndex_of h0 h5] at h1
      exact Option.some.inj h1
    exact item_listR pl.isList h0 (by omega) (by rw [hj]; simpa using ew) fin hs
  · have hj : (i + (its.toArray.size : Int)).toNat = j := by
      rw [seqIndex_neg (by omega) h4] at h1
      rw [List.size_toArray, ← hl]
      exact Option.some.inj h1
    exact subscriptTail_builtinR (x := w) pl.isList.typeIs slot_list_getitem.lookup
      (wpAny_getItem_list_neg (Q := fun r s' => r = w ∧ EP X pins σ Q r s') pl.isList (by omega) (by rw [List.size_toArray] <;> omega) (by omega) (by rw [hj]; simpa using ew) ⟨rfl, fin⟩) hs
theorem slice_bounds (lo hi : Option Int) (n : Nat) : (sliceBounds lo hi none n).1 = ((HT.sIx n 0 lo : Nat) : Int) ∧ (sliceBounds lo hi none n).2.1 = ((HT.sIx n n hi : Nat) : Int) ∧ (sliceBounds lo hi none n).2.2 = 1 := by
  refine ⟨?_, ?_, rfl⟩
  · cases lo with
    | none => simp [sliceBounds, HT.sIx]
    | some i =>
      simp only [sliceBounds, HT.sIx, Option.getD_none, show (1 : Int) > 0 by decide, if_true]
      by_cases h : i < 0
      · simp only [h, if_true] <;> omega
      · simp only [h, if_false] <;> omega
  · cases hi with
    | none => simp [sliceBounds, HT.sIx]
    | some i =>
      simp only [sliceBounds, HT.sIx, Option.getD_none, show (1 : Int) > 0 by decide, if_true]
      by_cases h : i < 0
      · simp only [h, if_true] <;> omega
      · simp only [h, if_false] <;> omega
theorem slicePick_cut (its : List Value) (lo hi : Option Int) : slicePick its.toArray lo hi none = ((its.drop (HT.sIx its.length 0 lo)).take (HT.sIx its.length its.length hi - HT.sIx its.length 0 lo)).toArray := by
  obtain ⟨h1, h2, h3⟩ := slice_bounds lo hi its.toArray.size
  unfold slicePick
  rw [h1, h2, h3]
  simp only [sliceRange_one, pick_run, List.size_toArray] <;> rfl
def rSlL (K : PySem.W.Frag) : V → Option Int → Option Int → Hp → VK → Prop := fun x lo hi H Q => ∃ a xs, x = .ref a ∧ SqL K H a xs ∧ ∀ p, H p = none → Q (.ref p) (upd H p (.lst (cutV xs lo hi)))
theorem sl_list : SlR X (rSlL X.K) := by
  intro pins s σ H x v vl vu lo hi sl Q I rx hs pl pu h
  obtain ⟨a, xs, rfl, hx, q⟩ := h
  cases rx
  obtain ⟨its, r, ht, hz⟩ := I.list hx
  have hlen := r.length
  refine ⟨"list", _, slot_list_getitem.lookup, ht.isList.typeIs, ?_⟩
  refine wpAny_getItem_list_slice ht.isList hs pl pu .none (by simp) ?_ (by rw [List.size_toArray] <;> omega)
  rw [slicePick_cut, ← hlen]
  refine ⟨.ref s.heap.objs.size, _, I.laid (t' := s.toks) (o := .lst (cutV xs lo hi)) (fun b ob q => Heap.get?_push_of_some _ q) (Nat.le_refl _) ?_, rfl, q _ (I.hok.fresh (Nat.le_refl _))⟩
  exact ⟨Nat.le_trans (cutV_length xs lo hi) hz, _, 0, (r.drop (HT.sIx xs.length 0 lo)).take (HT.sIx xs.length xs.length hi - HT.sIx xs.length 0 lo), Heap.get?_push_size _ rfl⟩
theorem call_tuple_of : CallR X (.type "tuple") (fun xs H Q => ∃ p ys, xs = [.ref p] ∧ ((SqL X.K H p ys ∧ ∀ l, H l = none → Q (.ref l) (upd H l (.tup ys))) ∨ (SqT X.K H p ys ∧ Q (.ref p) H))) := by
  intro pins s σ H xs us Q I r h
  obtain ⟨p, ys, rfl, h⟩ := h
  obtain ⟨u, rfl, rx⟩ := vals1 r
  cases rx
  rcases h with ⟨hq, q⟩ | ⟨hq, q⟩
  · obtain ⟨its, r', pl, hz⟩ := I.list hq
    have hlen := r'.length
    refine call_tuple_list pl.isList (fun h' kp => ?_) (by simp only [List.size_toArray] <;> omega)
    have I1 : Inv X pins σ H { s with heap := h' } := I.kept (t' := s.toks) kp
    have I2 : Inv X pins σ (upd H h'.objs.size (.tup ys)) { s with heap := h'.push { cls := .type "tuple", data := .seq its.toArray } } :=
      I1.laid (t' := s.toks) (fun b o e => Heap.get?_push_of_some _ e) (Nat.le_refl _) (show ObjOk X.prog X.w _ _ _ (.tup ys) from ⟨hz, its, r', IsTup.new _ _⟩)
    exact ⟨.ref h'.objs.size, _, I2, rfl, q _ (I1.hok.fresh (Nat.le_refl _))⟩
  · obtain ⟨its, r', pl, hz⟩ := I.tuple hq
    exact call_tuple_same pl ⟨.ref p, H, I, rfl, q⟩
def tyV (K : PySem.W.Frag) (T : String) (x : V) (H : Hp) : Prop := match x with
  | .str _ => T = "str"
  | .int _ => T = "int"
  | .ref p => (T = "list" ∧ ∃ xs, SqL K H p xs) ∨ (T = "tuple" ∧ ∃ o, K.lookup p = some o ∧ o.cls = .type "tuple" ∧ o.dict = none) ∨
      (T = "dict" ∧ ((∃ kvs, H p = some (.dK kvs)) ∨ ∃ kvs, H p = some (.dT kvs))) ∨ (T = "set" ∧ ∃ S n, H p = some (.set S n))
  | _ => False
theorem tyV_is {pins : List (Addr × Obj)} {σ : St} {H : Hp} {s : Shared} {T : String} {x : V} {v : Value} (I : Inv X pins σ H s) (r : RelV x v) (ty : tyV X.K T x H) :
    s.TypeIs v T ∧ ∀ a, v = .ref a → ∃ ob, s.heap.get? a = some ob ∧ ob.dict = none := by
  cases x with
  | str z =>
    obtain ⟨t, rfl⟩ := r
    cases (show T = "str" from ty)
    exact ⟨typeIs_str s z t, fun _ e => nomatch e⟩
  | int i =>
    obtain ⟨t, rfl⟩ := r
    cases (show T = "int" from ty)
    exact ⟨typeIs_int s i t, fun _ e => nomatch e⟩
  | ref p =>
    cases r
    rcases ty with ⟨rfl, xs, hq⟩ | ⟨rfl, o, hk, hc, hd⟩ | ⟨rfl, hk⟩ | ⟨rfl, S, n, hk⟩
    · obtain ⟨its, _, pl, _⟩ := I.list hq
      refine ⟨pl.isList.typeIs, fun a e => ?_⟩
      cases e
      obtain ⟨o, n, e, c, hd, _⟩ := pl
      exact ⟨o, e, hd⟩
    · refine ⟨⟨o, I.kIn p o hk, hc⟩, fun a e => ?_⟩
      cases e
      exact ⟨o, I.kIn _ o hk, hd⟩
    · have z : ∃ o, s.heap.get? p = some o ∧ o.ExactDict := by
        rcases hk with ⟨kvs, hk⟩ | ⟨kvs, hk⟩
        · obtain ⟨_, _, _, _, o, _, _, e, ex, _⟩ := I.hok p _ hk
          exact ⟨o, e, ex⟩
        · obtain ⟨_, _, _, _, o, _, _, e, ex, _⟩ := I.hok p _ hk
          exact ⟨o, e, ex⟩
      obtain ⟨o, e, ex⟩ := z
      refine ⟨⟨o, e, ex.1⟩, fun a e2 => ?_⟩
      cases e2
      exact ⟨o, e, ex.2.1⟩
    · obtain ⟨o, _, _, _, e, ex, _⟩ := I.hok p _ hk
      refine ⟨⟨o, e, ex.1⟩, fun a e2 => ?_⟩
      cases e2
      exact ⟨o, e, ex.2.1⟩
  | _ => exact False.elim ty
def tBM0 (K : PySem.W.Frag) (T : String) (r : V → List V → Hp → VK → Prop) (to : TE) : TE := fun σ H Q => to σ H fun x H1 => tyV K T x H1 ∧ r x [] H1 Q
def tBM (K : PySem.W.Frag) (T : String) (r : V → List V → Hp → VK → Prop) (to : TE) (t : TA) : TE := fun σ H Q => to σ H fun x H1 => tyV K T x H1 ∧ t σ H1 fun xs H2 => r x xs H2 Q
variable {o e : Expr} {es : List Expr} {to : TE} {t : TA} {name : Str} {apos cpos : Pos} {T id : String} {r : V → List V → Hp → VK → Prop}
theorem pe_bm0 (pa : PlainAttrs T) (slot : Slot T name id) (hty : typeOf (.builtin id) = pure (.type "method_descriptor")) (hm : MtR X id r) (ho : PE X o to)
    (hbase : attributeBase o name X.env (eval o X.env) = eval o X.env := by rfl) (hline : (apos.endLine == cpos.line) = true := by rfl) : PE X (.Call (.Attribute o name apos) [] [] cpos) (tBM0 X.K T r to) := by
  intro pins s σ H Q I h
  refine wpAny_Call_method0_late hbase hline (thn (ho pins s σ H _ I h) fun v s1 ⟨x, H1, I1, r1, ty, q1⟩ => ?_)
  obtain ⟨h1, h2⟩ := tyV_is I1 r1 ty
  exact ⟨T, id, pa, slot, hty, h1, h2, Calls.callWith_builtin rfl (PySem.evalArgs_none (hm pins s1 σ H1 x [] v [] Q I1 r1 .nil q1))⟩
theorem pe_bm (pa : PlainAttrs T) (slot : Slot T name id) (hty : typeOf (.builtin id) = pure (.type "method_descriptor")) (hm : MtR X id r) (ho : PE X o to) (ha : PA X (e :: es) t)
    (hbase : attributeBase o name X.env (eval o X.env) = eval o X.env := by rfl)
    (hfew : ((backTo cpos (starEach (e :: es) X.env)).all (fun x => !x.1) && (backToKw cpos (keywordEach [] X.env)).all (fun x => x.1.isSome)
      && decide ((e :: es).length + ([] : List Keyword).length + (if ([] : List Keyword).isEmpty then 0 else 1) < 30)) = true := by rfl)
    (hline : (apos.endLine == cpos.line) = true := by rfl) (hs : starEach (e :: es) X.env = (false, eval e X.env) :: starEach es X.env := by rfl) (hplain : (backTo cpos (starEach es X.env)).any (·.1) = false := by rfl) :
    PE X (.Call (.Attribute o name apos) (e :: es) [] cpos) (tBM X.K T r to t) := by
  intro pins s σ H Q I h
  refine wpAny_Call_method_late hbase hfew hline rfl (thn (ho pins s σ H _ I h) fun v s1 ⟨x, H1, I1, r1, ty, q1⟩ => ?_)
  obtain ⟨h1, h2⟩ := tyV_is I1 r1 ty
  refine ⟨T, id, pa, slot, hty, h1, h2, ?_⟩
  have hA := ha cpos pins s1 σ H1 _ I1 q1
  rw [hs] at hA ⊢
  refine Calls.callWith_builtin (by show (false || (backTo cpos (starEach es X.env)).any (·.1)) = false; rw [hplain] <;> rfl) (Calls.evalArgs_plain ?_)
  exact thn hA fun us s2 ⟨vs, H2, I2, r2, q2⟩ => hm pins s2 σ H2 x vs v us Q I2 r1 r2 q2
end
end L2
namespace L2
open PySem PySem.Spec PyProof.Rows
def MtM (X : Cx) (id : String) (r : V → List V → Hp → VK → Prop) : Prop :=
  ∀ (pins : List (Addr × Obj)) (s : Shared) (σ : St) (H : Hp) (x : V) (xs : List V) (v : Value) (us : List Value) (Q : VK), Inv X pins σ H s → RelV x v → Vals xs us → r x xs H Q →
    wpAny (model X.prog X.w) X.A (call (.builtin id) (v :: us)) (EP X pins σ Q) X.xe s
theorem Vals.one : ∀ {x : V} {us : List Value}, Vals [x] us → ∃ u, us = [u] ∧ RelV x u
  | _, _, .cons r .nil => ⟨_, rfl, r⟩
theorem Vals.zero : ∀ {us : List Value}, Vals [] us → us = []
  | _, .nil => rfl
theorem Vals.dropLast {xs : List V} {us : List Value} (h : Vals xs us) : Vals xs.dropLast us.dropLast := by
  induction h with
  | nil => exact .nil
  | cons r t ih =>
    cases t with
    | nil => exact .nil
    | cons q t' => exact .cons r ih
theorem erase_last {α : Type} (l : List α) : l.eraseIdx (l.length - 1) = l.dropLast := by
  induction l with
  | nil => rfl
  | cons a r ih =>
    cases r with
    | nil => rfl
    | cons b r =>
      have e : (a :: b :: r).length - 1 = ((b :: r).length - 1) + 1 := by
        have h1 : (a :: b :: r).length = r.length + 2 := rfl
        have h2 : (b :: r).length = r.length + 1 := rfl
        omega
      rw [e, List.eraseIdx_cons_succ, ih]
      all_goals rfl
section
variable {X : Cx} {pins : List (Addr × Obj)} {σ : St} {H : Hp} {s : Shared} {l b : Addr} {xs ys zs : List V}
theorem Inv.lset {its its' : List Value} {n : Nat} {f : Array Value → Array Value} {t' : Nat} (I : Inv X pins σ H s) (hH : H l = some (.lst xs))
    (e : s.heap.get? l = some { cls := .type "list", data := .seq its.toArray n }) (hf : f its.toArray = its'.toArray) (hv : Vals ys its') (hz : ys.length ≤ sizeLine) :
    Inv X pins σ (upd H l (.lst ys)) { s with heap := s.heap.update l (Obj.mapSeq f), toks := t' } := by
  have q := PySem.IsL.update e f
  rw [hf] at q
  refine I.write (x := l) (e := l) (by rw [hH]; exact trivial) (.inl rfl) (fun b' u hb hu => (Heap.get?_update_other s.heap (Obj.mapSeq f) (Ne.symm hb)).trans hu) ⟨_, q⟩ ?_
  exact ⟨hz, its', _, hv, q⟩
theorem Inv.lnew {its : List Value} {t' : Nat} (I : Inv X pins σ H s) (hv : Vals ys its) (hz : ys.length ≤ sizeLine) :
    Inv X pins σ (upd H s.heap.objs.size (.lst ys)) { s with heap := s.heap.push { cls := .type "list", data := .seq its.toArray }, toks := t' } :=
  I.laid (fun _ _ q => Heap.get?_push_of_some _ q) (Nat.le_refl _) ⟨hz, its, 0, hv, Heap.get?_push_size _ rfl⟩
theorem Inv.fresh (I : Inv X pins σ H s) : H s.heap.objs.size = none := I.hok.fresh (Nat.le_refl _)
theorem Inv.lstM (I : Inv X pins σ H s) (hH : H l = some (.lst xs)) : xs.length ≤ sizeLine ∧ ∃ (its : List Value) (n : Nat), Vals xs its ∧ xs.length = its.length ∧ s.heap.get? l = some { cls := .type "list", data := .seq its.toArray n } := by
  obtain ⟨z, its, n, r, e⟩ := I.hok l _ hH
  exact ⟨z, its, n, r, r.length, e⟩
theorem notLongL {n : Nat} (h : n ≤ sizeLine) : Builtin.List.listTooLong n = false := by
  unfold Builtin.List.listTooLong
  exact decide_eq_false (by omega)
end
section
variable {X : Cx}
def rAppend : V → List V → Hp → VK → Prop := fun x vs H Q => ∃ l xs y, x = .ref l ∧ vs = [y] ∧ H l = some (.lst xs) ∧ xs.length < sizeLine ∧ Q .non (upd H l (.lst (xs ++ [y])))
theorem mt_append : MtM X "list.append" rAppend := by
  intro pins s σ H x vs v us Q I rx rv h
  obtain ⟨l, xs, y, rfl, rfl, hH, hz, q⟩ := h
  cases rx
  obtain ⟨u, rfl, ru⟩ := rv.one
  obtain ⟨z, its, n, r, hl, e⟩ := I.lstM hH
  refine call_meets F.slot_list_append ⟨_, e, rfl⟩ F.entry_list_append (F.args_list_append_2 _ _) (PySem.list_append l its.toArray n u (by rw [List.size_toArray]; omega)) ⟨e, ?_⟩
  refine ⟨.non, _, I.lset (its' := its ++ [u]) hH e (by simp) (r.append (.cons ru .nil)) ?_, rfl, q⟩
  rw [List.length_append, List.length_singleton]
  omega
def rExtend : V → List V → Hp → VK → Prop := fun x vs H Q => ∃ l b xs zs, x = .ref l ∧ vs = [.ref b] ∧ H l = some (.lst xs) ∧ H b = some (.lst zs) ∧ xs.length + zs.length ≤ sizeLine ∧ Q .non (upd H l (.lst (xs ++ zs)))
theorem mt_extend : MtM X "list.extend" rExtend := by
  intro pins s σ H x vs v us Q I rx rv h
  obtain ⟨l, b, xs, zs, rfl, rfl, hH, hB, hz, q⟩ := h
  cases rx
  obtain ⟨u, rfl, ru⟩ := rv.one
  cases ru
  obtain ⟨z, its, n, r, hl, e⟩ := I.lstM hH
  obtain ⟨z2, its2, n2, r2, hl2, e2⟩ := I.lstM hB
  have hsz : its.toArray.size + its2.toArray.size ≤ sizeLine := by rw [List.size_toArray, List.size_toArray]; omega
  have hlong : ¬ (!its.toArray.isEmpty && Builtin.List.listTooLong (its.toArray.size + its2.toArray.size)) = true := by
    rw [notLongL hsz, Bool.and_false]
    exact Bool.false_ne_true
  refine call_meets F.slot_list_extend ⟨_, e, rfl⟩ F.entry_list_extend (F.args_list_extend_2 _ _)
    (AutoSeq1.list_extend_list_list_0 l its.toArray n b its2.toArray n2 hlong (by rw [List.size_toArray]; omega) (by omega)) ⟨e, e2, ?_⟩
  refine ⟨.non, _, I.lset (its' := its ++ its2) hH e (by simp) (r.append r2) ?_, rfl, q⟩
  rw [List.length_append]
  omega
def rPop : V → List V → Hp → VK → Prop := fun x vs H Q => ∃ l xs y, x = .ref l ∧ vs = [] ∧ H l = some (.lst xs) ∧ xs[xs.length - 1]? = some y ∧ Q y (upd H l (.lst xs.dropLast))
theorem mt_pop : MtM X "list.pop" rPop := by
  intro pins s σ H x vs v us Q I rx rv h
  obtain ⟨l, xs, y, rfl, rfl, hH, hy, q⟩ := h
  cases rx
  have hus := rv.zero
  subst hus
  obtain ⟨z, its, n, r, hl, e⟩ := I.lstM hH
  obtain ⟨u, hu, ru⟩ := r.get hy
  have hy' : its.toArray[its.toArray.size - 1]? = some u := by
    show its.toArray[its.length - 1]? = some u
    rw [← Array.getElem?_toList, ← hl]
    exact hu
  refine call_meets F.slot_list_pop ⟨_, e, rfl⟩ F.entry_list_pop (F.args_list_pop_1 _) (MeetsSeq.list_pop_last l its.toArray n u hy' (by rw [List.size_toArray]; omega)) ⟨e, ?_⟩
  refine ⟨y, _, I.lset (its' := its.dropLast) hH e ?_ r.dropLast ?_, ru, q⟩
  · show its.toArray.eraseIdxIfInBounds (its.toArray.size - 1) = its.dropLast.toArray
    rw [List.size_toArray, List.eraseIdxIfInBounds_toArray, erase_last]
  · rw [List.length_dropLast]
    omega
def rCat : R2 := fun x y H Q => ∃ l b xs zs, x = .ref l ∧ y = .ref b ∧ H l = some (.lst xs) ∧ H b = some (.lst zs) ∧ xs.length + zs.length ≤ sizeLine ∧ ∀ p, H p = none → Q (.ref p) (upd H p (.lst (xs ++ zs)))
theorem op_cat : OpR X (binaryOp .Add) rCat := by
  intro pins s σ H x y v u Q I rx ry h
  obtain ⟨l, b, xs, zs, rfl, rfl, hH, hB, hz, q⟩ := h
  cases rx
  cases ry
  obtain ⟨z, its, n, r, hl, e⟩ := I.lstM hH
  obtain ⟨z2, its2, n2, r2, hl2, e2⟩ := I.lstM hB
  refine PySem.P.add_list e e2 ?_ (by rw [List.size_toArray, List.size_toArray]; omega)
  have ea : its.toArray ++ its2.toArray = (its ++ its2).toArray := by simp
  rw [ea]
  exact ⟨.ref _, _, I.lnew (t' := s.toks) (r.append r2) (by rw [List.length_append]; omega), rfl, q _ I.fresh⟩
end
section
variable {prog : Program} {w : World} {A : Around} {E : Value → Shared → Prop} {s : Shared}
set_option maxRecDepth 100000 in
end
section
variable {X : Cx}
end
end L2
namespace L2
open PySem PySem.Spec PyProof.Rows
section
variable {prog : Program} {w : World} {A : Around} {E : Value → Shared → Prop} {s : Shared} {l : Addr} {its : List Value} {ns : List Int} {Q : Value → Shared → Prop}
end
section
variable {X : Cx}
end
section
variable {X : Cx}
end
section
variable {X : Cx}
end
section
variable {X : Cx}
end
mutual
inductive Dp (K : PySem.W.Frag) (H : Hp) : V → PyData → Prop
  | non : Dp K H .non .none
  | bl (b : Bool) : Dp K H (.bl b) (.bool b)
  | int (i : Int) : Dp K H (.int i) (.int i)
  | str (x : Str) : Dp K H (.str x) (.str x)
  | lst {a : Addr} {xs : List V} {ds : List PyData} : SqL K H a xs → DpAll K H xs ds → Dp K H (.ref a) (.list ds)
  | tup {a : Addr} {xs : List V} {ds : List PyData} : SqT K H a xs → DpAll K H xs ds → Dp K H (.ref a) (.tuple ds)
inductive DpAll (K : PySem.W.Frag) (H : Hp) : List V → List PyData → Prop
  | nil : DpAll K H [] []
  | cons {v : V} {vs : List V} {d : PyData} {ds : List PyData} : Dp K H v d → DpAll K H vs ds → DpAll K H (v :: vs) (d :: ds)
end
section
variable {X : Cx} {pins : List (Addr × Obj)} {σ : St} {H : Hp} {s : Shared}
mutual
theorem Dp.reads (I : Inv X pins σ H s) : ∀ (d : PyData) (v : V) (u : Value), Dp X.K H v d → RelV v u → ∃ as, Reads s.heap u d as
  | .none, _, _, h, r => by
    cases h
    cases r
    exact ⟨_, Reads.none⟩
  | .bool b, _, _, h, r => by
    cases h
    cases r
    exact ⟨_, Reads.bool b⟩
  | .int i, _, _, h, r => by
    cases h
    obtain ⟨t, rfl⟩ := r
    exact ⟨_, Reads.int i t⟩
  | .str x, _, _, h, r => by
    cases h
    obtain ⟨t, rfl⟩ := r
    exact ⟨_, Reads.str x t⟩
  | .list ds, _, _, h, r => by
    cases h with
    | lst hs ha =>
      cases r
      obtain ⟨its, rv, ⟨o, n, ho, hc, _, hd⟩, _⟩ := I.list hs
      obtain ⟨as, hr⟩ := Dp.readsAll I ds _ its ha rv
      exact ⟨_, Reads.list ho hc hd hr⟩
  | .tuple ds, _, _, h, r => by
    cases h with
    | tup hs ha =>
      cases r
      obtain ⟨its, rv, ⟨o, ho, hc, n, hd⟩, _⟩ := I.tuple hs
      obtain ⟨as, hr⟩ := Dp.readsAll I ds _ its ha rv
      exact ⟨_, Reads.tuple ho hc hd hr⟩
  | .dict _, _, _, h, _ => by cases h
theorem Dp.readsAll (I : Inv X pins σ H s) : ∀ (ds : List PyData) (vs : List V) (us : List Value), DpAll X.K H vs ds → Vals vs us → ∃ as, ReadsAll s.heap us ds as
  | [], _, _, h, r => by
    cases h
    cases r
    exact ⟨_, ReadsAll.nil⟩
  | d :: ds, _, _, h, r => by
    cases h with
    | cons h1 h2 =>
      cases r with
      | cons r1 r2 =>
        obtain ⟨as, q1⟩ := Dp.reads I d _ _ h1 r1
        obtain ⟨bs, q2⟩ := Dp.readsAll I ds _ _ h2 r2
        exact ⟨_, ReadsAll.cons q1 q2⟩
end
end
section
variable {X : Cx}
def rEqD (K : PySem.W.Frag) : R2 := fun x y H Q => ∃ d e, Dp K H x d ∧ Dp K H y e ∧ SeqAt.shaped d = true ∧ SeqAt.shaped e = true ∧ Q (.bl (PyData.eqv d e)) H
def rNeD (K : PySem.W.Frag) : R2 := fun x y H Q => ∃ d e, Dp K H x d ∧ Dp K H y e ∧ SeqAt.shaped d = true ∧ SeqAt.shaped e = true ∧ Q (.bl (!PyData.eqv d e)) H
theorem op_eqD (hu : X.A.units + 64 < cLine) : OpR X (compareOp .Eq) (rEqD X.K) := by
  intro pins s σ H x y v u Q I rx ry h
  obtain ⟨d, e, hd, he, sd, se, q⟩ := h
  obtain ⟨as, r1⟩ := Dp.reads I d x v hd rx
  obtain ⟨bs, r2⟩ := Dp.reads I e y u he ry
  exact SeqAt.compareEq_shaped r1 r2 sd se hu ⟨.bl _, H, I, rfl, q⟩
theorem op_neD (hu : X.A.units + 64 < cLine) : OpR X (compareOp .NotEq) (rNeD X.K) := by
  intro pins s σ H x y v u Q I rx ry h
  obtain ⟨d, e, hd, he, sd, se, q⟩ := h
  obtain ⟨as, r1⟩ := Dp.reads I d x v hd rx
  obtain ⟨bs, r2⟩ := Dp.reads I e y u he ry
  exact SeqAt.compareNe_shaped r1 r2 sd se hu ⟨.bl _, H, I, rfl, q⟩
end
end L2
namespace L2
open PySem PySem.Spec PyProof.Rows
abbrev CellAt (h : Heap) (c : Addr) (v : Option Value) : Prop := h.IsCell c v
def relS (scope sc : Scope) : Scope :=
  { scope with names := scope.names.map fun (n, k) => if (k == .free && sc.kind == .function && sc.names.lookup n == some .cell) then (n, .cell) else (n, k) }
def cloFrom (cells : List (Str × Addr)) : List (Str × NameKind) → List (Str × Addr) → List (Str × Addr)
  | [], acc => acc
  | (n, k) :: r, acc => if k == .free then cloFrom cells r ((n, (cells.lookup n).getD 0) :: acc) else cloFrom cells r acc
theorem closure_loop (env : Env) (f : Str × NameKind → List (Str × Addr) → Sem (ForInStep (List (Str × Addr))))
    (hf : ∀ n k c, f (n, k) c = if k == .free then (do let a ← cellOf env n; pure (.yield ((n, a) :: c))) else pure (.yield c)) :
    ∀ (names : List (Str × NameKind)) (acc : List (Str × Addr)), (∀ y ∈ names, y.2 = .free → ∃ c, env.cells.lookup y.1 = some c) → forIn names acc f = pure (cloFrom env.cells names acc)
  | [], acc, _ => by rw [List.forIn_nil]; rfl
  | (n, k) :: r, acc, h => by
    rw [List.forIn_cons, hf]
    have ih := fun acc => closure_loop env f hf r acc fun y hy => h y (List.mem_cons_of_mem _ hy)
    unfold cloFrom
    by_cases hk : (k == NameKind.free) = true
    · rw [if_pos hk, if_pos hk]
      obtain ⟨c, hc⟩ := h (n, k) List.mem_cons_self (by simpa using hk)
      have e : cellOf env n = pure c := by unfold cellOf; rw [hc]
      rw [e]
      have e2 : (env.cells.lookup n).getD 0 = c := by rw [hc]; rfl
      rw [e2]
      exact ih _
    · rw [if_neg hk, if_neg hk]
      exact ih _
theorem closure_ok {scope : Scope} {env : Env} (h : ∀ y ∈ scope.names, y.2 = .free → ∃ c, env.cells.lookup y.1 = some c) : closureFor scope env = pure (cloFrom env.cells scope.names []) := by
  simp only [closureFor]
  rw [closure_loop env _ (fun n k c => rfl) scope.names [] h]
  rfl
theorem mem_lookup {α : Type} : ∀ {l : List (Str × α)} {n : Str} {c : α}, (n, c) ∈ l → ∃ c', l.lookup n = some c'
  | (k, v) :: r, n, c, h => by
    rw [List.lookup_cons]
    cases hb : n == k with
    | true => exact ⟨_, rfl⟩
    | false =>
      rcases List.mem_cons.mp h with e | h
      · cases e; simp at hb
      · exact mem_lookup h
theorem cloFrom_mem {cells : List (Str × Addr)} : ∀ {names : List (Str × NameKind)} {acc : List (Str × Addr)} {n : Str} {c : Addr}, (n, c) ∈ cloFrom cells names acc → (n, c) ∈ acc ∨ ((n, .free) ∈ names ∧ c = (cells.lookup n).getD 0)
  | [], _, _, _, h => .inl h
  | (m, k) :: r, acc, n, c, h => by
    unfold cloFrom at h
    split at h
    · rename_i hk
      have hk : k = .free := by simpa using hk
      rcases cloFrom_mem h with h | ⟨h1, h2⟩
      · rcases List.mem_cons.mp h with e | h
        · cases e; exact .inr ⟨hk ▸ List.mem_cons_self, rfl⟩
        · exact .inl h
      · exact .inr ⟨List.mem_cons_of_mem _ h1, h2⟩
    · rcases cloFrom_mem h with h | ⟨h1, h2⟩
      · exact .inl h
      · exact .inr ⟨List.mem_cons_of_mem _ h1, h2⟩
theorem cloFrom_acc {cells : List (Str × Addr)} : ∀ {names : List (Str × NameKind)} {acc : List (Str × Addr)} {p : Str × Addr}, p ∈ acc → p ∈ cloFrom cells names acc
  | [], _, _, h => h
  | (m, k) :: r, acc, p, h => by
    unfold cloFrom
    split
    · exact cloFrom_acc (List.mem_cons_of_mem _ h)
    · exact cloFrom_acc h
theorem cloFrom_has {cells : List (Str × Addr)} : ∀ {names : List (Str × NameKind)} {acc : List (Str × Addr)} {n : Str}, (n, .free) ∈ names → (n, (cells.lookup n).getD 0) ∈ cloFrom cells names acc
  | (m, k) :: r, acc, n, h => by
    unfold cloFrom
    rcases List.mem_cons.mp h with e | h
    · cases e
      exact cloFrom_acc List.mem_cons_self
    · split
      · exact cloFrom_has h
      · exact cloFrom_has h
theorem cells_mem : ∀ {names : List (Str × NameKind)} {h : Heap} {acc : List (Str × Addr)} {x : Str} {c : Addr}, (x, c) ∈ cellsFrom h.objs.size names acc →
    (x, c) ∈ acc ∨ ((x, .cell) ∈ names ∧ h.objs.size ≤ c ∧ CellAt (pushCells h names) c none)
  | [], _, _, _, _, h => .inl h
  | (n, k) :: r, h, acc, x, c, hm => by
    unfold cellsFrom at hm
    unfold pushCells
    split at hm
    · rename_i hk
      rw [if_pos hk]
      have hk : k = .cell := by simpa using hk
      rw [← Heap.size_push h { cls := .type "cell", data := .cell none }] at hm
      rcases cells_mem hm with hm | ⟨h1, h2, h3⟩
      · rcases List.mem_cons.mp hm with e | hm
        · cases e
          exact .inr ⟨hk ▸ List.mem_cons_self, Nat.le_refl _, _, pushCells_keeps r _ _ _ (Heap.get?_push_size _ rfl), rfl⟩
        · exact .inl hm
      · rw [Heap.size_push] at h2
        exact .inr ⟨List.mem_cons_of_mem _ h1, Nat.le_of_succ_le h2, h3⟩
    · rename_i hk
      rw [if_neg hk]
      rcases cells_mem hm with hm | ⟨h1, h2, h3⟩
      · exact .inl hm
      · exact .inr ⟨List.mem_cons_of_mem _ h1, h2, h3⟩
theorem cells_acc : ∀ {names : List (Str × NameKind)} {n : Nat} {acc : List (Str × Addr)} {p : Str × Addr}, p ∈ acc → p ∈ cellsFrom n names acc
  | [], _, _, _, h => h
  | (m, k) :: r, n, acc, p, h => by
    unfold cellsFrom
    split
    · exact cells_acc (List.mem_cons_of_mem _ h)
    · exact cells_acc h
theorem cells_has : ∀ {names : List (Str × NameKind)} {n : Nat} {acc : List (Str × Addr)} {x : Str}, (x, .cell) ∈ names → ∃ c, (x, c) ∈ cellsFrom n names acc
  | (m, k) :: r, n, acc, x, h => by
    unfold cellsFrom
    rcases List.mem_cons.mp h with e | h
    · cases e
      exact ⟨n, cells_acc List.mem_cons_self⟩
    · split
      · exact cells_has h
      · exact cells_has h
theorem cells_inj : ∀ {names : List (Str × NameKind)} {h : Heap} {acc : List (Str × Addr)} {x y : Str} {c : Addr}, (∀ p ∈ acc, p.2 < h.objs.size) → (∀ x y c, (x, c) ∈ acc → (y, c) ∈ acc → x = y) →
    (x, c) ∈ cellsFrom h.objs.size names acc → (y, c) ∈ cellsFrom h.objs.size names acc → x = y
  | [], _, _, _, _, _, _, hi, h1, h2 => hi _ _ _ h1 h2
  | (n, k) :: r, h, acc, x, y, c, hl, hi, h1, h2 => by
    unfold cellsFrom at h1 h2
    split at h1
    · rename_i hk
      rw [if_pos hk] at h2
      rw [← Heap.size_push h { cls := .type "cell", data := .cell none }] at h1 h2
      refine cells_inj (h := h.push _) (fun p hp => ?_) (fun x y c a b => ?_) h1 h2
      · rw [Heap.size_push]
        rcases List.mem_cons.mp hp with rfl | hp
        · exact Nat.lt_succ_self _
        · exact Nat.lt_succ_of_lt (hl p hp)
      · rcases List.mem_cons.mp a with e | a <;> rcases List.mem_cons.mp b with e' | b
        · cases e; cases e'; rfl
        · cases e; exact absurd (hl _ b) (Nat.lt_irrefl _)
        · cases e'; exact absurd (hl _ a) (Nat.lt_irrefl _)
        · exact hi _ _ _ a b
    · rename_i hk
      rw [if_neg hk] at h2
      exact cells_inj hl hi h1 h2
theorem newEnv_comp {M : Model} {A : Around} {E : Value → Shared → Prop} {s : Shared} {scope : Scope} {globals : Addr} {closure : List (Str × Addr)} {qual : Str} {func : Option Addr} {code : Value} {around : Env} {builtins : Addr} {Q : Env → Shared → Prop}
    (h : Q (newEnv scope s.heap.objs.size globals (cellsFrom (s.heap.objs.size + 1) scope.names closure) qual func code (some around) builtins)
      { s with heap := pushCells (s.heap.push { cls := .type "dict", data := .dict #[] }) scope.names }) :
    wpAny M A (newFunctionEnv scope globals closure [] qual func code (some around) builtins) Q E s := by
  simp only [newFunctionEnv, Option.isSome_some, if_true]
  refine wpAny_bind (wpAny_alloc ?_)
  refine wpAny_bind (wpAny_layCells _ (fun n k c => rfl) scope.names closure _ _ ?_)
  rw [show ({ s with heap := s.heap.push { cls := .type "dict", data := .dict #[] } } : Shared).heap.objs.size = s.heap.objs.size + 1 from Heap.size_push ..]
  rw [List.forIn_nil]
  exact wpAny_bind (wpAny_pure (wpAny_pure h))
theorem lookup_relS {sc : Scope} : ∀ {names : List (Str × NameKind)} {x : Str} {k : NameKind},
    (names.map fun (n, k) => if (k == NameKind.free && sc.kind == .function && sc.names.lookup n == some .cell) then (n, NameKind.cell) else (n, k)).lookup x = some k →
    ∃ k', names.lookup x = some k' ∧ (k = k' ∨ (k' = .free ∧ k = .cell))
  | [], _, _, h => by simp at h
  | (n, k₀) :: r, x, k, h => by
    have ih := @lookup_relS sc r x k
    have h' : List.lookup x ((if (k₀ == NameKind.free && sc.kind == .function && sc.names.lookup n == some .cell) = true then (n, NameKind.cell) else (n, k₀)) :: (r.map _)) = some k := h
    cases hx : x == n with
    | true =>
      simp only [List.lookup_cons, hx]
      by_cases hc : (k₀ == NameKind.free && sc.kind == .function && sc.names.lookup n == some .cell) = true
      · rw [if_pos hc] at h'
        simp only [List.lookup_cons, hx] at h'
        cases h'
        simp only [Bool.and_eq_true, beq_iff_eq] at hc
        exact ⟨k₀, rfl, .inr ⟨hc.1.1, rfl⟩⟩
      · rw [if_neg hc] at h'
        simp only [List.lookup_cons, hx] at h'
        cases h'
        exact ⟨_, rfl, .inl rfl⟩
    | false =>
      simp only [List.lookup_cons, hx]
      by_cases hc : (k₀ == NameKind.free && sc.kind == .function && sc.names.lookup n == some .cell) = true
      · rw [if_pos hc] at h'
        simp only [List.lookup_cons, hx] at h'
        exact ih h'
      · rw [if_neg hc] at h'
        simp only [List.lookup_cons, hx] at h'
        exact ih h'
structure BlkOk (N : List Str) (sc scope : Scope) (own : List (Str × Nat)) : Prop where
  kind : scope.kind = .function
  uniq : ∀ y ∈ scope.names, scope.names.lookup y.1 = some y.2
  ix : ∀ p ∈ own, N[p.2]? = some p.1
  free : ∀ y ∈ scope.names, y.2 = .free → sc.names.lookup y.1 = some .cell ∨ sc.names.lookup y.1 = some .free
  own : ∀ y ∈ scope.names, y.2 = .local ∨ y.2 = .cell → y.1 ∈ own.map (·.1) ∨ y.1 ∉ N
def wipe (σ : St) : List Nat → St
  | [] => σ
  | v :: vs => (wipe σ vs).set v none
theorem wipe_length (σ : St) : ∀ vs : List Nat, (wipe σ vs).length = σ.length
  | [] => rfl
  | v :: vs => by unfold wipe; rw [List.length_set, wipe_length σ vs]
theorem wipe_some {σ : St} {i : Nat} {x : V} : ∀ {vs : List Nat}, (wipe σ vs)[i]? = some (some x) → σ[i]? = some (some x) ∧ i ∉ vs
  | [], h => ⟨h, by simp⟩
  | v :: vs, h => by
    unfold wipe at h
    by_cases hi : v = i
    · subst hi
      by_cases hv : v < (wipe σ vs).length
      · rw [List.getElem?_set_self hv] at h; cases h
      · rw [List.getElem?_eq_none (by simpa using hv)] at h; cases h
    · rw [List.getElem?_set_ne hi] at h
      obtain ⟨h1, h2⟩ := wipe_some h
      exact ⟨h1, by simp only [List.mem_cons, not_or]; exact ⟨fun e => hi e.symm, h2⟩⟩
abbrev Cx.blk (X : Cx) (s : Shared) (H : Hp) (scope : Scope) (cenv : Env) (fp : List Addr) : Cx := { X with s_0 := s, H_0 := H, env := cenv, outer := X.stack, ex := fp, fn := fun x => scope.names.lookup x == some .cell, pn := [], xe := fun _ _ => False }
section
variable {X : Cx} {pins : List (Addr × Obj)} {σ : St} {H : Hp} {s : Shared}
theorem block_start {scope : Scope} {own : List (Str × Nat)} {fp : List Addr} (I : Inv X pins σ H s) (ok : BlkOk X.N X.env.scope scope own) (hN : X.N.Nodup) (hfp : ∀ b ∈ fp, FpOk X pins H b ∧ b < s.heap.objs.size) :
    Inv (X.blk s H scope (compEnvC scope (cellsFrom (s.heap.objs.size + 1) scope.names (cloFrom X.env.cells scope.names [])) s.heap.objs.size X.env) fp) [] (wipe σ (own.map (·.2))) H { s with heap := pushCells (s.heap.push { cls := .type "dict", data := .dict #[] }) scope.names } := by
  have hfree : ∀ y ∈ scope.names, y.2 = .free → ∃ c, X.env.cells.lookup y.1 = some c := fun y hy e => by
    rcases ok.free y hy e with k | k
    · exact I.ok.has _ (.inl k)
    · exact I.ok.has _ (.inr k)
  generalize hcenv : compEnvC scope (cellsFrom (s.heap.objs.size + 1) scope.names (cloFrom X.env.cells scope.names [])) s.heap.objs.size X.env = cenv
  have kp : ∀ b o, s.heap.get? b = some o → (pushCells (s.heap.push { cls := .type "dict", data := .dict #[] }) scope.names).get? b = some o := fun b o e => pushCells_keeps _ _ _ _ (Heap.get?_push_of_some _ e)
  have hL : cenv.locals = s.heap.objs.size := by rw [← hcenv]; rfl
  have hcl : cenv.cells = cellsFrom (s.heap.objs.size + 1) scope.names (cloFrom X.env.cells scope.names []) := by rw [← hcenv]; rfl
  have hsc : cenv.scope = relS scope X.env.scope := by rw [← hcenv]; rfl
  rw [← Heap.size_push s.heap { cls := .type "dict", data := .dict #[] }] at hcl
  have cm : ∀ {y c}, (y, c) ∈ cloFrom X.env.cells scope.names [] → X.env.cells.lookup y = some c ∧ c < s.heap.objs.size := fun {y c} hm => by
    rcases cloFrom_mem hm with hm | ⟨h1, rfl⟩
    · cases hm
    · obtain ⟨c, hc⟩ := hfree _ h1 rfl
      rw [hc]
      obtain ⟨w, z⟩ := I.cell _ _ hc
      exact ⟨rfl, z.lt⟩
  have mem : ∀ {y c}, cenv.cells.lookup y = some c → (X.env.cells.lookup y = some c ∧ c < s.heap.objs.size) ∨ (s.heap.objs.size + 1 ≤ c ∧ CellAt (pushCells (s.heap.push { cls := .type "dict", data := .dict #[] }) scope.names) c none) := fun {y c} e => by
    rw [hcl] at e
    rcases cells_mem (PySem.mem_of_lookup e) with hm | ⟨_, h2, h3⟩
    · exact .inl (cm hm)
    · rw [Heap.size_push] at h2; exact .inr ⟨h2, h3⟩
  have look : ∀ {y}, scope.names.lookup y = some .free → ∃ c, cenv.cells.lookup y = some c ∧ X.env.cells.lookup y = some c := fun {y} hl => by
    have hy : (y, NameKind.free) ∈ scope.names := PySem.mem_of_lookup hl
    obtain ⟨c', e'⟩ := mem_lookup (cells_acc (names := scope.names) (n := (s.heap.push { cls := .type "dict", data := .dict #[] }).objs.size) (cloFrom_has (cells := X.env.cells) (acc := []) hy))
    rw [← hcl] at e'
    refine ⟨c', e', ?_⟩
    rw [hcl] at e'
    rcases cells_mem (PySem.mem_of_lookup e') with hm | ⟨h1, _, _⟩
    · exact (cm hm).1
    · have := ok.uniq _ h1
      rw [hl] at this; cases this
  have okB : (X.blk s H scope cenv fp).Ok := by
    refine ⟨I.ok.mod, by show cenv.scope.kind = _; rw [hsc]; exact ok.kind, by show cenv.globals = _; rw [← hcenv]; exact I.ok.glob, by show cenv.builtins = _; rw [← hcenv]; exact I.ok.blt, by show s.heap.objs.size ≤ cenv.locals; rw [hL]; exact Nat.le_refl _,
      fun y z c e1 e2 => ?_, fun y hy => ?_, fun y c z e => ?_, I.ok.hd, I.ok.frames, .inl rfl, fun b hb => ⟨?_, fun y c e z => ?_⟩, I.bs, Nat.le_trans I.ok.bsz I.sz, fun b o e hb => ?_, fun b hb z => ?_, I.stack, I.stkFree⟩
    · have e1 : cenv.cells.lookup y = some c := e1
      have e2 : cenv.cells.lookup z = some c := e2
      rw [hcl] at e1 e2
      refine cells_inj (fun p hp => ?_) (fun y z c a b => I.ok.inj y z c (cm a).1 (cm b).1) (PySem.mem_of_lookup e1) (PySem.mem_of_lookup e2)
      rw [Heap.size_push]
      exact Nat.lt_succ_of_lt (cm (y := p.1) (c := p.2) hp).2
    · show ∃ c, cenv.cells.lookup y = some c
      have key : ∀ k, cenv.kindOf y = some k → (k = .cell ∨ k = .free) → ∃ c, cenv.cells.lookup y = some c := fun k hk hk' => by
        unfold Env.kindOf at hk
        rw [hsc] at hk
        obtain ⟨k', e, r⟩ := lookup_relS hk
        have : k' = .cell ∨ k' = .free := by
          rcases r with rfl | ⟨rfl, _⟩
          · exact hk'
          · exact .inr rfl
        rcases this with rfl | rfl
        · obtain ⟨c, hm⟩ := cells_has (n := (s.heap.push { cls := .type "dict", data := .dict #[] }).objs.size) (acc := cloFrom X.env.cells scope.names []) (PySem.mem_of_lookup e)
          obtain ⟨c', e'⟩ := mem_lookup hm
          exact ⟨c', by rw [hcl]; exact e'⟩
        · obtain ⟨c, h1, _⟩ := look e
          exact ⟨c, h1⟩
      rcases hy with hy | hy
      · exact key _ hy (.inl rfl)
      · exact key _ hy (.inr rfl)
    · have z : (scope.names.lookup y == some NameKind.cell) = true := z
      have z : scope.names.lookup y = some .cell := by simpa using z
      have e : cenv.cells.lookup y = some c := e
      rw [hcl] at e
      rcases cells_mem (PySem.mem_of_lookup e) with hm | ⟨_, h2, _⟩
      · rcases cloFrom_mem hm with hm | ⟨h1, _⟩
        · cases hm
        · have q := ok.uniq _ h1
          rw [z] at q; cases q
      · rw [Heap.size_push] at h2
        exact Nat.le_of_succ_le h2
    · show b ≠ cenv.locals
      rw [hL]; exact Nat.ne_of_lt (hfp b hb).2
    · have e : cenv.cells.lookup y = some c := e
      rcases mem e with ⟨h1, _⟩ | ⟨h1, _⟩
      · exact (hfp b hb).1.2.2.2.2.1 y c h1 z
      · have h2 : s.heap.objs.size + 1 ≤ b := by rw [← z]; exact h1
        exact absurd (Nat.lt_of_lt_of_le (hfp b hb).2 (Nat.le_of_succ_le h2)) (Nat.lt_irrefl _)
    · rcases (hfp b hb).1.2.2.2.1 with z | z
      · exact I.ok.noex b o e z
      · exact absurd (Nat.lt_of_lt_of_le (Heap.lt_size e) (Nat.le_trans I.ok.bsz z)) (Nat.lt_irrefl _)
    · rcases List.mem_cons.mp (I.stkSub b z) with z | z
      · exact (hfp b hb).1.2.1 z
      · exact (hfp b hb).1.2.2.1 z
  refine ⟨okB, rfl, I.bare, Un.kept kp, ⟨fun _ => none, ?_, fun i y av e1 e2 e3 => ?_⟩, fun y c e => ?_, ?_, fun y c e => ?_, fun p hp => ?_, I.hok.kept kp, by rw [wipe_length]; exact I.len⟩
  · show Heap.Ns _ cenv.locals _
    rw [hL]
    exact Heap.Ns.keeps (Heap.Ns.new ..) fun b o e => pushCells_keeps _ _ _ _ e
  · obtain ⟨e2, hne⟩ := wipe_some e2
    have hfr : scope.names.lookup y = some .free ∧ (cenv.kindOf y = some .cell ∨ cenv.kindOf y = some .free) := by
      have key : ∀ k, cenv.scope.names.lookup y = some k → k = .local ∨ k = .cell ∨ k = .free → scope.names.lookup y = some .free ∧ (cenv.kindOf y = some .cell ∨ cenv.kindOf y = some .free) := fun k hk hk' => by
        have hk0 := hk
        rw [hsc] at hk
        obtain ⟨k', e, r⟩ := lookup_relS hk
        have no : ¬ (k' = .local ∨ k' = .cell) := fun hh => by
          rcases ok.own _ (PySem.mem_of_lookup e) hh with e' | e'
          · obtain ⟨p, hp, hpy⟩ := List.mem_map.mp e'
            have e3 := ok.ix p hp
            have : p.1 = y := hpy
            rw [this] at e3
            exact hne (List.mem_map.mpr ⟨p, hp, nodup_ix hN e3 e1⟩)
          · exact e' (List.mem_of_getElem? e1)
        rcases r with rfl | ⟨rfl, rfl⟩
        · rcases hk' with rfl | rfl | rfl
          · exact absurd (.inl rfl) no
          · exact absurd (.inr rfl) no
          · exact ⟨e, .inr hk0⟩
        · exact ⟨e, .inl hk0⟩
      have e3 : Vis cenv.scope y := e3
      rcases e3 with e3 | e3 | e3
      · exact key _ e3 (.inl rfl)
      · exact key _ e3 (.inr (.inl rfl))
      · exact key _ e3 (.inr (.inr rfl))
    obtain ⟨m, hn, hl⟩ := I.loc
    have hvis : Vis X.env.scope y := (ok.free _ (PySem.mem_of_lookup hfr.1) rfl).elim (fun k => .inr (.inl k)) (fun k => .inr (.inr k))
    obtain ⟨w, r, q⟩ := hl i y av e1 e2 hvis
    refine ⟨w, r, .inr ⟨hfr.2, ?_⟩⟩
    obtain ⟨c, h1, h2⟩ := look hfr.1
    rcases q with ⟨k, _⟩ | ⟨_, c', e', z⟩
    · have k : X.env.scope.names.lookup y = some .local := k
      rcases ok.free _ (PySem.mem_of_lookup hfr.1) rfl with k' | k' <;> rw [show X.env.scope.names.lookup y = _ from k'] at k <;> cases k
    · rw [h2] at e'; cases e'
      exact ⟨c, h1, z.keeps kp⟩
  · have e : cenv.cells.lookup y = some c := e
    rcases mem e with ⟨h1, _⟩ | ⟨_, z⟩
    · obtain ⟨w, z⟩ := I.cell y c h1
      exact ⟨w, z.keeps kp⟩
    · exact ⟨_, z⟩
  · show H cenv.locals = none
    rw [hL]; exact I.hok.fresh (Nat.le_refl _)
  · have e : cenv.cells.lookup y = some c := e
    rcases mem e with ⟨h1, _⟩ | ⟨h1, _⟩
    · exact I.freeC y c h1
    · exact I.hok.fresh (Nat.le_of_succ_le h1)
  · exact absurd (show p ∈ ([] : List (Addr × Obj)) ++ [] from hp) (by simp)
theorem app_ok {E : Value → Shared → Prop} {D : Addr} {xs : List V} {y : V} {v : Value} {Q : Value → Shared → Prop} (I : Inv X pins σ H s) (hD : H D = some (.lst xs)) (hz : xs.length < sizeLine) (r : RelV y v)
    (h : ∀ s', Inv X pins σ (upd H D (.lst (xs ++ [y]))) s' → Q .none s') : wpAny (model X.prog X.w) X.A (call (.builtin "list.append") [.ref D, v]) Q E s := by
  obtain ⟨hz', its, n, ri, e⟩ := I.hok D _ hD
  have hl := ri.length
  refine append_at (hsz := by rw [List.size_toArray]; omega) e fun h' sb ho' => ?_
  refine h { s with heap := h' } (I.write (t' := s.toks) (by rw [hD]; trivial) (.inl rfl) (fun b u hb q => (sb.2 b hb).trans q) ⟨_, ho'⟩ ⟨by rw [List.length_append]; exact hz, its ++ [v], n + 1, ri.append (.cons r .nil), ?_⟩)
  rw [ho']
  simp
def PTs (X : Cx) (ifs : List Expr) (t : TT) : Prop :=
  ∀ (pins : List (Addr × Obj)) (s : Shared) (σ : St) (H : Hp) (Q : Bool → Hp → Prop), Inv X pins σ H s → t σ H Q →
    wpAny (model X.prog X.w) X.A (forIn ifs true fun c r => if r = true then do let ok ← isTrue c X.env (eval c X.env); pure (ForInStep.yield ok) else pure (ForInStep.yield r)) (TP X pins σ Q) X.xe s
def tYes : TT := fun _ H Q => Q true H
theorem pts_nil : PTs X [] tYes := fun _ _ _ H _ I h => wpAny_tests_nil ⟨H, I, h⟩
end
theorem thnF {α : Type} {t : Sem α} {Q Q' : α → Shared → Prop} {M : Model} {A : Around} {E : Value → Shared → Prop} {s : Shared} (h : wpAny M A t Q (fun _ _ => False) s) (hQ : ∀ a s, Q a s → Q' a s) : wpAny M A t Q' E s := wpAny_mono h hQ fun _ _ z => False.elim z
theorem compLoop_any {prog : Program} {w : World} {A : Around} {R : Result → Shared → Prop} {s : Shared} {elt target iter : Expr} {ifs : List Expr} {scope : Scope} {pos : Pos} {it acc : Value} {env : Env} (I : Nat → Shared → Prop)
    (turn : ∀ n s, I n s → wpAny (model prog w) A (pyNext it) (fun r s₁ => match r with
      | none => R (.ok .next) s₁
      | some v => wpAny (model prog w) A (letOwnedTupleGo target it v) (fun _ s₁' => wpAny (model prog w) A (assign target env v) (fun _ s₂ =>
          wpAny (model prog w) A (forIn ifs true fun c r => if r = true then do let ok ← isTrue c env (eval c env); pure (ForInStep.yield ok) else pure (ForInStep.yield r)) (fun ok s₃ =>
            if ok = true then wpAny (model prog w) A (eval elt env) (fun x s₄ =>
              wpAny (model prog w) A (call (.builtin "list.append") [acc, x]) (fun _ s₅ => ∃ m, m < n ∧ I m s₅) (notedBy (model prog w) A env fun e s' => R (.error e) s') s₄) (notedBy (model prog w) A env fun e s' => R (.error e) s') s₃
            else ∃ m, m < n ∧ I m s₃) (notedBy (model prog w) A env fun e s' => R (.error e) s') s₂) (notedBy (model prog w) A env fun e s' => R (.error e) s') s₁') (notedBy (model prog w) A env fun e s' => R (.error e) s') s₁) (notedBy (model prog w) A env fun e s' => R (.error e) s') s)
    (n : Nat) (h : I n s) :
    codeAny (model prog w) A (.compLoop (.ListComp elt [⟨target, iter, ifs, 0⟩] scope pos) 0 it acc env) R s := by
  refine codeAny_loop rfl I (fun n s hI => ?_) n h
  show wpAny _ A ((compTurn (.ListComp elt [⟨target, iter, ifs, 0⟩] scope pos) 0 it acc env).onRaise (fun x => do noteFrame x env; theTreesLotGoes x)) _ _ s
  refine wpAny_noted ?_
  rw [compTurn_list]
  refine wpAny_bind (wpAny_standAt (wpAny_bind (wpAny_mono (turn n s hI) (fun r s₁ h₁ => ?_) fun _ _ h' => h')))
  cases r with
  | none => exact wpAny_pure h₁
  | some v =>
    refine wpAny_bind (wpAny_mono h₁ (fun _ s₁' h₁' => ?_) fun _ _ h' => h')
    refine wpAny_bind (wpAny_mono h₁' (fun _ s₂ h₂ => wpAny_bind (wpAny_mono h₂ (fun ok s₃ h₃ => ?_) fun _ _ h' => h')) fun _ _ h' => h')
    cases ok with
    | false => exact wpAny_pure ⟨rfl, h₃⟩
    | true =>
      exact wpAny_bind (wpAny_bind (wpAny_mono h₃ (fun x s₄ h₄ => wpAny_bind (wpAny_mono h₄ (fun _ s₅ h₅ => wpAny_pure (wpAny_pure ⟨rfl, h₅⟩)) fun _ _ h' => h')) fun _ _ h' => h'))
section
variable {X : Cx}
def tLc (wi : TI) (g : TG) (tt : TT) (te : TE) (vs : List Nat) : TE := fun σ H Q => wi σ H fun J H1 => ∀ D, H1 D = none → ∃ W : Nat → Nat → Hp → Prop, (∃ m, W 0 m (upd H1 D (.lst []))) ∧ ∀ i m H, W i m H →
  (J.stop i H ∧ Q (.ref D) H) ∨ (J.go i H ∧ ∃ Nx : Hp → Prop, (∀ H', Nx H' → ∃ m', m' < m ∧ W (i + 1) m' H') ∧ ∀ x H', J.yld i H x H' → g x (wipe σ vs) H' fun σ2 H2 => wipe σ2 vs = wipe σ vs ∧ tt σ2 H2 fun b H3 =>
    if b = true then te σ2 H3 fun y H4 => ∃ acc, H4 D = some (.lst acc) ∧ acc.length < sizeLine ∧ Nx (upd H4 D (.lst (acc ++ [y]))) else Nx H3)
theorem lc_core {pins : List (Addr × Obj)} {s : Shared} {σ : St} {H : Hp} {Q : VK} {elt tg iter : Expr} {ifs : List Expr} {scope : Scope} {own : List (Str × Nat)} {pos pos' : Pos} {wi : TI} {g : TG} {tt : TT} {te : TE} {use : Option (Value → Sem Unit)} {Qf : Value → Shared → Prop}
    (hc : X.calm = true) (hN : X.N.Nodup) (I : Inv X pins σ H s) (hi : PI X tg iter wi) (ok : BlkOk X.N X.env.scope scope own)
    (hg : ∀ (s : Shared) (H : Hp) (C : Addr) (cl : List (Str × Addr)) (fp : List Addr), PG (X.blk s H scope (compEnvC scope cl C X.env) fp) tg g) (ht : ∀ (s : Shared) (H : Hp) (C : Addr) (cl : List (Str × Addr)) (fp : List Addr), PTs (X.blk s H scope (compEnvC scope cl C X.env) fp) ifs tt)
    (he : ∀ (s : Shared) (H : Hp) (C : Addr) (cl : List (Str × Addr)) (fp : List Addr), PE (X.blk s H scope (compEnvC scope cl C X.env) fp) elt te) (hs : ∀ x, foldedSetIterable iter X.env x = pure x)
    (h : tLc wi g tt te (own.map (·.2)) σ H Q)
    (hRR : ∀ D C s' m H', Inv X pins σ H' s' → Q (.ref D) H' → s'.heap.Ns C m → FpOk X pins H' C → compPost (model X.prog X.w) X.A X.xe use Qf (.ref D) C (.ok .next) s') :
    wpAny (model X.prog X.w) X.A (comprehension (.ListComp elt [⟨tg, iter, ifs, 0⟩] scope pos) scope X.env pos' (newList []) false (eval iter X.env) use) Qf X.xe s := by
  have hfree : ∀ y ∈ scope.names, y.2 = .free → ∃ c, X.env.cells.lookup y.1 = some c := fun y hy e => by
    rcases ok.free y hy e with k | k
    · exact I.ok.has _ (.inl k)
    · exact I.ok.has _ (.inr k)
  refine wpAny_comprehension_free (use := use) rfl hs (closure_ok hfree) ok.kind (fun y hy e => by rw [ok.uniq y hy, e])
    (thn (hi pins s σ H _ I h) fun xv s1 hx => thn hx fun itv s2 h2 => ?_)
  obtain ⟨it, fp, tn, J, H2, e, I2, T, st2, f2, q⟩ := h2
  subst e
  refine wpAny_newObj_type (newEnv_comp ?_) (by show 0 ≤ sizeLine; decide)
  generalize hD : s2.heap.objs.size = D
  have hDn : H2 D = none := I2.hok.fresh (Nat.le_of_eq hD)
  obtain ⟨W, ⟨m0, w0⟩, turn⟩ := q D hDn
  -- the new list
  generalize hs3 : ({ s2 with heap := s2.heap.push { cls := .type "list", data := .seq ([] : List Value).toArray } } : Shared) = s3
  have I3 : Inv X pins σ (upd H2 D (.lst [])) s3 := by
    rw [← hs3]
    refine I2.laid (t' := s2.toks) (fun b o e => Heap.get?_push_of_some _ e) (Nat.le_of_eq hD) ⟨Nat.zero_le _, [], 0, .nil, ?_⟩
    rw [← hD]
    exact Heap.get?_push_size _ rfl
  have h3 : s3.heap = s2.heap.push { cls := .type "list", data := .seq ([] : List Value).toArray } := by rw [← hs3]
  have sz : ∀ b ∈ fp, b < s2.heap.objs.size := fun b hb => by
    obtain ⟨o, e, _⟩ := T.obj _ _ st2 b hb
    exact Heap.lt_size e
  have f3 : ∀ b ∈ fp, FpOk X pins (upd H2 D (.lst [])) b ∧ b < s3.heap.objs.size := fun b hb => by
    have hlt := sz b hb
    refine ⟨⟨?_, (f2 b hb).2⟩, by rw [h3, Heap.size_push]; exact Nat.lt_succ_of_lt hlt⟩
    rw [upd_ne (by rw [← hD]; exact Nat.ne_of_lt hlt)]
    exact (f2 b hb).1
  have st3 : tn 0 s3.heap := T.keep _ _ _ st2 fun b _ o e => by rw [h3]; exact Heap.get?_push_of_some _ e
  have I4 := block_start I3 ok hN f3
  have pg := hg s3 (upd H2 D (.lst [])) s3.heap.objs.size (cellsFrom (s3.heap.objs.size + 1) scope.names (cloFrom X.env.cells scope.names [])) fp
  have pt := ht s3 (upd H2 D (.lst [])) s3.heap.objs.size (cellsFrom (s3.heap.objs.size + 1) scope.names (cloFrom X.env.cells scope.names [])) fp
  have pe := he s3 (upd H2 D (.lst [])) s3.heap.objs.size (cellsFrom (s3.heap.objs.size + 1) scope.names (cloFrom X.env.cells scope.names [])) fp
  show codeAny _ _ (.compStart (.ListComp elt [⟨tg, iter, ifs, 0⟩] scope pos) 0 (.ref it) (.ref D) (compEnvC scope (cellsFrom (s3.heap.objs.size + 1) scope.names (cloFrom X.env.cells scope.names [])) s3.heap.objs.size X.env)) (compPost (model X.prog X.w) X.A X.xe use Qf (.ref D) s3.heap.objs.size) { s3 with heap := pushCells (s3.heap.push { cls := .type "dict", data := .dict #[] }) scope.names }
  have nfp : ∀ b ∈ fp, (upd H2 D (.lst [])) b = none := fun b hb => (f3 b hb).1.1
  generalize hce : compEnvC scope (cellsFrom (s3.heap.objs.size + 1) scope.names (cloFrom X.env.cells scope.names [])) s3.heap.objs.size X.env = ce at I4 pg pt pe ⊢
  have cL : ce.locals = s3.heap.objs.size := by subst hce; rfl
  generalize hH3 : upd H2 D (.lst []) = H3 at I3 I4 pg pt pe w0 nfp f3
  generalize hs4 : ({ s3 with heap := pushCells (s3.heap.push { cls := .type "dict", data := .dict #[] }) scope.names } : Shared) = s4 at I4 ⊢
  have st4 : tn 0 s4.heap := T.keep _ _ _ st3 fun b _ o e => by rw [← hs4]; exact pushCells_keeps _ _ _ _ (Heap.get?_push_of_some _ e)
  have stat : ∀ {σ' : St} {H' : Hp} {s' : Shared}, Inv (X.blk s3 H3 scope ce fp) [] σ' H' s' → (∀ b ∈ fp, H' b = none) → ∀ b ∈ fp, FpOk (X.blk s3 H3 scope ce fp) [] H' b := fun {σ' H' s'} I' hn b hb =>
    ⟨hn b hb, (I'.ok.exf b hb).1, I'.ok.exfs b hb, .inl hb, fun x c e => (I'.ok.exf b hb).2 x c e, fun p hp => absurd (show p ∈ ([] : List (Addr × Obj)) ++ [] from hp) (by simp)⟩
  have loop : codeAny (model X.prog X.w) X.A (.compLoop (.ListComp elt [⟨tg, iter, ifs, 0⟩] scope pos) 0 (.ref it) (.ref D) ce) (compPost (model X.prog X.w) X.A X.xe use Qf (.ref D) s3.heap.objs.size) s4 := by
    refine compLoop_any (fun n s' => ∃ i H', Inv (X.blk s3 H3 scope ce fp) [] (wipe σ (own.map (·.2))) H' s' ∧ tn i s'.heap ∧ (∀ b ∈ fp, H' b = none) ∧ W i n H') ?_ m0 ⟨0, H3, I4, st4, nfp, w0⟩
    rintro n s5 ⟨i, H5, I5, st5, n5, w5⟩
    rcases turn i n H5 w5 with ⟨stop, qq⟩ | ⟨go, Nx, hNx, step⟩
    · have td := T.done (X.blk s3 H3 scope ce fp) rfl rfl rfl hc i [] s5 _ H5 (fun _ _ => False) I5 (stat I5 n5) st5 stop
      refine thnF td fun r s6 ⟨hr, I6⟩ => ?_
      subst hr
      -- back in the def's context
      have I7 : Inv X pins σ H5 s6 := I3.call' (ch := fp) I6.os I6.base I6.hok I6.bare fun b hb => ⟨(f3 b hb).1.2.2.2.1, (f3 b hb).1.2.1, (f3 b hb).1.2.2.2.2.1, (f3 b hb).1.2.2.2.2.2⟩
      have nC : H5 s3.heap.objs.size = none := by
        have z : H5 ce.locals = none := I6.free
        rw [cL] at z
        exact z
      obtain ⟨m, hn, _⟩ := I6.loc
      have hn : s6.heap.Ns ce.locals m := hn
      rw [cL] at hn
      exact hRR D s3.heap.objs.size s6 m H5 I7 qq hn (I3.fpOk (Nat.le_refl _) nC)
    · have ti := T.item (X.blk s3 H3 scope ce fp) rfl rfl rfl hc i [] s5 _ H5 (fun _ _ => False) I5 (stat I5 n5) st5 go
      refine thnF ti fun r s6 ⟨u, hr, h6⟩ => ?_
      subst hr
      refine thnF h6 fun _ s7 ⟨x, H7, I7, r7, y7, st7, n7⟩ => ?_
      have I7' := I7.pinned (stat I7 n7) (T.obj _ _ st7)
      refine thnF (pg _ s7 _ H7 x u _ I7' r7 (step x H7 y7)) fun _ s8 ⟨σ8, H8, I8, hw8, q8⟩ => ?_
      refine thnF (pt _ s8 σ8 H8 _ I8 q8) fun b s9 ⟨H9, I9, q9⟩ => ?_
      -- the turn's end
      have fin : ∀ {s' : Shared} {H' : Hp}, Inv (X.blk s3 H3 scope ce fp) ([] ++ pinsAt fp s7.heap) σ8 H' s' → Nx H' → ∃ m, m < n ∧ ∃ i H', Inv (X.blk s3 H3 scope ce fp) [] (wipe σ (own.map (·.2))) H' s' ∧ tn i s'.heap ∧ (∀ b ∈ fp, H' b = none) ∧ W i m H' := fun {s' H'} I' nx => by
        obtain ⟨m', hm, w'⟩ := hNx H' nx
        have pin' : ∀ b ∈ fp, ∀ o, s7.heap.get? b = some o → s'.heap.get? b = some o ∧ H' b = none := fun b hb o e =>
          let z := I'.pin (b, o) (List.mem_append_right _ (List.mem_append_right _ (mem_pinsAt hb e)))
          ⟨z.1, z.2.1⟩
        have hl : (wipe σ (own.map (·.2))).length = σ8.length := by rw [← hw8, wipe_length]
        refine ⟨m', hm, i + 1, H', (I'.unpinned (pins := [])).weak hl (fun j v e => ?_), T.keep _ _ _ st7 fun b hb o e => (pin' b hb o e).1, fun b hb => ?_, w'⟩
        · rw [← hw8] at e
          exact (wipe_some e).1
        · obtain ⟨o, e, _⟩ := T.obj _ _ st7 b hb
          exact (pin' b hb o e).2
      cases b with
      | false =>
        simp only [Bool.false_eq_true, if_false] at q9 ⊢
        exact fin I9 q9
      | true =>
        simp only [if_true] at q9 ⊢
        refine thnF (pe _ s9 σ8 H9 _ I9 q9) fun z s10 ⟨yv, H10, I10, r10, acc, hD10, hz10, nx⟩ => ?_
        exact app_ok (X := X.blk s3 H3 scope ce fp) I10 hD10 hz10 r10 fun s11 I11 => fin I11 nx
  exact codeAny_compStart_list loop (T.self X.A 0 _ _ _ st4 loop)
theorem pe_lc {elt tg iter : Expr} {ifs : List Expr} {scope : Scope} {own : List (Str × Nat)} {pos : Pos} {wi : TI} {g : TG} {tt : TT} {te : TE} (hc : X.calm = true) (hN : X.N.Nodup) (hi : PI X tg iter wi) (ok : BlkOk X.N X.env.scope scope own)
    (hg : ∀ (s : Shared) (H : Hp) (C : Addr) (cl : List (Str × Addr)) (fp : List Addr), PG (X.blk s H scope (compEnvC scope cl C X.env) fp) tg g) (ht : ∀ (s : Shared) (H : Hp) (C : Addr) (cl : List (Str × Addr)) (fp : List Addr), PTs (X.blk s H scope (compEnvC scope cl C X.env) fp) ifs tt)
    (he : ∀ (s : Shared) (H : Hp) (C : Addr) (cl : List (Str × Addr)) (fp : List Addr), PE (X.blk s H scope (compEnvC scope cl C X.env) fp) elt te) (hs : ∀ x, foldedSetIterable iter X.env x = pure x := by intro _; rfl) :
    PE X (.ListComp elt [⟨tg, iter, ifs, 0⟩] scope pos) (tLc wi g tt te (own.map (·.2))) := by
  intro pins s σ H Q I h
  rw [eval_ListComp]
  refine lc_core hc hN I hi ok hg ht he hs h fun D C s' m H' I' q hn f => ⟨m, hn, fun h'' sb => ?_⟩
  obtain ⟨f0, f1, f2, f3, f4, f5⟩ := f
  exact ⟨.ref D, H', I'.turned (t' := s'.toks) (fun b o hb e => (sb.2 b hb).trans e) f0 f1 f3 f4 f5, rfl, q⟩
theorem ps_setLc {i : Nat} {y : Str} {py : Pos} {elt tg iter : Expr} {ifs : List Expr} {scope : Scope} {own : List (Str × Nat)} {pos spos : Pos} {wi : TI} {g : TG} {tt : TT} {te : TE} (hc : X.calm = true) (hN : X.N.Nodup) (hy : X.N[i]? = some y) (hyl : X.env.scope.names.lookup y = some .local)
    (hsw : swapsWith (.ListComp elt [⟨tg, iter, ifs, 0⟩] scope pos) (some (.Name y py)) spos.line X.env = pure true) (hi : PI X tg iter wi) (ok : BlkOk X.N X.env.scope scope own)
    (hg : ∀ (s : Shared) (H : Hp) (C : Addr) (cl : List (Str × Addr)) (fp : List Addr), PG (X.blk s H scope (compEnvC scope cl C X.env) fp) tg g) (ht : ∀ (s : Shared) (H : Hp) (C : Addr) (cl : List (Str × Addr)) (fp : List Addr), PTs (X.blk s H scope (compEnvC scope cl C X.env) fp) ifs tt)
    (he : ∀ (s : Shared) (H : Hp) (C : Addr) (cl : List (Str × Addr)) (fp : List Addr), PE (X.blk s H scope (compEnvC scope cl C X.env) fp) elt te) (hs : ∀ x, foldedSetIterable iter X.env x = pure x := by intro _; rfl) :
    PS X (.Assign [.Name y py] (.ListComp elt [⟨tg, iter, ifs, 0⟩] scope pos) spos) (tAsg (tLc wi g tt te (own.map (·.2))) (gName i)) := by
  intro pins s σ H D I h
  rw [exec_Assign_Name_used _ _ _ _ hsw]
  refine wpAny_bind (wpAny_standAt (wpAny_bind ?_))
  show wpAny _ X.A (do let _ ← comprehension (.ListComp elt [⟨tg, iter, ifs, 0⟩] scope pos) scope X.env (firstIterPos [⟨tg, iter, ifs, 0⟩] pos) (newList []) false (eval iter X.env) (some (assign (.Name y py) X.env))) _ _ s
  have h : tLc wi g tt te (own.map (·.2)) σ H (fun x H1 => gName i x σ H1 D.nx) := h
  refine wpAny_bind (thn (lc_core (Qf := fun _ s' => SP X pins D .next s') hc hN I hi ok hg ht he hs h fun L C s' m H' I' q hn f => ?_) fun _ s' hq => wpAny_pure (wpAny_pure hq))
  show wpAny _ _ (assign (.Name y py) X.env (.ref L)) _ _ _
  refine wpAny_assign_Name (store_ok2 (v := V.ref L) I' hN hy (.inl hyl) rfl (fun s2 I2 ⟨a, sb, ha⟩ => ?_) (.inr hyl))
  obtain ⟨f0, f1, f2, f3, f4, f5⟩ := f
  have haC : C ≠ a := by
    rcases ha with z | z
    · rw [z]; exact f1
    · exact fun e => f4 y a z e.symm
  refine ⟨m, hn.sameBut sb haC, fun h3 sb3 => ?_⟩
  exact ⟨_, H', I2.turned (t' := s2.toks) (fun b o hb e => (sb3.2 b hb).trans e) f0 f1 f3 f4 f5, q⟩
end
def blkC (N : List Str) (sc scope : Scope) (own : List (Str × Nat)) : Bool :=
  (match scope.kind with | .function => true | _ => false) && (scope.names.all fun y => decide (scope.names.lookup y.1 = some y.2)) && (own.all fun p => decide (N[p.2]? = some p.1)) &&
    (scope.names.all fun y => match y.2 with
      | .free => (match sc.names.lookup y.1 with | some .cell => true | some .free => true | _ => false)
      | .local => decide (y.1 ∈ own.map (·.1)) || decide (y.1 ∉ N)
      | .cell => decide (y.1 ∈ own.map (·.1)) || decide (y.1 ∉ N)
      | _ => true)
theorem blkOk_by {N : List Str} {sc scope : Scope} {own : List (Str × Nat)} (h : blkC N sc scope own = true) : BlkOk N sc scope own := by
  unfold blkC at h
  simp only [Bool.and_eq_true, List.all_eq_true, decide_eq_true_eq] at h
  obtain ⟨⟨⟨h1, h2⟩, h3⟩, h4⟩ := h
  refine ⟨?_, h2, h3, fun y hy e => ?_, fun y hy e => ?_⟩
  · split at h1
    · assumption
    · cases h1
  · have q := h4 y hy
    simp only [e] at q
    split at q <;> first | exact .inl (by assumption) | exact .inr (by assumption) | cases q
  · have q := h4 y hy
    rcases e with e | e <;> (simp only [e, Bool.or_eq_true, decide_eq_true_eq] at q; exact q)
end L2
namespace L2
open PySem PySem.Spec PyProof.Rows
section
variable {prog : Program} {w : World} {A : Around} {R : Result → Shared → Prop} {s : Shared} {elt t0 i0 t1 i1 : Expr} {ifs0 ifs1 : List Expr} {scope : Scope} {pos : Pos} {it acc : Value} {env : Env}
end
section
variable {X : Cx}
end
end L2
namespace L2
open PySem PySem.Spec PyProof.Rows
section
variable {κ : Type} [DecidableEq κ]
def valV (kvs : List (κ × V)) (k : κ) : Option V := (kvs.find? fun kv => decide (kv.1 = k)).map (·.2)
theorem valV_pos {p : κ × V} {r : List (κ × V)} {k : κ} (e : p.1 = k) : valV (p :: r) k = some p.2 := by simp [valV, List.find?_cons, e]
theorem valV_neg {p : κ × V} {r : List (κ × V)} {k : κ} (e : ¬ p.1 = k) : valV (p :: r) k = valV r k := by simp [valV, List.find?_cons, e]
theorem RelO.isSome_eq {o : Option V} {u : Option Value} (r : RelO o u) : o.isSome = u.isSome := by
  cases o with
  | none => cases u with
    | none => rfl
    | some _ => exact (show False from r).elim
  | some _ => cases u with
    | none => exact (show False from r).elim
    | some _ => rfl
theorem KV.val {kvs : List (κ × V)} {vs : List (κ × Value)} (r : KV kvs vs) (k : κ) : RelO (valV kvs k) (valueAt vs k) := by
  unfold KV at r
  induction r with
  | nil => exact True.intro
  | @cons p q ps qs h t ih =>
    obtain ⟨h1, h2⟩ := h
    by_cases e : p.1 = k
    · have e' : q.1 = k := h1.symm.trans e
      have b : valueAt (q :: qs) k = some q.2 := by simp [valueAt, List.find?_cons, e']
      rw [valV_pos e, b]; exact h2
    · have e' : ¬ q.1 = k := fun z => e (h1.trans z)
      have b : valueAt (q :: qs) k = valueAt qs k := by simp [valueAt, List.find?_cons, e']
      rw [valV_neg e, b]; exact ih
end
theorem kV_is {P : Program} {w : World} {k : Key} {u : Value} (r : RelV (kV k) u) : (mixKind P w).is k u = true := by
  cases k with
  | inl i => obtain ⟨t, e⟩ := (show ∃ t, u = Value.int i t from r); subst e; exact mixKind_int P w i t
  | inr x => obtain ⟨t, e⟩ := (show ∃ t, u = Value.str x t from r); subst e; exact mixKind_str P w x t
section
variable {P : Program} {w : World} {H : Hp} {h : Heap} {a : Addr}
end
section
variable {X : Cx} {pins : List (Addr × Obj)} {σ : St} {H : Hp} {s : Shared} {a : Addr} {y v : V} {u r : Value} {o : Option V} {A : Around} {E : Value → Shared → Prop}
end
section
variable {X : Cx} {pins : List (Addr × Obj)} {σ : St} {H : Hp} {s : Shared} {a : Addr} {kvs : List (Key × V)} {k : Key} {u : Value} {A : Around} {E : Value → Shared → Prop}
end
def NoSl (i : Expr) : Prop := ∀ ov iv, subscripted i false ov iv = operate [ov, iv] (getItem ov iv)
theorem subD_of {prog : Program} {w : World} {A : Around} {E : Value → Shared → Prop} {s : Shared} {env : Env} {value slice : Expr} {pos : Pos} {T id : String} {Q : Value → Shared → Prop}
    (hl : typeLookup (.type T) "__getitem__" = pure (some (.builtin id))) (hs : NoSl slice)
    (h : wpAny (model prog w) A (eval value env) (fun o s₁ => wpAny (model prog w) A (eval slice env) (fun i s₂ => s₂.TypeIs o T ∧ wpAny (model prog w) A (getItem o i) Q E s₂) E s₁) E s) :
    wpAny (model prog w) A (eval (.Subscript value slice pos) env) Q E s := by
  refine Subscript_ (wpAny_mono h (fun o s₁ h₁ => wpAny_mono h₁ (fun i s₂ h₂ => ?_) fun _ _ x => x) fun _ _ x => x)
  obtain ⟨hT, h₂⟩ := h₂
  unfold subscriptTail
  refine wpAny_bind ?_
  rw [getitemInPython_of_ne hT.not_modules]
  refine wpAny_bind (wpAny_specialOf hT hl ?_)
  have fin : wpAny (model prog w) A (subscripted slice false o i) (fun r s₃ => wpAny (model prog w) A (letTemporaryGo value o r >>= fun _ => pure r) Q E s₃) E s₂ := by
    rw [hs o i]
    exact wpAny_operating (wpAny_mono h₂ (fun r s₃ h₃ => wpAny_bind (wpAny_letTemporaryGo (wpAny_pure h₃))) fun _ _ x => x)
  first
    | exact wpAny_pure (wpAny_bind fin)
    | exact wpAny_bind (wpAny_pure (wpAny_bind fin))
    | exact wpAny_bind fin
section
variable {X : Cx} {o i e value : Expr} {pos pos' tpos : Pos} {td ty tv : TE}
end
section
variable {X : Cx} {pos : Pos}
end
structure M1 (X : Cx) (o : Expr) (m : Str) (apos : Pos) (e : Expr) (cpos : Pos) : Prop where
  base : attributeBase o m X.env (eval o X.env) = eval o X.env
  few : ((backTo cpos (starEach [e] X.env)).all (fun x => !x.1) && (backToKw cpos (keywordEach [] X.env)).all (fun x => x.1.isSome)
    && decide (([e] : List Expr).length + ([] : List Keyword).length + (if ([] : List Keyword).isEmpty then 0 else 1) < 30)) = true
  line : (apos.endLine == cpos.line) = true
  trees : backTo cpos (starEach [e] X.env) = [(false, eval e X.env)]
structure M2 (X : Cx) (o : Expr) (m : Str) (apos : Pos) (e f : Expr) (cpos : Pos) : Prop where
  base : attributeBase o m X.env (eval o X.env) = eval o X.env
  few : ((backTo cpos (starEach [e, f] X.env)).all (fun x => !x.1) && (backToKw cpos (keywordEach [] X.env)).all (fun x => x.1.isSome)
    && decide (([e, f] : List Expr).length + ([] : List Keyword).length + (if ([] : List Keyword).isEmpty then 0 else 1) < 30)) = true
  line : (apos.endLine == cpos.line) = true
  trees : backTo cpos (starEach [e, f] X.env) = [(false, eval e X.env), (false, eval f X.env)]
section
variable {X : Cx} {pins : List (Addr × Obj)} {σ : St} {H : Hp} {s : Shared} {a : Addr} {y d : V} {u r : Value} {o : Option V} {A : Around} {E : Value → Shared → Prop}
end
section
variable {X : Cx} {o e f : Expr} {apos cpos : Pos} {td ty tx : TE}
end
section
variable {X : Cx} {pins : List (Addr × Obj)} {σ : St} {H : Hp} {s : Shared} {a : Addr} {kvs : List (Key × V)} {A : Around} {E : Value → Shared → Prop}
end
section
variable {X : Cx} {pins : List (Addr × Obj)} {σ : St} {H : Hp} {s : Shared} {a : Addr} {y : V} {u : Value} {A : Around} {E : Value → Shared → Prop}
end
end L2
namespace L2
open PySem PySem.Spec PyProof.Rows
section
variable {prog : Program} {w : World} {A : Around} {E : Value → Shared → Prop}
end
section
variable {X : Cx}
end
end L2
namespace L2
open PySem PySem.Spec PyProof.Rows
section
variable {X : Cx} {pins : List (Addr × Obj)} {σ : St} {H : Hp} {s : Shared} {h' : Heap}
theorem Inv.turnedNew {t' : Nat} {ch : List Addr} {T : Addr} {ob : HO} (I : Inv X pins σ H s) (k : ∀ b o, b ∉ ch → s.heap.get? b = some o → h'.get? b = some o) (hf : ∀ b ∈ ch, FpOk X pins H b) (hT : s.heap.objs.size ≤ T)
    (new : ObjOk X.prog X.w (upd H T ob) h' T ob) : Inv X pins σ (upd H T ob) { s with heap := h', toks := t' } := by
  have hn : H T = none := I.hok.fresh hT
  have nit : ∀ b u, H b = some u → b ∉ ch := fun b u e z => by
    have q := (hf b z).1
    rw [q] at e; cases e
  refine I.step (g' := s.gens) (d' := s.drawn) (ch := ch) (fun b hb => ⟨(hf b hb).2.2.2.1, (hf b hb).2.1, (hf b hb).2.2.2.2.1, (hf b hb).2.2.2.2.2⟩) (fun b o _ _ hc e _ => k b o hc e) (fun b o _ _ hc e _ => ⟨o.slots, k b o hc e⟩)
    (fun b o _ e n => ?_) (fun b o hc e => ⟨o, k b o hc e⟩) (fun b xs e => ?_) (fun b o u e => ?_) (fun b ps e => ⟨#[], ?_⟩) (fun m hm => ?_) (fun b u e => ?_) I.bare
  · rw [upd_ne (Nat.ne_of_lt (Nat.lt_of_lt_of_le (Heap.lt_size e) hT))]; exact n
  · rw [upd_ne (ne_of_none e hn)]; exact e
  · rw [upd_ne (ne_of_none e hn)]; exact e
  · rw [upd_ne (ne_of_none e hn), e]; simp
  · obtain ⟨o, es, ep, ho, r⟩ := hm
    exact ⟨o, es, ep, k _ o (fun z => (hf _ z).2.1 rfl) ho, r⟩
  · by_cases hb : b = T
    · subst hb
      rw [upd_same] at e
      cases e
      exact new
    · rw [upd_ne hb] at e
      refine (I.hok b u e).stay (fun c v hc q => k c v ?_ q) (fun c q => by rw [upd_ne (ne_of_none q hn)]; exact q) fun c xs q => by rw [upd_ne (ne_of_none q hn)]; exact q
      rcases hc with z | z
      · rw [z]; exact nit b u e
      · exact nit c _ z
end
section
variable {X : Cx}
theorem pi_one {tg : Expr} {pins : List (Addr × Obj)} {σ : St} {H : Hp} {s : Shared} {R : It → Hp → Prop} {J : It} {tn : Nat → Heap → Prop} {tk : Nat} (I : Inv X pins σ H s) (o : Obj)
    (T : Turn X.prog X.w X.K tg J [s.heap.objs.size] s.heap.objs.size tn) (st : tn 0 (s.heap.push o)) (q : R J H) : PIE X pins σ tg R (.ref s.heap.objs.size) { s with heap := s.heap.push o, toks := tk } := by
  refine ⟨s.heap.objs.size, [s.heap.objs.size], tn, J, H, rfl, I.kept fun b ob e => Heap.get?_push_of_some _ e, T, st, fun b hb => ?_, q⟩
  have e : b = s.heap.objs.size := by simpa using hb
  subst e
  exact I.fpOk (Nat.le_refl _) (I.hok.fresh (Nat.le_refl _))
end
section
variable {X : Cx} {tg : Expr}
end
section
variable {X : Cx} {tg : Expr}
end
def Its (x : Str) : It := ⟨fun i _ => i < x.cps.size, fun i H v H' => H' = H ∧ ∃ c, x.cps[i]? = some c ∧ v = .str ⟨#[c]⟩, fun i _ => x.cps.size ≤ i⟩
theorem turn_str {P : Program} {w : World} {K : PySem.W.Frag} {tg : Expr} (it : Addr) (x : Str) (t : Tok) (ty : String) (hty : ty = "str_ascii_iterator" ∨ ty = "str_iterator") :
    Turn P w K tg (Its x) [it] it (fun i h => h.IsStrIter it ty x t i) where
  mem := by simp
  obj := fun i h st b hb => by
    have e : b = it := by simpa using hb
    subst e
    obtain ⟨o, e, c, d⟩ := st
    exact ⟨o, e, fun v z => by rw [d] at z; cases z⟩
  keep := fun i h h' st k => let ⟨o, ho, r⟩ := st; ⟨o, k it (by simp) o ho, r⟩
  item := by
    intro X hP hw hK hc i pins s σ H E I hf st hg
    subst hP hw hK
    obtain ⟨f0, f1, f2, f3, f4, f5⟩ := hf it (by simp)
    have W : Walks X.prog X.w X.A it [it] [it] x.cps.size (SignAt x) (fun i h => h.IsStrIter it ty x t i) := by
      rcases hty with e | e
      · rw [e]; exact Walks.strAscii (I.ok.hd hc) it x t
      · rw [e]; exact Walks.strWide (I.ok.hd hc) it x t
    have hno : ["enumerate", "zip", "dict_itemiterator", "dict_reverseitemiterator", "odict_iterator", "itertools.zip_longest", "itertools.pairwise"].contains ty = false := by
      rcases hty with e | e
      · rw [e]; decide
      · rw [e]; decide
    refine W.item i s _ _ hg st fun v h' tk hv st' kk => ?_
    obtain ⟨c, u, hcx, rfl⟩ := hv
    have I1 : Inv X pins σ H { s with heap := h', toks := tk } := I.turned (fun b o hb e => kk b o (by simpa using hb) e) f0 f1 f3 f4 f5
    obtain ⟨oi, e, cc, dd⟩ := id st'
    exact ⟨_, rfl, go_of (s := { s with heap := h', toks := tk }) e cc dd hno ⟨.str ⟨#[c]⟩, H, I1, ⟨u, rfl⟩, ⟨rfl, c, hcx, rfl⟩, st', fun b hb => (hf b hb).1⟩⟩
  done := by
    intro X hP hw hK hc i pins s σ H E I hf st hg
    subst hP hw hK
    obtain ⟨f0, f1, f2, f3, f4, f5⟩ := hf it (by simp)
    have hx : x.cps[i]? = none := Array.getElem?_eq_none hg
    rcases hty with e | e
    · rw [e] at st
      exact wpAny_pyNext_ascii_end (I.ok.hd hc) st hx fun h' eb => ⟨rfl, I.turned (t' := s.toks) (fun b o hb e => eb b o hb e) f0 f1 f3 f4 f5⟩
    · rw [e] at st
      exact wpAny_pyNext_wide_end (I.ok.hd hc) st hx fun h' eb => ⟨rfl, I.turned (t' := s.toks) (fun b o hb e => eb b o hb e) f0 f1 f3 f4 f5⟩
  self := fun A i s Q E st h => by
    rcases hty with e | e
    · rw [e] at st; exact wpAny_pyIter_striter_ascii st h
    · rw [e] at st; exact wpAny_pyIter_striter_wide st h
def iStr (te : TE) : TI := fun σ H R => te σ H fun v H1 => ∃ x, v = .str x ∧ R (Its x) H1
theorem pi_str {X : Cx} {tg e : Expr} {te : TE} (he : PE X e te) : PI X tg e (iStr te) := by
  intro pins s σ H R I h
  refine thn (he pins s σ H _ I h) fun v s1 ⟨y, H1, I1, r1, x, ex, q⟩ => ?_
  subst ex
  obtain ⟨t, rfl⟩ := r1
  cases ha : x.cps.all (· < 128)
  · exact wpAny_pyIter_wide ha (pi_one (tk := s1.toks) I1 _ (turn_str _ x t "str_iterator" (.inr rfl)) ⟨_, Heap.get?_push_size _ rfl, rfl, rfl⟩ q)
  · exact wpAny_pyIter_ascii ha (pi_one (tk := s1.toks) I1 _ (turn_str _ x t "str_ascii_iterator" (.inl rfl)) ⟨_, Heap.get?_push_size _ rfl, rfl, rfl⟩ q)
section
variable {prog : Program} {w : World} {A : Around} {E : Value → Shared → Prop} {s : Shared}
end
theorem kv_get {κ : Type} {kvs : List (κ × V)} {vs : List (κ × Value)} (h : KV kvs vs) : ∀ {i : Nat} {k : κ} {v : V}, kvs[i]? = some (k, v) → ∃ u, vs[i]? = some (k, u) ∧ RelV v u := by
  unfold KV at h
  induction h with
  | nil => intro i k v e; simp at e
  | @cons a b l₁ l₂ r t ih =>
    intro i k v e
    cases i with
    | zero =>
      simp only [List.getElem?_cons_zero, Option.some.injEq] at e
      subst e
      refine ⟨b.2, ?_, r.2⟩
      simp only [List.getElem?_cons_zero]
      exact congrArg some (Prod.ext r.1.symm rfl)
    | succ j =>
      simp only [List.getElem?_cons_succ] at e ⊢
      exact ih e
theorem paired_get {α β : Type} {G : α → β → Prop} {l₁ : List α} {l₂ : List β} (h : Paired G l₁ l₂) : ∀ {i : Nat} {a : α}, l₁[i]? = some a → ∃ b, l₂[i]? = some b ∧ G a b := by
  induction h with
  | nil => intro i a e; simp at e
  | @cons a b l₁ l₂ r t ih =>
    intro i a' e
    cases i with
    | zero =>
      simp only [List.getElem?_cons_zero, Option.some.injEq] at e
      subst e
      exact ⟨b, rfl, r⟩
    | succ j =>
      simp only [List.getElem?_cons_succ] at e ⊢
      exact ih e
theorem relV_key {k : Key} {u : Value} (h : keyIs k u = true) : RelV (kV k) u := by
  rcases keyIs_shape h with ⟨i, t, rfl, rfl⟩ | ⟨x, t, rfl, rfl⟩
  · exact ⟨t, rfl⟩
  · exact ⟨t, rfl⟩
section
variable {X : Cx} {pins : List (Addr × Obj)} {σ : St} {H : Hp} {s : Shared} {d : Addr} {o : Obj}
end
theorem dict_ep {o : Obj} {es es' : Array DictEntry} {ep ep' : Nat} (h : o.data = .dict es ep) (h' : o.data = .dict es' ep') : es' = es ∧ ep' = ep := by
  rw [h] at h'
  cases h'
  exact ⟨rfl, rfl⟩
section
variable {P : Program} {w : World} {K : PySem.W.Frag} {tg : Expr} {d : Addr} {o : Obj} {es : Array DictEntry} {ep : Nat}
end
section
variable {X : Cx} {tg e : Expr} {td : TE} {apos cpos : Pos}
end
end L2
section 
namespace Bits
open PySem PyProof.Rows
end Bits
end 
section 
namespace TL
open PySem PySem.Builtin PySem.Builtin.Str PySem.StrLaws
end TL
end 
namespace L2
open PySem PySem.Spec PyProof.Rows
section
variable {X : Cx} {pins : List (Addr × Obj)} {σ : St} {H : Hp} {s : Shared} {Q : VK}
end
section
variable {X : Cx}
end
section
variable {X : Cx} {o e : Expr} {to te : TE}
end
end L2
namespace L2
open PySem PySem.Spec PyProof.Rows
section
variable {X : Cx}
end
end L2
namespace Att
open PySem PySem.W PySem.Calls PyProof.Rows
section
variable {prog : Program} {w : World} {A : Around} {E : Value → Shared → Prop} {s : Shared} {K : Frag}
end
end Att
namespace L2
open PySem PySem.Spec PyProof.Rows
end L2
namespace L2
open PySem PySem.Spec PyProof.Rows
end L2
namespace L2
open PySem PySem.Spec PyProof.Rows
def inClass (s : Stmt) (j : Nat) : Stmt := match s with
  | .ClassDef _ _ _ body _ _ _ _ _ _ _ => body.getD j (.Pass ⟨0, 0, 0, 0⟩)
  | _ => .Pass ⟨0, 0, 0, 0⟩
def defArgs (s : Stmt) : Arguments := match s with
  | .FunctionDef _ a _ _ _ _ _ _ _ _ => a
  | _ => { posonlyargs := [], args := [], vararg := none, kwonlyargs := [], kw_defaults := [], kwarg := none, defaults := [] }
def defBody (s : Stmt) : List Stmt := match s with
  | .FunctionDef _ _ b _ _ _ _ _ _ _ => b
  | _ => []
def defScope (s : Stmt) : Scope := match s with
  | .FunctionDef _ _ _ _ _ _ sc _ _ _ => sc
  | _ => { kind := .function, names := [], isGenerator := false, isCoroutine := false }
abbrev CX0 : CXT := fun _ _ _ _ _ _ => False
abbrev E0 : XK := fun _ _ _ => False
theorem pass0 {X : Cx} : Passes CX0 X E0 := fun _ _ _ _ _ _ _ h => h.elim
structure Fun (K : PySem.W.Frag) (x qual : Str) (st : Stmt) (f : Addr) (fd : FuncData) : Prop where
  ex : ∃ (oc : Value) (od : Option Addr) (kV doc pm : Value) (an : Option Addr) (cdv ct : Value) (osl : Array (Option Value)),
    fd = PySem.W.fnOf x qual (defArgs st) (defBody st) (defScope st) .none kV doc pm an cdv ct ∧ K.lookup f = some ⟨oc, od, .func fd, osl⟩ ∧ PySem.W.codeIn K cdv qual = true
  kp : PySem.W.keepIn K (.ref f) = true
section
variable {P : Program} {w : World} {K : PySem.W.Frag} {mg : Str → Option Value} {base : Heap}
theorem Fun.ok {x qual : Str} {st : Stmt} {f : Addr} {fd : FuncData} {N ps : List Str} {k : Nat} {sp : Sp} (F : Fun K x qual st f fd) (S : FnScope N ps (defScope st)) (len : ∀ vs H Q E, sp vs H Q E → vs.length = ps.length)
    (hbody : ∀ (cdv : Value) (A : Around) (outer : List Env) (s : Shared) (H : Hp) (vs : List V) (Q : VK) (E : XK), Room k (A.deeper (envOfC qual (defScope st) s.heap.objs.size f cdv)) → sp vs H Q E →
      ∃ t, PSs (cxOf CX0 P w K mg base N qual (defScope st) f cdv A outer s H E).nox (defBody st) t ∧ t { nx := fun _ H' => Q .non H', rt := Q } (start N vs) H) : FnOk P w K mg base CX0 (k + 1) f fd ps sp := by
  obtain ⟨oc, od, kV, doc, pm, an, cdv, ct, osl, rfl, lk, hcd⟩ := F.ex
  refine fn_of lk hcd S len fun A outer s H vs Q E hr hsp => ?_
  obtain ⟨t, h, q⟩ := hbody cdv A outer s H vs Q E hr hsp
  exact ⟨t, h.nox, q⟩
theorem Fun.binds {x qual : Str} {st : Stmt} {f : Addr} {fd : FuncData} {ps : List Str} (F : Fun K x qual st f fd)
    (h : ∀ (kV doc pm : Value) (an : Option Addr) (cdv ct : Value) (us : List Value), us.length = ps.length → bindArgs (PySem.W.fnOf x qual (defArgs st) (defBody st) (defScope st) .none kV doc pm an cdv ct) ⟨us, []⟩ = pure (ps.zip us)) : Binds K fd ps [] := by
  obtain ⟨oc, od, kV, doc, pm, an, cdv, ct, osl, rfl, lk, hcd⟩ := F.ex
  exact .all (h kV doc pm an cdv ct)
theorem fun_mk {x qual : Str} {st : Stmt} {f : Addr} {oc : Value} {od an : Option Addr} {osl : Array (Option Value)} {kV doc pm cdv ct : Value} (l : K.lookup f = some ⟨oc, od, .func (PySem.W.fnOf x qual (defArgs st) (defBody st) (defScope st) .none kV doc pm an cdv ct), osl⟩)
    (c : PySem.W.codeIn K cdv qual = true) (k : PySem.W.keepIn K (.ref f) = true) : Fun K x qual st f (PySem.W.fnOf x qual (defArgs st) (defBody st) (defScope st) .none kV doc pm an cdv ct) := ⟨⟨oc, od, kV, doc, pm, an, cdv, ct, osl, rfl, l, c⟩, k⟩
end
section
variable {X : Cx}
theorem pv (i : Nat) {x : Str} {pos : Pos} (hN : X.N[i]? = some x := by rfl) (hv : Vis X.env.scope x := by first | exact Or.inl rfl | exact Or.inr (Or.inl rfl) | exact Or.inr (Or.inr rfl)) (hd : (x == ("__debug__" : Str)) = false := by decide)
    (hcd : (x == ("__classdict__" : Str)) = false := by decide) : PE X (.Name x pos) (tVar i) := pe_var hN hv hd hcd
end
theorem iteF {A B : Prop} (h : B) : if false = true then A else B := by
  rw [if_neg Bool.false_ne_true]
  exact h
theorem iteT {A B : Prop} (h : A) : if true = true then A else B := by
  rw [if_pos rfl]
  exact h
theorem ite2 {c A B : Prop} [Decidable c] (h1 : c → A) (h2 : ¬ c → B) : if c then A else B := by
  by_cases h : c
  · rw [if_pos h]
    exact h1 h
  · rw [if_neg h]
    exact h2 h
theorem iteNS {c A B : Prop} [Decidable c] (hc : c) (h : B) : if (!decide c) = true then A else B := by
  rw [decide_eq_true hc]
  exact iteF h
def Same (H H' : Hp) : Prop := ∀ b o, H b = some o → H' b = some o
theorem Same.refl (H : Hp) : Same H H := fun _ _ h => h
theorem Same.trans {H H1 H2 : Hp} (a : Same H H1) (b : Same H1 H2) : Same H H2 := fun c o h => b c o (a c o h)
theorem Same.free {H H' : Hp} (e : Same H H') {l : Addr} (h : H' l = Option.none) : H l = Option.none := by
  cases q : H l with
  | none => rfl
  | some o =>
    rw [e l o q] at h
    cases h
theorem Same.seq {K : PySem.W.Frag} {H H' : Hp} {a : Addr} {xs : List V} (e : Same H H') (h : SqL K H a xs) : SqL K H' a xs := by
  rcases h with (h | ⟨o, h⟩) | h
  · exact .inl (.inl (e _ _ h))
  · exact .inl (.inr ⟨o, e _ _ h⟩)
  · exact .inr h
section
variable {κ : Type} [DecidableEq κ]
end
end L2
end
section
set_option Elab.async false
set_option linter.all false
set_option maxRecDepth 100000
set_option maxHeartbeats 2000000
namespace L2
open PySem PySem.Spec PyProof.Rows
open PySem.W (WData Codec OpenSpec Well WellAll ReadsW ReadsAllW)
mutual
inductive Dw (K : PySem.W.Frag) (H : Hp) : V → WData → Prop
  | non : Dw K H .non .none
  | bl (b : Bool) : Dw K H (.bl b) (.bool b)
  | int (i : Int) : Dw K H (.int i) (.int i)
  | str (x : Str) : Dw K H (.str x) (.str x)
  | byt (b : Array UInt8) : Dw K H (.byt b) (.bytes b.toList)
  | lst {a : Addr} {xs : List V} {ds : List WData} : SqL K H a xs → DwAll K H xs ds → Dw K H (.ref a) (.list ds)
  | tup {a : Addr} {xs : List V} {ds : List WData} : SqT K H a xs → DwAll K H xs ds → Dw K H (.ref a) (.tuple ds)
inductive DwAll (K : PySem.W.Frag) (H : Hp) : List V → List WData → Prop
  | nil : DwAll K H [] []
  | cons {v : V} {vs : List V} {d : WData} {ds : List WData} : Dw K H v d → DwAll K H vs ds → DwAll K H (v :: vs) (d :: ds)
end
theorem dw_ints {K : PySem.W.Frag} {H : Hp} : ∀ ns : List Int, DwAll K H (ns.map V.int) (ns.map WData.int)
  | [] => .nil
  | n :: r => .cons (.int n) (dw_ints r)
theorem ints_dw {K : PySem.W.Frag} {H : Hp} : ∀ (ns : List Int) (xs : List V), DwAll K H xs (ns.map WData.int) → xs = ns.map V.int
  | [], xs, h => by
    cases h
    rfl
  | n :: r, xs, h => by
    cases h with
    | cons h1 h2 =>
      cases h1
      rw [ints_dw r _ h2] <;> rfl
section
variable {P : Program} {w : World} {K : PySem.W.Frag} {H : Hp} {h : Heap} {R : PySem.W.WRecords} {cl : Str → Option Addr}
theorem sqL_at {a : Addr} {xs : List V} (hok : HOk P w H h) (KX : K.In h) (q : SqL K H a xs) : ∃ (its : List Value) (o : Obj) (n : Nat), Vals xs its ∧ h.get? a = some o ∧ o.cls = .type "list" ∧ o.data = .seq its.toArray n := by
  rcases q with q | ⟨o, its, n, e, hc, _, hd, _, hv⟩
  · obtain ⟨_, its, n, hv, e⟩ := (show ObjOk P w H h a (.lst xs) from q.ok hok)
    exact ⟨its, _, n, hv, e, rfl, rfl⟩
  · exact ⟨its.toList, o, n, hv, KX _ _ e, hc, by simp [hd]⟩
theorem sqT_at {a : Addr} {xs : List V} (hok : HOk P w H h) (KX : K.In h) (q : SqT K H a xs) : ∃ (its : List Value) (o : Obj) (n : Nat), Vals xs its ∧ h.get? a = some o ∧ o.cls = .type "tuple" ∧ o.data = .seq its.toArray n := by
  rcases q with q | ⟨o, its, n, e, hc, hd, _, hv⟩
  · obtain ⟨_, its, hv, o, e, hc, n, hd⟩ := (show ObjOk P w H h a (.tup xs) from q.ok hok)
    exact ⟨its, o, n, hv, e, hc, hd⟩
  · exact ⟨its.toList, o, n, hv, KX _ _ e, hc, by simp [hd]⟩
mutual
theorem Dw.reads (hok : HOk P w H h) (KX : K.In h) : ∀ (d : WData) (v : V) (u : Value), Dw K H v d → RelV v u → ∃ as, ReadsW R cl h u d as
  | .none, _, _, x, r => by
    cases x
    cases r
    exact ⟨_, ReadsW.none⟩
  | .bool b, _, _, x, r => by
    cases x
    cases r
    exact ⟨_, ReadsW.bool b⟩
  | .int i, _, _, x, r => by
    cases x
    obtain ⟨t, rfl⟩ := r
    exact ⟨_, ReadsW.int i t⟩
  | .str s, _, _, x, r => by
    cases x
    obtain ⟨t, rfl⟩ := r
    exact ⟨_, ReadsW.str s t⟩
  | .bytes b, _, _, x, r => by
    cases x
    obtain ⟨t, rfl⟩ := r
    exact ⟨_, ReadsW.bytes _ t⟩
  | .list ds, _, _, x, r => by
    cases x with
    | lst hs ha =>
      cases r
      obtain ⟨its, o, n, rv, ho, hc, hd⟩ := sqL_at hok KX hs
      obtain ⟨as, hr⟩ := Dw.readsAll hok KX ds _ its ha rv
      exact ⟨_, ReadsW.list ho hc hd hr⟩
  | .tuple ds, _, _, x, r => by
    cases x with
    | tup hs ha =>
      cases r
      obtain ⟨its, o, n, rv, ho, hc, hd⟩ := sqT_at hok KX hs
      obtain ⟨as, hr⟩ := Dw.readsAll hok KX ds _ its ha rv
      exact ⟨_, ReadsW.tuple ho hc hd hr⟩
  | .float _, _, _, x, _ => by cases x
  | .dict _, _, _, x, _ => by cases x
  | .bytearray _, _, _, x, _ => by cases x
  | .set _, _, _, x, _ => by cases x
  | .frozenset _, _, _, x, _ => by cases x
  | .obj _ _, _, _, x, _ => by cases x
theorem Dw.readsAll (hok : HOk P w H h) (KX : K.In h) : ∀ (ds : List WData) (vs : List V) (us : List Value), DwAll K H vs ds → Vals vs us → ∃ as, ReadsAllW R cl h us ds as
  | [], _, _, x, r => by
    cases x
    cases r
    exact ⟨_, ReadsAllW.nil⟩
  | d :: ds, _, _, x, r => by
    cases x with
    | cons h1 h2 =>
      cases r with
      | cons r1 r2 =>
        obtain ⟨as, q1⟩ := Dw.reads hok KX d _ _ h1 r1
        obtain ⟨bs, q2⟩ := Dw.readsAll hok KX ds _ _ h2 r2
        exact ⟨_, ReadsAllW.cons q1 q2⟩
end
end
mutual
def plW : WData → Bool
  | .none => true
  | .bool _ => true
  | .int _ => true
  | .str _ => true
  | .bytes _ => true
  | .list xs => plWs xs
  | .tuple xs => plWs xs
  | _ => false
def plWs : List WData → Bool
  | [] => true
  | x :: r => plW x && plWs r
end
theorem plWs_map {α : Type} {f : α → WData} (h : ∀ a, plW (f a) = true) : ∀ l : List α, plWs (l.map f) = true
  | [] => rfl
  | x :: r => by
    show (plW (f x) && plWs (r.map f)) = true
    rw [h x, plWs_map h r] <;> rfl
theorem pl_enc : ∀ (c : Codec) (a : c.denote), plW (c.enc a) = true
  | .unit, _ => rfl
  | .bool, _ => rfl
  | .int _ _, _ => rfl
  | .nat _ _, _ => rfl
  | .u8, _ => rfl
  | .bytes _ _, _ => rfl
  | .text _ _ _ _, _ => rfl
  | .list _ _ c, a => plWs_map (fun x => pl_enc c x) a
  | .pair c d, a => by
    show (plW (c.enc a.1) && (plW (d.enc a.2) && true)) = true
    rw [pl_enc c a.1, pl_enc d a.2] <;> rfl
  | .triple c d e, a => by
    show (plW (c.enc a.1) && (plW (d.enc a.2.1) && (plW (e.enc a.2.2) && true))) = true
    rw [pl_enc c a.1, pl_enc d a.2.1, pl_enc e a.2.2] <;> rfl
  | .option c, none => rfl
  | .option c, some x => pl_enc c x
theorem pl_encAll : ∀ (cs : List Codec) (a : Codec.denoteAll cs), plWs (Codec.encAll cs a) = true
  | [], _ => rfl
  | c :: cs, a => by
    show (plW (c.enc a.1) && plWs (Codec.encAll cs a.2)) = true
    rw [pl_enc c a.1, pl_encAll cs a.2] <;> rfl
theorem weight_mem : ∀ {xs : List WData} {d : WData}, d ∈ xs → d.weight ≤ WData.weightAll xs
  | [], d, h => absurd h (by simp)
  | x :: r, d, h => by
    show d.weight ≤ x.weight + 1 + WData.weightAll r
    rcases List.mem_cons.mp h with e | m
    · rw [e]
      omega
    · have z := weight_mem m
      omega
def toV : Value → V
  | .none => .non
  | .bool b => .bl b
  | .int i _ => .int i
  | .str x _ => .str x
  | .bytes b _ => .byt b
  | .ref a => .ref a
  | _ => .non
def OkU (A : List Addr) : Value → Prop
  | .none => True
  | .bool _ => True
  | .int _ _ => True
  | .str _ _ => True
  | .bytes _ _ => True
  | .ref a => a ∈ A
  | _ => False
theorem OkU.mono {A B : List Addr} (h : ∀ a ∈ A, a ∈ B) : ∀ {u : Value}, OkU A u → OkU B u := fun {u} x => by
  cases u with
  | ref a => exact h a x
  | none => trivial
  | bool b => trivial
  | int i t => trivial
  | str s t => trivial
  | bytes b t => trivial
  | _ => exact False.elim x
theorem relV_toV {A : List Addr} {u : Value} (x : OkU A u) : RelV (toV u) u := by
  cases u with
  | ref a => rfl
  | none => rfl
  | bool b => rfl
  | int i t => exact ⟨t, rfl⟩
  | str s t => exact ⟨t, rfl⟩
  | bytes b t => exact ⟨t, rfl⟩
  | _ => exact False.elim x
theorem vals_toV {A : List Addr} : ∀ {vs : List Value}, (∀ u ∈ vs, OkU A u) → Vals (vs.map toV) vs
  | [], _ => .nil
  | u :: r, h => .cons (relV_toV (h u (List.mem_cons_self ..))) (vals_toV fun x hx => h x (List.mem_cons_of_mem _ hx))
def ArgOb (h : Heap) (A : List Addr) (a : Addr) : Prop := ∃ vs : List Value, vs.length ≤ sizeLine ∧ (∀ u ∈ vs, OkU A u) ∧
  (h.get? a = some { cls := .type "list", data := .seq vs.toArray } ∨ h.get? a = some { cls := .type "tuple", data := .seq vs.toArray })
theorem ArgOb.mono {h : Heap} {A B : List Addr} {a : Addr} (k : ∀ a ∈ A, a ∈ B) (x : ArgOb h A a) : ArgOb h B a := by
  obtain ⟨vs, h1, h2, h3⟩ := x
  exact ⟨vs, h1, fun u hu => (h2 u hu).mono k, h3⟩
theorem wellAll_len {P : Params} {h : Heap} : ∀ {vs : List Value} {ds : List WData}, WellAll P h vs ds → vs.length = ds.length
  | _, _, .nil => rfl
  | _, _, .cons _ b => by
    show _ + 1 = _ + 1
    rw [wellAll_len b]
theorem well_list {P : Params} {h : Heap} {v : Value} {ds : List WData} (x : Well P h v (.list ds)) : ∃ (a : Addr) (vs : List Value), v = .ref a ∧ h.get? a = some { cls := .type "list", data := .seq vs.toArray } ∧ WellAll P h vs ds := by
  cases x with
  | list ho hall => exact ⟨_, _, rfl, ho, hall⟩
theorem well_tuple {P : Params} {h : Heap} {v : Value} {ds : List WData} (x : Well P h v (.tuple ds)) : ∃ (a : Addr) (vs : List Value), v = .ref a ∧ h.get? a = some { cls := .type "tuple", data := .seq vs.toArray } ∧ WellAll P h vs ds := by
  cases x with
  | tuple ho hall => exact ⟨_, _, rfl, ho, hall⟩
theorem well_cons {P : Params} {h : Heap} {us : List Value} {d : WData} {ds : List WData} (x : WellAll P h us (d :: ds)) : ∃ (v : Value) (vs : List Value), us = v :: vs ∧ Well P h v d ∧ WellAll P h vs ds := by
  cases x with
  | cons a b => exact ⟨_, _, rfl, a, b⟩
theorem line_of {n : Nat} (h : n ≤ 1048576) : n ≤ sizeLine := Nat.le_trans h (by decide)
section
variable {P : Params} {h : Heap}
mutual
theorem area_one : ∀ (d : WData) (v : Value), Well P h v d → plW d = true → d.weight ≤ 1048576 → ∃ A : List Addr, OkU A v ∧ ∀ a ∈ A, ArgOb h A a
  | .none, _, x, _, _ => by
    cases x
    exact ⟨[], trivial, fun a m => absurd m (by simp)⟩
  | .bool b, _, x, _, _ => by
    cases x
    exact ⟨[], trivial, fun a m => absurd m (by simp)⟩
  | .int i, _, x, _, _ => by
    cases x
    exact ⟨[], trivial, fun a m => absurd m (by simp)⟩
  | .str s, _, x, _, _ => by
    cases x
    exact ⟨[], trivial, fun a m => absurd m (by simp)⟩
  | .bytes b, _, x, _, _ => by
    cases x
    exact ⟨[], trivial, fun a m => absurd m (by simp)⟩
  | .list ds, _, x, p, z => by
    obtain ⟨a, vs, rfl, ho, hall⟩ := well_list x
    have z2 : WData.weightAll ds ≤ 1048576 := z
    obtain ⟨A, h1, h2⟩ := area_all ds _ hall p fun d hd => Nat.le_trans (weight_mem hd) z2
    have k : ∀ b ∈ A, b ∈ a :: A := fun b hb => List.mem_cons_of_mem _ hb
    refine ⟨a :: A, List.mem_cons_self .., fun b hb => ?_⟩
    rcases List.mem_cons.mp hb with e | m
    · rw [e]
      exact ⟨vs, line_of (by rw [wellAll_len hall]; exact Nat.le_trans (PySem.W.length_le_weightAllW ds) z2), fun u hu => (h1 u hu).mono k, .inl ho⟩
    · exact (h2 b m).mono k
  | .tuple ds, _, x, p, z => by
    obtain ⟨a, vs, rfl, ho, hall⟩ := well_tuple x
    have z2 : WData.weightAll ds ≤ 1048576 := z
    obtain ⟨A, h1, h2⟩ := area_all ds _ hall p fun d hd => Nat.le_trans (weight_mem hd) z2
    have k : ∀ b ∈ A, b ∈ a :: A := fun b hb => List.mem_cons_of_mem _ hb
    refine ⟨a :: A, List.mem_cons_self .., fun b hb => ?_⟩
    rcases List.mem_cons.mp hb with e | m
    · rw [e]
      exact ⟨vs, line_of (by rw [wellAll_len hall]; exact Nat.le_trans (PySem.W.length_le_weightAllW ds) z2), fun u hu => (h1 u hu).mono k, .inr ho⟩
    · exact (h2 b m).mono k
  | .float _, _, _, p, _ => Bool.noConfusion (show false = true from p)
  | .dict _, _, _, p, _ => Bool.noConfusion (show false = true from p)
  | .bytearray _, _, _, p, _ => Bool.noConfusion (show false = true from p)
  | .set _, _, _, p, _ => Bool.noConfusion (show false = true from p)
  | .frozenset _, _, _, p, _ => Bool.noConfusion (show false = true from p)
  | .obj _ _, _, _, p, _ => Bool.noConfusion (show false = true from p)
theorem area_all : ∀ (ds : List WData) (vs : List Value), WellAll P h vs ds → plWs ds = true → (∀ d ∈ ds, d.weight ≤ 1048576) → ∃ A : List Addr, (∀ u ∈ vs, OkU A u) ∧ ∀ a ∈ A, ArgOb h A a
  | [], _, x, _, _ => by
    cases x
    exact ⟨[], fun u m => absurd m (by simp), fun a m => absurd m (by simp)⟩
  | d :: ds, _, x, p, z => by
    obtain ⟨v, vs, rfl, x1, x2⟩ := well_cons x
    have q : plW d = true ∧ plWs ds = true := Bool.and_eq_true_iff.mp p
    obtain ⟨A, a1, a2⟩ := area_one d v x1 q.1 (z d (List.mem_cons_self ..))
    obtain ⟨B, b1, b2⟩ := area_all ds vs x2 q.2 fun e he => z e (List.mem_cons_of_mem _ he)
    have kA : ∀ b ∈ A, b ∈ A ++ B := fun b hb => List.mem_append.mpr (.inl hb)
    have kB : ∀ b ∈ B, b ∈ A ++ B := fun b hb => List.mem_append.mpr (.inr hb)
    refine ⟨A ++ B, fun u hu => ?_, fun b hb => ?_⟩
    · rcases List.mem_cons.mp hu with e | m
      · rw [e]
        exact a1.mono kA
      · exact (b1 u m).mono kB
    · rcases List.mem_append.mp hb with m | m
      · exact (a2 b m).mono kA
      · exact (b2 b m).mono kB
end
end
def hoOf (o : Obj) : Option HO := match o.data with
  | .seq vs _ => if (o.cls == Value.type "list") = true then some (.frz o (.lst (vs.toList.map toV))) else some (.frz o (.tup (vs.toList.map toV)))
  | _ => none
def argH (K : PySem.W.Frag) (h : Heap) (A : List Addr) : Hp := fun b => if b ∈ A then (if (K.lookup b).isNone = true then (h.get? b).bind hoOf else none) else none
def OnlyF (H : Hp) : Prop := ∀ b, H b = none ∨ ∃ o u, H b = some (.frz o u)
theorem hoOf_lst (vs : List Value) : hoOf { cls := .type "list", data := .seq vs.toArray } = some (.frz { cls := .type "list", data := .seq vs.toArray } (.lst (vs.map toV))) := by
  show (if (Value.type "list" == Value.type "list") = true then some (HO.frz { cls := .type "list", data := .seq vs.toArray } (.lst (vs.toArray.toList.map toV))) else some (HO.frz { cls := .type "list", data := .seq vs.toArray } (.tup (vs.toArray.toList.map toV)))) = _
  rw [if_pos (beq_self_eq_true _)]
theorem hoOf_tup (vs : List Value) : hoOf { cls := .type "tuple", data := .seq vs.toArray } = some (.frz { cls := .type "tuple", data := .seq vs.toArray } (.tup (vs.map toV))) := by
  show (if (Value.type "tuple" == Value.type "list") = true then some (HO.frz { cls := .type "tuple", data := .seq vs.toArray } (.lst (vs.toArray.toList.map toV))) else some (HO.frz { cls := .type "tuple", data := .seq vs.toArray } (.tup (vs.toArray.toList.map toV)))) = _
  rw [if_neg (by decide)]
section
variable {P : Program} {w : World} {K : PySem.W.Frag} {h : Heap} {A : List Addr}
theorem argH_at {b : Addr} {o : Obj} (hb : b ∈ A) (hk : K.lookup b = none) (e : h.get? b = some o) : argH K h A b = hoOf o := by
  unfold argH
  rw [if_pos hb, hk, if_pos (show (none : Option Obj).isNone = true from rfl), e] <;> rfl
theorem of_argH {b : Addr} {u : HO} (q : argH K h A b = some u) : b ∈ A ∧ K.lookup b = none := by
  unfold argH at q
  by_cases hb : b ∈ A
  · rw [if_pos hb] at q
    cases hk : K.lookup b with
    | none => exact ⟨hb, rfl⟩
    | some o =>
      rw [hk, if_neg (by simp)] at q
      cases q
  · rw [if_neg hb] at q
    cases q
theorem argH_is (ar : ∀ a ∈ A, ArgOb h A a) {b : Addr} {u : HO} (q : argH K h A b = some u) : K.lookup b = none ∧ ∃ vs : List Value, vs.length ≤ sizeLine ∧ (∀ u ∈ vs, OkU A u) ∧
    ((h.get? b = some { cls := .type "list", data := .seq vs.toArray } ∧ u = .frz { cls := .type "list", data := .seq vs.toArray } (.lst (vs.map toV))) ∨
     (h.get? b = some { cls := .type "tuple", data := .seq vs.toArray } ∧ u = .frz { cls := .type "tuple", data := .seq vs.toArray } (.tup (vs.map toV)))) := by
  obtain ⟨hb, hk⟩ := of_argH q
  obtain ⟨vs, h1, h2, h3⟩ := ar b hb
  refine ⟨hk, vs, h1, h2, ?_⟩
  rcases h3 with e | e
  · rw [argH_at hb hk e, hoOf_lst] at q
    exact .inl ⟨e, (Option.some.inj q).symm⟩
  · rw [argH_at hb hk e, hoOf_tup] at q
    exact .inr ⟨e, (Option.some.inj q).symm⟩
theorem argH_only (ar : ∀ a ∈ A, ArgOb h A a) : OnlyF (argH K h A) := fun b => by
  cases q : argH K h A b with
  | none => exact .inl rfl
  | some u =>
    obtain ⟨_, vs, _, _, ⟨_, e⟩ | ⟨_, e⟩⟩ := argH_is ar q
    · exact .inr ⟨_, _, by rw [e]⟩
    · exact .inr ⟨_, _, by rw [e]⟩
theorem argH_ok (ar : ∀ a ∈ A, ArgOb h A a) : HOk P w (argH K h A) h := fun b u q => by
  obtain ⟨_, vs, h1, h2, ⟨e, rfl⟩ | ⟨e, rfl⟩⟩ := argH_is ar q
  · exact ⟨e, by rw [List.length_map]; exact h1, vs, _, vals_toV h2, e⟩
  · exact ⟨e, by rw [List.length_map]; exact h1, vs, vals_toV h2, _, e, rfl, _, rfl⟩
theorem seq_inj {c c' : Value} {vs us : List Value} (e : (some { cls := c, data := .seq vs.toArray } : Option Obj) = some { cls := c', data := .seq us.toArray }) : c = c' ∧ vs = us := by
  have e1 := Option.some.inj e
  have e2 : c = c' := congrArg Obj.cls e1
  have e3 : Data.seq vs.toArray = Data.seq us.toArray := congrArg Obj.data e1
  injection e3 with e4
  refine ⟨e2, ?_⟩
  have e5 := congrArg Array.toList e4
  simpa using e5
theorem argL (KX : K.In h) (ar : ∀ a ∈ A, ArgOb h A a) {a : Addr} {vs : List Value} (ha : a ∈ A) (e : h.get? a = some { cls := .type "list", data := .seq vs.toArray }) : (∀ u ∈ vs, OkU A u) ∧ SqL K (argH K h A) a (vs.map toV) := by
  obtain ⟨us, h1, h2, h3⟩ := ar a ha
  have hu : us = vs := by
    rcases h3 with q | q
    · rw [e] at q
      exact (seq_inj q).2.symm
    · rw [e] at q
      exact absurd (Value.type.inj (seq_inj q).1) (by decide)
  subst hu
  refine ⟨h2, ?_⟩
  cases hk : K.lookup a with
  | none => exact .inl (.inr ⟨_, by rw [argH_at ha hk e, hoOf_lst]⟩)
  | some o =>
    have e2 := KX a o hk
    rw [e] at e2
    obtain rfl := Option.some.inj e2
    exact .inr ⟨_, us.toArray, _, hk, rfl, rfl, rfl, by rw [List.size_toArray]; exact h1, by simpa using vals_toV h2⟩
theorem argT (KX : K.In h) (ar : ∀ a ∈ A, ArgOb h A a) {a : Addr} {vs : List Value} (ha : a ∈ A) (e : h.get? a = some { cls := .type "tuple", data := .seq vs.toArray }) : (∀ u ∈ vs, OkU A u) ∧ SqT K (argH K h A) a (vs.map toV) := by
  obtain ⟨us, h1, h2, h3⟩ := ar a ha
  have hu : us = vs := by
    rcases h3 with q | q
    · rw [e] at q
      exact absurd (Value.type.inj (seq_inj q).1) (by decide)
    · rw [e] at q
      exact (seq_inj q).2.symm
  subst hu
  refine ⟨h2, ?_⟩
  cases hk : K.lookup a with
  | none => exact .inl (.inr ⟨_, by rw [argH_at ha hk e, hoOf_tup]⟩)
  | some o =>
    have e2 := KX a o hk
    rw [e] at e2
    obtain rfl := Option.some.inj e2
    exact .inr ⟨_, us.toArray, _, hk, rfl, rfl, by rw [List.size_toArray]; exact h1, by simpa using vals_toV h2⟩
mutual
theorem dw_one {Pm : Params} (KX : K.In h) (ar : ∀ a ∈ A, ArgOb h A a) : ∀ (d : WData) (v : Value), Well Pm h v d → plW d = true → OkU A v → Dw K (argH K h A) (toV v) d
  | .none, _, x, _, _ => by
    cases x
    exact .non
  | .bool b, _, x, _, _ => by
    cases x
    exact .bl b
  | .int i, _, x, _, _ => by
    cases x
    exact .int i
  | .str s, _, x, _, _ => by
    cases x
    exact .str s
  | .bytes b, _, x, _, _ => by
    cases x
    have z := Dw.byt (K := K) (H := argH K h A) b.toArray
    exact z
  | .list ds, _, x, p, hu => by
    obtain ⟨a, vs, rfl, ho, hall⟩ := well_list x
    obtain ⟨h2, hs⟩ := argL KX ar hu ho
    exact .lst hs (dw_all KX ar ds _ hall p h2)
  | .tuple ds, _, x, p, hu => by
    obtain ⟨a, vs, rfl, ho, hall⟩ := well_tuple x
    obtain ⟨h2, hs⟩ := argT KX ar hu ho
    exact .tup hs (dw_all KX ar ds _ hall p h2)
  | .float _, _, _, p, _ => Bool.noConfusion (show false = true from p)
  | .dict _, _, _, p, _ => Bool.noConfusion (show false = true from p)
  | .bytearray _, _, _, p, _ => Bool.noConfusion (show false = true from p)
  | .set _, _, _, p, _ => Bool.noConfusion (show false = true from p)
  | .frozenset _, _, _, p, _ => Bool.noConfusion (show false = true from p)
  | .obj _ _, _, _, p, _ => Bool.noConfusion (show false = true from p)
theorem dw_all {Pm : Params} (KX : K.In h) (ar : ∀ a ∈ A, ArgOb h A a) : ∀ (ds : List WData) (vs : List Value), WellAll Pm h vs ds → plWs ds = true → (∀ u ∈ vs, OkU A u) → DwAll K (argH K h A) (vs.map toV) ds
  | [], _, x, _, _ => by
    cases x
    exact .nil
  | d :: ds, _, x, p, hu => by
    obtain ⟨v, vs, rfl, x1, x2⟩ := well_cons x
    have q : plW d = true ∧ plWs ds = true := Bool.and_eq_true_iff.mp p
    exact .cons (dw_one KX ar d v x1 q.1 (hu _ (List.mem_cons_self ..))) (dw_all KX ar ds vs x2 q.2 fun u m => hu u (List.mem_cons_of_mem _ m))
end
end
theorem spec_call {P : Program} {w : World} {K : PySem.W.Frag} {mg mb : Str → Option Value} {CX : CXT} {k : Nat} {fa : Addr} {fd : FuncData} {ps : List Str} {sp : Sp} {s₁ : Shared} {vals : List Value} {ds : List WData} {R : PySem.W.WRecords} {cl : Str → Option Addr} {d0 : WData}
    (KX : K.In s₁.heap) (hns : s₁.heap.Ns mainGlobals mg) (hb : s₁.heap.Ns builtinsNs mb) (hbb : ∀ x : Str, x ≠ "__name__" → mb x = bootBuiltins x) (hlim : s₁.heap.NoLimit) (hg : s₁.gens = #[])
    (hwl : WellAll w.params s₁.heap vals ds) (hpl : plWs ds = true) (hwt : ∀ d ∈ ds, d.weight ≤ 1048576) (hr : Room k callerA)
    (F : ∀ base : Heap, K.In base → base.Ns mainGlobals mg → FnOk P w K mg base CX k fa fd ps sp) (hbind : ∀ (s : Shared) (us : List Value), us.length = ps.length → BindsTo s fd ⟨us, []⟩ (ps.zip us)) (hlen : ds.length = ps.length)
    (hsp : ∀ (H : Hp) (xs : List V), OnlyF H → DwAll K H xs ds → sp xs H (fun v H' => Dw K H' v d0) fun _ _ _ => False)
    (hCX : ∀ H e s', CX [] H s₁ (fun _ _ _ => False) e s' → False) :
    codeAny (model P w) callerA (.call (.ref fa) ⟨vals, []⟩) (fun r s' => ∃ u as, r = .ok (.ret u) ∧ ReadsW R cl s'.heap u d0 as ∧ OldK s₁.heap s'.heap ∧ s'.os = s₁.os ∧ AllBare s'.gens) s₁ := by
  obtain ⟨A, ho, ar⟩ := area_all ds vals hwl hpl hwt
  have hO : OnlyF (argH K s₁.heap A) := argH_only ar
  have hok : HOk P w (argH K s₁.heap A) s₁.heap := argH_ok ar
  have hS := dw_all KX ar ds vals hwl hpl ho
  have hV := vals_toV ho
  have hK : ∀ b u, argH K s₁.heap A b = some u → K.lookup b = none := fun b u q => (argH_is ar q).1
  have noA : ∀ {b : Addr} {o : Obj} {es : Array DictEntry} {ep : Nat}, s₁.heap.get? b = some o → o.data = .dict es ep → argH K s₁.heap A b = none := fun {b o es ep} e d => by
    cases q : argH K s₁.heap A b with
    | none => rfl
    | some u =>
      obtain ⟨_, vs, _, _, ⟨e2, _⟩ | ⟨e2, _⟩⟩ := argH_is ar q
      · rw [e2] at e
        cases e
        have d' : Data.seq vs.toArray _ = Data.dict es ep := d
        cases d'
      · rw [e2] at e
        cases e
        have d' : Data.seq vs.toArray _ = Data.dict es ep := d
        cases d'
  generalize argH K s₁.heap A = H at hO hok hS hK noA
  have base_of : ∀ {b : Addr} {o : Obj}, s₁.heap.get? b = some o → H b = none → (hidT s₁.heap H).get? b = some o := fun e n => hidT_get e n
  have nsK : ∀ {b : Addr} {m : Str → Option Value}, s₁.heap.Ns b m → (hidT s₁.heap H).Ns b m := fun {b m} ⟨o, es, ep, e, d, r⟩ => ⟨o, es, ep, base_of e (noA e d), d, r⟩
  have nK : ∀ b o, K.lookup b = some o → H b = none := fun b o e => by
    cases q : H b with
    | none => rfl
    | some u =>
      rw [hK b u q] at e
      cases e
  have hKb : K.In (hidT s₁.heap H) := fun b o e => base_of (KX b o e) (nK b o e)
  have hM : Mod K mg (hidT s₁.heap H) := ⟨hKb, nsK hns, ⟨mb, nsK hb, hbb⟩, let ⟨mc, h1, h2⟩ := hlim; ⟨mc, nsK h1, h2⟩⟩
  have e0 : Env0 P w K mg (hidT s₁.heap H) callerA [] s₁ H := ⟨rfl, hM, fun b o e => of_hidT e, Nat.le_of_eq (hidT_size _ _), trivial, fun b hb => absurd (show b ∈ ([] : List Addr) from hb) (by simp), hok, .of_eq hg⟩
  have hl : vals.length = ps.length := by rw [wellAll_len hwl]; exact hlen
  refine codeAny_mono ((F _ hKb (nsK hns)).run callerA [] s₁ H ⟨vals, []⟩ vals (vals.map toV) _ _ hr e0 (hbind s₁ vals hl) hV (hsp H _ hO hS)) fun r s' x => ?_
  cases r with
  | error e => exact (hCX H e s' x).elim
  | ok fl =>
    cases fl with
    | next => exact False.elim x
    | brk => exact False.elim x
    | cont => exact False.elim x
    | ret u =>
      obtain ⟨v, H', os, bare, un, hok', r', q⟩ := x
      have kept : ∀ b o, s₁.heap.get? b = some o → s'.heap.get? b = some o := fun b o e => by
        cases q2 : H b with
        | none => exact un.keep b o e q2 (by intro z; exact absurd (show b ∈ ([] : List Addr) from z) (by simp)) (by simp)
        | some u2 =>
          rcases hO b with z | ⟨ob, u3, z⟩
          · rw [q2] at z
            cases z
          · have z2 := un.frzs b ob _ z
            obtain ⟨e1, _⟩ := hok b _ z
            obtain ⟨e2, _⟩ := hok' b _ z2
            rw [e] at e1
            cases e1
            exact e2
      have KX' : K.In s'.heap := fun b o e => kept b o (KX b o e)
      obtain ⟨as, hrd⟩ := Dw.reads (R := R) (cl := cl) hok' KX' d0 v u q r'
      exact ⟨u, as, rfl, hrd, OldK.of_keep kept, os, bare⟩
theorem layable_weight {ds : List WData} (h : WData.layableAll ds = true) : ∀ d ∈ ds, d.weight ≤ 1048576 := fun d hd =>
  (PySem.W.layableW_iff.mp (List.all_eq_true.mp h d hd)).2.2
theorem encAll_len : ∀ (cs : List Codec) (a : Codec.denoteAll cs), (Codec.encAll cs a).length = cs.length
  | [], _ => rfl
  | c :: cs, a => by
    show (Codec.encAll cs a.2).length + 1 = cs.length + 1
    rw [encAll_len cs a.2]
theorem walk_spec {r : OpenSpec} {k : Nat} {q : Program} {loose : List Str} {XP : (Str → Option Value) → Heap → Prop} {YP : World → Heap → Prop} {d : DefRec} {K : Params → PySem.W.Frag} {CX : World → CXT} {ps : List Str} {sp : World → Sp}
    (hwell : r.wellSaid = true) (hdf : d.params.defaults = []) (hlen : r.args.length = ps.length) (hr : Room k callerA)
    (hY : ∀ (w : World) (h : Heap), YP w h → (K w.params).In h)
    (F : ∀ (w : World) (mg : Str → Option Value) (fa : Addr) (h : Heap), YP w h → (K w.params).In h → h.Ns mainGlobals mg → mg d.name = some (.ref fa) →
      ∃ fd : FuncData, (∀ (s : Shared) (us : List Value), us.length = ps.length → BindsTo s fd ⟨us, []⟩ (ps.zip us)) ∧
        ∀ base : Heap, (K w.params).In base → base.Ns mainGlobals mg → FnOk r.prog w (K w.params) mg base (CX w) k fa fd ps (sp w))
    (hsp : ∀ (w : World) (H : Hp) (xs : List V) (a : Codec.denoteAll r.args), OnlyF H → Codec.withinAll r.args a = true → Codec.app r.args r.asked a = true → DwAll (K w.params) H xs (Codec.encAll r.args a) →
      sp w xs H (fun v H' => Dw (K w.params) H' v (r.ret.enc (Codec.app r.args r.f a))) fun _ _ _ => False)
    (hCX : ∀ (w : World) (H : Hp) (s : Shared) (e : Value) (s' : Shared), CX w [] H s (fun _ _ _ => False) e s' → False) :
    PySem.W.WalkOS q loose XP YP r d [] (fun f vs => PySem.call f vs) := by
  intro w s_0 s₁ mg mb G Y fa o pm cd doc dV kV ho hd hcd hD hmg hg args vals as hpre hlay hrd hwl hlo
  obtain ⟨a, e1, e2⟩ := PySem.W.os_pre_some hpre
  obtain ⟨e3, hwi⟩ := Codec.encAll_of_decAll r.args args a e1
  subst e3
  have KX := hY w _ Y
  obtain ⟨fd, hb, hF⟩ := F w mg fa _ Y KX G.T.g hmg
  refine PySem.W.enter_call (codeAny_mono (spec_call (R := []) (cl := classAt s_0.heap) (d0 := r.ret.enc (Codec.app r.args r.f a)) KX G.T.g G.T.b G.T.builtins G.T.nolimit hg hwl (pl_encAll _ _) (layable_weight hlay) hr hF hb (by rw [encAll_len]; exact hlen)
    (fun H xs hO hS => hsp w H xs a hO hwi e2 hS) fun H e s' => hCX w H s₁ e s') fun r' s' hq => ?_)
  obtain ⟨u, as', rfl, h1, h2, h3, h4⟩ := hq
  exact ⟨.inl ⟨u, _, as', rfl, fun _ => rfl, h1, (OpenSpec.post_iff hwell hwi _ _).mpr rfl, fun z => Bool.noConfusion (show false = true from z)⟩, h2, h3, h4⟩
theorem walk_specK {r : OpenSpec} {k : Nat} {q : Program} {loose : List Str} {XP : (Str → Option Value) → Heap → Prop} {YP : World → Heap → Prop} {d : DefRec} {K : Params → PySem.W.Frag} {CX : CXT} {ps : List Str} {sp : PySem.W.Frag → Sp}
    (hwell : r.wellSaid = true) (hdf : d.params.defaults = []) (hlen : r.args.length = ps.length) (hr : Room k callerA)
    (hY : ∀ (w : World) (h : Heap), YP w h → (K w.params).In h)
    (F : ∀ (w : World) (mg : Str → Option Value) (fa : Addr) (h : Heap), YP w h → (K w.params).In h → h.Ns mainGlobals mg → mg d.name = some (.ref fa) →
      ∃ fd : FuncData, (∀ (s : Shared) (us : List Value), us.length = ps.length → BindsTo s fd ⟨us, []⟩ (ps.zip us)) ∧
        ∀ base : Heap, (K w.params).In base → base.Ns mainGlobals mg → FnOk r.prog w (K w.params) mg base CX k fa fd ps (sp (K w.params)))
    (hsp : ∀ (K : PySem.W.Frag) (H : Hp) (xs : List V) (a : Codec.denoteAll r.args), OnlyF H → Codec.withinAll r.args a = true → Codec.app r.args r.asked a = true → DwAll K H xs (Codec.encAll r.args a) →
      sp K xs H (fun v H' => Dw K H' v (r.ret.enc (Codec.app r.args r.f a))) fun _ _ _ => False)
    (hCX : ∀ (H : Hp) (s : Shared) (e : Value) (s' : Shared), CX [] H s (fun _ _ _ => False) e s' → False) :
    PySem.W.WalkOS q loose XP YP r d [] (fun f vs => PySem.call f vs) :=
  walk_spec (K := K) (CX := fun _ => CX) (sp := fun w => sp (K w.params)) hwell hdf hlen hr hY F (fun w H xs a h1 h2 h3 h4 => hsp (K w.params) H xs a h1 h2 h3 h4) fun _ H s e s' => hCX H s e s'
end L2
end
end
section
namespace Pg
open Kp172
theorem front_some {w b r : Bytes} (h : front w b = some r) : b = w ++ r := by
  unfold front at h
  split at h
  · rename_i e
    have := Option.some.inj h
    subst this
    conv => lhs; rw [← List.take_append_drop w.length b, e]
  · cases h
theorem front_len {w b r : Bytes} (h : front w b = some r) : b.length = w.length + r.length := by
  rw [front_some h, List.length_append]
theorem front_app (w r : Bytes) : front w (w ++ r) = some r := by
  unfold front
  rw [List.take_left, if_pos rfl, List.drop_left]
theorem entity_len {b q : Bytes} {v : Nat} (h : entity b = some (v, q)) : q.length < b.length := by
  unfold entity at h
  split at h
  · rename_i q0 h0
    have e := Option.some.inj h
    subst e
    simp only [List.findSome?_cons, List.findSome?_nil] at h0
    repeat' split at h0
    all_goals (try (cases h0))
    all_goals (rename_i e0)
    all_goals (simp only [Option.map_eq_some_iff] at e0; obtain ⟨r, e1, e2⟩ := e0; have l := front_len e1; cases e2)
    all_goals (simp [bytesOf] at l; omega)
  · split at h
    · rename_i r _
      dsimp only at h
      split at h
      · rename_i q1 e1
        split at h
        · cases h
          have l : (r.drop (r.takeWhile digit).length).length = (59 :: q).length := by rw [e1]
          rw [List.length_drop] at l
          simp only [List.length_cons] at l ⊢
          omega
        · cases h
      · cases h
    · cases h
def charsX (h : Nat) (b : Bytes) : Option (Bytes × Bytes) := chars (b.length + 1) h b
theorem chars_fuel (h : Nat) : ∀ (n : Nat) (b : Bytes) (f f' : Nat), b.length ≤ n → b.length < f → b.length < f' → chars f h b = chars f' h b
  | n, [], f + 1, f' + 1, _, _, _ => by rw [chars, chars]
  | 0, c :: r, _, _, h0, _, _ => by simp at h0
  | n + 1, c :: r, f + 1, f' + 1, h0, h1, h2 => by
    simp only [List.length_cons] at h0 h1 h2
    rw [chars, chars]
    split
    · rfl
    · split
      · rfl
      · split
        · cases e : entity r with
          | none => rfl
          | some x =>
            have l := entity_len (v := x.1) (q := x.2) (by rw [e])
            show (do let x_1 ← chars f h x.2; return (x.1 :: x_1.1, x_1.2)) = (do let x_1 ← chars f' h x.2; return (x.1 :: x_1.1, x_1.2))
            rw [chars_fuel h n x.2 f f' (by omega) (by omega) (by omega)]
        · rw [chars_fuel h n r f f' (by omega) (by omega) (by omega)]
theorem charsX_of {h f : Nat} {b : Bytes} (l : b.length < f) : chars f h b = charsX h b := chars_fuel h b.length b f (b.length + 1) (Nat.le_refl _) l (Nat.lt_succ_self _)
theorem charsX_nil (h : Nat) : charsX h [] = some ([], []) := by unfold charsX; rw [chars]
theorem charsX_cons (h c : Nat) (r : Bytes) : charsX h (c :: r) = if c = h then some ([], c :: r) else if c = 60 then none
    else if c = 38 then (entity r).bind (fun e => (charsX h e.2).map fun x => (e.1 :: x.1, x.2))
    else if okByte c then (charsX h r).map (fun x => (c :: x.1, x.2)) else none := by
  unfold charsX
  rw [List.length_cons, chars]
  split
  · rfl
  · split
    · rfl
    · split
      · cases e : entity r with
        | none => rfl
        | some x =>
          have l := entity_len (v := x.1) (q := x.2) (by rw [e])
          show (do let x_1 ← chars (r.length + 1) h x.2; return (x.1 :: x_1.1, x_1.2)) = (chars (x.2.length + 1) h x.2).map fun x_1 => (x.1 :: x_1.1, x_1.2)
          rw [chars_fuel h x.2.length x.2 (r.length + 1) (x.2.length + 1) (Nat.le_refl _) (by omega) (by omega)]
          cases chars (x.2.length + 1) h x.2 <;> rfl
      · rfl
theorem charsX_rest (h : Nat) : ∀ (n : Nat) (b : Bytes) (v q : Bytes), b.length ≤ n → charsX h b = some (v, q) → (q = [] ∨ ∃ r, q = h :: r) ∧ q.length ≤ b.length
  | n, [], v, q, _, e => by
    rw [charsX_nil] at e
    cases e
    exact ⟨.inl rfl, Nat.le_refl _⟩
  | 0, c :: r, _, _, h0, _ => by simp at h0
  | n + 1, c :: r, v, q, h0, e => by
    simp only [List.length_cons] at h0 ⊢
    rw [charsX_cons] at e
    split at e
    · rename_i ec
      cases e
      exact ⟨.inr ⟨r, by rw [ec]⟩, Nat.le_refl _⟩
    · split at e
      · cases e
      · split at e
        · rw [Option.bind_eq_some_iff] at e
          obtain ⟨x, ex, e⟩ := e
          rw [Option.map_eq_some_iff] at e
          obtain ⟨y, ey, e⟩ := e
          have l := entity_len (v := x.1) (q := x.2) (by rw [ex])
          cases e
          obtain ⟨a, b⟩ := charsX_rest h n x.2 y.1 y.2 (by omega) ey
          exact ⟨a, by omega⟩
        · split at e
          · rw [Option.map_eq_some_iff] at e
            obtain ⟨y, ey, e⟩ := e
            cases e
            obtain ⟨a, b⟩ := charsX_rest h n r y.1 y.2 (by omega) ey
            exact ⟨a, by omega⟩
          · cases e
theorem nameAt_some {b w q : Bytes} (h : nameAt b = some (w, q)) : b = w ++ q ∧ 1 ≤ w.length ∧ w.length ≤ 16 := by
  unfold nameAt at h
  dsimp only at h
  split at h
  · rename_i e
    cases h
    refine ⟨?_, ?_, ?_⟩
    · have := List.takeWhile_append_dropWhile (p := inName) (l := b)
      conv => lhs; rw [← List.take_append_drop (b.takeWhile inName).length b]
      congr 1
      conv => lhs; arg 2; rw [← this]
      rw [List.take_left]
    · unfold isName at e
      rw [Bool.and_eq_true] at e
      cases hw : b.takeWhile inName with
      | nil => rw [hw] at e; cases e.1
      | cons c r => simp
    · unfold isName at e
      rw [Bool.and_eq_true] at e
      exact of_decide_eq_true e.2
  · cases h
theorem nameAt_len {b w q : Bytes} (h : nameAt b = some (w, q)) : b.length = w.length + q.length := by
  rw [(nameAt_some h).1, List.length_append]
theorem dropWhile_len {α : Type} (p : α → Bool) : ∀ (l : List α), (l.dropWhile p).length ≤ l.length
  | [] => Nat.le_refl _
  | a :: l => by
    rw [List.dropWhile_cons]
    split
    · exact Nat.le_succ_of_le (dropWhile_len p l)
    · exact Nat.le_refl _
def attrsX (b : Bytes) : Option (List (Bytes × Bytes) × Bytes) := attrs (b.length + 1) b
def attr1 (r : Bytes) : Option (Bytes × Bytes × Bytes) :=
  (nameAt r).bind fun n => (front [61, 34] n.2).bind fun q => (charsX 34 q).bind fun v => (front [34] v.2).map fun z => (n.1, v.1, z)
theorem attr1_len {r n v z : Bytes} (h : attr1 r = some (n, v, z)) : z.length < r.length := by
  unfold attr1 at h
  rw [Option.bind_eq_some_iff] at h
  obtain ⟨x, ex, h⟩ := h
  rw [Option.bind_eq_some_iff] at h
  obtain ⟨q, eq, h⟩ := h
  rw [Option.bind_eq_some_iff] at h
  obtain ⟨y, ey, h⟩ := h
  rw [Option.map_eq_some_iff] at h
  obtain ⟨z', ez, h⟩ := h
  cases h
  have l1 := nameAt_len (w := x.1) (q := x.2) ex
  have l2 := front_len eq
  have l3 := (charsX_rest 34 q.length q y.1 y.2 (Nat.le_refl _) ey).2
  have l4 := front_len ez
  simp only [List.length_cons, List.length_nil] at l2 l4
  omega
theorem attrs_step (f : Nat) (b : Bytes) : attrs (f + 1) b = match b.dropWhile blank with
    | c :: r => if small c = false then some ([], c :: r) else if (c :: r).length = b.length then none else
        (attr1 (c :: r)).bind fun x => (attrs f x.2.2).map fun l => ((x.1, x.2.1) :: l.1, l.2)
    | [] => some ([], []) := by
  rw [attrs]
  cases e : b.dropWhile blank with
  | nil => rfl
  | cons c r =>
    dsimp only
    split
    · rfl
    · split
      · rfl
      · unfold attr1
        cases nameAt (c :: r) with
        | none => rfl
        | some n =>
          show (front [61, 34] n.2).bind _ = _
          simp only [Option.bind_some]
          cases front [61, 34] n.2 with
          | none => rfl
          | some q =>
            simp only [Option.bind_some]
            show (charsX 34 q).bind _ = _
            cases charsX 34 q with
            | none => rfl
            | some v =>
              simp only [Option.bind_some]
              show (front [34] v.2).bind _ = _
              cases front [34] v.2 with
              | none => rfl
              | some z =>
                simp only [Option.bind_some, Option.map_some]
                show (attrs f z).bind _ = _
                cases attrs f z <;> rfl
theorem attrs_fuel : ∀ (n : Nat) (b : Bytes) (f f' : Nat), b.length ≤ n → b.length < f → b.length < f' → attrs f b = attrs f' b
  | n, b, 0, _, _, h1, _ => by omega
  | n, b, _, 0, _, _, h2 => by omega
  | 0, b, f + 1, f' + 1, h0, _, _ => by
    have e : b = [] := List.length_eq_zero_iff.mp (by omega)
    subst e
    rw [attrs_step, attrs_step]
    rfl
  | n + 1, b, f + 1, f' + 1, h0, h1, h2 => by
    rw [attrs_step, attrs_step]
    have l0 := dropWhile_len blank b
    cases e : b.dropWhile blank with
    | nil => rfl
    | cons c r =>
      rw [e] at l0
      dsimp only
      split
      · rfl
      · split
        · rfl
        · cases ea : attr1 (c :: r) with
          | none => rfl
          | some x =>
            have l := attr1_len (n := x.1) (v := x.2.1) (z := x.2.2) ea
            simp only [Option.bind_some]
            rw [attrs_fuel n x.2.2 f f' (by omega) (by omega) (by omega)]
theorem attrsX_of {f : Nat} {b : Bytes} (l : b.length < f) : attrs f b = attrsX b := attrs_fuel b.length b f (b.length + 1) (Nat.le_refl _) l (Nat.lt_succ_self _)
theorem attrsX_eq (b : Bytes) : attrsX b = match b.dropWhile blank with
    | c :: r => if small c = false then some ([], c :: r) else if (c :: r).length = b.length then none else
        (attr1 (c :: r)).bind fun x => (attrsX x.2.2).map fun l => ((x.1, x.2.1) :: l.1, l.2)
    | [] => some ([], []) := by
  conv => lhs; unfold attrsX; rw [attrs_step]
  have l0 := dropWhile_len blank b
  cases e : b.dropWhile blank with
  | nil => rfl
  | cons c r =>
    rw [e] at l0
    dsimp only
    split
    · rfl
    · split
      · rfl
      · cases ea : attr1 (c :: r) with
        | none => rfl
        | some x =>
          have l := attr1_len (n := x.1) (v := x.2.1) (z := x.2.2) ea
          simp only [Option.bind_some]
          rw [attrsX_of (show x.2.2.length < b.length by omega)]
theorem attrs_len : ∀ (f : Nat) (b : Bytes) (l : List (Bytes × Bytes)) (q : Bytes), attrs f b = some (l, q) → q.length ≤ b.length
  | 0, b, l, q, h => by rw [attrs] at h; cases h
  | f + 1, b, l, q, h => by
    rw [attrs_step] at h
    have l0 := dropWhile_len blank b
    cases e : b.dropWhile blank with
    | nil =>
      rw [e] at h
      cases h
      exact Nat.zero_le _
    | cons c r =>
      rw [e] at h l0
      dsimp only at h
      split at h
      · cases h
        exact l0
      · split at h
        · cases h
        · rw [Option.bind_eq_some_iff] at h
          obtain ⟨x, ex, h⟩ := h
          rw [Option.map_eq_some_iff] at h
          obtain ⟨y, ey, h⟩ := h
          cases h
          have l1 := attr1_len (n := x.1) (v := x.2.1) (z := x.2.2) ex
          have l2 := attrs_len f x.2.2 y.1 y.2 ey
          omega
theorem tag_eq (b : Bytes) : tag b = (nameAt b).bind fun n => (attrsX n.2).bind fun a => match front [47, 62] a.2 with
    | some r => some (n.1, a.1, true, r)
    | none => (front [62] a.2).map fun r => (n.1, a.1, false, r) := by
  unfold tag
  cases e : nameAt b with
  | none => rfl
  | some n =>
    have l := nameAt_len (w := n.1) (q := n.2) e
    simp only [Option.bind_some]
    rw [← attrsX_of (f := b.length + 1) (show n.2.length < b.length + 1 by omega)]
    show (attrs (b.length + 1) n.2).bind _ = _
    cases attrs (b.length + 1) n.2 with
    | none => rfl
    | some a =>
      simp only [Option.bind_some]
      cases front [47, 62] a.2 with
      | some r => rfl
      | none =>
        dsimp only
        cases front [62] a.2 <;> rfl
theorem tag_len {b n : Bytes} {a : List (Bytes × Bytes)} {e : Bool} {z : Bytes} (h : tag b = some (n, a, e, z)) : z.length < b.length := by
  rw [tag_eq, Option.bind_eq_some_iff] at h
  obtain ⟨x, ex, h⟩ := h
  rw [Option.bind_eq_some_iff] at h
  obtain ⟨y, ey, h⟩ := h
  have l1 := nameAt_len (w := x.1) (q := x.2) ex
  have l0 := (nameAt_some (w := x.1) (q := x.2) ex).2.1
  have l2 := attrs_len _ _ y.1 y.2 ey
  split at h
  · rename_i r er
    cases h
    have l3 := front_len er
    simp only [List.length_cons, List.length_nil] at l3
    omega
  · rw [Option.map_eq_some_iff] at h
    obtain ⟨r, er, h⟩ := h
    cases h
    have l3 := front_len er
    simp only [List.length_cons, List.length_nil] at l3
    omega
theorem ending_len {b n z : Bytes} (h : ending b = some (n, z)) : z.length < b.length := by
  unfold ending at h
  cases ex : nameAt b with
  | none => rw [ex] at h; cases h
  | some x =>
    rw [ex] at h
    have l1 := nameAt_len (w := x.1) (q := x.2) ex
    have l0 := (nameAt_some (w := x.1) (q := x.2) ex).2.1
    have l2 := dropWhile_len blank x.2
    cases er : front [62] (x.2.dropWhile blank) with
    | none =>
      simp only [er, bind, Option.bind] at h
      cases h
    | some r =>
      simp only [er, bind, Option.bind, pure] at h
      cases h
      have l3 := front_len er
      simp only [List.length_cons, List.length_nil] at l3
      omega
inductive Step where
  | bad (v : Int)
  | more (l : List Mark) (s : List Bytes) (q : Bytes)
def step (stack : List Bytes) (c : Nat) (r : Bytes) : Step :=
  if c ≠ 60 then (match charsX 60 (c :: r) with
    | none => .bad (-71)
    | some (t, q) => .more [.text t] stack q)
  else match front [47] r with
    | some q => (match ending q with
      | none => .bad (-71)
      | some (n, z) => if stack.head? = some n then .more [.close] (stack.drop 1) z else .bad (-71))
    | none => match tag r with
      | none => .bad (-71)
      | some (n, a, e, z) => if distinct (a.map Prod.fst) = false then .bad (-22) else if ATTRS < a.length ∨ DEEP ≤ stack.length then .bad (-28)
        else if e then .more [.open_ n a, .close] stack z else .more [.open_ n a] (n :: stack) z
theorem step_len {stack : List Bytes} {c : Nat} {r : Bytes} {l : List Mark} {s : List Bytes} {q : Bytes} (h : step stack c r = .more l s q) : q.length < (c :: r).length := by
  unfold step at h
  simp only [List.length_cons]
  split at h
  · rename_i hc
    split at h
    · cases h
    · rename_i t q' e
      cases h
      have e0 := e
      rw [charsX_cons, if_neg hc, if_neg hc] at e
      split at e
      · rw [Option.bind_eq_some_iff] at e
        obtain ⟨x, ex, e⟩ := e
        rw [Option.map_eq_some_iff] at e
        obtain ⟨y, ey, e⟩ := e
        cases e
        have l1 := entity_len (v := x.1) (q := x.2) ex
        have l2 := (charsX_rest 60 _ x.2 y.1 y.2 (Nat.le_refl _) ey).2
        omega
      · split at e
        · rw [Option.map_eq_some_iff] at e
          obtain ⟨y, ey, e⟩ := e
          cases e
          have l2 := (charsX_rest 60 _ r y.1 y.2 (Nat.le_refl _) ey).2
          omega
        · cases e
  · split at h
    · rename_i q' eq'
      have l1 := front_len eq'
      simp only [List.length_cons, List.length_nil] at l1
      split at h
      · cases h
      · rename_i n z ez
        have l2 := ending_len ez
        split at h
        · cases h
          omega
        · cases h
    · split at h
      · cases h
      · rename_i n a e z ez
        have l2 := tag_len ez
        split at h
        · cases h
        · split at h
          · cases h
          · split at h <;> cases h <;> omega
def prep (l : List Mark) : (Int × Nat) ⊕ List Mark → (Int × Nat) ⊕ List Mark
  | .inl x => .inl x
  | .inr m => .inr (l ++ m)
theorem prep_nil (x : (Int × Nat) ⊕ List Mark) : prep [] x = x := by cases x <;> rfl
theorem prep_prep (l m : List Mark) (x : (Int × Nat) ⊕ List Mark) : prep l (prep m x) = prep (l ++ m) x := by
  cases x
  · rfl
  · simp [prep]
theorem marks_step (all f k : Nat) (stack : List Bytes) (c : Nat) (r : Bytes) : marks all (f + 1) k stack (c :: r) = match step stack c r with
    | .bad v => .inl (v, all - (r.length + 1))
    | .more l s q => if MARKS < k + l.length then .inl (-28, all - (r.length + 1)) else prep l (marks all f (k + l.length) s q) := by
  rw [marks]
  unfold step
  dsimp only
  rw [charsX_of (show (c :: r).length < r.length + 2 by simp)]
  by_cases hc : c ≠ 60
  · rw [if_pos hc, if_pos hc]
    cases charsX 60 (c :: r) with
    | none => rfl
    | some x =>
      dsimp only
      split
      · rfl
      · cases marks all f (k + _) stack x.2 <;> rfl
  · rw [if_neg hc, if_neg hc]
    cases front [47] r with
    | some q =>
      dsimp only
      cases ending q with
      | none => rfl
      | some x =>
        dsimp only
        by_cases hs : stack.head? = some x.1
        · rw [if_pos hs, if_pos hs]
          dsimp only
          split
          · rfl
          · cases marks all f (k + _) _ x.2 <;> rfl
        · rw [if_neg hs, if_neg hs]
    | none =>
      dsimp only
      cases tag r with
      | none => rfl
      | some x =>
        obtain ⟨n, a, e, z⟩ := x
        dsimp only
        by_cases hd : distinct (a.map Prod.fst) = false
        · rw [if_pos hd, if_pos hd]
        · rw [if_neg hd, if_neg hd]
          by_cases ha : ATTRS < a.length ∨ DEEP ≤ stack.length
          · rw [if_pos ha, if_pos ha]
          · rw [if_neg ha, if_neg ha]
            cases e
            · simp only [Bool.false_eq_true, if_false]
              split
              · rfl
              · cases marks all f (k + _) _ z <;> rfl
            · simp only [if_true]
              split
              · rfl
              · cases marks all f (k + _) _ z <;> rfl
theorem marks_fuel (all : Nat) : ∀ (n : Nat) (b : Bytes) (f f' k : Nat) (stack : List Bytes), b.length ≤ n → b.length < f → b.length < f' → marks all f k stack b = marks all f' k stack b
  | n, b, 0, _, _, _, _, h1, _ => by omega
  | n, b, _, 0, _, _, _, _, h2 => by omega
  | n, [], f + 1, f' + 1, k, stack, _, _, _ => by rw [marks, marks]
  | 0, c :: r, _, _, _, _, h0, _, _ => by simp at h0
  | n + 1, c :: r, f + 1, f' + 1, k, stack, h0, h1, h2 => by
    rw [marks_step, marks_step]
    cases e : step stack c r with
    | bad v => rfl
    | more l s q =>
      have lq := step_len e
      dsimp only
      rw [marks_fuel all n q f f' (k + l.length) s (by omega) (by omega) (by omega)]
def marksX (all k : Nat) (stack : List Bytes) (b : Bytes) : (Int × Nat) ⊕ List Mark := marks all (b.length + 1) k stack b
theorem marksX_nil (all k : Nat) (stack : List Bytes) : marksX all k stack [] = if stack = [] then .inr [] else .inl (-71, all) := by
  unfold marksX
  rw [marks]
theorem marksX_cons (all k : Nat) (stack : List Bytes) (c : Nat) (r : Bytes) : marksX all k stack (c :: r) = match step stack c r with
    | .bad v => .inl (v, all - (r.length + 1))
    | .more l s q => if MARKS < k + l.length then .inl (-28, all - (r.length + 1)) else prep l (marksX all (k + l.length) s q) := by
  conv => lhs; unfold marksX; rw [marks_step]
  cases e : step stack c r with
  | bad v => rfl
  | more l s q =>
    have lq := step_len e
    dsimp only
    unfold marksX
    rw [marks_fuel all q.length q (c :: r).length (q.length + 1) (k + l.length) s (Nat.le_refl _) lq (Nat.lt_succ_self _)]
theorem read_eq (t : Bytes) : Kp172.read t = if MOST < t.length then .inl (-28, 0) else marksX t.length 0 [] t := rfl
end Pg
end
section
namespace Pg
open Kp172
theorem blanks_go {c : Nat} {r : List Nat} (h : blank c = true) : (c :: r).dropWhile blank = r.dropWhile blank := by
  rw [List.dropWhile_cons, if_pos h]
theorem blanks_end {c : Nat} {r : List Nat} (h : blank c = false) : (c :: r).dropWhile blank = c :: r := by
  rw [List.dropWhile_cons, if_neg (by rw [h]; exact Bool.false_ne_true)]
def NameTo (s : List Nat) (k : Nat) : Prop := s.takeWhile inName = s.take k ++ (s.drop k).takeWhile inName
theorem small_inName {c : Nat} (h : small c = true) : inName c = true := by unfold inName; rw [h]; rfl
theorem NameTo.one {c : Nat} {r : List Nat} (h : small c = true) : NameTo (c :: r) 1 := by
  unfold NameTo
  rw [List.takeWhile_cons, if_pos (small_inName h)]
  rfl
theorem NameTo.next {s r : List Nat} {k c : Nat} (h : NameTo s k) (e : s.drop k = c :: r) (hc : inName c = true) : NameTo s (k + 1) := by
  unfold NameTo at h ⊢
  rw [h, e, List.takeWhile_cons, if_pos hc, ← List.drop_drop, e, List.drop_one, List.tail_cons]
  have e2 : s.take (k + 1) = s.take k ++ [c] := by
    rw [List.take_add, e]; rfl
  rw [e2, List.append_assoc]
  rfl
theorem NameTo.end_ {s : List Nat} {k : Nat} (h : NameTo s k) (e : ∀ c r, s.drop k = c :: r → inName c = false) : s.takeWhile inName = s.take k := by
  unfold NameTo at h
  rw [h]
  cases q : s.drop k with
  | nil => simp
  | cons c r => rw [List.takeWhile_cons, if_neg (by rw [e c r q]; exact Bool.false_ne_true), List.append_nil]
theorem nameAt_nil : nameAt [] = none := by decide
theorem nameAt_not {c : Nat} {r : List Nat} (h : small c = false) : nameAt (c :: r) = none := by
  unfold nameAt
  dsimp only
  rw [if_neg]
  unfold isName
  rw [List.takeWhile_cons]
  by_cases q : inName c = true
  · rw [if_pos q]; simp [h]
  · rw [if_neg q]; simp
theorem all_takeWhile {α : Type} (p : α → Bool) : ∀ l : List α, (l.takeWhile p).all p = true
  | [] => rfl
  | a :: l => by
    rw [List.takeWhile_cons]
    by_cases h : p a = true
    · rw [if_pos h, List.all_cons, h, all_takeWhile p l]; rfl
    · rw [if_neg h]; rfl
theorem nameAt_is {c : Nat} {r : List Nat} {k : Nat} (h : small c = true) (hk : k ≤ (c :: r).length) (e : (c :: r).takeWhile inName = (c :: r).take k) :
    nameAt (c :: r) = if k ≤ 16 then some ((c :: r).take k, (c :: r).drop k) else none := by
  have l : ((c :: r).take k).length = k := by rw [List.length_take]; omega
  have a := all_takeWhile inName (c :: r)
  unfold nameAt
  dsimp only
  rw [e, l]
  rw [e] at a
  have e1 : isName ((c :: r).take k) = decide (k ≤ 16) := by
    unfold isName
    cases k with
    | zero =>
      rw [List.takeWhile_cons, if_pos (small_inName h)] at e
      cases e
    | succ k =>
      rw [List.take_succ_cons] at a l ⊢
      rw [List.all_cons, Bool.and_eq_true] at a
      dsimp only
      rw [h, a.2, l]
      rfl
  rw [e1]
  by_cases q : k ≤ 16
  · rw [if_pos (decide_eq_true q), if_pos q]
  · rw [if_neg (by rw [decide_eq_false q]; exact Bool.false_ne_true), if_neg q]
def numEnt (r : List Nat) : Option (Nat × List Nat) := let d := r.takeWhile digit
  let v := d.foldl (fun v c => 10 * v + (c - 48)) 0
  match r.drop d.length with
  | 59 :: q => if 1 ≤ d.length ∧ d.length ≤ 3 ∧ okByte v = true then some (v, q) else none
  | _ => none
def NumTo (r : List Nat) (m v : Nat) : Prop := m ≤ 3 ∧ r.takeWhile digit = r.take m ++ (r.drop m).takeWhile digit ∧ v = (r.take m).foldl (fun v c => 10 * v + (c - 48)) 0 ∧ m ≤ r.length
theorem NumTo.zero (r : List Nat) : NumTo r 0 0 := ⟨by omega, by simp, by simp, by omega⟩
theorem NumTo.next {r q : List Nat} {m v c : Nat} (h : NumTo r m v) (hm : m < 3) (e : r.drop m = c :: q) (hc : digit c = true) : NumTo r (m + 1) (10 * v + (c - 48)) := by
  obtain ⟨h1, h2, h3, h4⟩ := h
  have e2 : r.take (m + 1) = r.take m ++ [c] := by rw [List.take_add, e]; rfl
  refine ⟨by omega, ?_, ?_, ?_⟩
  · rw [h2, e, List.takeWhile_cons, if_pos hc, ← List.drop_drop, e, List.drop_one, List.tail_cons, e2, List.append_assoc]
    rfl
  · rw [e2, List.foldl_append, ← h3]; rfl
  · have l := congrArg List.length e
    rw [List.length_drop, List.length_cons] at l
    omega
theorem NumTo.end_ {r : List Nat} {m v : Nat} (h : NumTo r m v) (e : m = 3 ∨ ∀ c q, r.drop m = c :: q → digit c = false) :
    numEnt r = if m = 0 then none else match r.drop m with | 59 :: q => if okByte v = true then some (v, q) else none | _ => none := by
  obtain ⟨h1, h2, h3, h4⟩ := h
  cases q : r.drop m with
  | nil =>
    rw [q, List.takeWhile_nil, List.append_nil] at h2
    have l : (r.takeWhile digit).length = m := by rw [h2, List.length_take]; omega
    unfold numEnt
    dsimp only
    rw [l, q]
    by_cases m0 : m = 0
    · rw [if_pos m0]
    · rw [if_neg m0]
  | cons c s =>
    by_cases hd : digit c = true
    · -- a fourth digit
      have m3 : m = 3 := e.resolve_right fun z => by rw [z c s q] at hd; cases hd
      rw [q, List.takeWhile_cons, if_pos hd] at h2
      have l : 4 ≤ (r.takeWhile digit).length := by rw [h2, List.length_append, List.length_take, List.length_cons]; omega
      have c59 : ¬ c = 59 := by intro z; subst z; cases hd
      have e1 : numEnt r = none := by
        unfold numEnt
        dsimp only
        split
        · rw [if_neg (by omega)]
        · rfl
      rw [e1, m3, if_neg (by decide)]
      split
      · rename_i z; cases z; exact absurd rfl c59
      · rfl
    · rw [q, List.takeWhile_cons, if_neg hd, List.append_nil] at h2
      have l : (r.takeWhile digit).length = m := by rw [h2, List.length_take]; omega
      unfold numEnt
      dsimp only
      rw [l, q, h2, ← h3]
      by_cases m0 : m = 0
      · rw [if_pos m0]
        split
        · rw [if_neg (by omega)]
        · rfl
      · rw [if_neg m0]
        split
        · rename_i z
          by_cases ok : okByte v = true
          · rw [if_pos ⟨by omega, by omega, ok⟩, if_pos ok]
          · rw [if_neg (fun z => ok z.2.2), if_neg ok]
        · rfl
theorem entity_eq (r : List Nat) : entity r =
    if r.take 3 = [108, 116, 59] then some (60, r.drop 3) else if r.take 3 = [103, 116, 59] then some (62, r.drop 3)
    else if r.take 4 = [97, 109, 112, 59] then some (38, r.drop 4) else if r.take 5 = [113, 117, 111, 116, 59] then some (34, r.drop 5)
    else match r with | 35 :: q => numEnt q | _ => none := by
  unfold entity
  have b1 : bytesOf "lt;" = [108, 116, 59] := by decide
  have b2 : bytesOf "gt;" = [103, 116, 59] := by decide
  have b3 : bytesOf "amp;" = [97, 109, 112, 59] := by decide
  have b4 : bytesOf "quot;" = [113, 117, 111, 116, 59] := by decide
  simp only [List.findSome?_cons, List.findSome?_nil, b1, b2, b3, b4, front, List.length_cons, List.length_nil]
  by_cases h1 : r.take 3 = [108, 116, 59]
  · simp [h1]
  · by_cases h2 : r.take 3 = [103, 116, 59]
    · simp [h2]
    · by_cases h3 : r.take 4 = [97, 109, 112, 59]
      · simp [h1, h2, h3]
      · by_cases h4 : r.take 5 = [113, 117, 111, 116, 59]
        · simp [h1, h2, h3, h4]
        · simp only [h1, h2, h3, h4, if_false, Option.map_none, Nat.zero_add, Nat.reduceAdd]
          cases r with
          | nil => rfl
          | cons c q =>
            by_cases hc : c = 35
            · subst hc; rfl
            · split
              · rename_i z; cases z; exact absurd rfl hc
              · split
                · rename_i z; cases z; exact absurd rfl hc
                · rfl
end Pg
end
section
namespace PgSet
open PySem
def cc : Nat → Nat
  | 0 => 0
  | n + 1 => 5 * cc n + 1
def gg (n x : Nat) : Nat := 5 ^ n * x + cc n
theorem cc_add : ∀ m n : Nat, cc (m + n) = 5 ^ m * cc n + cc m
  | 0, n => by simp [cc]
  | m + 1, n => by
    rw [Nat.succ_add]
    show 5 * cc (m + n) + 1 = _
    rw [cc_add m n]
    show _ = 5 ^ (m + 1) * cc n + (5 * cc m + 1)
    rw [Nat.pow_succ]
    grind
theorem gg_add (m n x : Nat) : gg (m + n) x = gg m (gg n x) := by
  unfold gg
  rw [cc_add, Nat.pow_add]
  grind
theorem pows : ∀ k : Nat, ∃ a b : Nat, 5 ^ (2 ^ k) = 1 + 4 * 2 ^ k * a ∧ cc (2 ^ k) = 2 ^ k * (1 + 2 * b)
  | 0 => ⟨1, 0, by decide, by decide⟩
  | k + 1 => by
    obtain ⟨a, b, h1, h2⟩ := pows k
    refine ⟨a + 2 * 2 ^ k * a * a, b + 2 ^ k * a + 2 * b * 2 ^ k * a, ?_, ?_⟩
    · rw [Nat.pow_succ, Nat.mul_two, Nat.pow_add, h1]
      generalize 2 ^ k = p
      grind
    · rw [Nat.pow_succ, Nat.mul_two, cc_add, h1, h2]
      generalize 2 ^ k = p
      grind
theorem covers : ∀ k x y : Nat, ∃ n, n < 2 ^ k ∧ gg n x % 2 ^ k = y % 2 ^ k
  | 0, x, y => ⟨0, by decide, by simp [Nat.mod_one]⟩
  | k + 1, x, y => by
    obtain ⟨n, hn, e⟩ := covers k x y
    have hp : 0 < 2 ^ k := Nat.pow_pos (by decide)
    by_cases h : gg n x % 2 ^ (k + 1) = y % 2 ^ (k + 1)
    · exact ⟨n, by rw [Nat.pow_succ]; omega, h⟩
    · refine ⟨2 ^ k + n, by rw [Nat.pow_succ]; omega, ?_⟩
      rw [gg_add]
      obtain ⟨a, b, h1, h2⟩ := pows k
      have e1 : gg (2 ^ k) (gg n x) = (gg n x + 2 ^ k) + (2 ^ k * 2) * (2 * a * gg n x + b) := by
        show 5 ^ (2 ^ k) * gg n x + cc (2 ^ k) = _
        rw [h1, h2]
        generalize 2 ^ k = p
        generalize gg n x = z
        grind
      rw [e1, Nat.pow_succ, Nat.add_mul_mod_self_left]
      rw [Nat.pow_succ] at h
      generalize gg n x = z at e h ⊢
      generalize 2 ^ k = p at e h hp ⊢
      -- z ≡ y mod p, not mod 2 p
      have z1 := Nat.mod_add_div z p
      have y1 := Nat.mod_add_div y p
      have hz := Nat.mod_lt z hp
      rw [e] at z1 hz
      generalize y % p = r at *
      generalize z / p = u at *
      generalize y / p = v at *
      subst z1 y1
      have par : ∀ u : Nat, (r + p * u) % (p * 2) = r + p * (u % 2) := fun u => by
        have q : r + p * u = (r + p * (u % 2)) + (p * 2) * (u / 2) := by
          have := Nat.mod_add_div u 2
          conv => lhs; rw [← this]
          grind
        rw [q, Nat.add_mul_mod_self_left, Nat.mod_eq_of_lt]
        have : u % 2 < 2 := Nat.mod_lt _ (by decide)
        have : u % 2 = 0 ∨ u % 2 = 1 := by omega
        rcases this with t | t <;> rw [t] <;> omega
      have e2 : r + p * u + p = r + p * (u + 1) := by grind
      rw [e2, par, par]
      rw [par, par] at h
      have a1 : u % 2 = 0 ∨ u % 2 = 1 := by omega
      have a2 : v % 2 = 0 ∨ v % 2 = 1 := by omega
      rcases a1 with a1 | a1 <;> rcases a2 with a2 | a2
      · rw [a1, a2] at h; exact absurd rfl h
      · rw [a2, show (u + 1) % 2 = 1 by omega]
      · rw [a2, show (u + 1) % 2 = 0 by omega]
      · rw [a1, a2] at h; exact absurd rfl h
def stepI (M i : Nat) : Nat := (i * 5 + 1) % M
def walkI (M : Nat) : Nat → Nat → Nat
  | 0, i => i
  | n + 1, i => stepI M (walkI M n i)
theorem walkI_gg (M : Nat) : ∀ n i : Nat, i < M → walkI M n i = gg n i % M
  | 0, i, h => by
    show i = (5 ^ 0 * i + 0) % M
    simp [Nat.mod_eq_of_lt h]
  | n + 1, i, h => by
    show (walkI M n i * 5 + 1) % M = _
    rw [walkI_gg M n i h]
    have e : gg (n + 1) i = gg n i * 5 + 1 := by
      rw [Nat.add_comm n 1, gg_add]
      show 5 ^ 1 * gg n i + (5 * 0 + 1) = _
      omega
    rw [e]
    simp [Nat.add_mod, Nat.mul_mod]
theorem walkI_all {k i j : Nat} (hi : i < 2 ^ k) (hj : j < 2 ^ k) : ∃ n, n < 2 ^ k ∧ walkI (2 ^ k) n i = j := by
  obtain ⟨n, hn, e⟩ := covers k i j
  exact ⟨n, hn, by rw [walkI_gg _ n i hi, e, Nat.mod_eq_of_lt hj]⟩
end PgSet
end
section
namespace PgSet
open PySem PySem.SetTable
structure Rise (xs : Array Nat) : Prop where
  lt : ∀ i j a b : Nat, xs[i]? = some a → xs[j]? = some b → i < j → a < b
theorem below_go {xs : Array Nat} (h : Rise xs) (j : Nat) : ∀ (fuel lo hi : Nat), lo ≤ hi → hi ≤ xs.size → hi - lo ≤ fuel → (∀ q a, xs[q]? = some a → q < lo → a < j) → (∀ q a, xs[q]? = some a → hi ≤ q → j ≤ a) →
    below.go xs j fuel lo hi ≤ xs.size ∧ (∀ q a, xs[q]? = some a → q < below.go xs j fuel lo hi → a < j) ∧ (∀ q a, xs[q]? = some a → below.go xs j fuel lo hi ≤ q → j ≤ a)
  | 0, lo, hi, h1, h2, h3, h4, h5 => by
    have e : lo = hi := by omega
    subst e
    rw [below.go]
    exact ⟨h2, h4, h5⟩
  | fuel + 1, lo, hi, h1, h2, h3, h4, h5 => by
    rw [below.go]
    by_cases q : lo < hi
    · rw [if_pos q]
      have m1 : lo ≤ (lo + hi) / 2 := by omega
      have m2 : (lo + hi) / 2 < hi := by omega
      dsimp only
      generalize (lo + hi) / 2 = mid at m1 m2
      have hm : mid < xs.size := by omega
      have em : xs[mid]? = some xs[mid] := Array.getElem?_eq_getElem hm
      have eg : xs.getD mid j = xs[mid] := by rw [Array.getD_eq_getD_getElem?, em]; rfl
      rw [eg]
      by_cases c : xs[mid] < j
      · rw [if_pos c]
        refine below_go h j fuel (mid + 1) hi (by omega) h2 (by omega) (fun q a e l => ?_) h5
        rcases Nat.lt_or_ge q mid with z | z
        · have := h.lt q mid a _ e em z; omega
        · have e2 : q = mid := by omega
          subst e2
          rw [em] at e
          have := Option.some.inj e
          omega
      · rw [if_neg c]
        refine below_go h j fuel lo mid m1 (by omega) (by omega) h4 (fun q a e l => ?_)
        rcases Nat.lt_or_ge mid q with z | z
        · have := h.lt mid q _ a em e z; omega
        · have e2 : q = mid := by omega
          subst e2
          rw [em] at e
          have := Option.some.inj e
          omega
    · rw [if_neg q]
      have e : lo = hi := by omega
      subst e
      exact ⟨h2, h4, h5⟩
theorem below_ok {xs : Array Nat} (h : Rise xs) (j : Nat) : below xs j ≤ xs.size ∧ (∀ q a, xs[q]? = some a → q < below xs j → a < j) ∧ (∀ q a, xs[q]? = some a → below xs j ≤ q → j ≤ a) := by
  unfold below
  refine below_go h j xs.size 0 xs.size (Nat.zero_le _) (Nat.le_refl _) (by omega) (fun q a _ l => by omega) (fun q a e l => ?_)
  have : q < xs.size := by
    rcases Nat.lt_or_ge q xs.size with z | z
    · exact z
    · rw [Array.getElem?_eq_none z] at e; cases e
  omega
theorem below_at {xs : Array Nat} (h : Rise xs) {i j : Nat} (e : xs[i]? = some j) : below xs j = i := by
  obtain ⟨h1, h2, h3⟩ := below_ok h j
  rcases Nat.lt_trichotomy (below xs j) i with q | q | q
  · have hb : below xs j < xs.size := by
      rcases Nat.lt_or_ge i xs.size with z | z
      · omega
      · rw [Array.getElem?_eq_none z] at e; cases e
    have eb : xs[below xs j]? = some xs[below xs j] := Array.getElem?_eq_getElem hb
    have := h.lt _ i _ j eb e q
    have := h3 _ _ eb (Nat.le_refl _)
    omega
  · exact q
  · have := h2 i j e q; omega
structure Tab (t : SetTable) : Prop where
  rise : Rise t.place
  nod : t.dummies = #[]
theorem Tab.live {t : SetTable} (h : Tab t) {i j : Nat} (e : t.place[i]? = some j) : t.slot j = .live i := by
  unfold slot
  dsimp only
  rw [below_at h.rise e, e]
  simp
theorem Tab.of_live {t : SetTable} {i j : Nat} (e : t.slot j = .live i) : t.place[i]? = some j := by
  unfold slot at e
  dsimp only at e
  split at e
  · rename_i q
    have z : below t.place j = i := Slot.live.inj e
    rw [z] at q
    exact eq_of_beq q
  · split at e <;> cases e
theorem Tab.empty {t : SetTable} (h : Tab t) {j : Nat} (e : ∀ i : Nat, t.place[i]? ≠ some j) : t.slot j = .empty := by
  unfold slot
  dsimp only
  rw [if_neg, if_neg]
  · unfold has
    rw [h.nod]
    simp
  · intro q
    exact e _ (eq_of_beq q)
theorem Tab.cases {t : SetTable} (h : Tab t) (j : Nat) : (∃ i, t.place[i]? = some j ∧ t.slot j = .live i) ∨ ((∀ i : Nat, t.place[i]? ≠ some j) ∧ t.slot j = .empty) := by
  by_cases q : ∃ i : Nat, t.place[i]? = some j
  · obtain ⟨i, e⟩ := q
    exact .inl ⟨i, e, h.live e⟩
  · have z : ∀ i : Nat, t.place[i]? ≠ some j := fun i e => q ⟨i, e⟩
    exact .inr ⟨z, h.empty z⟩
def path (t : SetTable) (h : Int) : Nat → Probe
  | 0 => t.probeStart h
  | n + 1 => t.advance (path t h n)
theorem path_dummy (t : SetTable) (h : Int) : ∀ n, (path t h n).dummy = none
  | 0 => rfl
  | n + 1 => by
    show (t.advance (path t h n)).dummy = none
    unfold advance
    split
    · exact path_dummy t h n
    · exact path_dummy t h n
theorem probe_from {t : SetTable} (T : Tab t) {hashAt : Nat → Int} {h : Int} {n0 : Nat} (he : t.slot (path t h n0).j = .empty) (hl : ∀ m, m < n0 → ∃ i, t.slot (path t h m).j = .live i) :
    ∀ (d n fuel : Nat), n + d = n0 → d < fuel →
      (∃ n1 i, n ≤ n1 ∧ n1 < n0 ∧ t.slot (path t h n1).j = .live i ∧ hashAt i = h ∧ probe.go t hashAt h fuel (path t h n) = some (.candidate (path t h n1).j i (path t h (n1 + 1))) ∧ ∀ m, n ≤ m → m < n1 → ∀ i, t.slot (path t h m).j = .live i → hashAt i ≠ h) ∨
      (probe.go t hashAt h fuel (path t h n) = some (.empty (path t h n0).j none) ∧ ∀ m, n ≤ m → m < n0 → ∀ i, t.slot (path t h m).j = .live i → hashAt i ≠ h)
  | 0, n, fuel + 1, e, _ => by
    have e' : n = n0 := by omega
    subst e'
    refine .inr ⟨?_, fun m h1 h2 => by omega⟩
    rw [probe.go, he]
    dsimp only
    rw [path_dummy]
  | d + 1, n, 0, e, l => by omega
  | d + 1, n, fuel + 1, e, l => by
    obtain ⟨i, hi⟩ := hl n (by omega)
    by_cases q : hashAt i = h
    · refine .inl ⟨n, i, Nat.le_refl _, by omega, hi, q, ?_, fun m h1 h2 => by omega⟩
      rw [probe.go, hi]
      dsimp only
      rw [if_pos (by rw [q]; exact beq_self_eq_true h)]
      rfl
    · have st : probe.go t hashAt h (fuel + 1) (path t h n) = probe.go t hashAt h fuel (path t h (n + 1)) := by
        rw [probe.go, hi]
        dsimp only
        rw [if_neg (fun z => q (eq_of_beq z))]
        rfl
      rw [st]
      have here : ∀ m, n ≤ m → m < n + 1 → ∀ i, t.slot (path t h m).j = .live i → hashAt i ≠ h := fun m h1 h2 i' e' => by
        have : m = n := by omega
        subst this
        rw [hi] at e'
        cases e'
        exact q
      rcases probe_from T he hl d (n + 1) fuel (by omega) (by omega) with ⟨n1, i1, a1, a2, a3, a4, a5, a6⟩ | ⟨a1, a2⟩
      · refine .inl ⟨n1, i1, by omega, a2, a3, a4, a5, fun m h1 h2 => ?_⟩
        rcases Nat.lt_or_ge m (n + 1) with z | z
        · exact here m h1 z
        · exact a6 m z h2
      · refine .inr ⟨a1, fun m h1 h2 => ?_⟩
        rcases Nat.lt_or_ge m (n + 1) with z | z
        · exact here m h1 z
        · exact a2 m z h2
def lp (mask : Nat) (h : Int) : Nat → Nat × Nat
  | 0 => (bits h % (mask + 1), bits h)
  | n + 1 => leap mask (lp mask h n).1 (lp mask h n).2
def run (mask i : Nat) : Nat := runEnd mask i - i
theorem run_le (mask i : Nat) : run mask i ≤ 9 := by unfold run runEnd; split <;> omega
theorem run_in {mask i q : Nat} (hi : i ≤ mask) (hq : q ≤ run mask i) : i + q ≤ mask := by
  unfold run runEnd at hq
  split at hq <;> omega
theorem lp_lt (mask : Nat) (h : Int) : ∀ n, (lp mask h n).1 < mask + 1
  | 0 => Nat.mod_lt _ (by omega)
  | n + 1 => Nat.mod_lt _ (by omega)
def lpP (mask : Nat) (h : Int) (n q : Nat) : Probe := { j := (lp mask h n).1 + q, more := run mask (lp mask h n).1 - q, i := (lp mask h n).1, perturb := (lp mask h n).2, dummy := none }
theorem adv_in (t : SetTable) (h : Int) {n q : Nat} (hq : q < run t.mask (lp t.mask h n).1) : t.advance (lpP t.mask h n q) = lpP t.mask h n (q + 1) := by
  unfold advance
  rw [if_pos (show (lpP t.mask h n q).more > 0 by show _ - _ > 0; omega)]
  show ({ j := (lp t.mask h n).1 + q + 1, more := run t.mask (lp t.mask h n).1 - q - 1, i := _, perturb := _, dummy := _ } : Probe) = _
  unfold lpP
  congr 1
theorem adv_out (t : SetTable) (h : Int) {n q : Nat} (hq : q = run t.mask (lp t.mask h n).1) : t.advance (lpP t.mask h n q) = lpP t.mask h (n + 1) 0 := by
  unfold advance
  rw [if_neg (show ¬ (lpP t.mask h n q).more > 0 by show ¬ _ - _ > 0; omega)]
  rfl
theorem path_start (t : SetTable) (h : Int) : path t h 0 = lpP t.mask h 0 0 := rfl
theorem path_lp (t : SetTable) (h : Int) : ∀ (n q : Nat), q ≤ run t.mask (lp t.mask h n).1 → ∃ m, m ≤ 10 * n + q ∧ path t h m = lpP t.mask h n q ∧
    ∀ m', m' < m → (∃ q', q' < q ∧ path t h m' = lpP t.mask h n q') ∨ ∃ n' q', n' < n ∧ q' ≤ run t.mask (lp t.mask h n').1 ∧ path t h m' = lpP t.mask h n' q'
  | 0, 0, _ => ⟨0, by omega, path_start t h, fun m' h' => by omega⟩
  | n + 1, 0, _ => by
    obtain ⟨m, h1, h2, h3⟩ := path_lp t h n (run t.mask (lp t.mask h n).1) (Nat.le_refl _)
    have := run_le t.mask (lp t.mask h n).1
    refine ⟨m + 1, by omega, ?_, fun m' h' => ?_⟩
    · show t.advance (path t h m) = _
      rw [h2, adv_out t h rfl]
    · rcases Nat.lt_or_ge m' m with z | z
      · rcases h3 m' z with ⟨q', a, b⟩ | ⟨n', q', a, b, c⟩
        · exact .inr ⟨n, q', by omega, by omega, b⟩
        · exact .inr ⟨n', q', by omega, b, c⟩
      · have e : m' = m := by omega
        subst e
        exact .inr ⟨n, _, by omega, Nat.le_refl _, h2⟩
  | n, q + 1, hq => by
    obtain ⟨m, h1, h2, h3⟩ := path_lp t h n q (by omega)
    refine ⟨m + 1, by omega, ?_, fun m' h' => ?_⟩
    · show t.advance (path t h m) = _
      rw [h2, adv_in t h (by omega)]
    · rcases Nat.lt_or_ge m' m with z | z
      · rcases h3 m' z with ⟨q', a, b⟩ | ⟨n', q', a, b, c⟩
        · exact .inl ⟨q', by omega, b⟩
        · exact .inr ⟨n', q', a, b, c⟩
      · have e : m' = m := by omega
        subst e
        exact .inl ⟨q, by omega, h2⟩
theorem bits_lt (h : Int) : bits h < 2 ^ 64 := by
  unfold bits
  have : h % (2 ^ 64 : Int) < 2 ^ 64 := Int.emod_lt_of_pos h (by decide)
  have : 0 ≤ h % (2 ^ 64 : Int) := Int.emod_nonneg h (by decide)
  omega
theorem lp_pert (mask : Nat) (h : Int) : ∀ n, (lp mask h n).2 = bits h / 32 ^ n
  | 0 => by show bits h = _; rw [Nat.pow_zero, Nat.div_one]
  | n + 1 => by
    show (lp mask h n).2 / 32 = _
    rw [lp_pert mask h n, Nat.div_div_eq_div_mul, Nat.pow_succ]
theorem lp_pert0 (mask : Nat) (h : Int) {n : Nat} (hn : 12 ≤ n) : (lp mask h n).2 / 32 = 0 := by
  rw [lp_pert, Nat.div_div_eq_div_mul, ← Nat.pow_succ]
  refine Nat.div_eq_of_lt (Nat.lt_of_lt_of_le (bits_lt h) ?_)
  calc 2 ^ 64 ≤ 32 ^ 13 := by decide
    _ ≤ 32 ^ (n + 1) := Nat.pow_le_pow_right (by decide) (by omega)
theorem lp_walk (mask : Nat) (h : Int) : ∀ n, (lp mask h (12 + n)).1 = walkI (mask + 1) n (lp mask h 12).1
  | 0 => rfl
  | n + 1 => by
    show ((lp mask h (12 + n)).1 * 5 + 1 + (lp mask h (12 + n)).2 / 32) % (mask + 1) = stepI (mask + 1) (walkI (mask + 1) n _)
    rw [lp_pert0 mask h (by omega), lp_walk mask h n]
    rfl
theorem lp_all {mask k : Nat} (hk : mask + 1 = 2 ^ k) (h : Int) {j : Nat} (hj : j ≤ mask) : ∃ n, n ≤ mask + 12 ∧ (lp mask h n).1 = j := by
  have a := lp_lt mask h 12
  obtain ⟨n, h1, h2⟩ := walkI_all (k := k) (i := (lp mask h 12).1) (j := j) (by omega) (by omega)
  exact ⟨12 + n, by omega, by rw [lp_walk, hk, h2]⟩
theorem path_all {t : SetTable} {k : Nat} (hk : t.mask + 1 = 2 ^ k) (h : Int) {j : Nat} (hj : j ≤ t.mask) : ∃ m, m ≤ 10 * (t.mask + 12) ∧ (path t h m).j = j := by
  obtain ⟨n, h1, h2⟩ := lp_all hk h hj
  obtain ⟨m, h3, h4, _⟩ := path_lp t h n 0 (Nat.zero_le _)
  exact ⟨m, by omega, by rw [h4]; show (lp t.mask h n).1 + 0 = j; rw [h2, Nat.add_zero]⟩
end PgSet
end
section
namespace PgSet
open PySem PySem.SetTable
theorem pigeon : ∀ (m : Nat) (l : List Nat), (∀ j, j < m → j ∈ l) → m ≤ l.length
  | 0, _, _ => Nat.zero_le _
  | m + 1, l, h => by
    have h1 := h m (Nat.lt_succ_self m)
    have h2 := pigeon m (l.erase m) fun j hj => (List.mem_erase_of_ne (by omega)).mpr (h j (by omega))
    rw [List.length_erase_of_mem h1] at h2
    have : 0 < l.length := List.length_pos_of_mem h1
    omega
structure TI (t : SetTable) (hs : Array Int) : Prop where
  tab : Tab t
  sz : t.place.size = hs.size
  inn : ∀ i j : Nat, t.place[i]? = some j → j ≤ t.mask
  reach : ∀ (i j : Nat) (h : Int), t.place[i]? = some j → hs[i]? = some h → ∃ n, (path t h n).j = j ∧ ∀ m, m < n → ∃ i' : Nat, t.place[i']? = some (path t h m).j
  pow : ∃ k, t.mask + 1 = 2 ^ k
theorem adv_in_mask {t : SetTable} {h : Int} : ∀ n, (path t h n).j ≤ t.mask := fun n => by
  -- every place of the walk is some leap's
  have main : ∀ n, ∃ a q, q ≤ run t.mask (lp t.mask h a).1 ∧ path t h n = lpP t.mask h a q := by
    intro n
    induction n with
    | zero => exact ⟨0, 0, Nat.zero_le _, rfl⟩
    | succ n ih =>
      obtain ⟨a, q, h1, h2⟩ := ih
      show ∃ a q, q ≤ run t.mask (lp t.mask h a).1 ∧ t.advance (path t h n) = lpP t.mask h a q
      rw [h2]
      rcases Nat.lt_or_ge q (run t.mask (lp t.mask h a).1) with z | z
      · exact ⟨a, q + 1, z, adv_in t h z⟩
      · exact ⟨a + 1, 0, Nat.zero_le _, adv_out t h (by omega)⟩
  obtain ⟨a, q, h1, h2⟩ := main n
  rw [h2]
  exact run_in (Nat.le_of_lt_succ (lp_lt t.mask h a)) h1
theorem least {p : Nat → Prop} : ∀ n, p n → ∃ m, m ≤ n ∧ p m ∧ ∀ k, k < m → ¬ p k
  | n, h => by
    by_cases q : ∃ k, k < n ∧ p k
    · obtain ⟨k, hk, hp⟩ := q
      obtain ⟨m, a, b, c⟩ := least k hp
      exact ⟨m, by omega, b, c⟩
    · exact ⟨n, Nat.le_refl _, h, fun k hk hp => q ⟨k, hk, hp⟩⟩
theorem mem_place {xs : Array Nat} {j : Nat} : j ∈ xs.toList ↔ ∃ i : Nat, xs[i]? = some j := by
  rw [List.mem_iff_getElem?]
  simp
theorem TI.first {t : SetTable} {hs : Array Int} (T : TI t hs) (hz : t.place.size ≤ t.mask) (h : Int) :
    ∃ n0, n0 ≤ 10 * (t.mask + 12) ∧ t.slot (path t h n0).j = .empty ∧ ∀ m, m < n0 → ∃ i, t.slot (path t h m).j = .live i := by
  have ex : ∃ j, j ≤ t.mask ∧ ∀ i : Nat, t.place[i]? ≠ some j := by
    refine Classical.byContradiction fun q => ?_
    have all : ∀ j, j < t.mask + 1 → j ∈ t.place.toList := fun j hj => by
      refine Classical.byContradiction fun z => q ⟨j, by omega, fun i e => z (mem_place.mpr ⟨i, e⟩)⟩
    have := pigeon _ _ all
    simp at this
    omega
  obtain ⟨j, hj, hn⟩ := ex
  obtain ⟨k, hk⟩ := T.pow
  obtain ⟨n, h1, h2⟩ := path_all hk h hj
  obtain ⟨m, a, b, c⟩ := least (p := fun n => t.slot (path t h n).j = .empty) n (by
    show t.slot (path t h n).j = .empty
    rw [h2]; exact T.tab.empty hn)
  refine ⟨m, by omega, b, fun q hq => ?_⟩
  rcases T.tab.cases (path t h q).j with ⟨i, _, e⟩ | ⟨_, e⟩
  · exact ⟨i, e⟩
  · exact absurd e (c q hq)
theorem path_mask {t t' : SetTable} (e : t.mask = t'.mask) (h : Int) : ∀ n, path t h n = path t' h n
  | 0 => by show t.probeStart h = t'.probeStart h; unfold probeStart; rw [e]
  | n + 1 => by
    show t.advance (path t h n) = t'.advance (path t' h n)
    rw [path_mask e h n]
    unfold advance
    rw [e]
theorem insertAt_list {α : Type} (xs : Array α) (p : Nat) (x : α) (hp : p ≤ xs.size) : (insertAt xs p x).toList = xs.toList.take p ++ x :: xs.toList.drop p := by
  unfold insertAt
  rw [Array.toList_append, Array.toList_push, Array.toList_extract, Array.toList_extract]
  simp only [List.extract_eq_take_drop, List.drop_zero, Nat.sub_zero]
  rw [List.append_assoc]
  congr 1
  show x :: (xs.toList.drop p).take (xs.size - p) = _
  congr 1
  exact List.take_of_length_le (by simp)
theorem insertAt_size {α : Type} (xs : Array α) (p : Nat) (x : α) (hp : p ≤ xs.size) : (insertAt xs p x).size = xs.size + 1 := by
  rw [← Array.length_toList, insertAt_list xs p x hp, List.length_append, List.length_cons, List.length_take, List.length_drop, Array.length_toList]
  omega
theorem insertAt_get {α : Type} (xs : Array α) (p : Nat) (x : α) (hp : p ≤ xs.size) (q : Nat) : (insertAt xs p x)[q]? = if q < p then xs[q]? else if q = p then some x else xs[q - 1]? := by
  rw [← Array.getElem?_toList, insertAt_list xs p x hp]
  have l : (xs.toList.take p).length = p := by rw [List.length_take, Array.length_toList]; omega
  rcases Nat.lt_trichotomy q p with z | z | z
  · rw [if_pos z, List.getElem?_append_left (by omega), List.getElem?_take, if_pos z, Array.getElem?_toList]
  · subst z
    rw [if_neg (by omega), if_pos rfl, List.getElem?_append_right (by omega), l, Nat.sub_self]
    rfl
  · rw [if_neg (by omega), if_neg (by omega), List.getElem?_append_right (by omega), l]
    obtain ⟨d, e⟩ : ∃ d, q - p = d + 1 := ⟨q - p - 1, by omega⟩
    rw [e, List.getElem?_cons_succ, List.getElem?_drop, Array.getElem?_toList]
    congr 1
    omega
theorem insertAt_has {α : Type} (xs : Array α) (p : Nat) (x : α) (hp : p ≤ xs.size) {i : Nat} {a : α} (e : xs[i]? = some a) : ∃ i' : Nat, (insertAt xs p x)[i']? = some a := by
  rcases Nat.lt_or_ge i p with z | z
  · exact ⟨i, by rw [insertAt_get xs p x hp, if_pos z, e]⟩
  · exact ⟨i + 1, by rw [insertAt_get xs p x hp, if_neg (by omega), if_neg (by omega), Nat.add_sub_cancel, e]⟩
theorem put_eq {t : SetTable} (T : Tab t) (j : Nat) : t.put j = ({ t with place := insertAt t.place (below t.place j) j }, below t.place j) := by
  unfold SetTable.put
  dsimp only
  rw [if_neg (by unfold has; rw [T.nod]; simp)]
theorem TI.put {t : SetTable} {hs : Array Int} (T : TI t hs) {h : Int} {n0 : Nat} (he : t.slot (path t h n0).j = .empty) (hl : ∀ m, m < n0 → ∃ i, t.slot (path t h m).j = .live i) :
    TI (t.put (path t h n0).j).1 (insertAt hs (t.put (path t h n0).j).2 h) ∧ (t.put (path t h n0).j).2 ≤ hs.size := by
  have hno : ∀ i : Nat, t.place[i]? ≠ some (path t h n0).j := fun i e => by rw [T.tab.live e] at he; cases he
  have hj := adv_in_mask (t := t) (h := h) n0
  have hpl : ∀ m, m < n0 → ∃ i : Nat, t.place[i]? = some (path t h m).j := fun m hm => by
    obtain ⟨i, e⟩ := hl m hm
    exact ⟨i, Tab.of_live e⟩
  generalize ej : (path t h n0).j = j at he hno hj
  rw [put_eq T.tab]
  dsimp only
  obtain ⟨b1, b2, b3⟩ := below_ok T.tab.rise j
  generalize below t.place j = p at b1 b2 b3
  have hp : p ≤ hs.size := by rw [← T.sz]; exact b1
  have hm : t.mask = ({ t with place := insertAt t.place p j } : SetTable).mask := rfl
  refine ⟨⟨⟨⟨fun a b x y ex ey hab => ?_⟩, T.tab.nod⟩, ?_, fun i q e => ?_, fun i q h' e1 e2 => ?_, T.pow⟩, hp⟩
  · -- rising
    dsimp only at ex ey
    rw [insertAt_get _ _ _ b1] at ex ey
    by_cases a1 : a < p
    · rw [if_pos a1] at ex
      by_cases c1 : b < p
      · rw [if_pos c1] at ey; exact T.tab.rise.lt a b x y ex ey hab
      · rw [if_neg c1] at ey
        have := b2 a x ex a1
        by_cases c2 : b = p
        · rw [if_pos c2] at ey; have := Option.some.inj ey; omega
        · rw [if_neg c2] at ey; have := b3 (b - 1) y ey (by omega); omega
    · rw [if_neg a1] at ex
      rw [if_neg (by omega), if_neg (by omega)] at ey
      by_cases a2 : a = p
      · rw [if_pos a2] at ex
        have ea := Option.some.inj ex
        have q1 := b3 (b - 1) y ey (by omega)
        have : y ≠ j := fun z => hno (b - 1) (by rw [ey, z])
        omega
      · rw [if_neg a2] at ex
        exact T.tab.rise.lt (a - 1) (b - 1) x y ex ey (by omega)
  · dsimp only
    rw [insertAt_size _ _ _ b1, insertAt_size _ _ _ hp, T.sz]
  · dsimp only at e ⊢
    rw [insertAt_get _ _ _ b1] at e
    by_cases a1 : i < p
    · rw [if_pos a1] at e; exact T.inn i q e
    · rw [if_neg a1] at e
      by_cases a2 : i = p
      · rw [if_pos a2] at e; have := Option.some.inj e; omega
      · rw [if_neg a2] at e; exact T.inn (i - 1) q e
  · dsimp only at e1 ⊢
    have old : ∀ i0 : Nat, t.place[i0]? = some q → hs[i0]? = some h' → ∃ n, (path { t with place := insertAt t.place p j } h' n).j = q ∧ ∀ m, m < n → ∃ i' : Nat, (insertAt t.place p j)[i']? = some (path { t with place := insertAt t.place p j } h' m).j := fun i0 f1 f2 => by
      obtain ⟨n, g1, g2⟩ := T.reach i0 q h' f1 f2
      refine ⟨n, by rw [← path_mask hm h' n]; exact g1, fun m hmn => ?_⟩
      rw [← path_mask hm h' m]
      obtain ⟨i', e'⟩ := g2 m hmn
      exact insertAt_has _ _ _ b1 e'
    rw [insertAt_get _ _ _ b1] at e1
    rw [insertAt_get _ _ _ hp] at e2
    by_cases a1 : i < p
    · rw [if_pos a1] at e1 e2; exact old i e1 e2
    · rw [if_neg a1] at e1 e2
      by_cases a2 : i = p
      · rw [if_pos a2] at e1 e2
        have z1 := Option.some.inj e1
        have z2 := Option.some.inj e2
        subst z1 z2
        refine ⟨n0, by rw [← path_mask hm h n0]; exact ej, fun m hmn => ?_⟩
        rw [← path_mask hm h m]
        obtain ⟨i', e'⟩ := hpl m hmn
        exact insertAt_has _ _ _ b1 e'
      · rw [if_neg a2] at e1 e2; exact old (i - 1) e1 e2
theorem insertAt_perm {α : Type} (xs : Array α) (p : Nat) (x : α) (hp : p ≤ xs.size) : (insertAt xs p x).toList.Perm (x :: xs.toList) := by
  rw [insertAt_list xs p x hp]
  exact List.perm_middle.trans (by rw [List.take_append_drop])
theorem TI.fresh (led : Bool) : TI (SetTable.fresh 0 0 led) #[] :=
  ⟨⟨⟨fun i j a b h => by simp [SetTable.fresh] at h⟩, rfl⟩, rfl, fun i j h => by simp [SetTable.fresh] at h, fun i j h e => by simp [SetTable.fresh] at e, ⟨3, rfl⟩⟩
end PgSet
end
section
namespace PgSet
open PySem PySem.SetTable
def occ (owner : Array (Option Nat)) (j : Nat) : Prop := (owner.getD j (some 0)).isNone = false
def ReachL (mask : Nat) (owner : Array (Option Nat)) (h : Int) (j : Nat) : Prop :=
  ∃ n q, q ≤ run mask (lp mask h n).1 ∧ j = (lp mask h n).1 + q ∧ (∀ q', q' < q → occ owner ((lp mask h n).1 + q')) ∧ ∀ n', n' < n → ∀ q', q' ≤ run mask (lp mask h n').1 → occ owner ((lp mask h n').1 + q')
theorem free_ok {mask : Nat} {owner : Array (Option Nat)} (h : Int) : ∀ (fuel n e : Nat), n ≤ e → e < n + fuel → ¬ occ owner (lp mask h e).1 →
    (∀ n', n' < n → ∀ q', q' ≤ run mask (lp mask h n').1 → occ owner ((lp mask h n').1 + q')) →
    ∃ j, layClean.free mask owner fuel (lp mask h n).1 (lp mask h n).2 = some j ∧ ¬ occ owner j ∧ ReachL mask owner h j ∧ j ≤ mask
  | 0, n, e, h1, h2, _, _ => by omega
  | fuel + 1, n, e, h1, h2, h3, h4 => by
    rw [layClean.free]
    have hr : runEnd mask (lp mask h n).1 + 1 - (lp mask h n).1 = run mask (lp mask h n).1 + 1 := by
      unfold run runEnd
      split <;> omega
    rw [hr]
    cases q : (List.range (run mask (lp mask h n).1 + 1)).find? (fun k => (owner.getD ((lp mask h n).1 + k) (some 0)).isNone) with
    | some k =>
      dsimp only
      obtain ⟨a1, a2, a3⟩ := List.find?_range_eq_some.mp q
      have hk : k ≤ run mask (lp mask h n).1 := Nat.le_of_lt_succ (List.mem_range.mp a2)
      refine ⟨_, rfl, fun z => ?_, ⟨n, k, hk, rfl, fun q' hq => ?_, h4⟩, run_in (Nat.le_of_lt_succ (lp_lt mask h n)) hk⟩
      · unfold occ at z
        rw [z] at a1
        cases a1
      · have := a3 q' hq
        unfold occ
        simpa using this
    | none =>
      dsimp only
      have a := List.find?_range_eq_none.mp q
      have here : ∀ q', q' ≤ run mask (lp mask h n).1 → occ owner ((lp mask h n).1 + q') := fun q' hq => by
        have := a q' (by omega)
        unfold occ
        simpa using this
      have ne : n ≠ e := fun z => by
        subst z
        exact h3 (by have := here 0 (Nat.zero_le _); rwa [Nat.add_zero] at this)
      refine free_ok h fuel (n + 1) e (by omega) (by omega) h3 fun n' hn => ?_
      rcases Nat.lt_or_ge n' n with z | z
      · exact h4 n' z
      · have e' : n' = n := by omega
        subst e'
        exact here
structure LI (mask : Nat) (owner : Array (Option Nat)) (hs : List Int) (sl : List Nat) : Prop where
  osz : owner.size = mask + 1
  len : sl.length = hs.length
  fwd : ∀ k j : Nat, sl[k]? = some j → owner[j]? = some (some k)
  bwd : ∀ j k : Nat, owner[j]? = some (some k) → sl[k]? = some j
  reach : ∀ (k j : Nat) (h : Int), sl[k]? = some j → hs[k]? = some h → ReachL mask owner h j
theorem occ_iff {mask : Nat} {owner : Array (Option Nat)} {hs : List Int} {sl : List Nat} (L : LI mask owner hs sl) {j : Nat} (hj : j ≤ mask) : occ owner j ↔ ∃ k : Nat, owner[j]? = some (some k) := by
  unfold occ
  have h : j < owner.size := by rw [L.osz]; omega
  rw [Array.getD_eq_getD_getElem?, Array.getElem?_eq_getElem h]
  simp only [Option.getD_some]
  cases owner[j] with
  | none => simp
  | some k => simp
theorem ReachL.mono {mask : Nat} {o o' : Array (Option Nat)} {h : Int} {j : Nat} (m : ∀ i, i ≤ mask → occ o i → occ o' i) (r : ReachL mask o h j) : ReachL mask o' h j := by
  obtain ⟨n, q, h1, h2, h3, h4⟩ := r
  refine ⟨n, q, h1, h2, fun q' hq => m _ (run_in (Nat.le_of_lt_succ (lp_lt mask h n)) (by omega)) (h3 q' hq), fun n' hn q' hq => m _ (run_in (Nat.le_of_lt_succ (lp_lt mask h n')) hq) (h4 n' hn q' hq)⟩
theorem LI.step {mask k2 : Nat} {owner : Array (Option Nat)} {hs : List Int} {sl : List Nat} (L : LI mask owner hs sl) (hp : mask + 1 = 2 ^ k2) (hz : hs.length ≤ mask) (h : Int) :
    ∃ j, layClean.free mask owner (turns mask) (bits h % (mask + 1)) (bits h) = some j ∧ LI mask (owner.setIfInBounds j (some hs.length)) (hs ++ [h]) (sl ++ [j]) := by
  -- a place is free
  have ex : ∃ j, j ≤ mask ∧ ¬ occ owner j := by
    refine Classical.byContradiction fun q => ?_
    have all : ∀ j, j < mask + 1 → j ∈ sl := fun j hj => by
      have o : occ owner j := Classical.byContradiction fun z => q ⟨j, by omega, z⟩
      obtain ⟨k, e⟩ := (occ_iff L (by omega)).mp o
      exact List.mem_iff_getElem?.mpr ⟨k, L.bwd j k e⟩
    have := pigeon _ _ all
    have := L.len
    omega
  obtain ⟨j0, hj0, hn0⟩ := ex
  obtain ⟨e, he1, he2⟩ := lp_all hp h hj0
  obtain ⟨j, f1, f2, f3, f4⟩ := free_ok (mask := mask) (owner := owner) h (turns mask) 0 e (Nat.zero_le _) (by unfold turns; omega) (by rw [he2]; exact hn0) (fun n' hn => by omega)
  refine ⟨j, f1, ?_⟩
  have hjs : j < owner.size := by rw [L.osz]; omega
  have get : ∀ i : Nat, (owner.setIfInBounds j (some hs.length))[i]? = if j = i then some (some hs.length) else owner[i]? := fun i => by
    rw [Array.getElem?_setIfInBounds, if_pos hjs]
  have notj : ∀ k : Nat, owner[j]? ≠ some (some k) := fun k z => f2 ((occ_iff L f4).mpr ⟨k, z⟩)
  refine ⟨?_, ?_, fun k i e => ?_, fun i k e => ?_, fun k i h' e1 e2 => ?_⟩
  · rw [Array.size_setIfInBounds]; exact L.osz
  · rw [List.length_append, List.length_append, L.len]; rfl
  · rw [get]
    rcases Nat.lt_or_ge k sl.length with z | z
    · rw [List.getElem?_append_left z] at e
      have := L.fwd k i e
      rw [if_neg (fun z : j = i => notj k (by rw [z]; exact this))]
      exact this
    · rw [List.getElem?_append_right z] at e
      obtain ⟨e1, e2⟩ : k - sl.length = 0 ∧ j = i := by
        cases d : k - sl.length with
        | zero => rw [d] at e; exact ⟨rfl, Option.some.inj e⟩
        | succ d' => rw [d] at e; simp at e
      rw [if_pos e2]
      congr 2
      have := L.len
      omega
  · rw [get] at e
    by_cases c : j = i
    · rw [if_pos c] at e
      have ek : hs.length = k := Option.some.inj (Option.some.inj e)
      rw [List.getElem?_append_right (by rw [L.len]; omega), L.len, ek, Nat.sub_self, c]
      rfl
    · rw [if_neg c] at e
      have := L.bwd i k e
      have hk : k < sl.length := (List.getElem?_eq_some_iff.mp this).1
      rw [List.getElem?_append_left hk]
      exact this
  · have m : ∀ i, i ≤ mask → occ owner i → occ (owner.setIfInBounds j (some hs.length)) i := fun i hi o => by
      have hi' : i < owner.size := by rw [L.osz]; omega
      unfold occ at o ⊢
      rw [Array.getD_eq_getD_getElem?] at o ⊢
      rw [get]
      by_cases c : j = i
      · rw [if_pos c]; rfl
      · rw [if_neg c]; exact o
    rcases Nat.lt_or_ge k sl.length with z | z
    · rw [List.getElem?_append_left z] at e1
      rw [List.getElem?_append_left (by have := L.len; omega)] at e2
      exact (L.reach k i h' e1 e2).mono m
    · rw [List.getElem?_append_right z] at e1
      rw [List.getElem?_append_right (by have := L.len; omega)] at e2
      obtain ⟨d1, d2⟩ : k - sl.length = 0 ∧ j = i := by
        cases d : k - sl.length with
        | zero => rw [d] at e1; exact ⟨rfl, Option.some.inj e1⟩
        | succ d' => rw [d] at e1; simp at e1
      have ek : k - hs.length = 0 := by have := L.len; omega
      rw [ek] at e2
      have eh : h = h' := Option.some.inj e2
      subst d2 eh
      exact f3.mono m
def layStep (mask : Nat) (acc : Option (Array (Option Nat) × Nat)) (h : Int) : Option (Array (Option Nat) × Nat) := do
  let (owner, k) ← acc
  let j ← layClean.free mask owner (turns mask) (bits h % (mask + 1)) (bits h)
  pure (owner.setIfInBounds j (some k), k + 1)
theorem lay_fold {mask k2 : Nat} (hp : mask + 1 = 2 ^ k2) : ∀ (rest hs : List Int) (owner : Array (Option Nat)) (sl : List Nat), LI mask owner hs sl → hs.length + rest.length ≤ mask →
    ∃ owner' sl', rest.foldl (layStep mask) (some (owner, hs.length)) = some (owner', (hs ++ rest).length) ∧ LI mask owner' (hs ++ rest) sl'
  | [], hs, owner, sl, L, _ => ⟨owner, sl, by rw [List.append_nil]; rfl, by rw [List.append_nil]; exact L⟩
  | h :: rest, hs, owner, sl, L, hz => by
    rw [List.length_cons] at hz
    obtain ⟨j, f1, f2⟩ := L.step hp (by omega) h
    obtain ⟨o', sl', g1, g2⟩ := lay_fold hp rest (hs ++ [h]) _ _ f2 (by rw [List.length_append]; simp; omega)
    rw [List.append_assoc] at g1 g2
    refine ⟨o', sl', ?_, g2⟩
    rw [List.foldl_cons]
    have e : layStep mask (some (owner, hs.length)) h = some (owner.setIfInBounds j (some hs.length), (hs ++ [h]).length) := by
      unfold layStep
      simp only [Option.bind_eq_bind, Option.bind_some, f1]
      rw [List.length_append]
      rfl
    rw [e]
    exact g1
theorem layClean_ok {mask k2 : Nat} (hp : mask + 1 = 2 ^ k2) (hs : Array Int) (hz : hs.size ≤ mask) : ∃ owner sl, layClean mask hs = some owner ∧ LI mask owner hs.toList sl := by
  have L0 : LI mask (Array.replicate (mask + 1) none) [] [] := by
    refine ⟨Array.size_replicate, rfl, fun k j h => by simp at h, fun j k h => ?_, fun k j h e => by simp at e⟩
    rw [Array.getElem?_replicate] at h
    split at h <;> cases h
  obtain ⟨o, sl, h1, h2⟩ := lay_fold hp hs.toList [] _ _ L0 (by simpa using hz)
  refine ⟨o, sl, ?_, by simpa using h2⟩
  unfold layClean
  rw [← Array.foldl_toList]
  have : List.foldl (layStep mask) (some (Array.replicate (mask + 1) none, 0)) hs.toList = some (o, ([] ++ hs.toList).length) := h1
  show Option.map (fun x => x.1) (List.foldl (layStep mask) (some (Array.replicate (mask + 1) none, 0)) hs.toList) = some o
  rw [this]
  rfl
theorem laid_ok {mask k2 finger moves : Nat} {led plain : Bool} (hp : mask + 1 = 2 ^ k2) (hs : Array Int) (hz : hs.size ≤ mask) :
    ∃ t order, laid mask finger moves led plain hs = some (t, order) ∧ order.toList.Perm (List.range hs.size) ∧ TI t (order.filterMap (hs[·]?)) ∧ t.mask = mask ∧ t.led = led ∧ t.moves = moves ∧ t.plain = plain ∧ t.finger = finger := by
  obtain ⟨owner, sl, h1, L⟩ := layClean_ok hp hs hz
  have hlen : sl.length = hs.size := by rw [L.len]; simp
  let f : Nat → Option (Nat × Nat) := fun j => (owner.getD j none).map (j, ·)
  let live := (List.range (mask + 1)).filterMap f
  have fiff : ∀ j p, f j = some p ↔ p.1 = j ∧ owner[j]? = some (some p.2) := fun j p => by
    show (owner.getD j none).map (j, ·) = some p ↔ _
    rw [Array.getD_eq_getD_getElem?]
    cases e : owner[j]? with
    | none => simp
    | some o =>
      cases o with
      | none => simp
      | some k =>
        simp only [Option.getD_some, Option.map_some, Option.some.injEq]
        constructor
        · intro z; subst z; exact ⟨rfl, rfl⟩
        · rintro ⟨z1, z2⟩; exact Prod.ext z1.symm z2
  have mem : ∀ p, p ∈ live ↔ owner[p.1]? = some (some p.2) := fun p => by
    show p ∈ (List.range (mask + 1)).filterMap f ↔ _
    rw [List.mem_filterMap]
    constructor
    · rintro ⟨j, _, e⟩
      obtain ⟨e1, e2⟩ := (fiff j p).mp e
      rw [e1]; exact e2
    · intro e
      have hj : p.1 < owner.size := by
        rcases Nat.lt_or_ge p.1 owner.size with z | z
        · exact z
        · rw [Array.getElem?_eq_none z] at e; cases e
      exact ⟨p.1, List.mem_range.mpr (by rw [← L.osz]; exact hj), (fiff _ _).mpr ⟨rfl, e⟩⟩
  have srt : live.Pairwise (fun a b => a.1 < b.1) := List.Pairwise.filterMap f (fun a a' haa b hb b' hb' => by
    have := ((fiff a b).mp hb).1
    have := ((fiff a' b').mp hb').1
    omega) List.pairwise_lt_range
  have ordnd : (live.map (·.2)).Nodup := by
    rw [List.nodup_iff_pairwise_ne, List.pairwise_map]
    -- two entries with one owner stand at one place
    have all : ∀ a ∈ live, ∀ b ∈ live, a.1 < b.1 → a.2 ≠ b.2 := fun a ha b hb hlt e => by
      have x := L.bwd _ _ ((mem a).mp ha)
      have y := L.bwd _ _ ((mem b).mp hb)
      rw [e, y] at x
      have := Option.some.inj x
      omega
    have main : ∀ l : List (Nat × Nat), (∀ x ∈ l, x ∈ live) → l.Pairwise (fun a b => a.1 < b.1) → l.Pairwise (fun a b => a.2 ≠ b.2) := by
      intro l
      induction l with
      | nil => intro _ _; exact List.Pairwise.nil
      | cons a l ih =>
        intro hm hp'
        rw [List.pairwise_cons] at hp' ⊢
        exact ⟨fun b hb => all a (hm a (List.mem_cons_self ..)) b (hm b (List.mem_cons_of_mem _ hb)) (hp'.1 b hb), ih (fun x hx => hm x (List.mem_cons_of_mem _ hx)) hp'.2⟩
    exact main live (fun x hx => hx) srt
  have perm : (live.map (·.2)).Perm (List.range hs.size) := by
    refine (List.perm_ext_iff_of_nodup ordnd List.nodup_range).mpr fun k => ?_
    rw [List.mem_map, List.mem_range]
    constructor
    · rintro ⟨p, hp', rfl⟩
      have := L.bwd _ _ ((mem p).mp hp')
      rw [← hlen]
      exact (List.getElem?_eq_some_iff.mp this).1
    · intro hk
      have e : sl[k]? = some sl[k] := List.getElem?_eq_getElem (by omega)
      exact ⟨(sl[k], k), (mem _).mpr (L.fwd k _ e), rfl⟩
  have gets : ∀ i j : Nat, ((live.map (·.1)).toArray)[i]? = some j → ∃ k h, live[i]? = some (j, k) ∧ hs[k]? = some h ∧ sl[k]? = some j := fun i j e => by
    rw [List.getElem?_toArray, List.getElem?_map] at e
    cases q : live[i]? with
    | none => rw [q] at e; cases e
    | some p =>
      rw [q] at e
      have e1 : p.1 = j := Option.some.inj e
      have m := (mem p).mp (List.mem_of_getElem? q)
      have s := L.bwd _ _ m
      have hk : p.2 < hs.size := by rw [← hlen]; exact (List.getElem?_eq_some_iff.mp s).1
      exact ⟨p.2, hs[p.2], by rw [← e1], Array.getElem?_eq_getElem hk, by rw [← e1]; exact s⟩
  have fm : (((live.map (·.2)).toArray).filterMap (hs[·]?)).toList = live.map fun p => hs.getD p.2 0 := by
    rw [Array.toList_filterMap, List.filterMap_map]
    show live.filterMap (fun p => hs[p.2]?) = _
    have main : ∀ l : List (Nat × Nat), (∀ x ∈ l, x ∈ live) → l.filterMap (fun p => hs[p.2]?) = l.map fun p => hs.getD p.2 0 := by
      intro l
      induction l with
      | nil => intro _; rfl
      | cons p l ih =>
        intro hm
        have s := L.bwd _ _ ((mem p).mp (hm p (List.mem_cons_self ..)))
        have hk : p.2 < hs.size := by rw [← hlen]; exact (List.getElem?_eq_some_iff.mp s).1
        have e : hs[p.2]? = some (hs.getD p.2 0) := by
          rw [Array.getD_eq_getD_getElem?, Array.getElem?_eq_getElem hk]
          rfl
        rw [List.filterMap_cons, e, List.map_cons, ih fun x hx => hm x (List.mem_cons_of_mem _ hx)]
    exact main live fun x hx => hx
  refine ⟨{ mask, place := (live.map (·.1)).toArray, dummies := #[], finger, led, moves, plain }, (live.map (·.2)).toArray, ?_, perm, ⟨⟨⟨fun a b x y ex ey hab => ?_⟩, rfl⟩, ?_, fun i j e => ?_, fun i j h e1 e2 => ?_, ⟨k2, hp⟩⟩, rfl, rfl, rfl, rfl, rfl⟩
  · unfold laid
    rw [h1]
    rfl
  · dsimp only at ex ey
    rw [List.getElem?_toArray, List.getElem?_map] at ex ey
    cases qa : live[a]? with
    | none => rw [qa] at ex; cases ex
    | some pa =>
      cases qb : live[b]? with
      | none => rw [qb] at ey; cases ey
      | some pb =>
        rw [qa] at ex
        rw [qb] at ey
        have ea : pa.1 = x := Option.some.inj ex
        have eb : pb.1 = y := Option.some.inj ey
        obtain ⟨la, ga⟩ := List.getElem?_eq_some_iff.mp qa
        obtain ⟨lb, gb⟩ := List.getElem?_eq_some_iff.mp qb
        have := List.pairwise_iff_getElem.mp srt a b la lb hab
        rw [ga, gb] at this
        omega
  · show ((live.map (·.1)).toArray).size = _
    rw [← Array.length_toList (xs := Array.filterMap _ _), fm]
    simp
  · obtain ⟨k, h, q1, q2, q3⟩ := gets i j e
    have m := L.fwd k j q3
    have hj : j < owner.size := by
      rcases Nat.lt_or_ge j owner.size with z | z
      · exact z
      · rw [Array.getElem?_eq_none z] at m; cases m
    show j ≤ mask
    rw [L.osz] at hj
    omega
  · obtain ⟨k, h', q1, q2, q3⟩ := gets i j e1
    have eh : h' = h := by
      rw [← Array.getElem?_toList, fm, List.getElem?_map, q1] at e2
      have e3 : hs.getD k 0 = h := Option.some.inj e2
      rw [Array.getD_eq_getD_getElem?, q2] at e3
      exact e3
    subst eh
    have r := L.reach k j h' q3 (by rw [Array.getElem?_toList]; exact q2)
    obtain ⟨n, q, r1, r2, r3, r4⟩ := r
    obtain ⟨m, m1, m2, m3⟩ := path_lp { mask, place := (live.map (·.1)).toArray, dummies := #[], finger, led, moves, plain } h' n q r1
    refine ⟨m, by rw [m2]; exact r2.symm, fun m' hm' => ?_⟩
    have taken : ∀ j', j' ≤ mask → occ owner j' → ∃ i' : Nat, ((live.map (·.1)).toArray)[i']? = some j' := fun j' hj' o => by
      obtain ⟨k', e'⟩ := (occ_iff L hj').mp o
      have hm : (j', k') ∈ live := (mem _).mpr e'
      obtain ⟨i', hi'⟩ := List.mem_iff_getElem?.mp hm
      exact ⟨i', by rw [List.getElem?_toArray, List.getElem?_map, hi']; rfl⟩
    rcases m3 m' hm' with ⟨q', a1, a2⟩ | ⟨n', q', a1, a2, a3⟩
    · rw [a2]
      exact taken _ (run_in (Nat.le_of_lt_succ (lp_lt mask h' n)) (by have := r1; dsimp only at this ⊢; omega)) (r3 q' a1)
    · rw [a3]
      exact taken _ (run_in (Nat.le_of_lt_succ (lp_lt mask h' n')) a2) (r4 n' a1 q' a2)
end PgSet
end
section
set_option linter.all false
set_option maxRecDepth 100000
set_option maxHeartbeats 4000000
namespace PgSet
open PySem PySem.SetTable
def MaskOk (mask n : Nat) : Prop := (mask = 7 ∧ n < 5) ∨ (mask = 31 ∧ n < 19) ∨ (mask = 127 ∧ n < 77) ∨ (mask = 511 ∧ n < 307) ∨ (mask = 2047 ∧ n < 1229) ∨ (mask = 8191 ∧ n < 4915)
theorem MaskOk.le {mask n : Nat} (h : MaskOk mask n) : n ≤ mask ∧ mask ≤ 8191 ∧ mask % 2 = 1 := by
  unfold MaskOk at h; omega
theorem MaskOk.more {mask n : Nat} (h : MaskOk mask n) (hn : n + 1 < 4915) :
    (¬ (n + 1) * 5 ≥ mask * 3 ∧ MaskOk mask (n + 1)) ∨ ((n + 1) * 5 ≥ mask * 3 ∧ MaskOk (sizeAbove (grown (n + 1)) - 1) (n + 1) ∧ (∃ k, sizeAbove (grown (n + 1)) - 1 + 1 = 2 ^ k) ∧ sizeAbove (grown (n + 1)) ≤ sizeLine) := by
  by_cases q : (n + 1) * 5 ≥ mask * 3
  · refine .inr ⟨q, ?_⟩
    have : n + 1 = 5 ∨ n + 1 = 19 ∨ n + 1 = 77 ∨ n + 1 = 307 ∨ n + 1 = 1229 := by unfold MaskOk at h; omega
    rcases this with e | e | e | e | e <;> rw [e]
    · exact ⟨.inr (.inl ⟨by decide +kernel, by decide⟩), ⟨5, by decide +kernel⟩, by rw [sizeLine_eq]; decide +kernel⟩
    · exact ⟨.inr (.inr (.inl ⟨by decide +kernel, by decide⟩)), ⟨7, by decide +kernel⟩, by rw [sizeLine_eq]; decide +kernel⟩
    · exact ⟨.inr (.inr (.inr (.inl ⟨by decide +kernel, by decide⟩))), ⟨9, by decide +kernel⟩, by rw [sizeLine_eq]; decide +kernel⟩
    · exact ⟨.inr (.inr (.inr (.inr (.inl ⟨by decide +kernel, by decide⟩)))), ⟨11, by decide +kernel⟩, by rw [sizeLine_eq]; decide +kernel⟩
    · exact ⟨.inr (.inr (.inr (.inr (.inr ⟨by decide +kernel, by decide⟩)))), ⟨13, by decide +kernel⟩, by rw [sizeLine_eq]; decide +kernel⟩
  · refine .inl ⟨q, ?_⟩
    unfold MaskOk at h ⊢; omega
section
variable {prog : Program} {w : World} {A : Around} {E : Value → Shared → Prop} {s : Shared}
abbrev kn (prog : Program) (w : World) : KeyKind prog w Int := intKind prog w
abbrev TK (prog : Program) (w : World) (h : Heap) (k : List Int) (a : Addr) : Prop := IsTupleKey (kn prog w) h k a
abbrev hsh (prog : Program) (w : World) (k : List Int) : Int := tupleKeyHash (kn prog w) k
theorem tk_class {k : List Int} {a : Addr} {Q : Bool → Shared → Prop} (x : TK prog w s.heap k a) (h : Q false s) : wpAny (model prog w) A (ofAClassStatement 8 (.ref a)) Q E s := by
  have hT := x.typeIs
  obtain ⟨o, its, n, ho, hc, hd, hi⟩ := x
  unfold ofAClassStatement
  refine wpAny_bind (wpAny_typeOf hT ?_)
  dsimp only
  refine wpAny_bind (wpAny_pure ?_)
  simp only [Bool.not_true, Bool.false_eq_true, if_false]
  refine wpAny_bind (wpAny_seqItems ho hd ?_)
  dsimp only
  refine wpAny_bind ?_
  rw [← Array.forIn_toList]
  refine wpAny_forIn_list _ (fun rest r s' => r.1 = none ∧ s' = s ∧ ∀ v ∈ rest, carriedByValue v = true) _ ?_ ?_ _ _ ⟨rfl, rfl, hi.byValue⟩
  · rintro v rest r s' ⟨hr, rfl, al⟩
    have e : ofAClassStatement 7 v = pure false := by
      have c := al v List.mem_cons_self
      cases v with
      | ref b => simp [carriedByValue] at c
      | _ => rfl
    rw [e]
    refine wpAny_bind (wpAny_pure ?_)
    simp only [Bool.false_eq_true, if_false]
    exact wpAny_pure ⟨rfl, rfl, fun u hu => al u (List.mem_cons_of_mem _ hu)⟩
  · rintro ⟨r1, r2⟩ s' ⟨hr, rfl, _⟩
    dsimp only at hr
    subst hr
    exact wpAny_pure h
theorem tk_byValue {k : List Int} {a : Addr} {Q : Bool → Shared → Prop} (x : TK prog w s.heap k a) (h : Q true s) : wpAny (model prog w) A (hashByValue 8 (.ref a)) Q E s := by
  have hT := x.typeIs
  obtain ⟨o, its, n, ho, hc, hd, hi⟩ := x
  unfold hashByValue
  refine wpAny_bind (wpAny_specialOf hT F.slot_tuple_hash.lookup ?_)
  dsimp only
  refine wpAny_bind (wpAny_seqItems ho hd ?_)
  dsimp only [Option.getD_some]
  refine wpAny_bind ?_
  rw [← Array.forIn_toList]
  have allInt : ∀ v ∈ its.toList, ∃ i t, v = Value.int i t := by
    intro v hv
    have main : ∀ (ks : List Int) (vs : List Value), ItemsAre (kn prog w) ks vs → ∀ v ∈ vs, ∃ i t, v = Value.int i t := by
      intro ks vs h
      induction h with
      | nil => intro v hv; cases hv
      | cons h1 _ ih =>
        intro v hv
        rcases List.mem_cons.mp hv with rfl | hv
        · obtain ⟨t, e⟩ := Value.isInt_shape h1
          exact ⟨_, t, e⟩
        · exact ih v hv
    exact main _ _ hi v hv
  refine wpAny_forIn_list _ (fun rest r s' => r.1 = none ∧ s' = s ∧ ∀ v ∈ rest, ∃ i t, v = Value.int i t) _ ?_ ?_ _ _ ⟨rfl, rfl, allInt⟩
  · rintro v rest r s' ⟨hr, rfl, al⟩
    obtain ⟨i, t, rfl⟩ := al v List.mem_cons_self
    have e : hashByValue 7 (.int i t) = pure true := rfl
    rw [e]
    refine wpAny_bind (wpAny_pure ?_)
    simp only [Bool.not_true, Bool.false_eq_true, if_false]
    exact wpAny_pure ⟨rfl, rfl, fun u hu => al u (List.mem_cons_of_mem _ hu)⟩
  · rintro ⟨r1, r2⟩ s' ⟨hr, rfl, _⟩
    dsimp only at hr
    subst hr
    exact wpAny_pure h
theorem tk_unseen {k : List Int} {a : Addr} {Q : Bool → Shared → Prop} (x : TK prog w s.heap k a) (l : List Value) (hl : ∀ v ∈ l, ∃ k b, v = Value.ref b ∧ TK prog w s.heap k b) (h : Q false s) :
    wpAny (model prog w) A (searchCouldBeSeen (.ref a) l) Q E s := by
  unfold searchCouldBeSeen
  refine wpAny_bind ?_
  refine wpAny_forIn_list _ (fun rest r s' => r.1 = none ∧ s' = s ∧ ∀ v ∈ rest, ∃ k b, v = Value.ref b ∧ TK prog w s.heap k b) _ ?_ ?_ _ _ ⟨rfl, rfl, hl⟩
  · rintro v rest r s' ⟨hr, rfl, al⟩
    obtain ⟨k', b, rfl, y⟩ := al v List.mem_cons_self
    have next : ∀ u ∈ rest, ∃ k b, u = Value.ref b ∧ TK prog w s'.heap k b := fun u hu => al u (List.mem_cons_of_mem _ hu)
    dsimp only
    split
    · exact wpAny_pure ⟨rfl, rfl, next⟩
    · refine wpAny_bind (wpAny_eqIsQuiet_tuple x ?_)
      simp only [Bool.not_true, Bool.false_eq_true, if_false]
      refine wpAny_bind (wpAny_eqIsQuiet_tuple y ?_)
      simp only [Bool.not_true, Bool.false_eq_true, if_false]
      refine wpAny_bind (tk_class x ?_)
      simp only [Bool.false_eq_true, if_false]
      refine wpAny_bind (tk_class y ?_)
      simp only [Bool.false_eq_true, if_false]
      exact wpAny_pure ⟨rfl, rfl, next⟩
  · rintro ⟨r1, r2⟩ s' ⟨hr, rfl, _⟩
    dsimp only at hr
    subst hr
    exact wpAny_pure h
end
end PgSet
end
section
set_option linter.all false
set_option maxRecDepth 100000
set_option maxHeartbeats 4000000
namespace PgSet
open PySem PySem.SetTable
theorem paired_perm {α β : Type} {R : α → β → Prop} {l l' : List β} (p : l'.Perm l) : ∀ ks : List α, Paired R ks l → ∃ ks' : List α, ks'.Perm ks ∧ Paired R ks' l' := by
  induction p with
  | nil => intro ks h; exact ⟨ks, .refl _, h⟩
  | cons x _ ih =>
    intro ks h
    cases h with
    | cons h1 h2 =>
      obtain ⟨ks', p', h'⟩ := ih _ h2
      exact ⟨_ :: ks', p'.cons _, .cons h1 h'⟩
  | swap x y l =>
    intro ks h
    cases h with
    | cons h1 h2 =>
      cases h2 with
      | cons h3 h4 => exact ⟨_ :: _ :: _, .swap .., .cons h3 (.cons h1 h4)⟩
  | trans _ _ ih1 ih2 =>
    intro ks h
    obtain ⟨k1, p1, h1⟩ := ih2 ks h
    obtain ⟨k2, p2, h2⟩ := ih1 k1 h1
    exact ⟨k2, p2.trans p1, h2⟩
theorem paired_get {α β : Type} {R : α → β → Prop} : ∀ {ks : List α} {l : List β}, Paired R ks l → ∀ (i : Nat) (e : β), l[i]? = some e → ∃ k, ks[i]? = some k ∧ R k e
  | _, _, .nil, i, e, h => by simp at h
  | _, _, .cons h1 _, 0, e, h => by
    have := Option.some.inj h
    subst this
    exact ⟨_, rfl, h1⟩
  | _, _, .cons _ t, i + 1, e, h => paired_get t i e h
theorem paired_get' {α β : Type} {R : α → β → Prop} : ∀ {ks : List α} {l : List β}, Paired R ks l → ∀ (i : Nat) (k : α), ks[i]? = some k → ∃ e, l[i]? = some e ∧ R k e
  | _, _, .nil, i, e, h => by simp at h
  | _, _, .cons h1 _, 0, e, h => by
    have := Option.some.inj h
    subst this
    exact ⟨_, rfl, h1⟩
  | _, _, .cons _ t, i + 1, e, h => paired_get' t i e h
section
variable {prog : Program} {w : World} {A : Around} {E : Value → Shared → Prop} {s : Shared}
def Ent (prog : Program) (w : World) (h : Heap) (k : List Int) (e : Int × Value) : Prop := ∃ a, e.2 = .ref a ∧ TK prog w h k a ∧ e.1 = hsh prog w k
structure At (prog : Program) (w : World) (h : Heap) (S : Addr) (ks : List (List Int)) (o : Obj) (es : Array (Int × Value)) (ep : Nat) (t : SetTable) : Prop where
  ho : h.get? S = some o
  ex : o.ExactSet
  hd : o.data = .set es ep t
  ti : TI t (es.map (·.1))
  mo : MaskOk t.mask es.size
  en : Paired (Ent prog w h) ks es.toList
  nd : ks.Nodup
theorem At.fits {h : Heap} {S : Addr} {ks : List (List Int)} {o : Obj} {es : Array (Int × Value)} {ep : Nat} {t : SetTable} (a : At prog w h S ks o es ep t) : t.fits es.size = true := by
  have z : t.place.size = es.size := by rw [a.ti.sz]; simp
  unfold SetTable.fits SetTable.fill
  rw [a.ti.tab.nod, z]
  have := a.mo.le.1
  simp [this]
theorem At.len {h : Heap} {S : Addr} {ks : List (List Int)} {o : Obj} {es : Array (Int × Value)} {ep : Nat} {t : SetTable} (a : At prog w h S ks o es ep t) : ks.length = es.size := by
  rw [a.en.length]; simp
theorem At.moves {t : SetTable} : t.sameMemory t.moves t.mask = some true := by
  unfold sameMemory; simp
theorem search_ok {S : Addr} {ks : List (List Int)} {o : Obj} {es : Array (Int × Value)} {ep : Nat} {t : SetTable} (a : At prog w s.heap S ks o es ep t) {k : List Int} {x : Addr} (hx : TK prog w s.heap k x) (hu : A.units < cLine)
    {n0 : Nat} (hb : n0 < 10 * turns t.mask) (he : t.slot (path t (hsh prog w k) n0).j = .empty) (hl : ∀ m, m < n0 → ∃ i, t.slot (path t (hsh prog w k) m).j = .live i) {Q : SetFound → Shared → Prop}
    (hy : k ∈ ks → Q (.there none) s) (hn : k ∉ ks → Q (.free (path t (hsh prog w k) n0).j false) s) :
    ∀ (d n fuel : Nat) (stand : Option Probe), n + d = n0 → d < fuel → stand.getD (t.probeStart (hsh prog w k)) = path t (hsh prog w k) n →
      (k ∈ ks → ∃ n1 i, n ≤ n1 ∧ n1 < n0 ∧ t.slot (path t (hsh prog w k) n1).j = .live i ∧ ks[i]? = some k) →
      wpAny (model prog w) A (setSearchFrom S (.ref x) (hsh prog w k) true fuel stand) Q E s := by
  intro d
  induction d using Nat.strongRecOn with
  | ind d ih =>
    intro n fuel stand e1 e2 e3 here
    obtain ⟨fuel, rfl⟩ : ∃ f, fuel = f + 1 := ⟨fuel - 1, by omega⟩
    unfold setSearchFrom
    refine wpAny_bind (wpAny_setState_of a.ho a.hd a.fits ?_)
    dsimp only
    have hg : t.gaveWay = false := by
      unfold SetTable.gaveWay
      rw [a.mo.le.2.2]
      rfl
    rw [hg]
    simp only [Bool.false_eq_true, if_false]
    rw [e3]
    have P := probe_from a.ti.tab (hashAt := fun i => (es[i]?.map (·.1)).getD 0) he hl d n (10 * turns t.mask) e1 (by omega)
    have entAt : ∀ {i : Nat} {j : Nat}, t.slot j = .live i → ∃ h y k', es[i]? = some (h, Value.ref y) ∧ ks[i]? = some k' ∧ TK prog w s.heap k' y ∧ h = hsh prog w k' := fun {i j} q => by
      have q1 := Tab.of_live q
      have q2 : i < es.size := by
        have z : t.place.size = es.size := by rw [a.ti.sz]; simp
        rw [← z]
        rcases Nat.lt_or_ge i t.place.size with c | c
        · exact c
        · rw [Array.getElem?_eq_none c] at q1; cases q1
      obtain ⟨k', g1, y, g2, g3, g4⟩ := paired_get a.en i es[i] (by rw [Array.getElem?_toList]; exact Array.getElem?_eq_getElem q2)
      exact ⟨es[i].1, y, k', by rw [Array.getElem?_eq_getElem q2, ← g2], g1, g3, g4⟩
    rcases P with ⟨n1, i, p1, p2, p3, p4, p5, p6⟩ | ⟨p1, p2⟩
    · -- a candidate
      have p5' : t.probe (fun i => (es[i]?.map (·.1)).getD 0) (hsh prog w k) (path t (hsh prog w k) n) = some (.candidate (path t (hsh prog w k) n1).j i (path t (hsh prog w k) (n1 + 1))) := p5
      have hseen : ∀ v ∈ List.map (fun x => x.snd) (Array.filter (fun x => x.fst == hsh prog w k) es).toList, ∃ k b, v = Value.ref b ∧ TK prog w s.heap k b := fun v hv => by
        rw [List.mem_map] at hv
        obtain ⟨e, he', rfl⟩ := hv
        rw [Array.mem_toList_iff, Array.mem_filter] at he'
        obtain ⟨ie, hie⟩ := List.mem_iff_getElem?.mp (Array.mem_toList_iff.mpr he'.1)
        obtain ⟨ke, g1, ye, g2, g3, _⟩ := paired_get a.en ie e hie
        exact ⟨ke, ye, g2, g3⟩
      split
      · rename_i met z
        have ez := Option.some.inj (p5'.symm.trans z)
        subst ez
        dsimp only
        obtain ⟨h', y, k', f1, f2, f3, f4⟩ := entAt p3
        rw [f1]
        dsimp only
        have go : ∀ same : Bool, same = decide (k' = k) → wpAny (model prog w) A (do
            let __x ← setState S
            if (true && same) = true then pure (SetFound.there none)
              else
                match __x.2.snd.sameMemory t.moves t.mask with
                | some same_1 =>
                  match if same_1 = true then __x.2.snd.slot (path t (hsh prog w k) n1).j else Slot.empty with
                  | Slot.live i' =>
                    match __x.fst[i']? with
                    | some (fst, y') => do
                      let __do_lift ← isSame y' (Value.ref y)
                      let still ← pure (if __do_lift = true then some i' else none)
                      match still with
                        | none => do
                          rule "set.search.anew"
                          setSearchFrom S (Value.ref x) (hsh prog w k) true fuel none
                        | some i' =>
                          if same = true then pure (SetFound.there (some i'))
                          else setSearchFrom S (Value.ref x) (hsh prog w k) true fuel (some (path t (hsh prog w k) (n1 + 1)))
                    | none => do
                      let still ← pure none
                      match still with
                        | none => do
                          rule "set.search.anew"
                          setSearchFrom S (Value.ref x) (hsh prog w k) true fuel none
                        | some i' =>
                          if same = true then pure (SetFound.there (some i'))
                          else setSearchFrom S (Value.ref x) (hsh prog w k) true fuel (some (path t (hsh prog w k) (n1 + 1)))
                  | x_1 => do
                    let still ← pure none
                    match still with
                      | none => do
                        rule "set.search.anew"
                        setSearchFrom S (Value.ref x) (hsh prog w k) true fuel none
                      | some i' =>
                        if same = true then pure (SetFound.there (some i'))
                        else setSearchFrom S (Value.ref x) (hsh prog w k) true fuel (some (path t (hsh prog w k) (n1 + 1)))
                | x => unsupported "set.changed-during-lookup:is-the-new-block-at-the-old-address") Q E s := by
          intro same es'
          refine wpAny_bind (wpAny_setState_of a.ho a.hd a.fits ?_)
          dsimp only
          by_cases c : k' = k
          · rw [decide_eq_true c] at es'
            subst es'
            simp only [Bool.and_self, if_true]
            refine wpAny_pure (hy ?_)
            rw [← c]
            exact List.mem_of_getElem? f2
          · rw [decide_eq_false c] at es'
            subst es'
            simp only [Bool.and_false, Bool.false_eq_true, if_false]
            rw [At.moves]
            dsimp only
            simp only [if_true]
            rw [p3]
            dsimp only
            rw [f1]
            dsimp only
            refine wpAny_bind (wpAny_isSame_ref_self ?_)
            simp only [if_true]
            refine wpAny_bind (wpAny_pure ?_)
            dsimp only
            refine ih (n0 - (n1 + 1)) (by omega) (n1 + 1) fuel _ (by omega) (by omega) rfl fun hk => ?_
            obtain ⟨n2, i2, q1, q2, q3, q4⟩ := here hk
            refine ⟨n2, i2, ?_, q2, q3, q4⟩
            rcases Nat.lt_trichotomy n2 n1 with z1 | z1 | z1
            · obtain ⟨h2, y2, k2, g1, g2, g3, g4⟩ := entAt q3
              refine absurd ?_ (p6 n2 q1 z1 i2 q3)
              rw [g1]
              show h2 = _
              rw [g4, Option.some.inj (g2.symm.trans q4)]
            · subst z1
              rw [p3] at q3
              cases q3
              exact absurd (Option.some.inj (f2.symm.trans q4)) c
            · omega
        split
        · refine wpAny_bind (tk_unseen hx _ hseen ?_)
          simp only [Bool.false_eq_true, if_false]
          exact wpAny_bind (wpAny_holding (wpAny_eqBool_tuple hu f3 hx (go _ rfl)))
        · exact wpAny_bind (wpAny_holding (wpAny_eqBool_tuple hu f3 hx (go _ rfl)))
      · rename_i z
        exact (z _ p5').elim
    · -- an empty place
      have p1' : t.probe (fun i => (es[i]?.map (·.1)).getD 0) (hsh prog w k) (path t (hsh prog w k) n) = some (.empty (path t (hsh prog w k) n0).j none) := p1
      split
      · rename_i met z
        have ez := Option.some.inj (p1'.symm.trans z)
        subst ez
        dsimp only
        refine wpAny_pure (hn fun hk => ?_)
        obtain ⟨n2, i2, q1, q2, q3, q4⟩ := here hk
        obtain ⟨h2, y2, k2, g1, g2, g3, g4⟩ := entAt q3
        refine p2 n2 q1 q2 i2 q3 ?_
        rw [g1]
        show h2 = _
        rw [g4, Option.some.inj (g2.symm.trans q4)]
      · rename_i z
        exact (z _ p1').elim
end
end PgSet
end
section
set_option linter.all false
set_option maxRecDepth 100000
set_option maxHeartbeats 4000000
namespace PgSet
open PySem PySem.SetTable
section
variable {prog : Program} {w : World} {A : Around} {E : Value → Shared → Prop} {s : Shared}
theorem tk_keep {h h' : Heap} {k : List Int} {a S : Addr} {o : Obj} {es ep t} (x : TK prog w h k a) (ho : h.get? S = some o) (hd : o.data = .set es ep t) (sb : Heap.SameBut S h h') : TK prog w h' k a := by
  obtain ⟨o', its, n, e1, e2, e3, e4⟩ := x
  have ne : a ≠ S := by
    intro z
    subst z
    rw [e1] at ho
    cases ho
    rw [e3] at hd
    cases hd
  exact ⟨o', its, n, (sb.2 a ne).trans e1, e2, e3, e4⟩
theorem ent_keep {h h' : Heap} {S : Addr} {o : Obj} {es ep t} (ho : h.get? S = some o) (hd : o.data = .set es ep t) (sb : Heap.SameBut S h h') {ks : List (List Int)} {l : List (Int × Value)} (p : Paired (Ent prog w h) ks l) : Paired (Ent prog w h') ks l :=
  p.mono fun _ _ ⟨a, e1, e2, e3⟩ => ⟨a, e1, tk_keep e2 ho hd sb, e3⟩
def SetT (prog : Program) (w : World) (h : Heap) (S : Addr) (ks : List (List Int)) : Prop := ∃ o es ep t, At prog w h S ks o es ep t
theorem At.store {h : Heap} {S : Addr} {ks ks' : List (List Int)} {o : Obj} {es es' : Array (Int × Value)} {ep : Nat} {t t' : SetTable} (a : At prog w h S ks o es ep t)
    (ti : TI t' (es'.map (·.1))) (mo : MaskOk t'.mask es'.size) (en : Paired (Ent prog w h) ks' es'.toList) (nd : ks'.Nodup) : At prog w (h.update S (Obj.putSet es' t')) S ks' { o with data := .set es' (ep + 1) t' } es' (ep + 1) t' := by
  have hg : (h.update S (Obj.putSet es' t')).get? S = some { o with data := .set es' (ep + 1) t' } := by
    have q := Heap.get?_update_self (Obj.putSet es' t') a.ho (by rw [putSet_of es' t' a.hd]; rfl)
    rw [putSet_of es' t' a.hd] at q
    exact q
  exact ⟨hg, a.ex, rfl, ti, mo, ent_keep a.ho a.hd (Heap.SameBut.update h S _) en, nd⟩
theorem map_insertAt (es : Array (Int × Value)) (p : Nat) (e : Int × Value) (hp : p ≤ es.size) : (insertAt es p e).map (·.1) = insertAt (es.map (·.1)) p e.1 := by
  apply Array.ext'
  rw [Array.toList_map, insertAt_list es p e hp, insertAt_list (es.map (·.1)) p e.1 (by simpa using hp)]
  simp
theorem setAdd_ok {S : Addr} {ks : List (List Int)} (T : SetT prog w s.heap S ks) {k : List Int} {x : Addr} (hx : TK prog w s.heap k x) (hu : A.units < cLine) (hr : ks.length + 1 < 4915) {Q : Bool → Shared → Prop}
    (h : ∀ (b : Bool) (h' : Heap) (ks' : List (List Int)), Heap.SameBut S s.heap h' → SetT prog w h' S ks' → (k ∈ ks → ks' = ks) → (k ∉ ks → ks'.Perm (k :: ks)) → Q b { s with heap := h' }) :
    wpAny (model prog w) A (setAddHashed S (.ref x) (hsh prog w k)) Q E s := by
  obtain ⟨o, es, ep, t, a⟩ := T
  have hm := a.mo.le
  have zs : t.place.size = es.size := by rw [a.ti.sz]; simp
  obtain ⟨n0, f1, f2, f3⟩ := a.ti.first (by omega) (hsh prog w k)
  have hs : s = { s with heap := s.heap } := by cases s; rfl
  unfold setAddHashed setAddHashedIn
  refine wpAny_holding (wpAny_bind (wpAny_setState_of a.ho a.hd a.fits ?_))
  dsimp only
  have hb : byScan (.ref x) es = false := rfl
  rw [hb]
  simp only [Bool.false_eq_true, if_false]
  refine wpAny_bind ?_
  unfold setSearch
  refine search_ok a hx hu (n0 := n0) (by unfold turns; omega) f2 f3 (fun hk => ?_) (fun hk => ?_) n0 0 100000 none (by omega) (by omega) rfl fun hk => ?_
  · -- it is there
    dsimp only
    refine wpAny_pure ?_
    rw [hs]
    exact h false s.heap ks (Heap.SameBut.refl S s.heap) ⟨o, es, ep, t, a⟩ (fun _ => rfl) fun z => absurd hk z
  · -- it is new
    dsimp only
    refine wpAny_bind (wpAny_setState_of a.ho a.hd a.fits ?_)
    obtain ⟨g1, g2⟩ := a.ti.put f2 f3
    have g3 : (t.put (path t (hsh prog w k) n0).j).1.mask = t.mask := by rw [put_eq a.ti.tab]
    dsimp only
    generalize ePut : t.put (path t (hsh prog w k) n0).j = tp at g1 g2 g3
    obtain ⟨t1, p⟩ := tp
    dsimp only at g1 g2 g3 ⊢
    have hp : p ≤ es.size := by simpa using g2
    have e1 : (insertAt es p (hsh prog w k, Value.ref x)).size = es.size + 1 := insertAt_size es p _ hp
    have hp2 := insertAt_perm es p (hsh prog w k, Value.ref x) hp
    obtain ⟨ks1, r1, r2⟩ := paired_perm (R := Ent prog w s.heap) hp2 (k :: ks) (.cons ⟨x, rfl, hx, rfl⟩ a.en)
    have nd1 : ks1.Nodup := r1.symm.nodup (List.nodup_cons.mpr ⟨hk, a.nd⟩)
    have ti1 : TI t1 ((insertAt es p (hsh prog w k, Value.ref x)).map (·.1)) := by rw [map_insertAt es p _ hp]; exact g1
    have hl := a.len
    have zs1 : t1.place.size = es.size + 1 := by rw [ti1.sz]; simp [e1]
    have fin : wpAny (model prog w) A (do
        storeSet S (insertAt es p (hsh prog w k, Value.ref x)) t1
        if (!false && t1.tooFull) = true then do
            setRelay S (grown (es.size + 1))
            pure true
          else pure true) Q E s := by
      refine wpAny_bind (wpAny_storeSet_of a.ho a.hd ?_ (by rw [e1, sizeLine_eq]; omega))
      have tf : t1.tooFull = decide ((es.size + 1) * 5 ≥ t.mask * 3) := by
        unfold tooFull fill
        rw [zs1, ti1.tab.nod, g3]
        rfl
      have sb1 := Heap.SameBut.update s.heap S (Obj.putSet (insertAt es p (hsh prog w k, Value.ref x)) t1)
      rcases a.mo.more (by omega) with ⟨m1, m2⟩ | ⟨m1, m2, ⟨k2, m3⟩, m4⟩
      · rw [tf, decide_eq_false m1]
        simp only [Bool.and_false, Bool.false_eq_true, if_false]
        have a1 := a.store ti1 (by rw [g3, e1]; exact m2) r2 nd1
        exact wpAny_pure (h true _ ks1 sb1 ⟨_, _, _, _, a1⟩ (fun z => absurd z hk) fun _ => r1)
      · rw [tf, decide_eq_true m1]
        simp only [Bool.not_false, Bool.and_self, if_true]
        -- the table is laid anew
        have ho1 : (s.heap.update S (Obj.putSet (insertAt es p (hsh prog w k, Value.ref x)) t1)).get? S = some { o with data := .set (insertAt es p (hsh prog w k, Value.ref x)) (ep + 1) t1 } := by
          have q := Heap.get?_update_self (Obj.putSet (insertAt es p (hsh prog w k, Value.ref x)) t1) a.ho (by rw [putSet_of _ t1 a.hd]; rfl)
          rw [putSet_of _ t1 a.hd] at q
          exact q
        have hf1 : t1.fits (insertAt es p (hsh prog w k, Value.ref x)).size = true := by
          unfold SetTable.fits SetTable.fill
          rw [zs1, e1, ti1.tab.nod, g3]
          have : es.size + 1 ≤ t.mask := by have := a.mo; unfold MaskOk at this; omega
          simp [this]
        have e2 : es.size + 1 ≤ sizeAbove (grown (es.size + 1)) - 1 := m2.le.1
        obtain ⟨t2, order, l1, l2, l3, l4, l5, l6, l7, l8⟩ := laid_ok (finger := t1.finger) (moves := t1.movedTo (sizeAbove (grown (es.size + 1)) - 1)) (led := t1.led) (plain := t1.plain) m3 ((insertAt es p (hsh prog w k, Value.ref x)).map (·.1)) (by rw [Array.size_map, e1]; exact e2)
        refine wpAny_bind ?_
        unfold setRelay
        refine wpAny_bind (wpAny_setState_of ho1 rfl hf1 ?_)
        dsimp only
        rw [if_neg (Nat.not_lt.mpr m4)]
        have el : t1.relaid ((insertAt es p (hsh prog w k, Value.ref x)).map (·.1)) (grown (es.size + 1)) = some (t2, order) := l1
        generalize eE : insertAt es p (hsh prog w k, Value.ref x) = es1 at *
        have p3 : (order.filterMap (es1[·]?)).toList.Perm es1.toList := by
          rw [Array.toList_filterMap]
          have := (l2.filterMap (fun i => es1[i]?))
          rw [Array.size_map] at this
          exact this.trans (by rw [filterMap_getElem?_range])
        have e3 : (order.filterMap (es1[·]?)).size = es1.size := by
          rw [← Array.length_toList, p3.length_eq, Array.length_toList]
        have e4 : (order.filterMap (es1[·]?)).map (·.1) = order.filterMap ((es1.map (·.1))[·]?) := by
          apply Array.ext'
          rw [Array.toList_map, Array.toList_filterMap, Array.toList_filterMap, List.map_filterMap]
          congr 1
          funext i
          rw [Array.getElem?_map]
        refine wpAny_bind ?_
        rw [el]
        show wpAny _ _ (if ((order.filterMap (es1[·]?)).size != es1.size) = true then _ else pure (order.filterMap (es1[·]?), t2)) _ _ _
        rw [if_neg (by rw [e3]; simp)]
        refine wpAny_pure ?_
        obtain ⟨ks2, q1, q2⟩ := paired_perm (R := Ent prog w s.heap) p3 ks1 r2
        have nd2 : ks2.Nodup := q1.symm.nodup nd1
        have sb2 := Heap.SameBut.update (s.heap.update S (Obj.putSet es1 t1)) S (Obj.putSet (order.filterMap (es1[·]?)) t2)
        refine wpAny_storeSet_of ho1 rfl ?_ (by rw [e3, e1, sizeLine_eq]; omega)
        refine wpAny_pure ?_
        have hg2 : ((s.heap.update S (Obj.putSet es1 t1)).update S (Obj.putSet (order.filterMap (es1[·]?)) t2)).get? S = some { o with data := .set (order.filterMap (es1[·]?)) (ep + 1 + 1) t2 } := by
          have q := Heap.get?_update_self (Obj.putSet (order.filterMap (es1[·]?)) t2) ho1 (by rw [putSet_of _ t2 (o := { o with data := .set es1 (ep + 1) t1 }) rfl]; rfl)
          rw [putSet_of _ t2 (o := { o with data := .set es1 (ep + 1) t1 }) rfl] at q
          exact q
        exact h true _ ks2 (sb1.trans sb2) ⟨_, _, _, _, ⟨hg2, a.ex, rfl, by rw [e4]; exact l3, by rw [e3, e1, l4]; exact m2, ent_keep a.ho a.hd (sb1.trans sb2) q2, nd2⟩⟩ (fun z => absurd z hk) fun _ => q1.trans r1
    split
    · exact wpAny_bind (tk_byValue hx (by simp only [if_true]; exact fin))
    · exact wpAny_bind (wpAny_pure (by simp only [if_true]; exact fin))
  · obtain ⟨i, hi⟩ := List.mem_iff_getElem?.mp hk
    obtain ⟨e, g1, y, g2, g3, g4⟩ := paired_get' a.en i k hi
    rw [Array.getElem?_toList] at g1
    have hi2 : i < t.place.size := by
      rw [zs]
      rcases Nat.lt_or_ge i es.size with c | c
      · exact c
      · rw [Array.getElem?_eq_none c] at g1; cases g1
    have e1 : t.place[i]? = some t.place[i] := Array.getElem?_eq_getElem hi2
    obtain ⟨n, r1, r2⟩ := a.ti.reach i _ (hsh prog w k) e1 (by rw [Array.getElem?_map, g1, ← g4]; rfl)
    have lv : t.slot (path t (hsh prog w k) n).j = .live i := by rw [r1]; exact a.ti.tab.live e1
    refine ⟨n, i, Nat.zero_le _, ?_, lv, hi⟩
    rcases Nat.lt_trichotomy n n0 with c | c | c
    · exact c
    · subst c; rw [f2] at lv; cases lv
    · obtain ⟨i', q⟩ := r2 n0 c
      rw [a.ti.tab.live q] at f2
      cases f2
end
end PgSet
end
section
set_option linter.all false
set_option maxRecDepth 100000
set_option maxHeartbeats 4000000
namespace PgSet
open PySem PySem.SetTable PySem.Spec
def Met (ks seen : List (List Int)) : Prop := ks.Nodup ∧ ∀ k, k ∈ ks ↔ k ∈ seen
theorem Met.nil : Met [] [] := ⟨List.nodup_nil, fun _ => .rfl⟩
theorem Met.add {ks ks' seen : List (List Int)} {k : List Int} (m : Met ks seen) (h1 : k ∈ ks → ks' = ks) (h2 : k ∉ ks → ks'.Perm (k :: ks)) : Met ks' (seen ++ [k]) := by
  by_cases c : k ∈ ks
  · rw [h1 c]
    refine ⟨m.1, fun q => ?_⟩
    rw [m.2, List.mem_append, List.mem_singleton]
    constructor
    · exact .inl
    · rintro (z | z)
      · exact z
      · rw [z]; exact (m.2 k).mp c
  · have p := h2 c
    refine ⟨p.symm.nodup (List.nodup_cons.mpr ⟨c, m.1⟩), fun q => ?_⟩
    rw [p.mem_iff, List.mem_cons, m.2, List.mem_append, List.mem_singleton]
    exact Or.comm
theorem Met.le {ks seen : List (List Int)} (m : Met ks seen) : ks.length ≤ seen.length := by
  obtain ⟨nd, h⟩ := m
  have main : ∀ (a b : List (List Int)), a.Nodup → (∀ k, k ∈ a → k ∈ b) → a.length ≤ b.length := by
    intro a
    induction a with
    | nil => intro b _ _; exact Nat.zero_le _
    | cons x a ih =>
      intro b n s
      obtain ⟨n1, n2⟩ := List.nodup_cons.mp n
      have hx := s x (List.mem_cons_self ..)
      have := ih (b.erase x) n2 fun k hk => (List.mem_erase_of_ne (fun z => n1 (by rw [← z]; exact hk))).mpr (s k (List.mem_cons_of_mem _ hk))
      rw [List.length_erase_of_mem hx] at this
      have := List.length_pos_of_mem hx
      simp only [List.length_cons]
      omega
  exact main ks seen nd fun k hk => (h k).mp hk
theorem Met.full {ks seen : List (List Int)} (m : Met ks seen) : ks.length = seen.length ↔ seen.Nodup := by
  constructor
  · intro e
    refine Classical.byContradiction fun nd => ?_
    -- one stands twice: without it the rest still holds all
    have ex : ∀ l : List (List Int), ¬ l.Nodup → ∃ x l1 l2, l = l1 ++ x :: l2 ∧ x ∈ l2 := by
      intro l
      induction l with
      | nil => intro h; exact absurd List.nodup_nil h
      | cons a l ih =>
        intro h
        by_cases c : a ∈ l
        · exact ⟨a, [], l, rfl, c⟩
        · obtain ⟨x, l1, l2, q1, q2⟩ := ih fun z => h (List.nodup_cons.mpr ⟨c, z⟩)
          exact ⟨x, a :: l1, l2, by rw [q1]; rfl, q2⟩
    obtain ⟨x, l1, l2, q1, q2⟩ := ex seen nd
    have m2 : Met ks (l1 ++ l2) := ⟨m.1, fun k => by
      rw [m.2, q1, List.mem_append, List.mem_cons, List.mem_append]
      constructor
      · rintro (z | z | z)
        · exact .inl z
        · rw [z]; exact .inr q2
        · exact .inr z
      · rintro (z | z)
        · exact .inl z
        · exact .inr (.inr z)⟩
    have := m2.le
    rw [q1] at e
    simp only [List.length_append, List.length_cons] at e this
    omega
  · intro nd
    exact ((List.perm_ext_iff_of_nodup m.1 nd).mpr m.2).length_eq
section
variable {prog : Program} {w : World} {A : Around} {R : Result → Shared → Prop} {I : Addr} {fp wr : List Addr} {G : Array GenState → Array GenState → Prop} {n : Nat} {P : Nat → Value → Prop} {St : Nat → Shared → Prop}
theorem setT_move {h h' : Heap} {S : Addr} {ks : List (List Int)} (T : SetT prog w h S ks) (k : ∀ b o, h.get? b = some o → b = S ∨ (∃ its m, o.cls = .type "tuple" ∧ o.data = .seq its m) → h'.get? b = some o) : SetT prog w h' S ks := by
  obtain ⟨o, es, ep, t, a⟩ := T
  exact ⟨o, es, ep, t, ⟨k S o a.ho (.inl rfl), a.ex, a.hd, a.ti, a.mo, a.en.mono fun _ _ ⟨x, e1, ⟨o', its, m, f1, f2, f3, f4⟩, e3⟩ => ⟨x, e1, ⟨o', its, m, k x o' f1 (.inr ⟨its, m, f2, f3⟩), f2, f3, f4⟩, e3⟩, a.nd⟩⟩
theorem loop_ok (W : WalksS prog w A.in1 I fp wr G n P St) (S : Addr) (hS : S ∉ fp) (hu : A.in1.units < cLine) (val : Nat → List Int) (hn : n + 1 < 4915)
    (hW : ∀ b, b ∈ wr → ∀ s : Shared, ∀ i, St i s → ∀ o its m, s.heap.get? b = some o → o.cls = .type "tuple" → o.data = .seq its m → False)
    :
    ∀ (d i : Nat) (s : Shared) (ks : List (List Int)), n - i = d → i ≤ n → St i s → (∀ j v, j < n → P j v → ∃ x, v = Value.ref x ∧ TK prog w s.heap (val j) x) →
      SetT prog w s.heap S ks → Met ks ((List.range i).map val) →
      (∀ s' ks', Moved (S :: wr) G s s' → SetT prog w s'.heap S ks' → Met ks' ((List.range n).map val) → R (.ok (.ret .none)) s') →
      codeAny (model prog w) A (.builtin "set.update.loop" ⟨[.ref S, .ref I], []⟩) R s := by
  have hSw : S ∉ wr := fun z => hS (W.sub _ z)
  intro d
  induction d with
  | zero =>
    intro i s ks hd hi st tv T M fin
    obtain rfl : i = n := by omega
    refine codeAny_builtin PyProof.Rows.F.entry_set_update_loop ?_
    rw [Around.under_plainId PyProof.Rows.F.plain_set_update_loop _]
    show wpAny _ A.in1 (pyNext (.ref I) >>= _) _ _ s
    refine wpAny_bind (W.done s _ _ st fun s' mv => ?_)
    refine wpAny_pure (fin s' ks (mv.mono fun b hb => List.mem_cons_of_mem _ hb) (setT_move T fun b o e c => mv.heap b o (fun z => ?_) e) M)
    rcases c with c | ⟨its, m, c1, c2⟩
    · exact hSw (by rw [← c]; exact z)
    · exact hW b z s i st o its m e c1 c2
  | succ d ih =>
    intro i s ks hd hi st tv T M fin
    have lt : i < n := by omega
    refine codeAny_builtin PyProof.Rows.F.entry_set_update_loop ?_
    rw [Around.under_plainId PyProof.Rows.F.plain_set_update_loop _]
    show wpAny _ A.in1 (pyNext (.ref I) >>= _) _ _ s
    refine wpAny_bind (W.item i s _ _ lt st fun v s' hP st' mv => ?_)
    have keepT : ∀ b o, s.heap.get? b = some o → b = S ∨ (∃ its m, o.cls = .type "tuple" ∧ o.data = .seq its m) → s'.heap.get? b = some o := fun b o e c => mv.heap b o (fun z => by
      rcases c with c | ⟨its, m, c1, c2⟩
      · exact hSw (by rw [← c]; exact z)
      · exact hW b z s i st o its m e c1 c2) e
    have tv' : ∀ j v, j < n → P j v → ∃ x, v = Value.ref x ∧ TK prog w s'.heap (val j) x := fun j v hj hp => by
      obtain ⟨x, e1, ⟨o', its, m, f1, f2, f3, f4⟩⟩ := tv j v hj hp
      exact ⟨x, e1, ⟨o', its, m, keepT x o' f1 (.inr ⟨its, m, f2, f3⟩), f2, f3, f4⟩⟩
    obtain ⟨x, rfl, tk⟩ := tv' i v lt hP
    have T' := setT_move T keepT
    show wpAny _ A.in1 (holding [Value.ref x] (setAdd S (.ref x)) >>= _) _ _ s'
    refine wpAny_bind (wpAny_holding ?_)
    unfold setAdd
    refine wpAny_holding (wpAny_bind (wpAny_pyHash_tuple hu tk ?_))
    have lk := M.le
    rw [List.length_map, List.length_range] at lk
    refine setAdd_ok (s := { s' with toks := s'.toks + ((val i).length + 1) }) T' tk hu (by omega) fun b h' ks' sb T2 c1 c2 => ?_
    obtain ⟨o0, es0, ep0, t0, a0⟩ := T'
    have tv2 : ∀ j v, j < n → P j v → ∃ x, v = Value.ref x ∧ TK prog w h' (val j) x := fun j v hj hp => by
      obtain ⟨x, e1, tk⟩ := tv' j v hj hp
      exact ⟨x, e1, tk_keep tk a0.ho a0.hd sb⟩
    have M2 : Met ks' ((List.range (i + 1)).map val) := by
      rw [List.range_succ, List.map_append]
      exact M.add c1 c2
    refine wpAny_pure ⟨plainId_quiet PyProof.Rows.F.plain_set_update_loop _, ih (i + 1) _ ks' (by omega) lt (W.frame _ s' _ _ st' (Nat.le_add_right _ _) fun b hb o e => ?_) tv2 T2 M2 fun s'' k2 mv2 T3 M3 => ?_⟩
    · rw [sb.2 b fun z => hS (by rw [← z]; exact hb)]
      exact e
    · refine fin s'' k2 (Moved.trans W.gtrans ((mv.mono fun b hb => List.mem_cons_of_mem _ hb).then_heap (Nat.le_add_right _ _) fun b o hb e => ?_) mv2) T3 M3
      rw [sb.2 b fun z => hb (by rw [z]; exact List.mem_cons_self)]
      exact e
end
section
variable {prog : Program} {w : World} {A : Around} {E : Value → Shared → Prop} {s : Shared}
abbrev freshSet (led : Bool) : Obj := { cls := .type "set", dict := none, data := .set #[] 0 (.fresh 0 0 led) }
theorem setT_fresh {h : Heap} {S : Addr} {led : Bool} (e : h.get? S = some (freshSet led)) : SetT prog w h S [] :=
  ⟨_, #[], 0, _, ⟨e, ⟨rfl, rfl, rfl⟩, rfl, by simpa using TI.fresh led, .inl ⟨rfl, by decide⟩, .nil, List.nodup_nil⟩⟩
theorem call_set_tuples {l : Addr} {items : Array Value} {val : Nat → List Int} {Q : Value → Shared → Prop} (hh : A.handled = none) (hu : A.units + 16 < cLine) (hl : s.heap.IsList l items) (hn : items.size + 1 < 4915)
    (ht : ∀ (j : Nat) (v : Value), items[j]? = some v → ∃ x, v = Value.ref x ∧ TK prog w s.heap (val j) x)
    (h : ∀ (h' : Heap) (tk : Nat) (ks : List (List Int)), SetT prog w h' s.heap.objs.size ks → Met ks ((List.range items.size).map val) →
      (∀ b o, b < s.heap.objs.size → s.heap.get? b = some o → h'.get? b = some o) → Q (.ref s.heap.objs.size) { s with heap := h', toks := tk }) :
    wpAny (model prog w) A (call (.type "set") [.ref l]) Q E s := by
  obtain ⟨mc, mt, mroSet⟩ := F.called_set.mro
  have made := F.called_set.made
  have subs := F.called_set.sub
  refine wpAny_call (codeAny_of_tree ?_)
  show wpAny _ _ (callAny (.type "set") ⟨[.ref l], []⟩) _ _ _
  refine wpAny_pure ⟨Code.quiet_builtin _ (by decide +kernel), codeAny_builtin F.entry_type_call ?_⟩
  rw [Around.under_plain (weight_type_call_type "set" [Value.ref l] []) rfl]
  have nt := F.called_set.notType
  have cc := F.called_set.canCreate
  have tc := F.typeCall_set_1 (Value.ref l)
  repeat (any_goals (first | assumption | wp_step))
  refine codeAny_mono (code_set_new_1 (.ref l) (E := E) (Q₁ := fun v s1 => ∃ led, v = .ref s.heap.objs.size ∧ s1 = { s with heap := s.heap.push (freshSet led) }) fun led => ⟨led, rfl, rfl⟩) fun r s1 hr => ?_
  cases r with
  | error e => exact hr
  | ok fl =>
    cases fl with
    | ret v =>
      obtain ⟨led, rfl, rfl⟩ := hr
      have g0 : (s.heap.push (freshSet led)).get? s.heap.objs.size = some (freshSet led) := Heap.get?_push_size _ rfl
      have ty : Shared.TypeIs { s with heap := s.heap.push (freshSet led) } (.ref s.heap.objs.size) "set" := ⟨_, g0, rfl⟩
      have lk := F.called_set.init.lookup
      have bd := F.called_set.init.bind (.ref s.heap.objs.size)
      repeat (any_goals (first | assumption | wp_step))
      refine codeAny_mono (codeAny_call_builtin (R := wants (fun v s2 => v = .none ∧ ∃ h' tk ks, s2 = { s with heap := h', toks := tk } ∧ SetT prog w h' s.heap.objs.size ks ∧ Met ks ((List.range items.size).map val) ∧
          ∀ b o, b < s.heap.objs.size → s.heap.get? b = some o → h'.get? b = some o) E) F.called_set.init.plain F.entry_set_init (check_set_init_1 ty ?_)) fun r2 s2 hr2 => ?_
      · obtain ⟨ol, gl, cl, nl, dl⟩ := hl
        obtain ⟨k1, k2, k3, k4⟩ := ol
        simp only at cl dl
        subst cl
        subst dl
        have gl' : (s.heap.push (freshSet led)).get? l = some { cls := .type "list", dict := k2, data := .seq items nl, slots := k4 } := Heap.get?_push_of_some _ gl
        have q1 := F.sub_list_set
        have q2 := F.sub_list_frozenset
        have q3 : (Value.type "list" == Value.type "dict") = false := by decide
        have hl1 : (s.heap.push (freshSet led)).IsList l items := ⟨_, gl', rfl, nl, rfl⟩
        unfold Builtin.«set.__init__» noKeywords Builtin.Frozenset.updateFrom
        generalize ePI : pyIter = PI
        wp_walk
        subst ePI
        refine wpAny_pyIter_list hl1 ?_
        refine wpAny_bind (wpAny_runValue ?_)
        have l1 : l < s.heap.objs.size := Heap.lt_size gl
        have h3 : A.in1.in1.in1.handled = none := by simp [hh]
        have n1 : l ≠ (s.heap.push (freshSet led)).objs.size := by rw [Heap.size_push]; exact Nat.ne_of_lt (Nat.lt_succ_of_lt l1)
        have nS : s.heap.objs.size ∉ [(s.heap.push (freshSet led)).objs.size, l] := by
          rw [Heap.size_push]
          simp only [List.mem_cons, List.not_mem_nil, or_false, not_or]
          exact ⟨Nat.ne_of_lt (Nat.lt_succ_self _), Nat.ne_of_gt l1⟩
        refine loop_ok ((Walks.list h3 _ l n1 items).toS) s.heap.objs.size nS (by show A.units + 1 + 1 + 1 < cLine; omega) val hn ?W (items.size - 0) 0 _ [] (by omega) (Nat.zero_le _) ⟨⟨_, Heap.get?_push_size _ rfl, rfl, rfl⟩, hl1.push _⟩ ?T ?S Met.nil ?R
        case W =>
          intro b hb s' i st o its m e1 e2 e3
          have hb' : b = (s.heap.push (freshSet led)).objs.size := by simpa using hb
          subst hb'
          obtain ⟨⟨oi, f1, f2, f3⟩, _⟩ := st
          rw [e1] at f1
          cases f1
          have z : Value.type "list_iterator" = Value.type "tuple" := f2.symm.trans e2
          exact absurd z (by decide)
        case T =>
          intro j v hj hp
          obtain ⟨x, e1, ⟨o', its, m, f1, f2⟩⟩ := ht j v hp
          exact ⟨x, e1, ⟨o', its, m, Heap.get?_push_of_some _ (Heap.get?_push_of_some _ f1), f2⟩⟩
        case S => exact setT_fresh (Heap.get?_push_of_some _ g0)
        case R =>
          intro s' ks mv T M
          obtain ⟨h', g', d', tk', os'⟩ := s'
          obtain rfl : g' = s.gens := mv.gens
          obtain rfl : d' = s.drawn := mv.drawn
          obtain rfl : os' = s.os := mv.os
          refine wpAny_pure ?_
          refine wpAny_pure ⟨rfl, h', tk', ks, rfl, T, M, fun b o hb e => ?_⟩
          refine mv.heap b o ?_ (Heap.get?_push_of_some _ (Heap.get?_push_of_some _ e))
          rw [Heap.size_push]
          simp only [List.mem_cons, List.not_mem_nil, or_false, not_or]
          exact ⟨Nat.ne_of_lt hb, Nat.ne_of_lt (Nat.lt_succ_of_lt hb)⟩
      · cases r2 with
        | error e => exact hr2
        | ok fl2 =>
          cases fl2 with
          | ret v =>
            obtain ⟨rfl, h', tk, ks, rfl, T, M, kp⟩ := hr2
            repeat (any_goals (first | assumption | wp_step))
            exact h _ _ _ T M kp
          | _ => exact hr2.elim
    | _ => exact hr.elim
end
end PgSet
end
section
set_option linter.all false
namespace Pg
open PySem
def db (b : List Nat) : List PyData := b.map fun (n : Nat) => PyData.int (n : Int)
theorem eqvAll_db : ∀ (a b : List Nat), PyData.eqvAll (db a) (db b) = decide (a = b)
  | [], [] => by simp [db, PyData.eqvAll]
  | [], _ :: _ => by simp [db, PyData.eqvAll]
  | _ :: _, [] => by simp [db, PyData.eqvAll]
  | x :: a, y :: b => by
    have ih := eqvAll_db a b
    show PyData.eqvAll (PyData.int x :: db a) (PyData.int y :: db b) = _
    simp only [PyData.eqvAll, PyData.eqv, ih]
    by_cases h : x = y
    · subst h; simp
    · have h2 : ¬ (x : Int) = (y : Int) := fun z => h (by omega)
      simp [h, h2]
theorem canLay_db : ∀ b : List Nat, PyData.canLayAll0 (db b) = true
  | [] => rfl
  | x :: b => by
    show PyData.canLayAll0 (PyData.int x :: db b) = true
    simp only [PyData.canLayAll0, PyData.canLay0, canLay_db b, Bool.and_self]
theorem depth_db : ∀ b : List Nat, PyData.depthAll (db b) = 0
  | [] => rfl
  | x :: b => by
    show PyData.depthAll (PyData.int x :: db b) = 0
    simp only [PyData.depthAll, PyData.depth, depth_db b, Nat.max_self]
theorem shaped_list (b : List Nat) : SeqAt.shaped (.list (db b)) = true := by
  unfold SeqAt.shaped
  simp only [PyData.canLay0, PyData.depth, canLay_db, depth_db]
  rfl
theorem eqv_list (a b : List Nat) : PyData.eqv (.list (db a)) (.list (db b)) = decide (a = b) := by
  simp only [PyData.eqv, eqvAll_db]
end Pg
end
section
set_option Elab.async false
set_option linter.all false
set_option maxRecDepth 100000
set_option maxHeartbeats 4000000
namespace Pg
open PySem PySem.Spec PyProof.Rows L2
def Cal (P : Program) (w : World) (K : PySem.W.Frag) (mg : Str → Option Value) (base : Heap) (x : Str) (k : Nat) (sp : Sp) : Prop :=
  ∃ (f : Addr) (fd : FuncData) (ps : List Str), mg x = some (.ref f) ∧ PySem.W.keepIn K (.ref f) = true ∧ Binds K fd ps [] ∧ FnOk P w K mg base CX0 k f fd ps sp
def CalM (P : Program) (w : World) (K : PySem.W.Frag) (mg : Str → Option Value) (base : Heap) (C : Addr) (m : Str) (k : Nat) (sp : Sp) : Prop :=
  Cls K C ∧ ∃ (f : Addr) (fd : FuncData) (ps : List Str), Meth K C m f ∧ Binds K fd ps [] ∧ FnOk P w K mg base CX0 k f fd ps sp
def CalK (P : Program) (w : World) (K : PySem.W.Frag) (mg : Str → Option Value) (base : Heap) (x : Str) (C : Addr) (k : Nat) (sp : Sp) : Prop :=
  mg x = some (.ref C) ∧ ∃ (f : Addr) (fd : FuncData) (ps : List Str), Mk K C f ∧ Binds K fd ps [] ∧ FnOk P w K mg base CX0 k f fd ps sp
section
variable {X : Cx} {x m : Str} {C : Addr} {k : Nat} {sp : Sp} {p pos apos : Pos} {e o : Expr} {es : List Expr} {ta : TE} {t : TA}
theorem pe_fn (c : Cal X.prog X.w X.K X.mg X.base x k sp) (hr : Room k X.A) (ha : PA X (e :: es) t) (hg : Gl X x := by rfl) (hdb : (x == ("__debug__" : Str)) = false := by decide)
    (he : starEach (e :: es) X.env = (false, eval e X.env) :: starEach es X.env := by rfl) (hpl : (backTo pos (starEach es X.env)).any (·.1) = false := by rfl) :
    PE X (.Call (.Name x p) (e :: es) [] pos) (tCall sp [] E0 t) := by
  obtain ⟨f, fd, ps, hm, hk, hb, F⟩ := c
  exact pe_call F hr hg hm hk hb .nil pass0 ha hdb he hpl
theorem pe_mk (c : CalK X.prog X.w X.K X.mg X.base x C k sp) (hr : Room (k + 1) X.A) (ha : PA X (e :: es) t) (hg : Gl X x := by rfl) (hdb : (x == ("__debug__" : Str)) = false := by decide)
    (he : starEach (e :: es) X.env = (false, eval e X.env) :: starEach es X.env := by rfl) (hpl : (backTo pos (starEach es X.env)).any (·.1) = false := by rfl) :
    PE X (.Call (.Name x p) (e :: es) [] pos) (tMake C sp [] E0 t) := by
  obtain ⟨hm, f, fd, ps, M, hb, F⟩ := c
  exact pe_make M F hr hg hm hb .nil pass0 ha hdb he hpl
theorem pe_mt {pl : Sem Bool} (c : CalM X.prog X.w X.K X.mg X.base C m k sp) (hr : Room k X.A) (ho : PE X o ta) (ha : PA X (e :: es) t)
    (hst : starEach (e :: es) X.env = (false, eval e X.env) :: starEach es X.env := by rfl) (hpl : (backTo pos (starEach es X.env)).any (·.1) = false := by rfl)
    (ht : eval (.Call (.Attribute o m apos) (e :: es) [] pos) X.env = (do
      let ov ← eval o X.env
      standAt apos.atName
      let (f, first) ← holding [ov] (getMethod ov m pl)
      callWith pos f first (backTo pos (starEach (e :: es) X.env)) (backToKw pos (keywordEach [] X.env))) := by rfl) :
    PE X (.Call (.Attribute o m apos) (e :: es) [] pos) (tMeth C m sp [] E0 ta t) := by
  obtain ⟨hc, f, fd, ps, hm, hb, F⟩ := c
  exact pe_meth ho hc hm F hr hb .nil pass0 ha hst hpl ht
theorem pe_mt0 {pl : Sem Bool} (c : CalM X.prog X.w X.K X.mg X.base C m k sp) (hr : Room k X.A) (ho : PE X o ta)
    (ht : eval (.Call (.Attribute o m apos) [] [] pos) X.env = (do
      let ov ← eval o X.env
      standAt apos.atName
      let (f, first) ← holding [ov] (getMethod ov m pl)
      callWith pos f first (backTo pos (starEach [] X.env)) (backToKw pos (keywordEach [] X.env))) := by rfl) :
    PE X (.Call (.Attribute o m apos) [] [] pos) (tMeth C m sp [] E0 ta tNil) := by
  obtain ⟨hc, f, fd, ps, hm, hb, F⟩ := c
  exact pe_meth0 ho hc hm F hr hb .nil pass0 ht
theorem pe_gc {v : V} (h : ∃ u, X.mg x = some u ∧ RelV v u) (hg : Gl X x := by rfl) (hd : (x == ("__debug__" : Str)) = false := by decide) : PE X (.Name x pos) (tC v) := by
  obtain ⟨u, hm, r⟩ := h
  exact pe_glob hg hm r hd
end
def vb (b : List Nat) : List V := b.map fun (n : Nat) => V.int (n : Int)
theorem vb_len (b : List Nat) : (vb b).length = b.length := List.length_map ..
theorem vb_get {b : List Nat} {i c : Nat} (h : b[i]? = some c) : (vb b)[i]? = some (V.int (c : Int)) := by
  unfold vb; rw [List.getElem?_map, h]; rfl
theorem at_drop {b r : List Nat} {i c : Nat} (h : b.drop i = c :: r) : b[i]? = some c := by
  have e : (b.drop i)[0]? = some c := by rw [h]; rfl
  rw [List.getElem?_drop] at e
  simpa using e
theorem lt_drop {b r : List Nat} {i c : Nat} (h : b.drop i = c :: r) : i < b.length := by
  have e : (b.drop i).length = (c :: r).length := by rw [h]
  rw [List.length_drop, List.length_cons] at e
  omega
theorem next_drop {b r : List Nat} {i c : Nat} (h : b.drop i = c :: r) : b.drop (i + 1) = r := by
  rw [← List.drop_drop, h]; rfl
theorem atI_vb {b r : List Nat} {i c : Nat} (h : b.drop i = c :: r) : atI (vb b) (i : Int) = some (V.int (c : Int)) := atI_nat (vb_get (at_drop h))
theorem drop_nil {b : List Nat} {i : Nat} (h : ¬ i < b.length) : b.drop i = [] := List.drop_eq_nil_of_le (by omega)
theorem drop_cons {b : List Nat} {i : Nat} (h : i < b.length) : ∃ c r, b.drop i = c :: r := by
  cases e : b.drop i with
  | nil => have := congrArg List.length e; simp at this; omega
  | cons c r => exact ⟨c, r, rfl⟩
abbrev Tt (K : PySem.W.Frag) (H : Hp) (a : Addr) (b : List Nat) : Prop := SqL K H a (vb b)
end Pg
end
section
set_option Elab.async false
set_option linter.all false
set_option maxRecDepth 100000
set_option maxHeartbeats 4000000
namespace Pg
open PySem PySem.Spec PyProof.Rows L2
def EntI (p : Key × V) (e : DictEntry) : Prop := ∃ (n : Int) (t : Nat), p.1 = Sum.inl n ∧ e.key = .int n t ∧ e.hash = hashInt n ∧ RelV p.2 e.val
structure KD (K : PySem.W.Frag) (d : Addr) (kvs : List (Key × V)) : Prop where
  ex : ∃ (o : Obj) (es : Array DictEntry) (ep : Nat), K.lookup d = some o ∧ o.ExactDict ∧ o.data = .dict es ep ∧ Paired EntI kvs es.toList
  sys : (d == sysModules) = false
  nd : (kvs.map (·.1)).Nodup
  few : kvs.length ≤ sizeLine
def valsOf : List (Key × V) → List DictEntry → List (Key × Value)
  | p :: r, e :: s => (p.1, e.val) :: valsOf r s
  | _, _ => []
theorem valsOf_kv : ∀ {kvs : List (Key × V)} {es : List DictEntry}, Paired EntI kvs es → KV kvs (valsOf kvs es)
  | _, _, .nil => .nil
  | _, _, .cons h t => .cons ⟨rfl, h.choose_spec.choose_spec.2.2.2⟩ (valsOf_kv t)
theorem valsOf_keys : ∀ {kvs : List (Key × V)} {es : List DictEntry}, Paired EntI kvs es → (valsOf kvs es).map (·.1) = kvs.map (·.1)
  | _, _, .nil => rfl
  | _, _, .cons h t => by
    show _ :: (valsOf _ _).map (·.1) = _ :: _
    rw [valsOf_keys t]
theorem valsOf_pairs {P : Program} {w : World} : ∀ {kvs : List (Key × V)} {es : List DictEntry}, Paired EntI kvs es → Pairs (mixKind P w) es (valsOf kvs es)
  | _, _, .nil => .nil
  | (k, v) :: r, e :: s, .cons h t => by
    refine .cons ?_ rfl (valsOf_pairs t)
    obtain ⟨n, tk, h1, h2, _, _⟩ := h
    show keyIs k e.key = true
    have h1 : k = Sum.inl n := h1
    rw [h1, h2]
    show Value.isInt n (.int n tk) = true
    simp [Value.isInt]
theorem ents_keys {P : Program} {w : World} : ∀ {kvs : List (Key × V)} {es : List DictEntry}, Paired EntI kvs es → ∀ e ∈ es, ∃ k, (mixKind P w).is k e.key = true ∧ e.hash = (mixKind P w).hash k
  | _, _, .nil, e, h => absurd h (by simp)
  | _, _, .cons h t, e, he => by
    rcases List.mem_cons.mp he with rfl | m
    · obtain ⟨n, tk, h1, h2, h3, _⟩ := h
      refine ⟨Sum.inl n, ?_, h3⟩
      show keyIs (Sum.inl n) _ = true
      rw [h2]
      show Value.isInt n (.int n tk) = true
      simp [Value.isInt]
    · exact ents_keys t e m
theorem KD.at_ {K : PySem.W.Frag} {d : Addr} {kvs : List (Key × V)} (D : KD K d kvs) (P : Program) (w : World) {h : Heap} (KX : K.In h) :
    ∃ (o : Obj) (es : Array DictEntry) (ep : Nat) (vs : List (Key × Value)), K.lookup d = some o ∧ h.get? d = some o ∧ o.ExactDict ∧ o.data = .dict es ep ∧ es.size = kvs.length ∧ KV kvs vs ∧ h.DictAt (mixKind P w) d vs ep := by
  obtain ⟨o, es, ep, h1, h2, h3, h4⟩ := D.ex
  refine ⟨o, es, ep, valsOf kvs es.toList, h1, KX _ _ h1, h2, h3, ?_, valsOf_kv h4, o, es, KX _ _ h1, h2, h3, ?_, valsOf_pairs h4, ?_⟩
  · have q1 := Paired.length h4
    have q2 : es.toList.length = es.size := Array.length_toList
    omega
  · exact fun e he => ents_keys h4 e (Array.mem_toList_iff.mpr he)
  · rw [valsOf_keys h4]; exact D.nd
def tKIn (K : PySem.W.Frag) (ty td : TE) : TE := fun σ H Q => ty σ H fun y H1 => td σ H1 fun x H2 => ∃ a kvs k, x = .ref a ∧ KD K a kvs ∧ y = kV k ∧ Q (.bl (valV kvs k).isSome) H2
def tKGet (K : PySem.W.Frag) (td ty : TE) : TE := fun σ H Q => td σ H fun x H1 => ty σ H1 fun y H2 => ∃ a kvs k v, x = .ref a ∧ KD K a kvs ∧ y = kV k ∧ valV kvs k = some v ∧ Q v H2
section
variable {X : Cx} {o i e : Expr} {pos : Pos} {td ty : TE}
theorem pc_kin (hi : PE X i ty) (ho : PE X o td) : PC X .In i o (tKIn X.K ty td) := by
  intro pins s σ H Q I h
  refine thn (hi pins s σ H _ I h) fun iv s1 ⟨y, H1, I1, ry, q1⟩ => thn (ho pins s1 σ H1 _ I1 q1) fun u s2 ⟨x, H2, I2, rx, a, kvs, k, ex, D, ey, q2⟩ => ?_
  subst ex
  subst ey
  obtain rfl : u = Value.ref a := rx
  obtain ⟨ob, es, ep, vs, _, _, _, _, _, rel, dd⟩ := D.at_ X.prog X.w I2.kIn
  refine wpAny_in_of (kV_is ry) D.sys dd.dictOf.mapOf ?_
  refine ⟨.bl (valV kvs k).isSome, H2, I2.tok _, ?_, q2⟩
  rw [(rel.val k).isSome_eq]
  rfl
theorem pe_kget (ho : PE X o td) (hi : PE X i ty) (hs : NoSl i) : PE X (.Subscript o i pos) (tKGet X.K td ty) := by
  intro pins s σ H Q I h
  refine subD_of PySem.F.slot_dict_getitem.lookup hs (thn (ho pins s σ H _ I h) fun u s1 ⟨x, H1, I1, rx, q1⟩ => thn (hi pins s1 σ H1 _ I1 q1) fun iv s2 ⟨y, H2, I2, ry, a, kvs, k, v, ex, D, ey, l, q2⟩ => ?_)
  subst ex
  subst ey
  obtain rfl : u = Value.ref a := rx
  obtain ⟨ob, es, ep, vs, _, _, _, _, _, rel, dd⟩ := D.at_ X.prog X.w I2.kIn
  obtain ⟨w', hw, rw'⟩ := RelO.some_of (v := v) (o := valueAt vs k) (by rw [← l]; exact rel.val k)
  exact ⟨dd.dictOf.typeIs, wpAny_getItem_of (kV_is ry) dd.dictOf.mapOf hw ⟨v, H2, I2.tok _, rw', q2⟩⟩
end
def Itq (kvs : List (Key × V)) : It :=
  ⟨fun i _ => i < kvs.length, fun i H x H' => ∃ T k v, kvs[i]? = some (k, v) ∧ x = .ref T ∧ H T = none ∧ H' = upd H T (.tup [kV k, v]), fun i _ => kvs.length ≤ i⟩
theorem turn_kitems {P : Program} {w : World} {K : PySem.W.Frag} {d : Addr} {o : Obj} {es : Array DictEntry} {ep : Nat} {kvs : List (Key × V)} (D : KD K d kvs) {elts : List Expr} {kk : Nat} {tpos : Pos} (it : Addr) (hl0 : K.lookup d = some o) (hod : o.data = .dict es ep) :
    Turn P w K (.Tuple elts kk tpos) (Itq kvs) [it] it (fun i h => ∃ ok ov, IsItemIter h it d i kvs.length ep ok ov) where
  mem := by simp
  obj := fun i h st b hb => by
    have e : b = it := by simpa using hb
    subst e
    obtain ⟨ok, ov, e⟩ := st
    exact ⟨_, e, fun v z => nomatch z⟩
  keep := fun i h h' st k => let ⟨ok, ov, e⟩ := st; ⟨ok, ov, k it (by simp) _ e⟩
  item := by
    intro X hP hw hK hc i pins s σ H E I hf st hi
    subst hP hw hK
    have hi : i < kvs.length := hi
    obtain ⟨o', es', ep', vs, hl1, hgd, hx, hdt, hsz, kv, hm⟩ := D.at_ X.prog X.w I.kIn
    obtain rfl : o = o' := Option.some.inj (hl0.symm.trans hl1)
    obtain ⟨rfl, rfl⟩ := dict_ep hod hdt
    obtain ⟨⟨k, v⟩, hkv⟩ : ∃ p, kvs[i]? = some p := ⟨kvs[i], List.getElem?_eq_getElem hi⟩
    obtain ⟨u, hu, ru⟩ := kv_get kv hkv
    have hl : kvs.length = vs.length := Paired.length kv
    obtain ⟨ok, ov, he⟩ := st
    rw [hl] at he
    have hlt : it < s.heap.objs.size := Heap.lt_size he
    refine wpAny_pyNext_items_item he hm hu fun key h' hkey ho hT hz hk => ?_
    refine ⟨_, rfl, wpAny_letOwnedTupleGo_items (s := { s with heap := h' }) ho fun h'' he' sb => ?_⟩
    have hT2 : h''.get? s.heap.objs.size = some { cls := .type "tuple", data := .seq #[key, u] } := (sb.2 _ (Nat.ne_of_gt hlt)).trans hT
    have new : ObjOk X.prog X.w (upd H s.heap.objs.size (.tup [kV k, v])) h'' s.heap.objs.size (.tup [kV k, v]) :=
      ⟨by show 2 ≤ sizeLine; decide, [key, u], .cons (relV_key (show keyIs k key = true from hkey)) (.cons ru .nil), ⟨_, hT2, rfl, _, rfl⟩⟩
    have I1 : Inv X pins σ (upd H s.heap.objs.size (.tup [kV k, v])) { s with heap := h'' } :=
      I.turnedNew (t' := s.toks) (ch := [it]) (fun b ob hb e => (sb.2 b (by simpa using hb)).trans (hk b ob (by simpa using hb) e)) hf (Nat.le_refl _) new
    refine ⟨.ref s.heap.objs.size, _, I1, rfl, ⟨_, k, v, hkv, rfl, I.hok.fresh (Nat.le_refl _), rfl⟩, ⟨key, u, ?_⟩, fun b hb => ?_⟩
    · rw [hl]; exact he'
    · have e : b = it := by simpa using hb
      rw [e, upd_ne (Nat.ne_of_lt hlt)]
      exact (hf it (by simp)).1
  done := by
    intro X hP hw hK hc i pins s σ H E I hf st hi
    subst hP hw hK
    have hi : kvs.length ≤ i := hi
    obtain ⟨f0, f1, f2, f3, f4, f5⟩ := hf it (by simp)
    obtain ⟨o', es', ep', vs, hl1, hgd, hx, hdt, hsz, kv, hm⟩ := D.at_ X.prog X.w I.kIn
    obtain rfl : o = o' := Option.some.inj (hl0.symm.trans hl1)
    obtain ⟨rfl, rfl⟩ := dict_ep hod hdt
    have hl : kvs.length = vs.length := Paired.length kv
    obtain ⟨ok, ov, he⟩ := st
    rw [hl] at he
    exact wpAny_pyNext_items_end (I.ok.hd hc) he hm (List.getElem?_eq_none (by omega)) fun h' eb => ⟨rfl, I.turned (t' := s.toks) (fun b ob hb e => eb b ob hb e) f0 f1 f3 f4 f5⟩
  self := fun A i s Q E st h => let ⟨_, _, e⟩ := st; PySem.W.kcp_self e h
def iKItems (K : PySem.W.Frag) (td : TE) : TI := fun σ H R => td σ H fun x H1 => ∃ d kvs, x = .ref d ∧ KD K d kvs ∧ R (Itq kvs) H1
section
variable {X : Cx} {e : Expr} {td : TE} {apos cpos : Pos}
theorem pi_kitems {elts : List Expr} {kk : Nat} {tpos : Pos} (he : PE X e td) (hbase : attributeBase e "items" X.env (eval e X.env) = eval e X.env := by rfl) (hline : (apos.endLine == cpos.line) = true := by rfl) :
    PI X (.Tuple elts kk tpos) (.Call (.Attribute e "items" apos) [] [] cpos) (iKItems X.K td) := by
  intro pins s σ H R I h
  refine wpAny_Call_method (T := "dict") (id := "dict.items") hbase rfl hline F.plainAttrs_dict F.slot_dict_items F.type_dict_items (thn (he pins s σ H _ I h) fun u s1 ⟨x, H1, I1, rx, d, kvs, ex, D, q⟩ => ?_)
  subst ex
  obtain rfl : u = Value.ref d := rx
  obtain ⟨o, es, ep, vs, hl1, hgd, hx, hdt, hsz, kv, hm⟩ := D.at_ X.prog X.w I1.kIn
  have hl : kvs.length = vs.length := Paired.length kv
  refine ⟨hm.dictOf.typeIs, hm.dictOf.mapOf.noDict, ?_⟩
  have I2 : Inv X pins σ H1 { s1 with heap := s1.heap.push { cls := .type "dict_items", data := .fields #[.ref d] } } := I1.kept (t' := s1.toks) fun b ob q => Heap.get?_push_of_some _ q
  have fin : wpAny (model X.prog X.w) X.A (pyIter (.ref s1.heap.objs.size)) (PIE X pins σ (.Tuple elts kk tpos) R) X.xe { s1 with heap := s1.heap.push { cls := .type "dict_items", data := .fields #[.ref d] } } := by
    refine wpAny_pyIter_items (d := d) (knd := mixKind X.prog X.w) ⟨_, Heap.get?_push_size _ rfl, rfl, rfl⟩ (hm.push _) (pi_one (tk := s1.toks) I2 _ (turn_kitems D _ hl1 hdt) ⟨.none, .none, ?_⟩ q)
    rw [hl]
    exact Heap.get?_push_size _ rfl
  show wpAny _ _ (callWith cpos (.builtin "dict.items") [.ref d] [] []) _ X.xe s1
  exact method_meetsIn F.slot_dict_items F.entry_dict_items rfl (PySem.evalArgs_none ⟨rfl, hm.dictOf.typeIs, F.args_dict_items_1 _, _, meets_dict_items (mixKind X.prog X.w) d D.sys, ⟨vs, hm.dictOf⟩, fin⟩)
end
def SetN (S : Addr) (n : Nat) : HO := .ext fun h => ∃ o es ep t, h.get? S = some o ∧ o.ExactSet ∧ o.data = .set es ep t ∧ t.fits es.size = true ∧ es.size = n ∧ n < 10000
theorem setN_ok {P : Program} {w : World} {H : Hp} {h : Heap} {S : Addr} {ks : List (List Int)} (T : PgSet.SetT P w h S ks) : ObjOk P w H h S (SetN S ks.length) := by
  obtain ⟨o, es, ep, t, a⟩ := T
  have e := a.len
  have := a.mo.le
  refine ⟨⟨o, es, ep, t, a.ho, a.ex, a.hd, a.fits, e.symm, by omega⟩, ⟨o, a.ho⟩, ?_⟩
  rintro h1 h2 ⟨o, es, ep, t, b1, b2⟩ k
  exact ⟨o, es, ep, t, k _ b1, b2⟩
def vi (l : List Int) : List V := l.map V.int
theorem items_vi {P : Program} {w : World} : ∀ (vs : List Int) (its : List Value), Vals (vi vs) its → ItemsAre (PgSet.kn P w) vs its
  | [], _, h => by
    cases h
    exact .nil
  | a :: b, _, h => by
    cases h with
    | cons ra rt =>
      obtain ⟨t, rfl⟩ := ra
      exact .cons (show Value.isInt a (.int a t) = true by simp [Value.isInt]) (items_vi b _ rt)
theorem call_setT {X : Cx} (hc : X.calm = true) (hu : X.A.units + 16 < cLine) : CallR X (.type "set") (fun xs H Q => ∃ p as vss, xs = [.ref p] ∧ SqL X.K H p (as.map V.ref) ∧ as.length + 1 < 4915 ∧ Paired (fun a vs => H a = some (.tup (vi vs))) as vss ∧
    ∀ (S : Addr) (n : Nat), H S = none → n ≤ vss.length → (n = vss.length ↔ vss.Nodup) → Q (.ref S) (upd H S (SetN S n))) := by
  intro pins s σ H xs us Q I r h
  obtain ⟨p, as, vss, rfl, hq, hn, hp, q⟩ := h
  obtain ⟨u, rfl, rx⟩ := vals1 r
  cases rx
  obtain ⟨its, r', pl, hz⟩ := I.list hq
  have hlen := r'.length
  rw [List.length_map] at hlen
  have hvl : as.length = vss.length := Paired.length hp
  have hmap : (List.range its.toArray.size).map (fun j => vss.getD j []) = vss := by
    apply List.ext_getElem?
    intro j
    rw [List.getElem?_map]
    by_cases hj : j < vss.length
    · rw [List.getElem?_range (by simp; omega)]
      simp [List.getD, List.getElem?_eq_getElem hj]
    · rw [List.getElem?_eq_none (by simp; omega), List.getElem?_eq_none (by omega)]
      rfl
  refine PgSet.call_set_tuples (val := fun j => vss.getD j []) (I.ok.hd hc) hu pl.isList (by simp only [List.size_toArray]; omega) ?_ ?_
  · intro j v hj
    have hj' : its[j]? = some v := by simpa using hj
    have hjl : j < as.length := by
      have := (List.getElem?_eq_some_iff.mp hj').1
      omega
    obtain ⟨vs, hvs, ha⟩ := paired_get hp (List.getElem?_eq_getElem hjl)
    obtain ⟨u2, hu2, ru2⟩ := Vals.get r' (show (as.map V.ref)[j]? = some (V.ref as[j]) by rw [List.getElem?_map, List.getElem?_eq_getElem hjl]; rfl)
    rw [hj'] at hu2
    cases hu2
    obtain rfl : v = Value.ref as[j] := ru2
    refine ⟨_, rfl, ?_⟩
    have e : vss.getD j [] = vs := by simp [List.getD, hvs]
    rw [e]
    obtain ⟨_, its2, r2, o2, g1, g2, m2, g3⟩ := (show ObjOk X.prog X.w H s.heap as[j] (.tup (vi vs)) from I.hok _ _ ha)
    refine ⟨o2, its2.toArray, m2, g1, g2, g3, ?_⟩
    rw [show its2.toArray.toList = its2 from rfl]
    exact items_vi vs its2 r2
  · intro h' tk ks T M kp
    rw [hmap] at M
    have kp' : ∀ b u, s.heap.get? b = some u → h'.get? b = some u := fun b o e => kp b o (Heap.lt_size e) e
    refine ⟨.ref s.heap.objs.size, _, I.laid (t' := tk) kp' (Nat.le_refl _) (setN_ok T), rfl, q _ _ (I.hok.fresh (Nat.le_refl _)) ?_ ?_⟩
    · exact M.le
    · exact M.full
theorem call_lenS {X : Cx} : CallR X (.builtin "len") (fun xs H Q => ∃ S n, xs = [.ref S] ∧ H S = some (SetN S n) ∧ Q (.int (n : Nat)) H) := by
  intro pins s σ H xs us Q I r h
  obtain ⟨S, n, rfl, hS, q⟩ := h
  obtain ⟨u, rfl, rx⟩ := vals1 r
  cases rx
  obtain ⟨⟨o, es, ep, t, g1, g2, g3, g4, g5, g6⟩, _⟩ := (show ObjOk X.prog X.w H s.heap S (SetN S n) from I.hok _ _ hS)
  subst g5
  refine call_len_set g1 g2 g3 g4 (by omega) ?_
  exact ⟨.int (es.size : Nat), H, I.tok _, ⟨_, rfl⟩, q⟩
end Pg
end
section
set_option Elab.async false
set_option linter.all false
set_option maxRecDepth 100000
set_option maxHeartbeats 4000000
namespace Pg
open PySem PySem.Spec PyProof.Rows L2
theorem upd2 {H : Hp} {a : Addr} {o u : HO} : upd (upd H a o) a u = upd H a u := by
  funext b
  unfold upd
  by_cases h : b = a
  · rw [if_pos h, if_pos h]
  · rw [if_neg h, if_neg h, if_neg h]
def del (H : Hp) (L : Addr) : Hp := fun b => if b = L then none else H b
theorem del_ne {H : Hp} {L b : Addr} (h : b ≠ L) : del H L b = H b := by unfold del; rw [if_neg h]
theorem del_upd {H : Hp} {L : Addr} {o : HO} : del (upd H L o) L = del H L := by
  funext b
  unfold del upd
  by_cases e : b = L
  · rw [if_pos e, if_pos e]
  · rw [if_neg e, if_neg e, if_neg e]
theorem del_some {H : Hp} {L b : Addr} {o : HO} (h : del H L b = some o) : b ≠ L ∧ H b = some o := by
  unfold del at h
  by_cases e : b = L
  · rw [if_pos e] at h; cases h
  · rw [if_neg e] at h; exact ⟨e, h⟩
theorem same_del {H : Hp} {L : Addr} : Same (del H L) H := fun b o h => (del_some h).2
theorem Same.del {H H' : Hp} (s : Same H H') (L : Addr) : Same (del H L) (Pg.del H' L) := fun b o h => by
  obtain ⟨n, e⟩ := del_some h
  rw [del_ne n]
  exact s b o e
theorem same_upd {H : Hp} {L : Addr} {o : HO} (n : H L = none) : Same H (upd H L o) := fun b u h => by
  rw [upd_ne (ne_of_none h n)]
  exact h
theorem same_upd' {H H' : Hp} {L : Addr} {o : HO} (s : Same H H') (n : H L = none) : Same H (upd H' L o) := fun b u h => by
  rw [upd_ne (ne_of_none h n)]
  exact s b u h
def nw (H H' : Hp) : Hp := fun b => if (H b).isSome = true then none else H' b
theorem nw_of {H H' : Hp} {b : Addr} {o : HO} (n : H b = none) (h : H' b = some o) : nw H H' b = some o := by
  unfold nw; rw [n, if_neg (by simp)]; exact h
theorem nw_some {H H' : Hp} {b : Addr} {o : HO} (h : nw H H' b = some o) : H b = none ∧ H' b = some o := by
  unfold nw at h
  cases e : H b with
  | none => rw [e, if_neg (by simp)] at h; exact ⟨rfl, h⟩
  | some u => rw [e, if_pos (by simp)] at h; cases h
theorem nw_same {H H' : Hp} : Same (nw H H') H' := fun b o h => (nw_some h).2
theorem nw_left {H H1 H2 : Hp} (s : Same H1 H2) : Same (nw H H1) (nw H H2) := fun b o h => nw_of (nw_some h).1 (s b o (nw_some h).2)
theorem nw_right {H H1 H2 : Hp} (s : Same H H1) : Same (nw H1 H2) (nw H H2) := fun b o h => nw_of (s.free (nw_some h).1) (nw_some h).2
theorem nw_del {H H' : Hp} {L : Addr} {o : HO} (h : H L = some o) : Same (nw H H') (del H' L) := fun b u e => by
  obtain ⟨n, e⟩ := nw_some e
  rw [del_ne (fun z => by rw [z, h] at n; cases n)]
  exact e
def mk (H : Hp) (x dx C : Addr) (fs : List (Str × V)) : Hp := upd (upd H dx (.own x)) x (.ins C dx fs)
theorem mk_same {H : Hp} {x dx C : Addr} {fs : List (Str × V)} (nx : H x = none) (nd : H dx = none) : Same H (mk H x dx C fs) := fun b o e => by
  unfold mk
  rw [upd_ne (ne_of_none e nx), upd_ne (ne_of_none e nd)]
  exact e
theorem mk_at {H : Hp} {x dx C : Addr} {fs : List (Str × V)} : mk H x dx C fs x = some (.ins C dx fs) := upd_same
theorem mk_nw {H : Hp} {x dx C : Addr} {fs : List (Str × V)} (nx : H x = none) : nw H (mk H x dx C fs) x = some (.ins C dx fs) := nw_of nx mk_at
theorem lst_nw {H : Hp} {l : Addr} {xs : List V} (n : H l = none) : nw H (upd H l (.lst xs)) l = some (.lst xs) := nw_of n upd_same
structure Cs where
  Attribute : Addr
  Opening : Addr
  Closing : Addr
  Text : Addr
  Piece : Addr
  Beginning : Addr
  Reading : Addr
def BytesAt (G : Hp) (l : Addr) (b : List Nat) : Prop := G l = some (.lst (vb b))
def InsAt (G : Hp) (p C : Addr) (fs : List (Str × V)) : Prop := ∃ dx, G p = some (.ins C dx fs)
theorem BytesAt.mono {G G' : Hp} {l : Addr} {b : List Nat} (h : BytesAt G l b) (s : Same G G') : BytesAt G' l b := s _ _ h
theorem InsAt.mono {G G' : Hp} {p C : Addr} {fs : List (Str × V)} (h : InsAt G p C fs) (s : Same G G') : InsAt G' p C fs := let ⟨dx, e⟩ := h; ⟨dx, s _ _ e⟩
def PieceAt (c : Cs) (G : Hp) (p : Addr) (v : V) (j : Nat) : Prop := InsAt G p c.Piece [("content", v), ("end", .int (j : Int))]
def AttrAt (c : Cs) (G : Hp) (p : Addr) (x : List Nat × List Nat) : Prop := ∃ ln lv, InsAt G p c.Attribute [("name", .ref ln), ("value", .ref lv)] ∧ BytesAt G ln x.1 ∧ BytesAt G lv x.2
theorem AttrAt.mono {c : Cs} {G G' : Hp} {p : Addr} {x : List Nat × List Nat} (h : AttrAt c G p x) (s : Same G G') : AttrAt c G' p x :=
  let ⟨ln, lv, h1, h2, h3⟩ := h; ⟨ln, lv, h1.mono s, h2.mono s, h3.mono s⟩
theorem paired_mono {α β : Type} {F G : α → β → Prop} {l : List α} {m : List β} (h : Paired F l m) (k : ∀ a b, F a b → G a b) : Paired G l m := Paired.mapP h k
theorem paired_app {α β : Type} {F : α → β → Prop} : ∀ {l l' : List α} {m m' : List β}, Paired F l m → Paired F l' m' → Paired F (l ++ l') (m ++ m')
  | _, _, _, _, .nil, h => h
  | _, _, _, _, .cons a b, h => .cons a (paired_app b h)
def AttrsAt (c : Cs) (G : Hp) (l : Addr) (as : List (List Nat × List Nat)) : Prop := ∃ ps, G l = some (.lst (ps.map V.ref)) ∧ Paired (AttrAt c G) ps as
theorem AttrsAt.mono {c : Cs} {G G' : Hp} {l : Addr} {as : List (List Nat × List Nat)} (h : AttrsAt c G l as) (s : Same G G') : AttrsAt c G' l as :=
  let ⟨ps, h1, h2⟩ := h; ⟨ps, s _ _ h1, paired_mono h2 fun _ _ z => z.mono s⟩
def OpenAt (c : Cs) (G : Hp) (p : Addr) (n : List Nat) (as : List (List Nat × List Nat)) : Prop := ∃ ln la, InsAt G p c.Opening [("name", .ref ln), ("attributes", .ref la)] ∧ BytesAt G ln n ∧ AttrsAt c G la as
theorem OpenAt.mono {c : Cs} {G G' : Hp} {p : Addr} {n : List Nat} {as : List (List Nat × List Nat)} (h : OpenAt c G p n as) (s : Same G G') : OpenAt c G' p n as :=
  let ⟨ln, la, h1, h2, h3⟩ := h; ⟨ln, la, h1.mono s, h2.mono s, h3.mono s⟩
def CloseAt (c : Cs) (G : Hp) (p : Addr) (n : List Nat) : Prop := ∃ ln, InsAt G p c.Closing [("name", .ref ln)] ∧ BytesAt G ln n
theorem CloseAt.mono {c : Cs} {G G' : Hp} {p : Addr} {n : List Nat} (h : CloseAt c G p n) (s : Same G G') : CloseAt c G' p n :=
  let ⟨ln, h1, h2⟩ := h; ⟨ln, h1.mono s, h2.mono s⟩
def TextAt (c : Cs) (G : Hp) (p : Addr) (b : List Nat) : Prop := ∃ l, InsAt G p c.Text [("content", .ref l)] ∧ BytesAt G l b
theorem TextAt.mono {c : Cs} {G G' : Hp} {p : Addr} {b : List Nat} (h : TextAt c G p b) (s : Same G G') : TextAt c G' p b :=
  let ⟨ln, h1, h2⟩ := h; ⟨ln, h1.mono s, h2.mono s⟩
inductive NM where
  | o (n : List Nat) (a : List (List Nat × List Nat))
  | c (n : List Nat)
  | t (b : List Nat)
def NM.er : NM → Kp172.Mark
  | .o n a => .open_ n a
  | .c _ => .close
  | .t b => .text b
def MarkAt (c : Cs) (G : Hp) (p : Addr) : NM → Prop
  | .o n a => OpenAt c G p n a
  | .c n => CloseAt c G p n
  | .t b => TextAt c G p b
theorem MarkAt.mono {c : Cs} {G G' : Hp} {p : Addr} {m : NM} (h : MarkAt c G p m) (s : Same G G') : MarkAt c G' p m := by
  cases m with
  | o n a => exact OpenAt.mono h s
  | c n => exact CloseAt.mono h s
  | t b => exact TextAt.mono h s
def runN : List (List Nat) → List NM → Option (List (List Nat))
  | s, [] => some s
  | s, .o n _ :: l => runN (n :: s) l
  | s, .c n :: l => if s.head? = some n then runN (s.drop 1) l else none
  | s, .t _ :: l => runN s l
theorem runN_app : ∀ (l : List NM) (m : List NM) (s : List (List Nat)), runN s (l ++ m) = (runN s l).bind fun s' => runN s' m
  | [], m, s => rfl
  | .o n a :: l, m, s => by show runN (n :: s) (l ++ m) = _; rw [runN_app l m]; rfl
  | .c n :: l, m, s => by
    show (if s.head? = some n then runN (s.drop 1) (l ++ m) else none) = (if s.head? = some n then runN (s.drop 1) l else none).bind _
    by_cases h : s.head? = some n
    · rw [if_pos h, if_pos h, runN_app l m]
    · rw [if_neg h, if_neg h]; rfl
  | .t b :: l, m, s => by show runN s (l ++ m) = _; rw [runN_app l m]; rfl
def spRd {α : Type} (K : PySem.W.Frag) (c : Cs) (pre : List Nat → Prop) (f : List Nat → Option (α × List Nat)) (rep : Hp → V → α → Prop) : Sp := fun vs H Q _ => ∃ (a : Addr) (b : List Nat) (i : Nat), vs = [.ref a, .int (i : Int)] ∧ Tt K H a b ∧ i ≤ b.length ∧ b.length ≤ 16384 ∧ pre (b.drop i) ∧
  (f (b.drop i) = none → ∀ H', Same H H' → Q .non H') ∧
  ∀ x r j H' p v, f (b.drop i) = some (x, r) → b.drop j = r → i ≤ j → j ≤ b.length → Same H H' → PieceAt c (nw H H') p v j → rep (nw H H') v x → Q (.ref p) H'
def repB (G : Hp) (v : V) (b : List Nat) : Prop := ∃ l, v = .ref l ∧ BytesAt G l b
def repI (_ : Hp) (v : V) (n : Nat) : Prop := v = .int (n : Int)
theorem repB.mono {G G' : Hp} {v : V} {b : List Nat} (h : repB G v b) (s : Same G G') : repB G' v b := let ⟨l, e, q⟩ := h; ⟨l, e, q.mono s⟩
def charAt : List Nat → Option (Nat × List Nat)
  | [] => none
  | c :: r => if c = 38 then Kp172.entity r else if c = 60 ∨ Kp172.okByte c = false then none else some (c, r)
theorem charsX_step {h c : Nat} {r : List Nat} (n : c ≠ h) : charsX h (c :: r) = (charAt (c :: r)).bind fun e => (charsX h e.2).map fun x => (e.1 :: x.1, x.2) := by
  rw [charsX_cons, if_neg n]
  show _ = Option.bind (if c = 38 then Kp172.entity r else if c = 60 ∨ Kp172.okByte c = false then none else some (c, r)) _
  by_cases h1 : c = 60
  · rw [if_pos h1, if_neg (by omega), if_pos (.inl h1)]; rfl
  · rw [if_neg h1]
    by_cases h2 : c = 38
    · rw [if_pos h2, if_pos h2]
    · rw [if_neg h2, if_neg h2]
      by_cases h3 : Kp172.okByte c = true
      · rw [if_pos h3, if_neg (by simp [h1, h3])]
        rfl
      · have h3 : Kp172.okByte c = false := by simpa using h3
        rw [h3, if_neg (by simp), if_pos (.inr rfl)]
        rfl
theorem charAt_len {s q : List Nat} {v : Nat} (h : charAt s = some (v, q)) : q.length < s.length := by
  cases s with
  | nil => cases h
  | cons c r =>
    have h : (if c = 38 then Kp172.entity r else if c = 60 ∨ Kp172.okByte c = false then none else some (c, r)) = some (v, q) := h
    by_cases h2 : c = 38
    · rw [if_pos h2] at h
      have := entity_len h
      simp only [List.length_cons]; omega
    · rw [if_neg h2] at h
      by_cases h3 : c = 60 ∨ Kp172.okByte c = false
      · rw [if_pos h3] at h; cases h
      · rw [if_neg h3] at h
        cases h
        simp
def valueAtX (s : List Nat) : Option (List Nat × List Nat) := (Kp172.front [61, 34] s).bind fun q => (charsX 34 q).bind fun v => (Kp172.front [34] v.2).map fun z => (v.1, z)
def attrAtX (s : List Nat) : Option ((List Nat × List Nat) × List Nat) := (attr1 (s.dropWhile Kp172.blank)).map fun x => ((x.1, x.2.1), x.2.2)
theorem place_of {b r w : List Nat} {i : Nat} (h : b.drop i = w ++ r) (hi : i ≤ b.length) : b.drop (i + w.length) = r ∧ i + w.length ≤ b.length := by
  have e : b.drop (i + w.length) = r := by rw [← List.drop_drop, h, List.drop_left]
  have := congrArg List.length h
  rw [List.length_drop, List.length_append] at this
  exact ⟨e, by omega⟩
theorem wh {tc : TT} {tb : TS} {D : Ends} {σ : L2.St} {H : Hp} (W : Nat → L2.St → Hp → Prop) (R : L2.St → Hp → Prop) (hd : ∀ σ H, R σ H → D.nx σ H) (h0 : ∃ m, W m σ H)
    (hs : (∀ σ H, R σ H → D.nx σ H) → ∀ m σ H, W m σ H → tc σ H fun b H1 => if b = true then ∃ N : L2.St → Hp → Prop, (∀ σ' H', N σ' H' → ∃ m', m' < m ∧ W m' σ' H') ∧ tb { D with nx := N, ct := N, bk := D.nx } σ H1 else D.nx σ H1) :
    tWhile tc tb D σ H := ⟨W, h0, hs hd⟩
theorem not_dec {p : Prop} [Decidable p] (h : ¬ decide p = true) : ¬ p := fun z => h (decide_eq_true z)
theorem of_dec {p : Prop} [Decidable p] (h : decide p = true) : p := of_decide_eq_true h
end Pg
end
section
set_option Elab.async false
set_option linter.all false
set_option maxRecDepth 100000
set_option maxHeartbeats 4000000
namespace Pg
open PySem PySem.Spec PyProof.Rows L2
theorem nd_true {p : Prop} [Decidable p] (h : (!decide p) = true) : ¬ p := fun z => by rw [decide_eq_true z] at h; cases h
theorem nd_false {p : Prop} [Decidable p] (h : ¬ (!decide p) = true) : p := by
  by_cases z : p
  · exact z
  · rw [decide_eq_false z] at h; exact absurd rfl h
theorem stands_app {s w : List Nat} (h : s.take w.length = w) : s = w ++ s.drop w.length := by
  have e := List.take_append_drop w.length s
  rw [h] at e
  exact e.symm
def refsL : List (Nat × Str) := [(60, "&lt;"), (62, "&gt;"), (38, "&amp;"), (34, "&quot;")]
def Std (s : List Nat) (x : Str) : Prop := s.take x.length = x.cps.toList
theorem std_lt (r : List Nat) : Std (38 :: r) "&lt;" ↔ r.take 3 = [108, 116, 59] := by
  show (38 :: r).take 4 = [38, 108, 116, 59] ↔ _
  simp
theorem std_gt (r : List Nat) : Std (38 :: r) "&gt;" ↔ r.take 3 = [103, 116, 59] := by
  show (38 :: r).take 4 = [38, 103, 116, 59] ↔ _
  simp
theorem std_amp (r : List Nat) : Std (38 :: r) "&amp;" ↔ r.take 4 = [97, 109, 112, 59] := by
  show (38 :: r).take 5 = [38, 97, 109, 112, 59] ↔ _
  simp
theorem std_quot (r : List Nat) : Std (38 :: r) "&quot;" ↔ r.take 5 = [113, 117, 111, 116, 59] := by
  show (38 :: r).take 6 = [38, 113, 117, 111, 116, 59] ↔ _
  simp
def NoneTo (s : List Nat) (i : Nat) : Prop := ∀ m n x, m < i → refsL[m]? = some (n, x) → ¬ Std s x
theorem NoneTo.zero {s : List Nat} : NoneTo s 0 := fun m n x h => absurd h (Nat.not_lt_zero _)
theorem NoneTo.next {s : List Nat} {i n : Nat} {x : Str} (h : NoneTo s i) (e : refsL[i]? = some (n, x)) (hn : ¬ Std s x) : NoneTo s (i + 1) := fun m n' x' hm e' => by
  by_cases q : m = i
  · subst q
    rw [e] at e'
    cases e'
    exact hn
  · exact h m n' x' (by omega) e'
theorem ent_at {r : List Nat} : ∀ {i n : Nat} {x : Str}, refsL[i]? = some (n, x) → NoneTo (38 :: r) i → Std (38 :: r) x → Kp172.entity r = some (n, (38 :: r).drop x.length)
  | 0, n, x, e, h, q => by
    cases e
    rw [entity_eq, if_pos ((std_lt r).mp q)]
    rfl
  | 1, n, x, e, h, q => by
    cases e
    rw [entity_eq, if_neg (fun z => h 0 _ _ (by decide) rfl ((std_lt r).mpr z)), if_pos ((std_gt r).mp q)]
    rfl
  | 2, n, x, e, h, q => by
    cases e
    rw [entity_eq, if_neg (fun z => h 0 _ _ (by decide) rfl ((std_lt r).mpr z)), if_neg (fun z => h 1 _ _ (by decide) rfl ((std_gt r).mpr z)), if_pos ((std_amp r).mp q)]
    rfl
  | 3, n, x, e, h, q => by
    cases e
    rw [entity_eq, if_neg (fun z => h 0 _ _ (by decide) rfl ((std_lt r).mpr z)), if_neg (fun z => h 1 _ _ (by decide) rfl ((std_gt r).mpr z)), if_neg (fun z => h 2 _ _ (by decide) rfl ((std_amp r).mpr z)), if_pos ((std_quot r).mp q)]
    rfl
  | i + 4, n, x, e, h, q => by cases e
def num35 (r : List Nat) : Option (Nat × List Nat) := match r with | 35 :: q => numEnt q | _ => none
theorem ent_no {r : List Nat} (h : NoneTo (38 :: r) 4) : Kp172.entity r = num35 r := by
  rw [entity_eq, if_neg (fun z => h 0 _ _ (by decide) rfl ((std_lt r).mpr z)), if_neg (fun z => h 1 _ _ (by decide) rfl ((std_gt r).mpr z)), if_neg (fun z => h 2 _ _ (by decide) rfl ((std_amp r).mpr z)), if_neg (fun z => h 3 _ _ (by decide) rfl ((std_quot r).mpr z))]
  rfl
def refsK : List (Key × V) := refsL.map fun p => (Sum.inl (p.1 : Int), .str p.2)
theorem refsK_get {i : Nat} {k : Key} {v : V} (h : refsK[i]? = some (k, v)) : ∃ n x, refsL[i]? = some (n, x) ∧ k = Sum.inl (n : Int) ∧ v = .str x ∧ x.length < 1000 := by
  unfold refsK at h
  rw [List.getElem?_map] at h
  cases e : refsL[i]? with
  | none => rw [e] at h; cases h
  | some p =>
    rw [e] at h
    cases h
    refine ⟨p.1, p.2, rfl, rfl, rfl, ?_⟩
    have m := List.mem_of_getElem? e
    unfold refsL at m
    simp only [List.mem_cons, List.not_mem_nil, or_false] at m
    rcases m with rfl | rfl | rfl | rfl <;> decide
theorem for_q {kvs : List (Key × V)} {g : TG} {tb : TS} {D : Ends} {σ : L2.St} {H : Hp} (Pv : Nat → L2.St → Hp → Prop) (h0 : Pv 0 σ H)
    (hd : ∀ σ H, Pv kvs.length σ H → D.nx σ H)
    (hs : ∀ i k v σ H T, kvs[i]? = some (k, v) → Pv i σ H → H T = none → g (.ref T) σ (upd H T (.tup [kV k, v])) fun σ2 H2 => tb { D with nx := Pv (i + 1), ct := Pv (i + 1), bk := D.nx } σ2 H2) :
    ∃ W : Nat → Nat → L2.St → Hp → Prop, (∃ m, W 0 m σ H) ∧ ∀ i m σ H, W i m σ H →
      ((Itq kvs).stop i H ∧ D.nx σ H) ∨ ((Itq kvs).go i H ∧ ∃ N : L2.St → Hp → Prop, (∀ σ' H', N σ' H' → ∃ m', m' < m ∧ W (i + 1) m' σ' H') ∧ ∀ x H', (Itq kvs).yld i H x H' → g x σ H' fun σ2 H2 => tb { D with nx := N, ct := N, bk := D.nx } σ2 H2) := by
  refine ⟨fun i m σ H => m = kvs.length - i ∧ i ≤ kvs.length ∧ Pv i σ H, ⟨kvs.length, by simp, Nat.zero_le _, h0⟩, ?_⟩
  rintro i m σ H ⟨rfl, hi, p⟩
  by_cases hlt : i < kvs.length
  · refine .inr ⟨hlt, Pv (i + 1), fun σ' H' p' => ⟨kvs.length - (i + 1), by omega, rfl, hlt, p'⟩, fun x H' y => ?_⟩
    obtain ⟨T, k, v, e, rfl, hT, rfl⟩ := y
    exact hs i k v σ H T e p hT
  · have e : i = kvs.length := by omega
    subst e
    exact .inl ⟨Nat.le_refl _, hd σ H p⟩
end Pg
end
section
set_option Elab.async false
set_option linter.all false
set_option maxRecDepth 100000
set_option maxHeartbeats 4000000
namespace Pg
open PySem PySem.Spec PyProof.Rows L2
theorem isN_ref {p : Addr} {A B : Prop} (h : B) : if decide (V.ref p = V.non) = true then A else B := by
  rw [if_neg (by simp)]; exact h
theorem isN_non {A B : Prop} (h : A) : if decide (V.non = V.non) = true then A else B := by
  rw [if_pos (by simp)]; exact h
theorem nw_del2 {H H' H3 : Hp} {L : Addr} {o : HO} (s : Same H H') (h : H' L = some o) : Same (nw H' H3) (nw H (del H3 L)) := fun b u e => by
  obtain ⟨n, e2⟩ := nw_some e
  exact nw_of (s.free n) (nw_del h b u e)
theorem front_no {w s : List Nat} (h : ¬ s.take w.length = w) : Kp172.front w s = none := if_neg h
theorem front_is {w s : List Nat} (h : s.take w.length = w) : Kp172.front w s = some (s.drop w.length) := if_pos h
def begs (s : List Nat) : Bool := match s.dropWhile Kp172.blank with
  | c :: r => decide ((c :: r).length < s.length) && Kp172.small c
  | [] => false
def stSmall (s : List Nat) : Bool := match s with
  | c :: _ => Kp172.small c
  | [] => false
theorem dropWhile_all {p : Nat → Bool} : ∀ {s : List Nat}, (s.dropWhile p).length = s.length → s.dropWhile p = s
  | [], _ => rfl
  | c :: r, h => by
    rw [List.dropWhile_cons] at h ⊢
    by_cases q : p c = true
    · rw [if_pos q] at h
      have := dropWhile_len p r
      rw [List.length_cons] at h
      omega
    · rw [if_neg q]
theorem small_blank {c : Nat} (h : Kp172.small c = true) : Kp172.blank c = false := by
  unfold Kp172.small at h
  unfold Kp172.blank
  simp at h ⊢
  omega
theorem attr1_value (r : List Nat) : attr1 r = (Kp172.nameAt r).bind fun n => (valueAtX n.2).map fun v => (n.1, v.1, v.2) := by
  unfold attr1 valueAtX
  cases Kp172.nameAt r with
  | none => rfl
  | some n =>
    simp only [Option.bind_some]
    cases Kp172.front [61, 34] n.2 with
    | none => rfl
    | some q =>
      simp only [Option.bind_some]
      cases charsX 34 q with
      | none => rfl
      | some v =>
        simp only [Option.bind_some]
        cases Kp172.front [34] v.2 <;> rfl
theorem attrs_go {s : List Nat} (h : begs s = true) : attrsX s = (attrAtX s).bind fun x => (attrsX x.2).map fun l => (x.1 :: l.1, l.2) := by
  rw [attrsX_eq]
  unfold begs at h
  unfold attrAtX
  cases e : s.dropWhile Kp172.blank with
  | nil => rw [e] at h; cases h
  | cons c r =>
    rw [e] at h
    dsimp only at h ⊢
    rw [Bool.and_eq_true] at h
    have h1 := of_decide_eq_true h.1
    rw [h.2, if_neg (by simp), if_neg (by omega)]
    cases attr1 (c :: r) <;> rfl
theorem attrs_stop {s : List Nat} (h : begs s = false) : attrsX s = if stSmall s = true then none else some ([], s.dropWhile Kp172.blank) := by
  rw [attrsX_eq]
  unfold begs at h
  cases e : s.dropWhile Kp172.blank with
  | nil =>
    dsimp only
    have q : stSmall s = false := by
      unfold stSmall
      cases s with
      | nil => rfl
      | cons c r =>
        dsimp only
        cases hs : Kp172.small c with
        | false => rfl
        | true =>
          rw [List.dropWhile_cons, small_blank hs, if_neg (by simp)] at e
          cases e
    rw [q, if_neg (by simp)]
  | cons c r =>
    rw [e] at h
    dsimp only at h ⊢
    by_cases hs : Kp172.small c = true
    · rw [hs, if_neg (by simp)]
      rw [hs, Bool.and_true] at h
      have l : (c :: r).length = s.length := by
        have h1 := of_decide_eq_false h
        have h2 := dropWhile_len Kp172.blank s
        rw [e] at h2
        omega
      rw [if_pos l]
      have es := dropWhile_all (s := s) (p := Kp172.blank) (by rw [e]; exact l)
      rw [e] at es
      rw [← es]
      unfold stSmall
      dsimp only
      rw [if_pos hs]
    · have hs : Kp172.small c = false := by simpa using hs
      rw [hs, if_pos rfl]
      have q : stSmall s = false := by
        unfold stSmall
        cases s with
        | nil => rfl
        | cons d t =>
          dsimp only
          cases hd : Kp172.small d with
          | false => rfl
          | true =>
            rw [List.dropWhile_cons, small_blank hd, if_neg (by simp)] at e
            cases e
            rw [hs] at hd
            cases hd
      rw [q, if_neg (by simp)]
theorem value_len {s v z : List Nat} (h : valueAtX s = some (v, z)) : z.length + 3 ≤ s.length := by
  unfold valueAtX at h
  rw [Option.bind_eq_some_iff] at h
  obtain ⟨q, eq, h⟩ := h
  rw [Option.bind_eq_some_iff] at h
  obtain ⟨y, ey, h⟩ := h
  rw [Option.map_eq_some_iff] at h
  obtain ⟨z', ez, h⟩ := h
  cases h
  have l2 := front_len eq
  have l3 := (charsX_rest 34 q.length q y.1 y.2 (Nat.le_refl _) ey).2
  have l4 := front_len ez
  simp only [List.length_cons, List.length_nil] at l2 l4
  omega
theorem attrAt_len {s z : List Nat} {x : List Nat × List Nat} (hb : begs s = true) (h : attrAtX s = some (x, z)) : z.length + 5 ≤ s.length := by
  unfold attrAtX at h
  rw [attr1_value, Option.map_eq_some_iff] at h
  obtain ⟨y, ey, h⟩ := h
  rw [Option.bind_eq_some_iff] at ey
  obtain ⟨n, en, ey⟩ := ey
  rw [Option.map_eq_some_iff] at ey
  obtain ⟨v, ev, ey⟩ := ey
  subst ey
  cases h
  have l1 := nameAt_len (w := n.1) (q := n.2) en
  have l2 := value_len (v := v.1) (z := v.2) ev
  have l3 := (nameAt_some (w := n.1) (q := n.2) en).2.1
  unfold begs at hb
  cases e : s.dropWhile Kp172.blank with
  | nil => rw [e] at hb; cases hb
  | cons c r =>
    rw [e] at hb l1
    dsimp only at hb
    rw [Bool.and_eq_true] at hb
    have := of_decide_eq_true hb.1
    show v.2.length + 5 ≤ s.length
    omega
end Pg
end
section
set_option Elab.async false
set_option linter.all false
set_option maxRecDepth 100000
set_option maxHeartbeats 4000000
namespace Pg
open PySem PySem.Spec PyProof.Rows L2
def repA (c : Cs) (G : Hp) (v : V) (x : List Nat × List Nat) : Prop := ∃ p, v = .ref p ∧ AttrAt c G p x
def repC (c : Cs) (G : Hp) (v : V) (n : List Nat) : Prop := ∃ p, v = .ref p ∧ CloseAt c G p n
theorem distinct_eq : ∀ l : List (List Nat), Kp172.distinct l = decide l.Nodup
  | [] => by simp [Kp172.distinct]
  | x :: l => by
    unfold Kp172.distinct
    rw [distinct_eq l]
    by_cases h1 : x ∈ l
    · have : l.contains x = true := by simpa using h1
      rw [this]
      simp [h1]
    · have : l.contains x = false := by simpa using h1
      rw [this]
      simp [h1]
def ib (b : List Nat) : List Int := b.map fun (n : Nat) => (n : Int)
theorem vi_ib (b : List Nat) : vi (ib b) = vb b := by
  unfold vi ib vb
  rw [List.map_map]
  rfl
theorem ib_inj {a b : List Nat} (h : ib a = ib b) : a = b := by
  unfold ib at h
  exact List.map_inj_right (fun x y e => by omega) |>.mp h
theorem nodup_ib (l : List (List Nat)) : (l.map ib).Nodup ↔ l.Nodup := by
  constructor
  · intro h
    exact List.Pairwise.of_map _ (fun a b q e => q (by rw [e])) h
  · intro h
    exact List.Pairwise.map _ (fun a b q e => q (ib_inj e)) h
theorem ending_eq (b : List Nat) : Kp172.ending b = (Kp172.nameAt b).bind fun n => (Kp172.front [62] (n.2.dropWhile Kp172.blank)).map fun r => (n.1, r) := by
  unfold Kp172.ending
  cases Kp172.nameAt b with
  | none => rfl
  | some n =>
    simp only [Option.bind_some, bind, Option.bind_some]
    cases Kp172.front [62] (n.2.dropWhile Kp172.blank) <;> rfl
theorem lc_list {K : PySem.W.Frag} {a : Addr} {xs : List V} {g : TG} {tt : TT} {te : TE} {vs : List Nat} {σ : L2.St} {H1 : Hp} {D : Addr} {Qd : Hp → Prop} (Pv : Nat → Hp → Prop) (h0 : Pv 0 (upd H1 D (.lst []))) (hl : ∀ i H, i ≤ xs.length → Pv i H → SqL K H a xs)
    (hd : ∀ H, Pv xs.length H → Qd H)
    (hs : ∀ i x H, xs[i]? = some x → Pv i H → g x (wipe σ vs) H fun σ2 H2 => wipe σ2 vs = wipe σ vs ∧ tt σ2 H2 fun b H3 =>
      if b = true then te σ2 H3 fun y H4 => ∃ acc, H4 D = some (.lst acc) ∧ acc.length < sizeLine ∧ Pv (i + 1) (upd H4 D (.lst (acc ++ [y]))) else Pv (i + 1) H3) :
    ∃ W : Nat → Nat → Hp → Prop, (∃ m, W 0 m (upd H1 D (.lst []))) ∧ ∀ i m H, W i m H →
      ((Itl K a).stop i H ∧ Qd H) ∨ ((Itl K a).go i H ∧ ∃ Nx : Hp → Prop, (∀ H', Nx H' → ∃ m', m' < m ∧ W (i + 1) m' H') ∧ ∀ v H', (Itl K a).yld i H v H' → g v (wipe σ vs) H' fun σ2 H2 => wipe σ2 vs = wipe σ vs ∧ tt σ2 H2 fun b H3 =>
        if b = true then te σ2 H3 fun y H4 => ∃ acc, H4 D = some (.lst acc) ∧ acc.length < sizeLine ∧ Nx (upd H4 D (.lst (acc ++ [y]))) else Nx H3) := by
  refine ⟨fun i m H => m = xs.length - i ∧ i ≤ xs.length ∧ Pv i H, ⟨xs.length, by simp, Nat.zero_le _, h0⟩, ?_⟩
  rintro i m H ⟨rfl, hi, p⟩
  have q := hl i H hi p
  by_cases hlt : i < xs.length
  · refine .inr ⟨⟨xs, xs[i], q, by simp [hlt]⟩, Pv (i + 1), fun H' p' => ⟨xs.length - (i + 1), by omega, rfl, hlt, p'⟩, fun v H' y => ?_⟩
    obtain ⟨e, y⟩ := y
    subst e
    exact hs i v _ (y xs q) p
  · have e : i = xs.length := by omega
    subst e
    exact .inl ⟨⟨xs, q, Nat.le_refl _⟩, hd H p⟩
theorem take_snoc {α : Type} {l : List α} {i : Nat} {x : α} (h : l[i]? = some x) : l.take (i + 1) = l.take i ++ [x] := by
  rw [List.take_succ, h]; rfl
end Pg
end
section
set_option Elab.async false
set_option linter.all false
set_option maxRecDepth 100000
set_option maxHeartbeats 4000000
namespace Pg
open PySem PySem.Spec PyProof.Rows L2
def plA (x : List Nat × List Nat) : List Nat := [32] ++ x.1 ++ [61, 34] ++ Kp172.escaped x.2 ++ [34]
def plN : NM → List Nat
  | .o n a => [60] ++ n ++ a.flatMap plA ++ [62]
  | .c n => [60, 47] ++ n ++ [62]
  | .t b => Kp172.escaped b
theorem esc_len : ∀ b : List Nat, (Kp172.escaped b).length ≤ 6 * b.length
  | [] => by simp [Kp172.escaped]
  | c :: r => by
    have ih := esc_len r
    have e : Kp172.escaped (c :: r) = (if c = 60 then Kp172.bytesOf "&lt;" else if c = 62 then Kp172.bytesOf "&gt;" else if c = 38 then Kp172.bytesOf "&amp;" else if c = 34 then Kp172.bytesOf "&quot;" else [c]) ++ Kp172.escaped r := rfl
    rw [e, List.length_append, List.length_cons]
    have h : (if c = 60 then Kp172.bytesOf "&lt;" else if c = 62 then Kp172.bytesOf "&gt;" else if c = 38 then Kp172.bytesOf "&amp;" else if c = 34 then Kp172.bytesOf "&quot;" else [c]).length ≤ 6 := by
      split
      · decide
      · split
        · decide
        · split
          · decide
          · split
            · decide
            · simp
    omega
def wA : List (List Nat × List Nat) → Nat
  | [] => 0
  | x :: l => x.1.length + x.2.length + 4 + wA l
theorem plA_len (x : List Nat × List Nat) : (plA x).length ≤ x.1.length + 6 * x.2.length + 4 := by
  unfold plA
  have := esc_len x.2
  simp only [List.length_append, List.length_cons, List.length_nil]
  omega
theorem plAs_len : ∀ a : List (List Nat × List Nat), (a.flatMap plA).length ≤ 6 * wA a
  | [] => by simp
  | x :: l => by
    have := plAs_len l
    have := plA_len x
    rw [List.flatMap_cons, List.length_append]
    unfold wA
    omega
def wN (l : List NM) : Nat := (l.flatMap plN).length
theorem wN_app (l m : List NM) : wN (l ++ m) = wN l + wN m := by
  unfold wN
  rw [List.flatMap_append, List.length_append]
theorem chars_w (h : Nat) : ∀ (n : Nat) (b v q : List Nat), b.length ≤ n → charsX h b = some (v, q) → v.length + q.length ≤ b.length
  | 0, b, v, q, l, e => by
    cases b with
    | nil => rw [charsX_nil] at e; cases e; simp
    | cons c r => simp at l
  | n + 1, b, v, q, l, e => by
    cases b with
    | nil => rw [charsX_nil] at e; cases e; simp
    | cons c r =>
      by_cases hc : c = h
      · rw [charsX_cons, if_pos hc] at e; cases e; simp
      · rw [charsX_step hc, Option.bind_eq_some_iff] at e
        obtain ⟨y, ey, e⟩ := e
        rw [Option.map_eq_some_iff] at e
        obtain ⟨z, ez, e⟩ := e
        cases e
        have l1 := charAt_len (v := y.1) (q := y.2) ey
        have l2 := chars_w h n y.2 z.1 z.2 (by simp only [List.length_cons] at l l1; omega) ez
        simp only [List.length_cons] at l1 ⊢
        omega
theorem value_w {s v z : List Nat} (h : valueAtX s = some (v, z)) : v.length + z.length + 3 ≤ s.length := by
  unfold valueAtX at h
  rw [Option.bind_eq_some_iff] at h
  obtain ⟨q, eq, h⟩ := h
  rw [Option.bind_eq_some_iff] at h
  obtain ⟨y, ey, h⟩ := h
  rw [Option.map_eq_some_iff] at h
  obtain ⟨z', ez, h⟩ := h
  cases h
  have l2 := front_len eq
  have l3 := chars_w 34 _ q y.1 y.2 (Nat.le_refl _) ey
  have l4 := front_len ez
  simp only [List.length_cons, List.length_nil] at l2 l4
  omega
theorem attrAt_w {s z : List Nat} {x : List Nat × List Nat} (hb : begs s = true) (h : attrAtX s = some (x, z)) : x.1.length + x.2.length + 4 + z.length ≤ s.length := by
  unfold attrAtX at h
  rw [attr1_value, Option.map_eq_some_iff] at h
  obtain ⟨y, ey, h⟩ := h
  rw [Option.bind_eq_some_iff] at ey
  obtain ⟨n, en, ey⟩ := ey
  rw [Option.map_eq_some_iff] at ey
  obtain ⟨v, ev, ey⟩ := ey
  subst ey
  cases h
  have l1 := nameAt_len (w := n.1) (q := n.2) en
  have l2 := value_w (v := v.1) (z := v.2) ev
  unfold begs at hb
  cases e : s.dropWhile Kp172.blank with
  | nil => rw [e] at hb; cases hb
  | cons c r =>
    rw [e] at hb l1
    dsimp only at hb
    rw [Bool.and_eq_true] at hb
    have := of_decide_eq_true hb.1
    show n.1.length + v.1.length + 4 + v.2.length ≤ s.length
    omega
theorem attrs_w : ∀ (n : Nat) (s : List Nat) (l : List (List Nat × List Nat)) (q : List Nat), s.length ≤ n → attrsX s = some (l, q) → wA l + q.length ≤ s.length
  | n, s, l, q, hn, h => by
    cases hb : begs s with
    | false =>
      rw [attrs_stop hb] at h
      split at h
      · cases h
      · cases h
        have := dropWhile_len Kp172.blank s
        show 0 + _ ≤ _
        omega
    | true =>
      rw [attrs_go hb, Option.bind_eq_some_iff] at h
      obtain ⟨x, ex, h⟩ := h
      rw [Option.map_eq_some_iff] at h
      obtain ⟨y, ey, h⟩ := h
      cases h
      have l1 := attrAt_w hb (x := x.1) (z := x.2) ex
      have l2 := attrAt_len hb (x := x.1) (z := x.2) ex
      match n, hn with
      | 0, hn => omega
      | n + 1, hn =>
        have l3 := attrs_w n x.2 y.1 y.2 (by omega) ey
        show x.1.1.length + x.1.2.length + 4 + wA y.1 + y.2.length ≤ s.length
        omega
theorem tag_w {b n : List Nat} {a : List (List Nat × List Nat)} {e : Bool} {z : List Nat} (h : Kp172.tag b = some (n, a, e, z)) : n.length + wA a + 1 + z.length ≤ b.length := by
  rw [tag_eq, Option.bind_eq_some_iff] at h
  obtain ⟨x, ex, h⟩ := h
  rw [Option.bind_eq_some_iff] at h
  obtain ⟨y, ey, h⟩ := h
  have l1 := nameAt_len (w := x.1) (q := x.2) ex
  have l2 := attrs_w _ _ y.1 y.2 (Nat.le_refl _) ey
  split at h
  · rename_i r er
    cases h
    have l3 := front_len er
    simp only [List.length_cons, List.length_nil] at l3
    omega
  · rw [Option.map_eq_some_iff] at h
    obtain ⟨r, er, h⟩ := h
    cases h
    have l3 := front_len er
    simp only [List.length_cons, List.length_nil] at l3
    omega
theorem ending_w {b n z : List Nat} (h : Kp172.ending b = some (n, z)) : n.length + 1 + z.length ≤ b.length := by
  rw [ending_eq, Option.bind_eq_some_iff] at h
  obtain ⟨x, ex, h⟩ := h
  rw [Option.map_eq_some_iff] at h
  obtain ⟨r, er, h⟩ := h
  cases h
  have l1 := nameAt_len (w := x.1) (q := x.2) ex
  have l2 := dropWhile_len Kp172.blank x.2
  have l3 := front_len er
  simp only [List.length_cons, List.length_nil] at l3
  omega
theorem name_pos_tag {b n : List Nat} {a : List (List Nat × List Nat)} {e : Bool} {z : List Nat} (h : Kp172.tag b = some (n, a, e, z)) : 1 ≤ n.length := by
  rw [tag_eq, Option.bind_eq_some_iff] at h
  obtain ⟨x, ex, h⟩ := h
  rw [Option.bind_eq_some_iff] at h
  obtain ⟨y, ey, h⟩ := h
  have l0 := (nameAt_some (w := x.1) (q := x.2) ex).2.1
  split at h
  · cases h; exact l0
  · rw [Option.map_eq_some_iff] at h
    obtain ⟨r, er, h⟩ := h
    cases h
    exact l0
theorem write_eq : ∀ (ms : List NM) (s s' : List (List Nat)), runN s ms = some s' → Kp172.write s (ms.map NM.er) = ms.flatMap plN
  | [], s, s', _ => by simp [Kp172.write]
  | .t b :: l, s, s', h => by
    have ih := write_eq l s s' h
    rw [List.map_cons, List.flatMap_cons]
    show Kp172.escaped b ++ Kp172.write s (l.map NM.er) = _
    rw [ih]
    rfl
  | .o n a :: l, s, s', h => by
    have ih := write_eq l (n :: s) s' h
    rw [List.map_cons, List.flatMap_cons]
    show [60] ++ n ++ (a.flatMap fun x => [32] ++ x.1 ++ [61, 34] ++ Kp172.escaped x.2 ++ [34]) ++ [62] ++ Kp172.write (n :: s) (l.map NM.er) = _
    rw [ih]
    rfl
  | .c n :: l, s, s', h => by
    have h : (if s.head? = some n then runN (s.drop 1) l else none) = some s' := h
    by_cases q : s.head? = some n
    · rw [if_pos q] at h
      have ih := write_eq l (s.drop 1) s' h
      rw [List.map_cons, List.flatMap_cons]
      show [60, 47] ++ s.headD [] ++ [62] ++ Kp172.write (s.drop 1) (l.map NM.er) = _
      rw [ih]
      cases s with
      | nil => cases q
      | cons x t =>
        cases q
        rfl
    · rw [if_neg q] at h; cases h
theorem bad_ne {st : List (List Nat)} {d : Nat} {r : List Nat} {v : Int} (h : step st d r = .bad v) : v ≠ 0 := by
  unfold step at h
  split at h
  · split at h
    · cases h; decide
    · cases h
  · split at h
    · split at h
      · cases h; decide
      · split at h
        · cases h
        · cases h; decide
    · split at h
      · cases h; decide
      · split at h
        · cases h; decide
        · split at h
          · cases h; decide
          · split at h <;> cases h
end Pg
end
section
set_option Elab.async false
set_option linter.all false
set_option maxRecDepth 100000
set_option maxHeartbeats 4000000
namespace Pg
open PySem PySem.Spec PyProof.Rows L2
def rf (a : Addr) (i : Nat) (M O : Addr) : List (Str × V) := [("t", .ref a), ("at", .int (i : Int)), ("marks", .ref M), ("open_names", .ref O)]
def dl (H : Hp) (R M O : Addr) : Hp := fun b => if b = R ∨ b = M ∨ b = O then none else H b
section
variable {H H' : Hp} {R M O : Addr}
theorem dl_some {b : Addr} {o : HO} (h : dl H R M O b = some o) : (¬ (b = R ∨ b = M ∨ b = O)) ∧ H b = some o := by
  unfold dl at h
  by_cases e : b = R ∨ b = M ∨ b = O
  · rw [if_pos e] at h; cases h
  · rw [if_neg e] at h; exact ⟨e, h⟩
theorem dl_of {b : Addr} {o : HO} (e : ¬ (b = R ∨ b = M ∨ b = O)) (h : H b = some o) : dl H R M O b = some o := by
  unfold dl; rw [if_neg e]; exact h
theorem dl_same : Same (dl H R M O) H := fun b o h => (dl_some h).2
theorem Same.dl (s : Same H H') : Same (Pg.dl H R M O) (Pg.dl H' R M O) := fun b o h => dl_of (dl_some h).1 (s b o (dl_some h).2)
theorem dl_upd {x : Addr} {o : HO} (e : x = R ∨ x = M ∨ x = O) : dl (upd H x o) R M O = dl H R M O := by
  funext b
  unfold dl
  by_cases q : b = R ∨ b = M ∨ b = O
  · rw [if_pos q, if_pos q]
  · rw [if_neg q, if_neg q, upd_ne (fun z => q (by rw [z]; exact e))]
theorem nw_dl {o1 o2 o3 : HO} (h1 : H R = some o1) (h2 : H M = some o2) (h3 : H O = some o3) : Same (nw H H') (dl H' R M O) := fun b u e => by
  obtain ⟨n, e⟩ := nw_some e
  refine dl_of ?_ e
  rintro (z | z | z) <;> subst z
  · rw [h1] at n; cases n
  · rw [h2] at n; cases n
  · rw [h3] at n; cases n
end
theorem paired_snoc {α β : Type} {F : α → β → Prop} : ∀ {l : List α} {m : List β} {y : β}, Paired F l (m ++ [y]) → ∃ l' x, l = l' ++ [x] ∧ Paired F l' m ∧ F x y
  | l, [], y, h => by
    cases h with
    | cons a b =>
      cases b
      exact ⟨[], _, rfl, .nil, a⟩
  | l, z :: m, y, h => by
    cases h with
    | cons a b =>
      obtain ⟨l', x, rfl, p, q⟩ := paired_snoc b
      exact ⟨_ :: l', x, rfl, .cons a p, q⟩
structure RSt (K : PySem.W.Frag) (c : Cs) (H : Hp) (R dx M O a : Addr) (b : List Nat) (i : Nat) (mp op : List Addr) (ms : List NM) (st : List (List Nat)) : Prop where
  r : H R = some (.ins c.Reading dx (rf a i M O))
  m : H M = some (.lst (mp.map V.ref))
  o : H O = some (.lst (op.map V.ref))
  mo : M ≠ O
  t : Tt K (dl H R M O) a b
  mks : Paired (MarkAt c (dl H R M O)) mp ms
  on : Paired (BytesAt (dl H R M O)) op st.reverse
  cnt : ms.length ≤ 2048
  few : st.length ≤ 32
section
variable {K : PySem.W.Frag} {c : Cs} {H H' : Hp} {R dx M O a : Addr} {b : List Nat} {i : Nat} {mp op : List Addr} {ms : List NM} {st : List (List Nat)}
theorem RSt.same (x : RSt K c H R dx M O a b i mp op ms st) (s : Same H H') : RSt K c H' R dx M O a b i mp op ms st :=
  ⟨s _ _ x.r, s _ _ x.m, s _ _ x.o, x.mo, Same.seq (Same.dl s) x.t, paired_mono x.mks fun _ _ q => q.mono (Same.dl s), paired_mono x.on fun _ _ q => q.mono (Same.dl s), x.cnt, x.few⟩
theorem RSt.tt (x : RSt K c H R dx M O a b i mp op ms st) : Tt K H a b := Same.seq dl_same x.t
theorem RSt.rm (x : RSt K c H R dx M O a b i mp op ms st) : R ≠ M := ne_of x.r x.m (by intro z; cases z)
theorem RSt.ro (x : RSt K c H R dx M O a b i mp op ms st) : R ≠ O := ne_of x.r x.o (by intro z; cases z)
theorem RSt.nw (x : RSt K c H R dx M O a b i mp op ms st) : Same (nw H H') (dl H' R M O) := nw_dl x.r x.m x.o
theorem RSt.at_ (x : RSt K c H R dx M O a b i mp op ms st) (j : Nat) : RSt K c (upd H R (.ins c.Reading dx (rf a j M O))) R dx M O a b j mp op ms st := by
  have e : dl (upd H R (.ins c.Reading dx (rf a j M O))) R M O = dl H R M O := dl_upd (.inl rfl)
  refine ⟨upd_same, (upd_ne x.rm.symm).trans x.m, (upd_ne x.ro.symm).trans x.o, x.mo, ?_, ?_, ?_, x.cnt, x.few⟩
  · rw [e]; exact x.t
  · rw [e]; exact x.mks
  · rw [e]; exact x.on
theorem RSt.add (x : RSt K c H R dx M O a b i mp op ms st) {qs : List Addr} {nm : List NM} (p : Paired (MarkAt c (dl H R M O)) qs nm) (l : ms.length + nm.length ≤ 2048) :
    RSt K c (upd H M (.lst ((mp ++ qs).map V.ref))) R dx M O a b i (mp ++ qs) op (ms ++ nm) st := by
  have e : dl (upd H M (.lst ((mp ++ qs).map V.ref))) R M O = dl H R M O := dl_upd (.inr (.inl rfl))
  refine ⟨(upd_ne x.rm).trans x.r, upd_same, (upd_ne x.mo.symm).trans x.o, x.mo, ?_, ?_, ?_, by rw [List.length_append]; exact l, x.few⟩
  · rw [e]; exact x.t
  · rw [e]; exact paired_app x.mks p
  · rw [e]; exact x.on
theorem RSt.push (x : RSt K c H R dx M O a b i mp op ms st) {l : Addr} {n : List Nat} (p : BytesAt (dl H R M O) l n) (f : st.length < 32) :
    RSt K c (upd H O (.lst ((op ++ [l]).map V.ref))) R dx M O a b i mp (op ++ [l]) ms (n :: st) := by
  have e : dl (upd H O (.lst ((op ++ [l]).map V.ref))) R M O = dl H R M O := dl_upd (.inr (.inr rfl))
  refine ⟨(upd_ne x.ro).trans x.r, (upd_ne x.mo).trans x.m, upd_same, x.mo, ?_, ?_, ?_, x.cnt, by rw [List.length_cons]; omega⟩
  · rw [e]; exact x.t
  · rw [e]; exact x.mks
  · rw [e, List.reverse_cons]; exact paired_app x.on (.cons p .nil)
theorem RSt.pop {l : Addr} {n : List Nat} (x : RSt K c H R dx M O a b i mp (op ++ [l]) ms (n :: st)) :
    RSt K c (upd H O (.lst (op.map V.ref))) R dx M O a b i mp op ms st := by
  have e : dl (upd H O (.lst (op.map V.ref))) R M O = dl H R M O := dl_upd (.inr (.inr rfl))
  have q := x.on
  rw [List.reverse_cons] at q
  obtain ⟨l', y, e1, p1, p2⟩ := paired_snoc q
  obtain ⟨e2, e3⟩ := List.append_inj' e1 rfl
  have f := x.few
  rw [List.length_cons] at f
  refine ⟨(upd_ne x.ro).trans x.r, (upd_ne x.mo).trans x.m, upd_same, x.mo, ?_, ?_, ?_, x.cnt, by omega⟩
  · rw [e]; exact x.t
  · rw [e]; exact x.mks
  · rw [e, e2]; exact p1
end
def Bad (st : List (List Nat)) (d : Nat) (r : List Nat) (k : Nat) (v : Int) : Prop := step st d r = .bad v ∨ ∃ l s q, step st d r = .more l s q ∧ 2048 < k + l.length ∧ v = -28
theorem Bad.ne {st : List (List Nat)} {d : Nat} {r : List Nat} {k : Nat} {v : Int} (h : Bad st d r k v) : v ≠ 0 := by
  rcases h with h | ⟨_, _, _, _, _, rfl⟩
  · exact bad_ne h
  · decide
def spTake (K : PySem.W.Frag) (c : Cs) (pre : Nat → List Nat → Prop) : Sp := fun vs H Q _ => ∃ (R dx M O a : Addr) (b : List Nat) (i : Nat) (mp op : List Addr) (ms : List NM) (st : List (List Nat)) (d : Nat) (r : List Nat),
  vs = [.ref R] ∧ RSt K c H R dx M O a b i mp op ms st ∧ b.drop i = d :: r ∧ b.length ≤ 16384 ∧ pre d r ∧
  (∀ v H', Bad st d r ms.length v → H' R = some (.ins c.Reading dx (rf a i M O)) → Q (.int v) H') ∧
  ∀ nm s j H' mp' op', step st d r = .more (nm.map NM.er) s (b.drop j) → ms.length + nm.length ≤ 2048 → i ≤ j → j ≤ b.length → runN st nm = some s → wN nm ≤ 6 * (j - i) → RSt K c H' R dx M O a b j mp' op' (ms ++ nm) s → Same (dl H R M O) (dl H' R M O) → Q (.int 0) H'
end Pg
end
section
set_option Elab.async false
set_option linter.all false
set_option maxRecDepth 100000
set_option maxHeartbeats 4000000
namespace Pg
open PySem PySem.Spec PyProof.Rows L2
theorem nats_ib (b : List Nat) : Kp172Neutral.nats (ib b) = b := by
  unfold Kp172Neutral.nats ib
  rw [List.map_map]
  conv => rhs; rw [← List.map_id b]
  rfl
theorem ib_nats : ∀ {ns : List Int}, (∀ x ∈ ns, 0 ≤ x) → ib (Kp172Neutral.nats ns) = ns
  | [], _ => rfl
  | x :: l, h => by
    have h1 := h x (List.mem_cons_self ..)
    have h2 := ib_nats (ns := l) fun y hy => h y (List.mem_cons_of_mem _ hy)
    show ((x.toNat : Nat) : Int) :: ib (Kp172Neutral.nats l) = x :: l
    rw [h2, Int.toNat_of_nonneg h1]
theorem ib_len (b : List Nat) : (ib b).length = b.length := List.length_map ..
theorem vb_ib (b : List Nat) : vb b = (ib b).map V.int := (vi_ib b).symm
theorem readO_ib (b : List Nat) : Kp172.readO (if (ib b).length ≤ 16384 then some (Kp172Neutral.nats (ib b)) else none) = Kp172.read b := by
  rw [ib_len, nats_ib]
  by_cases h : b.length ≤ 16384
  · rw [if_pos h]; rfl
  · rw [if_neg h, read_eq, if_pos (by show 16384 < b.length; omega)]; rfl
def wrB (b : List Nat) : List Int := (b.length : Int) :: ib b
theorem wrB_eq : ∀ b : List Nat, Kp172Neutral.wrKp172_Bytes b = wrB b := fun b => by
  show (b.length : Int) :: b.flatMap Kp172Neutral.wrNat = _
  unfold wrB
  congr 1
  induction b with
  | nil => rfl
  | cons x l ih =>
    rw [List.flatMap_cons, ih]
    rfl
theorem ans_plain (b : List Nat) : PyKp172.pg_plain (ib b) = match Kp172.read b with
    | .inl x => [0, x.1]
    | .inr m => 6 :: wrB (Kp172.plain m) := by
  show Kp172Neutral.wrKp172_Ans (match Kp172.readO (if (ib b).length ≤ 16384 then some (Kp172Neutral.nats (ib b)) else none) with
    | .inl x => .num x.1
    | .inr m => .page (Kp172.plain m)) = _
  rw [readO_ib]
  cases Kp172.read b with
  | inl x => rfl
  | inr m =>
    show [6] ++ Kp172Neutral.wrKp172_Bytes (Kp172.plain m) = _
    rw [wrB_eq]
    rfl
end Pg
end
section
set_option Elab.async false
set_option linter.all false
set_option maxRecDepth 100000
set_option maxHeartbeats 4000000
namespace Pg
open PySem PySem.Spec PyProof.Rows L2
theorem pe_alt {X : Cx} {e : Expr} {t u : TE} (h1 : PE X e t) (h2 : PE X e u) : PE X e (fun σ H Q => t σ H Q ∨ u σ H Q) := by
  intro pins s σ H Q I h
  rcases h with h | h
  · exact h1 pins s σ H Q I h
  · exact h2 pins s σ H Q I h
theorem wN_mem : ∀ {l : List NM} {m : NM}, m ∈ l → (plN m).length ≤ wN l
  | [], m, h => absurd h (by simp)
  | y :: l, m, h => by
    have e : wN (y :: l) = (plN y).length + wN l := by unfold wN; rw [List.flatMap_cons, List.length_append]
    rw [e]
    rcases List.mem_cons.mp h with rfl | q
    · omega
    · have := wN_mem q
      omega
theorem wrB_len (b : List Nat) : (wrB b).length = b.length + 1 := by unfold wrB; rw [List.length_cons, ib_len]
theorem vwrB (b : List Nat) : (wrB b).map V.int = .int (b.length : Int) :: vb b := by
  unfold wrB
  rw [List.map_cons, ← vb_ib]
end Pg
end
section
set_option Elab.async false
set_option linter.all false
set_option maxRecDepth 100000
set_option maxHeartbeats 4000000
namespace Pg
open PySem PySem.Spec PyProof.Rows L2
def refOf (d : Nat) : Option Str := if d = 60 then some "&lt;" else if d = 62 then some "&gt;" else if d = 38 then some "&amp;" else if d = 34 then some "&quot;" else none
theorem refs_val (d : Nat) : valV refsK (Sum.inl (d : Int)) = (refOf d).map V.str := by
  unfold refOf
  by_cases h1 : d = 60
  · subst h1; rfl
  · by_cases h2 : d = 62
    · subst h2; rfl
    · by_cases h3 : d = 38
      · subst h3; rfl
      · by_cases h4 : d = 34
        · subst h4; rfl
        · rw [if_neg h1, if_neg h2, if_neg h3, if_neg h4]
          have n : ∀ (z : Int), z ≠ (d : Int) → decide ((Sum.inl z : Key) = Sum.inl (d : Int)) = false := fun z hz => decide_eq_false fun q => hz (Sum.inl.inj q)
          show Option.map _ (List.find? _ [(Sum.inl 60, V.str "&lt;"), (Sum.inl 62, V.str "&gt;"), (Sum.inl 38, V.str "&amp;"), (Sum.inl 34, V.str "&quot;")]) = none
          simp only [List.find?_cons]
          rw [n 60 (by omega), n 62 (by omega), n 38 (by omega), n 34 (by omega)]
          rfl
theorem esc_cons (d : Nat) (r : List Nat) : Kp172.escaped (d :: r) = (match refOf d with | some x => x.cps.toList | none => [d]) ++ Kp172.escaped r := by
  have e : Kp172.escaped (d :: r) = (if d = 60 then Kp172.bytesOf "&lt;" else if d = 62 then Kp172.bytesOf "&gt;" else if d = 38 then Kp172.bytesOf "&amp;" else if d = 34 then Kp172.bytesOf "&quot;" else [d]) ++ Kp172.escaped r := rfl
  rw [e]
  congr 1
  unfold refOf
  by_cases h1 : d = 60
  · subst h1; decide
  · by_cases h2 : d = 62
    · subst h2; decide
    · by_cases h3 : d = 38
      · subst h3; decide
      · by_cases h4 : d = 34
        · subst h4; decide
        · rw [if_neg h1, if_neg h2, if_neg h3, if_neg h4, if_neg h1, if_neg h2, if_neg h3, if_neg h4]
theorem esc_app : ∀ a b : List Nat, Kp172.escaped (a ++ b) = Kp172.escaped a ++ Kp172.escaped b := fun a b => by
  unfold Kp172.escaped
  rw [List.flatMap_append]
theorem esc_one (d : Nat) : Kp172.escaped [d] = (match refOf d with | some x => x.cps.toList | none => [d]) := by
  rw [esc_cons]
  show _ ++ [] = _
  rw [List.append_nil]
theorem esc_take (b : List Nat) (i : Nat) : (Kp172.escaped (b.take i)).length ≤ (Kp172.escaped b).length := by
  have e := esc_app (b.take i) (b.drop i)
  rw [List.take_append_drop] at e
  rw [e, List.length_append]
  omega
theorem refOf_len {d : Nat} {x : Str} (h : refOf d = some x) : x.length < 1000 ∧ x.cps.toList.length ≤ 6 := by
  unfold refOf at h
  split at h
  · cases h; decide
  · split at h
    · cases h; decide
    · split at h
      · cases h; decide
      · split at h
        · cases h; decide
        · cases h
theorem plA_take (as : List (List Nat × List Nat)) (i : Nat) : ((as.take i).flatMap plA).length ≤ (as.flatMap plA).length := by
  have e : as.flatMap plA = (as.take i).flatMap plA ++ (as.drop i).flatMap plA := by rw [← List.flatMap_append, List.take_append_drop]
  rw [e, List.length_append]
  omega
theorem plA_mem : ∀ {a : List (List Nat × List Nat)} {x : List Nat × List Nat}, x ∈ a → (plA x).length ≤ (a.flatMap plA).length
  | [], x, h => absurd h (by simp)
  | y :: l, x, h => by
    rw [List.flatMap_cons, List.length_append]
    rcases List.mem_cons.mp h with rfl | m
    · omega
    · have := plA_mem m
      omega
theorem plN_take (ms : List NM) (i : Nat) : ((ms.take i).flatMap plN).length ≤ wN ms := by
  unfold wN
  have e : ms.flatMap plN = (ms.take i).flatMap plN ++ (ms.drop i).flatMap plN := by rw [← List.flatMap_append, List.take_append_drop]
  rw [e, List.length_append]
  omega
end Pg
end
section
set_option Elab.async false
set_option linter.all false
set_option maxRecDepth 100000
set_option maxHeartbeats 4000000
namespace Pg
open PySem PySem.Spec PyProof.Rows L2
def top (i : Nat) : Stmt := PySem.Challenge.pw_strictpage_s04_pg_plain.main.body.getD i (.Pass ⟨0, 0, 0, 0⟩)
abbrev Gc (mg : Str → Option Value) (x : Str) (v : V) : Prop := ∃ u, mg x = some u ∧ RelV v u
abbrev Fc (K : PySem.W.Frag) (mg : Str → Option Value) (x : Str) (st : Stmt) : Prop := ∃ (f : Addr) (fd : FuncData), mg x = some (.ref f) ∧ Fun K x x st f fd
abbrev Ic (K : PySem.W.Frag) (C : Addr) (q : Str) (st : Stmt) : Prop := ∃ (f : Addr) (fd : FuncData), Mk K C f ∧ Fun K "__init__" q st f fd
abbrev Mc (K : PySem.W.Frag) (C : Addr) (m q : Str) (st : Stmt) : Prop := ∃ (f : Addr) (fd : FuncData), Meth K C m f ∧ Fun K m q st f fd
abbrev s_with_count : Stmt := top 27
theorem sc_with_count : FnScope ["row"] ["row"] (defScope s_with_count) := ⟨rfl, rfl, rfl, by decide +kernel, rfl, by decide +kernel, by decide +kernel⟩
abbrev s_signs : Stmt := top 28
theorem sc_signs : FnScope ["word", "sign"] ["word"] (defScope s_signs) := ⟨rfl, rfl, rfl, by decide +kernel, rfl, by decide +kernel, by decide +kernel⟩
abbrev s_plain_characters : Stmt := top 29
theorem sc_plain_characters : FnScope ["content", "row", "byte"] ["content"] (defScope s_plain_characters) := ⟨rfl, rfl, rfl, by decide +kernel, rfl, by decide +kernel, by decide +kernel⟩
abbrev s_Attribute___init__ : Stmt := inClass (top 30) 0
theorem sc_Attribute___init__ : FnScope ["self", "name", "value"] ["self", "name", "value"] (defScope s_Attribute___init__) := ⟨rfl, rfl, rfl, by decide +kernel, rfl, by decide +kernel, by decide +kernel⟩
abbrev s_Attribute_plain : Stmt := inClass (top 30) 2
theorem sc_Attribute_plain : FnScope ["self"] ["self"] (defScope s_Attribute_plain) := ⟨rfl, rfl, rfl, by decide +kernel, rfl, by decide +kernel, by decide +kernel⟩
abbrev s_Opening___init__ : Stmt := inClass (top 31) 0
theorem sc_Opening___init__ : FnScope ["self", "name", "attributes"] ["self", "name", "attributes"] (defScope s_Opening___init__) := ⟨rfl, rfl, rfl, by decide +kernel, rfl, by decide +kernel, by decide +kernel⟩
abbrev s_Opening_has_same_names : Stmt := inClass (top 31) 1
theorem sc_Opening_has_same_names : FnScope ["self", "names", "attribute"] ["self"] (defScope s_Opening_has_same_names) := ⟨rfl, rfl, rfl, by decide +kernel, rfl, by decide +kernel, by decide +kernel⟩
abbrev s_Opening_plain : Stmt := inClass (top 31) 3
theorem sc_Opening_plain : FnScope ["self", "row", "attribute"] ["self"] (defScope s_Opening_plain) := ⟨rfl, rfl, rfl, by decide +kernel, rfl, by decide +kernel, by decide +kernel⟩
abbrev s_Closing___init__ : Stmt := inClass (top 32) 0
theorem sc_Closing___init__ : FnScope ["self", "name"] ["self", "name"] (defScope s_Closing___init__) := ⟨rfl, rfl, rfl, by decide +kernel, rfl, by decide +kernel, by decide +kernel⟩
abbrev s_Closing_plain : Stmt := inClass (top 32) 2
theorem sc_Closing_plain : FnScope ["self"] ["self"] (defScope s_Closing_plain) := ⟨rfl, rfl, rfl, by decide +kernel, rfl, by decide +kernel, by decide +kernel⟩
abbrev s_Text___init__ : Stmt := inClass (top 33) 0
theorem sc_Text___init__ : FnScope ["self", "content"] ["self", "content"] (defScope s_Text___init__) := ⟨rfl, rfl, rfl, by decide +kernel, rfl, by decide +kernel, by decide +kernel⟩
abbrev s_Text_plain : Stmt := inClass (top 33) 2
theorem sc_Text_plain : FnScope ["self"] ["self"] (defScope s_Text_plain) := ⟨rfl, rfl, rfl, by decide +kernel, rfl, by decide +kernel, by decide +kernel⟩
abbrev s_stands_at : Stmt := top 34
theorem sc_stands_at : FnScope ["t", "at", "word"] ["t", "at", "word"] (defScope s_stands_at) := ⟨rfl, rfl, rfl, by decide +kernel, rfl, by decide +kernel, by decide +kernel⟩
abbrev s_may_be_in_page : Stmt := top 35
theorem sc_may_be_in_page : FnScope ["number"] ["number"] (defScope s_may_be_in_page) := ⟨rfl, rfl, rfl, by decide +kernel, rfl, by decide +kernel, by decide +kernel⟩
abbrev s_is_blank : Stmt := top 36
theorem sc_is_blank : FnScope ["byte"] ["byte"] (defScope s_is_blank) := ⟨rfl, rfl, rfl, by decide +kernel, rfl, by decide +kernel, by decide +kernel⟩
abbrev s_is_digit : Stmt := top 37
theorem sc_is_digit : FnScope ["byte"] ["byte"] (defScope s_is_digit) := ⟨rfl, rfl, rfl, by decide +kernel, rfl, by decide +kernel, by decide +kernel⟩
abbrev s_is_small_letter : Stmt := top 38
theorem sc_is_small_letter : FnScope ["byte"] ["byte"] (defScope s_is_small_letter) := ⟨rfl, rfl, rfl, by decide +kernel, rfl, by decide +kernel, by decide +kernel⟩
abbrev s_is_in_name : Stmt := top 39
theorem sc_is_in_name : FnScope ["byte"] ["byte"] (defScope s_is_in_name) := ⟨rfl, rfl, rfl, by decide +kernel, rfl, by decide +kernel, by decide +kernel⟩
abbrev s_end_of_blanks : Stmt := top 40
theorem sc_end_of_blanks : FnScope ["t", "at"] ["t", "at"] (defScope s_end_of_blanks) := ⟨rfl, rfl, rfl, by decide +kernel, rfl, by decide +kernel, by decide +kernel⟩
abbrev s_Piece___init__ : Stmt := inClass (top 41) 0
theorem sc_Piece___init__ : FnScope ["self", "content", "end"] ["self", "content", "end"] (defScope s_Piece___init__) := ⟨rfl, rfl, rfl, by decide +kernel, rfl, by decide +kernel, by decide +kernel⟩
abbrev s_read_name : Stmt := top 42
theorem sc_read_name : FnScope ["t", "at", "end"] ["t", "at"] (defScope s_read_name) := ⟨rfl, rfl, rfl, by decide +kernel, rfl, by decide +kernel, by decide +kernel⟩
abbrev s_read_number_reference : Stmt := top 43
theorem sc_read_number_reference : FnScope ["t", "at", "digits_at", "number", "end"] ["t", "at"] (defScope s_read_number_reference) := ⟨rfl, rfl, rfl, by decide +kernel, rfl, by decide +kernel, by decide +kernel⟩
abbrev s_read_reference : Stmt := top 44
theorem sc_read_reference : FnScope ["t", "at", "byte", "word"] ["t", "at"] (defScope s_read_reference) := ⟨rfl, rfl, rfl, by decide +kernel, rfl, by decide +kernel, by decide +kernel⟩
abbrev s_read_character : Stmt := top 45
theorem sc_read_character : FnScope ["t", "at"] ["t", "at"] (defScope s_read_character) := ⟨rfl, rfl, rfl, by decide +kernel, rfl, by decide +kernel, by decide +kernel⟩
abbrev s_read_characters : Stmt := top 46
theorem sc_read_characters : FnScope ["t", "at", "stop", "content", "character"] ["t", "at", "stop"] (defScope s_read_characters) := ⟨rfl, rfl, rfl, by decide +kernel, rfl, by decide +kernel, by decide +kernel⟩
abbrev s_read_value : Stmt := top 47
theorem sc_read_value : FnScope ["t", "at", "value"] ["t", "at"] (defScope s_read_value) := ⟨rfl, rfl, rfl, by decide +kernel, rfl, by decide +kernel, by decide +kernel⟩
abbrev s_attribute_begins : Stmt := top 48
theorem sc_attribute_begins : FnScope ["t", "at", "name_at"] ["t", "at"] (defScope s_attribute_begins) := ⟨rfl, rfl, rfl, by decide +kernel, rfl, by decide +kernel, by decide +kernel⟩
abbrev s_read_attribute : Stmt := top 49
theorem sc_read_attribute : FnScope ["t", "at", "name", "value"] ["t", "at"] (defScope s_read_attribute) := ⟨rfl, rfl, rfl, by decide +kernel, rfl, by decide +kernel, by decide +kernel⟩
abbrev s_read_attributes : Stmt := top 50
theorem sc_read_attributes : FnScope ["t", "at", "attributes", "attribute"] ["t", "at"] (defScope s_read_attributes) := ⟨rfl, rfl, rfl, by decide +kernel, rfl, by decide +kernel, by decide +kernel⟩
abbrev s_Beginning___init__ : Stmt := inClass (top 51) 0
theorem sc_Beginning___init__ : FnScope ["self", "opening", "closed", "end"] ["self", "opening", "closed", "end"] (defScope s_Beginning___init__) := ⟨rfl, rfl, rfl, by decide +kernel, rfl, by decide +kernel, by decide +kernel⟩
abbrev s_read_beginning : Stmt := top 52
theorem sc_read_beginning : FnScope ["t", "at", "name", "attributes", "opening", "end"] ["t", "at"] (defScope s_read_beginning) := ⟨rfl, rfl, rfl, by decide +kernel, rfl, by decide +kernel, by decide +kernel⟩
abbrev s_read_end : Stmt := top 53
theorem sc_read_end : FnScope ["t", "at", "name", "end"] ["t", "at"] (defScope s_read_end) := ⟨rfl, rfl, rfl, by decide +kernel, rfl, by decide +kernel, by decide +kernel⟩
abbrev s_Reading___init__ : Stmt := inClass (top 54) 0
theorem sc_Reading___init__ : FnScope ["self", "t"] ["self", "t"] (defScope s_Reading___init__) := ⟨rfl, rfl, rfl, by decide +kernel, rfl, by decide +kernel, by decide +kernel⟩
abbrev s_Reading_take_marks : Stmt := inClass (top 54) 1
theorem sc_Reading_take_marks : FnScope ["self", "marks", "end"] ["self", "marks", "end"] (defScope s_Reading_take_marks) := ⟨rfl, rfl, rfl, by decide +kernel, rfl, by decide +kernel, by decide +kernel⟩
abbrev s_Reading_take_text : Stmt := inClass (top 54) 2
theorem sc_Reading_take_text : FnScope ["self", "text"] ["self"] (defScope s_Reading_take_text) := ⟨rfl, rfl, rfl, by decide +kernel, rfl, by decide +kernel, by decide +kernel⟩
abbrev s_Reading_take_beginning : Stmt := inClass (top 54) 3
theorem sc_Reading_take_beginning : FnScope ["self", "beginning", "opening"] ["self"] (defScope s_Reading_take_beginning) := ⟨rfl, rfl, rfl, by decide +kernel, rfl, by decide +kernel, by decide +kernel⟩
abbrev s_Reading_take_end : Stmt := inClass (top 54) 4
theorem sc_Reading_take_end : FnScope ["self", "end", "closing"] ["self"] (defScope s_Reading_take_end) := ⟨rfl, rfl, rfl, by decide +kernel, rfl, by decide +kernel, by decide +kernel⟩
abbrev s_Reading_take_next : Stmt := inClass (top 54) 5
theorem sc_Reading_take_next : FnScope ["self"] ["self"] (defScope s_Reading_take_next) := ⟨rfl, rfl, rfl, by decide +kernel, rfl, by decide +kernel, by decide +kernel⟩
abbrev s_Reading_take_page : Stmt := inClass (top 54) 6
theorem sc_Reading_take_page : FnScope ["self", "refusal"] ["self"] (defScope s_Reading_take_page) := ⟨rfl, rfl, rfl, by decide +kernel, rfl, by decide +kernel, by decide +kernel⟩
abbrev s_pg_plain : Stmt := top 55
theorem sc_pg_plain : FnScope ["t", "reading", "refusal", "page", "mark"] ["t"] (defScope s_pg_plain) := ⟨rfl, rfl, rfl, by decide +kernel, rfl, by decide +kernel, by decide +kernel⟩
structure Txt (K : PySem.W.Frag) (mg : Str → Option Value) (c : Cs) : Prop where
  n_len : mg "len" = none
  n_tuple : mg "tuple" = none
  n_ord : mg "ord" = none
  n_set : mg "set" = none
  /- constants -/
  g_MOST_BYTES : Gc mg "MOST_BYTES" (.int 16384)
  g_MOST_MARKS : Gc mg "MOST_MARKS" (.int 2048)
  g_MOST_ATTRIBUTES : Gc mg "MOST_ATTRIBUTES" (.int 8)
  g_MOST_DEPTH : Gc mg "MOST_DEPTH" (.int 32)
  g_MOST_NAME_BYTES : Gc mg "MOST_NAME_BYTES" (.int 16)
  g_MOST_DIGITS : Gc mg "MOST_DIGITS" (.int 3)
  g_NUMBER_ALONE : Gc mg "NUMBER_ALONE" (.int 0)
  g_PAGE_FORM : Gc mg "PAGE_FORM" (.int 6)
  g_NO_REFUSAL : Gc mg "NO_REFUSAL" (.int 0)
  g_SAME_NAME : Gc mg "SAME_NAME" (.int (-22))
  g_TOO_MUCH : Gc mg "TOO_MUCH" (.int (-28))
  g_NO_MARK : Gc mg "NO_MARK" (.int (-71))
  g_NEWLINE : Gc mg "NEWLINE" (.int 10)
  g_SPACE : Gc mg "SPACE" (.int 32)
  g_QUOTE : Gc mg "QUOTE" (.int 34)
  g_AMPERSAND : Gc mg "AMPERSAND" (.int 38)
  g_HYPHEN : Gc mg "HYPHEN" (.int 45)
  g_DIGIT_0 : Gc mg "DIGIT_0" (.int 48)
  g_DIGIT_9 : Gc mg "DIGIT_9" (.int 57)
  g_LESS_THAN : Gc mg "LESS_THAN" (.int 60)
  g_SMALL_A : Gc mg "SMALL_A" (.int 97)
  g_SMALL_Z : Gc mg "SMALL_Z" (.int 122)
  g_LAST_BYTE : Gc mg "LAST_BYTE" (.int 255)
  g_NAMED_REFERENCES : ∃ a, mg "NAMED_REFERENCES" = some (.ref a) ∧ KD K a refsK
  g_NUMBER_REFERENCE : Gc mg "NUMBER_REFERENCE" (.str "&#")
  f_with_count : Fc K mg "with_count" s_with_count
  f_signs : Fc K mg "signs" s_signs
  f_plain_characters : Fc K mg "plain_characters" s_plain_characters
  f_stands_at : Fc K mg "stands_at" s_stands_at
  f_may_be_in_page : Fc K mg "may_be_in_page" s_may_be_in_page
  f_is_blank : Fc K mg "is_blank" s_is_blank
  f_is_digit : Fc K mg "is_digit" s_is_digit
  f_is_small_letter : Fc K mg "is_small_letter" s_is_small_letter
  f_is_in_name : Fc K mg "is_in_name" s_is_in_name
  f_end_of_blanks : Fc K mg "end_of_blanks" s_end_of_blanks
  f_read_name : Fc K mg "read_name" s_read_name
  f_read_number_reference : Fc K mg "read_number_reference" s_read_number_reference
  f_read_reference : Fc K mg "read_reference" s_read_reference
  f_read_character : Fc K mg "read_character" s_read_character
  f_read_characters : Fc K mg "read_characters" s_read_characters
  f_read_value : Fc K mg "read_value" s_read_value
  f_attribute_begins : Fc K mg "attribute_begins" s_attribute_begins
  f_read_attribute : Fc K mg "read_attribute" s_read_attribute
  f_read_attributes : Fc K mg "read_attributes" s_read_attributes
  f_read_beginning : Fc K mg "read_beginning" s_read_beginning
  f_read_end : Fc K mg "read_end" s_read_end
  f_pg_plain : Fc K mg "pg_plain" s_pg_plain
  k_Attribute : mg "Attribute" = some (.ref c.Attribute)
  cl_Attribute : Cls K c.Attribute
  no_Attribute_name : NoAttr K c.Attribute "name"
  no_Attribute_value : NoAttr K c.Attribute "value"
  i_Attribute : Ic K c.Attribute "Attribute.__init__" s_Attribute___init__
  m_Attribute_plain : Mc K c.Attribute "plain" "Attribute.plain" s_Attribute_plain
  k_Opening : mg "Opening" = some (.ref c.Opening)
  cl_Opening : Cls K c.Opening
  no_Opening_name : NoAttr K c.Opening "name"
  no_Opening_attributes : NoAttr K c.Opening "attributes"
  i_Opening : Ic K c.Opening "Opening.__init__" s_Opening___init__
  m_Opening_has_same_names : Mc K c.Opening "has_same_names" "Opening.has_same_names" s_Opening_has_same_names
  m_Opening_plain : Mc K c.Opening "plain" "Opening.plain" s_Opening_plain
  k_Closing : mg "Closing" = some (.ref c.Closing)
  cl_Closing : Cls K c.Closing
  no_Closing_name : NoAttr K c.Closing "name"
  i_Closing : Ic K c.Closing "Closing.__init__" s_Closing___init__
  m_Closing_plain : Mc K c.Closing "plain" "Closing.plain" s_Closing_plain
  k_Text : mg "Text" = some (.ref c.Text)
  cl_Text : Cls K c.Text
  no_Text_content : NoAttr K c.Text "content"
  i_Text : Ic K c.Text "Text.__init__" s_Text___init__
  m_Text_plain : Mc K c.Text "plain" "Text.plain" s_Text_plain
  k_Piece : mg "Piece" = some (.ref c.Piece)
  cl_Piece : Cls K c.Piece
  no_Piece_content : NoAttr K c.Piece "content"
  no_Piece_end : NoAttr K c.Piece "end"
  i_Piece : Ic K c.Piece "Piece.__init__" s_Piece___init__
  k_Beginning : mg "Beginning" = some (.ref c.Beginning)
  cl_Beginning : Cls K c.Beginning
  no_Beginning_opening : NoAttr K c.Beginning "opening"
  no_Beginning_closed : NoAttr K c.Beginning "closed"
  no_Beginning_end : NoAttr K c.Beginning "end"
  i_Beginning : Ic K c.Beginning "Beginning.__init__" s_Beginning___init__
  k_Reading : mg "Reading" = some (.ref c.Reading)
  cl_Reading : Cls K c.Reading
  no_Reading_t : NoAttr K c.Reading "t"
  no_Reading_at : NoAttr K c.Reading "at"
  no_Reading_marks : NoAttr K c.Reading "marks"
  no_Reading_open_names : NoAttr K c.Reading "open_names"
  i_Reading : Ic K c.Reading "Reading.__init__" s_Reading___init__
  m_Reading_take_marks : Mc K c.Reading "take_marks" "Reading.take_marks" s_Reading_take_marks
  m_Reading_take_text : Mc K c.Reading "take_text" "Reading.take_text" s_Reading_take_text
  m_Reading_take_beginning : Mc K c.Reading "take_beginning" "Reading.take_beginning" s_Reading_take_beginning
  m_Reading_take_end : Mc K c.Reading "take_end" "Reading.take_end" s_Reading_take_end
  m_Reading_take_next : Mc K c.Reading "take_next" "Reading.take_next" s_Reading_take_next
  m_Reading_take_page : Mc K c.Reading "take_page" "Reading.take_page" s_Reading_take_page
end Pg
end
section
set_option Elab.async false
set_option linter.all false
set_option maxRecDepth 100000
set_option maxHeartbeats 4000000
namespace Pg
open PySem PySem.Spec PyProof.Rows L2
section
variable {P : Program} {w : World} {K : PySem.W.Frag} {mg : Str → Option Value} {base : Heap} {c : Cs}
def spB (g : Nat → Bool) : Sp := fun vs H Q _ => ∃ c : Nat, vs = [.int (c : Int)] ∧ Q (.bl (g c)) H
theorem dec_v {c : Nat} (n : Nat) (z : Int) (e : z = (n : Int)) : decide (V.int (c : Int) = V.int z) = (c == n) := by
  subst e
  by_cases h : c = n
  · subst h; simp
  · have h2 : ¬ V.int (c : Int) = V.int (n : Int) := fun z => h (by have := V.int.inj z; omega)
    rw [decide_eq_false h2]; simp [h]
theorem qb {Q : VK} {H : Hp} {a b : Bool} (k : Q (.bl a) H) (e : a = b) : Q (.bl b) H := e ▸ k
theorem cal_is_blank (T : Txt K mg c) : Cal P w K mg base "is_blank" 1 (spB Kp172.blank) := by
  obtain ⟨f, fd, hm, F⟩ := T.f_is_blank
  refine ⟨f, fd, ["byte"], hm, F.kp, F.binds fun _ _ _ _ _ _ us hl => match us, hl with | [_], _ => rfl, ?_⟩
  refine F.ok sc_is_blank (fun vs H Q E h => ?_) (fun cdv A outer s H vs Q E hr h => ?_)
  · obtain ⟨z, rfl, _⟩ := h
    rfl
  · obtain ⟨z, rfl, k⟩ := h
    refine ⟨_, (pss_one (ps_ret (pe_or (pe_cmpR op_eq (pv 0) (pe_gc T.g_SPACE) (nomark _)) (pe_one (pe_cmpR op_eq (pv 0) (pe_gc T.g_NEWLINE) (nomark _)))))), ?_⟩
    refine ⟨_, rfl, rfl, _, rfl, ?_⟩
    refine ite2 (fun h => ?_) (fun h => ⟨_, rfl, rfl, ?_⟩)
    · rw [dec_v 32 32 rfl] at h
      exact qb k (by unfold Kp172.blank; rw [h]; rfl)
    · rw [dec_v 32 32 rfl] at h
      exact qb k (by rw [dec_v 10 10 rfl]; unfold Kp172.blank; rw [Bool.eq_false_iff.mpr h]; rfl)
theorem cal_is_digit (T : Txt K mg c) : Cal P w K mg base "is_digit" 1 (spB Kp172.digit) := by
  obtain ⟨f, fd, hm, F⟩ := T.f_is_digit
  refine ⟨f, fd, ["byte"], hm, F.kp, F.binds fun _ _ _ _ _ _ us hl => match us, hl with | [_], _ => rfl, ?_⟩
  refine F.ok sc_is_digit (fun vs H Q E h => ?_) (fun cdv A outer s H vs Q E hr h => ?_)
  · obtain ⟨z, rfl, _⟩ := h
    rfl
  · obtain ⟨z, rfl, k⟩ := h
    refine ⟨_, (pss_one (ps_ret (pe_chain op_le op_le (pe_gc T.g_DIGIT_0) (pv 0) (pe_gc T.g_DIGIT_9)))), ?_⟩
    refine ⟨_, rfl, _, _, rfl, rfl, _, rfl, ?_⟩
    refine ite2 (fun h => ⟨_, _, rfl, rfl, ?_⟩) (fun h => ?_)
    · have h := of_decide_eq_true h
      exact qb k (by unfold Kp172.digit; rw [decide_eq_true (show 48 ≤ z by omega), Bool.true_and]; exact decide_eq_decide.mpr (by omega))
    · exact qb k (by unfold Kp172.digit; rw [decide_eq_false (show ¬ 48 ≤ z from fun z => h (decide_eq_true (by omega)))]; rfl)
theorem cal_is_small_letter (T : Txt K mg c) : Cal P w K mg base "is_small_letter" 1 (spB Kp172.small) := by
  obtain ⟨f, fd, hm, F⟩ := T.f_is_small_letter
  refine ⟨f, fd, ["byte"], hm, F.kp, F.binds fun _ _ _ _ _ _ us hl => match us, hl with | [_], _ => rfl, ?_⟩
  refine F.ok sc_is_small_letter (fun vs H Q E h => ?_) (fun cdv A outer s H vs Q E hr h => ?_)
  · obtain ⟨z, rfl, _⟩ := h
    rfl
  · obtain ⟨z, rfl, k⟩ := h
    refine ⟨_, (pss_one (ps_ret (pe_chain op_le op_le (pe_gc T.g_SMALL_A) (pv 0) (pe_gc T.g_SMALL_Z)))), ?_⟩
    refine ⟨_, rfl, _, _, rfl, rfl, _, rfl, ?_⟩
    refine ite2 (fun h => ⟨_, _, rfl, rfl, ?_⟩) (fun h => ?_)
    · have h := of_decide_eq_true h
      exact qb k (by unfold Kp172.small; rw [decide_eq_true (show 97 ≤ z by omega), Bool.true_and]; exact decide_eq_decide.mpr (by omega))
    · exact qb k (by unfold Kp172.small; rw [decide_eq_false (show ¬ 97 ≤ z from fun z => h (decide_eq_true (by omega)))]; rfl)
theorem cal_may_be_in_page (T : Txt K mg c) : Cal P w K mg base "may_be_in_page" 1 (spB Kp172.okByte) := by
  obtain ⟨f, fd, hm, F⟩ := T.f_may_be_in_page
  refine ⟨f, fd, ["number"], hm, F.kp, F.binds fun _ _ _ _ _ _ us hl => match us, hl with | [_], _ => rfl, ?_⟩
  refine F.ok sc_may_be_in_page (fun vs H Q E h => ?_) (fun cdv A outer s H vs Q E hr h => ?_)
  · obtain ⟨z, rfl, _⟩ := h
    rfl
  · obtain ⟨z, rfl, k⟩ := h
    refine ⟨_, (pss_one (ps_ret (pe_or (pe_cmpR op_eq (pv 0) (pe_gc T.g_NEWLINE) (nomark _)) (pe_one (pe_chain op_le op_le (pe_gc T.g_SPACE) (pv 0) (pe_gc T.g_LAST_BYTE)))))), ?_⟩
    refine ⟨_, rfl, rfl, _, rfl, ?_⟩
    refine ite2 (fun h => ?_) (fun h => ⟨_, rfl, _, _, rfl, rfl, _, rfl, ?_⟩)
    · rw [dec_v 10 10 rfl] at h
      exact qb k (by unfold Kp172.okByte; rw [h]; rfl)
    · rw [dec_v 10 10 rfl] at h
      refine ite2 (fun g => ⟨_, _, rfl, rfl, ?_⟩) (fun g => ?_)
      · have g := of_decide_eq_true g
        exact qb k (by unfold Kp172.okByte; rw [Bool.eq_false_iff.mpr h, decide_eq_true (show 32 ≤ z by omega), Bool.true_and, Bool.false_or]; exact decide_eq_decide.mpr (by omega))
      · exact qb k (by unfold Kp172.okByte; rw [Bool.eq_false_iff.mpr h, decide_eq_false (show ¬ 32 ≤ z from fun z => g (decide_eq_true (by omega)))]; rfl)
theorem cal_is_in_name (T : Txt K mg c) : Cal P w K mg base "is_in_name" 2 (spB Kp172.inName) := by
  have c_is_small_letter := cal_is_small_letter (P := P) (w := w) (base := base) T
  have c_is_digit := cal_is_digit (P := P) (w := w) (base := base) T
  obtain ⟨f, fd, hm, F⟩ := T.f_is_in_name
  refine ⟨f, fd, ["byte"], hm, F.kp, F.binds fun _ _ _ _ _ _ us hl => match us, hl with | [_], _ => rfl, ?_⟩
  refine F.ok sc_is_in_name (fun vs H Q E h => ?_) (fun cdv A outer s H vs Q E hr h => ?_)
  · obtain ⟨z, rfl, _⟩ := h
    rfl
  · obtain ⟨z, rfl, k⟩ := h
    refine ⟨_, (pss_one (ps_ret (pe_or (pe_fn c_is_small_letter (hr.mono (by decide)) (pa_cons (pv 0) pa_nil)) (pe_or (pe_fn c_is_digit (hr.mono (by decide)) (pa_cons (pv 0) pa_nil)) (pe_one (pe_cmpR op_eq (pv 0) (pe_gc T.g_HYPHEN) (nomark _))))))), ?_⟩
    refine ⟨_, rfl, z, rfl, _, rfl, ?_⟩
    refine ite2 (fun h => ?_) (fun h => ⟨_, rfl, z, rfl, _, rfl, ?_⟩)
    · exact qb k (by unfold Kp172.inName; rw [h]; rfl)
    · refine ite2 (fun g => ?_) (fun g => ⟨_, rfl, rfl, ?_⟩)
      · exact qb k (by unfold Kp172.inName; rw [g, Bool.or_true]; rfl)
      · exact qb k (by rw [dec_v 45 45 rfl]; unfold Kp172.inName; rw [Bool.eq_false_iff.mpr h, Bool.eq_false_iff.mpr g]; rfl)
def spBlanks (K : PySem.W.Frag) : Sp := fun vs H Q _ => ∃ (a : Addr) (b : List Nat) (i : Nat), vs = [.ref a, .int (i : Int)] ∧ Tt K H a b ∧ i ≤ b.length ∧
  ∀ j : Nat, i ≤ j → j ≤ b.length → b.drop j = (b.drop i).dropWhile Kp172.blank → Q (.int (j : Int)) H
theorem cal_end_of_blanks (T : Txt K mg c) : Cal P w K mg base "end_of_blanks" 2 (spBlanks K) := by
  have c_is_blank := cal_is_blank (P := P) (w := w) (base := base) T
  obtain ⟨f, fd, hm, F⟩ := T.f_end_of_blanks
  refine ⟨f, fd, ["t", "at"], hm, F.kp, F.binds fun _ _ _ _ _ _ us hl => match us, hl with | [_, _], _ => rfl, ?_⟩
  refine F.ok sc_end_of_blanks (fun vs H Q E h => ?_) (fun cdv A outer s H vs Q E hr h => ?_)
  · obtain ⟨a, b, i, rfl, _⟩ := h
    rfl
  · obtain ⟨a, b, i, rfl, hS, hi, k⟩ := h
    refine ⟨_, (pss_cons (ps_while PassesOwn.never (pw_and (pt_cmpR op_lt (pv 1) (pe_callB call_len (by rfl) T.n_len PySem.boot_len (pa_cons (pv 0) pa_nil)) (nomark _)) (pw_and1 (pt_val (pe_fn c_is_blank (hr.mono (by decide)) (pa_cons (pe_ix ix_list (pv 0) (pv 1) (fun _ _ => rfl)) pa_nil))))).pt (pss_one (ps_aug (i := 1) sc_end_of_blanks.nd rfl (Or.inl rfl) pe_int ip_add)))
      (pss_one (ps_ret (pv 1)))), ?_⟩
    refine ⟨fun m σ H' => ∃ j : Nat, σ = [some (.ref a), some (.int (j : Int))] ∧ H' = H ∧ i ≤ j ∧ j ≤ b.length ∧ m = b.length - j ∧ (b.drop i).dropWhile Kp172.blank = (b.drop j).dropWhile Kp172.blank, ⟨_, i, rfl, rfl, Nat.le_refl _, hi, rfl, rfl⟩, ?_⟩
    rintro m σ H ⟨j, rfl, rfl, h1, h2, rfl, h3⟩
    refine ⟨_, rfl, _, rfl, _, _, rfl, .inl ⟨_, hS, rfl⟩, _, _, rfl, rfl, _, rfl, ?_⟩
    rw [vb_len]
    refine ite2 (fun hlt => ?_) (fun hge => ?_)
    · have hlt : j < b.length := by have := of_decide_eq_true hlt; omega
      obtain ⟨c, r, e⟩ := drop_cons hlt
      refine ⟨_, rfl, _, rfl, a, _, _, _, rfl, rfl, hS, atI_vb e, c, rfl, _, rfl, ?_⟩
      refine ite2 (fun hb => ⟨fun σ' H' => σ' = [some (.ref a), some (.int ((j + 1 : Nat) : Int))] ∧ H' = H, ?_, ?_⟩) (fun hb => ?_)
      · rintro σ' _ ⟨rfl, rfl⟩
        refine ⟨b.length - (j + 1), by omega, j + 1, rfl, rfl, by omega, by omega, rfl, ?_⟩
        rw [h3, e, blanks_go hb, next_drop e]
      · exact ⟨_, rfl, _, _, rfl, rfl, rfl, rfl⟩
      · refine ⟨_, rfl, k j h1 h2 ?_⟩
        rw [h3, e, blanks_end (Bool.eq_false_iff.mpr hb)]
    · refine iteF ⟨_, rfl, k j h1 h2 ?_⟩
      have e : b.drop j = [] := drop_nil fun z => hge (decide_eq_true (by omega))
      rw [h3, e]; rfl
end
end Pg
end
section
set_option Elab.async false
set_option linter.all false
set_option maxRecDepth 100000
set_option maxHeartbeats 4000000
namespace Pg
open PySem PySem.Spec PyProof.Rows L2
section
variable {P : Program} {w : World} {K : PySem.W.Frag} {mg : Str → Option Value} {base : Heap} {c : Cs}
theorem lc_str {x : Str} {g : TG} {tt : TT} {te : TE} {vs : List Nat} {σ : L2.St} {H1 : Hp} {D : Addr} {Qd : Hp → Prop} (Pv : Nat → Hp → Prop) (h0 : Pv 0 (upd H1 D (.lst [])))
    (hs : ∀ i c H, x.cps[i]? = some c → Pv i H → g (.str ⟨#[c]⟩) (wipe σ vs) H fun σ2 H2 => wipe σ2 vs = wipe σ vs ∧ tt σ2 H2 fun b H3 =>
      if b = true then te σ2 H3 fun y H4 => ∃ acc, H4 D = some (.lst acc) ∧ acc.length < sizeLine ∧ Pv (i + 1) (upd H4 D (.lst (acc ++ [y]))) else Pv (i + 1) H3) (hd : ∀ H, Pv x.cps.size H → Qd H) :
    ∃ W : Nat → Nat → Hp → Prop, (∃ m, W 0 m (upd H1 D (.lst []))) ∧ ∀ i m H, W i m H →
      ((Its x).stop i H ∧ Qd H) ∨ ((Its x).go i H ∧ ∃ Nx : Hp → Prop, (∀ H', Nx H' → ∃ m', m' < m ∧ W (i + 1) m' H') ∧ ∀ v H', (Its x).yld i H v H' → g v (wipe σ vs) H' fun σ2 H2 => wipe σ2 vs = wipe σ vs ∧ tt σ2 H2 fun b H3 =>
        if b = true then te σ2 H3 fun y H4 => ∃ acc, H4 D = some (.lst acc) ∧ acc.length < sizeLine ∧ Nx (upd H4 D (.lst (acc ++ [y]))) else Nx H3) := by
  refine ⟨fun i m H => m = x.cps.size - i ∧ i ≤ x.cps.size ∧ Pv i H, ⟨x.cps.size, by simp, Nat.zero_le _, h0⟩, ?_⟩
  rintro i m H ⟨rfl, hi, p⟩
  by_cases hlt : i < x.cps.size
  · refine .inr ⟨hlt, Pv (i + 1), fun H' p' => ⟨x.cps.size - (i + 1), by omega, rfl, hlt, p'⟩, fun v H' y => ?_⟩
    obtain ⟨e, c, hc, rfl⟩ := y
    subst e
    exact hs i c _ hc p
  · have e : i = x.cps.size := by omega
    subst e
    exact .inl ⟨Nat.le_refl _, hd H p⟩
theorem vb_app (a b : List Nat) : vb (a ++ b) = vb a ++ vb b := List.map_append
def spSigns : Sp := fun vs H Q _ => ∃ x : Str, vs = [.str x] ∧ x.length < 1000 ∧ ∀ l, H l = none → Q (.ref l) (upd H l (.lst (vb x.cps.toList)))
theorem cal_signs (T : Txt K mg c) : Cal P w K mg base "signs" 1 spSigns := by
  obtain ⟨f, fd, hm, F⟩ := T.f_signs
  refine ⟨f, fd, ["word"], hm, F.kp, F.binds fun _ _ _ _ _ _ us hl => match us, hl with | [_], _ => rfl, ?_⟩
  refine F.ok sc_signs (fun vs H Q E h => ?_) (fun cdv A outer s H vs Q E hr h => ?_)
  · obtain ⟨x, rfl, _⟩ := h
    rfl
  · obtain ⟨x, rfl, hx, k⟩ := h
    refine ⟨_, (pss_one (ps_ret (pe_lc rfl sc_signs.nd (pi_str (pv 0)) (blkOk_by (own := [("sign", 1)]) (show blkC ["word", "sign"] (defScope s_signs) _ [("sign", 1)] = true by decide +kernel)) (fun _ _ _ _ _ => pg_name (i := 1) sc_signs.nd rfl (Or.inl rfl)) (fun _ _ _ _ _ => pts_nil) (fun _ _ _ _ _ => pe_callB call_ord (by rfl) T.n_ord boot_ord (pa_cons (pv 1) pa_nil))))), ?_⟩
    refine ⟨_, rfl, _, rfl, fun D hD => ?_⟩
    have hl : x.cps.toList.length = x.length := by simp [Str.length]
    refine lc_str (x := x) (fun j H' => H' = upd H D (.lst (vb (x.cps.toList.take j)))) rfl ?_ ?_
    · rintro j c _ hc rfl
      refine ⟨rfl, ?_⟩
      unfold tYes
      dsimp only
      rw [if_pos rfl]
      refine ⟨_, rfl, _, rfl, rfl, _, upd_same, ?_, ?_⟩
      · rw [vb_len, List.length_take, sizeLine_eq]; omega
      · rw [upd2]
        congr 2
        have e : x.cps.toList.take (j + 1) = x.cps.toList.take j ++ [c] := by
          rw [List.take_succ, Array.getElem?_toList, hc]; rfl
        rw [e, vb_app]
        rfl
    · rintro _ rfl
      have e1 : x.cps.toList.take x.cps.size = x.cps.toList := List.take_of_length_le (by simp)
      rw [e1]
      exact k D hD
theorem dp_vb {H : Hp} : ∀ b : List Nat, DpAll K H (vb b) (db b)
  | [] => .nil
  | n :: b => .cons (.int _) (dp_vb b)
theorem cut_vb {b : List Nat} {i n : Nat} (hi : i ≤ b.length) : cutV (vb b) (some (i : Int)) (some ((i : Int) + (n : Int))) = vb ((b.drop i).take n) := by
  have e : (i : Int) + (n : Int) = ((i + n : Nat) : Int) := by omega
  unfold cutV
  rw [e, HT.sIx_nat, HT.sIx_nat, vb_len]
  unfold vb
  rw [← List.map_drop, ← List.map_take, Nat.min_eq_left hi]
  congr 1
  by_cases h : i + n ≤ b.length
  · rw [Nat.min_eq_left h, Nat.add_sub_cancel_left]
  · rw [Nat.min_eq_right (by omega), List.take_of_length_le (by simp), List.take_of_length_le (by simp; omega)]
def spStands (K : PySem.W.Frag) : Sp := fun vs H Q _ => ∃ (a : Addr) (b : List Nat) (i : Nat) (x : Str), vs = [.ref a, .int (i : Int), .str x] ∧ Tt K H a b ∧ i ≤ b.length ∧ x.length < 1000 ∧
  ∀ H', Same H H' → Q (.bl (decide ((b.drop i).take x.length = x.cps.toList))) H'
theorem cal_stands_at (T : Txt K mg c) : Cal P w K mg base "stands_at" 2 (spStands K) := by
  have c_signs := cal_signs (P := P) (w := w) (base := base) T
  obtain ⟨f, fd, hm, F⟩ := T.f_stands_at
  refine ⟨f, fd, ["t", "at", "word"], hm, F.kp, F.binds fun _ _ _ _ _ _ us hl => match us, hl with | [_, _, _], _ => rfl, ?_⟩
  refine F.ok sc_stands_at (fun vs H Q E h => ?_) (fun cdv A outer s H vs Q E hr h => ?_)
  · obtain ⟨a, b, i, x, rfl, _⟩ := h
    rfl
  · obtain ⟨a, b, i, x, rfl, hS, hi, hx, k⟩ := h
    refine ⟨_, (pss_one (ps_ret (pe_cmpR (op_eqD hr.units) (pe_slice sl_list (pv 0) (po_some (pv 1)) (po_some (pe_op op_add (pv 1) (pe_callB call_len (by rfl) T.n_len PySem.boot_len (pa_cons (pv 2) pa_nil))))) (pe_fn c_signs (hr.mono (by decide)) (pa_cons (pv 2) pa_nil)) (nomark _)))), ?_⟩
    refine ⟨_, rfl, _, rfl, _, rfl, _, rfl, _, rfl, _, _, rfl, ⟨by rw [sizeLine_eq]; omega, rfl⟩, _, _, rfl, rfl, _, rfl, a, _, rfl, hS, fun p hp => ?_⟩
    rw [cut_vb hi]
    refine ⟨_, rfl, x, rfl, hx, fun D hD => ?_⟩
    have hpD : p ≠ D := ne_of_none upd_same hD
    refine ⟨.list (db ((b.drop i).take x.length)), .list (db x.cps.toList), .lst (SqL.of (by rw [upd_ne hpD]; exact upd_same)) (dp_vb _), .lst (SqL.of upd_same) (dp_vb _), shaped_list _, shaped_list _, ?_⟩
    rw [eqv_list]
    exact k _ ((same_upd hp).trans (same_upd hD))
def spI1 (C : Addr) (f1 : Str) : Sp := fun vs H Q _ => ∃ p dx v1, vs = [.ref p, v1] ∧ H p = some (.ins C dx []) ∧ ∀ H', H' = upd H p (.ins C dx [(f1, v1)]) → Q .non H'
def spI2 (C : Addr) (f1 f2 : Str) : Sp := fun vs H Q _ => ∃ p dx v1 v2, vs = [.ref p, v1, v2] ∧ H p = some (.ins C dx []) ∧ ∀ H', H' = upd H p (.ins C dx [(f1, v1), (f2, v2)]) → Q .non H'
def spI3 (C : Addr) (f1 f2 f3 : Str) : Sp := fun vs H Q _ => ∃ p dx v1 v2 v3, vs = [.ref p, v1, v2, v3] ∧ H p = some (.ins C dx []) ∧ ∀ H', H' = upd H p (.ins C dx [(f1, v1), (f2, v2), (f3, v3)]) → Q .non H'
theorem mk_Closing (T : Txt K mg c) : CalK P w K mg base "Closing" c.Closing 1 (spI1 c.Closing "name") := by
  obtain ⟨f, fd, M, F⟩ := T.i_Closing
  refine ⟨T.k_Closing, f, fd, ["self", "name"], M, F.binds fun _ _ _ _ _ _ us hl => match us, hl with | [_, _], _ => rfl, ?_⟩
  refine F.ok sc_Closing___init__ (fun vs H Q E h => ?_) (fun cdv A outer s H vs Q E hr h => ?_)
  · obtain ⟨p, dx, v1, rfl, _⟩ := h
    rfl
  · obtain ⟨p, dx, v1, rfl, hp, k⟩ := h
    refine ⟨_, (pss_one (ps_fld (pv 0) (pv 1) rfl)), ?_⟩
    refine ⟨_, rfl, _, rfl, p, c.Closing, dx, [], rfl, hp, T.cl_Closing, T.no_Closing_name, (by show 0 < 1000; decide), ?_⟩
    exact k _ rfl
theorem mk_Text (T : Txt K mg c) : CalK P w K mg base "Text" c.Text 1 (spI1 c.Text "content") := by
  obtain ⟨f, fd, M, F⟩ := T.i_Text
  refine ⟨T.k_Text, f, fd, ["self", "content"], M, F.binds fun _ _ _ _ _ _ us hl => match us, hl with | [_, _], _ => rfl, ?_⟩
  refine F.ok sc_Text___init__ (fun vs H Q E h => ?_) (fun cdv A outer s H vs Q E hr h => ?_)
  · obtain ⟨p, dx, v1, rfl, _⟩ := h
    rfl
  · obtain ⟨p, dx, v1, rfl, hp, k⟩ := h
    refine ⟨_, (pss_one (ps_fld (pv 0) (pv 1) rfl)), ?_⟩
    refine ⟨_, rfl, _, rfl, p, c.Text, dx, [], rfl, hp, T.cl_Text, T.no_Text_content, (by show 0 < 1000; decide), ?_⟩
    exact k _ rfl
theorem mk_Piece (T : Txt K mg c) : CalK P w K mg base "Piece" c.Piece 1 (spI2 c.Piece "content" "end") := by
  obtain ⟨f, fd, M, F⟩ := T.i_Piece
  refine ⟨T.k_Piece, f, fd, ["self", "content", "end"], M, F.binds fun _ _ _ _ _ _ us hl => match us, hl with | [_, _, _], _ => rfl, ?_⟩
  refine F.ok sc_Piece___init__ (fun vs H Q E h => ?_) (fun cdv A outer s H vs Q E hr h => ?_)
  · obtain ⟨p, dx, v1, v2, rfl, _⟩ := h
    rfl
  · obtain ⟨p, dx, v1, v2, rfl, hp, k⟩ := h
    refine ⟨_, (pss_cons (ps_fld (pv 0) (pv 1) rfl)
      (pss_one (ps_fld (pv 0) (pv 2) rfl))), ?_⟩
    refine ⟨_, rfl, _, rfl, p, c.Piece, dx, [], rfl, hp, T.cl_Piece, T.no_Piece_content, (by show 0 < 1000; decide), ?_⟩
    refine ⟨_, rfl, _, rfl, p, c.Piece, dx, _, rfl, upd_same, T.cl_Piece, T.no_Piece_end, (by show 1 < 1000; decide), ?_⟩
    exact k _ upd2
theorem mk_Attribute (T : Txt K mg c) : CalK P w K mg base "Attribute" c.Attribute 1 (spI2 c.Attribute "name" "value") := by
  obtain ⟨f, fd, M, F⟩ := T.i_Attribute
  refine ⟨T.k_Attribute, f, fd, ["self", "name", "value"], M, F.binds fun _ _ _ _ _ _ us hl => match us, hl with | [_, _, _], _ => rfl, ?_⟩
  refine F.ok sc_Attribute___init__ (fun vs H Q E h => ?_) (fun cdv A outer s H vs Q E hr h => ?_)
  · obtain ⟨p, dx, v1, v2, rfl, _⟩ := h
    rfl
  · obtain ⟨p, dx, v1, v2, rfl, hp, k⟩ := h
    refine ⟨_, (pss_cons (ps_fld (pv 0) (pv 1) rfl)
      (pss_one (ps_fld (pv 0) (pv 2) rfl))), ?_⟩
    refine ⟨_, rfl, _, rfl, p, c.Attribute, dx, [], rfl, hp, T.cl_Attribute, T.no_Attribute_name, (by show 0 < 1000; decide), ?_⟩
    refine ⟨_, rfl, _, rfl, p, c.Attribute, dx, _, rfl, upd_same, T.cl_Attribute, T.no_Attribute_value, (by show 1 < 1000; decide), ?_⟩
    exact k _ upd2
theorem mk_Opening (T : Txt K mg c) : CalK P w K mg base "Opening" c.Opening 1 (spI2 c.Opening "name" "attributes") := by
  obtain ⟨f, fd, M, F⟩ := T.i_Opening
  refine ⟨T.k_Opening, f, fd, ["self", "name", "attributes"], M, F.binds fun _ _ _ _ _ _ us hl => match us, hl with | [_, _, _], _ => rfl, ?_⟩
  refine F.ok sc_Opening___init__ (fun vs H Q E h => ?_) (fun cdv A outer s H vs Q E hr h => ?_)
  · obtain ⟨p, dx, v1, v2, rfl, _⟩ := h
    rfl
  · obtain ⟨p, dx, v1, v2, rfl, hp, k⟩ := h
    refine ⟨_, (pss_cons (ps_fld (pv 0) (pv 1) rfl)
      (pss_one (ps_fld (pv 0) (pv 2) rfl))), ?_⟩
    refine ⟨_, rfl, _, rfl, p, c.Opening, dx, [], rfl, hp, T.cl_Opening, T.no_Opening_name, (by show 0 < 1000; decide), ?_⟩
    refine ⟨_, rfl, _, rfl, p, c.Opening, dx, _, rfl, upd_same, T.cl_Opening, T.no_Opening_attributes, (by show 1 < 1000; decide), ?_⟩
    exact k _ upd2
theorem mk_Beginning (T : Txt K mg c) : CalK P w K mg base "Beginning" c.Beginning 1 (spI3 c.Beginning "opening" "closed" "end") := by
  obtain ⟨f, fd, M, F⟩ := T.i_Beginning
  refine ⟨T.k_Beginning, f, fd, ["self", "opening", "closed", "end"], M, F.binds fun _ _ _ _ _ _ us hl => match us, hl with | [_, _, _, _], _ => rfl, ?_⟩
  refine F.ok sc_Beginning___init__ (fun vs H Q E h => ?_) (fun cdv A outer s H vs Q E hr h => ?_)
  · obtain ⟨p, dx, v1, v2, v3, rfl, _⟩ := h
    rfl
  · obtain ⟨p, dx, v1, v2, v3, rfl, hp, k⟩ := h
    refine ⟨_, (pss_cons (ps_fld (pv 0) (pv 1) rfl)
      (pss_cons (ps_fld (pv 0) (pv 2) rfl)
      (pss_one (ps_fld (pv 0) (pv 3) rfl)))), ?_⟩
    refine ⟨_, rfl, _, rfl, p, c.Beginning, dx, [], rfl, hp, T.cl_Beginning, T.no_Beginning_opening, (by show 0 < 1000; decide), ?_⟩
    refine ⟨_, rfl, _, rfl, p, c.Beginning, dx, _, rfl, upd_same, T.cl_Beginning, T.no_Beginning_closed, (by show 1 < 1000; decide), ?_⟩
    refine ⟨_, rfl, _, rfl, p, c.Beginning, dx, _, rfl, upd_same, T.cl_Beginning, T.no_Beginning_end, (by show 2 < 1000; decide), ?_⟩
    exact k _ ((congrArg (fun z => upd z p _) upd2).trans upd2)
end
end Pg
end
section
set_option Elab.async false
set_option linter.all false
set_option maxRecDepth 100000
set_option maxHeartbeats 4000000
namespace Pg
open PySem PySem.Spec PyProof.Rows L2
section
variable {P : Program} {w : World} {K : PySem.W.Frag} {mg : Str → Option Value} {base : Heap} {c : Cs}
theorem cut_vb2 {b : List Nat} {i j : Nat} (hi : i ≤ b.length) (hj : i ≤ j) : cutV (vb b) (some (i : Int)) (some (j : Int)) = vb ((b.drop i).take (j - i)) := by
  have e := cut_vb (n := j - i) hi
  rw [show (i : Int) + ((j - i : Nat) : Int) = (j : Int) by omega] at e
  exact e
theorem piece_at {H H1 : Hp} {x dx : Addr} {v : V} {j : Nat} (s : Same H H1) (nx : H1 x = none) : PieceAt c (nw H (mk H1 x dx c.Piece [("content", v), ("end", .int (j : Int))])) x v j :=
  ⟨dx, nw_right s _ _ (mk_nw nx)⟩
theorem cal_read_name (T : Txt K mg c) : Cal P w K mg base "read_name" 3 (spRd K c (fun _ => True) Kp172.nameAt repB) := by
  have c_is_small_letter := cal_is_small_letter (P := P) (w := w) (base := base) T
  have c_is_in_name := cal_is_in_name (P := P) (w := w) (base := base) T
  have m_Piece := mk_Piece (P := P) (w := w) (base := base) T
  obtain ⟨f, fd, hm, F⟩ := T.f_read_name
  refine ⟨f, fd, ["t", "at"], hm, F.kp, F.binds fun _ _ _ _ _ _ us hl => match us, hl with | [_, _], _ => rfl, ?_⟩
  refine F.ok sc_read_name (fun vs H Q E h => ?_) (fun cdv A outer s H vs Q E hr h => ?_)
  · obtain ⟨a, b, i, rfl, _⟩ := h
    rfl
  · obtain ⟨a, b, i, rfl, hS, hi, hL, _, k0, k1⟩ := h
    refine ⟨_, (pss_cons (ps_if (pw_or (pt_cmpR op_ge (pv 1) (pe_callB call_len (by rfl) T.n_len PySem.boot_len (pa_cons (pv 0) pa_nil)) (nomark _)) (pw_or1 (pt_not (pt_val (pe_fn c_is_small_letter (hr.mono (by decide)) (pa_cons (pe_ix ix_list (pv 0) (pv 1) (fun _ _ => rfl)) pa_nil)))))).pt (pss_one (ps_ret pe_non)) pss_nil)
      (pss_cons (ps_set (i := 2) sc_read_name.nd rfl (Or.inl rfl) (pe_op op_add (pv 1) pe_int))
      (pss_cons (ps_while PassesOwn.never (pw_and (pt_cmpR op_lt (pv 2) (pe_callB call_len (by rfl) T.n_len PySem.boot_len (pa_cons (pv 0) pa_nil)) (nomark _)) (pw_and1 (pt_val (pe_fn c_is_in_name (hr.mono (by decide)) (pa_cons (pe_ix ix_list (pv 0) (pv 2) (fun _ _ => rfl)) pa_nil))))).pt (pss_one (ps_aug (i := 2) sc_read_name.nd rfl (Or.inl rfl) pe_int ip_add)))
      (pss_cons (ps_if (pt_cmpR op_gt (pe_op op_sub (pv 2) (pv 1)) (pe_gc T.g_MOST_NAME_BYTES) (nomark _)) (pss_one (ps_ret pe_non)) pss_nil)
      (pss_one (ps_ret (pe_mk m_Piece (hr.mono (by decide)) (pa_cons (pe_slice sl_list (pv 0) (po_some (pv 1)) (po_some (pv 2))) (pa_cons (pv 2) pa_nil))))))))), ?_⟩
    refine ⟨_, rfl, _, rfl, _, _, rfl, .inl ⟨_, hS, rfl⟩, _, _, rfl, rfl, _, rfl, ?_⟩
    rw [vb_len]
    refine ite2 (fun h => iteT ?_) (fun h => ?_)
    · refine k0 ?_ _ (Same.refl _)
      rw [drop_nil (by have := of_dec h; omega)]
      exact nameAt_nil
    · have hlt : i < b.length := by have := not_dec h; omega
      obtain ⟨d, r, e⟩ := drop_cons hlt
      refine ⟨_, rfl, _, rfl, a, _, _, _, rfl, rfl, hS, atI_vb e, d, rfl, _, rfl, ?_⟩
      refine ite2 (fun h2 => ?_) (fun h2 => ?_)
      · refine k0 ?_ _ (Same.refl _)
        rw [e]
        exact nameAt_not (by simpa using h2)
      · have hs : Kp172.small d = true := by simpa using h2
        refine ⟨_, rfl, _, _, rfl, rfl, ?_⟩
        refine wh (fun m σ H' => ∃ j : Nat, σ = [some (.ref a), some (.int (i : Int)), some (.int (j : Int))] ∧ H' = H ∧ i + 1 ≤ j ∧ j ≤ b.length ∧ m = b.length - j ∧ NameTo (b.drop i) (j - i))
          (fun σ H' => ∃ j : Nat, σ = [some (.ref a), some (.int (i : Int)), some (.int (j : Int))] ∧ H' = H ∧ i + 1 ≤ j ∧ j ≤ b.length ∧ Kp172.nameAt (b.drop i) = if j - i ≤ 16 then some ((b.drop i).take (j - i), b.drop j) else none) ?_ ⟨_, i + 1, rfl, rfl, Nat.le_refl _, hlt, rfl, ?_⟩ fun out => ?_
        · rintro σ _ ⟨j, rfl, rfl, h1, h2, h3⟩
          refine ⟨_, rfl, _, rfl, _, _, rfl, rfl, _, _, rfl, rfl, _, rfl, ?_⟩
          refine ite2 (fun hm => ?_) (fun hm => ?_)
          · have hm := of_dec hm
            refine k0 ?_ _ (Same.refl _)
            rw [h3, if_neg (by omega)]
          · have hm := not_dec hm
            rw [if_pos (by omega)] at h3
            refine ⟨_, rfl, _, rfl, _, rfl, _, rfl, _, rfl, a, _, rfl, hS, fun l hl => ?_⟩
            rw [cut_vb2 hi (by omega)]
            refine ⟨_, rfl, fun x dx nx nd ne => ⟨x, dx, _, _, rfl, upd_same, fun H2 e2 => ⟨rfl, ?_⟩⟩⟩
            have e2 := e2.trans upd2
            subst e2
            exact k1 _ _ j _ x _ h3 rfl (by omega) h2 ((same_upd hl).trans (mk_same nx nd)) (piece_at (same_upd hl) nx) ⟨l, rfl, nw_left (mk_same nx nd) _ _ (lst_nw hl)⟩
        · rw [e, show i + 1 - i = 1 by omega]; exact NameTo.one hs
        rintro m σ H ⟨j, rfl, rfl, h1, h2, rfl, h3⟩
        have fin : (∀ c r, b.drop j = c :: r → Kp172.inName c = false) → Kp172.nameAt (b.drop i) = if j - i ≤ 16 then some ((b.drop i).take (j - i), b.drop j) else none := by
          intro z
          have z1 : (b.drop i).takeWhile Kp172.inName = (b.drop i).take (j - i) := h3.end_ fun c r q => z c r (by rw [List.drop_drop, show i + (j - i) = j by omega] at q; exact q)
          have z2 : b.drop j = (b.drop i).drop (j - i) := by rw [List.drop_drop, show i + (j - i) = j by omega]
          rw [z2]
          rw [e] at z1 ⊢
          refine nameAt_is hs ?_ z1
          rw [← e, List.length_drop]; omega
        refine ⟨_, rfl, _, rfl, _, _, rfl, .inl ⟨_, hS, rfl⟩, _, _, rfl, rfl, _, rfl, ?_⟩
        rw [vb_len]
        refine ite2 (fun hlt2 => ?_) (fun hge => ?_)
        · have hlt2 : j < b.length := by have := of_dec hlt2; omega
          obtain ⟨d2, r2, e2⟩ := drop_cons hlt2
          refine ⟨_, rfl, _, rfl, a, _, _, _, rfl, rfl, hS, atI_vb e2, d2, rfl, _, rfl, ?_⟩
          refine ite2 (fun hb => ⟨fun σ' H' => σ' = [some (.ref a), some (.int (i : Int)), some (.int ((j + 1 : Nat) : Int))] ∧ H' = H, ?_, ?_⟩) (fun hb => ?_)
          · rintro σ' _ ⟨rfl, rfl⟩
            refine ⟨b.length - (j + 1), by omega, j + 1, rfl, rfl, by omega, by omega, rfl, ?_⟩
            rw [show j + 1 - i = j - i + 1 by omega]
            exact h3.next (c := d2) (r := r2) (by rw [List.drop_drop, show i + (j - i) = j by omega]; exact e2) hb
          · exact ⟨_, rfl, _, _, rfl, rfl, rfl, rfl⟩
          · exact out _ _ ⟨j, rfl, rfl, h1, h2, fin fun c r q => by rw [e2] at q; cases q; exact Bool.eq_false_iff.mpr hb⟩
        · have hge := not_dec hge
          exact iteF (out _ _ ⟨j, rfl, rfl, h1, h2, fin fun c r q => by rw [drop_nil (by omega)] at q; cases q⟩)
end
end Pg
end
section
set_option Elab.async false
set_option linter.all false
set_option maxRecDepth 100000
set_option maxHeartbeats 4000000
namespace Pg
open PySem PySem.Spec PyProof.Rows L2
section
variable {P : Program} {w : World} {K : PySem.W.Frag} {mg : Str → Option Value} {base : Heap} {c : Cs}
theorem cal_read_number_reference (T : Txt K mg c) : Cal P w K mg base "read_number_reference" 3 (spRd K c (fun s => 2 ≤ s.length) (fun s => numEnt (s.drop 2)) repI) := by
  have c_is_digit := cal_is_digit (P := P) (w := w) (base := base) T
  have c_stands_at := cal_stands_at (P := P) (w := w) (base := base) T
  have c_may_be_in_page := cal_may_be_in_page (P := P) (w := w) (base := base) T
  have m_Piece := mk_Piece (P := P) (w := w) (base := base) T
  obtain ⟨f, fd, hm, F⟩ := T.f_read_number_reference
  refine ⟨f, fd, ["t", "at"], hm, F.kp, F.binds fun _ _ _ _ _ _ us hl => match us, hl with | [_, _], _ => rfl, ?_⟩
  refine F.ok sc_read_number_reference (fun vs H Q E h => ?_) (fun cdv A outer s H vs Q E hr h => ?_)
  · obtain ⟨a, b, i, rfl, _⟩ := h
    rfl
  · obtain ⟨a, b, i, rfl, hS, hi, hL, hp, k0, k1⟩ := h
    rw [List.length_drop] at hp
    simp only [List.drop_drop] at k0 k1
    refine ⟨_, (pss_cons (ps_set (i := 2) sc_read_number_reference.nd rfl (Or.inl rfl) (pe_op op_add (pv 1) (pe_callB call_len (by rfl) T.n_len PySem.boot_len (pa_cons (pe_gc T.g_NUMBER_REFERENCE) pa_nil))))
      (pss_cons (ps_set (i := 3) sc_read_number_reference.nd rfl (Or.inl rfl) pe_int)
      (pss_cons (ps_set (i := 4) sc_read_number_reference.nd rfl (Or.inl rfl) (pv 2))
      (pss_cons (ps_while PassesOwn.never (pw_and (pt_cmpR op_lt (pv 4) (pe_callB call_len (by rfl) T.n_len PySem.boot_len (pa_cons (pv 0) pa_nil)) (nomark _)) (pw_and (pt_cmpR op_lt (pv 4) (pe_op op_add (pv 2) (pe_gc T.g_MOST_DIGITS)) (nomark _)) (pw_and1 (pt_val (pe_fn c_is_digit (hr.mono (by decide)) (pa_cons (pe_ix ix_list (pv 0) (pv 4) (fun _ _ => rfl)) pa_nil)))))).pt (pss_cons (ps_set (i := 3) sc_read_number_reference.nd rfl (Or.inl rfl) (pe_op op_sub (pe_op op_add (pe_op op_mul (pv 3) pe_int) (pe_ix ix_list (pv 0) (pv 4) (fun _ _ => rfl))) (pe_gc T.g_DIGIT_0)))
      (pss_one (ps_aug (i := 4) sc_read_number_reference.nd rfl (Or.inl rfl) pe_int ip_add))))
      (pss_cons (ps_if (pw_or (pt_cmpR op_eq (pv 4) (pv 2) (nomark _)) (pw_or (pt_not (pt_val (pe_fn c_stands_at (hr.mono (by decide)) (pa_cons (pv 0) (pa_cons (pv 4) (pa_cons pe_str pa_nil)))))) (pw_or1 (pt_not (pt_val (pe_fn c_may_be_in_page (hr.mono (by decide)) (pa_cons (pv 3) pa_nil))))))).pt (pss_one (ps_ret pe_non)) pss_nil)
      (pss_one (ps_ret (pe_mk m_Piece (hr.mono (by decide)) (pa_cons (pv 3) (pa_cons (pe_op op_add (pv 4) pe_int) pa_nil)))))))))), ?_⟩
    refine ⟨_, rfl, _, _, rfl, ⟨by rw [sizeLine_eq]; decide, rfl⟩, _, _, rfl, rfl, ?_⟩
    refine ⟨_, rfl, ?_⟩
    refine wh (fun m σ H' => ∃ j v : Nat, σ = [some (.ref a), some (.int (i : Int)), some (.int ((i + 2 : Nat) : Int)), some (.int (v : Int)), some (.int (j : Int))] ∧ H' = H ∧ i + 2 ≤ j ∧ j ≤ b.length ∧ m = b.length - j ∧ NumTo (b.drop (i + 2)) (j - (i + 2)) v)
      (fun σ H' => ∃ j v : Nat, σ = [some (.ref a), some (.int (i : Int)), some (.int ((i + 2 : Nat) : Int)), some (.int (v : Int)), some (.int (j : Int))] ∧ H' = H ∧ i + 2 ≤ j ∧ j ≤ b.length ∧ numEnt (b.drop (i + 2)) = if j - (i + 2) = 0 then none else match b.drop j with | 59 :: q => if Kp172.okByte v = true then some (v, q) else none | _ => none) ?_ ⟨_, i + 2, 0, rfl, rfl, Nat.le_refl _, by omega, rfl, by rw [Nat.sub_self]; exact NumTo.zero _⟩ fun out => ?_
    · rintro σ H ⟨j, v, rfl, rfl, h1, h2, h3⟩
      refine ⟨_, rfl, _, rfl, rfl, _, rfl, ?_⟩
      refine ite2 (fun hm => iteT ?_) (fun hm => ?_)
      · have hm := V.int.inj (of_dec hm)
        exact k0 (by rw [h3, if_pos (by omega)]) _ (Same.refl _)
      · have hm : ¬ j = i + 2 := fun z => not_dec hm (by rw [z])
        rw [if_neg (by omega)] at h3
        refine ⟨_, rfl, _, rfl, a, b, j, ";", rfl, hS, h2, by decide, fun H' s' => ⟨_, rfl, ?_⟩⟩
        refine ite2 (fun hb => iteT ?_) (fun hb => ?_)
        · have hb : ¬ (b.drop j).take 1 = [59] := nd_true hb
          refine k0 ?_ _ s'
          rw [h3]
          split
          · rename_i q e
            rw [e] at hb
            exact absurd rfl hb
          · rfl
        · have hb : (b.drop j).take 1 = [59] := nd_false hb
          have e := stands_app (w := [59]) hb
          have h3 : numEnt (b.drop (i + 2)) = if Kp172.okByte v = true then some (v, (b.drop j).drop 1) else none := by
            rw [h3]
            rw [e]
            rfl
          obtain ⟨e2, l2⟩ := place_of e h2
          refine ⟨_, rfl, v, rfl, _, rfl, ?_⟩
          refine ite2 (fun ho => ?_) (fun ho => ?_)
          · exact k0 (by rw [h3, if_neg (by simpa using ho)]) _ s'
          · rw [if_pos (by simpa using ho)] at h3
            refine ⟨_, rfl, _, rfl, _, _, rfl, rfl, fun x dx nx nd ne => ⟨x, dx, _, _, rfl, upd_same, fun H2 e2' => ⟨rfl, ?_⟩⟩⟩
            have e2' := e2'.trans upd2
            subst e2'
            exact k1 _ _ (j + 1) _ x _ h3 e2 (by omega) l2 (s'.trans (mk_same nx nd)) (piece_at s' nx) rfl
    · rintro m σ H ⟨j, v, rfl, rfl, h1, h2, rfl, h3⟩
      have fin : (j - (i + 2) = 3 ∨ ∀ c r, b.drop j = c :: r → Kp172.digit c = false) → numEnt (b.drop (i + 2)) = if j - (i + 2) = 0 then none else match b.drop j with | 59 :: q => if Kp172.okByte v = true then some (v, q) else none | _ => none := by
        intro z
        have z2 : b.drop j = (b.drop (i + 2)).drop (j - (i + 2)) := by rw [List.drop_drop, show i + 2 + (j - (i + 2)) = j by omega]
        rw [z2] at z ⊢
        exact h3.end_ z
      refine ⟨_, rfl, _, rfl, _, _, rfl, .inl ⟨_, hS, rfl⟩, _, _, rfl, rfl, _, rfl, ?_⟩
      rw [vb_len]
      refine ite2 (fun hlt2 => ?_) (fun hge => ?_)
      · have hlt2 : j < b.length := by have := of_dec hlt2; omega
        obtain ⟨d2, r2, e2⟩ := drop_cons hlt2
        refine ⟨_, rfl, _, rfl, _, _, rfl, rfl, _, _, rfl, rfl, _, rfl, ?_⟩
        refine ite2 (fun h3' => ?_) (fun h3' => ?_)
        · have h3' := of_dec h3'
          refine ⟨_, rfl, _, rfl, a, _, _, _, rfl, rfl, hS, atI_vb e2, d2, rfl, _, rfl, ?_⟩
          refine ite2 (fun hb => ⟨fun σ' H' => σ' = [some (.ref a), some (.int (i : Int)), some (.int ((i + 2 : Nat) : Int)), some (.int ((10 * v + (d2 - 48) : Nat) : Int)), some (.int ((j + 1 : Nat) : Int))] ∧ H' = H, ?_, ?_⟩) (fun hb => ?_)
          · rintro σ' _ ⟨rfl, rfl⟩
            refine ⟨b.length - (j + 1), by omega, j + 1, _, rfl, rfl, by omega, by omega, rfl, ?_⟩
            rw [show j + 1 - (i + 2) = j - (i + 2) + 1 by omega]
            exact h3.next (by omega) (c := d2) (q := r2) (by rw [List.drop_drop, show i + 2 + (j - (i + 2)) = j by omega]; exact e2) hb
          · have hb48 : 48 ≤ d2 := by
              unfold Kp172.digit at hb
              simp at hb
              exact hb.1
            refine ⟨_, rfl, _, _, rfl, rfl, .inr ⟨by decide, by decide⟩, _, rfl, _, rfl, a, _, _, _, rfl, rfl, hS, atI_vb e2, _, _, rfl, rfl, _, _, rfl, rfl, ?_⟩
            refine ⟨_, rfl, _, _, rfl, rfl, ?_, rfl⟩
            show [_, _, _, some (V.int ((v : Int) * 10 + (d2 : Int) - 48)), _] = _
            rw [show (v : Int) * 10 + (d2 : Int) - 48 = ((10 * v + (d2 - 48) : Nat) : Int) by omega]
            rfl
          · exact out _ _ ⟨j, v, rfl, rfl, h1, h2, fin (.inr fun c r q => by rw [e2] at q; cases q; exact Bool.eq_false_iff.mpr hb)⟩
        · have h3' := not_dec h3'
          exact iteF (out _ _ ⟨j, v, rfl, rfl, h1, h2, fin (.inl (by have := h3.1; omega))⟩)
      · have hge := not_dec hge
        exact iteF (out _ _ ⟨j, v, rfl, rfl, h1, h2, fin (.inr fun c r q => by rw [drop_nil (by omega)] at q; cases q)⟩)
theorem cal_read_reference (T : Txt K mg c) : Cal P w K mg base "read_reference" 4 (spRd K c (fun s => ∃ r, s = 38 :: r) (fun s => Kp172.entity (s.drop 1)) repI) := by
  have c_stands_at := cal_stands_at (P := P) (w := w) (base := base) T
  have c_read_number_reference := cal_read_number_reference (P := P) (w := w) (base := base) T
  have m_Piece := mk_Piece (P := P) (w := w) (base := base) T
  obtain ⟨ad, hmd, hKD⟩ := T.g_NAMED_REFERENCES
  obtain ⟨f, fd, hm, F⟩ := T.f_read_reference
  refine ⟨f, fd, ["t", "at"], hm, F.kp, F.binds fun _ _ _ _ _ _ us hl => match us, hl with | [_, _], _ => rfl, ?_⟩
  refine F.ok sc_read_reference (fun vs H Q E h => ?_) (fun cdv A outer s H vs Q E hr h => ?_)
  · obtain ⟨a, b, i, rfl, _⟩ := h
    rfl
  · obtain ⟨a, b, i, rfl, hS, hi, hL, ⟨r, hr0⟩, k0, k1⟩ := h
    dsimp only at k0 k1
    rw [hr0] at k0 k1
    refine ⟨_, (pss_cons (ps_for PassesOwn.never rfl (pi_kitems (pe_gc (v := .ref ad) ⟨_, hmd, rfl⟩)) (pg_tup rfl (pgs_cons (pg_name (i := 2) sc_read_reference.nd rfl (Or.inl rfl)) (pgs_cons (pg_name (i := 3) sc_read_reference.nd rfl (Or.inl rfl)) pgs_nil))) (pss_one (ps_if (pt_val (pe_fn c_stands_at (hr.mono (by decide)) (pa_cons (pv 0) (pa_cons (pv 1) (pa_cons (pv 3) pa_nil))))) (pss_one (ps_ret (pe_mk m_Piece (hr.mono (by decide)) (pa_cons (pv 2) (pa_cons (pe_op op_add (pv 1) (pe_callB call_len (by rfl) T.n_len PySem.boot_len (pa_cons (pv 3) pa_nil))) pa_nil))))) pss_nil)))
      (pss_cons (ps_if (pt_val (pe_fn c_stands_at (hr.mono (by decide)) (pa_cons (pv 0) (pa_cons (pv 1) (pa_cons (pe_gc T.g_NUMBER_REFERENCE) pa_nil))))) (pss_one (ps_ret (pe_fn c_read_number_reference (hr.mono (by decide)) (pa_cons (pv 0) (pa_cons (pv 1) pa_nil))))) pss_nil)
      (pss_one (ps_ret pe_non)))), ?_⟩
    refine ⟨ad, refsK, rfl, hKD, for_q (fun m σ H' => (∃ u v, σ = [some (.ref a), some (.int (i : Int)), u, v]) ∧ Same H H' ∧ NoneTo (38 :: r) m) ⟨⟨none, none, rfl⟩, Same.refl _, NoneTo.zero⟩ ?_ ?_⟩
    · rintro σ H' ⟨⟨u, v, rfl⟩, s', hN⟩
      refine ⟨_, rfl, _, rfl, a, b, i, "&#", rfl, s'.seq hS, hi, by decide, fun H2 s2 => ⟨_, rfl, ?_⟩⟩
      have en : Kp172.entity ((38 :: r).drop 1) = num35 r := ent_no hN
      refine ite2 (fun hb => ?_) (fun hb => ?_)
      · have hb : (b.drop i).take 2 = [38, 35] := of_dec hb
        rw [hr0] at hb
        obtain ⟨q, rfl⟩ : ∃ q, r = 35 :: q := by
          cases r with
          | nil => cases hb
          | cons x q =>
            have : x = 35 := by simpa using hb
            exact ⟨q, by rw [this]⟩
        have en : Kp172.entity ((38 :: 35 :: q).drop 1) = numEnt q := en
        refine ⟨_, rfl, _, rfl, a, b, i, rfl, (s'.trans s2).seq hS, hi, hL, by rw [hr0]; simp, fun z H3 s3 => ?_, fun x r' j H3 p v' z z1 z2 z3 s3 z4 z5 => ?_⟩
        · rw [hr0] at z
          exact k0 (by rw [en]; exact z) _ ((s'.trans s2).trans s3)
        · rw [hr0] at z
          exact k1 x r' j _ p v' (by rw [en]; exact z) z1 z2 z3 ((s'.trans s2).trans s3) (z4.mono (nw_right (s'.trans s2))) z5
      · have hb : ¬ (b.drop i).take 2 = [38, 35] := not_dec hb
        refine k0 ?_ _ (s'.trans s2)
        rw [en]
        unfold num35
        split
        · exact absurd (by rw [hr0]; rfl) hb
        · rfl
    · rintro m kk vv σ H' Tu hk ⟨⟨u, v, rfl⟩, s', hN⟩ hT
      obtain ⟨n, x, hx, rfl, rfl, hx3⟩ := refsK_get hk
      refine ⟨Tu, _, rfl, SqT.of upd_same, rfl, ?_⟩
      refine ⟨_, _, rfl, _, _, rfl, rfl, ?_⟩
      refine ⟨_, rfl, _, rfl, _, rfl, a, b, i, x, rfl, (s'.trans (same_upd hT)).seq hS, hi, hx3, fun H2 s2 => ⟨_, rfl, ?_⟩⟩
      have s3 : Same H H2 := (s'.trans (same_upd hT)).trans s2
      refine ite2 (fun hb => ?_) (fun hb => ?_)
      · have hb : (b.drop i).take x.length = x.cps.toList := of_dec hb
        have en : Kp172.entity ((38 :: r).drop 1) = some (n, (38 :: r).drop x.length) := ent_at (r := r) hx hN (by unfold Std; rw [← hr0]; exact hb)
        have hxl : x.cps.toList.length = x.length := by simp [Str.length]
        obtain ⟨e2, l2⟩ := place_of (w := x.cps.toList) (r := (b.drop i).drop x.length) (by rw [← hxl]; exact stands_app (by rw [hxl]; exact hb)) hi
        rw [hxl] at e2 l2
        refine ⟨_, rfl, _, rfl, _, rfl, _, _, rfl, ⟨by rw [sizeLine_eq]; omega, rfl⟩, _, _, rfl, rfl, fun y dx nx nd ne => ⟨y, dx, _, _, rfl, upd_same, fun H3 e3 => ⟨rfl, ?_⟩⟩⟩
        have e3 := e3.trans upd2
        subst e3
        exact k1 n _ (i + x.length) _ y _ en (by rw [e2, hr0]) (by omega) l2 (s3.trans (mk_same nx nd)) (piece_at s3 nx) rfl
      · exact ⟨⟨_, _, rfl⟩, s3, hN.next hx (by unfold Std; rw [← hr0]; exact not_dec hb)⟩
theorem cal_read_character (T : Txt K mg c) : Cal P w K mg base "read_character" 5 (spRd K c (fun s => s ≠ []) charAt repI) := by
  have c_read_reference := cal_read_reference (P := P) (w := w) (base := base) T
  have c_may_be_in_page := cal_may_be_in_page (P := P) (w := w) (base := base) T
  have m_Piece := mk_Piece (P := P) (w := w) (base := base) T
  obtain ⟨f, fd, hm, F⟩ := T.f_read_character
  refine ⟨f, fd, ["t", "at"], hm, F.kp, F.binds fun _ _ _ _ _ _ us hl => match us, hl with | [_, _], _ => rfl, ?_⟩
  refine F.ok sc_read_character (fun vs H Q E h => ?_) (fun cdv A outer s H vs Q E hr h => ?_)
  · obtain ⟨a, b, i, rfl, _⟩ := h
    rfl
  · obtain ⟨a, b, i, rfl, hS, hi, hL, hne, k0, k1⟩ := h
    cases e : b.drop i with
    | nil => exact absurd e hne
    | cons d r =>
    refine ⟨_, (pss_cons (ps_if (pt_cmpR op_eq (pe_ix ix_list (pv 0) (pv 1) (fun _ _ => rfl)) (pe_gc T.g_AMPERSAND) (nomark _)) (pss_one (ps_ret (pe_fn c_read_reference (hr.mono (by decide)) (pa_cons (pv 0) (pa_cons (pv 1) pa_nil))))) pss_nil)
      (pss_cons (ps_if (pw_or (pt_cmpR op_eq (pe_ix ix_list (pv 0) (pv 1) (fun _ _ => rfl)) (pe_gc T.g_LESS_THAN) (nomark _)) (pw_or1 (pt_not (pt_val (pe_fn c_may_be_in_page (hr.mono (by decide)) (pa_cons (pe_ix ix_list (pv 0) (pv 1) (fun _ _ => rfl)) pa_nil)))))).pt (pss_one (ps_ret pe_non)) pss_nil)
      (pss_one (ps_ret (pe_mk m_Piece (hr.mono (by decide)) (pa_cons (pe_ix ix_list (pv 0) (pv 1) (fun _ _ => rfl)) (pa_cons (pe_op op_add (pv 1) pe_int) pa_nil))))))), ?_⟩
    rw [e] at k0 k1
    refine ⟨_, rfl, _, rfl, a, _, _, _, rfl, rfl, hS, atI_vb e, rfl, _, rfl, ?_⟩
    rw [dec_v 38 38 rfl]
    refine ite2 (fun hb => ?_) (fun hb => ?_)
    · have hd : d = 38 := by simpa using hb
      subst hd
      refine ⟨_, rfl, _, rfl, a, b, i, rfl, hS, hi, hL, ⟨r, e⟩, fun z H3 s3 => ?_, fun x r' j H3 p v' z z1 z2 z3 s3 z4 z5 => ?_⟩
      · dsimp only at z
        rw [e] at z
        exact k0 z _ s3
      · dsimp only at z
        rw [e] at z
        exact k1 x r' j _ p v' z z1 z2 z3 s3 z4 z5
    · have hd : ¬ d = 38 := by simpa using hb
      have ec : charAt (d :: r) = if d = 60 ∨ Kp172.okByte d = false then none else some (d, r) := by
        show (if d = 38 then _ else _) = _
        rw [if_neg hd]
      rw [ec] at k0 k1
      refine ⟨_, rfl, _, rfl, a, _, _, _, rfl, rfl, hS, atI_vb e, rfl, _, rfl, ?_⟩
      rw [dec_v 60 60 rfl]
      refine ite2 (fun h6 => iteT ?_) (fun h6 => ?_)
      · exact k0 (if_pos (.inl (by simpa using h6))) _ (Same.refl _)
      · have h6 : ¬ d = 60 := by simpa using h6
        refine ⟨_, rfl, _, rfl, a, _, _, _, rfl, rfl, hS, atI_vb e, d, rfl, _, rfl, ?_⟩
        refine ite2 (fun ho => ?_) (fun ho => ?_)
        · exact k0 (if_pos (.inr (by simpa using ho))) _ (Same.refl _)
        · have ho : Kp172.okByte d = true := by simpa using ho
          rw [if_neg (by simp [h6, ho])] at k1
          refine ⟨_, rfl, _, rfl, a, _, _, _, rfl, rfl, hS, atI_vb e, _, rfl, _, _, rfl, rfl, fun y dx nx nd ne => ⟨y, dx, _, _, rfl, upd_same, fun H3 e3 => ⟨rfl, ?_⟩⟩⟩
          have e3 := e3.trans upd2
          subst e3
          exact k1 d r (i + 1) _ y _ rfl (next_drop e) (by omega) (lt_drop e) (mk_same nx nd) (piece_at (Same.refl _) nx) rfl
end
end Pg
end
section
set_option Elab.async false
set_option linter.all false
set_option maxRecDepth 100000
set_option maxHeartbeats 4000000
namespace Pg
open PySem PySem.Spec PyProof.Rows L2
section
variable {P : Program} {w : World} {K : PySem.W.Frag} {mg : Str → Option Value} {base : Heap} {c : Cs}
def spChars (K : PySem.W.Frag) (c : Cs) : Sp := fun vs H Q _ => ∃ (a : Addr) (b : List Nat) (i h : Nat), vs = [.ref a, .int (i : Int), .int (h : Int)] ∧ Tt K H a b ∧ i ≤ b.length ∧ b.length ≤ 16384 ∧
  (charsX h (b.drop i) = none → ∀ H', Same H H' → Q .non H') ∧
  ∀ x r j H' p v, charsX h (b.drop i) = some (x, r) → b.drop j = r → i ≤ j → j ≤ b.length → Same H H' → PieceAt c (nw H H') p v j → repB (nw H H') v x → Q (.ref p) H'
theorem cal_read_characters (T : Txt K mg c) : Cal P w K mg base "read_characters" 6 (spChars K c) := by
  have c_read_character := cal_read_character (P := P) (w := w) (base := base) T
  have m_Piece := mk_Piece (P := P) (w := w) (base := base) T
  obtain ⟨f, fd, hm, F⟩ := T.f_read_characters
  refine ⟨f, fd, ["t", "at", "stop"], hm, F.kp, F.binds fun _ _ _ _ _ _ us hl => match us, hl with | [_, _, _], _ => rfl, ?_⟩
  refine F.ok sc_read_characters (fun vs H Q E h => ?_) (fun cdv A outer s H vs Q E hr h => ?_)
  · obtain ⟨a, b, i, h, rfl, _⟩ := h
    rfl
  · obtain ⟨a, b, i, h, rfl, hS, hi, hL, k0, k1⟩ := h
    refine ⟨_, (pss_cons (ps_set (i := 3) sc_read_characters.nd rfl (Or.inl rfl) (pe_lst pa_nil))
      (pss_cons (ps_while PassesOwn.never (pw_and (pt_cmpR op_lt (pv 1) (pe_callB call_len (by rfl) T.n_len PySem.boot_len (pa_cons (pv 0) pa_nil)) (nomark _)) (pw_and1 (pt_cmpR op_ne (pe_ix ix_list (pv 0) (pv 1) (fun _ _ => rfl)) (pv 2) (nomark _)))).pt (pss_cons (ps_set (i := 4) sc_read_characters.nd rfl (Or.inl rfl) (pe_fn c_read_character (hr.mono (by decide)) (pa_cons (pv 0) (pa_cons (pv 1) pa_nil))))
      (pss_cons (ps_if (pt_cmp (pc_isN (pv 4))) (pss_one (ps_ret pe_non)) pss_nil)
      (pss_cons (ps_expr (pe_bm PySem.F.plainAttrs_list PySem.F.slot_list_append PySem.F.type_list_append mt_append (pv 3) (pa_cons (pe_fld (pv 4) rfl) pa_nil)))
      (pss_one (ps_set (i := 1) sc_read_characters.nd rfl (Or.inl rfl) (pe_fld (pv 4) rfl)))))))
      (pss_one (ps_ret (pe_mk m_Piece (hr.mono (by decide)) (pa_cons (pv 3) (pa_cons (pv 1) pa_nil))))))), ?_⟩
    refine ⟨Nat.zero_le _, fun L hLn => ?_⟩
    refine wh (fun m σ H' => ∃ (j : Nat) (acc : List Nat) (u : Option V), σ = [some (.ref a), some (.int (j : Int)), some (.int (h : Int)), some (.ref L), u] ∧ Same H H' ∧ H' L = some (.lst (vb acc)) ∧ i ≤ j ∧ j ≤ b.length ∧ acc.length ≤ j - i ∧ m = b.length - j ∧ charsX h (b.drop i) = (charsX h (b.drop j)).map fun x => (acc ++ x.1, x.2))
      (fun σ H' => ∃ (j : Nat) (acc : List Nat) (u : Option V), σ = [some (.ref a), some (.int (j : Int)), some (.int (h : Int)), some (.ref L), u] ∧ Same H H' ∧ H' L = some (.lst (vb acc)) ∧ i ≤ j ∧ j ≤ b.length ∧ charsX h (b.drop i) = some (acc, b.drop j)) ?_ ⟨_, i, [], none, rfl, same_upd hLn, upd_same, Nat.le_refl _, hi, Nat.zero_le _, rfl, ?_⟩ fun out => ?_
    · rintro σ H' ⟨j, acc, u, rfl, s1, h1, h2, h3, h4⟩
      refine ⟨_, rfl, _, rfl, fun y dx nx nd ne => ⟨y, dx, _, _, rfl, upd_same, fun H3 e3 => ⟨rfl, ?_⟩⟩⟩
      have e3 := e3.trans upd2
      subst e3
      exact k1 acc _ j _ y _ h4 rfl h2 h3 (s1.trans (mk_same nx nd)) (piece_at s1 nx) ⟨L, rfl, nw_of hLn (mk_same nx nd _ _ h1)⟩
    · cases charsX h (b.drop i) <;> rfl
    · rintro m σ H' ⟨j, acc, u, rfl, s1, h1, h2, h3, h4, rfl, h5⟩
      refine ⟨_, rfl, _, rfl, _, _, rfl, .inl ⟨_, s1.seq hS, rfl⟩, _, _, rfl, rfl, _, rfl, ?_⟩
      rw [vb_len]
      refine ite2 (fun hlt => ?_) (fun hge => ?_)
      · have hlt : j < b.length := by have := of_dec hlt; omega
        obtain ⟨d, r, e⟩ := drop_cons hlt
        refine ⟨_, rfl, _, rfl, a, _, _, _, rfl, rfl, s1.seq hS, atI_vb e, _, rfl, rfl, _, rfl, ?_⟩
        refine ite2 (fun hb => ?_) (fun hb => ?_)
        · have hb : ¬ d = h := fun z => nd_true hb (by rw [z])
          rw [e, charsX_step hb, ← e] at h5
          refine ⟨fun σ' H2 => ∃ (j2 : Nat) (x : Nat) (u : Option V), σ' = [some (.ref a), some (.int (j2 : Int)), some (.int (h : Int)), some (.ref L), u] ∧ Same H H2 ∧ H2 L = some (.lst (vb (acc ++ [x]))) ∧ j < j2 ∧ j2 ≤ b.length ∧ charAt (b.drop j) = some (x, b.drop j2), ?_, ?_⟩
          · rintro σ' H2 ⟨j2, x, u, rfl, s2, q1, q2, q3, q4⟩
            refine ⟨b.length - j2, by omega, j2, acc ++ [x], u, rfl, s2, q1, by omega, q3, by rw [List.length_append]; simp; omega, rfl, ?_⟩
            rw [h5, q4]
            show Option.map _ (Option.map _ (charsX h (b.drop j2))) = _
            cases charsX h (b.drop j2) with
            | none => rfl
            | some z => simp
          · refine ⟨_, rfl, _, rfl, a, b, j, rfl, s1.seq hS, h3, hL, by rw [e]; simp, fun z H3 s3 => ?_, fun x r' j2 H3 p v' z z1 z2 z3 s3 z4 z5 => ?_⟩
            · exact ⟨_, rfl, _, rfl, isN_non (k0 (by rw [h5, z]; rfl) _ (s1.trans s3))⟩
            · obtain ⟨dp, z4⟩ := z4.mono nw_same
              obtain rfl : v' = .int (x : Int) := z5
              refine ⟨_, rfl, _, rfl, isN_ref ?_⟩
              have nLp : p ≠ L := ne_of z4 (s3 _ _ h1) (by intro q; cases q)
              have lz : r'.length < (b.drop j).length := charAt_len z
              have l2 := congrArg List.length z1
              rw [List.length_drop] at lz l2
              refine ⟨_, rfl, .inl ⟨rfl, _, SqL.of (s3 _ _ h1)⟩, _, rfl, p, c.Piece, dp, _, _, rfl, z4, T.cl_Piece, T.no_Piece_content, rfl, L, _, _, rfl, rfl, s3 _ _ h1, by rw [vb_len, sizeLine_eq]; omega, ?_⟩
              refine ⟨_, rfl, p, c.Piece, dp, _, _, rfl, (upd_ne nLp).trans z4, T.cl_Piece, T.no_Piece_end, rfl, ?_⟩
              exact ⟨j2, x, _, rfl, same_upd' (s1.trans s3) hLn, by rw [upd_same, vb_app]; rfl, by omega, z3, by rw [z1]; exact z⟩
        · have hb : d = h := by have := V.int.inj (nd_false hb); omega
          exact out _ _ ⟨j, acc, u, rfl, s1, h1, h2, h3, by rw [h5, e, charsX_cons, if_pos hb]; simp⟩
      · have hge := not_dec hge
        exact iteF (out _ _ ⟨j, acc, u, rfl, s1, h1, h2, h3, by rw [h5, drop_nil (by omega), charsX_nil]; simp⟩)
theorem cal_read_value (T : Txt K mg c) : Cal P w K mg base "read_value" 7 (spRd K c (fun _ => True) valueAtX repB) := by
  have c_stands_at := cal_stands_at (P := P) (w := w) (base := base) T
  have c_read_characters := cal_read_characters (P := P) (w := w) (base := base) T
  have m_Piece := mk_Piece (P := P) (w := w) (base := base) T
  obtain ⟨f, fd, hm, F⟩ := T.f_read_value
  refine ⟨f, fd, ["t", "at"], hm, F.kp, F.binds fun _ _ _ _ _ _ us hl => match us, hl with | [_, _], _ => rfl, ?_⟩
  refine F.ok sc_read_value (fun vs H Q E h => ?_) (fun cdv A outer s H vs Q E hr h => ?_)
  · obtain ⟨a, b, i, rfl, _⟩ := h
    rfl
  · obtain ⟨a, b, i, rfl, hS, hi, hL, _, k0, k1⟩ := h
    refine ⟨_, (pss_cons (ps_if (pt_not (pt_val (pe_fn c_stands_at (hr.mono (by decide)) (pa_cons (pv 0) (pa_cons (pv 1) (pa_cons pe_str pa_nil)))))) (pss_one (ps_ret pe_non)) pss_nil)
      (pss_cons (ps_set (i := 2) sc_read_value.nd rfl (Or.inl rfl) (pe_fn c_read_characters (hr.mono (by decide)) (pa_cons (pv 0) (pa_cons (pe_op op_add (pv 1) pe_int) (pa_cons (pe_gc T.g_QUOTE) pa_nil)))))
      (pss_cons (ps_if (pw_or (pt_cmp (pc_isN (pv 2))) (pw_or1 (pt_cmpR op_eq (pe_fld (pv 2) rfl) (pe_callB call_len (by rfl) T.n_len PySem.boot_len (pa_cons (pv 0) pa_nil)) (nomark _)))).pt (pss_one (ps_ret pe_non)) pss_nil)
      (pss_one (ps_ret (pe_mk m_Piece (hr.mono (by decide)) (pa_cons (pe_fld (pv 2) rfl) (pa_cons (pe_op op_add (pe_fld (pv 2) rfl) pe_int) pa_nil)))))))), ?_⟩
    refine ⟨_, rfl, _, rfl, a, b, i, "=\"", rfl, hS, hi, by decide, fun H1 s1 => ⟨_, rfl, ?_⟩⟩
    refine ite2 (fun hb => ?_) (fun hb => ?_)
    · have hb : ¬ (b.drop i).take 2 = [61, 34] := nd_true hb
      refine k0 ?_ _ s1
      have ef : Kp172.front [61, 34] (b.drop i) = none := front_no hb
      unfold valueAtX
      rw [ef]
      rfl
    · have hb : (b.drop i).take 2 = [61, 34] := nd_false hb
      have e := stands_app (w := [61, 34]) hb
      obtain ⟨e2, l2⟩ := place_of e hi
      have ev : valueAtX (b.drop i) = (charsX 34 (b.drop (i + 2))).bind fun v => (Kp172.front [34] v.2).map fun z => (v.1, z) := by
        unfold valueAtX
        have ef : Kp172.front [61, 34] (b.drop i) = some (b.drop (i + 2)) := by
          have e3 : b.drop (i + 2) = (b.drop i).drop 2 := by rw [List.drop_drop]
          rw [e3]
          exact front_is hb
        rw [ef]
        rfl
      rw [ev] at k0 k1
      refine ⟨_, rfl, _, rfl, _, _, rfl, rfl, a, b, i + 2, 34, rfl, s1.seq hS, l2, hL, fun z H2 s2 => ?_, fun x r j H2 p v z z1 z2 z3 s2 z4 z5 => ?_⟩
      · exact ⟨_, rfl, _, rfl, isN_non (iteT (k0 (by rw [z]; rfl) _ (s1.trans s2)))⟩
      · obtain ⟨dp, z4'⟩ := z4.mono nw_same
        refine ⟨_, rfl, _, rfl, isN_ref ?_⟩
        refine ⟨_, rfl, p, c.Piece, dp, _, _, rfl, z4', T.cl_Piece, T.no_Piece_end, rfl, _, rfl, _, _, rfl, .inl ⟨_, (s1.trans s2).seq hS, rfl⟩, rfl, _, rfl, ?_⟩
        rw [vb_len]
        have hrest := (charsX_rest 34 _ _ _ _ (Nat.le_refl _) z).1
        rw [z] at k0 k1
        refine ite2 (fun hq => ?_) (fun hq => ?_)
        · have hq := V.int.inj (of_dec hq)
          refine k0 ?_ _ (s1.trans s2)
          rw [← z1, drop_nil (by omega)]
          rfl
        · have hq : ¬ j = b.length := fun q => not_dec hq (by rw [q])
          rcases hrest with rfl | ⟨r', rfl⟩
          · have := congrArg List.length z1
            rw [List.length_drop] at this
            simp at this
            omega
          · refine ⟨_, rfl, p, c.Piece, dp, _, _, rfl, z4', T.cl_Piece, T.no_Piece_content, rfl, _, rfl, p, c.Piece, dp, _, _, rfl, z4', T.cl_Piece, T.no_Piece_end, rfl, _, _, rfl, rfl, fun y dx nx nd ne => ⟨y, dx, _, _, rfl, upd_same, fun H3 e3 => ⟨rfl, ?_⟩⟩⟩
            have e3 := e3.trans upd2
            subst e3
            have s12 := s1.trans s2
            refine k1 x r' (j + 1) _ y _ (by rfl) (next_drop z1) (by omega) (lt_drop z1) (s12.trans (mk_same nx nd)) (piece_at s12 nx) ?_
            exact (z5.mono (nw_right s1)).mono (nw_left (mk_same nx nd))
def spBegs (K : PySem.W.Frag) : Sp := fun vs H Q _ => ∃ (a : Addr) (b : List Nat) (i : Nat), vs = [.ref a, .int (i : Int)] ∧ Tt K H a b ∧ i ≤ b.length ∧ Q (.bl (begs (b.drop i))) H
theorem cal_attribute_begins (T : Txt K mg c) : Cal P w K mg base "attribute_begins" 3 (spBegs K) := by
  have c_end_of_blanks := cal_end_of_blanks (P := P) (w := w) (base := base) T
  have c_is_small_letter := cal_is_small_letter (P := P) (w := w) (base := base) T
  obtain ⟨f, fd, hm, F⟩ := T.f_attribute_begins
  refine ⟨f, fd, ["t", "at"], hm, F.kp, F.binds fun _ _ _ _ _ _ us hl => match us, hl with | [_, _], _ => rfl, ?_⟩
  refine F.ok sc_attribute_begins (fun vs H Q E h => ?_) (fun cdv A outer s H vs Q E hr h => ?_)
  · obtain ⟨a, b, i, rfl, _⟩ := h
    rfl
  · obtain ⟨a, b, i, rfl, hS, hi, k⟩ := h
    refine ⟨_, (pss_cons (ps_set (i := 2) sc_attribute_begins.nd rfl (Or.inl rfl) (pe_fn c_end_of_blanks (hr.mono (by decide)) (pa_cons (pv 0) (pa_cons (pv 1) pa_nil))))
      (pss_one (ps_ret (pe_and (pe_chain op_lt op_lt (pv 1) (pv 2) (pe_callB call_len (by rfl) T.n_len PySem.boot_len (pa_cons (pv 0) pa_nil))) (pe_one (pe_fn c_is_small_letter (hr.mono (by decide)) (pa_cons (pe_ix ix_list (pv 0) (pv 2) (fun _ _ => rfl)) pa_nil))))))), ?_⟩
    refine ⟨_, rfl, _, rfl, a, b, i, rfl, hS, hi, fun j hj hj2 e => ?_⟩
    unfold begs at k
    rw [← e] at k
    refine ⟨_, rfl, _, rfl, _, _, rfl, rfl, _, rfl, ?_⟩
    refine ite2 (fun h1 => ?_) (fun h1 => ?_)
    · have h1 := of_dec h1
      refine ⟨_, rfl, _, _, rfl, .inl ⟨_, hS, rfl⟩, _, _, rfl, rfl, _, rfl, ?_⟩
      rw [vb_len]
      refine ite2 (fun h2 => ?_) (fun h2 => ?_)
      · have h2 : j < b.length := by have := of_dec h2; omega
        obtain ⟨d, r, e2⟩ := drop_cons h2
        refine ⟨_, rfl, _, rfl, a, _, _, _, rfl, rfl, hS, atI_vb e2, d, rfl, ?_⟩
        rw [e2] at k
        dsimp only at k
        rw [← e2, List.length_drop, List.length_drop, decide_eq_true (by omega), Bool.true_and] at k
        exact k
      · have h2 := not_dec h2
        rw [drop_nil (by omega)] at k
        exact k
    · have h1 := not_dec h1
      have : j = i := by omega
      subst this
      refine ⟨_, rfl, iteF ?_⟩
      cases e2 : b.drop j with
      | nil => rw [e2] at k; exact k
      | cons d r =>
        rw [e2] at k
        dsimp only at k
        rw [decide_eq_false (by omega), Bool.false_and] at k
        exact k
end
end Pg
end
section
set_option Elab.async false
set_option linter.all false
set_option maxRecDepth 100000
set_option maxHeartbeats 4000000
namespace Pg
open PySem PySem.Spec PyProof.Rows L2
section
variable {P : Program} {w : World} {K : PySem.W.Frag} {mg : Str → Option Value} {base : Heap} {c : Cs}
theorem cal_read_attribute (T : Txt K mg c) : Cal P w K mg base "read_attribute" 8 (spRd K c (fun _ => True) attrAtX (repA c)) := by
  have c_end_of_blanks := cal_end_of_blanks (P := P) (w := w) (base := base) T
  have c_read_name := cal_read_name (P := P) (w := w) (base := base) T
  have c_read_value := cal_read_value (P := P) (w := w) (base := base) T
  have m_Piece := mk_Piece (P := P) (w := w) (base := base) T
  have m_Attribute := mk_Attribute (P := P) (w := w) (base := base) T
  obtain ⟨f, fd, hm, F⟩ := T.f_read_attribute
  refine ⟨f, fd, ["t", "at"], hm, F.kp, F.binds fun _ _ _ _ _ _ us hl => match us, hl with | [_, _], _ => rfl, ?_⟩
  refine F.ok sc_read_attribute (fun vs H Q E h => ?_) (fun cdv A outer s H vs Q E hr h => ?_)
  · obtain ⟨a, b, i, rfl, _⟩ := h
    rfl
  · obtain ⟨a, b, i, rfl, hS, hi, hL, _, k0, k1⟩ := h
    refine ⟨_, (pss_cons (ps_set (i := 2) sc_read_attribute.nd rfl (Or.inl rfl) (pe_fn c_read_name (hr.mono (by decide)) (pa_cons (pv 0) (pa_cons (pe_fn c_end_of_blanks (hr.mono (by decide)) (pa_cons (pv 0) (pa_cons (pv 1) pa_nil))) pa_nil))))
      (pss_cons (ps_if (pt_cmp (pc_isN (pv 2))) (pss_one (ps_ret pe_non)) pss_nil)
      (pss_cons (ps_set (i := 3) sc_read_attribute.nd rfl (Or.inl rfl) (pe_fn c_read_value (hr.mono (by decide)) (pa_cons (pv 0) (pa_cons (pe_fld (pv 2) rfl) pa_nil))))
      (pss_cons (ps_if (pt_cmp (pc_isN (pv 3))) (pss_one (ps_ret pe_non)) pss_nil)
      (pss_one (ps_ret (pe_mk m_Piece (hr.mono (by decide)) (pa_cons (pe_mk m_Attribute (hr.mono (by decide)) (pa_cons (pe_fld (pv 2) rfl) (pa_cons (pe_fld (pv 3) rfl) pa_nil))) (pa_cons (pe_fld (pv 3) rfl) pa_nil))))))))), ?_⟩
    unfold attrAtX at k0 k1
    rw [attr1_value] at k0 k1
    refine ⟨_, rfl, _, rfl, _, rfl, a, b, i, rfl, hS, hi, fun j hj hj2 e => ?_⟩
    rw [← e] at k0 k1
    refine ⟨a, b, j, rfl, hS, hj2, hL, trivial, fun z H1 s1 => ?_, fun n r j2 H1 p v z z1 z2 z3 s1 z4 z5 => ?_⟩
    · exact ⟨_, rfl, _, rfl, isN_non (k0 (by rw [z]; rfl) _ s1)⟩
    · obtain ⟨dp, z4'⟩ := z4.mono nw_same
      rw [z] at k0 k1
      refine ⟨_, rfl, _, rfl, isN_ref ?_⟩
      refine ⟨_, rfl, _, rfl, p, c.Piece, dp, _, _, rfl, z4', T.cl_Piece, T.no_Piece_end, rfl, a, b, j2, rfl, s1.seq hS, z3, hL, trivial, fun y H2 s2 => ?_, fun v2 r2 j3 H2 p2 u2 y y1 y2 y3 s2 y4 y5 => ?_⟩
      · rw [z1] at y
        exact ⟨_, rfl, _, rfl, isN_non (k0 (by simp only [Option.bind_some]; rw [y]; rfl) _ (s1.trans s2))⟩
      · obtain ⟨dp2, y4'⟩ := y4.mono nw_same
        rw [z1] at y
        refine ⟨_, rfl, _, rfl, isN_ref ?_⟩
        refine ⟨_, rfl, p, c.Piece, dp, _, _, rfl, s2 _ _ z4', T.cl_Piece, T.no_Piece_content, rfl, _, rfl, p2, c.Piece, dp2, _, _, rfl, y4', T.cl_Piece, T.no_Piece_content, rfl, fun x3 d3 n3 m3 e3 => ⟨x3, d3, _, _, rfl, upd_same, fun H3 q3 => ⟨rfl, ?_⟩⟩⟩
        have q3 := q3.trans upd2
        subst q3
        refine ⟨_, rfl, p2, c.Piece, dp2, _, _, rfl, mk_same n3 m3 _ _ y4', T.cl_Piece, T.no_Piece_end, rfl, fun x4 d4 n4 m4 e4 => ⟨x4, d4, _, _, rfl, upd_same, fun H4 q4 => ⟨rfl, ?_⟩⟩⟩
        have q4 := q4.trans upd2
        subst q4
        obtain ⟨ln, rfl, z6⟩ := z5
        obtain ⟨lv, rfl, y6⟩ := y5
        have s12 := s1.trans s2
        have s3 := mk_same (C := c.Attribute) (fs := [("name", .ref ln), ("value", .ref lv)]) n3 m3
        have s4 := mk_same (C := c.Piece) (fs := [("content", .ref x3), ("end", .int (j3 : Int))]) n4 m4
        have s123 := s12.trans s3
        refine k1 (n, v2) r2 j3 _ x4 _ (by simp only [Option.bind_some]; rw [y]; rfl) y1 (by omega) y3 (s123.trans s4) (piece_at s123 n4) ⟨x3, rfl, ln, lv, ⟨d3, ?_⟩, ?_, ?_⟩
        · exact nw_left s4 _ _ (nw_right s12 _ _ (mk_nw n3))
        · exact z6.mono (nw_left (s2.trans (s3.trans s4)))
        · exact (y6.mono (nw_right s1)).mono (nw_left (s3.trans s4))
def spAttrs (K : PySem.W.Frag) (c : Cs) : Sp := fun vs H Q _ => ∃ (a : Addr) (b : List Nat) (i : Nat), vs = [.ref a, .int (i : Int)] ∧ Tt K H a b ∧ i ≤ b.length ∧ b.length ≤ 16384 ∧
  (attrsX (b.drop i) = none → ∀ H', Same H H' → Q .non H') ∧
  ∀ as j H' p l, (attrsX (b.drop i) = if stSmall (b.drop j) = true then none else some (as, (b.drop j).dropWhile Kp172.blank)) → i ≤ j → j ≤ b.length → as.length ≤ 4000 → Same H H' → PieceAt c (nw H H') p (.ref l) j → AttrsAt c (nw H H') l as → Q (.ref p) H'
theorem cal_read_attributes (T : Txt K mg c) : Cal P w K mg base "read_attributes" 9 (spAttrs K c) := by
  have c_attribute_begins := cal_attribute_begins (P := P) (w := w) (base := base) T
  have c_read_attribute := cal_read_attribute (P := P) (w := w) (base := base) T
  have m_Piece := mk_Piece (P := P) (w := w) (base := base) T
  obtain ⟨f, fd, hm, F⟩ := T.f_read_attributes
  refine ⟨f, fd, ["t", "at"], hm, F.kp, F.binds fun _ _ _ _ _ _ us hl => match us, hl with | [_, _], _ => rfl, ?_⟩
  refine F.ok sc_read_attributes (fun vs H Q E h => ?_) (fun cdv A outer s H vs Q E hr h => ?_)
  · obtain ⟨a, b, i, rfl, _⟩ := h
    rfl
  · obtain ⟨a, b, i, rfl, hS, hi, hL, k0, k1⟩ := h
    refine ⟨_, (pss_cons (ps_set (i := 2) sc_read_attributes.nd rfl (Or.inl rfl) (pe_lst pa_nil))
      (pss_cons (ps_while PassesOwn.never (pt_val (pe_fn c_attribute_begins (hr.mono (by decide)) (pa_cons (pv 0) (pa_cons (pv 1) pa_nil)))) (pss_cons (ps_set (i := 3) sc_read_attributes.nd rfl (Or.inl rfl) (pe_fn c_read_attribute (hr.mono (by decide)) (pa_cons (pv 0) (pa_cons (pv 1) pa_nil))))
      (pss_cons (ps_if (pt_cmp (pc_isN (pv 3))) (pss_one (ps_ret pe_non)) pss_nil)
      (pss_cons (ps_expr (pe_bm PySem.F.plainAttrs_list PySem.F.slot_list_append PySem.F.type_list_append mt_append (pv 2) (pa_cons (pe_fld (pv 3) rfl) pa_nil)))
      (pss_one (ps_set (i := 1) sc_read_attributes.nd rfl (Or.inl rfl) (pe_fld (pv 3) rfl)))))))
      (pss_one (ps_ret (pe_mk m_Piece (hr.mono (by decide)) (pa_cons (pv 2) (pa_cons (pv 1) pa_nil))))))), ?_⟩
    refine ⟨Nat.zero_le _, fun L hLn => ?_⟩
    refine wh (fun m σ H' => ∃ (j : Nat) (ps : List Addr) (as : List (List Nat × List Nat)) (u : Option V), σ = [some (.ref a), some (.int (j : Int)), some (.ref L), u] ∧ Same H H' ∧ H' L = some (.lst (ps.map V.ref)) ∧ Paired (AttrAt c (nw H (del H' L))) ps as ∧ i ≤ j ∧ j ≤ b.length ∧ 5 * as.length ≤ j - i ∧ m = b.length - j ∧ attrsX (b.drop i) = (attrsX (b.drop j)).map fun x => (as ++ x.1, x.2))
      (fun σ H' => ∃ (j : Nat) (ps : List Addr) (as : List (List Nat × List Nat)) (u : Option V), σ = [some (.ref a), some (.int (j : Int)), some (.ref L), u] ∧ Same H H' ∧ H' L = some (.lst (ps.map V.ref)) ∧ Paired (AttrAt c (nw H (del H' L))) ps as ∧ i ≤ j ∧ j ≤ b.length ∧ as.length ≤ 4000 ∧ (attrsX (b.drop i) = if stSmall (b.drop j) = true then none else some (as, (b.drop j).dropWhile Kp172.blank))) ?_ ⟨_, i, [], [], none, rfl, same_upd hLn, upd_same, .nil, Nat.le_refl _, hi, Nat.zero_le _, rfl, ?_⟩ fun out => ?_
    · rintro σ H' ⟨j, ps, as, u, rfl, s1, h1, h2, h3, h4, h5, h6⟩
      refine ⟨_, rfl, _, rfl, fun y dx nx nd ne => ⟨y, dx, _, _, rfl, upd_same, fun H3 e3 => ⟨rfl, ?_⟩⟩⟩
      have e3 := e3.trans upd2
      subst e3
      refine k1 as j _ y L h6 h3 h4 h5 (s1.trans (mk_same nx nd)) (piece_at s1 nx) ⟨ps, nw_of hLn (mk_same nx nd _ _ h1), paired_mono h2 fun _ _ q => q.mono (nw_left (same_del.trans (mk_same nx nd)))⟩
    · cases attrsX (b.drop i) <;> rfl
    · rintro m σ H' ⟨j, ps, as, u, rfl, s1, h1, h2, h3, h4, h5, rfl, h6⟩
      refine ⟨_, rfl, _, rfl, a, b, j, rfl, s1.seq hS, h4, _, rfl, ?_⟩
      refine ite2 (fun hb => ?_) (fun hb => ?_)
      · rw [attrs_go hb] at h6
        refine ⟨fun σ' H2 => ∃ (j2 : Nat) (p : Addr) (x : List Nat × List Nat) (u : Option V), σ' = [some (.ref a), some (.int (j2 : Int)), some (.ref L), u] ∧ Same H H2 ∧ H2 L = some (.lst ((ps ++ [p]).map V.ref)) ∧ Paired (AttrAt c (nw H (del H2 L))) (ps ++ [p]) (as ++ [x]) ∧ j < j2 ∧ j2 ≤ b.length ∧ 5 * (as ++ [x]).length ≤ j2 - i ∧ attrAtX (b.drop j) = some (x, b.drop j2), ?_, ?_⟩
        · rintro σ' H2 ⟨j2, p, x, u, rfl, s2, q1, q2, q3, q4, q5, q6⟩
          refine ⟨b.length - j2, by omega, j2, ps ++ [p], as ++ [x], u, rfl, s2, q1, q2, by omega, q4, q5, rfl, ?_⟩
          rw [h6, q6]
          simp only [Option.bind_some, Option.map_map]
          cases attrsX (b.drop j2) with
          | none => rfl
          | some z => simp
        · refine ⟨_, rfl, _, rfl, a, b, j, rfl, s1.seq hS, h4, hL, trivial, fun z H3 s3 => ?_, fun x r' j2 H3 p v' z z1 z2 z3 s3 z4 z5 => ?_⟩
          · exact ⟨_, rfl, _, rfl, isN_non (k0 (by rw [h6, z]; rfl) _ (s1.trans s3))⟩
          · obtain ⟨dp, z4'⟩ := z4.mono nw_same
            obtain ⟨q, rfl, z6⟩ := z5
            refine ⟨_, rfl, _, rfl, isN_ref ?_⟩
            have nLp : p ≠ L := ne_of z4' (s3 _ _ h1) (by intro q; cases q)
            have lz : r'.length + 5 ≤ (b.drop j).length := attrAt_len hb z
            have l2 := congrArg List.length z1
            rw [List.length_drop] at lz l2
            have lp : ps.length = as.length := Paired.length h2
            refine ⟨_, rfl, .inl ⟨rfl, _, SqL.of (s3 _ _ h1)⟩, _, rfl, p, c.Piece, dp, _, _, rfl, z4', T.cl_Piece, T.no_Piece_content, rfl, L, _, _, rfl, rfl, s3 _ _ h1, by rw [List.length_map, sizeLine_eq]; omega, ?_⟩
            refine ⟨_, rfl, p, c.Piece, dp, _, _, rfl, (upd_ne nLp).trans z4', T.cl_Piece, T.no_Piece_end, rfl, ?_⟩
            refine ⟨j2, q, x, _, rfl, same_upd' (s1.trans s3) hLn, by rw [upd_same, List.map_append]; rfl, ?_, by omega, z3, by rw [List.length_append]; simp; omega, by rw [z1]; exact z⟩
            rw [del_upd]
            exact paired_app (paired_mono h2 fun _ _ q => q.mono (nw_left (Same.del s3 L))) (.cons (z6.mono (nw_del2 s1 h1)) .nil)
      · have hb : begs (b.drop j) = false := by simpa using hb
        refine out _ _ ⟨j, ps, as, u, rfl, s1, h1, h2, h3, h4, by omega, ?_⟩
        rw [h6, attrs_stop hb]
        by_cases q : stSmall (b.drop j) = true
        · rw [if_pos q, if_pos q]; rfl
        · rw [if_neg q, if_neg q]; simp
end
end Pg
end
section
set_option Elab.async false
set_option linter.all false
set_option maxRecDepth 100000
set_option maxHeartbeats 4000000
namespace Pg
open PySem PySem.Spec PyProof.Rows L2
section
variable {P : Program} {w : World} {K : PySem.W.Frag} {mg : Str → Option Value} {base : Heap} {c : Cs}
def BegAt (c : Cs) (G : Hp) (p q : Addr) (e : Bool) (j : Nat) : Prop := InsAt G p c.Beginning [("opening", .ref q), ("closed", .bl e), ("end", .int (j : Int))]
def spBeg (K : PySem.W.Frag) (c : Cs) : Sp := fun vs H Q _ => ∃ (a : Addr) (b : List Nat) (i : Nat) (r0 : List Nat), vs = [.ref a, .int (i : Int)] ∧ Tt K H a b ∧ b.drop i = 60 :: r0 ∧ b.length ≤ 16384 ∧
  (Kp172.tag r0 = none → ∀ H', Same H H' → Q .non H') ∧
  ∀ n as e z j H' p q, Kp172.tag r0 = some (n, as, e, z) → b.drop j = z → i ≤ j → j ≤ b.length → as.length ≤ 4000 → Same H H' → BegAt c (nw H H') p q e j → OpenAt c (nw H H') q n as → Q (.ref p) H'
theorem cal_read_beginning (T : Txt K mg c) : Cal P w K mg base "read_beginning" 10 (spBeg K c) := by
  have c_end_of_blanks := cal_end_of_blanks (P := P) (w := w) (base := base) T
  have c_read_name := cal_read_name (P := P) (w := w) (base := base) T
  have c_read_attributes := cal_read_attributes (P := P) (w := w) (base := base) T
  have c_stands_at := cal_stands_at (P := P) (w := w) (base := base) T
  have m_Opening := mk_Opening (P := P) (w := w) (base := base) T
  have m_Beginning := mk_Beginning (P := P) (w := w) (base := base) T
  obtain ⟨f, fd, hm, F⟩ := T.f_read_beginning
  refine ⟨f, fd, ["t", "at"], hm, F.kp, F.binds fun _ _ _ _ _ _ us hl => match us, hl with | [_, _], _ => rfl, ?_⟩
  refine F.ok sc_read_beginning (fun vs H Q E h => ?_) (fun cdv A outer s H vs Q E hr h => ?_)
  · obtain ⟨a, b, i, r0, rfl, _⟩ := h
    rfl
  · obtain ⟨a, b, i, r0, rfl, hS, h0, hL, k0, k1⟩ := h
    refine ⟨_, (pss_cons (ps_set (i := 2) sc_read_beginning.nd rfl (Or.inl rfl) (pe_fn c_read_name (hr.mono (by decide)) (pa_cons (pv 0) (pa_cons (pe_op op_add (pv 1) pe_int) pa_nil))))
      (pss_cons (ps_if (pt_cmp (pc_isN (pv 2))) (pss_one (ps_ret pe_non)) pss_nil)
      (pss_cons (ps_set (i := 3) sc_read_beginning.nd rfl (Or.inl rfl) (pe_fn c_read_attributes (hr.mono (by decide)) (pa_cons (pv 0) (pa_cons (pe_fld (pv 2) rfl) pa_nil))))
      (pss_cons (ps_if (pt_cmp (pc_isN (pv 3))) (pss_one (ps_ret pe_non)) pss_nil)
      (pss_cons (ps_set (i := 4) sc_read_beginning.nd rfl (Or.inl rfl) (pe_mk m_Opening (hr.mono (by decide)) (pa_cons (pe_fld (pv 2) rfl) (pa_cons (pe_fld (pv 3) rfl) pa_nil))))
      (pss_cons (ps_set (i := 5) sc_read_beginning.nd rfl (Or.inl rfl) (pe_fn c_end_of_blanks (hr.mono (by decide)) (pa_cons (pv 0) (pa_cons (pe_fld (pv 3) rfl) pa_nil))))
      (pss_cons (ps_if (pt_val (pe_fn c_stands_at (hr.mono (by decide)) (pa_cons (pv 0) (pa_cons (pv 5) (pa_cons pe_str pa_nil))))) (pss_one (ps_ret (pe_mk m_Beginning (hr.mono (by decide)) (pa_cons (pv 4) (pa_cons pe_bl (pa_cons (pe_op op_add (pv 5) pe_int) pa_nil)))))) pss_nil)
      (pss_cons (ps_if (pt_val (pe_fn c_stands_at (hr.mono (by decide)) (pa_cons (pv 0) (pa_cons (pv 5) (pa_cons pe_str pa_nil))))) (pss_one (ps_ret (pe_mk m_Beginning (hr.mono (by decide)) (pa_cons (pv 4) (pa_cons pe_bl (pa_cons (pe_op op_add (pv 5) pe_int) pa_nil)))))) pss_nil)
      (pss_one (ps_ret pe_non)))))))))), ?_⟩
    have hi := lt_drop h0
    rw [tag_eq, ← next_drop h0] at k0 k1
    refine ⟨_, rfl, _, rfl, _, _, rfl, rfl, a, b, i + 1, rfl, hS, hi, hL, trivial, fun z H1 s1 => ?_, fun n r j1 H1 p v z z1 z2 z3 s1 z4 z5 => ?_⟩
    · exact ⟨_, rfl, _, rfl, isN_non (k0 (by rw [z]; rfl) _ s1)⟩
    · obtain ⟨dp, z4'⟩ := z4.mono nw_same
      obtain ⟨ln, rfl, z6⟩ := z5
      rw [z] at k0 k1
      simp only [Option.bind_some] at k0 k1
      refine ⟨_, rfl, _, rfl, isN_ref ?_⟩
      refine ⟨_, rfl, _, rfl, p, c.Piece, dp, _, _, rfl, z4', T.cl_Piece, T.no_Piece_end, rfl, a, b, j1, rfl, s1.seq hS, z3, hL, fun y H2 s2 => ?_, fun as j2 H2 p2 la y y1 y2 yl s2 y4 y5 => ?_⟩
      · rw [z1] at y
        exact ⟨_, rfl, _, rfl, isN_non (k0 (by rw [y]; rfl) _ (s1.trans s2))⟩
      · obtain ⟨dp2, y4'⟩ := y4.mono nw_same
        rw [z1] at y
        have s12 := s1.trans s2
        refine ⟨_, rfl, _, rfl, isN_ref ?_⟩
        refine ⟨_, rfl, p, c.Piece, dp, _, _, rfl, s2 _ _ z4', T.cl_Piece, T.no_Piece_content, rfl, _, rfl, p2, c.Piece, dp2, _, _, rfl, y4', T.cl_Piece, T.no_Piece_content, rfl, fun x3 d3 n3 m3 e3 => ⟨x3, d3, _, _, rfl, upd_same, fun H3 q3 => ⟨rfl, ?_⟩⟩⟩
        have q3 := q3.trans upd2
        subst q3
        have s3 := mk_same (C := c.Opening) (fs := [("name", .ref ln), ("attributes", .ref la)]) n3 m3
        have s123 := s12.trans s3
        have hO : OpenAt c (nw H (mk H2 x3 d3 c.Opening [("name", .ref ln), ("attributes", .ref la)])) x3 n as :=
          ⟨ln, la, ⟨d3, nw_right s12 _ _ (mk_nw n3)⟩, z6.mono (nw_left (s2.trans s3)), (y5.mono (nw_right s1)).mono (nw_left s3)⟩
        refine ⟨_, rfl, _, rfl, p2, c.Piece, dp2, _, _, rfl, s3 _ _ y4', T.cl_Piece, T.no_Piece_end, rfl, a, b, j2, rfl, s123.seq hS, y2, fun j3 hj hj3 e3 => ?_⟩
        refine ⟨_, rfl, _, rfl, a, b, j3, "/>", rfl, s123.seq hS, hj3, by decide, fun H4 s4 => ⟨_, rfl, ?_⟩⟩
        refine ite2 (fun hb => ?_) (fun hb => ?_)
        · have hb : (b.drop j3).take 2 = [47, 62] := of_dec hb
          obtain ⟨g2, l2⟩ := place_of (stands_app (w := [47, 62]) hb) hj3
          have ef : Kp172.front [47, 62] ((b.drop j2).dropWhile Kp172.blank) = some (b.drop (j3 + 2)) := by
            rw [← e3]
            refine (front_is (w := [47, 62]) hb).trans ?_
            rw [List.drop_drop]
            rfl
          have ns : ¬ stSmall (b.drop j2) = true := by
            intro q
            unfold stSmall at q
            cases e5 : b.drop j2 with
            | nil => rw [e5] at q; cases q
            | cons d t =>
              rw [e5] at q e3
              dsimp only at q
              rw [List.dropWhile_cons, small_blank q, if_neg (by simp)] at e3
              rw [e3] at hb
              have : d = 47 := by
                have := congrArg List.head? hb
                simpa using this
              rw [this] at q
              cases q
          rw [if_neg ns] at y
          refine ⟨_, rfl, _, rfl, _, _, rfl, rfl, fun x5 d5 n5 m5 e5 => ⟨x5, d5, _, _, _, rfl, upd_same, fun H5 q5 => ⟨rfl, ?_⟩⟩⟩
          have q5 := q5.trans upd2
          subst q5
          have s5 := mk_same (C := c.Beginning) (fs := [("opening", .ref x3), ("closed", .bl true), ("end", .int ((j3 : Int) + 2))]) n5 m5
          refine k1 n as true _ (j3 + 2) _ x5 x3 (by rw [y]; simp only [Option.bind_some]; rw [ef]) rfl (by omega) l2 yl ((s123.trans s4).trans s5) ⟨d5, nw_right (s123.trans s4) _ _ (mk_nw n5)⟩ (hO.mono (nw_left (s4.trans s5)))
        · have hb : ¬ (b.drop j3).take 2 = [47, 62] := not_dec hb
          have ef : Kp172.front [47, 62] ((b.drop j2).dropWhile Kp172.blank) = none := by
            rw [← e3]
            exact front_no hb
          refine ⟨_, rfl, _, rfl, a, b, j3, ">", rfl, (s123.trans s4).seq hS, hj3, by decide, fun H5 s5 => ⟨_, rfl, ?_⟩⟩
          refine ite2 (fun hc => ?_) (fun hc => ?_)
          · have hc : (b.drop j3).take 1 = [62] := of_dec hc
            obtain ⟨g2, l2⟩ := place_of (stands_app (w := [62]) hc) hj3
            have eg : Kp172.front [62] ((b.drop j2).dropWhile Kp172.blank) = some (b.drop (j3 + 1)) := by
              rw [← e3]
              refine (front_is (w := [62]) hc).trans ?_
              rw [List.drop_drop]
              rfl
            have ns : ¬ stSmall (b.drop j2) = true := by
              intro q
              unfold stSmall at q
              cases e5 : b.drop j2 with
              | nil => rw [e5] at q; cases q
              | cons d t =>
                rw [e5] at q e3
                dsimp only at q
                rw [List.dropWhile_cons, small_blank q, if_neg (by simp)] at e3
                rw [e3] at hc
                have : d = 62 := by
                  have := congrArg List.head? hc
                  simpa using this
                rw [this] at q
                cases q
            rw [if_neg ns] at y
            refine ⟨_, rfl, _, rfl, _, _, rfl, rfl, fun x6 d6 n6 m6 e6 => ⟨x6, d6, _, _, _, rfl, upd_same, fun H6 q6 => ⟨rfl, ?_⟩⟩⟩
            have q6 := q6.trans upd2
            subst q6
            have s45 := (s123.trans s4).trans s5
            have s6 := mk_same (C := c.Beginning) (fs := [("opening", .ref x3), ("closed", .bl false), ("end", .int ((j3 : Int) + 1))]) n6 m6
            refine k1 n as false _ (j3 + 1) _ x6 x3 (by rw [y]; simp only [Option.bind_some]; rw [ef, eg]; rfl) rfl (by omega) l2 yl (s45.trans s6) ⟨d6, nw_right s45 _ _ (mk_nw n6)⟩ (hO.mono (nw_left (s4.trans (s5.trans s6))))
          · have hc : ¬ (b.drop j3).take 1 = [62] := not_dec hc
            have eg : Kp172.front [62] ((b.drop j2).dropWhile Kp172.blank) = none := by
              rw [← e3]
              exact front_no hc
            refine k0 ?_ _ ((s123.trans s4).trans s5)
            rw [y]
            by_cases q : stSmall (b.drop j2) = true
            · rw [if_pos q]; rfl
            · rw [if_neg q]; simp only [Option.bind_some]; rw [ef, eg]; rfl
theorem cal_read_end (T : Txt K mg c) : Cal P w K mg base "read_end" 4 (spRd K c (fun s => 2 ≤ s.length) (fun s => Kp172.ending (s.drop 2)) (repC c)) := by
  have c_end_of_blanks := cal_end_of_blanks (P := P) (w := w) (base := base) T
  have c_read_name := cal_read_name (P := P) (w := w) (base := base) T
  have c_stands_at := cal_stands_at (P := P) (w := w) (base := base) T
  have m_Piece := mk_Piece (P := P) (w := w) (base := base) T
  have m_Closing := mk_Closing (P := P) (w := w) (base := base) T
  obtain ⟨f, fd, hm, F⟩ := T.f_read_end
  refine ⟨f, fd, ["t", "at"], hm, F.kp, F.binds fun _ _ _ _ _ _ us hl => match us, hl with | [_, _], _ => rfl, ?_⟩
  refine F.ok sc_read_end (fun vs H Q E h => ?_) (fun cdv A outer s H vs Q E hr h => ?_)
  · obtain ⟨a, b, i, rfl, _⟩ := h
    rfl
  · obtain ⟨a, b, i, rfl, hS, hi, hL, hp, k0, k1⟩ := h
    rw [List.length_drop] at hp
    simp only [List.drop_drop, ending_eq] at k0 k1
    refine ⟨_, (pss_cons (ps_set (i := 2) sc_read_end.nd rfl (Or.inl rfl) (pe_fn c_read_name (hr.mono (by decide)) (pa_cons (pv 0) (pa_cons (pe_op op_add (pv 1) pe_int) pa_nil))))
      (pss_cons (ps_if (pt_cmp (pc_isN (pv 2))) (pss_one (ps_ret pe_non)) pss_nil)
      (pss_cons (ps_set (i := 3) sc_read_end.nd rfl (Or.inl rfl) (pe_fn c_end_of_blanks (hr.mono (by decide)) (pa_cons (pv 0) (pa_cons (pe_fld (pv 2) rfl) pa_nil))))
      (pss_cons (ps_if (pt_not (pt_val (pe_fn c_stands_at (hr.mono (by decide)) (pa_cons (pv 0) (pa_cons (pv 3) (pa_cons pe_str pa_nil)))))) (pss_one (ps_ret pe_non)) pss_nil)
      (pss_one (ps_ret (pe_mk m_Piece (hr.mono (by decide)) (pa_cons (pe_mk m_Closing (hr.mono (by decide)) (pa_cons (pe_fld (pv 2) rfl) pa_nil)) (pa_cons (pe_op op_add (pv 3) pe_int) pa_nil))))))))), ?_⟩
    refine ⟨_, rfl, _, rfl, _, _, rfl, rfl, a, b, i + 2, rfl, hS, by omega, hL, trivial, fun z H1 s1 => ?_, fun n r j1 H1 p v z z1 z2 z3 s1 z4 z5 => ?_⟩
    · exact ⟨_, rfl, _, rfl, isN_non (k0 (by rw [z]; rfl) _ s1)⟩
    · obtain ⟨dp, z4'⟩ := z4.mono nw_same
      obtain ⟨ln, rfl, z6⟩ := z5
      rw [z] at k0 k1
      simp only [Option.bind_some] at k0 k1
      refine ⟨_, rfl, _, rfl, isN_ref ?_⟩
      refine ⟨_, rfl, _, rfl, p, c.Piece, dp, _, _, rfl, z4', T.cl_Piece, T.no_Piece_end, rfl, a, b, j1, rfl, s1.seq hS, z3, fun j3 hj hj3 e3 => ?_⟩
      refine ⟨_, rfl, _, rfl, a, b, j3, ">", rfl, s1.seq hS, hj3, by decide, fun H4 s4 => ⟨_, rfl, ?_⟩⟩
      rw [← z1, ← e3] at k0 k1
      refine ite2 (fun hb => ?_) (fun hb => ?_)
      · have hb : ¬ (b.drop j3).take 1 = [62] := nd_true hb
        have ef : Kp172.front [62] (b.drop j3) = none := front_no hb
        exact k0 (by rw [ef]; rfl) _ (s1.trans s4)
      · have hb : (b.drop j3).take 1 = [62] := nd_false hb
        obtain ⟨g2, l2⟩ := place_of (stands_app (w := [62]) hb) hj3
        have ef : Kp172.front [62] (b.drop j3) = some (b.drop (j3 + 1)) := by
          refine (front_is (w := [62]) hb).trans ?_
          rw [List.drop_drop]
          rfl
        rw [ef] at k1
        refine ⟨_, rfl, p, c.Piece, dp, _, _, rfl, s4 _ _ z4', T.cl_Piece, T.no_Piece_content, rfl, fun x5 d5 n5 m5 e5 => ⟨x5, d5, _, rfl, upd_same, fun H5 q5 => ⟨rfl, ?_⟩⟩⟩
        have q5 := q5.trans upd2
        subst q5
        have s5 := mk_same (C := c.Closing) (fs := [("name", .ref ln)]) n5 m5
        refine ⟨_, rfl, _, _, rfl, rfl, fun x6 d6 n6 m6 e6 => ⟨x6, d6, _, _, rfl, upd_same, fun H6 q6 => ⟨rfl, ?_⟩⟩⟩
        have q6 := q6.trans upd2
        subst q6
        have s14 := s1.trans s4
        have s145 := s14.trans s5
        have s6 := mk_same (C := c.Piece) (fs := [("content", .ref x5), ("end", .int (((j3 + 1 : Nat)) : Int))]) n6 m6
        refine k1 n _ (j3 + 1) _ x6 _ rfl rfl (by omega) l2 (s145.trans s6) (piece_at s145 n6) ⟨x5, rfl, ln, ⟨d5, nw_left s6 _ _ (nw_right s14 _ _ (mk_nw n5))⟩, z6.mono (nw_left (s4.trans (s5.trans s6)))⟩
def tupN (K : PySem.W.Frag) : TE := tCB (fun xs H Q => ∃ p ys, xs = [V.ref p] ∧ ((SqL K H p ys ∧ ∀ l, H l = none → Q (.ref l) (upd H l (.tup ys))) ∨ (SqT K H p ys ∧ Q (.ref p) H))) (tCons (tFld K (tVar 2) "name") tNil)
def spSame (K : PySem.W.Frag) (c : Cs) : Sp := fun vs H Q _ => ∃ (p : Addr) (n : List Nat) (as : List (List Nat × List Nat)), vs = [.ref p] ∧ OpenAt c H p n as ∧ as.length ≤ 4000 ∧ ∀ H', Same H H' → Q (.bl (!Kp172.distinct (as.map Prod.fst))) H'
theorem cal_has_same_names (T : Txt K mg c) : CalM P w K mg base c.Opening "has_same_names" 1 (spSame K c) := by
  obtain ⟨f, fd, M, F⟩ := T.m_Opening_has_same_names
  refine ⟨T.cl_Opening, f, fd, ["self"], M, F.binds fun _ _ _ _ _ _ us hl => match us, hl with | [_], _ => rfl, ?_⟩
  refine F.ok sc_Opening_has_same_names (fun vs H Q E h => ?_) (fun cdv A outer s H vs Q E hr h => ?_)
  · obtain ⟨p, n, as, rfl, _⟩ := h
    rfl
  · obtain ⟨p, n, as, rfl, ⟨ln, la, ⟨dp, hp⟩, hn, ps, hla, hps⟩, hl, k⟩ := h
    refine ⟨_, (pss_cons (ps_setLc (i := 1) (te := tupN K) rfl sc_Opening_has_same_names.nd rfl rfl rfl (pi_list (pe_fld (pv 0) rfl)) (blkOk_by (own := [("attribute", 2)]) (show blkC ["self", "names", "attribute"] (defScope s_Opening_has_same_names) _ [("attribute", 2)] = true by decide +kernel)) (fun _ _ _ _ _ => pg_name (i := 2) sc_Opening_has_same_names.nd rfl (Or.inl rfl)) (fun _ _ _ _ _ => pts_nil) (fun _ _ _ _ _ => pe_callTy call_tuple_of (by rfl) T.n_tuple PyProof.Rows.boot_tuple (pa_cons (pe_fld (pv 2) rfl) pa_nil)))
      (pss_one (ps_ret (pe_cmpR op_lt (pe_callB call_lenS (by rfl) T.n_len PySem.boot_len (pa_cons (pe_callTy (call_setT rfl (Nat.lt_of_le_of_lt (Nat.add_le_add_left (by decide : 16 ≤ 64) _) hr.units)) (by rfl) T.n_set PyProof.Rows.boot_set (pa_cons (pv 1) pa_nil)) pa_nil)) (pe_callB call_len (by rfl) T.n_len PySem.boot_len (pa_cons (pv 1) pa_nil)) (nomark _))))), ?_⟩
    refine ⟨_, rfl, p, c.Opening, dp, _, _, rfl, hp, T.cl_Opening, T.no_Opening_attributes, rfl, la, rfl, ⟨_, SqL.of hla⟩, fun D hD => ?_⟩
    have lp : ps.length = as.length := Paired.length hps
    refine lc_list (xs := ps.map V.ref) (fun m H' => ∃ ts : List Addr, Same H H' ∧ H' D = some (.lst (ts.map V.ref)) ∧ Paired (fun a vs => H' a = some (.tup (vi vs))) ts ((as.take m).map fun x => ib x.1)) ⟨[], same_upd hD, upd_same, .nil⟩ (fun m H' _ ⟨ts, s1, _⟩ => SqL.of (s1 _ _ hla)) ?_ ?_
    · rintro H' ⟨ts, s1, h1, h2⟩
      rw [List.length_map, lp, List.take_length] at h2
      have lt : ts.length = as.length := by have := Paired.length h2; rw [List.length_map] at this; exact this
      refine ⟨_, rfl, D, ts, _, rfl, SqL.of h1, by omega, h2, fun S m hSn hm hm2 => ?_⟩
      refine ⟨S, m, rfl, upd_same, ?_⟩
      refine ⟨_, rfl, _, _, rfl, .inl ⟨_, SqL.of (same_upd hSn _ _ h1), rfl⟩, _, _, rfl, rfl, ?_⟩
      rw [List.length_map]
      have ed : decide ((m : Int) < (ts.length : Int)) = !Kp172.distinct (as.map Prod.fst) := by
        have e1 : (as.map Prod.fst).map ib = as.map fun x => ib x.1 := by rw [List.map_map]; rfl
        rw [List.length_map] at hm hm2
        rw [distinct_eq]
        by_cases nd : (as.map Prod.fst).Nodup
        · have q := hm2.mpr (by rw [← e1]; exact (nodup_ib _).mpr nd)
          rw [decide_eq_true nd, decide_eq_false (by omega)]
          rfl
        · have q : ¬ m = as.length := fun z => nd ((nodup_ib _).mp (by rw [e1]; exact hm2.mp z))
          rw [decide_eq_false nd, decide_eq_true (by omega)]
          rfl
      show Q (.bl (decide ((m : Int) < (ts.length : Int)))) _
      rw [ed]
      exact k _ (s1.trans (same_upd hSn))
    · rintro m v H' hv ⟨ts, s1, h1, h2⟩
      have hml : m < ps.length := by
        have := (List.getElem?_eq_some_iff.mp hv).1
        rw [List.length_map] at this
        exact this
      have hq := List.getElem?_eq_getElem hml
      obtain ⟨x, hx, ln', lv, ⟨dq, hqi⟩, hln, hlv⟩ := paired_get hps hq
      have ev : v = V.ref ps[m] := by
        rw [List.getElem?_map, hq] at hv
        exact (Option.some.inj hv).symm
      subst ev
      have lt : ts.length ≤ as.length := by
        have := Paired.length h2
        rw [List.length_map, List.length_take] at this
        omega
      refine ⟨rfl, ?_⟩
      unfold tYes
      dsimp only
      rw [if_pos rfl]
      refine ⟨_, rfl, ps[m], c.Attribute, dq, _, _, rfl, s1 _ _ hqi, T.cl_Attribute, T.no_Attribute_name, rfl, ln', _, rfl, .inl ⟨SqL.of (s1 _ _ hln), fun tp ntp => ?_⟩⟩
      have nD : D ≠ tp := ne_of_none h1 ntp
      refine ⟨_, (upd_ne nD).trans h1, by rw [List.length_map, sizeLine_eq]; omega, ts ++ [tp], same_upd' (s1.trans (same_upd ntp)) hD, by rw [upd_same, List.map_append]; rfl, ?_⟩
      rw [take_snoc hx, List.map_append]
      refine paired_app (paired_mono h2 fun a vs q => ?_) (.cons ?_ .nil)
      · have n1 : a ≠ D := ne_of q h1 (by intro z; cases z)
        rw [upd_ne n1]
        exact same_upd ntp _ _ q
      · rw [upd_ne nD.symm, vi_ib]
        exact upd_same
end
end Pg
end
section
set_option Elab.async false
set_option linter.all false
set_option maxRecDepth 100000
set_option maxHeartbeats 4000000
namespace Pg
open PySem PySem.Spec PyProof.Rows L2
section
variable {P : Program} {w : World} {K : PySem.W.Frag} {mg : Str → Option Value} {base : Heap} {c : Cs}
def spIR (c : Cs) : Sp := fun vs H Q _ => ∃ p dx a, vs = [.ref p, .ref a] ∧ H p = some (.ins c.Reading dx []) ∧
  ∀ M O H', H M = none → H O = none → M ≠ O → H' p = some (.ins c.Reading dx (rf a 0 M O)) → H' M = some (.lst []) → H' O = some (.lst []) → (∀ b o, H b = some o → b ≠ p → H' b = some o) → Q .non H'
theorem mk_Reading (T : Txt K mg c) : CalK P w K mg base "Reading" c.Reading 1 (spIR c) := by
  obtain ⟨f, fd, M, F⟩ := T.i_Reading
  refine ⟨T.k_Reading, f, fd, ["self", "t"], M, F.binds fun _ _ _ _ _ _ us hl => match us, hl with | [_, _], _ => rfl, ?_⟩
  refine F.ok sc_Reading___init__ (fun vs H Q E h => ?_) (fun cdv A outer s H vs Q E hr h => ?_)
  · obtain ⟨p, dx, a, rfl, _⟩ := h
    rfl
  · obtain ⟨p, dx, a, rfl, hp, k⟩ := h
    refine ⟨_, (pss_cons (ps_fld (pv 0) (pv 1) rfl)
      (pss_cons (ps_fld (pv 0) pe_int rfl)
      (pss_cons (ps_fld (pv 0) (pe_lst pa_nil) rfl)
      (pss_one (ps_fld (pv 0) (pe_lst pa_nil) rfl))))), ?_⟩
    refine ⟨_, rfl, _, rfl, p, c.Reading, dx, [], rfl, hp, T.cl_Reading, T.no_Reading_t, (by show 0 < 1000; decide), ?_⟩
    refine ⟨_, rfl, p, c.Reading, dx, _, rfl, upd_same, T.cl_Reading, T.no_Reading_at, (by show 1 < 1000; decide), ?_⟩
    rw [upd2]
    refine ⟨Nat.zero_le _, fun M hM => ?_⟩
    have pM : p ≠ M := ne_of_none upd_same hM
    rw [upd_ne pM.symm] at hM
    refine ⟨_, rfl, p, c.Reading, dx, _, rfl, (upd_ne pM).trans upd_same, T.cl_Reading, T.no_Reading_marks, (by show 2 < 1000; decide), ?_⟩
    refine ⟨Nat.zero_le _, fun O hO => ?_⟩
    have pO : p ≠ O := ne_of_none upd_same hO
    rw [upd_ne pO.symm] at hO
    have MO : M ≠ O := ne_of_none upd_same hO
    rw [upd_ne MO.symm, upd_ne pO.symm] at hO
    refine ⟨_, rfl, p, c.Reading, dx, _, rfl, (upd_ne pO).trans upd_same, T.cl_Reading, T.no_Reading_open_names, (by show 3 < 1000; decide), ?_⟩
    refine k M O _ hM hO MO upd_same ?_ ?_ ?_
    · rw [upd_ne pM.symm, upd_ne MO, upd_ne pM.symm]; exact upd_same
    · rw [upd_ne pO.symm]; exact upd_same
    · intro b o hb hbp
      rw [upd_ne hbp, upd_ne (ne_of_none hb hO), upd_ne hbp, upd_ne (ne_of_none hb hM), upd_ne hbp]
      exact hb
def spTM (K : PySem.W.Frag) (c : Cs) : Sp := fun vs H Q _ => ∃ (R dx M O a : Addr) (b : List Nat) (i : Nat) (mp op : List Addr) (ms : List NM) (st : List (List Nat)) (l : Addr) (qs : List Addr) (nm : List NM) (e : Nat),
  vs = [.ref R, .ref l, .int (e : Int)] ∧ RSt K c H R dx M O a b i mp op ms st ∧ H l = some (.lst (qs.map V.ref)) ∧ Paired (MarkAt c (dl H R M O)) qs nm ∧ nm.length ≤ 2 ∧
  (2048 < ms.length + nm.length → Q (.int (-28)) H) ∧
  (ms.length + nm.length ≤ 2048 → ∀ H', RSt K c H' R dx M O a b e (mp ++ qs) op (ms ++ nm) st → Same (dl H R M O) (dl H' R M O) → Q (.int 0) H')
theorem cal_take_marks (T : Txt K mg c) : CalM P w K mg base c.Reading "take_marks" 1 (spTM K c) := by
  obtain ⟨f, fd, M, F⟩ := T.m_Reading_take_marks
  refine ⟨T.cl_Reading, f, fd, ["self", "marks", "end"], M, F.binds fun _ _ _ _ _ _ us hl => match us, hl with | [_, _, _], _ => rfl, ?_⟩
  refine F.ok sc_Reading_take_marks (fun vs H Q E h => ?_) (fun cdv A outer s H vs Q E hr h => ?_)
  · obtain ⟨R, dx, M, O, a, b, i, mp, op, ms, st, l, qs, nm, e, rfl, _⟩ := h
    rfl
  · obtain ⟨R, dx, M, O, a, b, i, mp, op, ms, st, l, qs, nm, e, rfl, x, hl, hp, h2, k0, k1⟩ := h
    have lm : mp.length = ms.length := Paired.length x.mks
    have lq : qs.length = nm.length := Paired.length hp
    have cnt := x.cnt
    refine ⟨_, (pss_cons (ps_if (pt_cmpR op_gt (pe_op op_add (pe_callB call_len (by rfl) T.n_len PySem.boot_len (pa_cons (pe_fld (pv 0) rfl) pa_nil)) (pe_callB call_len (by rfl) T.n_len PySem.boot_len (pa_cons (pv 1) pa_nil))) (pe_gc T.g_MOST_MARKS) (nomark _)) (pss_one (ps_ret (pe_gc T.g_TOO_MUCH))) pss_nil)
      (pss_cons (ps_expr (pe_bm PySem.F.plainAttrs_list PySem.F.slot_list_extend PySem.F.type_list_extend mt_extend (pe_fld (pv 0) rfl) (pa_cons (pv 1) pa_nil)))
      (pss_cons (ps_fld (pv 0) (pv 2) rfl)
      (pss_one (ps_ret (pe_gc T.g_NO_REFUSAL)))))), ?_⟩
    refine ⟨_, rfl, R, c.Reading, dx, _, _, rfl, x.r, T.cl_Reading, T.no_Reading_marks, rfl, _, _, rfl, .inl ⟨_, SqL.of x.m, rfl⟩, _, rfl, _, _, rfl, .inl ⟨_, SqL.of hl, rfl⟩, _, _, rfl, rfl, _, _, rfl, rfl, _, rfl, ?_⟩
    rw [List.length_map, List.length_map]
    refine ite2 (fun h => ?_) (fun h => ?_)
    · have h := of_dec h
      exact k0 (by omega)
    · have h := not_dec h
      have hc : ms.length + nm.length ≤ 2048 := by omega
      refine ⟨_, rfl, R, c.Reading, dx, _, _, rfl, x.r, T.cl_Reading, T.no_Reading_marks, rfl, .inl ⟨rfl, _, SqL.of x.m⟩, _, rfl, M, l, _, _, rfl, rfl, x.m, hl, by rw [List.length_map, List.length_map, sizeLine_eq]; omega, ?_⟩
      have x2 := x.add hp hc
      rw [List.map_append] at x2
      refine ⟨_, rfl, _, rfl, R, c.Reading, dx, _, rfl, x2.r, T.cl_Reading, T.no_Reading_at, (by show 4 < 1000; decide), ?_⟩
      refine k1 hc _ (x2.at_ e) ?_
      rw [dl_upd (.inl rfl), dl_upd (.inr (.inl rfl))]
      exact Same.refl _
theorem step_text {st : List (List Nat)} {d : Nat} {r : List Nat} (h : d ≠ 60) : step st d r = match charsX 60 (d :: r) with
    | none => .bad (-71)
    | some (t, q) => .more [.text t] st q := by
  unfold step
  rw [if_pos h]
  all_goals (first | rfl | (cases charsX 60 (d :: r) <;> rfl))
theorem cal_take_text (T : Txt K mg c) : CalM P w K mg base c.Reading "take_text" 7 (spTake K c fun d _ => d ≠ 60) := by
  have c_read_characters := cal_read_characters (P := P) (w := w) (base := base) T
  have c_Reading_take_marks := cal_take_marks (P := P) (w := w) (base := base) T
  have m_Text := mk_Text (P := P) (w := w) (base := base) T
  obtain ⟨f, fd, M, F⟩ := T.m_Reading_take_text
  refine ⟨T.cl_Reading, f, fd, ["self"], M, F.binds fun _ _ _ _ _ _ us hl => match us, hl with | [_], _ => rfl, ?_⟩
  refine F.ok sc_Reading_take_text (fun vs H Q E h => ?_) (fun cdv A outer s H vs Q E hr h => ?_)
  · obtain ⟨R, dx, M, O, a, b, i, mp, op, ms, st, d, r, rfl, _⟩ := h
    rfl
  · obtain ⟨R, dx, M, O, a, b, i, mp, op, ms, st, d, r, rfl, x, h0, hL, hd, k0, k1⟩ := h
    refine ⟨_, (pss_cons (ps_set (i := 1) sc_Reading_take_text.nd rfl (Or.inl rfl) (pe_fn c_read_characters (hr.mono (by decide)) (pa_cons (pe_fld (pv 0) rfl) (pa_cons (pe_fld (pv 0) rfl) (pa_cons (pe_gc T.g_LESS_THAN) pa_nil)))))
      (pss_cons (ps_if (pt_cmp (pc_isN (pv 1))) (pss_one (ps_ret (pe_gc T.g_NO_MARK))) pss_nil)
      (pss_one (ps_ret (pe_mt c_Reading_take_marks (hr.mono (by decide)) (pv 0) (pa_cons (pe_lst (pa_cons (pe_mk m_Text (hr.mono (by decide)) (pa_cons (pe_fld (pv 1) rfl) pa_nil)) pa_nil)) (pa_cons (pe_fld (pv 1) rfl) pa_nil))))))), ?_⟩
    have es : step st d r = _ := step_text hd
    rw [← h0] at es
    refine ⟨_, rfl, R, c.Reading, dx, _, _, rfl, x.r, T.cl_Reading, T.no_Reading_t, rfl, _, rfl, R, c.Reading, dx, _, _, rfl, x.r, T.cl_Reading, T.no_Reading_at, rfl, a, b, i, 60, rfl, x.tt, Nat.le_of_lt (lt_drop h0), hL, fun z H1 s1 => ?_, fun y q j H1 p v z z1 z2 z3 s1 z4 z5 => ?_⟩
    · rw [z] at es
      exact ⟨_, rfl, _, rfl, isN_non (k0 _ _ (.inl es) (s1 _ _ x.r))⟩
    · rw [z] at es
      obtain ⟨dp, z4'⟩ := z4.mono nw_same
      obtain ⟨lc, rfl, z6⟩ := z5
      have x1 := x.same s1
      refine ⟨_, rfl, _, rfl, isN_ref ?_⟩
      refine ⟨_, rfl, R, dx, _, rfl, x1.r, rfl, _, rfl, p, c.Piece, dp, _, _, rfl, z4', T.cl_Piece, T.no_Piece_content, rfl, fun y2 d2 n2 m2 e2 => ⟨y2, d2, _, rfl, upd_same, fun H2 q2 => ⟨rfl, ?_⟩⟩⟩
      have q2 := q2.trans upd2
      subst q2
      have s2 := mk_same (C := c.Text) (fs := [("content", .ref lc)]) n2 m2
      refine ⟨by show 1 ≤ sizeLine; decide, fun l hl => ?_⟩
      have s3 : Same _ (upd (mk H1 y2 d2 c.Text [("content", .ref lc)]) l (.lst [.ref y2])) := same_upd hl
      have s23 := s2.trans s3
      have s123 := s1.trans s23
      have hw := chars_w 60 _ _ _ _ (Nat.le_refl _) z
      have lz := congrArg List.length z1
      rw [List.length_drop] at hw lz
      refine ⟨_, rfl, p, c.Piece, dp, _, _, rfl, s23 _ _ z4', T.cl_Piece, T.no_Piece_end, rfl, R, dx, M, O, a, b, i, mp, op, ms, st, l, [y2], [.t y], j, rfl, x.same s123, upd_same, .cons ?_ .nil, by simp, fun hc => ?_, fun hc H4 x4 s4 => ?_⟩
      · exact TextAt.mono (G := nw H (upd (mk H1 y2 d2 c.Text [("content", .ref lc)]) l (.lst [.ref y2]))) ⟨lc, ⟨d2, nw_left s3 _ _ (nw_right s1 _ _ (mk_nw n2))⟩, z6.mono (nw_left s23)⟩ x.nw
      · exact k0 _ _ (.inr ⟨_, _, _, es, hc, rfl⟩) (s123 _ _ x.r)
      · refine k1 [.t y] st j _ _ _ (by rw [z1]; exact es) hc z2 z3 rfl ?_ x4 ((Same.dl s123).trans s4)
        have := esc_len y
        show ([NM.t y].flatMap plN).length ≤ _
        simp only [List.flatMap_cons, List.flatMap_nil, List.append_nil]
        show (Kp172.escaped y).length ≤ _
        omega
end
end Pg
end
section
set_option Elab.async false
set_option linter.all false
set_option maxRecDepth 100000
set_option maxHeartbeats 4000000
namespace Pg
open PySem PySem.Spec PyProof.Rows L2
section
variable {P : Program} {w : World} {K : PySem.W.Frag} {mg : Str → Option Value} {base : Heap} {c : Cs}
theorem step_end (st : List (List Nat)) (q : List Nat) : step st 60 (47 :: q) = match Kp172.ending q with
    | none => .bad (-71)
    | some (n, z) => if st.head? = some n then .more [.close] (st.drop 1) z else .bad (-71) := by
  unfold step
  rw [if_neg (by simp)]
  have e : Kp172.front [47] (47 :: q) = some q := front_app [47] q
  rw [e]
  all_goals (first | rfl | (cases Kp172.ending q <;> rfl))
theorem neg_one {xs : List V} {y : V} : atI (xs ++ [y]) (-1) = some y := by
  have e : ixN (xs ++ [y]).length (-1) = some xs.length := by
    rw [List.length_append]
    show ixN (xs.length + 1) (-1) = _
    unfold ixN
    rw [if_neg (by decide), if_pos (by omega)]
    congr 1
    omega
  unfold atI
  rw [e]
  simp
theorem cal_take_end (T : Txt K mg c) : CalM P w K mg base c.Reading "take_end" 5 (spTake K c fun d r => d = 60 ∧ ∃ q, r = 47 :: q) := by
  have c_read_end := cal_read_end (P := P) (w := w) (base := base) T
  have c_Reading_take_marks := cal_take_marks (P := P) (w := w) (base := base) T
  obtain ⟨f, fd, M, F⟩ := T.m_Reading_take_end
  refine ⟨T.cl_Reading, f, fd, ["self"], M, F.binds fun _ _ _ _ _ _ us hl => match us, hl with | [_], _ => rfl, ?_⟩
  refine F.ok sc_Reading_take_end (fun vs H Q E h => ?_) (fun cdv A outer s H vs Q E hr h => ?_)
  · obtain ⟨R, dx, M, O, a, b, i, mp, op, ms, st, d, r, rfl, _⟩ := h
    rfl
  · obtain ⟨R, dx, M, O, a, b, i, mp, op, ms, st, d, r, rfl, x, h0, hL, ⟨rfl, q0, rfl⟩, k0, k1⟩ := h
    refine ⟨_, (pss_cons (ps_set (i := 1) sc_Reading_take_end.nd rfl (Or.inl rfl) (pe_fn c_read_end (hr.mono (by decide)) (pa_cons (pe_fld (pv 0) rfl) (pa_cons (pe_fld (pv 0) rfl) pa_nil))))
      (pss_cons (ps_if (pt_cmp (pc_isN (pv 1))) (pss_one (ps_ret (pe_gc T.g_NO_MARK))) pss_nil)
      (pss_cons (ps_set (i := 2) sc_Reading_take_end.nd rfl (Or.inl rfl) (pe_fld (pv 1) rfl))
      (pss_cons (ps_if (pw_or (pt_not (pt_truth (pe_fld (pv 0) rfl) (fun _ => rfl))) (pw_or1 (pt_cmpR (op_neD hr.units) (pe_ix ix_list (pe_fld (pv 0) rfl) (pe_un un_neg pe_int) (fun _ _ => rfl)) (pe_fld (pv 2) rfl) (nomark _)))).pt (pss_one (ps_ret (pe_gc T.g_NO_MARK))) pss_nil)
      (pss_cons (ps_expr (pe_bm0 PySem.F.plainAttrs_list PySem.F.slot_list_pop PySem.F.type_list_pop mt_pop (pe_fld (pv 0) rfl)))
      (pss_one (ps_ret (pe_mt c_Reading_take_marks (hr.mono (by decide)) (pv 0) (pa_cons (pe_lst (pa_cons (pv 2) pa_nil)) (pa_cons (pe_fld (pv 1) rfl) pa_nil)))))))))), ?_⟩
    have es := step_end st q0
    have hi := lt_drop h0
    have l2 : 2 ≤ (b.drop i).length := by rw [h0]; simp
    refine ⟨_, rfl, R, c.Reading, dx, _, _, rfl, x.r, T.cl_Reading, T.no_Reading_t, rfl, _, rfl, R, c.Reading, dx, _, _, rfl, x.r, T.cl_Reading, T.no_Reading_at, rfl, a, b, i, rfl, x.tt, Nat.le_of_lt hi, hL, l2, fun z H1 s1 => ?_, fun n r' j H1 p v z z1 z2 z3 s1 z4 z5 => ?_⟩
    · dsimp only at z
      rw [h0] at z
      have z : Kp172.ending q0 = none := z
      rw [z] at es
      exact ⟨_, rfl, _, rfl, isN_non (k0 _ _ (.inl es) (s1 _ _ x.r))⟩
    · dsimp only at z
      rw [h0] at z
      have z : Kp172.ending q0 = some (n, r') := z
      rw [z] at es
      dsimp only at es
      obtain ⟨dp, z4'⟩ := z4.mono nw_same
      obtain ⟨q, rfl, z6⟩ := z5
      obtain ⟨ln, ⟨dq, hq⟩, hn⟩ := z6
      have x1 := x.same s1
      refine ⟨_, rfl, _, rfl, isN_ref ?_⟩
      refine ⟨_, rfl, p, c.Piece, dp, _, _, rfl, z4', T.cl_Piece, T.no_Piece_content, rfl, ?_⟩
      refine ⟨_, rfl, R, c.Reading, dx, _, _, rfl, x1.r, T.cl_Reading, T.no_Reading_open_names, rfl, _, .inl ⟨_, SqL.of x1.o, rfl⟩, ?_⟩
      cases st with
      | nil =>
        have ho : op = [] := by
          have := Paired.length x.on
          simpa using this
        subst ho
        rw [if_neg (by simp)] at es
        refine iteT (iteT ?_)
        exact k0 _ _ (.inl es) x1.r
      | cons n1 st1 =>
        have on := x1.on
        rw [List.reverse_cons] at on
        obtain ⟨op', lo, rfl, on1, on2⟩ := paired_snoc on
        have ie : (!(!((op' ++ [lo]).map V.ref).isEmpty)) = false := by simp
        rw [ie]
        refine iteF ?_
        have hlo : H1 lo = some (.lst (vb n1)) := dl_same _ _ on2
        refine ⟨_, rfl, R, c.Reading, dx, _, _, rfl, x1.r, T.cl_Reading, T.no_Reading_open_names, rfl, _, rfl, O, _, _, _, rfl, rfl, SqL.of x1.o, by rw [List.map_append]; exact neg_one, _, rfl, q, c.Closing, dq, _, _, rfl, nw_same _ _ hq, T.cl_Closing, T.no_Closing_name, rfl, ?_⟩
        refine ⟨.list (db n1), .list (db n), .lst (SqL.of hlo) (dp_vb _), .lst (SqL.of (nw_same _ _ hn)) (dp_vb _), shaped_list _, shaped_list _, _, rfl, ?_⟩
        rw [eqv_list]
        refine ite2 (fun hne => ?_) (fun hne => ?_)
        · have hne := nd_true hne
          rw [if_neg (by simpa using hne)] at es
          exact k0 _ _ (.inl es) x1.r
        · have hne := nd_false hne
          subst hne
          rw [if_pos (show (n1 :: st1).head? = some n1 from rfl)] at es
          refine ⟨_, rfl, R, c.Reading, dx, _, _, rfl, x1.r, T.cl_Reading, T.no_Reading_open_names, rfl, .inl ⟨rfl, _, SqL.of x1.o⟩, O, _, V.ref lo, rfl, rfl, x1.o, by simp, ?_⟩
          have x2 := x1.pop
          have ed : ((op' ++ [lo]).map V.ref).dropLast = op'.map V.ref := by simp
          rw [ed]
          have nqO : q ≠ O := ne_of (nw_same _ _ hq) x1.o (by intro z; cases z)
          have npO : p ≠ O := ne_of z4' x1.o (by intro z; cases z)
          refine ⟨_, rfl, R, dx, _, rfl, x2.r, rfl, _, rfl, by show 1 ≤ sizeLine; decide, fun l hl => ?_⟩
          have s3 : Same (upd H1 O (.lst (op'.map V.ref))) (upd (upd H1 O (.lst (op'.map V.ref))) l (.lst [.ref q])) := same_upd hl
          have x3 := x2.same s3
          have ew := ending_w z
          have lz := congrArg List.length z1
          have l0 := congrArg List.length h0
          simp only [List.length_drop, List.length_cons] at lz l0
          have sd : Same (dl H R M O) (dl (upd (upd H1 O (.lst (op'.map V.ref))) l (.lst [.ref q])) R M O) := by
            have := Same.dl (R := R) (M := M) (O := O) s3
            rw [dl_upd (.inr (.inr rfl))] at this
            exact (Same.dl s1).trans this
          refine ⟨_, rfl, p, c.Piece, dp, _, _, rfl, s3 _ _ ((upd_ne npO).trans z4'), T.cl_Piece, T.no_Piece_end, rfl, R, dx, M, O, a, b, i, mp, op', ms, st1, l, [q], [.c n1], j, rfl, x3, upd_same, .cons ?_ .nil, by simp, fun hc => ?_, fun hc H4 x4 s4 => ?_⟩
          · have := Same.dl (R := R) (M := M) (O := O) s3
            rw [dl_upd (.inr (.inr rfl))] at this
            exact CloseAt.mono (G := nw H H1) ⟨ln, ⟨dq, hq⟩, hn⟩ (x.nw.trans this)
          · exact k0 _ _ (.inr ⟨_, _, _, es, hc, rfl⟩) x3.r
          · refine k1 [.c n1] st1 j _ _ _ (by rw [z1]; exact es) hc z2 z3 ?_ ?_ x4 (sd.trans s4)
            · show (if (n1 :: st1).head? = some n1 then runN st1 [] else none) = some st1
              rw [if_pos (show (n1 :: st1).head? = some n1 from rfl)]
              rfl
            · show ([NM.c n1].flatMap plN).length ≤ _
              simp only [List.flatMap_cons, List.flatMap_nil, List.append_nil]
              show ([60, 47] ++ n1 ++ [62]).length ≤ _
              simp only [List.length_append, List.length_cons, List.length_nil]
              omega
end
end Pg
end
section
set_option Elab.async false
set_option linter.all false
set_option maxRecDepth 100000
set_option maxHeartbeats 4000000
namespace Pg
open PySem PySem.Spec PyProof.Rows L2
section
variable {P : Program} {w : World} {K : PySem.W.Frag} {mg : Str → Option Value} {base : Heap} {c : Cs}
theorem step_beg (st : List (List Nat)) {r : List Nat} (h : Kp172.front [47] r = none) : step st 60 r = match Kp172.tag r with
    | none => .bad (-71)
    | some (n, a, e, z) => if Kp172.distinct (a.map Prod.fst) = false then .bad (-22) else if 8 < a.length ∨ 32 ≤ st.length then .bad (-28)
        else if e then .more [.open_ n a, .close] st z else .more [.open_ n a] (n :: st) z := by
  unfold step
  rw [if_neg (by simp), h]
  all_goals (first | rfl | (cases Kp172.tag r <;> rfl))
theorem cal_take_beginning (T : Txt K mg c) : CalM P w K mg base c.Reading "take_beginning" 11 (spTake K c fun d r => d = 60 ∧ Kp172.front [47] r = none) := by
  have c_read_beginning := cal_read_beginning (P := P) (w := w) (base := base) T
  have c_Reading_take_marks := cal_take_marks (P := P) (w := w) (base := base) T
  have c_Opening_has_same_names := cal_has_same_names (P := P) (w := w) (base := base) T
  have m_Closing := mk_Closing (P := P) (w := w) (base := base) T
  obtain ⟨f, fd, M, F⟩ := T.m_Reading_take_beginning
  refine ⟨T.cl_Reading, f, fd, ["self"], M, F.binds fun _ _ _ _ _ _ us hl => match us, hl with | [_], _ => rfl, ?_⟩
  refine F.ok sc_Reading_take_beginning (fun vs H Q E h => ?_) (fun cdv A outer s H vs Q E hr h => ?_)
  · obtain ⟨R, dx, M, O, a, b, i, mp, op, ms, st, d, r, rfl, _⟩ := h
    rfl
  · obtain ⟨R, dx, M, O, a, b, i, mp, op, ms, st, d, r, rfl, x, h0, hL, ⟨rfl, hf⟩, k0, k1⟩ := h
    refine ⟨_, (pss_cons (ps_set (i := 1) sc_Reading_take_beginning.nd rfl (Or.inl rfl) (pe_fn c_read_beginning (hr.mono (by decide)) (pa_cons (pe_fld (pv 0) rfl) (pa_cons (pe_fld (pv 0) rfl) pa_nil))))
      (pss_cons (ps_if (pt_cmp (pc_isN (pv 1))) (pss_one (ps_ret (pe_gc T.g_NO_MARK))) pss_nil)
      (pss_cons (ps_set (i := 2) sc_Reading_take_beginning.nd rfl (Or.inl rfl) (pe_fld (pv 1) rfl))
      (pss_cons (ps_if (pt_val (pe_mt0 c_Opening_has_same_names (hr.mono (by decide)) (pv 2))) (pss_one (ps_ret (pe_gc T.g_SAME_NAME))) pss_nil)
      (pss_cons (ps_if (pw_or (pt_cmpR op_gt (pe_callB call_len (by rfl) T.n_len PySem.boot_len (pa_cons (pe_fld (pv 2) rfl) pa_nil)) (pe_gc T.g_MOST_ATTRIBUTES) (nomark _)) (pw_or1 (pt_cmpR op_ge (pe_callB call_len (by rfl) T.n_len PySem.boot_len (pa_cons (pe_fld (pv 0) rfl) pa_nil)) (pe_gc T.g_MOST_DEPTH) (nomark _)))).pt (pss_one (ps_ret (pe_gc T.g_TOO_MUCH))) pss_nil)
      (pss_cons (ps_if (pt_truth (pe_fld (pv 1) rfl) (fun _ => rfl)) (pss_one (ps_ret (pe_mt c_Reading_take_marks (hr.mono (by decide)) (pv 0) (pa_cons (pe_lst (pa_cons (pv 2) (pa_cons (pe_mk m_Closing (hr.mono (by decide)) (pa_cons (pe_fld (pv 2) rfl) pa_nil)) pa_nil))) (pa_cons (pe_fld (pv 1) rfl) pa_nil))))) pss_nil)
      (pss_cons (ps_expr (pe_bm PySem.F.plainAttrs_list PySem.F.slot_list_append PySem.F.type_list_append mt_append (pe_fld (pv 0) rfl) (pa_cons (pe_fld (pv 2) rfl) pa_nil)))
      (pss_one (ps_ret (pe_mt c_Reading_take_marks (hr.mono (by decide)) (pv 0) (pa_cons (pe_lst (pa_cons (pv 2) pa_nil)) (pa_cons (pe_fld (pv 1) rfl) pa_nil)))))))))))), ?_⟩
    have es := step_beg st hf
    refine ⟨_, rfl, R, c.Reading, dx, _, _, rfl, x.r, T.cl_Reading, T.no_Reading_t, rfl, _, rfl, R, c.Reading, dx, _, _, rfl, x.r, T.cl_Reading, T.no_Reading_at, rfl, a, b, i, r, rfl, x.tt, h0, hL, fun z H1 s1 => ?_, fun n as e z j H1 p q zt z1 z2 z3 zl s1 zb zo => ?_⟩
    · rw [z] at es
      exact ⟨_, rfl, _, rfl, isN_non (k0 _ _ (.inl es) (s1 _ _ x.r))⟩
    · rw [zt] at es
      dsimp only at es
      obtain ⟨dp, zb'⟩ := zb.mono nw_same
      obtain ⟨ln, la, ⟨dq, hq⟩, hn, ps, hla, hps⟩ := zo.mono nw_same
      have x1 := x.same s1
      have lps : ps.length = as.length := Paired.length hps
      have lop : op.length = st.length := by
        have := Paired.length x.on
        simpa using this
      have tw := tag_w zt
      have np := name_pos_tag zt
      have lz := congrArg List.length z1
      have l0 := congrArg List.length h0
      simp only [List.length_drop, List.length_cons] at lz l0
      refine ⟨_, rfl, _, rfl, isN_ref ?_⟩
      refine ⟨_, rfl, p, c.Beginning, dp, _, _, rfl, zb', T.cl_Beginning, T.no_Beginning_opening, rfl, ?_⟩
      refine ⟨_, rfl, q, dq, _, rfl, hq, rfl, q, n, as, rfl, zo.mono nw_same, zl, fun H2 s2 => ⟨_, rfl, ?_⟩⟩
      have x2 := x1.same s2
      have s12 := s1.trans s2
      refine ite2 (fun hd => ?_) (fun hd => ?_)
      · rw [if_pos (by simpa using hd)] at es
        exact k0 _ _ (.inl es) x2.r
      · rw [if_neg (by simpa using hd)] at es
        refine ⟨_, rfl, q, c.Opening, dq, _, _, rfl, s2 _ _ hq, T.cl_Opening, T.no_Opening_attributes, rfl, _, _, rfl, .inl ⟨_, SqL.of (s2 _ _ hla), rfl⟩, _, _, rfl, rfl, _, rfl, ?_⟩
        rw [List.length_map]
        refine ite2 (fun h8 => iteT ?_) (fun h8 => ?_)
        · have h8 := of_dec h8
          rw [if_pos (.inl (by omega))] at es
          exact k0 _ _ (.inl es) x2.r
        · have h8 := not_dec h8
          refine ⟨_, rfl, R, c.Reading, dx, _, _, rfl, x2.r, T.cl_Reading, T.no_Reading_open_names, rfl, _, _, rfl, .inl ⟨_, SqL.of x2.o, rfl⟩, _, _, rfl, rfl, _, rfl, ?_⟩
          rw [List.length_map]
          refine ite2 (fun h9 => ?_) (fun h9 => ?_)
          · have h9 := of_dec h9
            rw [if_pos (.inr (by omega))] at es
            exact k0 _ _ (.inl es) x2.r
          · have h9 := not_dec h9
            rw [if_neg (by omega)] at es
            refine ⟨_, rfl, p, c.Beginning, dp, _, _, rfl, s2 _ _ zb', T.cl_Beginning, T.no_Beginning_closed, rfl, e, rfl, ?_⟩
            have pl := plAs_len as
            have hln : BytesAt (nw H H2) ln n := by
              obtain ⟨ln', la', ⟨dq', hq'⟩, hn', _⟩ := zo
              have eq1 := (nw_same _ _ hq').symm.trans hq
              have : ln' = ln := by
                injection eq1 with e1
                injection e1 with e2 e3 e4
                injection e4 with e5 e6
                injection e5 with e7 e8
                injection e8
              rw [← this]
              exact hn'.mono (nw_left s2)
            cases e with
            | true =>
              rw [if_pos rfl] at es
              refine iteT ?_
              refine ⟨_, rfl, R, dx, _, rfl, x2.r, rfl, _, rfl, _, rfl, q, c.Opening, dq, _, _, rfl, s2 _ _ hq, T.cl_Opening, T.no_Opening_name, rfl, fun y3 d3 n3 m3 e3 => ⟨y3, d3, _, rfl, upd_same, fun H3 q3 => ⟨rfl, ?_⟩⟩⟩
              have q3 := q3.trans upd2
              subst q3
              have s3 := mk_same (C := c.Closing) (fs := [("name", .ref ln)]) n3 m3
              refine ⟨by show 2 ≤ sizeLine; decide, fun l hl => ?_⟩
              have s4 : Same _ (upd (mk H2 y3 d3 c.Closing [("name", .ref ln)]) l (.lst [.ref q, .ref y3])) := same_upd hl
              have s34 := s3.trans s4
              have sA := s12.trans s34
              refine ⟨_, rfl, p, c.Beginning, dp, _, _, rfl, s34 _ _ (s2 _ _ zb'), T.cl_Beginning, T.no_Beginning_end, rfl, R, dx, M, O, a, b, i, mp, op, ms, st, l, [q, y3], [.o n as, .c n], j, rfl, x.same sA, upd_same, .cons ?_ (.cons ?_ .nil), by simp, fun hc => ?_, fun hc H4 x4 sd => ?_⟩
              · exact OpenAt.mono (zo.mono (nw_left (s2.trans s34))) x.nw
              · refine CloseAt.mono (G := nw H (upd (mk H2 y3 d3 c.Closing [("name", .ref ln)]) l (.lst [.ref q, .ref y3]))) ⟨ln, ⟨d3, nw_left s4 _ _ (nw_right s12 _ _ (mk_nw n3))⟩, hln.mono (nw_left s34)⟩ x.nw
              · exact k0 _ _ (.inr ⟨_, _, _, es, hc, rfl⟩) (sA _ _ x.r)
              · refine k1 [.o n as, .c n] st j _ _ _ (by rw [z1]; exact es) hc z2 z3 ?_ ?_ x4 ((Same.dl sA).trans sd)
                · show (if (n :: st).head? = some n then runN st [] else none) = some st
                  rw [if_pos (show (n :: st).head? = some n from rfl)]
                  rfl
                · show ([NM.o n as, NM.c n].flatMap plN).length ≤ _
                  simp only [List.flatMap_cons, List.flatMap_nil, List.append_nil]
                  show (([60] ++ n ++ as.flatMap plA ++ [62]) ++ ([60, 47] ++ n ++ [62])).length ≤ _
                  simp only [List.length_append, List.length_cons, List.length_nil]
                  omega
            | false =>
              rw [if_neg (by simp)] at es
              refine iteF ?_
              refine ⟨_, rfl, R, c.Reading, dx, _, _, rfl, x2.r, T.cl_Reading, T.no_Reading_open_names, rfl, .inl ⟨rfl, _, SqL.of x2.o⟩, _, rfl, q, c.Opening, dq, _, _, rfl, s2 _ _ hq, T.cl_Opening, T.no_Opening_name, rfl, O, _, _, rfl, rfl, x2.o, by rw [List.length_map, sizeLine_eq]; omega, ?_⟩
              have x3 := x2.push (hln.mono x.nw) (by omega)
              rw [List.map_append] at x3
              have nqO : q ≠ O := ne_of (s2 _ _ hq) x2.o (by intro z; cases z)
              have npO : p ≠ O := ne_of (s2 _ _ zb') x2.o (by intro z; cases z)
              refine ⟨_, rfl, R, dx, _, rfl, x3.r, rfl, _, rfl, by show 1 ≤ sizeLine; decide, fun l hl => ?_⟩
              have s4 : Same (upd H2 O (.lst (op.map V.ref ++ [.ref ln]))) (upd (upd H2 O (.lst (op.map V.ref ++ [.ref ln]))) l (.lst [.ref q])) := same_upd hl
              have x4 := x3.same s4
              have sdl : Same (dl H2 R M O) (dl (upd (upd H2 O (.lst (op.map V.ref ++ [.ref ln]))) l (.lst [.ref q])) R M O) := by
                have := Same.dl (R := R) (M := M) (O := O) s4
                rw [dl_upd (.inr (.inr rfl))] at this
                exact this
              refine ⟨_, rfl, p, c.Beginning, dp, _, _, rfl, s4 _ _ ((upd_ne npO).trans (s2 _ _ zb')), T.cl_Beginning, T.no_Beginning_end, rfl, R, dx, M, O, a, b, i, mp, op ++ [ln], ms, n :: st, l, [q], [.o n as], j, rfl, x4, upd_same, .cons ?_ .nil, by simp, fun hc => ?_, fun hc H5 x5 sd => ?_⟩
              · exact OpenAt.mono (zo.mono (nw_left s2)) (x.nw.trans sdl)
              · exact k0 _ _ (.inr ⟨_, _, _, es, hc, rfl⟩) x4.r
              · refine k1 [.o n as] (n :: st) j _ _ _ (by rw [z1]; exact es) hc z2 z3 rfl ?_ x5 (((Same.dl s12).trans sdl).trans sd)
                show ([NM.o n as].flatMap plN).length ≤ _
                simp only [List.flatMap_cons, List.flatMap_nil, List.append_nil]
                show ([60] ++ n ++ as.flatMap plA ++ [62]).length ≤ _
                simp only [List.length_append, List.length_cons, List.length_nil]
                omega
theorem cal_take_next (T : Txt K mg c) : CalM P w K mg base c.Reading "take_next" 12 (spTake K c fun _ _ => True) := by
  have c_stands_at := cal_stands_at (P := P) (w := w) (base := base) T
  have c_Reading_take_text := cal_take_text (P := P) (w := w) (base := base) T
  have c_Reading_take_end := cal_take_end (P := P) (w := w) (base := base) T
  have c_Reading_take_beginning := cal_take_beginning (P := P) (w := w) (base := base) T
  obtain ⟨f, fd, M, F⟩ := T.m_Reading_take_next
  refine ⟨T.cl_Reading, f, fd, ["self"], M, F.binds fun _ _ _ _ _ _ us hl => match us, hl with | [_], _ => rfl, ?_⟩
  refine F.ok sc_Reading_take_next (fun vs H Q E h => ?_) (fun cdv A outer s H vs Q E hr h => ?_)
  · obtain ⟨R, dx, M, O, a, b, i, mp, op, ms, st, d, r, rfl, _⟩ := h
    rfl
  · obtain ⟨R, dx, M, O, a, b, i, mp, op, ms, st, d, r, rfl, x, h0, hL, _, k0, k1⟩ := h
    refine ⟨_, (pss_cons (ps_if (pt_cmpR op_ne (pe_ix ix_list (pe_fld (pv 0) rfl) (pe_fld (pv 0) rfl) (fun _ _ => rfl)) (pe_gc T.g_LESS_THAN) (nomark _)) (pss_one (ps_ret (pe_mt0 c_Reading_take_text (hr.mono (by decide)) (pv 0)))) pss_nil)
      (pss_cons (ps_if (pt_val (pe_fn c_stands_at (hr.mono (by decide)) (pa_cons (pe_fld (pv 0) rfl) (pa_cons (pe_fld (pv 0) rfl) (pa_cons pe_str pa_nil))))) (pss_one (ps_ret (pe_mt0 c_Reading_take_end (hr.mono (by decide)) (pv 0)))) pss_nil)
      (pss_one (ps_ret (pe_mt0 c_Reading_take_beginning (hr.mono (by decide)) (pv 0)))))), ?_⟩
    refine ⟨_, rfl, R, c.Reading, dx, _, _, rfl, x.r, T.cl_Reading, T.no_Reading_t, rfl, _, rfl, R, c.Reading, dx, _, _, rfl, x.r, T.cl_Reading, T.no_Reading_at, rfl, a, _, _, _, rfl, rfl, x.tt, atI_vb h0, rfl, _, rfl, ?_⟩
    refine ite2 (fun hd => ?_) (fun hd => ?_)
    · have hd : d ≠ 60 := fun z => nd_true hd (by rw [z]; rfl)
      exact ⟨_, rfl, R, dx, _, rfl, x.r, rfl, R, dx, M, O, a, b, i, mp, op, ms, st, d, r, rfl, x, h0, hL, hd, k0, k1⟩
    · have hd : d = 60 := by have := V.int.inj (nd_false hd); omega
      subst hd
      refine ⟨_, rfl, R, c.Reading, dx, _, _, rfl, x.r, T.cl_Reading, T.no_Reading_t, rfl, _, rfl, R, c.Reading, dx, _, _, rfl, x.r, T.cl_Reading, T.no_Reading_at, rfl, a, b, i, "</", rfl, x.tt, Nat.le_of_lt (lt_drop h0), by decide, fun H1 s1 => ⟨_, rfl, ?_⟩⟩
      have x1 := x.same s1
      refine ite2 (fun hb => ?_) (fun hb => ?_)
      · have hb : (b.drop i).take 2 = [60, 47] := of_dec hb
        rw [h0] at hb
        obtain ⟨q, rfl⟩ : ∃ q, r = 47 :: q := by
          cases r with
          | nil => cases hb
          | cons y q =>
            have : y = 47 := by simpa using hb
            exact ⟨q, by rw [this]⟩
        exact ⟨_, rfl, R, dx, _, rfl, x1.r, rfl, R, dx, M, O, a, b, i, mp, op, ms, st, 60, 47 :: q, rfl, x1, h0, hL, ⟨rfl, q, rfl⟩, k0, fun nm s j H' mp' op' g1 g2 g3 g4 g5 g6 g7 g8 => k1 nm s j H' mp' op' g1 g2 g3 g4 g5 g6 g7 ((Same.dl s1).trans g8)⟩
      · have hb : ¬ (b.drop i).take 2 = [60, 47] := not_dec hb
        rw [h0] at hb
        have hf : Kp172.front [47] r = none := by
          refine front_no fun z => hb ?_
          show 60 :: r.take 1 = _
          rw [show r.take 1 = [47] from z]
        exact ⟨_, rfl, R, dx, _, rfl, x1.r, rfl, R, dx, M, O, a, b, i, mp, op, ms, st, 60, r, rfl, x1, h0, hL, ⟨rfl, hf⟩, k0, fun nm s j H' mp' op' g1 g2 g3 g4 g5 g6 g7 g8 => k1 nm s j H' mp' op' g1 g2 g3 g4 g5 g6 g7 ((Same.dl s1).trans g8)⟩
end
end Pg
end
section
set_option Elab.async false
set_option linter.all false
set_option maxRecDepth 100000
set_option maxHeartbeats 4000000
namespace Pg
open PySem PySem.Spec PyProof.Rows L2
section
variable {P : Program} {w : World} {K : PySem.W.Frag} {mg : Str → Option Value} {base : Heap} {c : Cs}
def spPage (K : PySem.W.Frag) (c : Cs) : Sp := fun vs H Q _ => ∃ (R dx M O a : Addr) (b : List Nat), vs = [.ref R] ∧ RSt K c H R dx M O a b 0 [] [] [] [] ∧
  (∀ v k H', Kp172.read b = .inl (v, k) → v ≠ 0 → H' R = some (.ins c.Reading dx (rf a k M O)) → Q (.int v) H') ∧
  ∀ ms mp j H', Kp172.read b = .inr (ms.map NM.er) → runN [] ms = some [] → wN ms ≤ 98304 → RSt K c H' R dx M O a b j mp [] ms [] → Q (.int 0) H'
theorem cal_take_page (T : Txt K mg c) : CalM P w K mg base c.Reading "take_page" 13 (spPage K c) := by
  have c_Reading_take_next := cal_take_next (P := P) (w := w) (base := base) T
  obtain ⟨f, fd, M, F⟩ := T.m_Reading_take_page
  refine ⟨T.cl_Reading, f, fd, ["self"], M, F.binds fun _ _ _ _ _ _ us hl => match us, hl with | [_], _ => rfl, ?_⟩
  refine F.ok sc_Reading_take_page (fun vs H Q E h => ?_) (fun cdv A outer s H vs Q E hr h => ?_)
  · obtain ⟨R, dx, M, O, a, b, rfl, _⟩ := h
    rfl
  · obtain ⟨R, dx, M, O, a, b, rfl, x, k0, k1⟩ := h
    refine ⟨_, (pss_cons (ps_if (pt_cmpR op_gt (pe_callB call_len (by rfl) T.n_len PySem.boot_len (pa_cons (pe_fld (pv 0) rfl) pa_nil)) (pe_gc T.g_MOST_BYTES) (nomark _)) (pss_one (ps_ret (pe_gc T.g_TOO_MUCH))) pss_nil)
      (pss_cons (ps_while PassesOwn.never (pt_cmpR op_lt (pe_fld (pv 0) rfl) (pe_callB call_len (by rfl) T.n_len PySem.boot_len (pa_cons (pe_fld (pv 0) rfl) pa_nil)) (nomark _)) (pss_cons (ps_set (i := 1) sc_Reading_take_page.nd rfl (Or.inl rfl) (pe_mt0 c_Reading_take_next (hr.mono (by decide)) (pv 0)))
      (pss_one (ps_if (pt_cmpR op_ne (pv 1) (pe_gc T.g_NO_REFUSAL) (nomark _)) (pss_one (ps_ret (pv 1))) pss_nil))))
      (pss_cons (ps_if (pt_truth (pe_fld (pv 0) rfl) (fun _ => rfl)) (pss_one (ps_ret (pe_gc T.g_NO_MARK))) pss_nil)
      (pss_one (ps_ret (pe_gc T.g_NO_REFUSAL)))))), ?_⟩
    rw [read_eq] at k0 k1
    refine ⟨_, rfl, R, c.Reading, dx, _, _, rfl, x.r, T.cl_Reading, T.no_Reading_t, rfl, _, _, rfl, .inl ⟨_, x.tt, rfl⟩, _, _, rfl, rfl, _, rfl, ?_⟩
    rw [vb_len]
    refine ite2 (fun hL => ?_) (fun hL => ?_)
    · have hL : 16384 < b.length := by have := of_dec hL; omega
      exact k0 (-28) 0 _ (by rw [if_pos (show Kp172.MOST < b.length from hL)]) (by decide) x.r
    · have hL : b.length ≤ 16384 := by have := not_dec hL; omega
      rw [if_neg (show ¬ Kp172.MOST < b.length from Nat.not_lt.mpr hL)] at k0 k1
      refine wh (fun m σ H' => ∃ (i : Nat) (mp op : List Addr) (ms : List NM) (st : List (List Nat)) (u : Option V), σ = [some (.ref R), u] ∧ RSt K c H' R dx M O a b i mp op ms st ∧ i ≤ b.length ∧ m = b.length - i ∧ runN [] ms = some st ∧ wN ms ≤ 6 * i ∧ marksX b.length 0 [] b = prep (ms.map NM.er) (marksX b.length ms.length st (b.drop i)))
        (fun σ H' => ∃ (i : Nat) (mp op : List Addr) (ms : List NM) (st : List (List Nat)) (u : Option V), σ = [some (.ref R), u] ∧ RSt K c H' R dx M O a b i mp op ms st ∧ i = b.length ∧ runN [] ms = some st ∧ wN ms ≤ 6 * i ∧ marksX b.length 0 [] b = prep (ms.map NM.er) (if st = [] then .inr [] else .inl (-71, b.length))) ?_ ⟨_, 0, [], [], [], [], none, rfl, x, Nat.zero_le _, rfl, rfl, by show 0 ≤ _; omega, ?_⟩ fun out => ?_
      · rintro σ H' ⟨i, mp, op, ms, st, u, rfl, y, hi, h1, h2, h3⟩
        refine ⟨_, rfl, R, c.Reading, dx, _, _, rfl, y.r, T.cl_Reading, T.no_Reading_open_names, rfl, _, .inl ⟨_, SqL.of y.o, rfl⟩, ?_⟩
        have lo : op.length = st.length := by
          have := Paired.length y.on
          simpa using this
        cases st with
        | nil =>
          have ho : op = [] := by simpa using lo
          subst ho
          refine iteF ?_
          rw [if_pos rfl] at h3
          refine k1 ms mp i _ ?_ h1 (by omega) y
          rw [h3]
          simp [prep]
        | cons n st =>
          have ho : (!(op.map V.ref).isEmpty) = true := by
            cases op with
            | nil => simp at lo
            | cons z w => rfl
          rw [ho]
          refine iteT ?_
          rw [if_neg (by simp)] at h3
          exact k0 (-71) b.length _ h3 (by decide) (by rw [← hi]; exact y.r)
      · show marksX b.length 0 [] b = prep [] (marksX b.length 0 [] (b.drop 0))
        rw [prep_nil]
        rfl
      · rintro m σ H' ⟨i, mp, op, ms, st, u, rfl, y, hi, rfl, h1, h2, h3⟩
        refine ⟨_, rfl, R, c.Reading, dx, _, _, rfl, y.r, T.cl_Reading, T.no_Reading_at, rfl, _, rfl, R, c.Reading, dx, _, _, rfl, y.r, T.cl_Reading, T.no_Reading_t, rfl, _, _, rfl, .inl ⟨_, y.tt, rfl⟩, _, _, rfl, rfl, _, rfl, ?_⟩
        rw [vb_len]
        refine ite2 (fun hlt => ?_) (fun hge => ?_)
        · have hlt : i < b.length := by have := of_dec hlt; omega
          obtain ⟨d, r, e⟩ := drop_cons hlt
          have le := congrArg List.length e
          rw [List.length_drop, List.length_cons] at le
          rw [e, marksX_cons] at h3
          refine ⟨fun σ' H2 => ∃ (j : Nat) (mp' op' : List Addr) (nm : List NM) (s : List (List Nat)) (u : Option V), σ' = [some (.ref R), u] ∧ RSt K c H2 R dx M O a b j mp' op' (ms ++ nm) s ∧ i < j ∧ j ≤ b.length ∧ runN st nm = some s ∧ wN nm ≤ 6 * (j - i) ∧ step st d r = .more (nm.map NM.er) s (b.drop j) ∧ ms.length + nm.length ≤ 2048, ?_, ?_⟩
          · rintro σ' H2 ⟨j, mp', op', nm, s, u, rfl, y2, q1, q2, q3, q4, q5, q6⟩
            refine ⟨b.length - j, by omega, j, mp', op', ms ++ nm, s, u, rfl, y2, q2, rfl, ?_, ?_, ?_⟩
            · rw [runN_app, h1]
              exact q3
            · rw [wN_app]; omega
            · rw [h3, q5]
              dsimp only
              rw [if_neg (by rw [List.length_map]; show ¬ 2048 < _; omega), prep_prep, List.map_append, List.length_append, List.length_map]
          · refine ⟨_, rfl, R, dx, _, rfl, y.r, rfl, R, dx, M, O, a, b, i, mp, op, ms, st, d, r, rfl, y, e, hL, trivial, fun v H2 hb h2' => ?_, fun nm s j H2 mp' op' g1 g2 g3 g4 g5 g6 g7 g8 => ?_⟩
            · refine ⟨_, rfl, rfl, _, rfl, ite2 (fun hv => ?_) (fun hv => absurd (V.int.inj (nd_false hv)) hb.ne)⟩
              refine ⟨_, rfl, k0 v i _ ?_ hb.ne h2'⟩
              rw [h3]
              rcases hb with hb | ⟨l, s, q, hb, hb2, rfl⟩
              · rw [hb]
                dsimp only
                show Sum.inl _ = _
                rw [show b.length - (r.length + 1) = i by omega]
              · rw [hb]
                dsimp only
                rw [if_pos (show Kp172.MARKS < _ from hb2)]
                show Sum.inl _ = _
                rw [show b.length - (r.length + 1) = i by omega]
            · refine ⟨_, rfl, rfl, _, rfl, iteNS rfl ?_⟩
              have sl := step_len g1
              rw [List.length_cons, List.length_drop] at sl
              exact ⟨j, mp', op', nm, s, _, rfl, g7, by omega, g4, g5, g6, g1, g2⟩
        · have hge := not_dec hge
          refine out _ _ ⟨i, mp, op, ms, st, u, rfl, y, by omega, h1, h2, ?_⟩
          rw [h3, drop_nil (by omega), marksX_nil]
end
theorem new_reading {K : PySem.W.Frag} {c : Cs} {H H1 : Hp} {p dx M O a : Addr} {b : List Nat} (hS : Tt K H a b) (np : H p = none) (nd : H dx = none) (ne : dx ≠ p)
    (hM : (upd (upd H dx (.own p)) p (.ins c.Reading dx [])) M = none) (hO : (upd (upd H dx (.own p)) p (.ins c.Reading dx [])) O = none) (MO : M ≠ O) (h1 : H1 p = some (.ins c.Reading dx (rf a 0 M O))) (h2 : H1 M = some (.lst [])) (h3 : H1 O = some (.lst []))
    (h4 : ∀ b o, (upd (upd H dx (.own p)) p (.ins c.Reading dx [])) b = some o → b ≠ p → H1 b = some o) : RSt K c H1 p dx M O a b 0 [] [] [] [] := by
  have s0 : Same H (upd (upd H dx (.own p)) p (.ins c.Reading dx [])) := mk_same np nd
  refine ⟨h1, h2, h3, MO, ?_, .nil, .nil, Nat.zero_le _, Nat.zero_le _⟩
  refine Same.seq (fun q o e => dl_of ?_ (h4 q o (s0 q o e) (ne_of_none e np))) hS
  rintro (z | z | z) <;> subst z
  · rw [np] at e; cases e
  · rw [s0.free hM] at e; cases e
  · rw [s0.free hO] at e; cases e
end Pg
end
section
set_option Elab.async false
set_option linter.all false
set_option maxRecDepth 100000
set_option maxHeartbeats 4000000
namespace Pg
open PySem PySem.Spec PyProof.Rows L2
section
variable {P : Program} {w : World} {K : PySem.W.Frag} {mg : Str → Option Value} {base : Heap} {c : Cs}
def spCount : Sp := fun vs H Q _ => ∃ (l : Addr) (b : List Nat), vs = [.ref l] ∧ H l = some (.lst (vb b)) ∧ b.length ≤ 1000000 ∧ ∀ H' p, Same H H' → H p = none → H' p = some (.lst ((wrB b).map V.int)) → Q (.ref p) H'
theorem cal_with_count (T : Txt K mg c) : Cal P w K mg base "with_count" 1 spCount := by
  obtain ⟨f, fd, hm, F⟩ := T.f_with_count
  refine ⟨f, fd, ["row"], hm, F.kp, F.binds fun _ _ _ _ _ _ us hl => match us, hl with | [_], _ => rfl, ?_⟩
  refine F.ok sc_with_count (fun vs H Q E h => ?_) (fun cdv A outer s H vs Q E hr h => ?_)
  · obtain ⟨l, b, rfl, _⟩ := h
    rfl
  · obtain ⟨l, b, rfl, hl, hb, k⟩ := h
    refine ⟨_, (pss_one (ps_ret (pe_op op_cat (pe_lst (pa_cons (pe_callB call_len (by rfl) T.n_len PySem.boot_len (pa_cons (pv 0) pa_nil)) pa_nil)) (pv 0)))), ?_⟩
    refine ⟨_, rfl, _, _, rfl, .inl ⟨_, SqL.of hl, rfl⟩, by show 1 ≤ sizeLine; decide, fun p1 n1 => ?_⟩
    rw [vb_len]
    refine ⟨_, rfl, p1, l, _, _, rfl, rfl, upd_same, same_upd n1 _ _ hl, by rw [vb_len, sizeLine_eq]; simp; omega, fun p2 n2 => ?_⟩
    refine k _ p2 ((same_upd n1).trans (same_upd n2)) ((same_upd n1).free n2) ?_
    rw [upd_same, vwrB]
    rfl
end
end Pg
end
section
set_option Elab.async false
set_option linter.all false
set_option maxRecDepth 100000
set_option maxHeartbeats 4000000
namespace Pg
open PySem PySem.Spec PyProof.Rows L2
section
variable {P : Program} {w : World} {K : PySem.W.Frag} {mg : Str → Option Value} {base : Heap} {c : Cs}
theorem vb_at {b : List Nat} {i : Nat} {v : V} (h : (vb b)[i]? = some v) : ∃ d, b[i]? = some d ∧ v = .int (d : Int) := by
  unfold vb at h
  rw [List.getElem?_map] at h
  cases e : b[i]? with
  | none => rw [e] at h; cases h
  | some d => rw [e] at h; exact ⟨d, rfl, (Option.some.inj h).symm⟩
def spPlC : Sp := fun vs H Q _ => ∃ (l : Addr) (b : List Nat), vs = [.ref l] ∧ BytesAt H l b ∧ (Kp172.escaped b).length ≤ 98304 ∧ ∀ H' p, Same H H' → H p = none → H' p = some (.lst (vb (Kp172.escaped b))) → Q (.ref p) H'
theorem cal_plain_characters (T : Txt K mg c) : Cal P w K mg base "plain_characters" 2 spPlC := by
  have c_signs := cal_signs (P := P) (w := w) (base := base) T
  obtain ⟨ad, hmd, hKD⟩ := T.g_NAMED_REFERENCES
  obtain ⟨f, fd, hm, F⟩ := T.f_plain_characters
  refine ⟨f, fd, ["content"], hm, F.kp, F.binds fun _ _ _ _ _ _ us hl => match us, hl with | [_], _ => rfl, ?_⟩
  refine F.ok sc_plain_characters (fun vs H Q E h => ?_) (fun cdv A outer s H vs Q E hr h => ?_)
  · obtain ⟨l, b, rfl, _⟩ := h
    rfl
  · obtain ⟨l, b, rfl, hb, hL, k⟩ := h
    refine ⟨_, (pss_cons (ps_set (i := 1) sc_plain_characters.nd rfl (Or.inl rfl) (pe_lst pa_nil))
      (pss_cons (ps_for PassesOwn.never rfl (pi_list (pv 0)) (pg_name (i := 2) sc_plain_characters.nd rfl (Or.inl rfl)) (pss_one (ps_if (pt_cmp (pc_kin (pv 2) (pe_gc (v := .ref ad) ⟨_, hmd, rfl⟩))) (pss_one (ps_expr (pe_bm PySem.F.plainAttrs_list PySem.F.slot_list_extend PySem.F.type_list_extend mt_extend (pv 1) (pa_cons (pe_fn c_signs (hr.mono (by decide)) (pa_cons (pe_kget (pe_gc (v := .ref ad) ⟨_, hmd, rfl⟩) (pv 2) (fun _ _ => rfl)) pa_nil)) pa_nil)))) (pss_one (ps_expr (pe_bm PySem.F.plainAttrs_list PySem.F.slot_list_append PySem.F.type_list_append mt_append (pv 1) (pa_cons (pv 2) pa_nil)))))))
      (pss_one (ps_ret (pv 1))))), ?_⟩
    refine ⟨Nat.zero_le _, fun L nL => ?_⟩
    refine ⟨_, rfl, l, rfl, ⟨_, SqL.of (same_upd nL _ _ hb)⟩, for_list (K := K) (a := l) (xs := vb b) (fun i σ H' => ∃ u : Option V, σ = [some (.ref l), some (.ref L), u] ∧ Same H H' ∧ H' L = some (.lst (vb (Kp172.escaped (b.take i))))) ⟨none, rfl, same_upd nL, upd_same⟩ (fun i σ H' _ ⟨_, _, s1, _⟩ => SqL.of (s1 _ _ hb)) ?_ ?_⟩
    · rintro i v σ H' hv ⟨u, rfl, s1, h1⟩
      obtain ⟨d, hd, rfl⟩ := vb_at hv
      have et : Kp172.escaped (b.take (i + 1)) = Kp172.escaped (b.take i) ++ Kp172.escaped [d] := by rw [take_snoc hd, esc_app]
      have l1 := esc_take b i
      have l2 := esc_take b (i + 1)
      rw [et, List.length_append] at l2
      refine ⟨_, rfl, ad, refsK, Sum.inl (d : Int), rfl, hKD, rfl, _, rfl, ?_⟩
      rw [refs_val]
      cases hr0 : refOf d with
      | some x =>
        obtain ⟨x1, x2⟩ := refOf_len hr0
        have ed : Kp172.escaped [d] = x.cps.toList := by rw [esc_one, hr0]
        refine iteT ?_
        refine ⟨_, rfl, .inl ⟨rfl, _, SqL.of h1⟩, _, rfl, ad, refsK, Sum.inl (d : Int), .str x, rfl, hKD, rfl, by rw [refs_val, hr0]; rfl, x, rfl, x1, fun l3 n3 => ?_⟩
        refine ⟨L, l3, _, _, rfl, rfl, same_upd n3 _ _ h1, upd_same, by rw [vb_len, vb_len, sizeLine_eq]; omega, ?_⟩
        refine ⟨_, rfl, same_upd' (s1.trans (same_upd n3)) nL, ?_⟩
        rw [upd_same, et, ed, vb_app]
      | none =>
        have ed : Kp172.escaped [d] = [d] := by rw [esc_one, hr0]
        refine iteF ?_
        refine ⟨_, rfl, .inl ⟨rfl, _, SqL.of h1⟩, _, rfl, L, _, _, rfl, rfl, h1, by rw [vb_len, sizeLine_eq]; omega, ?_⟩
        refine ⟨_, rfl, same_upd' s1 nL, ?_⟩
        rw [upd_same, et, ed, vb_app]
        rfl
    · rintro σ H' ⟨u, rfl, s1, h1⟩
      rw [vb_len, List.take_length] at h1
      exact ⟨_, rfl, k H' L s1 nL h1⟩
def spPlA (c : Cs) : Sp := fun vs H Q _ => ∃ (p : Addr) (x : List Nat × List Nat), vs = [.ref p] ∧ AttrAt c H p x ∧ (plA x).length ≤ 98304 ∧ ∀ H' l, Same H H' → H l = none → H' l = some (.lst (vb (plA x))) → Q (.ref l) H'
theorem cal_plain_a (T : Txt K mg c) : CalM P w K mg base c.Attribute "plain" 3 (spPlA c) := by
  have c_signs := cal_signs (P := P) (w := w) (base := base) T
  have c_plain_characters := cal_plain_characters (P := P) (w := w) (base := base) T
  obtain ⟨f, fd, M, F⟩ := T.m_Attribute_plain
  refine ⟨T.cl_Attribute, f, fd, ["self"], M, F.binds fun _ _ _ _ _ _ us hl => match us, hl with | [_], _ => rfl, ?_⟩
  refine F.ok sc_Attribute_plain (fun vs H Q E h => ?_) (fun cdv A outer s H vs Q E hr h => ?_)
  · obtain ⟨p, x, rfl, _⟩ := h
    rfl
  · obtain ⟨p, x, rfl, ⟨ln, lv, ⟨dp, hp⟩, hn, hv⟩, hl, k⟩ := h
    have l1 : x.1.length + (Kp172.escaped x.2).length ≤ 98304 := by
      unfold plA at hl
      simp only [List.length_append, List.length_cons, List.length_nil] at hl
      omega
    refine ⟨_, (pss_one (ps_ret (pe_op op_cat (pe_op op_cat (pe_op op_cat (pe_op op_cat (pe_fn c_signs (hr.mono (by decide)) (pa_cons pe_str pa_nil)) (pe_fld (pv 0) rfl)) (pe_fn c_signs (hr.mono (by decide)) (pa_cons pe_str pa_nil))) (pe_fn c_plain_characters (hr.mono (by decide)) (pa_cons (pe_fld (pv 0) rfl) pa_nil))) (pe_fn c_signs (hr.mono (by decide)) (pa_cons pe_str pa_nil))))), ?_⟩
    refine ⟨" ", rfl, by decide, fun p1 n1 => ?_⟩
    refine ⟨_, rfl, p, c.Attribute, dp, _, _, rfl, same_upd n1 _ _ hp, T.cl_Attribute, T.no_Attribute_name, rfl, p1, ln, _, _, rfl, rfl, upd_same, same_upd n1 _ _ hn, by rw [vb_len, vb_len, sizeLine_eq]; show 1 + _ ≤ _; omega, fun p2 n2 => ?_⟩
    refine ⟨"=\"", rfl, by decide, fun p3 n3 => ?_⟩
    refine ⟨p2, p3, _, _, rfl, rfl, same_upd n3 _ _ upd_same, upd_same, by rw [List.length_append, vb_len, vb_len, vb_len, sizeLine_eq]; show 1 + _ + 2 ≤ _; omega, fun p4 n4 => ?_⟩
    have s4 := ((same_upd (o := .lst (vb (" " : Str).cps.toList)) n1).trans (same_upd (o := .lst (vb (" " : Str).cps.toList ++ vb x.1)) n2)).trans ((same_upd (o := .lst (vb ("=\"" : Str).cps.toList)) n3).trans (same_upd (o := .lst (vb (" " : Str).cps.toList ++ vb x.1 ++ vb ("=\"" : Str).cps.toList)) n4))
    refine ⟨_, rfl, p, c.Attribute, dp, _, _, rfl, s4 _ _ hp, T.cl_Attribute, T.no_Attribute_value, rfl, lv, x.2, rfl, s4 _ _ hv, by omega, fun H5 p5 s5 n5 h5 => ?_⟩
    refine ⟨p4, p5, _, _, rfl, rfl, s5 _ _ upd_same, h5, by rw [List.length_append, List.length_append, vb_len, vb_len, vb_len, vb_len, sizeLine_eq]; show 1 + _ + 2 + _ ≤ _; omega, fun p6 n6 => ?_⟩
    refine ⟨"\"", rfl, by decide, fun p7 n7 => ?_⟩
    refine ⟨p6, p7, _, _, rfl, rfl, same_upd n7 _ _ upd_same, upd_same, by rw [List.length_append, List.length_append, List.length_append, vb_len, vb_len, vb_len, vb_len, vb_len, sizeLine_eq]; show 1 + _ + 2 + _ + 1 ≤ _; omega, fun p8 n8 => ?_⟩
    refine k _ p8 ((s4.trans s5).trans (((same_upd n6).trans (same_upd n7)).trans (same_upd n8))) (((s4.trans s5).trans ((same_upd n6).trans (same_upd n7))).free n8) ?_
    rw [upd_same]
    unfold plA
    rw [vb_app, vb_app, vb_app, vb_app]
    rfl
def spPlO (c : Cs) : Sp := fun vs H Q _ => ∃ (p : Addr) (n : List Nat) (as : List (List Nat × List Nat)), vs = [.ref p] ∧ OpenAt c H p n as ∧ (plN (.o n as)).length ≤ 98304 ∧ ∀ H' l, Same H H' → H l = none → H' l = some (.lst (vb (plN (.o n as)))) → Q (.ref l) H'
theorem cal_plain_o (T : Txt K mg c) : CalM P w K mg base c.Opening "plain" 4 (spPlO c) := by
  have c_signs := cal_signs (P := P) (w := w) (base := base) T
  have c_Attribute_plain := cal_plain_a (P := P) (w := w) (base := base) T
  obtain ⟨f, fd, M, F⟩ := T.m_Opening_plain
  refine ⟨T.cl_Opening, f, fd, ["self"], M, F.binds fun _ _ _ _ _ _ us hl => match us, hl with | [_], _ => rfl, ?_⟩
  refine F.ok sc_Opening_plain (fun vs H Q E h => ?_) (fun cdv A outer s H vs Q E hr h => ?_)
  · obtain ⟨p, n, as, rfl, _⟩ := h
    rfl
  · obtain ⟨p, n, as, rfl, ⟨ln, la, ⟨dp, hp⟩, hn, ps, hla, hps⟩, hl, k⟩ := h
    have lp : ps.length = as.length := Paired.length hps
    have l1 : 1 + n.length + (as.flatMap plA).length + 1 ≤ 98304 := by
      unfold plN at hl
      simp only [List.length_append, List.length_cons, List.length_nil] at hl
      omega
    refine ⟨_, (pss_cons (ps_set (i := 1) sc_Opening_plain.nd rfl (Or.inl rfl) (pe_op op_cat (pe_fn c_signs (hr.mono (by decide)) (pa_cons pe_str pa_nil)) (pe_fld (pv 0) rfl)))
      (pss_cons (ps_for PassesOwn.never rfl (pi_list (pe_fld (pv 0) rfl)) (pg_name (i := 2) sc_Opening_plain.nd rfl (Or.inl rfl)) (pss_one (ps_expr (pe_bm PySem.F.plainAttrs_list PySem.F.slot_list_extend PySem.F.type_list_extend mt_extend (pv 1) (pa_cons (pe_mt0 c_Attribute_plain (hr.mono (by decide)) (pv 2)) pa_nil)))))
      (pss_one (ps_ret (pe_op op_cat (pv 1) (pe_fn c_signs (hr.mono (by decide)) (pa_cons pe_str pa_nil))))))), ?_⟩
    refine ⟨"<", rfl, by decide, fun p1 n1 => ?_⟩
    refine ⟨_, rfl, p, c.Opening, dp, _, _, rfl, same_upd n1 _ _ hp, T.cl_Opening, T.no_Opening_name, rfl, p1, ln, _, _, rfl, rfl, upd_same, same_upd n1 _ _ hn, by rw [vb_len, vb_len, sizeLine_eq]; show 1 + _ ≤ _; omega, fun L nL => ?_⟩
    have nLH : H L = none := (same_upd n1).free nL
    have s2 : Same H (upd (upd H p1 (.lst (vb ("<" : Str).cps.toList))) L (.lst (vb ("<" : Str).cps.toList ++ vb n))) := (same_upd n1).trans (same_upd nL)
    refine ⟨_, rfl, p, c.Opening, dp, _, _, rfl, s2 _ _ hp, T.cl_Opening, T.no_Opening_attributes, rfl, la, rfl, ⟨_, SqL.of (s2 _ _ hla)⟩, for_list (K := K) (a := la) (xs := ps.map V.ref) (fun i σ H' => ∃ u : Option V, σ = [some (.ref p), some (.ref L), u] ∧ Same H H' ∧ H' L = some (.lst (vb ([60] ++ n ++ (as.take i).flatMap plA)))) ⟨none, rfl, s2, ?_⟩ (fun i σ H' _ ⟨_, _, s1, _⟩ => SqL.of (s1 _ _ hla)) ?_ ?_⟩
    · rw [upd_same]
      show _ = some (HO.lst (vb ([60] ++ n ++ [])))
      rw [List.append_nil, vb_app]
      rfl
    · rintro i v σ H' hv ⟨u, rfl, s1, h1⟩
      have hil : i < ps.length := by
        have := (List.getElem?_eq_some_iff.mp hv).1
        rw [List.length_map] at this
        exact this
      have hq := List.getElem?_eq_getElem hil
      obtain ⟨x, hx, hat⟩ := paired_get hps hq
      have ev : v = V.ref ps[i] := by
        rw [List.getElem?_map, hq] at hv
        exact (Option.some.inj hv).symm
      subst ev
      have hat1 := hat.mono s1
      obtain ⟨lna, lva, ⟨da, hda⟩, _⟩ := id hat1
      have lx := plA_mem (List.mem_of_getElem? hx)
      have lt := plA_take as (i + 1)
      have et : (as.take (i + 1)).flatMap plA = (as.take i).flatMap plA ++ plA x := by
        rw [take_snoc hx, List.flatMap_append]
        simp
      rw [et, List.length_append] at lt
      refine ⟨_, rfl, .inl ⟨rfl, _, SqL.of h1⟩, _, rfl, ps[i], da, _, rfl, hda, rfl, ps[i], x, rfl, hat1, by omega, fun H3 l3 s3 n3 h3 => ?_⟩
      refine ⟨L, l3, _, _, rfl, rfl, s3 _ _ h1, h3, by rw [vb_len, vb_len, sizeLine_eq]; simp only [List.length_append, List.length_cons, List.length_nil]; omega, ?_⟩
      refine ⟨_, rfl, same_upd' (s1.trans s3) nLH, ?_⟩
      rw [upd_same, et, ← List.append_assoc, vb_app ([60] ++ n ++ _)]
    · rintro σ H' ⟨u, rfl, s1, h1⟩
      rw [List.length_map, lp, List.take_length] at h1
      refine ⟨_, rfl, ">", rfl, by decide, fun p5 n5 => ?_⟩
      refine ⟨L, p5, _, _, rfl, rfl, same_upd n5 _ _ h1, upd_same, by rw [vb_len, vb_len, sizeLine_eq]; simp only [List.length_append, List.length_cons, List.length_nil]; show _ + 1 ≤ _; omega, fun p6 n6 => ?_⟩
      refine k _ p6 ((s1.trans (same_upd n5)).trans (same_upd n6)) ((s1.trans (same_upd n5)).free n6) ?_
      rw [upd_same]
      unfold plN
      rw [vb_app ([60] ++ n ++ _)]
      rfl
def spPlX (c : Cs) : Sp := fun vs H Q _ => ∃ (p : Addr) (n : List Nat), vs = [.ref p] ∧ CloseAt c H p n ∧ (plN (.c n)).length ≤ 98304 ∧ ∀ H' l, Same H H' → H l = none → H' l = some (.lst (vb (plN (.c n)))) → Q (.ref l) H'
theorem cal_plain_c (T : Txt K mg c) : CalM P w K mg base c.Closing "plain" 4 (spPlX c) := by
  have c_signs := cal_signs (P := P) (w := w) (base := base) T
  obtain ⟨f, fd, M, F⟩ := T.m_Closing_plain
  refine ⟨T.cl_Closing, f, fd, ["self"], M, F.binds fun _ _ _ _ _ _ us hl => match us, hl with | [_], _ => rfl, ?_⟩
  refine F.ok sc_Closing_plain (fun vs H Q E h => ?_) (fun cdv A outer s H vs Q E hr h => ?_)
  · obtain ⟨p, n, rfl, _⟩ := h
    rfl
  · obtain ⟨p, n, rfl, ⟨ln, ⟨dp, hp⟩, hn⟩, hl, k⟩ := h
    have l1 : n.length ≤ 98304 := by
      unfold plN at hl
      simp only [List.length_append, List.length_cons, List.length_nil] at hl
      omega
    refine ⟨_, (pss_one (ps_ret (pe_op op_cat (pe_op op_cat (pe_fn c_signs (hr.mono (by decide)) (pa_cons pe_str pa_nil)) (pe_fld (pv 0) rfl)) (pe_fn c_signs (hr.mono (by decide)) (pa_cons pe_str pa_nil))))), ?_⟩
    refine ⟨"</", rfl, by decide, fun p1 n1 => ?_⟩
    refine ⟨_, rfl, p, c.Closing, dp, _, _, rfl, same_upd n1 _ _ hp, T.cl_Closing, T.no_Closing_name, rfl, p1, ln, _, _, rfl, rfl, upd_same, same_upd n1 _ _ hn, by rw [vb_len, vb_len, sizeLine_eq]; show 2 + _ ≤ _; omega, fun p2 n2 => ?_⟩
    refine ⟨">", rfl, by decide, fun p3 n3 => ?_⟩
    refine ⟨p2, p3, _, _, rfl, rfl, same_upd n3 _ _ upd_same, upd_same, by rw [List.length_append, vb_len, vb_len, vb_len, sizeLine_eq]; show 2 + _ + 1 ≤ _; omega, fun p4 n4 => ?_⟩
    refine k _ p4 (((same_upd n1).trans (same_upd n2)).trans ((same_upd n3).trans (same_upd n4))) ((((same_upd n1).trans (same_upd n2)).trans (same_upd n3)).free n4) ?_
    rw [upd_same]
    unfold plN
    rw [vb_app, vb_app]
    rfl
def spPlT (c : Cs) : Sp := fun vs H Q _ => ∃ (p : Addr) (b : List Nat), vs = [.ref p] ∧ TextAt c H p b ∧ (plN (.t b)).length ≤ 98304 ∧ ∀ H' l, Same H H' → H l = none → H' l = some (.lst (vb (plN (.t b)))) → Q (.ref l) H'
theorem cal_plain_t (T : Txt K mg c) : CalM P w K mg base c.Text "plain" 3 (spPlT c) := by
  have c_plain_characters := cal_plain_characters (P := P) (w := w) (base := base) T
  obtain ⟨f, fd, M, F⟩ := T.m_Text_plain
  refine ⟨T.cl_Text, f, fd, ["self"], M, F.binds fun _ _ _ _ _ _ us hl => match us, hl with | [_], _ => rfl, ?_⟩
  refine F.ok sc_Text_plain (fun vs H Q E h => ?_) (fun cdv A outer s H vs Q E hr h => ?_)
  · obtain ⟨p, b, rfl, _⟩ := h
    rfl
  · obtain ⟨p, b, rfl, ⟨l, ⟨dp, hp⟩, hb⟩, hl, k⟩ := h
    refine ⟨_, (pss_one (ps_ret (pe_fn c_plain_characters (hr.mono (by decide)) (pa_cons (pe_fld (pv 0) rfl) pa_nil)))), ?_⟩
    exact ⟨_, rfl, p, c.Text, dp, _, _, rfl, hp, T.cl_Text, T.no_Text_content, rfl, l, b, rfl, hb, hl, k⟩
def spPlain (K : PySem.W.Frag) : Sp := fun vs H Q _ => ∃ (a : Addr) (ns : List Int), vs = [.ref a] ∧ SqL K H a (ns.map V.int) ∧ (∀ x ∈ ns, 0 ≤ x) ∧ ∀ H' l, H' l = some (.lst ((PyKp172.pg_plain ns).map V.int)) → Q (.ref l) H'
theorem ok_pg_plain (T : Txt K mg c) {f : Addr} {fd : FuncData} (F : Fun K "pg_plain" "pg_plain" s_pg_plain f fd) : FnOk P w K mg base CX0 14 f fd ["t"] (spPlain K) := by
  have m_Reading := mk_Reading (P := P) (w := w) (base := base) T
  have c_Reading_take_page := cal_take_page (P := P) (w := w) (base := base) T
  have c_with_count := cal_with_count (P := P) (w := w) (base := base) T
  have c_Opening_plain := cal_plain_o (P := P) (w := w) (base := base) T
  have c_Closing_plain := cal_plain_c (P := P) (w := w) (base := base) T
  have c_Text_plain := cal_plain_t (P := P) (w := w) (base := base) T
  refine F.ok sc_pg_plain (fun vs H Q E h => ?_) (fun cdv A outer s H vs Q E hr h => ?_)
  · obtain ⟨a, ns, rfl, _⟩ := h
    rfl
  · obtain ⟨a, ns, rfl, hS, h0, k⟩ := h
    obtain ⟨b, rfl⟩ : ∃ b, ns = ib b := ⟨_, (ib_nats h0).symm⟩
    rw [← vb_ib] at hS
    rw [ans_plain] at k
    refine ⟨_, (pss_cons (ps_set (i := 1) sc_pg_plain.nd rfl (Or.inl rfl) (pe_mk m_Reading (hr.mono (by decide)) (pa_cons (pv 0) pa_nil)))
      (pss_cons (ps_set (i := 2) sc_pg_plain.nd rfl (Or.inl rfl) (pe_mt0 c_Reading_take_page (hr.mono (by decide)) (pv 1)))
      (pss_cons (ps_if (pt_cmpR op_ne (pv 2) (pe_gc T.g_NO_REFUSAL) (nomark _)) (pss_one (ps_ret (pe_lst (pa_cons (pe_gc T.g_NUMBER_ALONE) (pa_cons (pv 2) pa_nil))))) pss_nil)
      (pss_cons (ps_set (i := 3) sc_pg_plain.nd rfl (Or.inl rfl) (pe_lst pa_nil))
      (pss_cons (ps_for PassesOwn.never rfl (pi_list (pe_fld (pv 1) rfl)) (pg_name (i := 4) sc_pg_plain.nd rfl (Or.inl rfl)) (pss_one (ps_expr (pe_bm PySem.F.plainAttrs_list PySem.F.slot_list_extend PySem.F.type_list_extend mt_extend (pv 3) (pa_cons (pe_alt (pe_mt0 c_Opening_plain (hr.mono (by decide)) (pv 4)) (pe_alt (pe_mt0 c_Closing_plain (hr.mono (by decide)) (pv 4)) (pe_mt0 c_Text_plain (hr.mono (by decide)) (pv 4)))) pa_nil)))))
      (pss_one (ps_ret (pe_op op_cat (pe_lst (pa_cons (pe_gc T.g_PAGE_FORM) pa_nil)) (pe_fn c_with_count (hr.mono (by decide)) (pa_cons (pv 3) pa_nil)))))))))), ?_⟩
    refine ⟨_, rfl, fun p dx np nd ne => ⟨p, dx, a, rfl, upd_same, fun M O H1 hM hO MO h1 h2 h3 h4 => ⟨rfl, ?_⟩⟩⟩
    have x := new_reading hS np nd ne hM hO MO h1 h2 h3 h4
    refine ⟨_, rfl, p, dx, _, rfl, x.r, rfl, p, dx, M, O, a, b, rfl, x, fun v at_ H2 hr hv h5 => ?_, fun ms mp j H2 hr hn hw y => ?_⟩
    · rw [hr] at k
      refine ⟨_, rfl, rfl, _, rfl, ite2 (fun _ => ?_) (fun q => absurd (V.int.inj (nd_false q)) hv)⟩
      refine ⟨_, rfl, by show 2 ≤ sizeLine; decide, fun l hl => ?_⟩
      exact k _ l upd_same
    · rw [hr] at k
      dsimp only at k
      unfold Kp172.plain at k
      rw [write_eq ms [] [] hn] at k
      have lm : mp.length = ms.length := Paired.length y.mks
      refine ⟨_, rfl, rfl, _, rfl, iteNS rfl ?_⟩
      refine ⟨Nat.zero_le _, fun L nL => ?_⟩
      have sL : Same H2 (upd H2 L (.lst [])) := same_upd nL
      refine ⟨_, rfl, p, c.Reading, dx, _, _, rfl, sL _ _ y.r, T.cl_Reading, T.no_Reading_marks, rfl, M, rfl, ⟨_, SqL.of (sL _ _ y.m)⟩, for_list (K := K) (a := M) (xs := mp.map V.ref) (fun i σ H' => ∃ u : Option V, σ = [some (.ref a), some (.ref p), some (.int 0), some (.ref L), u] ∧ Same H2 H' ∧ H' L = some (.lst (vb ((ms.take i).flatMap plN)))) ⟨none, rfl, sL, upd_same⟩ (fun i σ H' _ ⟨_, _, s1, _⟩ => SqL.of (s1 _ _ y.m)) ?_ ?_⟩
      · rintro i v σ H' hv ⟨u, rfl, s1, h1⟩
        have hil : i < mp.length := by
          have := (List.getElem?_eq_some_iff.mp hv).1
          rw [List.length_map] at this
          exact this
        have hq := List.getElem?_eq_getElem hil
        obtain ⟨m, hm, hmk⟩ := paired_get y.mks hq
        have ev : v = V.ref mp[i] := by
          rw [List.getElem?_map, hq] at hv
          exact (Option.some.inj hv).symm
        subst ev
        have hmk := (hmk.mono dl_same).mono s1
        have hw1 := Nat.le_trans (wN_mem (List.mem_of_getElem? hm)) hw
        have lt := plN_take ms (i + 1)
        have et : (ms.take (i + 1)).flatMap plN = (ms.take i).flatMap plN ++ plN m := by
          rw [take_snoc hm, List.flatMap_append]
          simp
        rw [et, List.length_append] at lt
        refine ⟨_, rfl, .inl ⟨rfl, _, SqL.of h1⟩, ?_⟩
        have nx : ∀ (H3 : Hp) (l3 : Addr), Same H' H3 → H' l3 = none → H3 l3 = some (.lst (vb (plN m))) → rExtend (.ref L) [.ref l3] H3 fun _ H4 => ∃ u : Option V, [some (V.ref a), some (.ref p), some (.int 0), some (.ref L), some (.ref mp[i])] = [some (.ref a), some (.ref p), some (.int 0), some (.ref L), u] ∧ Same H2 H4 ∧ H4 L = some (.lst (vb ((ms.take (i + 1)).flatMap plN))) := by
          intro H3 l3 s3 n3 h3
          refine ⟨L, l3, _, _, rfl, rfl, s3 _ _ h1, h3, by rw [vb_len, vb_len, sizeLine_eq]; omega, ?_⟩
          refine ⟨_, rfl, same_upd' (s1.trans s3) nL, ?_⟩
          rw [upd_same, et, vb_app]
        cases m with
        | o n as =>
          have hmk : OpenAt c H' mp[i] n as := hmk
          obtain ⟨ln, la, ⟨dq, hqi⟩, _⟩ := id hmk
          exact .inl ⟨_, rfl, mp[i], dq, _, rfl, hqi, rfl, mp[i], n, as, rfl, hmk, hw1, nx⟩
        | c n =>
          have hmk : CloseAt c H' mp[i] n := hmk
          obtain ⟨ln, ⟨dq, hqi⟩, _⟩ := id hmk
          exact .inr (.inl ⟨_, rfl, mp[i], dq, _, rfl, hqi, rfl, mp[i], n, rfl, hmk, hw1, nx⟩)
        | t t =>
          have hmk : TextAt c H' mp[i] t := hmk
          obtain ⟨ln, ⟨dq, hqi⟩, _⟩ := id hmk
          exact .inr (.inr ⟨_, rfl, mp[i], dq, _, rfl, hqi, rfl, mp[i], t, rfl, hmk, hw1, nx⟩)
      · rintro σ H' ⟨u, rfl, s1, h1⟩
        rw [List.length_map, lm, List.take_length] at h1
        have lw : (ms.flatMap plN).length ≤ 98304 := hw
        refine ⟨by show 1 ≤ sizeLine; decide, fun p1 n1 => ?_⟩
        refine ⟨_, rfl, L, _, rfl, same_upd n1 _ _ h1, by omega, fun H4 p4 s4 n4 h4 => ?_⟩
        refine ⟨p1, p4, _, _, rfl, rfl, s4 _ _ upd_same, h4, by rw [List.length_map, wrB_len, sizeLine_eq]; simp only [List.length_cons, List.length_nil]; omega, fun p5 n5 => ?_⟩
        refine k _ p5 ?_
        rw [upd_same]
        rfl
theorem fin_pg_plain (T : Txt K mg c) {fa : Addr} (hfa : mg "pg_plain" = some (.ref fa)) : ∃ fd : FuncData, (∀ (s : Shared) (us : List Value), us.length = (["t"] : List Str).length → BindsTo s fd ⟨us, []⟩ ((["t"] : List Str).zip us)) ∧
    ∀ base : Heap, K.In base → base.Ns mainGlobals mg → FnOk P w K mg base CX0 14 fa fd ["t"] (spPlain K) := by
  obtain ⟨f, fd, hm, F⟩ := T.f_pg_plain
  have e := hfa.symm.trans hm
  cases e
  refine ⟨fd, fun s us hu => ?_, fun base _ _ => ok_pg_plain T F⟩
  obtain ⟨oc, od, kV, doc, pm, an, cdv, ct, osl, rfl, lk, hcd⟩ := F.ex
  exact match us, hu with | [_], _ => .of_eq rfl
end
theorem txt_mk {K : PySem.W.Frag} {h : Heap} {mg : Str → Option Value} {t_MOST_BYTES : Nat}
    {t_MOST_MARKS : Nat}
    {t_MOST_ATTRIBUTES : Nat}
    {t_MOST_DEPTH : Nat}
    {t_MOST_NAME_BYTES : Nat}
    {t_MOST_DIGITS : Nat}
    {t_NUMBER_ALONE : Nat}
    {t_PAGE_FORM : Nat}
    {t_NO_REFUSAL : Nat}
    {t_SAME_NAME : Nat}
    {t_TOO_MUCH : Nat}
    {t_NO_MARK : Nat}
    {t_NEWLINE : Nat}
    {t_SPACE : Nat}
    {t_QUOTE : Nat}
    {t_AMPERSAND : Nat}
    {t_HYPHEN : Nat}
    {t_DIGIT_0 : Nat}
    {t_DIGIT_9 : Nat}
    {t_LESS_THAN : Nat}
    {t_SMALL_A : Nat}
    {t_SMALL_Z : Nat}
    {t_LAST_BYTE : Nat}
    {d_NAMED_REFERENCES : Addr} {ep_NAMED_REFERENCES : Nat}
    {t0_NAMED_REFERENCES u0_NAMED_REFERENCES t1_NAMED_REFERENCES u1_NAMED_REFERENCES t2_NAMED_REFERENCES u2_NAMED_REFERENCES t3_NAMED_REFERENCES u3_NAMED_REFERENCES : Nat}
    {t_NUMBER_REFERENCE : Nat}
    {f_with_count : Addr} {od_with_count an_with_count : Option Addr} {sl_with_count : Array (Option Value)} {oc_with_count kV_with_count dc_with_count pm_with_count cd_with_count ct_with_count : Value}
    {f_signs : Addr} {od_signs an_signs : Option Addr} {sl_signs : Array (Option Value)} {oc_signs kV_signs dc_signs pm_signs cd_signs ct_signs : Value}
    {f_plain_characters : Addr} {od_plain_characters an_plain_characters : Option Addr} {sl_plain_characters : Array (Option Value)} {oc_plain_characters kV_plain_characters dc_plain_characters pm_plain_characters cd_plain_characters ct_plain_characters : Value}
    {f_stands_at : Addr} {od_stands_at an_stands_at : Option Addr} {sl_stands_at : Array (Option Value)} {oc_stands_at kV_stands_at dc_stands_at pm_stands_at cd_stands_at ct_stands_at : Value}
    {f_may_be_in_page : Addr} {od_may_be_in_page an_may_be_in_page : Option Addr} {sl_may_be_in_page : Array (Option Value)} {oc_may_be_in_page kV_may_be_in_page dc_may_be_in_page pm_may_be_in_page cd_may_be_in_page ct_may_be_in_page : Value}
    {f_is_blank : Addr} {od_is_blank an_is_blank : Option Addr} {sl_is_blank : Array (Option Value)} {oc_is_blank kV_is_blank dc_is_blank pm_is_blank cd_is_blank ct_is_blank : Value}
    {f_is_digit : Addr} {od_is_digit an_is_digit : Option Addr} {sl_is_digit : Array (Option Value)} {oc_is_digit kV_is_digit dc_is_digit pm_is_digit cd_is_digit ct_is_digit : Value}
    {f_is_small_letter : Addr} {od_is_small_letter an_is_small_letter : Option Addr} {sl_is_small_letter : Array (Option Value)} {oc_is_small_letter kV_is_small_letter dc_is_small_letter pm_is_small_letter cd_is_small_letter ct_is_small_letter : Value}
    {f_is_in_name : Addr} {od_is_in_name an_is_in_name : Option Addr} {sl_is_in_name : Array (Option Value)} {oc_is_in_name kV_is_in_name dc_is_in_name pm_is_in_name cd_is_in_name ct_is_in_name : Value}
    {f_end_of_blanks : Addr} {od_end_of_blanks an_end_of_blanks : Option Addr} {sl_end_of_blanks : Array (Option Value)} {oc_end_of_blanks kV_end_of_blanks dc_end_of_blanks pm_end_of_blanks cd_end_of_blanks ct_end_of_blanks : Value}
    {f_read_name : Addr} {od_read_name an_read_name : Option Addr} {sl_read_name : Array (Option Value)} {oc_read_name kV_read_name dc_read_name pm_read_name cd_read_name ct_read_name : Value}
    {f_read_number_reference : Addr} {od_read_number_reference an_read_number_reference : Option Addr} {sl_read_number_reference : Array (Option Value)} {oc_read_number_reference kV_read_number_reference dc_read_number_reference pm_read_number_reference cd_read_number_reference ct_read_number_reference : Value}
    {f_read_reference : Addr} {od_read_reference an_read_reference : Option Addr} {sl_read_reference : Array (Option Value)} {oc_read_reference kV_read_reference dc_read_reference pm_read_reference cd_read_reference ct_read_reference : Value}
    {f_read_character : Addr} {od_read_character an_read_character : Option Addr} {sl_read_character : Array (Option Value)} {oc_read_character kV_read_character dc_read_character pm_read_character cd_read_character ct_read_character : Value}
    {f_read_characters : Addr} {od_read_characters an_read_characters : Option Addr} {sl_read_characters : Array (Option Value)} {oc_read_characters kV_read_characters dc_read_characters pm_read_characters cd_read_characters ct_read_characters : Value}
    {f_read_value : Addr} {od_read_value an_read_value : Option Addr} {sl_read_value : Array (Option Value)} {oc_read_value kV_read_value dc_read_value pm_read_value cd_read_value ct_read_value : Value}
    {f_attribute_begins : Addr} {od_attribute_begins an_attribute_begins : Option Addr} {sl_attribute_begins : Array (Option Value)} {oc_attribute_begins kV_attribute_begins dc_attribute_begins pm_attribute_begins cd_attribute_begins ct_attribute_begins : Value}
    {f_read_attribute : Addr} {od_read_attribute an_read_attribute : Option Addr} {sl_read_attribute : Array (Option Value)} {oc_read_attribute kV_read_attribute dc_read_attribute pm_read_attribute cd_read_attribute ct_read_attribute : Value}
    {f_read_attributes : Addr} {od_read_attributes an_read_attributes : Option Addr} {sl_read_attributes : Array (Option Value)} {oc_read_attributes kV_read_attributes dc_read_attributes pm_read_attributes cd_read_attributes ct_read_attributes : Value}
    {f_read_beginning : Addr} {od_read_beginning an_read_beginning : Option Addr} {sl_read_beginning : Array (Option Value)} {oc_read_beginning kV_read_beginning dc_read_beginning pm_read_beginning cd_read_beginning ct_read_beginning : Value}
    {f_read_end : Addr} {od_read_end an_read_end : Option Addr} {sl_read_end : Array (Option Value)} {oc_read_end kV_read_end dc_read_end pm_read_end cd_read_end ct_read_end : Value}
    {f_pg_plain : Addr} {od_pg_plain an_pg_plain : Option Addr} {sl_pg_plain : Array (Option Value)} {oc_pg_plain kV_pg_plain dc_pg_plain pm_pg_plain cd_pg_plain ct_pg_plain : Value}
    {C_Attribute : Addr}
    {f_Attribute___init__ : Addr} {od_Attribute___init__ an_Attribute___init__ : Option Addr} {sl_Attribute___init__ : Array (Option Value)} {oc_Attribute___init__ kV_Attribute___init__ dc_Attribute___init__ pm_Attribute___init__ cd_Attribute___init__ ct_Attribute___init__ : Value}
    {f_Attribute_plain : Addr} {od_Attribute_plain an_Attribute_plain : Option Addr} {sl_Attribute_plain : Array (Option Value)} {oc_Attribute_plain kV_Attribute_plain dc_Attribute_plain pm_Attribute_plain cd_Attribute_plain ct_Attribute_plain : Value}
    {C_Opening : Addr}
    {f_Opening___init__ : Addr} {od_Opening___init__ an_Opening___init__ : Option Addr} {sl_Opening___init__ : Array (Option Value)} {oc_Opening___init__ kV_Opening___init__ dc_Opening___init__ pm_Opening___init__ cd_Opening___init__ ct_Opening___init__ : Value}
    {f_Opening_has_same_names : Addr} {od_Opening_has_same_names an_Opening_has_same_names : Option Addr} {sl_Opening_has_same_names : Array (Option Value)} {oc_Opening_has_same_names kV_Opening_has_same_names dc_Opening_has_same_names pm_Opening_has_same_names cd_Opening_has_same_names ct_Opening_has_same_names : Value}
    {f_Opening_plain : Addr} {od_Opening_plain an_Opening_plain : Option Addr} {sl_Opening_plain : Array (Option Value)} {oc_Opening_plain kV_Opening_plain dc_Opening_plain pm_Opening_plain cd_Opening_plain ct_Opening_plain : Value}
    {C_Closing : Addr}
    {f_Closing___init__ : Addr} {od_Closing___init__ an_Closing___init__ : Option Addr} {sl_Closing___init__ : Array (Option Value)} {oc_Closing___init__ kV_Closing___init__ dc_Closing___init__ pm_Closing___init__ cd_Closing___init__ ct_Closing___init__ : Value}
    {f_Closing_plain : Addr} {od_Closing_plain an_Closing_plain : Option Addr} {sl_Closing_plain : Array (Option Value)} {oc_Closing_plain kV_Closing_plain dc_Closing_plain pm_Closing_plain cd_Closing_plain ct_Closing_plain : Value}
    {C_Text : Addr}
    {f_Text___init__ : Addr} {od_Text___init__ an_Text___init__ : Option Addr} {sl_Text___init__ : Array (Option Value)} {oc_Text___init__ kV_Text___init__ dc_Text___init__ pm_Text___init__ cd_Text___init__ ct_Text___init__ : Value}
    {f_Text_plain : Addr} {od_Text_plain an_Text_plain : Option Addr} {sl_Text_plain : Array (Option Value)} {oc_Text_plain kV_Text_plain dc_Text_plain pm_Text_plain cd_Text_plain ct_Text_plain : Value}
    {C_Piece : Addr}
    {f_Piece___init__ : Addr} {od_Piece___init__ an_Piece___init__ : Option Addr} {sl_Piece___init__ : Array (Option Value)} {oc_Piece___init__ kV_Piece___init__ dc_Piece___init__ pm_Piece___init__ cd_Piece___init__ ct_Piece___init__ : Value}
    {C_Beginning : Addr}
    {f_Beginning___init__ : Addr} {od_Beginning___init__ an_Beginning___init__ : Option Addr} {sl_Beginning___init__ : Array (Option Value)} {oc_Beginning___init__ kV_Beginning___init__ dc_Beginning___init__ pm_Beginning___init__ cd_Beginning___init__ ct_Beginning___init__ : Value}
    {C_Reading : Addr}
    {f_Reading___init__ : Addr} {od_Reading___init__ an_Reading___init__ : Option Addr} {sl_Reading___init__ : Array (Option Value)} {oc_Reading___init__ kV_Reading___init__ dc_Reading___init__ pm_Reading___init__ cd_Reading___init__ ct_Reading___init__ : Value}
    {f_Reading_take_marks : Addr} {od_Reading_take_marks an_Reading_take_marks : Option Addr} {sl_Reading_take_marks : Array (Option Value)} {oc_Reading_take_marks kV_Reading_take_marks dc_Reading_take_marks pm_Reading_take_marks cd_Reading_take_marks ct_Reading_take_marks : Value}
    {f_Reading_take_text : Addr} {od_Reading_take_text an_Reading_take_text : Option Addr} {sl_Reading_take_text : Array (Option Value)} {oc_Reading_take_text kV_Reading_take_text dc_Reading_take_text pm_Reading_take_text cd_Reading_take_text ct_Reading_take_text : Value}
    {f_Reading_take_beginning : Addr} {od_Reading_take_beginning an_Reading_take_beginning : Option Addr} {sl_Reading_take_beginning : Array (Option Value)} {oc_Reading_take_beginning kV_Reading_take_beginning dc_Reading_take_beginning pm_Reading_take_beginning cd_Reading_take_beginning ct_Reading_take_beginning : Value}
    {f_Reading_take_end : Addr} {od_Reading_take_end an_Reading_take_end : Option Addr} {sl_Reading_take_end : Array (Option Value)} {oc_Reading_take_end kV_Reading_take_end dc_Reading_take_end pm_Reading_take_end cd_Reading_take_end ct_Reading_take_end : Value}
    {f_Reading_take_next : Addr} {od_Reading_take_next an_Reading_take_next : Option Addr} {sl_Reading_take_next : Array (Option Value)} {oc_Reading_take_next kV_Reading_take_next dc_Reading_take_next pm_Reading_take_next cd_Reading_take_next ct_Reading_take_next : Value}
    {f_Reading_take_page : Addr} {od_Reading_take_page an_Reading_take_page : Option Addr} {sl_Reading_take_page : Array (Option Value)} {oc_Reading_take_page kV_Reading_take_page dc_Reading_take_page pm_Reading_take_page cd_Reading_take_page ct_Reading_take_page : Value}
    (X : K.In h) (G : h.Ns mainGlobals mg)
    (b_len : PySem.W.nsIn K mainGlobals "len" = some none)
    (b_tuple : PySem.W.nsIn K mainGlobals "tuple" = some none)
    (b_ord : PySem.W.nsIn K mainGlobals "ord" = some none)
    (b_set : PySem.W.nsIn K mainGlobals "set" = some none)
    (g_MOST_BYTES : PySem.W.nsIn K mainGlobals "MOST_BYTES" = some (some (.int 16384 t_MOST_BYTES)))
    (g_MOST_MARKS : PySem.W.nsIn K mainGlobals "MOST_MARKS" = some (some (.int 2048 t_MOST_MARKS)))
    (g_MOST_ATTRIBUTES : PySem.W.nsIn K mainGlobals "MOST_ATTRIBUTES" = some (some (.int 8 t_MOST_ATTRIBUTES)))
    (g_MOST_DEPTH : PySem.W.nsIn K mainGlobals "MOST_DEPTH" = some (some (.int 32 t_MOST_DEPTH)))
    (g_MOST_NAME_BYTES : PySem.W.nsIn K mainGlobals "MOST_NAME_BYTES" = some (some (.int 16 t_MOST_NAME_BYTES)))
    (g_MOST_DIGITS : PySem.W.nsIn K mainGlobals "MOST_DIGITS" = some (some (.int 3 t_MOST_DIGITS)))
    (g_NUMBER_ALONE : PySem.W.nsIn K mainGlobals "NUMBER_ALONE" = some (some (.int 0 t_NUMBER_ALONE)))
    (g_PAGE_FORM : PySem.W.nsIn K mainGlobals "PAGE_FORM" = some (some (.int 6 t_PAGE_FORM)))
    (g_NO_REFUSAL : PySem.W.nsIn K mainGlobals "NO_REFUSAL" = some (some (.int 0 t_NO_REFUSAL)))
    (g_SAME_NAME : PySem.W.nsIn K mainGlobals "SAME_NAME" = some (some (.int (-22) t_SAME_NAME)))
    (g_TOO_MUCH : PySem.W.nsIn K mainGlobals "TOO_MUCH" = some (some (.int (-28) t_TOO_MUCH)))
    (g_NO_MARK : PySem.W.nsIn K mainGlobals "NO_MARK" = some (some (.int (-71) t_NO_MARK)))
    (g_NEWLINE : PySem.W.nsIn K mainGlobals "NEWLINE" = some (some (.int 10 t_NEWLINE)))
    (g_SPACE : PySem.W.nsIn K mainGlobals "SPACE" = some (some (.int 32 t_SPACE)))
    (g_QUOTE : PySem.W.nsIn K mainGlobals "QUOTE" = some (some (.int 34 t_QUOTE)))
    (g_AMPERSAND : PySem.W.nsIn K mainGlobals "AMPERSAND" = some (some (.int 38 t_AMPERSAND)))
    (g_HYPHEN : PySem.W.nsIn K mainGlobals "HYPHEN" = some (some (.int 45 t_HYPHEN)))
    (g_DIGIT_0 : PySem.W.nsIn K mainGlobals "DIGIT_0" = some (some (.int 48 t_DIGIT_0)))
    (g_DIGIT_9 : PySem.W.nsIn K mainGlobals "DIGIT_9" = some (some (.int 57 t_DIGIT_9)))
    (g_LESS_THAN : PySem.W.nsIn K mainGlobals "LESS_THAN" = some (some (.int 60 t_LESS_THAN)))
    (g_SMALL_A : PySem.W.nsIn K mainGlobals "SMALL_A" = some (some (.int 97 t_SMALL_A)))
    (g_SMALL_Z : PySem.W.nsIn K mainGlobals "SMALL_Z" = some (some (.int 122 t_SMALL_Z)))
    (g_LAST_BYTE : PySem.W.nsIn K mainGlobals "LAST_BYTE" = some (some (.int 255 t_LAST_BYTE)))
    (g_NAMED_REFERENCES : PySem.W.nsIn K mainGlobals "NAMED_REFERENCES" = some (some (.ref d_NAMED_REFERENCES)))
    (l_NAMED_REFERENCES : K.lookup d_NAMED_REFERENCES = some { cls := .type "dict", data := .dict #[⟨60, .int 60 t0_NAMED_REFERENCES, .str "&lt;" u0_NAMED_REFERENCES⟩, ⟨62, .int 62 t1_NAMED_REFERENCES, .str "&gt;" u1_NAMED_REFERENCES⟩, ⟨38, .int 38 t2_NAMED_REFERENCES, .str "&amp;" u2_NAMED_REFERENCES⟩, ⟨34, .int 34 t3_NAMED_REFERENCES, .str "&quot;" u3_NAMED_REFERENCES⟩] ep_NAMED_REFERENCES })
    (s_NAMED_REFERENCES : (d_NAMED_REFERENCES == sysModules) = false)
    (g_NUMBER_REFERENCE : PySem.W.nsIn K mainGlobals "NUMBER_REFERENCE" = some (some (.str "&#" t_NUMBER_REFERENCE)))
    (a_with_count : PySem.W.nsIn K mainGlobals "with_count" = some (some (.ref f_with_count)))
    (l_with_count : K.lookup f_with_count = some ⟨oc_with_count, od_with_count, .func (PySem.W.fnOf "with_count" "with_count" (defArgs s_with_count) (defBody s_with_count) (defScope s_with_count) .none kV_with_count dc_with_count pm_with_count an_with_count cd_with_count ct_with_count), sl_with_count⟩)
    (c_with_count : PySem.W.codeIn K cd_with_count "with_count" = true)
    (k_with_count : PySem.W.keepIn K (.ref f_with_count) = true)
    (a_signs : PySem.W.nsIn K mainGlobals "signs" = some (some (.ref f_signs)))
    (l_signs : K.lookup f_signs = some ⟨oc_signs, od_signs, .func (PySem.W.fnOf "signs" "signs" (defArgs s_signs) (defBody s_signs) (defScope s_signs) .none kV_signs dc_signs pm_signs an_signs cd_signs ct_signs), sl_signs⟩)
    (c_signs : PySem.W.codeIn K cd_signs "signs" = true)
    (k_signs : PySem.W.keepIn K (.ref f_signs) = true)
    (a_plain_characters : PySem.W.nsIn K mainGlobals "plain_characters" = some (some (.ref f_plain_characters)))
    (l_plain_characters : K.lookup f_plain_characters = some ⟨oc_plain_characters, od_plain_characters, .func (PySem.W.fnOf "plain_characters" "plain_characters" (defArgs s_plain_characters) (defBody s_plain_characters) (defScope s_plain_characters) .none kV_plain_characters dc_plain_characters pm_plain_characters an_plain_characters cd_plain_characters ct_plain_characters), sl_plain_characters⟩)
    (c_plain_characters : PySem.W.codeIn K cd_plain_characters "plain_characters" = true)
    (k_plain_characters : PySem.W.keepIn K (.ref f_plain_characters) = true)
    (a_stands_at : PySem.W.nsIn K mainGlobals "stands_at" = some (some (.ref f_stands_at)))
    (l_stands_at : K.lookup f_stands_at = some ⟨oc_stands_at, od_stands_at, .func (PySem.W.fnOf "stands_at" "stands_at" (defArgs s_stands_at) (defBody s_stands_at) (defScope s_stands_at) .none kV_stands_at dc_stands_at pm_stands_at an_stands_at cd_stands_at ct_stands_at), sl_stands_at⟩)
    (c_stands_at : PySem.W.codeIn K cd_stands_at "stands_at" = true)
    (k_stands_at : PySem.W.keepIn K (.ref f_stands_at) = true)
    (a_may_be_in_page : PySem.W.nsIn K mainGlobals "may_be_in_page" = some (some (.ref f_may_be_in_page)))
    (l_may_be_in_page : K.lookup f_may_be_in_page = some ⟨oc_may_be_in_page, od_may_be_in_page, .func (PySem.W.fnOf "may_be_in_page" "may_be_in_page" (defArgs s_may_be_in_page) (defBody s_may_be_in_page) (defScope s_may_be_in_page) .none kV_may_be_in_page dc_may_be_in_page pm_may_be_in_page an_may_be_in_page cd_may_be_in_page ct_may_be_in_page), sl_may_be_in_page⟩)
    (c_may_be_in_page : PySem.W.codeIn K cd_may_be_in_page "may_be_in_page" = true)
    (k_may_be_in_page : PySem.W.keepIn K (.ref f_may_be_in_page) = true)
    (a_is_blank : PySem.W.nsIn K mainGlobals "is_blank" = some (some (.ref f_is_blank)))
    (l_is_blank : K.lookup f_is_blank = some ⟨oc_is_blank, od_is_blank, .func (PySem.W.fnOf "is_blank" "is_blank" (defArgs s_is_blank) (defBody s_is_blank) (defScope s_is_blank) .none kV_is_blank dc_is_blank pm_is_blank an_is_blank cd_is_blank ct_is_blank), sl_is_blank⟩)
    (c_is_blank : PySem.W.codeIn K cd_is_blank "is_blank" = true)
    (k_is_blank : PySem.W.keepIn K (.ref f_is_blank) = true)
    (a_is_digit : PySem.W.nsIn K mainGlobals "is_digit" = some (some (.ref f_is_digit)))
    (l_is_digit : K.lookup f_is_digit = some ⟨oc_is_digit, od_is_digit, .func (PySem.W.fnOf "is_digit" "is_digit" (defArgs s_is_digit) (defBody s_is_digit) (defScope s_is_digit) .none kV_is_digit dc_is_digit pm_is_digit an_is_digit cd_is_digit ct_is_digit), sl_is_digit⟩)
    (c_is_digit : PySem.W.codeIn K cd_is_digit "is_digit" = true)
    (k_is_digit : PySem.W.keepIn K (.ref f_is_digit) = true)
    (a_is_small_letter : PySem.W.nsIn K mainGlobals "is_small_letter" = some (some (.ref f_is_small_letter)))
    (l_is_small_letter : K.lookup f_is_small_letter = some ⟨oc_is_small_letter, od_is_small_letter, .func (PySem.W.fnOf "is_small_letter" "is_small_letter" (defArgs s_is_small_letter) (defBody s_is_small_letter) (defScope s_is_small_letter) .none kV_is_small_letter dc_is_small_letter pm_is_small_letter an_is_small_letter cd_is_small_letter ct_is_small_letter), sl_is_small_letter⟩)
    (c_is_small_letter : PySem.W.codeIn K cd_is_small_letter "is_small_letter" = true)
    (k_is_small_letter : PySem.W.keepIn K (.ref f_is_small_letter) = true)
    (a_is_in_name : PySem.W.nsIn K mainGlobals "is_in_name" = some (some (.ref f_is_in_name)))
    (l_is_in_name : K.lookup f_is_in_name = some ⟨oc_is_in_name, od_is_in_name, .func (PySem.W.fnOf "is_in_name" "is_in_name" (defArgs s_is_in_name) (defBody s_is_in_name) (defScope s_is_in_name) .none kV_is_in_name dc_is_in_name pm_is_in_name an_is_in_name cd_is_in_name ct_is_in_name), sl_is_in_name⟩)
    (c_is_in_name : PySem.W.codeIn K cd_is_in_name "is_in_name" = true)
    (k_is_in_name : PySem.W.keepIn K (.ref f_is_in_name) = true)
    (a_end_of_blanks : PySem.W.nsIn K mainGlobals "end_of_blanks" = some (some (.ref f_end_of_blanks)))
    (l_end_of_blanks : K.lookup f_end_of_blanks = some ⟨oc_end_of_blanks, od_end_of_blanks, .func (PySem.W.fnOf "end_of_blanks" "end_of_blanks" (defArgs s_end_of_blanks) (defBody s_end_of_blanks) (defScope s_end_of_blanks) .none kV_end_of_blanks dc_end_of_blanks pm_end_of_blanks an_end_of_blanks cd_end_of_blanks ct_end_of_blanks), sl_end_of_blanks⟩)
    (c_end_of_blanks : PySem.W.codeIn K cd_end_of_blanks "end_of_blanks" = true)
    (k_end_of_blanks : PySem.W.keepIn K (.ref f_end_of_blanks) = true)
    (a_read_name : PySem.W.nsIn K mainGlobals "read_name" = some (some (.ref f_read_name)))
    (l_read_name : K.lookup f_read_name = some ⟨oc_read_name, od_read_name, .func (PySem.W.fnOf "read_name" "read_name" (defArgs s_read_name) (defBody s_read_name) (defScope s_read_name) .none kV_read_name dc_read_name pm_read_name an_read_name cd_read_name ct_read_name), sl_read_name⟩)
    (c_read_name : PySem.W.codeIn K cd_read_name "read_name" = true)
    (k_read_name : PySem.W.keepIn K (.ref f_read_name) = true)
    (a_read_number_reference : PySem.W.nsIn K mainGlobals "read_number_reference" = some (some (.ref f_read_number_reference)))
    (l_read_number_reference : K.lookup f_read_number_reference = some ⟨oc_read_number_reference, od_read_number_reference, .func (PySem.W.fnOf "read_number_reference" "read_number_reference" (defArgs s_read_number_reference) (defBody s_read_number_reference) (defScope s_read_number_reference) .none kV_read_number_reference dc_read_number_reference pm_read_number_reference an_read_number_reference cd_read_number_reference ct_read_number_reference), sl_read_number_reference⟩)
    (c_read_number_reference : PySem.W.codeIn K cd_read_number_reference "read_number_reference" = true)
    (k_read_number_reference : PySem.W.keepIn K (.ref f_read_number_reference) = true)
    (a_read_reference : PySem.W.nsIn K mainGlobals "read_reference" = some (some (.ref f_read_reference)))
    (l_read_reference : K.lookup f_read_reference = some ⟨oc_read_reference, od_read_reference, .func (PySem.W.fnOf "read_reference" "read_reference" (defArgs s_read_reference) (defBody s_read_reference) (defScope s_read_reference) .none kV_read_reference dc_read_reference pm_read_reference an_read_reference cd_read_reference ct_read_reference), sl_read_reference⟩)
    (c_read_reference : PySem.W.codeIn K cd_read_reference "read_reference" = true)
    (k_read_reference : PySem.W.keepIn K (.ref f_read_reference) = true)
    (a_read_character : PySem.W.nsIn K mainGlobals "read_character" = some (some (.ref f_read_character)))
    (l_read_character : K.lookup f_read_character = some ⟨oc_read_character, od_read_character, .func (PySem.W.fnOf "read_character" "read_character" (defArgs s_read_character) (defBody s_read_character) (defScope s_read_character) .none kV_read_character dc_read_character pm_read_character an_read_character cd_read_character ct_read_character), sl_read_character⟩)
    (c_read_character : PySem.W.codeIn K cd_read_character "read_character" = true)
    (k_read_character : PySem.W.keepIn K (.ref f_read_character) = true)
    (a_read_characters : PySem.W.nsIn K mainGlobals "read_characters" = some (some (.ref f_read_characters)))
    (l_read_characters : K.lookup f_read_characters = some ⟨oc_read_characters, od_read_characters, .func (PySem.W.fnOf "read_characters" "read_characters" (defArgs s_read_characters) (defBody s_read_characters) (defScope s_read_characters) .none kV_read_characters dc_read_characters pm_read_characters an_read_characters cd_read_characters ct_read_characters), sl_read_characters⟩)
    (c_read_characters : PySem.W.codeIn K cd_read_characters "read_characters" = true)
    (k_read_characters : PySem.W.keepIn K (.ref f_read_characters) = true)
    (a_read_value : PySem.W.nsIn K mainGlobals "read_value" = some (some (.ref f_read_value)))
    (l_read_value : K.lookup f_read_value = some ⟨oc_read_value, od_read_value, .func (PySem.W.fnOf "read_value" "read_value" (defArgs s_read_value) (defBody s_read_value) (defScope s_read_value) .none kV_read_value dc_read_value pm_read_value an_read_value cd_read_value ct_read_value), sl_read_value⟩)
    (c_read_value : PySem.W.codeIn K cd_read_value "read_value" = true)
    (k_read_value : PySem.W.keepIn K (.ref f_read_value) = true)
    (a_attribute_begins : PySem.W.nsIn K mainGlobals "attribute_begins" = some (some (.ref f_attribute_begins)))
    (l_attribute_begins : K.lookup f_attribute_begins = some ⟨oc_attribute_begins, od_attribute_begins, .func (PySem.W.fnOf "attribute_begins" "attribute_begins" (defArgs s_attribute_begins) (defBody s_attribute_begins) (defScope s_attribute_begins) .none kV_attribute_begins dc_attribute_begins pm_attribute_begins an_attribute_begins cd_attribute_begins ct_attribute_begins), sl_attribute_begins⟩)
    (c_attribute_begins : PySem.W.codeIn K cd_attribute_begins "attribute_begins" = true)
    (k_attribute_begins : PySem.W.keepIn K (.ref f_attribute_begins) = true)
    (a_read_attribute : PySem.W.nsIn K mainGlobals "read_attribute" = some (some (.ref f_read_attribute)))
    (l_read_attribute : K.lookup f_read_attribute = some ⟨oc_read_attribute, od_read_attribute, .func (PySem.W.fnOf "read_attribute" "read_attribute" (defArgs s_read_attribute) (defBody s_read_attribute) (defScope s_read_attribute) .none kV_read_attribute dc_read_attribute pm_read_attribute an_read_attribute cd_read_attribute ct_read_attribute), sl_read_attribute⟩)
    (c_read_attribute : PySem.W.codeIn K cd_read_attribute "read_attribute" = true)
    (k_read_attribute : PySem.W.keepIn K (.ref f_read_attribute) = true)
    (a_read_attributes : PySem.W.nsIn K mainGlobals "read_attributes" = some (some (.ref f_read_attributes)))
    (l_read_attributes : K.lookup f_read_attributes = some ⟨oc_read_attributes, od_read_attributes, .func (PySem.W.fnOf "read_attributes" "read_attributes" (defArgs s_read_attributes) (defBody s_read_attributes) (defScope s_read_attributes) .none kV_read_attributes dc_read_attributes pm_read_attributes an_read_attributes cd_read_attributes ct_read_attributes), sl_read_attributes⟩)
    (c_read_attributes : PySem.W.codeIn K cd_read_attributes "read_attributes" = true)
    (k_read_attributes : PySem.W.keepIn K (.ref f_read_attributes) = true)
    (a_read_beginning : PySem.W.nsIn K mainGlobals "read_beginning" = some (some (.ref f_read_beginning)))
    (l_read_beginning : K.lookup f_read_beginning = some ⟨oc_read_beginning, od_read_beginning, .func (PySem.W.fnOf "read_beginning" "read_beginning" (defArgs s_read_beginning) (defBody s_read_beginning) (defScope s_read_beginning) .none kV_read_beginning dc_read_beginning pm_read_beginning an_read_beginning cd_read_beginning ct_read_beginning), sl_read_beginning⟩)
    (c_read_beginning : PySem.W.codeIn K cd_read_beginning "read_beginning" = true)
    (k_read_beginning : PySem.W.keepIn K (.ref f_read_beginning) = true)
    (a_read_end : PySem.W.nsIn K mainGlobals "read_end" = some (some (.ref f_read_end)))
    (l_read_end : K.lookup f_read_end = some ⟨oc_read_end, od_read_end, .func (PySem.W.fnOf "read_end" "read_end" (defArgs s_read_end) (defBody s_read_end) (defScope s_read_end) .none kV_read_end dc_read_end pm_read_end an_read_end cd_read_end ct_read_end), sl_read_end⟩)
    (c_read_end : PySem.W.codeIn K cd_read_end "read_end" = true)
    (k_read_end : PySem.W.keepIn K (.ref f_read_end) = true)
    (a_pg_plain : PySem.W.nsIn K mainGlobals "pg_plain" = some (some (.ref f_pg_plain)))
    (l_pg_plain : K.lookup f_pg_plain = some ⟨oc_pg_plain, od_pg_plain, .func (PySem.W.fnOf "pg_plain" "pg_plain" (defArgs s_pg_plain) (defBody s_pg_plain) (defScope s_pg_plain) .none kV_pg_plain dc_pg_plain pm_pg_plain an_pg_plain cd_pg_plain ct_pg_plain), sl_pg_plain⟩)
    (c_pg_plain : PySem.W.codeIn K cd_pg_plain "pg_plain" = true)
    (k_pg_plain : PySem.W.keepIn K (.ref f_pg_plain) = true)
    (a_Attribute : PySem.W.nsIn K mainGlobals "Attribute" = some (some (.ref C_Attribute)))
    (pg_Attribute : PySem.W.plainGet K C_Attribute Str.empty = true)
    (hd_Attribute : PySem.W.hasDictIn K C_Attribute = true)
    (po_Attribute : PySem.W.plainOver K C_Attribute = true)
    (sa_Attribute : PySem.W.findIn K (.ref C_Attribute) "__setattr__" = some (some (.builtin "object.__setattr__")))
    (no_Attribute_name : PySem.W.findIn K (.ref C_Attribute) "name" = some none)
    (no_Attribute_value : PySem.W.findIn K (.ref C_Attribute) "value" = some none)
    (mk_Attribute : PySem.W.makesIn K C_Attribute = true)
    (kc_Attribute : PySem.W.keepIn K (.ref C_Attribute) = true)
    (a_Attribute___init__ : PySem.W.findIn K (.ref C_Attribute) "__init__" = some (some (.ref f_Attribute___init__)))
    (i_Attribute___init__ : PySem.W.isFn K (.ref f_Attribute___init__) = true)
    (l_Attribute___init__ : K.lookup f_Attribute___init__ = some ⟨oc_Attribute___init__, od_Attribute___init__, .func (PySem.W.fnOf "__init__" "Attribute.__init__" (defArgs s_Attribute___init__) (defBody s_Attribute___init__) (defScope s_Attribute___init__) .none kV_Attribute___init__ dc_Attribute___init__ pm_Attribute___init__ an_Attribute___init__ cd_Attribute___init__ ct_Attribute___init__), sl_Attribute___init__⟩)
    (c_Attribute___init__ : PySem.W.codeIn K cd_Attribute___init__ "Attribute.__init__" = true)
    (k_Attribute___init__ : PySem.W.keepIn K (.ref f_Attribute___init__) = true)
    (a_Attribute_plain : PySem.W.findIn K (.ref C_Attribute) "plain" = some (some (.ref f_Attribute_plain)))
    (i_Attribute_plain : PySem.W.isFn K (.ref f_Attribute_plain) = true)
    (l_Attribute_plain : K.lookup f_Attribute_plain = some ⟨oc_Attribute_plain, od_Attribute_plain, .func (PySem.W.fnOf "plain" "Attribute.plain" (defArgs s_Attribute_plain) (defBody s_Attribute_plain) (defScope s_Attribute_plain) .none kV_Attribute_plain dc_Attribute_plain pm_Attribute_plain an_Attribute_plain cd_Attribute_plain ct_Attribute_plain), sl_Attribute_plain⟩)
    (c_Attribute_plain : PySem.W.codeIn K cd_Attribute_plain "Attribute.plain" = true)
    (k_Attribute_plain : PySem.W.keepIn K (.ref f_Attribute_plain) = true)
    (a_Opening : PySem.W.nsIn K mainGlobals "Opening" = some (some (.ref C_Opening)))
    (pg_Opening : PySem.W.plainGet K C_Opening Str.empty = true)
    (hd_Opening : PySem.W.hasDictIn K C_Opening = true)
    (po_Opening : PySem.W.plainOver K C_Opening = true)
    (sa_Opening : PySem.W.findIn K (.ref C_Opening) "__setattr__" = some (some (.builtin "object.__setattr__")))
    (no_Opening_name : PySem.W.findIn K (.ref C_Opening) "name" = some none)
    (no_Opening_attributes : PySem.W.findIn K (.ref C_Opening) "attributes" = some none)
    (mk_Opening : PySem.W.makesIn K C_Opening = true)
    (kc_Opening : PySem.W.keepIn K (.ref C_Opening) = true)
    (a_Opening___init__ : PySem.W.findIn K (.ref C_Opening) "__init__" = some (some (.ref f_Opening___init__)))
    (i_Opening___init__ : PySem.W.isFn K (.ref f_Opening___init__) = true)
    (l_Opening___init__ : K.lookup f_Opening___init__ = some ⟨oc_Opening___init__, od_Opening___init__, .func (PySem.W.fnOf "__init__" "Opening.__init__" (defArgs s_Opening___init__) (defBody s_Opening___init__) (defScope s_Opening___init__) .none kV_Opening___init__ dc_Opening___init__ pm_Opening___init__ an_Opening___init__ cd_Opening___init__ ct_Opening___init__), sl_Opening___init__⟩)
    (c_Opening___init__ : PySem.W.codeIn K cd_Opening___init__ "Opening.__init__" = true)
    (k_Opening___init__ : PySem.W.keepIn K (.ref f_Opening___init__) = true)
    (a_Opening_has_same_names : PySem.W.findIn K (.ref C_Opening) "has_same_names" = some (some (.ref f_Opening_has_same_names)))
    (i_Opening_has_same_names : PySem.W.isFn K (.ref f_Opening_has_same_names) = true)
    (l_Opening_has_same_names : K.lookup f_Opening_has_same_names = some ⟨oc_Opening_has_same_names, od_Opening_has_same_names, .func (PySem.W.fnOf "has_same_names" "Opening.has_same_names" (defArgs s_Opening_has_same_names) (defBody s_Opening_has_same_names) (defScope s_Opening_has_same_names) .none kV_Opening_has_same_names dc_Opening_has_same_names pm_Opening_has_same_names an_Opening_has_same_names cd_Opening_has_same_names ct_Opening_has_same_names), sl_Opening_has_same_names⟩)
    (c_Opening_has_same_names : PySem.W.codeIn K cd_Opening_has_same_names "Opening.has_same_names" = true)
    (k_Opening_has_same_names : PySem.W.keepIn K (.ref f_Opening_has_same_names) = true)
    (a_Opening_plain : PySem.W.findIn K (.ref C_Opening) "plain" = some (some (.ref f_Opening_plain)))
    (i_Opening_plain : PySem.W.isFn K (.ref f_Opening_plain) = true)
    (l_Opening_plain : K.lookup f_Opening_plain = some ⟨oc_Opening_plain, od_Opening_plain, .func (PySem.W.fnOf "plain" "Opening.plain" (defArgs s_Opening_plain) (defBody s_Opening_plain) (defScope s_Opening_plain) .none kV_Opening_plain dc_Opening_plain pm_Opening_plain an_Opening_plain cd_Opening_plain ct_Opening_plain), sl_Opening_plain⟩)
    (c_Opening_plain : PySem.W.codeIn K cd_Opening_plain "Opening.plain" = true)
    (k_Opening_plain : PySem.W.keepIn K (.ref f_Opening_plain) = true)
    (a_Closing : PySem.W.nsIn K mainGlobals "Closing" = some (some (.ref C_Closing)))
    (pg_Closing : PySem.W.plainGet K C_Closing Str.empty = true)
    (hd_Closing : PySem.W.hasDictIn K C_Closing = true)
    (po_Closing : PySem.W.plainOver K C_Closing = true)
    (sa_Closing : PySem.W.findIn K (.ref C_Closing) "__setattr__" = some (some (.builtin "object.__setattr__")))
    (no_Closing_name : PySem.W.findIn K (.ref C_Closing) "name" = some none)
    (mk_Closing : PySem.W.makesIn K C_Closing = true)
    (kc_Closing : PySem.W.keepIn K (.ref C_Closing) = true)
    (a_Closing___init__ : PySem.W.findIn K (.ref C_Closing) "__init__" = some (some (.ref f_Closing___init__)))
    (i_Closing___init__ : PySem.W.isFn K (.ref f_Closing___init__) = true)
    (l_Closing___init__ : K.lookup f_Closing___init__ = some ⟨oc_Closing___init__, od_Closing___init__, .func (PySem.W.fnOf "__init__" "Closing.__init__" (defArgs s_Closing___init__) (defBody s_Closing___init__) (defScope s_Closing___init__) .none kV_Closing___init__ dc_Closing___init__ pm_Closing___init__ an_Closing___init__ cd_Closing___init__ ct_Closing___init__), sl_Closing___init__⟩)
    (c_Closing___init__ : PySem.W.codeIn K cd_Closing___init__ "Closing.__init__" = true)
    (k_Closing___init__ : PySem.W.keepIn K (.ref f_Closing___init__) = true)
    (a_Closing_plain : PySem.W.findIn K (.ref C_Closing) "plain" = some (some (.ref f_Closing_plain)))
    (i_Closing_plain : PySem.W.isFn K (.ref f_Closing_plain) = true)
    (l_Closing_plain : K.lookup f_Closing_plain = some ⟨oc_Closing_plain, od_Closing_plain, .func (PySem.W.fnOf "plain" "Closing.plain" (defArgs s_Closing_plain) (defBody s_Closing_plain) (defScope s_Closing_plain) .none kV_Closing_plain dc_Closing_plain pm_Closing_plain an_Closing_plain cd_Closing_plain ct_Closing_plain), sl_Closing_plain⟩)
    (c_Closing_plain : PySem.W.codeIn K cd_Closing_plain "Closing.plain" = true)
    (k_Closing_plain : PySem.W.keepIn K (.ref f_Closing_plain) = true)
    (a_Text : PySem.W.nsIn K mainGlobals "Text" = some (some (.ref C_Text)))
    (pg_Text : PySem.W.plainGet K C_Text Str.empty = true)
    (hd_Text : PySem.W.hasDictIn K C_Text = true)
    (po_Text : PySem.W.plainOver K C_Text = true)
    (sa_Text : PySem.W.findIn K (.ref C_Text) "__setattr__" = some (some (.builtin "object.__setattr__")))
    (no_Text_content : PySem.W.findIn K (.ref C_Text) "content" = some none)
    (mk_Text : PySem.W.makesIn K C_Text = true)
    (kc_Text : PySem.W.keepIn K (.ref C_Text) = true)
    (a_Text___init__ : PySem.W.findIn K (.ref C_Text) "__init__" = some (some (.ref f_Text___init__)))
    (i_Text___init__ : PySem.W.isFn K (.ref f_Text___init__) = true)
    (l_Text___init__ : K.lookup f_Text___init__ = some ⟨oc_Text___init__, od_Text___init__, .func (PySem.W.fnOf "__init__" "Text.__init__" (defArgs s_Text___init__) (defBody s_Text___init__) (defScope s_Text___init__) .none kV_Text___init__ dc_Text___init__ pm_Text___init__ an_Text___init__ cd_Text___init__ ct_Text___init__), sl_Text___init__⟩)
    (c_Text___init__ : PySem.W.codeIn K cd_Text___init__ "Text.__init__" = true)
    (k_Text___init__ : PySem.W.keepIn K (.ref f_Text___init__) = true)
    (a_Text_plain : PySem.W.findIn K (.ref C_Text) "plain" = some (some (.ref f_Text_plain)))
    (i_Text_plain : PySem.W.isFn K (.ref f_Text_plain) = true)
    (l_Text_plain : K.lookup f_Text_plain = some ⟨oc_Text_plain, od_Text_plain, .func (PySem.W.fnOf "plain" "Text.plain" (defArgs s_Text_plain) (defBody s_Text_plain) (defScope s_Text_plain) .none kV_Text_plain dc_Text_plain pm_Text_plain an_Text_plain cd_Text_plain ct_Text_plain), sl_Text_plain⟩)
    (c_Text_plain : PySem.W.codeIn K cd_Text_plain "Text.plain" = true)
    (k_Text_plain : PySem.W.keepIn K (.ref f_Text_plain) = true)
    (a_Piece : PySem.W.nsIn K mainGlobals "Piece" = some (some (.ref C_Piece)))
    (pg_Piece : PySem.W.plainGet K C_Piece Str.empty = true)
    (hd_Piece : PySem.W.hasDictIn K C_Piece = true)
    (po_Piece : PySem.W.plainOver K C_Piece = true)
    (sa_Piece : PySem.W.findIn K (.ref C_Piece) "__setattr__" = some (some (.builtin "object.__setattr__")))
    (no_Piece_content : PySem.W.findIn K (.ref C_Piece) "content" = some none)
    (no_Piece_end : PySem.W.findIn K (.ref C_Piece) "end" = some none)
    (mk_Piece : PySem.W.makesIn K C_Piece = true)
    (kc_Piece : PySem.W.keepIn K (.ref C_Piece) = true)
    (a_Piece___init__ : PySem.W.findIn K (.ref C_Piece) "__init__" = some (some (.ref f_Piece___init__)))
    (i_Piece___init__ : PySem.W.isFn K (.ref f_Piece___init__) = true)
    (l_Piece___init__ : K.lookup f_Piece___init__ = some ⟨oc_Piece___init__, od_Piece___init__, .func (PySem.W.fnOf "__init__" "Piece.__init__" (defArgs s_Piece___init__) (defBody s_Piece___init__) (defScope s_Piece___init__) .none kV_Piece___init__ dc_Piece___init__ pm_Piece___init__ an_Piece___init__ cd_Piece___init__ ct_Piece___init__), sl_Piece___init__⟩)
    (c_Piece___init__ : PySem.W.codeIn K cd_Piece___init__ "Piece.__init__" = true)
    (k_Piece___init__ : PySem.W.keepIn K (.ref f_Piece___init__) = true)
    (a_Beginning : PySem.W.nsIn K mainGlobals "Beginning" = some (some (.ref C_Beginning)))
    (pg_Beginning : PySem.W.plainGet K C_Beginning Str.empty = true)
    (hd_Beginning : PySem.W.hasDictIn K C_Beginning = true)
    (po_Beginning : PySem.W.plainOver K C_Beginning = true)
    (sa_Beginning : PySem.W.findIn K (.ref C_Beginning) "__setattr__" = some (some (.builtin "object.__setattr__")))
    (no_Beginning_opening : PySem.W.findIn K (.ref C_Beginning) "opening" = some none)
    (no_Beginning_closed : PySem.W.findIn K (.ref C_Beginning) "closed" = some none)
    (no_Beginning_end : PySem.W.findIn K (.ref C_Beginning) "end" = some none)
    (mk_Beginning : PySem.W.makesIn K C_Beginning = true)
    (kc_Beginning : PySem.W.keepIn K (.ref C_Beginning) = true)
    (a_Beginning___init__ : PySem.W.findIn K (.ref C_Beginning) "__init__" = some (some (.ref f_Beginning___init__)))
    (i_Beginning___init__ : PySem.W.isFn K (.ref f_Beginning___init__) = true)
    (l_Beginning___init__ : K.lookup f_Beginning___init__ = some ⟨oc_Beginning___init__, od_Beginning___init__, .func (PySem.W.fnOf "__init__" "Beginning.__init__" (defArgs s_Beginning___init__) (defBody s_Beginning___init__) (defScope s_Beginning___init__) .none kV_Beginning___init__ dc_Beginning___init__ pm_Beginning___init__ an_Beginning___init__ cd_Beginning___init__ ct_Beginning___init__), sl_Beginning___init__⟩)
    (c_Beginning___init__ : PySem.W.codeIn K cd_Beginning___init__ "Beginning.__init__" = true)
    (k_Beginning___init__ : PySem.W.keepIn K (.ref f_Beginning___init__) = true)
    (a_Reading : PySem.W.nsIn K mainGlobals "Reading" = some (some (.ref C_Reading)))
    (pg_Reading : PySem.W.plainGet K C_Reading Str.empty = true)
    (hd_Reading : PySem.W.hasDictIn K C_Reading = true)
    (po_Reading : PySem.W.plainOver K C_Reading = true)
    (sa_Reading : PySem.W.findIn K (.ref C_Reading) "__setattr__" = some (some (.builtin "object.__setattr__")))
    (no_Reading_t : PySem.W.findIn K (.ref C_Reading) "t" = some none)
    (no_Reading_at : PySem.W.findIn K (.ref C_Reading) "at" = some none)
    (no_Reading_marks : PySem.W.findIn K (.ref C_Reading) "marks" = some none)
    (no_Reading_open_names : PySem.W.findIn K (.ref C_Reading) "open_names" = some none)
    (mk_Reading : PySem.W.makesIn K C_Reading = true)
    (kc_Reading : PySem.W.keepIn K (.ref C_Reading) = true)
    (a_Reading___init__ : PySem.W.findIn K (.ref C_Reading) "__init__" = some (some (.ref f_Reading___init__)))
    (i_Reading___init__ : PySem.W.isFn K (.ref f_Reading___init__) = true)
    (l_Reading___init__ : K.lookup f_Reading___init__ = some ⟨oc_Reading___init__, od_Reading___init__, .func (PySem.W.fnOf "__init__" "Reading.__init__" (defArgs s_Reading___init__) (defBody s_Reading___init__) (defScope s_Reading___init__) .none kV_Reading___init__ dc_Reading___init__ pm_Reading___init__ an_Reading___init__ cd_Reading___init__ ct_Reading___init__), sl_Reading___init__⟩)
    (c_Reading___init__ : PySem.W.codeIn K cd_Reading___init__ "Reading.__init__" = true)
    (k_Reading___init__ : PySem.W.keepIn K (.ref f_Reading___init__) = true)
    (a_Reading_take_marks : PySem.W.findIn K (.ref C_Reading) "take_marks" = some (some (.ref f_Reading_take_marks)))
    (i_Reading_take_marks : PySem.W.isFn K (.ref f_Reading_take_marks) = true)
    (l_Reading_take_marks : K.lookup f_Reading_take_marks = some ⟨oc_Reading_take_marks, od_Reading_take_marks, .func (PySem.W.fnOf "take_marks" "Reading.take_marks" (defArgs s_Reading_take_marks) (defBody s_Reading_take_marks) (defScope s_Reading_take_marks) .none kV_Reading_take_marks dc_Reading_take_marks pm_Reading_take_marks an_Reading_take_marks cd_Reading_take_marks ct_Reading_take_marks), sl_Reading_take_marks⟩)
    (c_Reading_take_marks : PySem.W.codeIn K cd_Reading_take_marks "Reading.take_marks" = true)
    (k_Reading_take_marks : PySem.W.keepIn K (.ref f_Reading_take_marks) = true)
    (a_Reading_take_text : PySem.W.findIn K (.ref C_Reading) "take_text" = some (some (.ref f_Reading_take_text)))
    (i_Reading_take_text : PySem.W.isFn K (.ref f_Reading_take_text) = true)
    (l_Reading_take_text : K.lookup f_Reading_take_text = some ⟨oc_Reading_take_text, od_Reading_take_text, .func (PySem.W.fnOf "take_text" "Reading.take_text" (defArgs s_Reading_take_text) (defBody s_Reading_take_text) (defScope s_Reading_take_text) .none kV_Reading_take_text dc_Reading_take_text pm_Reading_take_text an_Reading_take_text cd_Reading_take_text ct_Reading_take_text), sl_Reading_take_text⟩)
    (c_Reading_take_text : PySem.W.codeIn K cd_Reading_take_text "Reading.take_text" = true)
    (k_Reading_take_text : PySem.W.keepIn K (.ref f_Reading_take_text) = true)
    (a_Reading_take_beginning : PySem.W.findIn K (.ref C_Reading) "take_beginning" = some (some (.ref f_Reading_take_beginning)))
    (i_Reading_take_beginning : PySem.W.isFn K (.ref f_Reading_take_beginning) = true)
    (l_Reading_take_beginning : K.lookup f_Reading_take_beginning = some ⟨oc_Reading_take_beginning, od_Reading_take_beginning, .func (PySem.W.fnOf "take_beginning" "Reading.take_beginning" (defArgs s_Reading_take_beginning) (defBody s_Reading_take_beginning) (defScope s_Reading_take_beginning) .none kV_Reading_take_beginning dc_Reading_take_beginning pm_Reading_take_beginning an_Reading_take_beginning cd_Reading_take_beginning ct_Reading_take_beginning), sl_Reading_take_beginning⟩)
    (c_Reading_take_beginning : PySem.W.codeIn K cd_Reading_take_beginning "Reading.take_beginning" = true)
    (k_Reading_take_beginning : PySem.W.keepIn K (.ref f_Reading_take_beginning) = true)
    (a_Reading_take_end : PySem.W.findIn K (.ref C_Reading) "take_end" = some (some (.ref f_Reading_take_end)))
    (i_Reading_take_end : PySem.W.isFn K (.ref f_Reading_take_end) = true)
    (l_Reading_take_end : K.lookup f_Reading_take_end = some ⟨oc_Reading_take_end, od_Reading_take_end, .func (PySem.W.fnOf "take_end" "Reading.take_end" (defArgs s_Reading_take_end) (defBody s_Reading_take_end) (defScope s_Reading_take_end) .none kV_Reading_take_end dc_Reading_take_end pm_Reading_take_end an_Reading_take_end cd_Reading_take_end ct_Reading_take_end), sl_Reading_take_end⟩)
    (c_Reading_take_end : PySem.W.codeIn K cd_Reading_take_end "Reading.take_end" = true)
    (k_Reading_take_end : PySem.W.keepIn K (.ref f_Reading_take_end) = true)
    (a_Reading_take_next : PySem.W.findIn K (.ref C_Reading) "take_next" = some (some (.ref f_Reading_take_next)))
    (i_Reading_take_next : PySem.W.isFn K (.ref f_Reading_take_next) = true)
    (l_Reading_take_next : K.lookup f_Reading_take_next = some ⟨oc_Reading_take_next, od_Reading_take_next, .func (PySem.W.fnOf "take_next" "Reading.take_next" (defArgs s_Reading_take_next) (defBody s_Reading_take_next) (defScope s_Reading_take_next) .none kV_Reading_take_next dc_Reading_take_next pm_Reading_take_next an_Reading_take_next cd_Reading_take_next ct_Reading_take_next), sl_Reading_take_next⟩)
    (c_Reading_take_next : PySem.W.codeIn K cd_Reading_take_next "Reading.take_next" = true)
    (k_Reading_take_next : PySem.W.keepIn K (.ref f_Reading_take_next) = true)
    (a_Reading_take_page : PySem.W.findIn K (.ref C_Reading) "take_page" = some (some (.ref f_Reading_take_page)))
    (i_Reading_take_page : PySem.W.isFn K (.ref f_Reading_take_page) = true)
    (l_Reading_take_page : K.lookup f_Reading_take_page = some ⟨oc_Reading_take_page, od_Reading_take_page, .func (PySem.W.fnOf "take_page" "Reading.take_page" (defArgs s_Reading_take_page) (defBody s_Reading_take_page) (defScope s_Reading_take_page) .none kV_Reading_take_page dc_Reading_take_page pm_Reading_take_page an_Reading_take_page cd_Reading_take_page ct_Reading_take_page), sl_Reading_take_page⟩)
    (c_Reading_take_page : PySem.W.codeIn K cd_Reading_take_page "Reading.take_page" = true)
    (k_Reading_take_page : PySem.W.keepIn K (.ref f_Reading_take_page) = true) :
    Txt K mg ⟨C_Attribute, C_Opening, C_Closing, C_Text, C_Piece, C_Beginning, C_Reading⟩ :=
  ⟨PySem.W.mg_none_of X G b_len,
    PySem.W.mg_none_of X G b_tuple,
    PySem.W.mg_none_of X G b_ord,
    PySem.W.mg_none_of X G b_set,
    ⟨_, PySem.W.mg_of X G g_MOST_BYTES, _, rfl⟩,
    ⟨_, PySem.W.mg_of X G g_MOST_MARKS, _, rfl⟩,
    ⟨_, PySem.W.mg_of X G g_MOST_ATTRIBUTES, _, rfl⟩,
    ⟨_, PySem.W.mg_of X G g_MOST_DEPTH, _, rfl⟩,
    ⟨_, PySem.W.mg_of X G g_MOST_NAME_BYTES, _, rfl⟩,
    ⟨_, PySem.W.mg_of X G g_MOST_DIGITS, _, rfl⟩,
    ⟨_, PySem.W.mg_of X G g_NUMBER_ALONE, _, rfl⟩,
    ⟨_, PySem.W.mg_of X G g_PAGE_FORM, _, rfl⟩,
    ⟨_, PySem.W.mg_of X G g_NO_REFUSAL, _, rfl⟩,
    ⟨_, PySem.W.mg_of X G g_SAME_NAME, _, rfl⟩,
    ⟨_, PySem.W.mg_of X G g_TOO_MUCH, _, rfl⟩,
    ⟨_, PySem.W.mg_of X G g_NO_MARK, _, rfl⟩,
    ⟨_, PySem.W.mg_of X G g_NEWLINE, _, rfl⟩,
    ⟨_, PySem.W.mg_of X G g_SPACE, _, rfl⟩,
    ⟨_, PySem.W.mg_of X G g_QUOTE, _, rfl⟩,
    ⟨_, PySem.W.mg_of X G g_AMPERSAND, _, rfl⟩,
    ⟨_, PySem.W.mg_of X G g_HYPHEN, _, rfl⟩,
    ⟨_, PySem.W.mg_of X G g_DIGIT_0, _, rfl⟩,
    ⟨_, PySem.W.mg_of X G g_DIGIT_9, _, rfl⟩,
    ⟨_, PySem.W.mg_of X G g_LESS_THAN, _, rfl⟩,
    ⟨_, PySem.W.mg_of X G g_SMALL_A, _, rfl⟩,
    ⟨_, PySem.W.mg_of X G g_SMALL_Z, _, rfl⟩,
    ⟨_, PySem.W.mg_of X G g_LAST_BYTE, _, rfl⟩,
    ⟨d_NAMED_REFERENCES, PySem.W.mg_of X G g_NAMED_REFERENCES, ⟨⟨_, _, _, l_NAMED_REFERENCES, ⟨rfl, rfl, rfl⟩, rfl, (.cons ⟨_, _, rfl, rfl, rfl, _, rfl⟩ (.cons ⟨_, _, rfl, rfl, rfl, _, rfl⟩ (.cons ⟨_, _, rfl, rfl, rfl, _, rfl⟩ (.cons ⟨_, _, rfl, rfl, rfl, _, rfl⟩ .nil))))⟩, s_NAMED_REFERENCES, by decide, by decide⟩⟩,
    ⟨_, PySem.W.mg_of X G g_NUMBER_REFERENCE, _, rfl⟩,
    ⟨_, _, PySem.W.mg_of X G a_with_count, fun_mk (st := s_with_count) l_with_count c_with_count k_with_count⟩,
    ⟨_, _, PySem.W.mg_of X G a_signs, fun_mk (st := s_signs) l_signs c_signs k_signs⟩,
    ⟨_, _, PySem.W.mg_of X G a_plain_characters, fun_mk (st := s_plain_characters) l_plain_characters c_plain_characters k_plain_characters⟩,
    ⟨_, _, PySem.W.mg_of X G a_stands_at, fun_mk (st := s_stands_at) l_stands_at c_stands_at k_stands_at⟩,
    ⟨_, _, PySem.W.mg_of X G a_may_be_in_page, fun_mk (st := s_may_be_in_page) l_may_be_in_page c_may_be_in_page k_may_be_in_page⟩,
    ⟨_, _, PySem.W.mg_of X G a_is_blank, fun_mk (st := s_is_blank) l_is_blank c_is_blank k_is_blank⟩,
    ⟨_, _, PySem.W.mg_of X G a_is_digit, fun_mk (st := s_is_digit) l_is_digit c_is_digit k_is_digit⟩,
    ⟨_, _, PySem.W.mg_of X G a_is_small_letter, fun_mk (st := s_is_small_letter) l_is_small_letter c_is_small_letter k_is_small_letter⟩,
    ⟨_, _, PySem.W.mg_of X G a_is_in_name, fun_mk (st := s_is_in_name) l_is_in_name c_is_in_name k_is_in_name⟩,
    ⟨_, _, PySem.W.mg_of X G a_end_of_blanks, fun_mk (st := s_end_of_blanks) l_end_of_blanks c_end_of_blanks k_end_of_blanks⟩,
    ⟨_, _, PySem.W.mg_of X G a_read_name, fun_mk (st := s_read_name) l_read_name c_read_name k_read_name⟩,
    ⟨_, _, PySem.W.mg_of X G a_read_number_reference, fun_mk (st := s_read_number_reference) l_read_number_reference c_read_number_reference k_read_number_reference⟩,
    ⟨_, _, PySem.W.mg_of X G a_read_reference, fun_mk (st := s_read_reference) l_read_reference c_read_reference k_read_reference⟩,
    ⟨_, _, PySem.W.mg_of X G a_read_character, fun_mk (st := s_read_character) l_read_character c_read_character k_read_character⟩,
    ⟨_, _, PySem.W.mg_of X G a_read_characters, fun_mk (st := s_read_characters) l_read_characters c_read_characters k_read_characters⟩,
    ⟨_, _, PySem.W.mg_of X G a_read_value, fun_mk (st := s_read_value) l_read_value c_read_value k_read_value⟩,
    ⟨_, _, PySem.W.mg_of X G a_attribute_begins, fun_mk (st := s_attribute_begins) l_attribute_begins c_attribute_begins k_attribute_begins⟩,
    ⟨_, _, PySem.W.mg_of X G a_read_attribute, fun_mk (st := s_read_attribute) l_read_attribute c_read_attribute k_read_attribute⟩,
    ⟨_, _, PySem.W.mg_of X G a_read_attributes, fun_mk (st := s_read_attributes) l_read_attributes c_read_attributes k_read_attributes⟩,
    ⟨_, _, PySem.W.mg_of X G a_read_beginning, fun_mk (st := s_read_beginning) l_read_beginning c_read_beginning k_read_beginning⟩,
    ⟨_, _, PySem.W.mg_of X G a_read_end, fun_mk (st := s_read_end) l_read_end c_read_end k_read_end⟩,
    ⟨_, _, PySem.W.mg_of X G a_pg_plain, fun_mk (st := s_pg_plain) l_pg_plain c_pg_plain k_pg_plain⟩,
    PySem.W.mg_of X G a_Attribute,
    ⟨pg_Attribute, hd_Attribute, po_Attribute, sa_Attribute⟩,
    no_Attribute_name,
    no_Attribute_value,
    ⟨_, _, ⟨mk_Attribute, a_Attribute___init__, i_Attribute___init__, kc_Attribute⟩, fun_mk (st := s_Attribute___init__) l_Attribute___init__ c_Attribute___init__ k_Attribute___init__⟩,
    ⟨_, _, ⟨a_Attribute_plain, i_Attribute_plain, k_Attribute_plain⟩, fun_mk (st := s_Attribute_plain) l_Attribute_plain c_Attribute_plain k_Attribute_plain⟩,
    PySem.W.mg_of X G a_Opening,
    ⟨pg_Opening, hd_Opening, po_Opening, sa_Opening⟩,
    no_Opening_name,
    no_Opening_attributes,
    ⟨_, _, ⟨mk_Opening, a_Opening___init__, i_Opening___init__, kc_Opening⟩, fun_mk (st := s_Opening___init__) l_Opening___init__ c_Opening___init__ k_Opening___init__⟩,
    ⟨_, _, ⟨a_Opening_has_same_names, i_Opening_has_same_names, k_Opening_has_same_names⟩, fun_mk (st := s_Opening_has_same_names) l_Opening_has_same_names c_Opening_has_same_names k_Opening_has_same_names⟩,
    ⟨_, _, ⟨a_Opening_plain, i_Opening_plain, k_Opening_plain⟩, fun_mk (st := s_Opening_plain) l_Opening_plain c_Opening_plain k_Opening_plain⟩,
    PySem.W.mg_of X G a_Closing,
    ⟨pg_Closing, hd_Closing, po_Closing, sa_Closing⟩,
    no_Closing_name,
    ⟨_, _, ⟨mk_Closing, a_Closing___init__, i_Closing___init__, kc_Closing⟩, fun_mk (st := s_Closing___init__) l_Closing___init__ c_Closing___init__ k_Closing___init__⟩,
    ⟨_, _, ⟨a_Closing_plain, i_Closing_plain, k_Closing_plain⟩, fun_mk (st := s_Closing_plain) l_Closing_plain c_Closing_plain k_Closing_plain⟩,
    PySem.W.mg_of X G a_Text,
    ⟨pg_Text, hd_Text, po_Text, sa_Text⟩,
    no_Text_content,
    ⟨_, _, ⟨mk_Text, a_Text___init__, i_Text___init__, kc_Text⟩, fun_mk (st := s_Text___init__) l_Text___init__ c_Text___init__ k_Text___init__⟩,
    ⟨_, _, ⟨a_Text_plain, i_Text_plain, k_Text_plain⟩, fun_mk (st := s_Text_plain) l_Text_plain c_Text_plain k_Text_plain⟩,
    PySem.W.mg_of X G a_Piece,
    ⟨pg_Piece, hd_Piece, po_Piece, sa_Piece⟩,
    no_Piece_content,
    no_Piece_end,
    ⟨_, _, ⟨mk_Piece, a_Piece___init__, i_Piece___init__, kc_Piece⟩, fun_mk (st := s_Piece___init__) l_Piece___init__ c_Piece___init__ k_Piece___init__⟩,
    PySem.W.mg_of X G a_Beginning,
    ⟨pg_Beginning, hd_Beginning, po_Beginning, sa_Beginning⟩,
    no_Beginning_opening,
    no_Beginning_closed,
    no_Beginning_end,
    ⟨_, _, ⟨mk_Beginning, a_Beginning___init__, i_Beginning___init__, kc_Beginning⟩, fun_mk (st := s_Beginning___init__) l_Beginning___init__ c_Beginning___init__ k_Beginning___init__⟩,
    PySem.W.mg_of X G a_Reading,
    ⟨pg_Reading, hd_Reading, po_Reading, sa_Reading⟩,
    no_Reading_t,
    no_Reading_at,
    no_Reading_marks,
    no_Reading_open_names,
    ⟨_, _, ⟨mk_Reading, a_Reading___init__, i_Reading___init__, kc_Reading⟩, fun_mk (st := s_Reading___init__) l_Reading___init__ c_Reading___init__ k_Reading___init__⟩,
    ⟨_, _, ⟨a_Reading_take_marks, i_Reading_take_marks, k_Reading_take_marks⟩, fun_mk (st := s_Reading_take_marks) l_Reading_take_marks c_Reading_take_marks k_Reading_take_marks⟩,
    ⟨_, _, ⟨a_Reading_take_text, i_Reading_take_text, k_Reading_take_text⟩, fun_mk (st := s_Reading_take_text) l_Reading_take_text c_Reading_take_text k_Reading_take_text⟩,
    ⟨_, _, ⟨a_Reading_take_beginning, i_Reading_take_beginning, k_Reading_take_beginning⟩, fun_mk (st := s_Reading_take_beginning) l_Reading_take_beginning c_Reading_take_beginning k_Reading_take_beginning⟩,
    ⟨_, _, ⟨a_Reading_take_end, i_Reading_take_end, k_Reading_take_end⟩, fun_mk (st := s_Reading_take_end) l_Reading_take_end c_Reading_take_end k_Reading_take_end⟩,
    ⟨_, _, ⟨a_Reading_take_next, i_Reading_take_next, k_Reading_take_next⟩, fun_mk (st := s_Reading_take_next) l_Reading_take_next c_Reading_take_next k_Reading_take_next⟩,
    ⟨_, _, ⟨a_Reading_take_page, i_Reading_take_page, k_Reading_take_page⟩, fun_mk (st := s_Reading_take_page) l_Reading_take_page c_Reading_take_page k_Reading_take_page⟩⟩
end Pg
end
section
set_option Elab.async false
def PySem.W.Fast.tw3001126390981171214 : Unit := ()
def PySem.W.Fast.tw3069883770556101225 : Unit := ()
def PySem.W.Fast.tw3071290992930325377 : Unit := ()
def PySem.W.Fast.tw4196738676220323793 : Unit := ()
def PySem.W.Fast.tw4949616678925842230 : Unit := ()
def PySem.W.Fast.tw6971989277281532579 : Unit := ()
def PySem.W.Fast.tw860500055638184325 : Unit := ()
def PySem.W.Fast.tw9462714569084261329 : Unit := ()
open PySem PySem.W PyProof.Rows
set_option maxRecDepth 100000 in
set_option maxHeartbeats 0 in
theorem PySem.Challenge.cw_strictpage_s04_pg_plain_holds : PySem.Challenge.rw_strictpage_s04_pg_plain.Holds := by
  w_on; k_headS; (case hw => exact ⟨[.list []], by decide +kernel, by decide +kernel⟩)
  k_fillS
  refine L2.walk_specK (r := PySem.Challenge.rw_strictpage_s04_pg_plain) (k := 14) (CX := L2.CX0) (ps := ["t"]) (sp := Pg.spPlain) (by decide +kernel) rfl rfl ⟨rfl, by decide, by decide⟩ (fun w h Y => PySem.W.kIn_of Y) ?F ?S (fun _ _ _ _ z => z)
  case F =>
    intro w mg fa h Y KX G hmg
    refine' Pg.fin_pg_plain (Pg.txt_mk KX G ?b_len ?b_tuple ?b_ord ?b_set ?g_MOST_BYTES ?g_MOST_MARKS ?g_MOST_ATTRIBUTES ?g_MOST_DEPTH ?g_MOST_NAME_BYTES ?g_MOST_DIGITS ?g_NUMBER_ALONE ?g_PAGE_FORM ?g_NO_REFUSAL ?g_SAME_NAME ?g_TOO_MUCH ?g_NO_MARK ?g_NEWLINE ?g_SPACE ?g_QUOTE ?g_AMPERSAND ?g_HYPHEN ?g_DIGIT_0 ?g_DIGIT_9 ?g_LESS_THAN ?g_SMALL_A ?g_SMALL_Z ?g_LAST_BYTE ?g_NAMED_REFERENCES ?l_NAMED_REFERENCES ?s_NAMED_REFERENCES ?g_NUMBER_REFERENCE ?a_with_count ?l_with_count ?c_with_count ?k_with_count ?a_signs ?l_signs ?c_signs ?k_signs ?a_plain_characters ?l_plain_characters ?c_plain_characters ?k_plain_characters ?a_stands_at ?l_stands_at ?c_stands_at ?k_stands_at ?a_may_be_in_page ?l_may_be_in_page ?c_may_be_in_page ?k_may_be_in_page ?a_is_blank ?l_is_blank ?c_is_blank ?k_is_blank ?a_is_digit ?l_is_digit ?c_is_digit ?k_is_digit ?a_is_small_letter ?l_is_small_letter ?c_is_small_letter ?k_is_small_letter ?a_is_in_name ?l_is_in_name ?c_is_in_name ?k_is_in_name ?a_end_of_blanks ?l_end_of_blanks ?c_end_of_blanks ?k_end_of_blanks ?a_read_name ?l_read_name ?c_read_name ?k_read_name ?a_read_number_reference ?l_read_number_reference ?c_read_number_reference ?k_read_number_reference ?a_read_reference ?l_read_reference ?c_read_reference ?k_read_reference ?a_read_character ?l_read_character ?c_read_character ?k_read_character ?a_read_characters ?l_read_characters ?c_read_characters ?k_read_characters ?a_read_value ?l_read_value ?c_read_value ?k_read_value ?a_attribute_begins ?l_attribute_begins ?c_attribute_begins ?k_attribute_begins ?a_read_attribute ?l_read_attribute ?c_read_attribute ?k_read_attribute ?a_read_attributes ?l_read_attributes ?c_read_attributes ?k_read_attributes ?a_read_beginning ?l_read_beginning ?c_read_beginning ?k_read_beginning ?a_read_end ?l_read_end ?c_read_end ?k_read_end ?a_pg_plain ?l_pg_plain ?c_pg_plain ?k_pg_plain ?a_Attribute ?pg_Attribute ?hd_Attribute ?po_Attribute ?sa_Attribute ?no_Attribute_name ?no_Attribute_value ?mk_Attribute ?kc_Attribute ?a_Attribute___init__ ?i_Attribute___init__ ?l_Attribute___init__ ?c_Attribute___init__ ?k_Attribute___init__ ?a_Attribute_plain ?i_Attribute_plain ?l_Attribute_plain ?c_Attribute_plain ?k_Attribute_plain ?a_Opening ?pg_Opening ?hd_Opening ?po_Opening ?sa_Opening ?no_Opening_name ?no_Opening_attributes ?mk_Opening ?kc_Opening ?a_Opening___init__ ?i_Opening___init__ ?l_Opening___init__ ?c_Opening___init__ ?k_Opening___init__ ?a_Opening_has_same_names ?i_Opening_has_same_names ?l_Opening_has_same_names ?c_Opening_has_same_names ?k_Opening_has_same_names ?a_Opening_plain ?i_Opening_plain ?l_Opening_plain ?c_Opening_plain ?k_Opening_plain ?a_Closing ?pg_Closing ?hd_Closing ?po_Closing ?sa_Closing ?no_Closing_name ?mk_Closing ?kc_Closing ?a_Closing___init__ ?i_Closing___init__ ?l_Closing___init__ ?c_Closing___init__ ?k_Closing___init__ ?a_Closing_plain ?i_Closing_plain ?l_Closing_plain ?c_Closing_plain ?k_Closing_plain ?a_Text ?pg_Text ?hd_Text ?po_Text ?sa_Text ?no_Text_content ?mk_Text ?kc_Text ?a_Text___init__ ?i_Text___init__ ?l_Text___init__ ?c_Text___init__ ?k_Text___init__ ?a_Text_plain ?i_Text_plain ?l_Text_plain ?c_Text_plain ?k_Text_plain ?a_Piece ?pg_Piece ?hd_Piece ?po_Piece ?sa_Piece ?no_Piece_content ?no_Piece_end ?mk_Piece ?kc_Piece ?a_Piece___init__ ?i_Piece___init__ ?l_Piece___init__ ?c_Piece___init__ ?k_Piece___init__ ?a_Beginning ?pg_Beginning ?hd_Beginning ?po_Beginning ?sa_Beginning ?no_Beginning_opening ?no_Beginning_closed ?no_Beginning_end ?mk_Beginning ?kc_Beginning ?a_Beginning___init__ ?i_Beginning___init__ ?l_Beginning___init__ ?c_Beginning___init__ ?k_Beginning___init__ ?a_Reading ?pg_Reading ?hd_Reading ?po_Reading ?sa_Reading ?no_Reading_t ?no_Reading_at ?no_Reading_marks ?no_Reading_open_names ?mk_Reading ?kc_Reading ?a_Reading___init__ ?i_Reading___init__ ?l_Reading___init__ ?c_Reading___init__ ?k_Reading___init__ ?a_Reading_take_marks ?i_Reading_take_marks ?l_Reading_take_marks ?c_Reading_take_marks ?k_Reading_take_marks ?a_Reading_take_text ?i_Reading_take_text ?l_Reading_take_text ?c_Reading_take_text ?k_Reading_take_text ?a_Reading_take_beginning ?i_Reading_take_beginning ?l_Reading_take_beginning ?c_Reading_take_beginning ?k_Reading_take_beginning ?a_Reading_take_end ?i_Reading_take_end ?l_Reading_take_end ?c_Reading_take_end ?k_Reading_take_end ?a_Reading_take_next ?i_Reading_take_next ?l_Reading_take_next ?c_Reading_take_next ?k_Reading_take_next ?a_Reading_take_page ?i_Reading_take_page ?l_Reading_take_page ?c_Reading_take_page ?k_Reading_take_page) hmg
    (case b_len => k_is)
    (case b_tuple => k_is)
    (case b_ord => k_is)
    (case b_set => k_is)
    (case g_MOST_BYTES => k_is)
    (case g_MOST_MARKS => k_is)
    (case g_MOST_ATTRIBUTES => k_is)
    (case g_MOST_DEPTH => k_is)
    (case g_MOST_NAME_BYTES => k_is)
    (case g_MOST_DIGITS => k_is)
    (case g_NUMBER_ALONE => k_is)
    (case g_PAGE_FORM => k_is)
    (case g_NO_REFUSAL => k_is)
    (case g_SAME_NAME => k_is)
    (case g_TOO_MUCH => k_is)
    (case g_NO_MARK => k_is)
    (case g_NEWLINE => k_is)
    (case g_SPACE => k_is)
    (case g_QUOTE => k_is)
    (case g_AMPERSAND => k_is)
    (case g_HYPHEN => k_is)
    (case g_DIGIT_0 => k_is)
    (case g_DIGIT_9 => k_is)
    (case g_LESS_THAN => k_is)
    (case g_SMALL_A => k_is)
    (case g_SMALL_Z => k_is)
    (case g_LAST_BYTE => k_is)
    (case g_NAMED_REFERENCES => k_is)
    (case l_NAMED_REFERENCES => k_is)
    (case s_NAMED_REFERENCES => decide)
    (case g_NUMBER_REFERENCE => k_is)
    (case a_with_count => k_is)
    (case l_with_count => k_is)
    (case c_with_count => k_is)
    (case k_with_count => k_is)
    (case a_signs => k_is)
    (case l_signs => k_is)
    (case c_signs => k_is)
    (case k_signs => k_is)
    (case a_plain_characters => k_is)
    (case l_plain_characters => k_is)
    (case c_plain_characters => k_is)
    (case k_plain_characters => k_is)
    (case a_stands_at => k_is)
    (case l_stands_at => k_is)
    (case c_stands_at => k_is)
    (case k_stands_at => k_is)
    (case a_may_be_in_page => k_is)
    (case l_may_be_in_page => k_is)
    (case c_may_be_in_page => k_is)
    (case k_may_be_in_page => k_is)
    (case a_is_blank => k_is)
    (case l_is_blank => k_is)
    (case c_is_blank => k_is)
    (case k_is_blank => k_is)
    (case a_is_digit => k_is)
    (case l_is_digit => k_is)
    (case c_is_digit => k_is)
    (case k_is_digit => k_is)
    (case a_is_small_letter => k_is)
    (case l_is_small_letter => k_is)
    (case c_is_small_letter => k_is)
    (case k_is_small_letter => k_is)
    (case a_is_in_name => k_is)
    (case l_is_in_name => k_is)
    (case c_is_in_name => k_is)
    (case k_is_in_name => k_is)
    (case a_end_of_blanks => k_is)
    (case l_end_of_blanks => k_is)
    (case c_end_of_blanks => k_is)
    (case k_end_of_blanks => k_is)
    (case a_read_name => k_is)
    (case l_read_name => k_is)
    (case c_read_name => k_is)
    (case k_read_name => k_is)
    (case a_read_number_reference => k_is)
    (case l_read_number_reference => k_is)
    (case c_read_number_reference => k_is)
    (case k_read_number_reference => k_is)
    (case a_read_reference => k_is)
    (case l_read_reference => k_is)
    (case c_read_reference => k_is)
    (case k_read_reference => k_is)
    (case a_read_character => k_is)
    (case l_read_character => k_is)
    (case c_read_character => k_is)
    (case k_read_character => k_is)
    (case a_read_characters => k_is)
    (case l_read_characters => k_is)
    (case c_read_characters => k_is)
    (case k_read_characters => k_is)
    (case a_read_value => k_is)
    (case l_read_value => k_is)
    (case c_read_value => k_is)
    (case k_read_value => k_is)
    (case a_attribute_begins => k_is)
    (case l_attribute_begins => k_is)
    (case c_attribute_begins => k_is)
    (case k_attribute_begins => k_is)
    (case a_read_attribute => k_is)
    (case l_read_attribute => k_is)
    (case c_read_attribute => k_is)
    (case k_read_attribute => k_is)
    (case a_read_attributes => k_is)
    (case l_read_attributes => k_is)
    (case c_read_attributes => k_is)
    (case k_read_attributes => k_is)
    (case a_read_beginning => k_is)
    (case l_read_beginning => k_is)
    (case c_read_beginning => k_is)
    (case k_read_beginning => k_is)
    (case a_read_end => k_is)
    (case l_read_end => k_is)
    (case c_read_end => k_is)
    (case k_read_end => k_is)
    (case a_pg_plain => k_is)
    (case l_pg_plain => k_is)
    (case c_pg_plain => k_is)
    (case k_pg_plain => k_is)
    (case a_Attribute => k_is)
    (case pg_Attribute => k_is)
    (case hd_Attribute => k_is)
    (case po_Attribute => k_is)
    (case sa_Attribute => k_is)
    (case no_Attribute_name => k_is)
    (case no_Attribute_value => k_is)
    (case mk_Attribute => k_is)
    (case kc_Attribute => k_is)
    (case a_Attribute___init__ => k_is)
    (case i_Attribute___init__ => k_is)
    (case l_Attribute___init__ => k_is)
    (case c_Attribute___init__ => k_is)
    (case k_Attribute___init__ => k_is)
    (case a_Attribute_plain => k_is)
    (case i_Attribute_plain => k_is)
    (case l_Attribute_plain => k_is)
    (case c_Attribute_plain => k_is)
    (case k_Attribute_plain => k_is)
    (case a_Opening => k_is)
    (case pg_Opening => k_is)
    (case hd_Opening => k_is)
    (case po_Opening => k_is)
    (case sa_Opening => k_is)
    (case no_Opening_name => k_is)
    (case no_Opening_attributes => k_is)
    (case mk_Opening => k_is)
    (case kc_Opening => k_is)
    (case a_Opening___init__ => k_is)
    (case i_Opening___init__ => k_is)
    (case l_Opening___init__ => k_is)
    (case c_Opening___init__ => k_is)
    (case k_Opening___init__ => k_is)
    (case a_Opening_has_same_names => k_is)
    (case i_Opening_has_same_names => k_is)
    (case l_Opening_has_same_names => k_is)
    (case c_Opening_has_same_names => k_is)
    (case k_Opening_has_same_names => k_is)
    (case a_Opening_plain => k_is)
    (case i_Opening_plain => k_is)
    (case l_Opening_plain => k_is)
    (case c_Opening_plain => k_is)
    (case k_Opening_plain => k_is)
    (case a_Closing => k_is)
    (case pg_Closing => k_is)
    (case hd_Closing => k_is)
    (case po_Closing => k_is)
    (case sa_Closing => k_is)
    (case no_Closing_name => k_is)
    (case mk_Closing => k_is)
    (case kc_Closing => k_is)
    (case a_Closing___init__ => k_is)
    (case i_Closing___init__ => k_is)
    (case l_Closing___init__ => k_is)
    (case c_Closing___init__ => k_is)
    (case k_Closing___init__ => k_is)
    (case a_Closing_plain => k_is)
    (case i_Closing_plain => k_is)
    (case l_Closing_plain => k_is)
    (case c_Closing_plain => k_is)
    (case k_Closing_plain => k_is)
    (case a_Text => k_is)
    (case pg_Text => k_is)
    (case hd_Text => k_is)
    (case po_Text => k_is)
    (case sa_Text => k_is)
    (case no_Text_content => k_is)
    (case mk_Text => k_is)
    (case kc_Text => k_is)
    (case a_Text___init__ => k_is)
    (case i_Text___init__ => k_is)
    (case l_Text___init__ => k_is)
    (case c_Text___init__ => k_is)
    (case k_Text___init__ => k_is)
    (case a_Text_plain => k_is)
    (case i_Text_plain => k_is)
    (case l_Text_plain => k_is)
    (case c_Text_plain => k_is)
    (case k_Text_plain => k_is)
    (case a_Piece => k_is)
    (case pg_Piece => k_is)
    (case hd_Piece => k_is)
    (case po_Piece => k_is)
    (case sa_Piece => k_is)
    (case no_Piece_content => k_is)
    (case no_Piece_end => k_is)
    (case mk_Piece => k_is)
    (case kc_Piece => k_is)
    (case a_Piece___init__ => k_is)
    (case i_Piece___init__ => k_is)
    (case l_Piece___init__ => k_is)
    (case c_Piece___init__ => k_is)
    (case k_Piece___init__ => k_is)
    (case a_Beginning => k_is)
    (case pg_Beginning => k_is)
    (case hd_Beginning => k_is)
    (case po_Beginning => k_is)
    (case sa_Beginning => k_is)
    (case no_Beginning_opening => k_is)
    (case no_Beginning_closed => k_is)
    (case no_Beginning_end => k_is)
    (case mk_Beginning => k_is)
    (case kc_Beginning => k_is)
    (case a_Beginning___init__ => k_is)
    (case i_Beginning___init__ => k_is)
    (case l_Beginning___init__ => k_is)
    (case c_Beginning___init__ => k_is)
    (case k_Beginning___init__ => k_is)
    (case a_Reading => k_is)
    (case pg_Reading => k_is)
    (case hd_Reading => k_is)
    (case po_Reading => k_is)
    (case sa_Reading => k_is)
    (case no_Reading_t => k_is)
    (case no_Reading_at => k_is)
    (case no_Reading_marks => k_is)
    (case no_Reading_open_names => k_is)
    (case mk_Reading => k_is)
    (case kc_Reading => k_is)
    (case a_Reading___init__ => k_is)
    (case i_Reading___init__ => k_is)
    (case l_Reading___init__ => k_is)
    (case c_Reading___init__ => k_is)
    (case k_Reading___init__ => k_is)
    (case a_Reading_take_marks => k_is)
    (case i_Reading_take_marks => k_is)
    (case l_Reading_take_marks => k_is)
    (case c_Reading_take_marks => k_is)
    (case k_Reading_take_marks => k_is)
    (case a_Reading_take_text => k_is)
    (case i_Reading_take_text => k_is)
    (case l_Reading_take_text => k_is)
    (case c_Reading_take_text => k_is)
    (case k_Reading_take_text => k_is)
    (case a_Reading_take_beginning => k_is)
    (case i_Reading_take_beginning => k_is)
    (case l_Reading_take_beginning => k_is)
    (case c_Reading_take_beginning => k_is)
    (case k_Reading_take_beginning => k_is)
    (case a_Reading_take_end => k_is)
    (case i_Reading_take_end => k_is)
    (case l_Reading_take_end => k_is)
    (case c_Reading_take_end => k_is)
    (case k_Reading_take_end => k_is)
    (case a_Reading_take_next => k_is)
    (case i_Reading_take_next => k_is)
    (case l_Reading_take_next => k_is)
    (case c_Reading_take_next => k_is)
    (case k_Reading_take_next => k_is)
    (case a_Reading_take_page => k_is)
    (case i_Reading_take_page => k_is)
    (case l_Reading_take_page => k_is)
    (case c_Reading_take_page => k_is)
    (case k_Reading_take_page => k_is)
  case S =>
    intro K H xs a hO hwi hask hx
    cases hx with
    | cons h1 h2 =>
      cases h2
      cases h1 with
      | lst hs ha =>
        have e := L2.ints_dw a.1 _ ha
        subst e
        have q : ((Codec.inLen 0 16400 a.1 && a.1.all (Codec.inInt 0 255)) && true) = true := hwi
        rw [Bool.and_eq_true, Bool.and_eq_true] at q
        refine ⟨_, a.1, rfl, hs, fun x hx => ?_, fun H' p hp => .lst (L2.SqL.of hp) (L2.dw_ints _)⟩
        have := List.all_eq_true.mp q.1.2 x hx
        unfold Codec.inInt at this
        simp at this
        exact this.1
#print axioms PySem.Challenge.cw_strictpage_s04_pg_plain_holds
end
