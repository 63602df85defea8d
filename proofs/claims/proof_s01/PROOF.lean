import PyProof.Rows.All
import Wide.All
import OpenK.AllK
import Wide.FinOn
import PyProof.EqAt
import PyProof.EqKinds
import PyProof.TupleCall
import Open.SpecLaws
import KE.OsHead
import KE.OsGo
import PySem.Challenge.RW_mendedline_s01_answers
import KE.BitLaws
import KE.IntBitsLaws
section
-- CHANGE: your row's module here, as the last of these rows
set_option Elab.async false
set_option linter.all false
set_option maxRecDepth 100000
namespace L2
open PySem PySem.Spec PyProof.Rows
abbrev Key := Sum Int Str
def keyIs : Key → Value → Bool
  | .inl k, v => Value.isInt k v
  | .inr x, v => Value.isStrOf x v
def keyH (w : World) : Key → Int
  | .inl k => hashInt k
  | .inr x => hashStr w x
theorem keyIs_shape : ∀ {k : Key} {v : Value}, keyIs k v = true → (∃ i t, k = Sum.inl i ∧ v = Value.int i t) ∨ (∃ x t, k = Sum.inr x ∧ v = Value.str x t)
  | .inl i, v, h => by
    obtain ⟨t, e⟩ := Value.isInt_shape (k := i) (v := v) h
    exact .inl ⟨i, t, rfl, e⟩
  | .inr x, v, h => by
    obtain ⟨t, e⟩ := Value.isStrOf_shape (x := x) (v := v) h
    exact .inr ⟨x, t, rfl, e⟩
theorem keyIs_int (i : Int) (t : Tok) : keyIs (.inl i) (.int i t) = true := by simp [keyIs, Value.isInt]
theorem keyIs_str (x : Str) (t : Tok) : keyIs (.inr x) (.str x t) = true := by simp [keyIs, Value.isStrOf]
theorem key_ll (a b : Int) : decide ((Sum.inl a : Key) = Sum.inl b) = (a == b) := by
  by_cases e : a = b
  · subst e; simp
  · have h : ¬ (Sum.inl a : Key) = Sum.inl b := fun q => e (Sum.inl.inj q)
    rw [decide_eq_false h]
    exact (beq_eq_false_iff_ne.mpr e).symm
theorem key_rr (a b : Str) : decide ((Sum.inr a : Key) = Sum.inr b) = decide (a = b) := by
  by_cases e : a = b
  · subst e; simp
  · have h : ¬ (Sum.inr a : Key) = Sum.inr b := fun q => e (Sum.inr.inj q)
    rw [decide_eq_false h, decide_eq_false e]
theorem key_lr (a : Int) (b : Str) : decide ((Sum.inl a : Key) = Sum.inr b) = false := decide_eq_false (fun q => nomatch q)
theorem key_rl (a : Str) (b : Int) : decide ((Sum.inr a : Key) = Sum.inl b) = false := decide_eq_false (fun q => nomatch q)
def mixKind (prog : Program) (w : World) : PySem.KeyKind prog w Key where
  is := keyIs
  hash := keyH w
  inj := fun v a b ha hb => by
    rcases keyIs_shape ha with ⟨i, t, rfl, rfl⟩ | ⟨x, t, rfl, rfl⟩
    · rcases keyIs_shape hb with ⟨j, u, rfl, e⟩ | ⟨y, u, rfl, e⟩
      · injection e with e1 _; rw [e1]
      · exact nomatch e
    · rcases keyIs_shape hb with ⟨j, u, rfl, e⟩ | ⟨y, u, rfl, e⟩
      · exact nomatch e
      · injection e with e1 _; rw [e1]
  byValue := fun k v h => by
    rcases keyIs_shape h with ⟨i, t, rfl, rfl⟩ | ⟨x, t, rfl, rfl⟩ <;> rfl
  pyHash := fun hv h => by
    rcases keyIs_shape hv with ⟨i, t, rfl, rfl⟩ | ⟨x, t, rfl, rfl⟩
    · exact wpAny_pyHash_int h
    · exact wpAny_pyHash_str h
  eqBool := fun hu hv h => by
    rcases keyIs_shape hu with ⟨i, t, rfl, rfl⟩ | ⟨x, t, rfl, rfl⟩
    · rcases keyIs_shape hv with ⟨j, u, rfl, rfl⟩ | ⟨y, u, rfl, rfl⟩
      · rw [key_ll] at h; exact wpAny_eqBool_int h
      · rw [key_lr] at h; exact SeqAt.EqAt.int_str i t y u _ _ _ _ h
    · rcases keyIs_shape hv with ⟨j, u, rfl, rfl⟩ | ⟨y, u, rfl, rfl⟩
      · rw [key_rl] at h; exact SeqAt.EqAt.str_int x t j u _ _ _ _ h
      · rw [key_rr] at h; exact wpAny_eqBool_str h
  «strs» := fun k x t v h => by
    rcases keyIs_shape h with ⟨i, u, rfl, e⟩ | ⟨y, u, rfl, e⟩
    · exact nomatch e
    · injection e with e1 _
      subst e1
      cases v <;> rfl
theorem mixKind_int (prog : Program) (w : World) (i : Int) (t : Tok) : (mixKind prog w).is (.inl i) (.int i t) = true := keyIs_int i t
theorem mixKind_str (prog : Program) (w : World) (x : Str) (t : Tok) : (mixKind prog w).is (.inr x) (.str x t) = true := keyIs_str x t
end L2
namespace L2
open PySem PySem.Spec PyProof.Rows
inductive V where
  | non | bl (b : Bool) | int (i : Int) | str (x : Str) | byt (b : Array UInt8) | flt (b : UInt64) | ref (a : Addr) | ty (n : String)
  deriving DecidableEq
def RelV : V → Value → Prop
  | .non, u => u = Value.none
  | .bl b, u => u = Value.bool b
  | .int i, u => ∃ t, u = Value.int i t
  | .str x, u => ∃ t, u = Value.str x t
  | .byt b, u => ∃ t, u = Value.bytes b t
  | .flt b, u => ∃ t, u = Value.float b t
  | .ref a, u => u = Value.ref a
  | .ty n, u => u = Value.type n
abbrev Vals : List V → List Value → Prop := Paired RelV
theorem Vals.length {xs : List V} {us : List Value} (r : Vals xs us) : xs.length = us.length := Paired.length r
theorem Vals.get : ∀ {xs : List V} {us : List Value} {i : Nat} {x : V}, Vals xs us → xs[i]? = some x → ∃ u, us[i]? = some u ∧ RelV x u
  | _, _, _, _, .nil, e => by simp at e
  | _, _, 0, _, .cons r _, e => by simp at e; subst e; exact ⟨_, rfl, r⟩
  | _, _, i + 1, x, .cons _ t, e => by
    obtain ⟨u, h1, h2⟩ := Vals.get (i := i) (x := x) t (by simpa using e)
    exact ⟨u, by simpa using h1, h2⟩
theorem Vals.set {x : V} {u : Value} (r : RelV x u) : ∀ {xs : List V} {us : List Value} (i : Nat), Vals xs us → Vals (xs.set i x) (us.set i u)
  | _, _, _, .nil => .nil
  | _, _, 0, .cons _ t => .cons r t
  | _, _, i + 1, .cons q t => .cons q (Vals.set r i t)
theorem Vals.append : ∀ {xs ys : List V} {us ws : List Value}, Vals xs us → Vals ys ws → Vals (xs ++ ys) (us ++ ws)
  | _, _, _, _, .nil, s => s
  | _, _, _, _, .cons r t, s => .cons r (Vals.append t s)
theorem Vals.take : ∀ {xs : List V} {us : List Value} (n : Nat), Vals xs us → Vals (xs.take n) (us.take n)
  | _, _, 0, _ => .nil
  | _, _, _ + 1, .nil => .nil
  | _, _, n + 1, .cons r t => .cons r (Vals.take n t)
theorem Vals.drop : ∀ {xs : List V} {us : List Value} (n : Nat), Vals xs us → Vals (xs.drop n) (us.drop n)
  | _, _, 0, r => r
  | _, _, _ + 1, .nil => .nil
  | _, _, n + 1, .cons _ t => Vals.drop n t
def RelO : Option V → Option Value → Prop
  | some v, some u => RelV v u
  | none, none => True
  | _, _ => False
def KV {κ : Type} : List (κ × V) → List (κ × Value) → Prop := Paired fun (p : κ × V) (q : κ × Value) => p.1 = q.1 ∧ RelV p.2 q.2
def kV : Key → V
  | .inl i => .int i
  | .inr x => .str x
inductive HO where
  /-- a list -/
  | lst (xs : List V)
  /-- a tuple (never changes) -/
  | tup (xs : List V)
  /-- a dict whose keys are ints and texts; one whose keys are tuples of ints and texts (the empty one is both) -/
  | dK (kvs : List (Key × V)) | dT (kvs : List (List Key × V))
  /-- a set of ints: its members, its size -/
  | set (S : Int → Bool) (n : Nat)
  /-- an instance of the class at C, its dict at dx, its attributes -/
  | ins (C dx : Addr) (fs : List (Str × V))
  /-- the dict of the instance at x -/
  | own (x : Addr)
  /-- the dict of an exception -/
  | xd (fs : List (Str × V))
  /-- a bound method, f of x -/
  | met (f x : Addr)
  /-- a range object lo, lo + 1, .. below hi -/
  | rng (lo hi : Int)
  /-- a thing that is known to the object (the script; a dict while a loop walks it): read, never written while it is so -/
  | frz (o : Obj) (u : HO)
  /-- a code object's table -/
  | tbl (ps : Array Value)
  /-- any other thing, by what is true of its one object (a def of one's own: SetO a S n := HO.ext fun h => ..) -/
  | ext (φ : Heap → Prop)
abbrev Hp := Addr → Option HO
def upd (H : Hp) (a : Addr) (o : HO) : Hp := fun b => if b = a then some o else H b
theorem upd_same {H : Hp} {a : Addr} {o : HO} : upd H a o a = some o := by unfold upd; rw [if_pos rfl]
theorem upd_ne {H : Hp} {a b : Addr} {o : HO} (h : b ≠ a) : upd H a o b = H b := by unfold upd; rw [if_neg h]
theorem upd_upd {H : Hp} {a : Addr} {o u : HO} : upd (upd H a o) a u = upd H a u := by
  funext b; unfold upd; split <;> rfl
theorem ne_of {H : Hp} {a b : Addr} {o u : HO} (h : H a = some o) (h' : H b = some u) (d : o ≠ u) : a ≠ b := by
  intro e; subst e; rw [h] at h'; exact d (Option.some.inj h')
theorem ne_of_none {H : Hp} {a b : Addr} {o : HO} (h : H a = some o) (h' : H b = none) : a ≠ b := by
  intro e; subst e; rw [h] at h'; cases h'
section
variable (P : Program) (w : World)
def ObjOk (H : Hp) (h : Heap) (a : Addr) : HO → Prop
  | .lst xs => xs.length ≤ sizeLine ∧ ∃ (its : List Value) (n : Nat), Vals xs its ∧ h.get? a = some { cls := .type "list", data := .seq its.toArray n }
  | .tup xs => xs.length ≤ sizeLine ∧ ∃ its : List Value, Vals xs its ∧ IsTup h a its.toArray
  | .dK kvs => kvs.length ≤ sizeLine ∧ (a == sysModules) = false ∧ ∃ vs, KV kvs vs ∧ h.DictOf (mixKind P w) a vs
  | .dT kvs => kvs.length ≤ sizeLine ∧ (a == sysModules) = false ∧ ∃ xs : List (List Key × Addr × Value),
      Paired (fun (p : List Key × V) (q : List Key × Addr × Value) => p.1 = q.1 ∧ H q.2.1 = some (.tup (p.1.map kV)) ∧ RelV p.2 q.2.2) kvs xs ∧
      ∃ o es ep, h.get? a = some o ∧ o.ExactDict ∧ o.data = .dict es ep ∧ es.toList = xs.map (entryOfKey (tupleKind (mixKind P w))) ∧ (xs.map (·.1)).Nodup
  | .set S n => h.SetOf (intKind P w) a S n
  | .ins C dx fs => H dx = some (.own a) ∧ fs.length ≤ 1000 ∧ dx ≠ a ∧ h.get? a = some (PySem.W.instObj C dx) ∧
      ∃ mA, h.Ns1 dx mA ∧ (∀ f, RelO (fs.lookup f) (mA f)) ∧ PySem.Within mA (fs.map (·.1))
  | .own _ => ∃ o, h.get? a = some o
  | .xd fs => ∃ mA, h.Ns1 a mA ∧ ∀ f, RelO (fs.lookup f) (mA f)
  | .rng lo hi => ∃ t u v, h.get? a = some { cls := .type "range", data := .fields #[.int lo t, .int hi u, .int 1 v] }
  | .frz o u => h.get? a = some o ∧ ObjOk H h a u
  | .tbl ps => h.get? a = some { cls := .none, data := .fields ps }
  | .met f x => h.get? a = some (PySem.W.methodObj (.ref f) (.ref x))
  | .ext φ => φ h ∧ (∃ o, h.get? a = some o) ∧ ∀ h1 h2 : Heap, φ h1 → (∀ o, h1.get? a = some o → h2.get? a = some o) → φ h2
def HOk (H : Hp) (h : Heap) : Prop := ∀ a o, H a = some o → ObjOk P w H h a o
end
section
variable {P : Program} {w : World} {H H' : Hp} {h h' : Heap} {a : Addr} {o : HO}
theorem ObjOk.lt (x : ObjOk P w H h a o) : a < h.objs.size := by
  cases o with
  | lst xs => obtain ⟨_, _, _, _, e⟩ := x; exact Heap.lt_size e
  | tup xs => obtain ⟨_, _, _, p⟩ := x; exact p.lt
  | dK kvs => obtain ⟨_, _, _, _, o, _, _, e, _⟩ := x; exact Heap.lt_size e
  | dT kvs => obtain ⟨_, _, _, _, o, _, _, e, _⟩ := x; exact Heap.lt_size e
  | set S n => obtain ⟨o, _, _, _, e, _⟩ := x; exact Heap.lt_size e
  | ins C dx fs => obtain ⟨_, _, _, e, _⟩ := x; exact Heap.lt_size e
  | own y => obtain ⟨_, e⟩ := x; exact Heap.lt_size e
  | xd fs => obtain ⟨_, ⟨_, _, _, e, _⟩, _⟩ := x; exact Heap.lt_size e
  | rng lo hi => obtain ⟨_, _, _, e⟩ := x; exact Heap.lt_size e
  | frz ob u => obtain ⟨e, _⟩ := x; exact Heap.lt_size e
  | tbl ps => exact Heap.lt_size (show h.get? a = some _ from x)
  | met f y => exact Heap.lt_size (show h.get? a = some _ from x)
  | ext φ => obtain ⟨_, ⟨_, e⟩, _⟩ := x; exact Heap.lt_size e
theorem Paired.mapP {α β : Type} {F G : α → β → Prop} : ∀ {l₁ : List α} {l₂ : List β}, Paired F l₁ l₂ → (∀ a b, F a b → G a b) → Paired G l₁ l₂
  | _, _, .nil, _ => .nil
  | _, _, .cons r t, f => .cons (f _ _ r) (Paired.mapP t f)
theorem ObjOk.stay (x : ObjOk P w H h a o) (k : ∀ b u, (b = a ∨ H b = some (.own a)) → h.get? b = some u → h'.get? b = some u)
    (ho : ∀ b, H b = some (.own a) → H' b = some (.own a)) (ht : ∀ b xs, H b = some (.tup xs) → H' b = some (.tup xs)) : ObjOk P w H' h' a o := by
  induction o with
  | lst xs => obtain ⟨z, its, n, r, e⟩ := x; exact ⟨z, its, n, r, k _ _ (.inl rfl) e⟩
  | tup xs => obtain ⟨z, its, r, ob, e, c⟩ := x; exact ⟨z, its, r, ob, k _ _ (.inl rfl) e, c⟩
  | dK kvs => obtain ⟨z, y, vs, r, ob, es, ep, e, c⟩ := x; exact ⟨z, y, vs, r, ob, es, ep, k _ _ (.inl rfl) e, c⟩
  | dT kvs =>
    obtain ⟨z, y, xs, r, ob, es, ep, e, c⟩ := x
    exact ⟨z, y, xs, Paired.mapP r fun p q z => ⟨z.1, ht _ _ z.2.1, z.2.2⟩, ob, es, ep, k _ _ (.inl rfl) e, c⟩
  | set S n => obtain ⟨ob, es, ep, t, e, c⟩ := x; exact ⟨ob, es, ep, t, k _ _ (.inl rfl) e, c⟩
  | ins C dx fs =>
    obtain ⟨d, z, ne, e, mA, ⟨od, es, ep, e2, c⟩, r⟩ := x
    exact ⟨ho _ d, z, ne, k _ _ (.inl rfl) e, mA, ⟨od, es, ep, k _ _ (.inr d) e2, c⟩, r⟩
  | own y => obtain ⟨ob, e⟩ := x; exact ⟨ob, k _ _ (.inl rfl) e⟩
  | xd fs => obtain ⟨mA, ⟨od, es, ep, e, c⟩, r⟩ := x; exact ⟨mA, ⟨od, es, ep, k _ _ (.inl rfl) e, c⟩, r⟩
  | rng lo hi => obtain ⟨t, u, v, e⟩ := x; exact ⟨t, u, v, k _ _ (.inl rfl) e⟩
  | frz ob u ih => obtain ⟨e, q⟩ := x; exact ⟨k _ _ (.inl rfl) e, ih q⟩
  | tbl ps =>
    have e : h.get? a = some { cls := .none, data := .fields ps } := x
    show h'.get? a = some { cls := .none, data := .fields ps }
    exact k a _ (.inl rfl) e
  | met f y =>
    have e : h.get? a = some (PySem.W.methodObj (.ref f) (.ref y)) := x
    show h'.get? a = some (PySem.W.methodObj (.ref f) (.ref y))
    exact k a _ (.inl rfl) e
  | ext φ => obtain ⟨p, ⟨o, e⟩, st⟩ := x; exact ⟨st _ _ p fun o q => k _ _ (.inl rfl) q, ⟨o, k _ _ (.inl rfl) e⟩, st⟩
theorem HOk.lt (x : HOk P w H h) (e : H a = some o) : a < h.objs.size := (x a o e).lt
theorem HOk.fresh (x : HOk P w H h) (e : h.objs.size ≤ a) : H a = none := by
  cases q : H a with
  | none => rfl
  | some u => exact absurd (Nat.lt_of_lt_of_le (x.lt q) e) (Nat.lt_irrefl _)
theorem HOk.kept (x : HOk P w H h) (k : ∀ b u, h.get? b = some u → h'.get? b = some u) : HOk P w H h' := fun a o e =>
  (x a o e).stay (fun b u _ q => k b u q) (fun _ q => q) fun _ _ q => q
theorem HOk.laid (x : HOk P w H h) (k : ∀ b u, h.get? b = some u → h'.get? b = some u) (hp : h.objs.size ≤ a) (new : ObjOk P w (upd H a o) h' a o) : HOk P w (upd H a o) h' := fun b u e => by
  have hn := x.fresh hp
  by_cases hb : b = a
  · subst hb; rw [upd_same] at e; cases e; exact new
  · rw [upd_ne hb] at e
    exact (x b u e).stay (fun c v _ q => k c v q) (fun c q => by rw [upd_ne (ne_of_none q hn)]; exact q) fun c xs q => by rw [upd_ne (ne_of_none q hn)]; exact q
end
def Rd (H : Hp) (a : Addr) (u : HO) : Prop := H a = some u ∨ ∃ o, H a = some (.frz o u)
theorem Rd.ok {P : Program} {w : World} {H : Hp} {h : Heap} {a : Addr} {u : HO} (r : Rd H a u) (x : HOk P w H h) : ObjOk P w H h a u := by
  rcases r with r | ⟨o, r⟩
  · exact x a u r
  · obtain ⟨_, q⟩ := x a _ r
    exact q
def Mut : Option HO → Prop
  | some (.lst _) => True
  | some (.dK _) => True
  | some (.dT _) => True
  | some (.set _ _) => True
  | some (.ins _ _ _) => True
  | some (.ext _) => True
  | _ => False
section
variable {P : Program} {w : World} {H : Hp} {h h' : Heap} {x e : Addr} {o' : HO}
theorem HOk.write (ok : HOk P w H h) (mu : Mut (H x)) (he : e = x ∨ H e = some (.own x)) (k : ∀ b u, b ≠ e → h.get? b = some u → h'.get? b = some u) (heo : ∃ u, h'.get? e = some u)
    (new : ObjOk P w (upd H x o') h' x o') : HOk P w (upd H x o') h' := fun b u q => by
  have nown : ∀ c y, H c = some (.own y) → c ≠ x := fun c y r z => by subst z; rw [r] at mu; exact mu
  have ntup : ∀ c xs, H c = some (.tup xs) → c ≠ x := fun c xs r z => by subst z; rw [r] at mu; exact mu
  by_cases hb : b = x
  · subst hb; rw [upd_same] at q; cases q; exact new
  · rw [upd_ne hb] at q
    by_cases hbe : b = e
    · have q' : H b = some (.own x) := by
        rcases he with z | z
        · exact absurd (hbe.trans z) hb
        · rw [hbe]; exact z
      rw [q] at q'; cases q'
      obtain ⟨v, hv⟩ := heo
      exact ⟨v, by rw [hbe]; exact hv⟩
    · refine (ok b u q).stay (fun c v hc r => k c v ?_ r) (fun c r => by rw [upd_ne (nown c b r)]; exact r) fun c xs r => by rw [upd_ne (ntup c xs r)]; exact r
      rcases hc with rfl | hc
      · exact hbe
      · rintro rfl
        rcases he with z | z
        · exact nown c b hc z
        · rw [hc] at z; cases z; exact hb rfl
end
structure Un (fs ex : List Addr) (H H' : Hp) (h h' : Heap) : Prop where
  keep : ∀ b o, h.get? b = some o → H b = none → b ∉ fs → b ∉ ex → h'.get? b = some o
  slot : ∀ b o, h.get? b = some o → H b = none → b ∈ fs → b ∉ ex → ∃ sl, h'.get? b = some { o with slots := sl }
  free : ∀ b o, h.get? b = some o → H b = none → b ∉ ex → H' b = none
  there : ∀ b o, h.get? b = some o → b ∉ ex → ∃ o', h'.get? b = some o'
  tups : ∀ b xs, H b = some (.tup xs) → H' b = some (.tup xs)
  frzs : ∀ b o u, H b = some (.frz o u) → H' b = some (.frz o u)
  tbls : ∀ b ps, H b = some (.tbl ps) → ∃ more, H' b = some (.tbl (ps ++ more))
section
variable {fs fs' ex ex' : List Addr} {H H1 H2 : Hp} {h h1 h2 h' : Heap} {a x e : Addr} {o : HO}
theorem Un.any (u : Un fs ex H H1 h h1) {b : Addr} {ob : Obj} (q : h.get? b = some ob) (n : H b = none) (hx : b ∉ ex) : ∃ sl, h1.get? b = some { ob with slots := sl } := by
  by_cases hb : b ∈ fs
  · exact u.slot b ob q n hb hx
  · exact ⟨ob.slots, u.keep b ob q n hb hx⟩
theorem Un.kept (k : ∀ b u, h.get? b = some u → h'.get? b = some u) : Un fs ex H H h h' :=
  ⟨fun b ob q _ _ _ => k b ob q, fun b ob q _ _ _ => ⟨ob.slots, k b ob q⟩, fun _ _ _ n _ => n, fun b ob q _ => ⟨ob, k b ob q⟩, fun _ _ q => q, fun _ _ _ q => q, fun _ ps q => ⟨#[], by rw [q]; simp⟩⟩
theorem Un.refl : Un fs ex H H h h := Un.kept fun _ _ q => q
theorem Un.laid (k : ∀ b u, h.get? b = some u → h'.get? b = some u) (hp : h.objs.size ≤ a) (hn : H a = none) : Un fs ex H (upd H a o) h h' where
  keep := fun b u q _ _ _ => k b u q
  slot := fun b u q _ _ _ => ⟨u.slots, k b u q⟩
  free := fun b u q n _ => by rw [upd_ne (Nat.ne_of_lt (Nat.lt_of_lt_of_le (Heap.lt_size q) hp))]; exact n
  there := fun b u q _ => ⟨u, k b u q⟩
  tups := fun b xs q => by rw [upd_ne (ne_of_none q hn)]; exact q
  frzs := fun b u xs q => by rw [upd_ne (ne_of_none q hn)]; exact q
  tbls := fun b ps q => ⟨#[], by rw [upd_ne (ne_of_none q hn), q]; simp⟩
theorem Un.write (mu : Mut (H x)) (he : e = x ∨ H e = some (.own x)) (k : ∀ b u, b ≠ e → h.get? b = some u → h'.get? b = some u) (heo : ∃ u, h'.get? e = some u) : Un fs ex H (upd H x o) h h' := by
  have hx : ∀ b, H b = none → b ≠ x := fun b n z => by subst z; rw [n] at mu; exact mu
  have hb : ∀ b, H b = none → b ≠ e := fun b n z => by
    subst z
    rcases he with r | r
    · exact hx b n r
    · rw [n] at r; cases r
  have hm : ∀ b u, H b = some u → ¬ Mut (some u) → b ≠ x := fun b u q nm z => by subst z; rw [q] at mu; exact nm mu
  refine ⟨fun b u q n _ _ => k b u (hb b n) q, fun b u q n _ _ => ⟨u.slots, k b u (hb b n) q⟩, fun b u q n _ => by rw [upd_ne (hx b n)]; exact n, fun b u q _ => ?_,
    fun b xs q => by rw [upd_ne (hm b _ q fun z => z)]; exact q, fun b u xs q => by rw [upd_ne (hm b _ q fun z => z)]; exact q, fun b ps q => ⟨#[], by rw [upd_ne (hm b _ q fun z => z), q]; simp⟩⟩
  by_cases hbe : b = e
  · subst hbe; exact heo
  · exact ⟨u, k b u hbe q⟩
end
def trk (h : Heap) (H : Hp) : List Addr := (List.range h.objs.size).filter fun a => (H a).isSome
def hidT (h : Heap) (H : Hp) : Heap := PySem.W.hideAll h (trk h H)
theorem hidT_size (h : Heap) (H : Hp) : (hidT h H).objs.size = h.objs.size := PySem.W.hideAll_size _ _
theorem hidT_get {h : Heap} {H : Hp} {b : Addr} {o : Obj} (e : h.get? b = some o) (n : H b = none) : (hidT h H).get? b = some o :=
  PySem.W.hideAll_get _ e fun hm => by
    have q : (H b).isSome = true := (List.mem_filter.mp hm).2
    rw [n] at q; simp at q
theorem of_hidT {h : Heap} {H : Hp} {b : Addr} {o : Obj} (e : (hidT h H).get? b = some o) : h.get? b = some o ∧ H b = none := by
  have e' : h.get? b = some o := PySem.W.of_hideAll (trk h H) e
  refine ⟨e', ?_⟩
  cases q : H b with
  | none => rfl
  | some x =>
    have hm : b ∈ trk h H := List.mem_filter.mpr ⟨List.mem_range.mpr (Heap.lt_size e'), by simp [q]⟩
    have z : (hidT h H).get? b = none := PySem.W.hideAll_none (trk h H) hm
    rw [z] at e; cases e
end L2
namespace L2
open PySem PySem.Spec PyProof.Rows
structure Mod (K : PySem.W.Frag) (mg : Str → Option Value) (base : Heap) : Prop where
  kin : K.In base
  glob : base.Ns mainGlobals mg
  blt : ∃ mb, base.Ns builtinsNs mb ∧ ∀ x : Str, x ≠ "__name__" → mb x = bootBuiltins x
  nolimit : base.NoLimit
/-- the context: a def's body (or a comprehension's block) running. base: fixed through the whole law; s₀, H₀: the entry; outer: the frames whose slots others may change (a def's callers); stack: all frames that run;
   ex: iterators that were made ahead of the entry and are walked here (a comprehension's); fn: the names whose cells were made at the entry (a def: all; a comprehension's block: its own); calm: not within an except suite; pn: pins that every state bears; xe: what is wanted of an exception that leaves the code -/
structure Cx where
  prog : Program
  w : World
  K : PySem.W.Frag
  mg : Str → Option Value
  base : Heap
  A : Around
  N : List Str
  s_0 : Shared
  H_0 : Hp
  env : Env
  outer : List Env
  stack : List Env
  ex : List Addr
  fn : Str → Bool
  calm : Bool
  pn : List (Addr × Obj)
  xe : Value → Shared → Prop
def frs (l : List Env) : List Addr := l.filterMap (·.frame)
abbrev Cx.fs (X : Cx) : List Addr := frs X.outer
def Vis (sc : Scope) (x : Str) : Prop := sc.names.lookup x = some .local ∨ sc.names.lookup x = some .cell ∨ sc.names.lookup x = some .free
def Loc (sc : Scope) (x : Str) : Prop := sc.names.lookup x = some .local ∨ sc.names.lookup x = some .cell
def Look (env : Env) (h : Heap) (m : Str → Option Value) (x : Str) (u : Value) : Prop :=
  (env.kindOf x = some .local ∧ m x = some u) ∨ ((env.kindOf x = some .cell ∨ env.kindOf x = some .free) ∧ ∃ c, env.cells.lookup x = some c ∧ h.IsCell c (some u))
structure Cx.Ok (X : Cx) : Prop where
  mod : Mod X.K X.mg X.base
  kind : X.env.scope.kind = .function
  glob : X.env.globals = mainGlobals
  blt : X.env.builtins = builtinsNs
  above : X.s_0.heap.objs.size ≤ X.env.locals
  inj : ∀ x y c, X.env.cells.lookup x = some c → X.env.cells.lookup y = some c → x = y
  has : ∀ x, (X.env.kindOf x = some .cell ∨ X.env.kindOf x = some .free) → ∃ c, X.env.cells.lookup x = some c
  cab : ∀ x c, X.fn x = true → X.env.cells.lookup x = some c → X.s_0.heap.objs.size ≤ c
  hd : X.calm = true → X.A.handled = none
  frames : X.A.frames = some X.stack
  stk : X.stack = X.outer ∨ (X.stack = X.env :: X.outer ∧ X.env.frame = some X.env.locals)
  exf : ∀ b ∈ X.ex, b ≠ X.env.locals ∧ ∀ x c, X.env.cells.lookup x = some c → c ≠ b
  bs : ∀ b o, X.base.get? b = some o → X.s_0.heap.get? b = some o ∧ X.H_0 b = none
  bsz : X.base.objs.size ≤ X.s_0.heap.objs.size
  noex : ∀ b o, X.base.get? b = some o → b ∉ X.ex
  exfs : ∀ b ∈ X.ex, b ∉ X.fs
  funs : X.s_0.heap.FunFrames X.base X.outer
  frf : ∀ b ∈ X.fs, X.H_0 b = none
structure Inv (X : Cx) (pins : List (Addr × Obj)) (σ : List (Option V)) (H : Hp) (s : Shared) : Prop where
  ok : X.Ok
  os : s.os = X.s_0.os
  bare : AllBare s.gens
  base : Un X.fs X.ex X.H_0 H X.s_0.heap s.heap
  loc : ∃ m, s.heap.Ns X.env.locals m ∧ ∀ (i : Nat) (x : Str) (v : V), X.N[i]? = some x → σ[i]? = some (some v) → Vis X.env.scope x → ∃ u, RelV v u ∧ Look X.env s.heap m x u
  cell : ∀ x c, X.env.cells.lookup x = some c → ∃ v, s.heap.IsCell c v
  free : H X.env.locals = none
  freeC : ∀ x c, X.env.cells.lookup x = some c → H c = none
  pin : ∀ p ∈ X.pn ++ pins, s.heap.get? p.1 = some p.2 ∧ H p.1 = none ∧ p.1 ≠ X.env.locals ∧ p.1 ∉ X.fs ∧ ∀ v, p.2.data ≠ .cell v
  hok : HOk X.prog X.w H s.heap
  len : σ.length = X.N.length
section
variable {X : Cx} {pins : List (Addr × Obj)} {σ : List (Option V)} {H H' : Hp} {s : Shared} {h' : Heap}
theorem Cx.Ok.nofr (ok : X.Ok) {b : Addr} {o : Obj} (e : X.base.get? b = some o) : b ∉ X.fs := fun hb => by
  have := (ok.funs.mem hb).1
  rw [e] at this; cases this
theorem Inv.bs (I : Inv X pins σ H s) : ∀ b o, X.base.get? b = some o → s.heap.get? b = some o ∧ H b = none := fun b o e =>
  ⟨I.base.keep b o (I.ok.bs b o e).1 (I.ok.bs b o e).2 (I.ok.nofr e) (I.ok.noex b o e), I.base.free b o (I.ok.bs b o e).1 (I.ok.bs b o e).2 (I.ok.noex b o e)⟩
theorem Inv.bk (I : Inv X pins σ H s) : ∀ b o, X.base.get? b = some o → s.heap.get? b = some o := fun b o e => (I.bs b o e).1
theorem Inv.mod (I : Inv X pins σ H s) : Mod X.K X.mg X.base := I.ok.mod
theorem Inv.kIn (I : Inv X pins σ H s) : X.K.In s.heap := I.ok.mod.kin.keeps I.bk
theorem Inv.lt (I : Inv X pins σ H s) : X.env.locals < s.heap.objs.size := let ⟨_, hn, _⟩ := I.loc; hn.lt
theorem Inv.sz (I : Inv X pins σ H s) : X.s_0.heap.objs.size ≤ s.heap.objs.size := Nat.le_trans I.ok.above (Nat.le_of_lt I.lt)
theorem Inv.nofs (I : Inv X pins σ H s) {a : Addr} (h : s.heap.objs.size ≤ a) : a ∉ X.fs := fun hb => by
  obtain ⟨_, o, ho, _⟩ := I.ok.funs.mem hb
  exact absurd (Nat.lt_of_lt_of_le (Heap.lt_size ho) (Nat.le_trans I.sz h)) (Nat.lt_irrefl _)
theorem Inv.cne (I : Inv X pins σ H s) : ∀ x c, X.env.cells.lookup x = some c → c ≠ X.env.locals := fun x c e z => by
  obtain ⟨v, o, ho, hd⟩ := I.cell x c e
  obtain ⟨m, ⟨o', es, ep, ho', hd', _⟩, _⟩ := I.loc
  rw [z, ho'] at ho; cases ho; rw [hd'] at hd; cases hd
theorem Inv.funs (I : Inv X pins σ H s) : s.heap.FunFrames X.base X.outer := by
  have all : ∀ (l : List Env), (∀ b ∈ frs l, b ∈ X.fs) → X.s_0.heap.FunFrames X.base l → s.heap.FunFrames X.base l := by
    intro l
    induction l with
    | nil => intro _ _; trivial
    | cons env r ih =>
      intro hs hl
      obtain ⟨hk, ⟨L, o, hf, hn, ho, hd⟩, hr⟩ := hl
      have hL : L ∈ X.fs := hs L (by unfold frs; rw [List.filterMap_cons, hf]; exact List.mem_cons_self)
      obtain ⟨sl, e⟩ := I.base.slot L o ho (I.ok.frf L hL) hL fun z => I.ok.exfs L z hL
      exact ⟨hk, ⟨L, _, hf, hn, e, hd⟩, ih (fun b hb => hs b (by unfold frs; rw [List.filterMap_cons, hf]; exact List.mem_cons_of_mem _ hb)) hr⟩
  exact all X.outer (fun _ hb => hb) I.ok.funs
theorem Inv.stack (I : Inv X pins σ H s) : s.heap.FunFrames X.base X.stack := by
  rcases I.ok.stk with e | ⟨e, hf⟩
  · rw [e]; exact I.funs
  · rw [e]
    obtain ⟨m, hn, _⟩ := I.loc
    refine .cons (by rw [I.ok.kind]; decide) hf hn ?_ I.funs
    exact Heap.get?_none_of_le (Nat.le_trans I.ok.bsz I.ok.above)
theorem Inv.stkSub (I : Inv X pins σ H s) : ∀ b ∈ frs X.stack, b ∈ X.env.locals :: X.fs := fun b hb => by
  rcases I.ok.stk with e | ⟨e, hf⟩
  · rw [e] at hb; exact List.mem_cons_of_mem _ hb
  · rw [e] at hb
    unfold frs at hb
    rw [List.filterMap_cons, hf] at hb
    exact hb
theorem Inv.stkFree (I : Inv X pins σ H s) : ∀ b ∈ frs X.stack, H b = none := fun b hb => by
  rcases List.mem_cons.mp (I.stkSub b hb) with e | hb
  · rw [e]; exact I.free
  · obtain ⟨_, o, ho, _⟩ := I.ok.funs.mem hb
    exact I.base.free b o ho (I.ok.frf b hb) fun z => I.ok.exfs b z hb
theorem Inv.step {g' : Array GenState} {t' : Nat} {d' : Drawn} {ch : List Addr} (I : Inv X pins σ H s)
    (hch : ∀ b ∈ ch, (b ∈ X.ex ∨ X.s_0.heap.objs.size ≤ b) ∧ b ≠ X.env.locals ∧ (∀ x c, X.env.cells.lookup x = some c → c ≠ b) ∧ ∀ p ∈ X.pn ++ pins, p.1 ≠ b)
    (keep : ∀ b o, b ≠ X.env.locals → b ∉ X.fs → b ∉ ch → s.heap.get? b = some o → H b = none → h'.get? b = some o)
    (slot : ∀ b o, b ≠ X.env.locals → b ∈ X.fs → b ∉ ch → s.heap.get? b = some o → H b = none → ∃ sl, h'.get? b = some { o with slots := sl }) (free : ∀ b o, b ∉ ch → s.heap.get? b = some o → H b = none → H' b = none)
    (there : ∀ b o, b ∉ ch → s.heap.get? b = some o → ∃ o', h'.get? b = some o')
    (tups : ∀ b xs, H b = some (.tup xs) → H' b = some (.tup xs)) (frzs : ∀ b o u, H b = some (.frz o u) → H' b = some (.frz o u)) (tbls : ∀ b ps, H b = some (.tbl ps) → ∃ more, H' b = some (.tbl (ps ++ more)))
    (ns : ∀ m, s.heap.Ns X.env.locals m → h'.Ns X.env.locals m) (hok : HOk X.prog X.w H' h') (hg : AllBare g') :
    Inv X pins σ H' { s with heap := h', gens := g', drawn := d', toks := t' } := by
  have neL : ∀ b o, X.s_0.heap.get? b = some o → b ≠ X.env.locals := fun b o e => Nat.ne_of_lt (Nat.lt_of_lt_of_le (Heap.lt_size e) I.ok.above)
  have neC : ∀ b o, X.s_0.heap.get? b = some o → b ∉ X.ex → b ∉ ch := fun b o e hx hb => by
    rcases (hch b hb).1 with z | z
    · exact hx z
    · exact absurd (Nat.lt_of_lt_of_le (Heap.lt_size e) z) (Nat.lt_irrefl _)
  have cellK : ∀ x c, X.env.cells.lookup x = some c → ∀ v, s.heap.IsCell c v → h'.IsCell c v := fun x c e v ⟨o, ho, hd⟩ => by
    have nch : c ∉ ch := fun z => (hch c z).2.2.1 x c e rfl
    by_cases hc : c ∈ X.fs
    · obtain ⟨sl, q⟩ := slot c o (I.cne x c e) hc nch ho (I.freeC x c e)
      exact ⟨_, q, hd⟩
    · exact ⟨o, keep c o (I.cne x c e) hc nch ho (I.freeC x c e), hd⟩
  refine ⟨I.ok, I.os, hg, ⟨fun b o e n hb hx => ?_, fun b o e n hb hx => ?_, fun b o e n hx => ?_, fun b o e hx => ?_, fun b xs e => tups b xs (I.base.tups b xs e), fun b o xs e => frzs b o xs (I.base.frzs b o xs e), fun b ps e => ?_⟩, ?_, fun x c e => ?_, ?_, fun x c e => ?_, fun p hp => ?_, hok, I.len⟩
  · exact keep b o (neL b o e) hb (neC b o e hx) (I.base.keep b o e n hb hx) (I.base.free b o e n hx)
  · obtain ⟨sl, e1⟩ := I.base.slot b o e n hb hx
    obtain ⟨sl', e2⟩ := slot b _ (neL b o e) hb (neC b o e hx) e1 (I.base.free b o e n hx)
    exact ⟨sl', e2⟩
  · obtain ⟨o', e1⟩ := I.base.there b o e hx
    exact free b o' (neC b o e hx) e1 (I.base.free b o e n hx)
  · obtain ⟨o', e1⟩ := I.base.there b o e hx
    exact there b o' (neC b o e hx) e1
  · obtain ⟨m1, e1⟩ := I.base.tbls b ps e
    obtain ⟨m2, e2⟩ := tbls b _ e1
    exact ⟨m1 ++ m2, by rw [e2, Array.append_assoc]⟩
  · obtain ⟨m, hn, hl⟩ := I.loc
    refine ⟨m, ns m hn, fun i x v e1 e2 e3 => ?_⟩
    obtain ⟨u, r, l⟩ := hl i x v e1 e2 e3
    refine ⟨u, r, ?_⟩
    rcases l with l | ⟨k, c, e, z⟩
    · exact .inl l
    · exact .inr ⟨k, c, e, cellK x c e _ z⟩
  · obtain ⟨v, z⟩ := I.cell x c e
    exact ⟨v, cellK x c e v z⟩
  · obtain ⟨m, ⟨o, _, _, ho, _⟩, _⟩ := I.loc
    exact free _ o (fun z => (hch _ z).2.1 rfl) ho I.free
  · obtain ⟨v, o, ho, hd⟩ := I.cell x c e
    exact free c o (fun z => (hch c z).2.2.1 x c e rfl) ho (I.freeC x c e)
  · obtain ⟨e, n, ne, nf, d⟩ := I.pin p hp
    have nch : p.1 ∉ ch := fun z => (hch p.1 z).2.2.2 p hp rfl
    exact ⟨keep p.1 p.2 ne nf nch e n, free p.1 p.2 nch e n, ne, nf, d⟩
theorem Inv.un {t' : Nat} (I : Inv X pins σ H s) (u : Un X.fs [] H H' s.heap h') (hok : HOk X.prog X.w H' h') : Inv X pins σ H' { s with heap := h', toks := t' } := by
  obtain ⟨m, ⟨o, es, ep, ho, r⟩, _⟩ := id I.loc
  obtain ⟨sl, hL⟩ := u.any ho I.free (by simp)
  exact I.step (g' := s.gens) (d' := s.drawn) (ch := []) (fun _ z => nomatch z) (fun b o _ hb _ e n => u.keep b o e n hb (by simp)) (fun b o _ hb _ e n => u.slot b o e n hb (by simp)) (fun b o _ e n => u.free b o e n (by simp)) (fun b o _ e => u.there b o e (by simp)) u.tups u.frzs u.tbls (fun m' hm => by
    obtain ⟨o', es', ep', ho', r'⟩ := hm
    rw [ho] at ho'; cases ho'
    exact ⟨_, es', ep', hL, r'⟩) hok I.bare
theorem Inv.call {g' : Array GenState} {t' : Nat} {d' : Drawn} {ch : List Addr} (I : Inv X pins σ H s) (u : Un (frs X.stack) ch H H' s.heap h') (hok : HOk X.prog X.w H' h') (hg : AllBare g')
    (hch : ∀ b ∈ ch, (b ∈ X.ex ∨ X.s_0.heap.objs.size ≤ b) ∧ b ≠ X.env.locals ∧ (∀ x c, X.env.cells.lookup x = some c → c ≠ b) ∧ ∀ p ∈ X.pn ++ pins, p.1 ≠ b) :
    Inv X pins σ H' { s with heap := h', gens := g', drawn := d', toks := t' } := by
  obtain ⟨m, ⟨o, es, ep, ho, r⟩, _⟩ := id I.loc
  obtain ⟨sl, hL⟩ := u.any ho I.free fun z => (hch _ z).2.1 rfl
  exact I.step (ch := ch) hch (fun b o hL hb hc e n => u.keep b o e n (fun z => (List.mem_cons.mp (I.stkSub b z)).elim hL hb) hc) (fun b o _ _ hc e n => u.any e n hc) (fun b o hc e n => u.free b o e n hc) (fun b o hc e => u.there b o e hc) u.tups u.frzs u.tbls (fun m' hm => by
    obtain ⟨o', es', ep', ho', r'⟩ := hm
    rw [ho] at ho'; cases ho'
    exact ⟨_, es', ep', hL, r'⟩) hok hg
theorem Inv.turned {t' : Nat} {it : Addr} (I : Inv X pins σ H s) (k : ∀ b o, b ≠ it → s.heap.get? b = some o → h'.get? b = some o) (hn : H it = none) (hL : it ≠ X.env.locals)
    (h1 : it ∈ X.ex ∨ X.s_0.heap.objs.size ≤ it) (h2 : ∀ x c, X.env.cells.lookup x = some c → c ≠ it) (h3 : ∀ p ∈ X.pn ++ pins, p.1 ≠ it) : Inv X pins σ H { s with heap := h', toks := t' } := by
  have nit : ∀ b u, H b = some u → b ≠ it := fun b u e z => by rw [z, hn] at e; cases e
  refine I.step (g' := s.gens) (d' := s.drawn) (ch := [it]) (fun b hb => ?_) (fun b o _ _ hc e _ => k b o (fun z => hc (by simp [z])) e) (fun b o _ _ hc e _ => ⟨o.slots, k b o (fun z => hc (by simp [z])) e⟩) (fun _ _ _ _ n => n)
    (fun b o hc e => ⟨o, k b o (fun z => hc (by simp [z])) e⟩) (fun _ _ e => e) (fun _ _ _ e => e) (fun b ps e => ⟨#[], by rw [e]; simp⟩) (fun m hm => ?_) (fun b u e => ?_) I.bare
  · have e : b = it := by simpa using hb
    subst e
    exact ⟨h1, hL, h2, h3⟩
  · obtain ⟨o, es, ep, ho, r⟩ := hm
    exact ⟨o, es, ep, k _ o (Ne.symm hL) ho, r⟩
  · refine (I.hok b u e).stay (fun c v hc q => k c v ?_ q) (fun _ q => q) fun _ _ q => q
    rcases hc with z | z
    · rw [z]; exact nit b u e
    · exact nit c _ z
theorem Inv.tok (I : Inv X pins σ H s) (t : Nat) : Inv X pins σ H { s with toks := t } := I.un (h' := s.heap) (t' := t) Un.refl I.hok
theorem Inv.kept {t' : Nat} (I : Inv X pins σ H s) (k : ∀ b u, s.heap.get? b = some u → h'.get? b = some u) : Inv X pins σ H { s with heap := h', toks := t' } := I.un (Un.kept k) (I.hok.kept k)
theorem Inv.laid {a : Addr} {o : HO} {t' : Nat} (I : Inv X pins σ H s) (k : ∀ b u, s.heap.get? b = some u → h'.get? b = some u) (hp : s.heap.objs.size ≤ a) (new : ObjOk X.prog X.w (upd H a o) h' a o) :
    Inv X pins σ (upd H a o) { s with heap := h', toks := t' } := I.un (Un.laid k hp (I.hok.fresh hp)) (I.hok.laid k hp new)
theorem Inv.write {x e : Addr} {o : HO} {t' : Nat} (I : Inv X pins σ H s) (mu : Mut (H x)) (he : e = x ∨ H e = some (.own x)) (k : ∀ b u, b ≠ e → s.heap.get? b = some u → h'.get? b = some u) (heo : ∃ u, h'.get? e = some u)
    (new : ObjOk X.prog X.w (upd H x o) h' x o) : Inv X pins σ (upd H x o) { s with heap := h', toks := t' } := I.un (Un.write mu he k heo) (I.hok.write mu he k heo new)
theorem Inv.weak {σ' : List (Option V)} (I : Inv X pins σ H s) (hl : σ'.length = σ.length) (w : ∀ (i : Nat) v, σ'[i]? = some (some v) → σ[i]? = some (some v)) : Inv X pins σ' H s :=
  ⟨I.ok, I.os, I.bare, I.base, let ⟨m, hn, hl'⟩ := I.loc; ⟨m, hn, fun i x v e1 e2 e3 => hl' i x v e1 (w i v e2) e3⟩, I.cell, I.free, I.freeC, I.pin, I.hok, hl.trans I.len⟩
theorem Inv.pins_of {pins' : List (Addr × Obj)} (I : Inv X pins σ H s) (h : ∀ p ∈ pins', s.heap.get? p.1 = some p.2 ∧ H p.1 = none ∧ p.1 ≠ X.env.locals ∧ p.1 ∉ X.fs ∧ ∀ v, p.2.data ≠ .cell v) : Inv X pins' σ H s :=
  ⟨I.ok, I.os, I.bare, I.base, I.loc, I.cell, I.free, I.freeC, fun p hp => (List.mem_append.mp hp).elim (fun z => I.pin p (List.mem_append_left _ z)) (h p), I.hok, I.len⟩
theorem nodup_ix {N : List Str} (hN : N.Nodup) {i j : Nat} {x : Str} (a : N[i]? = some x) (b : N[j]? = some x) : i = j := by
  obtain ⟨h1, e1⟩ := List.getElem?_eq_some_iff.mp a
  obtain ⟨h2, e2⟩ := List.getElem?_eq_some_iff.mp b
  exact (List.getElem_inj hN).mp (e1.trans e2.symm)
theorem store_ok2 {M : Model} {A : Around} {E : Value → Shared → Prop} {i : Nat} {x : Str} {v : V} {u : Value} {Q : Unit → Shared → Prop} (I : Inv X pins σ H s) (hN : X.N.Nodup) (hi : X.N[i]? = some x) (hx : Loc X.env.scope x) (r : RelV v u)
    (h : ∀ s', Inv X pins (σ.set i (some v)) H s' → (∃ a, Heap.SameBut a s.heap s'.heap ∧ (a = X.env.locals ∨ X.env.cells.lookup x = some a)) → Q () s') (hf : X.fn x = true ∨ X.env.scope.names.lookup x = some .local := by first | exact .inl rfl | exact .inr rfl | assumption) : wpAny M A (storeName X.env x u) Q E s := by
  obtain ⟨m, hn, hl⟩ := id I.loc
  have hcls : (X.env.scope.kind == .class || (X.env.scope.kind == .module && X.env.locals != X.env.globals)) = false := by rw [I.ok.kind]; rfl
  have hiσ : i < σ.length := by rw [I.len]; exact (List.getElem?_eq_some_iff.mp hi).1
  have cne := I.cne
  have tracked : ∀ {a : Addr} {h' : Heap}, (∃ o, s.heap.get? a = some o ∧ H a = none) → Heap.SameBut a s.heap h' → HOk X.prog X.w H h' := fun {a h'} ha hs b ob e => by
    obtain ⟨_, _, hfree⟩ := ha
    refine (I.hok b ob e).stay (fun c w' hc q => (hs.2 c ?_).trans q) (fun _ q => q) fun _ _ q => q
    rintro rfl
    rcases hc with rfl | hc
    · rw [hfree] at e; cases e
    · rw [hfree] at hc; cases hc
  rcases hx with hk | hk
  · refine wpAny_storeName_local hk hn (fun h' hn' hs => ?_) hcls
    obtain ⟨oL, _, _, hoL, _⟩ := id hn
    refine h _ ⟨I.ok, I.os, I.bare, ⟨fun b o e n hb hx => ?_, fun b o e n hb hx => ?_, I.base.free, fun b o e hx => ?_, I.base.tups, I.base.frzs, I.base.tbls⟩, ⟨_, hn', fun j y v' e1 e2 e3 => ?_⟩, fun y c e => ?_, I.free, I.freeC, fun p hp => ?_, tracked ⟨oL, hoL, I.free⟩ hs, by simpa using I.len⟩ ⟨_, hs, .inl rfl⟩
    · exact (hs.2 b (Nat.ne_of_lt (Nat.lt_of_lt_of_le (Heap.lt_size e) I.ok.above))).trans (I.base.keep b o e n hb hx)
    · obtain ⟨sl, e1⟩ := I.base.slot b o e n hb hx
      exact ⟨sl, (hs.2 b (Nat.ne_of_lt (Nat.lt_of_lt_of_le (Heap.lt_size e) I.ok.above))).trans e1⟩
    · obtain ⟨o', e1⟩ := I.base.there b o e hx
      exact ⟨o', (hs.2 b (Nat.ne_of_lt (Nat.lt_of_lt_of_le (Heap.lt_size e) I.ok.above))).trans e1⟩
    · by_cases hj : j = i
      · subst hj
        rw [hi] at e1; cases e1
        rw [List.getElem?_set_self hiσ] at e2
        cases e2
        exact ⟨u, r, .inl ⟨hk, by simp⟩⟩
      · rw [List.getElem?_set_ne (Ne.symm hj)] at e2
        obtain ⟨u', r', q⟩ := hl j y v' e1 e2 e3
        refine ⟨u', r', ?_⟩
        rcases q with ⟨k, e⟩ | ⟨k, c, e, z⟩
        · refine .inl ⟨k, ?_⟩
          have : y ≠ x := fun e => hj (nodup_ix hN e1 (e ▸ hi))
          simp [this, e]
        · exact .inr ⟨k, c, e, z.sameBut hs (cne y c e)⟩
    · obtain ⟨w', z⟩ := I.cell y c e
      exact ⟨w', z.sameBut hs (cne y c e)⟩
    · obtain ⟨e, n, ne, nf, d⟩ := I.pin p hp
      exact ⟨(hs.2 p.1 ne).trans e, n, ne, nf, d⟩
  · have hfn : X.fn x = true := by
      rcases hf with z | z
      · exact z
      · rw [z] at hk; cases hk
    obtain ⟨c, hc⟩ := I.ok.has x (.inl hk)
    obtain ⟨w', z⟩ := I.cell x c hc
    refine wpAny_storeName_cell I.ok.kind hk hc z (fun h' hc' hs => ?_)
    obtain ⟨oc, hoc, hocd⟩ := id z
    refine h { s with heap := h' } ⟨I.ok, I.os, I.bare, ⟨fun b o e n hb hx => ?_, fun b o e n hb hx => ?_, I.base.free, fun b o e hx => ?_, I.base.tups, I.base.frzs, I.base.tbls⟩, ⟨m, hn.sameBut hs (Ne.symm (cne x c hc)), fun j y v' e1 e2 e3 => ?_⟩, fun y c' e => ?_, I.free, I.freeC, fun p hp => ?_, tracked ⟨oc, hoc, I.freeC x c hc⟩ hs, by simpa using I.len⟩ ⟨c, hs, .inr hc⟩
    · exact (hs.2 b (Nat.ne_of_lt (Nat.lt_of_lt_of_le (Heap.lt_size e) (I.ok.cab x c hfn hc)))).trans (I.base.keep b o e n hb hx)
    · obtain ⟨sl, e1⟩ := I.base.slot b o e n hb hx
      exact ⟨sl, (hs.2 b (Nat.ne_of_lt (Nat.lt_of_lt_of_le (Heap.lt_size e) (I.ok.cab x c hfn hc)))).trans e1⟩
    · obtain ⟨o', e1⟩ := I.base.there b o e hx
      exact ⟨o', (hs.2 b (Nat.ne_of_lt (Nat.lt_of_lt_of_le (Heap.lt_size e) (I.ok.cab x c hfn hc)))).trans e1⟩
    · by_cases hj : j = i
      · subst hj
        rw [hi] at e1; cases e1
        rw [List.getElem?_set_self hiσ] at e2
        cases e2
        exact ⟨u, r, .inr ⟨.inl hk, c, hc, hc'⟩⟩
      · rw [List.getElem?_set_ne (Ne.symm hj)] at e2
        obtain ⟨u', r', q⟩ := hl j y v' e1 e2 e3
        refine ⟨u', r', ?_⟩
        rcases q with q | ⟨k, c', e, z'⟩
        · exact .inl q
        · refine .inr ⟨k, c', e, z'.sameBut hs ?_⟩
          rintro rfl
          exact hj (nodup_ix hN e1 (I.ok.inj _ _ _ e hc ▸ hi))
    · by_cases hcc : c' = c
      · subst hcc; exact ⟨_, hc'⟩
      · obtain ⟨w2, z2⟩ := I.cell y c' e
        exact ⟨w2, z2.sameBut hs hcc⟩
    · obtain ⟨e, n, ne, nf, d⟩ := I.pin p hp
      refine ⟨(hs.2 p.1 ?_).trans e, n, ne, nf, d⟩
      intro q
      rw [q, hoc] at e
      have q' : oc = p.2 := Option.some.inj e
      exact d w' (by rw [← q']; exact hocd)
theorem store_ok {M : Model} {A : Around} {E : Value → Shared → Prop} {i : Nat} {x : Str} {v : V} {u : Value} {Q : Unit → Shared → Prop} (I : Inv X pins σ H s) (hN : X.N.Nodup) (hi : X.N[i]? = some x) (hx : Loc X.env.scope x) (r : RelV v u)
    (h : ∀ s', Inv X pins (σ.set i (some v)) H s' → Q () s') (hf : X.fn x = true ∨ X.env.scope.names.lookup x = some .local := by first | exact .inl rfl | exact .inr rfl | assumption) : wpAny M A (storeName X.env x u) Q E s :=
  store_ok2 I hN hi hx r (fun s' I' _ => h s' I') hf
theorem Inv.call' {s' : Shared} {ch : List Addr} (I : Inv X pins σ H s) (ho : s'.os = s.os) (u : Un (frs X.stack) ch H H' s.heap s'.heap) (hok : HOk X.prog X.w H' s'.heap) (hg : AllBare s'.gens)
    (hch : ∀ b ∈ ch, (b ∈ X.ex ∨ X.s_0.heap.objs.size ≤ b) ∧ b ≠ X.env.locals ∧ (∀ x c, X.env.cells.lookup x = some c → c ≠ b) ∧ ∀ p ∈ X.pn ++ pins, p.1 ≠ b) : Inv X pins σ H' s' := by
  obtain ⟨h', g', d', t', o'⟩ := s'
  have e : o' = s.os := ho
  subst e
  exact I.call (g' := g') (t' := t') (d' := d') u hok hg hch
end
abbrev XK := Value → Option Addr → Hp → Prop
abbrev St := List (Option V)
abbrev VK := V → Hp → Prop
abbrev TE := St → Hp → VK → Prop
abbrev TT := St → Hp → (Bool → Hp → Prop) → Prop
abbrev TA := St → Hp → (List V → Hp → Prop) → Prop
structure Ends where
  nx : St → Hp → Prop
  rt : VK
  bk : St → Hp → Prop := fun _ _ => False
  ct : St → Hp → Prop := fun _ _ => False
abbrev TS := Ends → St → Hp → Prop
def EP (X : Cx) (pins : List (Addr × Obj)) (σ : St) (Q : VK) (u : Value) (s' : Shared) : Prop := ∃ v H', Inv X pins σ H' s' ∧ RelV v u ∧ Q v H'
def TP (X : Cx) (pins : List (Addr × Obj)) (σ : St) (Q : Bool → Hp → Prop) (b : Bool) (s' : Shared) : Prop := ∃ H', Inv X pins σ H' s' ∧ Q b H'
def AP (X : Cx) (pins : List (Addr × Obj)) (σ : St) (Q : List V → Hp → Prop) (us : List Value) (s' : Shared) : Prop := ∃ vs H', Inv X pins σ H' s' ∧ Vals vs us ∧ Q vs H'
def SP (X : Cx) (pins : List (Addr × Obj)) (D : Ends) (f : Flow) (s' : Shared) : Prop :=
  match f with
  | .next => ∃ σ' H', Inv X pins σ' H' s' ∧ D.nx σ' H'
  | .brk => ∃ σ' H', Inv X pins σ' H' s' ∧ D.bk σ' H'
  | .cont => ∃ σ' H', Inv X pins σ' H' s' ∧ D.ct σ' H'
  | .ret u => ∃ v σ' H', Inv X pins σ' H' s' ∧ RelV v u ∧ D.rt v H'
def PE (X : Cx) (e : Expr) (t : TE) : Prop :=
  ∀ (pins : List (Addr × Obj)) (s : Shared) (σ : St) (H : Hp) (Q : VK), Inv X pins σ H s → t σ H Q → wpAny (model X.prog X.w) X.A (eval e X.env) (EP X pins σ Q) X.xe s
def PT (X : Cx) (e : Expr) (t : TT) : Prop :=
  ∀ (pins : List (Addr × Obj)) (s : Shared) (σ : St) (H : Hp) (Q : Bool → Hp → Prop), Inv X pins σ H s → t σ H Q → wpAny (model X.prog X.w) X.A (isTrue e X.env (eval e X.env)) (TP X pins σ Q) X.xe s
def PW (X : Cx) (e : Expr) (t : TT) : Prop :=
  ∀ (whole : Sem Value) (pins : List (Addr × Obj)) (s : Shared) (σ : St) (H : Hp) (Q : Bool → Hp → Prop), Inv X pins σ H s → t σ H Q → wpAny (model X.prog X.w) X.A (isTrue e X.env whole) (TP X pins σ Q) X.xe s
theorem PW.pt {X : Cx} {e : Expr} {t : TT} (h : PW X e t) : PT X e t := h _
def PA (X : Cx) (es : List Expr) (t : TA) : Prop :=
  ∀ (pos : Pos) (pins : List (Addr × Obj)) (s : Shared) (σ : St) (H : Hp) (Q : List V → Hp → Prop), Inv X pins σ H s → t σ H Q → wpAny (model X.prog X.w) X.A (spliced (backTo pos (starEach es X.env))) (AP X pins σ Q) X.xe s
def PS (X : Cx) (st : Stmt) (t : TS) : Prop :=
  ∀ (pins : List (Addr × Obj)) (s : Shared) (σ : St) (H : Hp) (D : Ends), Inv X pins σ H s → t D σ H → wpAny (model X.prog X.w) X.A (exec st X.env) (SP X pins D) X.xe s
def PSs (X : Cx) (st : List Stmt) (t : TS) : Prop :=
  ∀ (pins : List (Addr × Obj)) (s : Shared) (σ : St) (H : Hp) (D : Ends), Inv X pins σ H s → t D σ H → wpAny (model X.prog X.w) X.A (execs st X.env) (SP X pins D) X.xe s
theorem thn {α : Type} {t : Sem α} {Q Q' : α → Shared → Prop} {M : Model} {A : Around} {E : Value → Shared → Prop} {s : Shared} (h : wpAny M A t Q E s) (hQ : ∀ a s, Q a s → Q' a s) : wpAny M A t Q' E s := wpAny_mono h hQ fun _ _ x => x
end L2
namespace L2
open PySem PySem.Spec PyProof.Rows
section
variable {X : Cx}
def tVar (i : Nat) : TE := fun σ H Q => ∃ v, σ[i]? = some (some v) ∧ Q v H
def tC (v : V) : TE := fun _ H Q => Q v H
theorem pe_var {i : Nat} {x : Str} {pos : Pos} (hN : X.N[i]? = some x) (hv : Vis X.env.scope x) (hd : (x == ("__debug__" : Str)) = false := by decide) (hcd : (x == ("__classdict__" : Str)) = false := by decide) : PE X (.Name x pos) (tVar i) := by
  intro pins s σ H Q I h
  obtain ⟨v, e, h⟩ := h
  obtain ⟨m, hn, hl⟩ := I.loc
  obtain ⟨u, r, l⟩ := hl i x v hN e hv
  have fin : EP X pins σ Q u s := ⟨v, H, I, r, h⟩
  rcases l with ⟨hk, hm⟩ | ⟨hk, c, hc, hcell⟩
  · exact wpAny_Name (wpAny_loadName_local I.ok.kind hk hn hm fin) hd
  · rcases hk with hk | hk
    · exact wpAny_Name (wpAny_loadName_cell I.ok.kind hk hc hcell fin) hd
    · exact wpAny_Name (wpAny_loadName_free I.ok.kind hk hc hcell fin hcd) hd
theorem pe_int {i j pos} : PE X (.Constant (.int i) j pos) (tC (.int i)) := fun _ _ _ H _ I h => wpAny_Constant_int ⟨.int i, H, I.tok _, ⟨_, rfl⟩, h⟩
theorem pe_bl {b j pos} : PE X (.Constant (.bool b) j pos) (tC (.bl b)) := fun _ _ _ H _ I h => Constant_bool ⟨.bl b, H, I, rfl, h⟩
def Gl (X : Cx) (x : Str) : Prop := X.env.kindOf x = some .globalImplicit
theorem ld_glob {E : Value → Shared → Prop} {pins : List (Addr × Obj)} {s : Shared} {σ : St} {H : Hp} {x : Str} {u : Value} {pos : Pos} {Q : Value → Shared → Prop} (I : Inv X pins σ H s) (hg : Gl X x) (hm : X.mg x = some u) (h : Q u s)
    (hd : (x == ("__debug__" : Str)) = false := by decide) : wpAny (model X.prog X.w) X.A (eval (.Name x pos) X.env) Q E s :=
  Calls.Name_function_global I.ok.kind hg (Calls.loadGlobal_global (by rw [I.ok.glob]; exact I.mod.glob.keeps I.bk) hm h) hd
theorem ld_blt {E : Value → Shared → Prop} {pins : List (Addr × Obj)} {s : Shared} {σ : St} {H : Hp} {x : Str} {u : Value} {pos : Pos} {Q : Value → Shared → Prop} (I : Inv X pins σ H s) (hg : Gl X x) (hm : X.mg x = none) (hv : bootBuiltins x = some u) (h : Q u s)
    (hn : x ≠ "__name__" := by decide) (hd : (x == ("__debug__" : Str)) = false := by decide) : wpAny (model X.prog X.w) X.A (eval (.Name x pos) X.env) Q E s := by
  obtain ⟨mb, h1, h2⟩ := I.mod.blt
  exact Calls.Name_function_global I.ok.kind hg (Calls.loadGlobal_builtin (by rw [I.ok.glob]; exact I.mod.glob.keeps I.bk) hm (by rw [I.ok.blt]; exact h1.keeps I.bk) ((h2 x hn).trans hv) h) hd
theorem pe_glob {x : Str} {v : V} {u : Value} {pos : Pos} (hg : Gl X x) (hm : X.mg x = some u) (r : RelV v u) (hd : (x == ("__debug__" : Str)) = false := by decide) : PE X (.Name x pos) (tC v) :=
  fun _ _ _ H _ I h => ld_glob I hg hm ⟨v, H, I, r, h⟩ hd
variable {a b : Expr} {ta tb : TE} {pos : Pos}
def PC (X : Cx) (op : CmpOp) (a b : Expr) (t : TE) : Prop :=
  ∀ (pins : List (Addr × Obj)) (s : Shared) (σ : St) (H : Hp) (Q : VK), Inv X pins σ H s → t σ H Q →
    wpAny (model X.prog X.w) X.A (eval a X.env) (fun v s₁ => wpAny (model X.prog X.w) X.A (eval b X.env) (fun u s₂ => wpAny (model X.prog X.w) X.A (compareOp op v u) (EP X pins σ Q) X.xe s₂) X.xe s₁) X.xe s
def tB (t : TE) : TT := fun σ H Q => t σ H fun x H1 => ∃ c, x = .bl c ∧ Q c H1
theorem pt_cmp {op : CmpOp} {t : TE} (h : PC X op a b t) (h1 : behindInMarks op b = false := by first | exact nobehind _ (by decide) (by decide) | rfl) : PT X (.Compare a [op] [b] pos) (tB t) := by
  intro pins s σ H Q I hw
  refine wpAny_isTrue_Compare1 (thn (h pins s σ H _ I hw) fun v s1 h1 => thn h1 fun u s2 h2 => thn h2 fun c s3 ⟨x, H1, I1, r1, q1⟩ => ?_) h1
  obtain ⟨d, rfl, q⟩ := q1
  cases r1
  exact wpAny_truthy_bool ⟨H1, I1, q⟩
theorem pt_val {e : Expr} {t : TE} (h : PE X e t) (he : ∀ whole, isTrue e X.env whole = (do let v ← whole; standAt e.pos; holding [v] (truthy v)) := by intro _; rfl) : PT X e (tB t) := by
  intro pins s σ H Q I hw
  refine isTrue_plain (thn (h pins s σ H _ I hw) fun v s1 ⟨x, H1, I1, r1, q1⟩ => ?_) (he _)
  obtain ⟨d, rfl, q⟩ := q1
  cases r1
  exact wpAny_truthy_bool ⟨H1, I1, q⟩
variable {tA tB' : TT} {rest : List Expr}
def tAnd (t u : TT) : TT := fun σ H Q => t σ H fun c H1 => if c = true then u σ H1 Q else Q false H1
def tOr (t u : TT) : TT := fun σ H Q => t σ H fun c H1 => if c = true then Q true H1 else u σ H1 Q
def tNot (t : TT) : TT := fun σ H Q => t σ H fun c H1 => Q (!c) H1
theorem pw_and1 (ha : PT X a tA) : PW X (.BoolOp .And [a] pos) tA := by
  intro wh pins s σ H Q I h
  refine isTrue_and (thn (ha pins s σ H Q I h) fun c s1 e => ?_)
  cases c with
  | true => exact isTrue_and_nil e
  | false => exact e
theorem pw_or1 (ha : PT X a tA) : PW X (.BoolOp .Or [a] pos) tA := by
  intro wh pins s σ H Q I h
  refine isTrue_or (thn (ha pins s σ H Q I h) fun c s1 e => ?_)
  cases c with
  | false => exact isTrue_or_nil e
  | true => exact e
theorem pw_and (ha : PT X a tA) (hb : PW X (.BoolOp .And (b :: rest) pos) tB') : PW X (.BoolOp .And (a :: b :: rest) pos) (tAnd tA tB') := by
  intro wh pins s σ H Q I h
  refine isTrue_and (thn (ha pins s σ H _ I h) fun c s1 ⟨H1, I1, q1⟩ => ?_)
  cases c with
  | true => exact hb wh pins s1 σ H1 Q I1 q1
  | false => exact ⟨H1, I1, q1⟩
theorem pw_or (ha : PT X a tA) (hb : PW X (.BoolOp .Or (b :: rest) pos) tB') : PW X (.BoolOp .Or (a :: b :: rest) pos) (tOr tA tB') := by
  intro wh pins s σ H Q I h
  refine isTrue_or (thn (ha pins s σ H _ I h) fun c s1 ⟨H1, I1, q1⟩ => ?_)
  cases c with
  | true => exact ⟨H1, I1, q1⟩
  | false => exact hb wh pins s1 σ H1 Q I1 q1
theorem pt_not (ha : PT X a tA) : PT X (.UnaryOp .Not a pos) (tNot tA) := by
  intro pins s σ H Q I h
  exact isTrue_not (ha pins s σ H (fun c H1 => Q (!c) H1) I h)
def tAndV (ta tb : TE) : TE := fun σ H Q => ta σ H fun x H1 => ∃ c, x = .bl c ∧ if c = true then tb σ H1 Q else Q (.bl false) H1
def tOrV (ta tb : TE) : TE := fun σ H Q => ta σ H fun x H1 => ∃ c, x = .bl c ∧ if c = true then Q (.bl true) H1 else tb σ H1 Q
def tNotV (ta : TE) : TE := fun σ H Q => ta σ H fun x H1 => ∃ c, x = .bl c ∧ Q (.bl (!c)) H1
theorem pe_one {op} {t : TE} (h : PE X a t) : PE X (.BoolOp op [a] pos) t := fun pins s σ H Q I hw => BoolOp_one (h pins s σ H Q I hw)
theorem pe_or (ha : PE X a ta) (hb : PE X (.BoolOp .Or (b :: rest) pos) tb) : PE X (.BoolOp .Or (a :: b :: rest) pos) (tOrV ta tb) := by
  intro pins s σ H Q I h
  refine BoolOp_or (thn (ha pins s σ H _ I h) fun v s1 ⟨x, H1, I1, r1, q1⟩ => ?_)
  obtain ⟨c, rfl, q1⟩ := q1
  cases r1
  refine wpAny_truthy_bool ?_
  cases c with
  | false => exact hb pins s1 σ H1 Q I1 q1
  | true => exact ⟨.bl true, H1, I1, rfl, q1⟩
def tIf (t : TT) (ta tb : TE) : TE := fun σ H Q => t σ H fun c H1 => if c = true then ta σ H1 Q else tb σ H1 Q
theorem pe_ifExp {c : Expr} (hc : PT X c tA) (ha : PE X a ta) (hb : PE X b tb) : PE X (.IfExp c a b pos) (tIf tA ta tb) := by
  intro pins s σ H Q I h
  refine wpAny_IfExp (thn (hc pins s σ H _ I h) fun d s1 ⟨H1, I1, q1⟩ => ?_)
  cases d with
  | true => exact ha pins s1 σ H1 Q I1 q1
  | false => exact hb pins s1 σ H1 Q I1 q1
end
end L2
namespace L2
open PySem PySem.Spec PyProof.Rows
def SqL (K : PySem.W.Frag) (H : Hp) (a : Addr) (xs : List V) : Prop :=
  Rd H a (.lst xs) ∨
    ∃ (o : Obj) (its : Array Value) (n : Nat), K.lookup a = some o ∧ o.cls = .type "list" ∧ o.dict = none ∧ o.data = .seq its n ∧ its.size ≤ sizeLine ∧ Vals xs its.toList
def SqT (K : PySem.W.Frag) (H : Hp) (a : Addr) (xs : List V) : Prop :=
  Rd H a (.tup xs) ∨
    ∃ (o : Obj) (its : Array Value) (n : Nat), K.lookup a = some o ∧ o.cls = .type "tuple" ∧ o.data = .seq its n ∧ its.size ≤ sizeLine ∧ Vals xs its.toList
def absV : Value → Option V
  | .none => some .non
  | .bool b => some (.bl b)
  | .int i _ => some (.int i)
  | .str x _ => some (.str x)
  | .bytes b _ => some (.byt b)
  | .float b _ => some (.flt b)
  | .ref a => some (.ref a)
  | .type n => some (.ty n)
  | _ => none
theorem RelV.abs {x : V} {u : Value} (r : RelV x u) : absV u = some x := by
  cases x with
  | non => cases r; rfl
  | bl _ => cases r; rfl
  | int _ => obtain ⟨t, rfl⟩ := r; rfl
  | str _ => obtain ⟨t, rfl⟩ := r; rfl
  | byt _ => obtain ⟨t, rfl⟩ := r; rfl
  | flt _ => obtain ⟨t, rfl⟩ := r; rfl
  | ref _ => cases r; rfl
  | ty _ => cases r; rfl
theorem RelV.inj {x y : V} {u : Value} (r : RelV x u) (q : RelV y u) : x = y := Option.some.inj (r.abs.symm.trans q.abs)
theorem Vals.inj : ∀ {xs ys : List V} {us : List Value}, Vals xs us → Vals ys us → xs = ys
  | _, _, _, .nil, .nil => rfl
  | _, _, _, .cons r t, .cons r' t' => by rw [r.inj r', Vals.inj t t']
section
variable {X : Cx} {pins : List (Addr × Obj)} {σ : St} {H : Hp} {s : Shared} {a : Addr} {xs ys : List V}
theorem SqL.of {K : PySem.W.Frag} (h : H a = some (.lst xs)) : SqL K H a xs := .inl (.inl h)
theorem SqT.of {K : PySem.W.Frag} (h : H a = some (.tup xs)) : SqT K H a xs := .inl (.inl h)
theorem Inv.list (I : Inv X pins σ H s) (h : SqL X.K H a xs) : ∃ its : List Value, Vals xs its ∧ PlainL s.heap a its.toArray ∧ xs.length ≤ sizeLine := by
  rcases h with h | ⟨o, its, n, hk, hc, hd, hs, hz, r⟩
  · obtain ⟨z, its, n, r, e⟩ := h.ok I.hok
    exact ⟨its, r, ⟨_, n, e, rfl, rfl, rfl⟩, z⟩
  · refine ⟨its.toList, r, ⟨o, n, I.kIn a o hk, hc, hd, by simpa using hs⟩, ?_⟩
    have e := r.length
    simp only [Array.length_toList] at e
    omega
theorem Inv.tuple (I : Inv X pins σ H s) (h : SqT X.K H a xs) : ∃ its : List Value, Vals xs its ∧ IsTup s.heap a its.toArray ∧ xs.length ≤ sizeLine := by
  rcases h with h | ⟨o, its, n, hk, hc, hs, hz, r⟩
  · obtain ⟨z, its, r, p⟩ := h.ok I.hok
    exact ⟨its, r, p, z⟩
  · refine ⟨its.toList, r, ⟨o, I.kIn a o hk, hc, n, by simpa using hs⟩, ?_⟩
    have e := r.length
    simp only [Array.length_toList] at e
    omega
theorem Inv.list_inj (I : Inv X pins σ H s) (h : SqL X.K H a xs) (h' : SqL X.K H a ys) : xs = ys := by
  obtain ⟨its, r, ⟨o, n, e, _, _, d⟩, _⟩ := I.list h
  obtain ⟨its', r', ⟨o', n', e', _, _, d'⟩, _⟩ := I.list h'
  rw [e] at e'; cases e'
  rw [d] at d'
  injection d' with d1 _
  have : its = its' := by simpa using congrArg Array.toList d1
  subst this
  exact r.inj r'
theorem Inv.tuple_inj (I : Inv X pins σ H s) (h : SqT X.K H a xs) (h' : SqT X.K H a ys) : xs = ys := by
  obtain ⟨its, r, ⟨o, e, _, n, d⟩, _⟩ := I.tuple h
  obtain ⟨its', r', ⟨o', e', _, n', d'⟩, _⟩ := I.tuple h'
  rw [e] at e'; cases e'
  rw [d] at d'
  injection d' with d1 _
  have : its = its' := by simpa using congrArg Array.toList d1
  subst this
  exact r.inj r'
end
abbrev Cx.wish (X : Cx) (E : Value → Shared → Prop) : Cx := { X with xe := E }
abbrev Cx.nox (X : Cx) : Cx := X.wish fun _ _ => False
theorem Cx.Ok.wish {X : Cx} (ok : X.Ok) (E : Value → Shared → Prop) : (X.wish E).Ok :=
  ⟨ok.mod, ok.kind, ok.glob, ok.blt, ok.above, ok.inj, ok.has, ok.cab, ok.hd, ok.frames, ok.stk, ok.exf, ok.bs, ok.bsz, ok.noex, ok.exfs, ok.funs, ok.frf⟩
theorem Cx.Ok.unwish {X : Cx} {E : Value → Shared → Prop} (ok : (X.wish E).Ok) : X.Ok :=
  ⟨ok.mod, ok.kind, ok.glob, ok.blt, ok.above, ok.inj, ok.has, ok.cab, ok.hd, ok.frames, ok.stk, ok.exf, ok.bs, ok.bsz, ok.noex, ok.exfs, ok.funs, ok.frf⟩
section
variable {X : Cx} {pins : List (Addr × Obj)} {σ : St} {H : Hp} {s : Shared} {E : Value → Shared → Prop}
theorem Inv.wish (I : Inv X pins σ H s) (E : Value → Shared → Prop) : Inv (X.wish E) pins σ H s := ⟨I.ok.wish E, I.os, I.bare, I.base, I.loc, I.cell, I.free, I.freeC, I.pin, I.hok, I.len⟩
theorem Inv.unwish (I : Inv (X.wish E) pins σ H s) : Inv X pins σ H s := ⟨I.ok.unwish, I.os, I.bare, I.base, I.loc, I.cell, I.free, I.freeC, I.pin, I.hok, I.len⟩
theorem SP.unwish {D : Ends} {f : Flow} {s' : Shared} (h : SP (X.wish E) pins D f s') : SP X pins D f s' := by
  cases f with
  | next => obtain ⟨σ', H', I, q⟩ := h; exact ⟨σ', H', I.unwish, q⟩
  | brk => obtain ⟨σ', H', I, q⟩ := h; exact ⟨σ', H', I.unwish, q⟩
  | cont => obtain ⟨σ', H', I, q⟩ := h; exact ⟨σ', H', I.unwish, q⟩
  | ret u => obtain ⟨v, σ', H', I, r, q⟩ := h; exact ⟨v, σ', H', I.unwish, r, q⟩
theorem PSs.nox {st : List Stmt} {t : TS} (h : PSs X.nox st t) : PSs X st t := fun pins s σ H D I hw =>
  wpAny_mono (h pins s σ H D (I.wish _) hw) (fun _ _ q => q.unwish) fun _ _ z => False.elim z
end
section
variable {X : Cx} {st : Stmt} {rest : List Stmt} {t u : TS} {e : Expr} {te : TE} {pos : Pos}
def tNext : TS := fun D σ H => D.nx σ H
def tSeq (t u : TS) : TS := fun D σ H => t { D with nx := u D } σ H
theorem pss_nil : PSs X [] tNext := fun _ _ σ H _ I h => wpAny_execs_nil ⟨σ, H, I, h⟩
theorem pss_cons (h1 : PS X st t) (h2 : PSs X rest u) : PSs X (st :: rest) (tSeq t u) := by
  intro pins s σ H D I h
  refine wpAny_execs_cons (thn (h1 pins s σ H { D with nx := u D } I h) fun f s1 q => ?_)
  cases f with
  | next =>
    obtain ⟨σ', H', I', q⟩ := q
    exact h2 pins s1 σ' H' D I' q
  | ret v => exact q
  | brk => exact q
  | cont => exact q
theorem pss_one (h1 : PS X st t) : PSs X [st] t := by
  intro pins s σ H D I h
  refine wpAny_execs_cons (thn (h1 pins s σ H D I h) fun f s1 q => ?_)
  cases f with
  | next => exact wpAny_execs_nil q
  | ret v => exact q
  | brk => exact q
  | cont => exact q
theorem Inv.quiet {pins : List (Addr × Obj)} {σ : St} {H : Hp} {s : Shared} (I : Inv X pins σ H s) : interactive X.env = false := by simp [interactive, I.ok.kind]
def tDrop (te : TE) : TS := fun D σ H => te σ H fun _ H1 => D.nx σ H1
theorem ps_expr (he : PE X e te) (hs : swapsWith e none pos.line X.env = pure false := by rfl) : PS X (.Expr e pos) (tDrop te) := by
  intro pins s σ H D I h
  exact wpAny_Expr_any (thn (he pins s σ H _ I h) fun v s1 ⟨x, H1, I1, r1, q1⟩ => ⟨σ, H1, I1, q1⟩) I.quiet hs
def tRet (te : TE) : TS := fun D σ H => te σ H D.rt
theorem ps_ret (he : PE X e te) : PS X (.Return (some e) pos) (tRet te) := by
  intro pins s σ H D I h
  exact wpAny_Return_some (thn (he pins s σ H _ I h) fun v s1 ⟨x, H1, I1, r1, q1⟩ => ⟨x, σ, H1, I1, r1, q1⟩)
def tRetN : TS := fun D _ H => D.rt .non H
def tIfS (c : TT) (t u : TS) : TS := fun D σ H => c σ H fun b H1 => if b = true then t D σ H1 else u D σ H1
theorem ps_if {c : Expr} {a b : List Stmt} {tc : TT} (hc : PT X c tc) (ha : PSs X a t) (hb : PSs X b u) : PS X (.If c a b pos) (tIfS tc t u) := by
  intro pins s σ H D I h
  refine wpAny_If (thn (hc pins s σ H _ I h) fun d s1 ⟨H1, I1, q1⟩ => ?_)
  cases d with
  | true => exact ha pins s1 σ H1 D I1 q1
  | false => exact hb pins s1 σ H1 D I1 q1
end
abbrev TG := V → St → Hp → (St → Hp → Prop) → Prop
abbrev TGs := List V → St → Hp → (St → Hp → Prop) → Prop
def PG (X : Cx) (target : Expr) (t : TG) : Prop :=
  ∀ (pins : List (Addr × Obj)) (s : Shared) (σ : St) (H : Hp) (v : V) (u : Value) (Q : St → Hp → Prop), Inv X pins σ H s → RelV v u → t v σ H Q →
    wpAny (model X.prog X.w) X.A (assign target X.env u) (fun _ s' => ∃ σ' H', Inv X pins σ' H' s' ∧ Q σ' H') X.xe s
def PGs (X : Cx) (ts : List Expr) (t : TGs) : Prop :=
  ∀ (pins : List (Addr × Obj)) (s : Shared) (σ : St) (H : Hp) (vs : List V) (us : List Value) (Q : St → Hp → Prop), Inv X pins σ H s → Vals vs us → t vs σ H Q →
    wpAny (model X.prog X.w) X.A (assignInOrder ((assignEach ts X.env).map (·.2)) us) (fun _ s' => ∃ σ' H', Inv X pins σ' H' s' ∧ Q σ' H') X.xe s
abbrev TSet := V → V → V → Hp → (Hp → Prop) → Prop
def PSet (X : Cx) (t : TSet) : Prop :=
  ∀ (pins : List (Addr × Obj)) (s : Shared) (σ : St) (H : Hp) (o i v : V) (ov iv u : Value) (Q : Hp → Prop), Inv X pins σ H s → RelV o ov → RelV i iv → RelV v u → t o i v H Q →
    wpAny (model X.prog X.w) X.A (setItem ov iv u) (fun _ s' => ∃ H', Inv X pins σ H' s' ∧ Q H') X.xe s
abbrev TIp := V → V → Hp → VK → Prop
def PIp (X : Cx) (op : Operator) (t : TIp) : Prop :=
  ∀ (pins : List (Addr × Obj)) (s : Shared) (σ : St) (H : Hp) (x y : V) (v u : Value) (Q : VK), Inv X pins σ H s → RelV x v → RelV y u → t x y H Q →
    wpAny (model X.prog X.w) X.A (inplaceOp op v u) (EP X pins σ Q) X.xe s
section
variable {X : Cx} {pos : Pos}
def gName (i : Nat) : TG := fun v σ H Q => Q (σ.set i (some v)) H
theorem pg_name {i : Nat} {x : Str} (hN : X.N.Nodup) (hi : X.N[i]? = some x) (hx : Loc X.env.scope x) (hf : X.fn x = true ∨ X.env.scope.names.lookup x = some .local := by first | exact .inl rfl | exact .inr rfl | assumption) : PG X (.Name x pos) (gName i) := by
  intro pins s σ H v u Q I r h
  exact wpAny_assign_Name (store_ok I hN hi hx r (fun s' I' => ⟨_, H, I', h⟩) hf)
def gNil : TGs := fun vs σ H Q => vs = [] ∧ Q σ H
def gCons (t : TG) (u : TGs) : TGs := fun vs σ H Q => ∃ v r, vs = v :: r ∧ t v σ H fun σ' H' => u r σ' H' Q
theorem pgs_nil : PGs X [] gNil := by
  intro pins s σ H vs us Q I r h
  obtain ⟨e, h⟩ := h
  subst e
  cases r
  exact assignInOrder_nil ⟨σ, H, I, h⟩
theorem pgs_cons {e : Expr} {es : List Expr} {t : TG} {u : TGs} (h1 : PG X e t) (h2 : PGs X es u)
    (hs : (assignEach (e :: es) X.env).map (·.2) = assign e X.env :: (assignEach es X.env).map (·.2) := by rfl) : PGs X (e :: es) (gCons t u) := by
  intro pins s σ H vs us Q I r h
  obtain ⟨v, vr, e1, h⟩ := h
  subst e1
  cases r with
  | cons r rr =>
    rw [hs]
    refine assignInOrder_cons (thn (h1 pins s σ H _ _ _ I r h) fun _ s1 ⟨σ1, H1, I1, q1⟩ => ?_)
    exact h2 pins s1 σ1 H1 _ _ Q I1 rr q1
def gTup (K : PySem.W.Frag) (n : Nat) (t : TGs) : TG := fun v σ H Q => ∃ a xs, v = .ref a ∧ SqT K H a xs ∧ xs.length = n ∧ t xs σ H Q
theorem pg_tup {es : List Expr} {k : Nat} {t : TGs} {n : Nat} (hc : X.calm = true) (h : PGs X es t)
    (hn : (assignEach es X.env).length = n := by rfl) (hst : (assignEach es X.env).findIdx? (·.1) = none := by rfl) : PG X (.Tuple es k pos) (gTup X.K n t) := by
  intro pins s σ H v u Q I r hw
  obtain ⟨a, xs, e1, hq, hl, hw⟩ := hw
  subst e1
  cases r
  obtain ⟨its, rv, ht, hz⟩ := I.tuple hq
  refine assign_Tuple_tuple (I.ok.hd hc) ht (by simp [hn, ← hl, rv.length]) hst fun h' hx => ?_
  have I1 : Inv X pins σ H { s with heap := h' } := I.kept (t' := s.toks) fun b o e => hx b o (Nat.ne_of_lt (Heap.lt_size e)) e
  exact h pins _ σ H xs _ Q I1 (by simpa using rv) hw
def gSub (to ti : TE) (t : TSet) : TG := fun v σ H Q => to σ H fun o H1 => ti σ H1 fun i H2 => t o i v H2 fun H3 => Q σ H3
theorem pg_sub {o i : Expr} {to ti : TE} {t : TSet} (ho : PE X o to) (hi : PE X i ti) (hs : PSet X t)
    (ha : ∀ v, assign (.Subscript o i pos) X.env v = (do
      let ov ← holding [v] (eval o X.env)
      let iv ← holding [v, ov] (eval i X.env)
      standAt pos
      holding [v, ov, iv] (setItem ov iv v)
      release [v, ov, iv] []) := by intro _; rfl) : PG X (.Subscript o i pos) (gSub to ti t) := by
  intro pins s σ H v u Q I r h
  rw [ha]
  refine wpAny_bind (wpAny_holding (thn (ho pins s σ H _ I h) fun ov s1 ⟨x, H1, I1, r1, q1⟩ => ?_))
  refine wpAny_bind (wpAny_holding (thn (hi pins s1 σ H1 _ I1 q1) fun iv s2 ⟨y, H2, I2, r2, q2⟩ => ?_))
  refine wpAny_bind (wpAny_standAt (wpAny_bind (wpAny_holding (thn (hs pins s2 σ H2 x y v ov iv u _ I2 r1 r2 r q2) fun _ s3 ⟨H3, I3, q3⟩ => ?_))))
  exact wpAny_release ⟨σ, H3, I3, q3⟩
def tAsg (te : TE) (g : TG) : TS := fun D σ H => te σ H fun x H1 => g x σ H1 D.nx
theorem ps_asg {tg e : Expr} {te : TE} {g : TG} (he : PE X e te) (hg : PG X tg g) (hs : swapsWithSole [tg] e pos.line X.env = pure false := by rfl) (hw : swappedStores [tg] e X.env = pure none := by rfl)
    (h1 : (assignEach [tg] X.env).map (·.2) = [assign tg X.env] := by rfl) : PS X (.Assign [tg] e pos) (tAsg te g) := by
  intro pins s σ H D I h
  refine wpAny_Assign_stores (thn (he pins s σ H _ I h) fun v s1 ⟨x, H1, I1, r1, q1⟩ => ?_) hs hw
  rw [h1]
  exact thn (hg pins s1 σ H1 x v _ I1 r1 q1) fun _ s2 q => q
theorem ps_set {i : Nat} {x : Str} {e : Expr} {te : TE} {pos' : Pos} (hN : X.N.Nodup) (hi : X.N[i]? = some x) (hx : Loc X.env.scope x) (he : PE X e te) (hs : swapsWith e (some (.Name x pos')) pos.line X.env = pure false := by rfl) (hf : X.fn x = true ∨ X.env.scope.names.lookup x = some .local := by first | exact .inl rfl | exact .inr rfl | assumption) :
    PS X (.Assign [.Name x pos'] e pos) (tAsg te (gName i)) := by
  intro pins s σ H D I h
  refine wpAny_Assign_Name (thn (he pins s σ H _ I h) fun v s1 ⟨y, H1, I1, r1, q1⟩ => ?_) hs
  exact store_ok I1 hN hi hx r1 (fun s2 I2 => ⟨_, H1, I2, q1⟩) hf
def tAug (i : Nat) (te : TE) (ti : TIp) : TS := fun D σ H => ∃ x, σ[i]? = some (some x) ∧ te σ H fun y H1 => ti x y H1 fun z H2 => D.nx (σ.set i (some z)) H2
theorem ps_aug {i : Nat} {x : Str} {e : Expr} {te : TE} {op : Operator} {ti : TIp} {pos' : Pos} (hN : X.N.Nodup) (hi : X.N[i]? = some x) (hx : Loc X.env.scope x) (he : PE X e te) (ho : PIp X op ti) (hf : X.fn x = true ∨ X.env.scope.names.lookup x = some .local := by first | exact .inl rfl | exact .inr rfl | assumption) :
    PS X (.AugAssign (.Name x pos') op e pos) (tAug i te ti) := by
  intro pins s σ H D I h
  obtain ⟨v, e1, h⟩ := h
  obtain ⟨m, hn, hl⟩ := I.loc
  have vis : Vis X.env.scope x := by rcases hx with k | k; exact .inl k; exact .inr (.inl k)
  obtain ⟨u, r, l⟩ := hl i x v hi e1 vis
  refine wpAny_AugAssign_Name ?_
  have go : wpAny (model X.prog X.w) X.A (eval e X.env) (fun w s₂ => wpAny (model X.prog X.w) X.A (inplaceOp op u w) (fun r s₃ => wpAny (model X.prog X.w) X.A (storeName X.env x r) (fun _ => SP X pins D .next) X.xe s₃) X.xe s₂) X.xe s := by
    refine thn (he pins s σ H _ I h) fun w s1 ⟨y, H1, I1, r1, q1⟩ => ?_
    refine thn (ho pins s1 σ H1 v y u w _ I1 r r1 q1) fun z s2 ⟨zv, H2, I2, r2, q2⟩ => ?_
    exact store_ok I2 hN hi hx r2 (fun s3 I3 => ⟨_, H2, I3, q2⟩) hf
  rcases l with ⟨hk, hm⟩ | ⟨hk, c, hc, hcell⟩
  · exact wpAny_loadName_local I.ok.kind hk hn hm go
  · rcases hk with hk | hk
    · exact wpAny_loadName_cell I.ok.kind hk hc hcell go
    · rcases hx with k | k
      · have : X.env.scope.names.lookup x = some .free := hk
        rw [k] at this; cases this
      · have : X.env.scope.names.lookup x = some .free := hk
        rw [k] at this; cases this
def tAugS (to ti te : TE) (tget : V → V → Hp → VK → Prop) (tip : TIp) (tset : TSet) : TS := fun D σ H => to σ H fun o H1 => ti σ H1 fun i H2 => tget o i H2 fun x H3 => te σ H3 fun y H4 => tip x y H4 fun z H5 => tset o i z H5 fun H6 => D.nx σ H6
def PGet (X : Cx) (t : V → V → Hp → VK → Prop) : Prop :=
  ∀ (pins : List (Addr × Obj)) (s : Shared) (σ : St) (H : Hp) (o i : V) (ov iv : Value) (Q : VK), Inv X pins σ H s → RelV o ov → RelV i iv → t o i H Q →
    wpAny (model X.prog X.w) X.A (getItem ov iv) (EP X pins σ Q) X.xe s
theorem ps_augS {o i e : Expr} {to ti te : TE} {tget : V → V → Hp → VK → Prop} {tip : TIp} {tset : TSet} {op : Operator} {tpos : Pos} (ho : PE X o to) (hi : PE X i ti) (hg : PGet X tget) (he : PE X e te) (hp : PIp X op tip) (hs : PSet X tset)
    (ha : ∀ ov iv new, augStore i ov iv new = (do holding [new, ov, iv] (setItem ov iv new); release [new, ov, iv] []; pure .next) := by intros; rfl) : PS X (.AugAssign (.Subscript o i tpos) op e pos) (tAugS to ti te tget tip tset) := by
  intro pins s σ H D I h
  refine wpAny_AugAssign_SubscriptAny (thn (ho pins s σ H _ I h) fun ov s1 ⟨x1, H1, I1, r1, q1⟩ => ?_) ha
  refine thn (hi pins s1 σ H1 _ I1 q1) fun iv s2 ⟨x2, H2, I2, r2, q2⟩ => ?_
  refine thn (hg pins s2 σ H2 x1 x2 ov iv _ I2 r1 r2 q2) fun old s3 ⟨x3, H3, I3, r3, q3⟩ => ?_
  refine thn (he pins s3 σ H3 _ I3 q3) fun v s4 ⟨x4, H4, I4, r4, q4⟩ => ?_
  refine thn (hp pins s4 σ H4 x3 x4 old v _ I4 r3 r4 q4) fun new s5 ⟨x5, H5, I5, r5, q5⟩ => ?_
  exact thn (hs pins s5 σ H5 x1 x2 x5 ov iv new _ I5 r1 r2 r5 q5) fun _ s6 ⟨H6, I6, q6⟩ => ⟨σ, H6, I6, q6⟩
def ipI (f : Int → Int → Int) : TIp := fun x y H Q => ∃ i j, x = .int i ∧ y = .int j ∧ Q (.int (f i j)) H
theorem ip_add : PIp X .Add (ipI fun i j => i + j) := by
  intro pins s σ H x y v u Q I r1 r2 h
  obtain ⟨i, j, e1, e2, q⟩ := h
  subst e1; subst e2
  obtain ⟨t, rfl⟩ := r1
  obtain ⟨t', rfl⟩ := r2
  exact iadd_int ⟨.int _, H, I.tok _, ⟨_, rfl⟩, q⟩
end
section
variable {X : Cx} {pos : Pos}
def tWhile (c : TT) (tb : TS) : TS := fun D σ H => ∃ W : Nat → St → Hp → Prop, (∃ m, W m σ H) ∧ ∀ m σ H, W m σ H →
  c σ H fun b H1 => if b = true then ∃ N : St → Hp → Prop, (∀ σ' H', N σ' H' → ∃ m', m' < m ∧ W m' σ' H') ∧ tb { D with nx := N, ct := N, bk := D.nx } σ H1 else D.nx σ H1
theorem ps_while {c : Expr} {body : List Stmt} {tc : TT} {tb : TS} (hp : PassesOwn (model X.prog X.w) X.A X.env X.xe) (hc : PT X c tc) (hb : PSs X body tb) : PS X (.While c body [] pos) (tWhile tc tb) := by
  intro pins s σ H D I h
  obtain ⟨W, ⟨m0, w0⟩, turn⟩ := h
  refine wpAny_While (codeAny_whileLoop (fun n s' => ∃ σ' H', Inv X pins σ' H' s' ∧ W n σ' H') ?_ m0 ⟨σ, H, I, w0⟩)
  rintro n s1 ⟨σ1, H1, I1, w1⟩
  refine wpAny_passesOwn hp (thn (hc pins s1 σ1 H1 _ I1 (turn n σ1 H1 w1)) fun b s2 ⟨H2, I2, q2⟩ => ?_)
  cases b with
  | true =>
    obtain ⟨N, hN, q2⟩ := q2
    rw [if_pos rfl]
    refine wpAny_passesOwn hp (thn (hb pins s2 σ1 H2 _ I2 q2) fun f s3 q3 => ?_)
    cases f with
    | next =>
      obtain ⟨σ3, H3, I3, n3⟩ := q3
      obtain ⟨m', hm, w3⟩ := hN σ3 H3 n3
      exact ⟨m', hm, σ3, H3, I3, w3⟩
    | cont =>
      obtain ⟨σ3, H3, I3, n3⟩ := q3
      obtain ⟨m', hm, w3⟩ := hN σ3 H3 n3
      exact ⟨m', hm, σ3, H3, I3, w3⟩
    | brk => exact q3
    | ret v => exact q3
  | false =>
    rw [if_neg Bool.false_ne_true]
    exact wpAny_execs_nil ⟨σ1, H2, I2, q2⟩
end
structure It where
  go : Nat → Hp → Prop
  yld : Nat → Hp → V → Hp → Prop
  stop : Nat → Hp → Prop
def FpOk (X : Cx) (pins : List (Addr × Obj)) (H : Hp) (b : Addr) : Prop :=
  H b = none ∧ b ≠ X.env.locals ∧ b ∉ X.fs ∧ (b ∈ X.ex ∨ X.s_0.heap.objs.size ≤ b) ∧ (∀ x c, X.env.cells.lookup x = some c → c ≠ b) ∧ ∀ p ∈ X.pn ++ pins, p.1 ≠ b
theorem Inv.fpOk {X : Cx} {pins : List (Addr × Obj)} {σ : St} {H H' : Hp} {s : Shared} {b : Addr} (I : Inv X pins σ H s) (hb : s.heap.objs.size ≤ b) (hn : H' b = none) : FpOk X pins H' b := by
  refine ⟨hn, Nat.ne_of_gt (Nat.lt_of_lt_of_le I.lt hb), I.nofs hb, .inr (Nat.le_trans I.sz hb), fun x c e z => ?_, fun p hp z => ?_⟩
  · obtain ⟨v, q⟩ := I.cell x c e
    exact absurd (Nat.lt_of_lt_of_le q.lt (by rw [z]; exact hb)) (Nat.lt_irrefl _)
  · exact absurd (Nat.lt_of_lt_of_le (Heap.lt_size (I.pin p hp).1) (by rw [z]; exact hb)) (Nat.lt_irrefl _)
structure Turn (P : Program) (w : World) (K : PySem.W.Frag) (tg : Expr) (J : It) (fp : List Addr) (it : Addr) (tn : Nat → Heap → Prop) : Prop where
  mem : it ∈ fp
  obj : ∀ i h, tn i h → ∀ b ∈ fp, ∃ o, h.get? b = some o ∧ ∀ v, o.data ≠ .cell v
  keep : ∀ i h h', tn i h → (∀ b ∈ fp, ∀ o, h.get? b = some o → h'.get? b = some o) → tn i h'
  item : ∀ (X : Cx), X.prog = P → X.w = w → X.K = K → X.calm = true → ∀ (i : Nat) (pins : List (Addr × Obj)) (s : Shared) (σ : St) (H : Hp) (E : Value → Shared → Prop), Inv X pins σ H s → (∀ b ∈ fp, FpOk X pins H b) → tn i s.heap → J.go i H →
    wpAny (model P w) X.A (pyNext (.ref it)) (fun r s1 => ∃ u, r = some u ∧
      wpAny (model P w) X.A (letOwnedTupleGo tg (.ref it) u) (fun _ s2 => ∃ x H', Inv X pins σ H' s2 ∧ RelV x u ∧ J.yld i H x H' ∧ tn (i + 1) s2.heap ∧ ∀ b ∈ fp, H' b = none) E s1) E s
  done : ∀ (X : Cx), X.prog = P → X.w = w → X.K = K → X.calm = true → ∀ (i : Nat) (pins : List (Addr × Obj)) (s : Shared) (σ : St) (H : Hp) (E : Value → Shared → Prop), Inv X pins σ H s → (∀ b ∈ fp, FpOk X pins H b) → tn i s.heap → J.stop i H →
    wpAny (model P w) X.A (pyNext (.ref it)) (fun r s1 => r = none ∧ Inv X pins σ H s1) E s
  self : ∀ (A : Around) (i : Nat) (s : Shared) (Q : Value → Shared → Prop) (E : Value → Shared → Prop), tn i s.heap → Q (.ref it) s → wpAny (model P w) A (pyIter (.ref it)) Q E s
abbrev TI := St → Hp → (It → Hp → Prop) → Prop
def PIE (X : Cx) (pins : List (Addr × Obj)) (σ : St) (tg : Expr) (R : It → Hp → Prop) (itv : Value) (s2 : Shared) : Prop :=
  ∃ (it : Addr) (fp : List Addr) (tn : Nat → Heap → Prop) (J : It) (H' : Hp), itv = .ref it ∧ Inv X pins σ H' s2 ∧ Turn X.prog X.w X.K tg J fp it tn ∧ tn 0 s2.heap ∧ (∀ b ∈ fp, FpOk X pins H' b) ∧ R J H'
def PI (X : Cx) (tg iter : Expr) (wi : TI) : Prop :=
  ∀ (pins : List (Addr × Obj)) (s : Shared) (σ : St) (H : Hp) (R : It → Hp → Prop), Inv X pins σ H s → wi σ H R →
    wpAny (model X.prog X.w) X.A (eval iter X.env) (fun v s1 => wpAny (model X.prog X.w) X.A (pyIter v) (PIE X pins σ tg R) X.xe s1) X.xe s
theorem go_of {M : Model} {A : Around} {E : Value → Shared → Prop} {s : Shared} {tg : Expr} {it : Addr} {u : Value} {o : Obj} {n : String} {vs : Array Value} {Q : Unit → Shared → Prop} (ho : s.heap.get? it = some o) (hc : o.cls = .type n) (hd : o.data = .fields vs)
    (hn : ["enumerate", "zip", "dict_itemiterator", "dict_reverseitemiterator", "odict_iterator", "itertools.zip_longest", "itertools.pairwise"].contains n = false) (hQ : Q () s) : wpAny M A (letOwnedTupleGo tg (.ref it) u) Q E s := by
  unfold letOwnedTupleGo
  cases tg <;> first
    | exact wpAny_pure hQ
    | (cases u <;> first
        | exact wpAny_pure hQ
        | (refine wpAny_bind (wpAny_load ho ?_)
           rw [hc, hd]
           show wpAny M A (if (["enumerate", "zip", "dict_itemiterator", "dict_reverseitemiterator", "odict_iterator", "itertools.zip_longest", "itertools.pairwise"].contains n && vs[0]? == some (rawInt _)) = true then _ else _) Q E s
           rw [if_neg (by intro h; rw [hn, Bool.false_and] at h; cases h)]
           exact wpAny_pure hQ))
def Itl (K : PySem.W.Frag) (a : Addr) : It :=
  ⟨fun i H => ∃ xs x, SqL K H a xs ∧ xs[i]? = some x, fun i H x H' => H' = H ∧ ∀ xs, SqL K H a xs → xs[i]? = some x, fun i H => ∃ xs, SqL K H a xs ∧ xs.length ≤ i⟩
def Itt (K : PySem.W.Frag) (a : Addr) : It :=
  ⟨fun i H => ∃ xs x, SqT K H a xs ∧ xs[i]? = some x, fun i H x H' => H' = H ∧ ∀ xs, SqT K H a xs → xs[i]? = some x, fun i H => ∃ xs, SqT K H a xs ∧ xs.length ≤ i⟩
def Itr (lo : Int) (n : Nat) : It := ⟨fun i _ => i < n, fun i H x H' => H' = H ∧ x = .int (lo + i), fun i _ => n ≤ i⟩
theorem turn_list {P : Program} {w : World} {K : PySem.W.Frag} {tg : Expr} (a it : Addr) : Turn P w K tg (Itl K a) [it] it (fun i h => h.IsListIter it a i) where
  mem := by simp
  obj := fun i h st b hb => by
    have e : b = it := by simpa using hb
    subst e
    obtain ⟨o, e, c, d⟩ := st
    exact ⟨o, e, fun v z => by rw [d] at z; cases z⟩
  keep := fun i h h' st k => st.at fun o e => k it (by simp) o e
  item := by
    intro X hP hw hK hc i pins s σ H E I hf st hg
    subst hP hw hK
    obtain ⟨xs, x, hq, hx⟩ := hg
    obtain ⟨its, rv, p, hz⟩ := I.list hq
    obtain ⟨u, hu, ru⟩ := rv.get hx
    obtain ⟨f0, f1, f2, f3, f4, f5⟩ := hf it (by simp)
    refine wpAny_pyNext_list_item st p.isList (x := u) (by simpa using hu) fun h' st' sb => ?_
    have I1 : Inv X pins σ H { s with heap := h' } := I.turned (t' := s.toks) (fun b o hb e => (sb.2 b hb).trans e) f0 f1 f3 f4 f5
    obtain ⟨o, e, c, d⟩ := id st'
    exact ⟨u, rfl, go_of (s := { s with heap := h' }) e c d (by decide) ⟨x, H, I1, ru, ⟨rfl, fun ys hy => by rw [I.list_inj hy hq]; exact hx⟩, st', fun b hb => (hf b hb).1⟩⟩
  done := by
    intro X hP hw hK hc i pins s σ H E I hf st hg
    subst hP hw hK
    obtain ⟨xs, hq, hx⟩ := hg
    obtain ⟨its, rv, p, hz⟩ := I.list hq
    obtain ⟨f0, f1, f2, f3, f4, f5⟩ := hf it (by simp)
    have hl := rv.length
    exact wpAny_pyNext_list_end (I.ok.hd hc) st p.isList (by simp; omega) fun h' eb => ⟨rfl, I.turned (t' := s.toks) (fun b o hb e => eb b o hb e) f0 f1 f3 f4 f5⟩
  self := fun _ _ _ _ _ st h => wpAny_pyIter_listiter st h
theorem turn_tuple {P : Program} {w : World} {K : PySem.W.Frag} {tg : Expr} (a it : Addr) : Turn P w K tg (Itt K a) [it] it (fun i h => h.IsTupleIter it a i) where
  mem := by simp
  obj := fun i h st b hb => by
    have e : b = it := by simpa using hb
    subst e
    obtain ⟨o, e, c, d⟩ := st
    exact ⟨o, e, fun v z => by rw [d] at z; cases z⟩
  keep := fun i h h' st k => st.at fun o e => k it (by simp) o e
  item := by
    intro X hP hw hK hc i pins s σ H E I hf st hg
    subst hP hw hK
    obtain ⟨xs, x, hq, hx⟩ := hg
    obtain ⟨its, rv, p, hz⟩ := I.tuple hq
    obtain ⟨u, hu, ru⟩ := rv.get hx
    obtain ⟨f0, f1, f2, f3, f4, f5⟩ := hf it (by simp)
    refine wpAny_pyNext_tuple_item st (show s.heap.IsTuple a its.toArray from p) (x := u) (by simpa using hu) fun h' st' sb => ?_
    have I1 : Inv X pins σ H { s with heap := h' } := I.turned (t' := s.toks) (fun b o hb e => (sb.2 b hb).trans e) f0 f1 f3 f4 f5
    obtain ⟨o, e, c, d⟩ := id st'
    exact ⟨u, rfl, go_of (s := { s with heap := h' }) e c d (by decide) ⟨x, H, I1, ru, ⟨rfl, fun ys hy => by rw [I.tuple_inj hy hq]; exact hx⟩, st', fun b hb => (hf b hb).1⟩⟩
  done := by
    intro X hP hw hK hc i pins s σ H E I hf st hg
    subst hP hw hK
    obtain ⟨xs, hq, hx⟩ := hg
    obtain ⟨its, rv, p, hz⟩ := I.tuple hq
    obtain ⟨f0, f1, f2, f3, f4, f5⟩ := hf it (by simp)
    have hl := rv.length
    exact wpAny_pyNext_tuple_end (I.ok.hd hc) st (show s.heap.IsTuple a its.toArray from p) (by simp; omega) fun h' eb => ⟨rfl, I.turned (t' := s.toks) (fun b o hb e => eb b o hb e) f0 f1 f3 f4 f5⟩
  self := fun _ _ _ _ _ st h => wpAny_pyIter_tupleiter st h
theorem turn_range {P : Program} {w : World} {K : PySem.W.Frag} {tg : Expr} (it : Addr) (lo : Int) (n : Nat) : Turn P w K tg (Itr lo n) [it] it (fun i h => IsRangeIter h it (lo + (i : Nat) * 1) ((n : Int) - (i : Nat)) 1) where
  mem := by simp
  obj := fun i h st b hb => by
    have e : b = it := by simpa using hb
    subst e
    exact ⟨_, st, fun v z => by
      have z' : Data.fields _ = Data.cell v := z
      cases z'⟩
  keep := fun i h h' st k => k it (by simp) _ st
  item := by
    intro X hP hw hK hc i pins s σ H E I hf st hg
    subst hP hw hK
    obtain ⟨f0, f1, f2, f3, f4, f5⟩ := hf it (by simp)
    have W := Walks.range (prog := X.prog) (w := X.w) (I.ok.hd hc) it lo 1 n
    refine W.item i s _ _ hg st fun v h' tk hv st' kk => ?_
    obtain ⟨t, rfl⟩ := hv
    have I1 : Inv X pins σ H { s with heap := h', toks := tk } := I.turned (fun b o hb e => kk b o (by simpa using hb) e) f0 f1 f3 f4 f5
    refine ⟨_, rfl, go_of (s := { s with heap := h', toks := tk }) (n := "range_iterator") st' rfl rfl (by decide) ⟨.int (lo + i), H, I1, ⟨t, ?_⟩, ⟨rfl, rfl⟩, st', fun b hb => (hf b hb).1⟩⟩
    rw [Int.mul_one]
  done := by
    intro X hP hw hK hc i pins s σ H E I hf st hg
    subst hP hw hK
    obtain ⟨f0, f1, f2, f3, f4, f5⟩ := hf it (by simp)
    exact wpAny_pyNext_range_end (I.ok.hd hc) st (by have : n ≤ i := hg; omega) fun h' eb => ⟨rfl, I.turned (t' := s.toks) (fun b o hb e => eb b o hb e) f0 f1 f3 f4 f5⟩
  self := fun _ _ _ _ _ st h => wpAny_pyIter_rangeiter st h
end L2
namespace L2
open PySem PySem.Spec PyProof.Rows
section
variable {X : Cx} {tg : Expr}
def iList (K : PySem.W.Frag) (tl : TE) : TI := fun σ H R => tl σ H fun x H1 => ∃ a, x = .ref a ∧ (∃ xs, SqL K H1 a xs) ∧ R (Itl K a) H1
def iTup (K : PySem.W.Frag) (tl : TE) : TI := fun σ H R => tl σ H fun x H1 => ∃ a, x = .ref a ∧ (∃ xs, SqT K H1 a xs) ∧ R (Itt K a) H1
theorem pi_list {l : Expr} {tl : TE} (hl : PE X l tl) : PI X tg l (iList X.K tl) := by
  intro pins s σ H R I h
  refine thn (hl pins s σ H _ I h) fun v s1 ⟨x, H1, I1, r1, q1⟩ => ?_
  obtain ⟨a, e, ⟨xs, hq⟩, q⟩ := q1
  subst e
  cases r1
  obtain ⟨its, rv, p, hz⟩ := I1.list hq
  refine wpAny_pyIter_list p.isList ?_
  refine ⟨s1.heap.objs.size, [s1.heap.objs.size], _, _, H1, rfl, I1.kept (t' := s1.toks) fun b o e => Heap.get?_push_of_some _ e, turn_list a _, ⟨_, Heap.get?_push_size _ rfl, rfl, rfl⟩, fun b hb => ?_, q⟩
  have e : b = s1.heap.objs.size := by simpa using hb
  subst e
  exact I1.fpOk (Nat.le_refl _) (I1.hok.fresh (Nat.le_refl _))
theorem pi_tup {l : Expr} {tl : TE} (hl : PE X l tl) : PI X tg l (iTup X.K tl) := by
  intro pins s σ H R I h
  refine thn (hl pins s σ H _ I h) fun v s1 ⟨x, H1, I1, r1, q1⟩ => ?_
  obtain ⟨a, e, ⟨xs, hq⟩, q⟩ := q1
  subst e
  cases r1
  obtain ⟨its, rv, p, hz⟩ := I1.tuple hq
  refine wpAny_pyIter_tuple (show s1.heap.IsTuple a its.toArray from p) ?_
  refine ⟨s1.heap.objs.size, [s1.heap.objs.size], _, _, H1, rfl, I1.kept (t' := s1.toks) fun b o e => Heap.get?_push_of_some _ e, turn_tuple a _, ⟨_, Heap.get?_push_size _ rfl, rfl, rfl⟩, fun b hb => ?_, q⟩
  have e : b = s1.heap.objs.size := by simpa using hb
  subst e
  exact I1.fpOk (Nat.le_refl _) (I1.hok.fresh (Nat.le_refl _))
theorem range_it {pins : List (Addr × Obj)} {σ : St} {H : Hp} {s : Shared} {R : It → Hp → Prop} {E : Value → Shared → Prop} {lo hi : Int} {t u v : Tok} {tk : Nat} (I : Inv X pins σ H s) (h1 : -(2 ^ 62) ≤ lo) (h2 : lo < 2 ^ 62) (h3 : -(2 ^ 62) ≤ hi) (h4 : hi < 2 ^ 62)
    (q : R (Itr lo (hi - lo).toNat) H) : wpAny (model X.prog X.w) X.A (pyIter (.ref s.heap.objs.size)) (PIE X pins σ tg R) E { s with heap := s.heap.push { cls := .type "range", data := .fields #[.int lo t, .int hi u, .int 1 v] }, toks := tk } := by
  refine wpAny_pyIter_range (IsRange.new ..) (small_one h1 h2 h3 h4) ?_
  have I1 : Inv X pins σ H { s with heap := s.heap.push { cls := .type "range", data := .fields #[.int lo t, .int hi u, .int 1 v] }, toks := tk } := I.kept fun b o e => Heap.get?_push_of_some _ e
  refine ⟨(s.heap.push { cls := .type "range", data := .fields #[.int lo t, .int hi u, .int 1 v] }).objs.size, [(s.heap.push { cls := .type "range", data := .fields #[.int lo t, .int hi u, .int 1 v] }).objs.size], _, _, H, rfl,
    I1.kept (t' := tk) fun b o e => Heap.get?_push_of_some _ e, turn_range _ lo (hi - lo).toNat, ?_, fun b hb => ?_, q⟩
  · have e1 : lo + ((0 : Nat) : Int) * 1 = lo := by simp
    have e2 : (((hi - lo).toNat : Nat) : Int) - ((0 : Nat) : Int) = Builtin.Range.rangeSize lo hi 1 := by rw [rangeSize_one]; split <;> omega
    show IsRangeIter _ _ (lo + ((0 : Nat) : Int) * 1) ((((hi - lo).toNat : Nat) : Int) - ((0 : Nat) : Int)) 1
    rw [e1, e2]
    exact Heap.get?_push_size _ rfl
  · have e : b = (s.heap.push { cls := .type "range", data := .fields #[.int lo t, .int hi u, .int 1 v] }).objs.size := by simpa using hb
    subst e
    exact I1.fpOk (Nat.le_refl _) (I1.hok.fresh (Nat.le_refl _))
def iRng1 (ta : TA) : TI := fun σ H R => ta σ H fun vs H1 => ∃ j : Int, vs = [.int j] ∧ -(2 ^ 62) ≤ j ∧ j < 2 ^ 62 ∧ R (Itr 0 j.toNat) H1
theorem pi_range1 {a : Expr} {ta : TA} {p pos : Pos} (hg : Gl X "range") (hm : X.mg "range" = none) (ha : PA X [a] ta) (hs : starEach [a] X.env = [(false, eval a X.env)] := by rfl) : PI X tg (.Call (.Name "range" p) [a] [] pos) (iRng1 ta) := by
  intro pins s σ H R I h
  refine Call_ (ld_blt I hg hm boot_range (PyProof.Rows.callWith_type1 (thn (ha pos pins s σ H _ I h) fun us s1 ⟨vs, H1, I1, r1, q1⟩ => ?_) hs rfl))
  obtain ⟨j, e, q1, q2, q⟩ := q1
  subst e
  cases r1 with
  | cons r rr =>
    cases rr
    obtain ⟨t, rfl⟩ := r
    exact call_range_1 (range_it I1 (by omega) (by omega) q1 q2 (by simpa using q))
def tFor (wi : TI) (g : TG) (tb : TS) : TS := fun D σ H => wi σ H fun J H1 => ∃ W : Nat → Nat → St → Hp → Prop, (∃ m, W 0 m σ H1) ∧ ∀ i m σ H, W i m σ H →
  (J.stop i H ∧ D.nx σ H) ∨ (J.go i H ∧ ∃ N : St → Hp → Prop, (∀ σ' H', N σ' H' → ∃ m', m' < m ∧ W (i + 1) m' σ' H') ∧ ∀ x H', J.yld i H x H' → g x σ H' fun σ2 H2 => tb { D with nx := N, ct := N, bk := D.nx } σ2 H2)
def pinsAt (fp : List Addr) (h : Heap) : List (Addr × Obj) := fp.filterMap fun b => (h.get? b).map fun o => (b, o)
theorem mem_pinsAt {fp : List Addr} {h : Heap} {b : Addr} {o : Obj} (hb : b ∈ fp) (e : h.get? b = some o) : (b, o) ∈ pinsAt fp h := List.mem_filterMap.mpr ⟨b, hb, by rw [e]; rfl⟩
theorem of_pinsAt {fp : List Addr} {h : Heap} {p : Addr × Obj} (hp : p ∈ pinsAt fp h) : p.1 ∈ fp ∧ h.get? p.1 = some p.2 := by
  obtain ⟨b, hb, e⟩ := List.mem_filterMap.mp hp
  cases q : h.get? b with
  | none => rw [q] at e; cases e
  | some o =>
    rw [q] at e
    have e' : (b, o) = p := Option.some.inj e
    subst e'
    exact ⟨hb, q⟩
theorem Inv.pinned {pins : List (Addr × Obj)} {σ : St} {H : Hp} {s : Shared} {fp : List Addr} (I : Inv X pins σ H s) (hf : ∀ b ∈ fp, FpOk X pins H b) (ho : ∀ b ∈ fp, ∃ o, s.heap.get? b = some o ∧ ∀ v, o.data ≠ .cell v) : Inv X (pins ++ pinsAt fp s.heap) σ H s :=
  I.pins_of fun p hp => (List.mem_append.mp hp).elim (fun z => I.pin p (List.mem_append_right _ z)) fun z => by
    obtain ⟨hb, e⟩ := of_pinsAt z
    obtain ⟨f0, f1, f2, _⟩ := hf p.1 hb
    obtain ⟨o, e', d⟩ := ho p.1 hb
    rw [e] at e'; cases e'
    exact ⟨e, f0, f1, f2, d⟩
theorem Inv.unpinned {pins pl : List (Addr × Obj)} {σ : St} {H : Hp} {s : Shared} (I : Inv X (pins ++ pl) σ H s) : Inv X pins σ H s := I.pins_of fun p hp => I.pin p (List.mem_append_right _ (List.mem_append_left _ hp))
theorem ps_for {iter : Expr} {body : List Stmt} {wi : TI} {g : TG} {tb : TS} {pos : Pos} (hp : PassesOwn (model X.prog X.w) X.A X.env X.xe) (hc : X.calm = true) (hi : PI X tg iter wi) (hg : PG X tg g) (hb : PSs X body tb)
    (hs : ∀ x, foldedSetIterable iter X.env x = pure x := by intro _; rfl) : PS X (.For tg iter body [] pos) (tFor wi g tb) := by
  intro pins s σ H D I h
  refine wpAny_For (thn (hi pins s σ H _ I h) fun v s1 h1 => thn h1 fun itv s2 h2 => ?_) hs
  obtain ⟨it, fp, tn, J, H2, e, I2, T, st2, f2, W, ⟨m0, w0⟩, turn⟩ := h2
  subst e
  -- what stays true of the iterator's objects through the loop
  have stat : ∀ {H' : Hp}, (∀ b ∈ fp, H' b = none) → ∀ b ∈ fp, FpOk X pins H' b := fun hn b hb => ⟨hn b hb, (f2 b hb).2⟩
  refine codeAny_forLoop_any (fun n s' => ∃ i σ' H', Inv X pins σ' H' s' ∧ tn i s'.heap ∧ (∀ b ∈ fp, H' b = none) ∧ W i n σ' H') ?_ m0 ⟨0, σ, H2, I2, st2, fun b hb => (f2 b hb).1, w0⟩
  rintro n s3 ⟨i, σ3, H3, I3, st3, fr3, w3⟩
  rcases turn i n σ3 H3 w3 with ⟨stop, qn⟩ | ⟨go, N, hN, step⟩
  · refine wpAny_passesOwn hp (thn (T.done X rfl rfl rfl hc i pins s3 σ3 H3 X.xe I3 (stat fr3) st3 stop) fun r s4 ⟨hr, I4⟩ => ?_)
    subst hr
    exact wpAny_execs_nil ⟨σ3, H3, I4, qn⟩
  · refine wpAny_passesOwn hp (thn (T.item X rfl rfl rfl hc i pins s3 σ3 H3 X.xe I3 (stat fr3) st3 go) fun r s4 ⟨u, hr, h4⟩ => ?_)
    subst hr
    refine wpAny_passesOwn hp (thn h4 fun _ s5 ⟨x, H5, I5, r5, y5, st5, fr5⟩ => ?_)
    have I5' := I5.pinned (stat fr5) (T.obj _ _ st5)
    refine wpAny_passesOwn hp (thn (hg _ s5 σ3 H5 x u _ I5' r5 (step x H5 y5)) fun _ s6 ⟨σ6, H6, I6, q6⟩ => ?_)
    refine wpAny_passesOwn hp (thn (hb _ s6 σ6 H6 _ I6 q6) fun f s7 q7 => ?_)
    have again : ∀ {σ7 : St} {H7 : Hp}, Inv X (pins ++ pinsAt fp s5.heap) σ7 H7 s7 → N σ7 H7 → ∃ m, m < n ∧ ∃ i σ' H', Inv X pins σ' H' s7 ∧ tn i s7.heap ∧ (∀ b ∈ fp, H' b = none) ∧ W i m σ' H' := fun {σ7 H7} I7 n7 => by
      obtain ⟨m', hm, w7⟩ := hN σ7 H7 n7
      refine ⟨m', hm, i + 1, σ7, H7, I7.unpinned, T.keep _ _ _ st5 fun b hb o e => (I7.pin (b, o) (List.mem_append_right _ (List.mem_append_right _ (mem_pinsAt hb e)))).1, fun b hb => ?_, w7⟩
      obtain ⟨o, e, d⟩ := T.obj _ _ st5 b hb
      exact (I7.pin (b, o) (List.mem_append_right _ (List.mem_append_right _ (mem_pinsAt hb e)))).2.1
    cases f with
    | next => obtain ⟨σ7, H7, I7, n7⟩ := q7; exact again I7 n7
    | cont => obtain ⟨σ7, H7, I7, n7⟩ := q7; exact again I7 n7
    | brk => obtain ⟨σ7, H7, I7, q7⟩ := q7; exact ⟨σ7, H7, I7.unpinned, q7⟩
    | ret v => obtain ⟨x7, σ7, H7, I7, r7, q7⟩ := q7; exact ⟨x7, σ7, H7, I7.unpinned, r7, q7⟩
end
theorem for_list {K : PySem.W.Frag} {a : Addr} {xs : List V} {g : TG} {tb : TS} {D : Ends} {σ : St} {H : Hp} (Pv : Nat → St → Hp → Prop) (h0 : Pv 0 σ H) (hl : ∀ i σ H, i ≤ xs.length → Pv i σ H → SqL K H a xs)
    (hs : ∀ i x σ H, xs[i]? = some x → Pv i σ H → g x σ H fun σ2 H2 => tb { D with nx := Pv (i + 1), ct := Pv (i + 1), bk := D.nx } σ2 H2) (hd : ∀ σ H, Pv xs.length σ H → D.nx σ H) :
    ∃ W : Nat → Nat → St → Hp → Prop, (∃ m, W 0 m σ H) ∧ ∀ i m σ H, W i m σ H →
      ((Itl K a).stop i H ∧ D.nx σ H) ∨ ((Itl K a).go i H ∧ ∃ N : St → Hp → Prop, (∀ σ' H', N σ' H' → ∃ m', m' < m ∧ W (i + 1) m' σ' H') ∧ ∀ x H', (Itl K a).yld i H x H' → g x σ H' fun σ2 H2 => tb { D with nx := N, ct := N, bk := D.nx } σ2 H2) := by
  refine ⟨fun i m σ H => m = xs.length - i ∧ i ≤ xs.length ∧ Pv i σ H, ⟨xs.length, by simp, Nat.zero_le _, h0⟩, ?_⟩
  rintro i m σ H ⟨rfl, hi, p⟩
  have q := hl i σ H hi p
  by_cases hlt : i < xs.length
  · refine .inr ⟨⟨xs, xs[i], q, by simp [hlt]⟩, Pv (i + 1), fun σ' H' p' => ⟨xs.length - (i + 1), by omega, rfl, hlt, p'⟩, fun x H' y => ?_⟩
    obtain ⟨e, y⟩ := y
    subst e
    exact hs i x σ _ (y xs q) p
  · have e : i = xs.length := by omega
    subst e
    exact .inl ⟨⟨xs, q, Nat.le_refl _⟩, hd σ H p⟩
theorem for_tup {K : PySem.W.Frag} {a : Addr} {xs : List V} {g : TG} {tb : TS} {D : Ends} {σ : St} {H : Hp} (Pv : Nat → St → Hp → Prop) (h0 : Pv 0 σ H) (hl : ∀ i σ H, i ≤ xs.length → Pv i σ H → SqT K H a xs)
    (hs : ∀ i x σ H, xs[i]? = some x → Pv i σ H → g x σ H fun σ2 H2 => tb { D with nx := Pv (i + 1), ct := Pv (i + 1), bk := D.nx } σ2 H2) (hd : ∀ σ H, Pv xs.length σ H → D.nx σ H) :
    ∃ W : Nat → Nat → St → Hp → Prop, (∃ m, W 0 m σ H) ∧ ∀ i m σ H, W i m σ H →
      ((Itt K a).stop i H ∧ D.nx σ H) ∨ ((Itt K a).go i H ∧ ∃ N : St → Hp → Prop, (∀ σ' H', N σ' H' → ∃ m', m' < m ∧ W (i + 1) m' σ' H') ∧ ∀ x H', (Itt K a).yld i H x H' → g x σ H' fun σ2 H2 => tb { D with nx := N, ct := N, bk := D.nx } σ2 H2) := by
  refine ⟨fun i m σ H => m = xs.length - i ∧ i ≤ xs.length ∧ Pv i σ H, ⟨xs.length, by simp, Nat.zero_le _, h0⟩, ?_⟩
  rintro i m σ H ⟨rfl, hi, p⟩
  have q := hl i σ H hi p
  by_cases hlt : i < xs.length
  · refine .inr ⟨⟨xs, xs[i], q, by simp [hlt]⟩, Pv (i + 1), fun σ' H' p' => ⟨xs.length - (i + 1), by omega, rfl, hlt, p'⟩, fun x H' y => ?_⟩
    obtain ⟨e, y⟩ := y
    subst e
    exact hs i x σ _ (y xs q) p
  · have e : i = xs.length := by omega
    subst e
    exact .inl ⟨⟨xs, q, Nat.le_refl _⟩, hd σ H p⟩
theorem for_range {lo : Int} {n : Nat} {g : TG} {tb : TS} {D : Ends} {σ : St} {H : Hp} (Pv : Nat → St → Hp → Prop) (h0 : Pv 0 σ H)
    (hs : ∀ i σ H, i < n → Pv i σ H → g (.int (lo + i)) σ H fun σ2 H2 => tb { D with nx := Pv (i + 1), ct := Pv (i + 1), bk := D.nx } σ2 H2) (hd : ∀ σ H, Pv n σ H → D.nx σ H) :
    ∃ W : Nat → Nat → St → Hp → Prop, (∃ m, W 0 m σ H) ∧ ∀ i m σ H, W i m σ H →
      ((Itr lo n).stop i H ∧ D.nx σ H) ∨ ((Itr lo n).go i H ∧ ∃ N : St → Hp → Prop, (∀ σ' H', N σ' H' → ∃ m', m' < m ∧ W (i + 1) m' σ' H') ∧ ∀ x H', (Itr lo n).yld i H x H' → g x σ H' fun σ2 H2 => tb { D with nx := N, ct := N, bk := D.nx } σ2 H2) := by
  refine ⟨fun i m σ H => m = n - i ∧ i ≤ n ∧ Pv i σ H, ⟨n, by simp, Nat.zero_le _, h0⟩, ?_⟩
  rintro i m σ H ⟨rfl, hi, p⟩
  by_cases hlt : i < n
  · refine .inr ⟨hlt, Pv (i + 1), fun σ' H' p' => ⟨n - (i + 1), by omega, rfl, hlt, p'⟩, fun x H' y => ?_⟩
    obtain ⟨e, y⟩ := y
    subst e y
    exact hs i σ _ hlt p
  · have e : i = n := by omega
    subst e
    exact .inl ⟨Nat.le_refl _, hd σ H p⟩
end L2
namespace L2
open PySem PySem.Spec PyProof.Rows
abbrev R2 := V → V → Hp → VK → Prop
def OpR (X : Cx) (f : Value → Value → Sem Value) (r : R2) : Prop :=
  ∀ (pins : List (Addr × Obj)) (s : Shared) (σ : St) (H : Hp) (x y : V) (v u : Value) (Q : VK), Inv X pins σ H s → RelV x v → RelV y u → r x y H Q →
    wpAny (model X.prog X.w) X.A (f v u) (EP X pins σ Q) X.xe s
def UnR (X : Cx) (f : Value → Sem Value) (r : V → Hp → VK → Prop) : Prop :=
  ∀ (pins : List (Addr × Obj)) (s : Shared) (σ : St) (H : Hp) (x : V) (v : Value) (Q : VK), Inv X pins σ H s → RelV x v → r x H Q →
    wpAny (model X.prog X.w) X.A (f v) (EP X pins σ Q) X.xe s
def CallR (X : Cx) (f : Value) (r : List V → Hp → VK → Prop) : Prop :=
  ∀ (pins : List (Addr × Obj)) (s : Shared) (σ : St) (H : Hp) (xs : List V) (us : List Value) (Q : VK), Inv X pins σ H s → Vals xs us → r xs H Q →
    wpAny (model X.prog X.w) X.A (call f us) (EP X pins σ Q) X.xe s
def tOp (r : R2) (ta tb : TE) : TE := fun σ H Q => ta σ H fun x H1 => tb σ H1 fun y H2 => r x y H2 Q
def tUn (r : V → Hp → VK → Prop) (ta : TE) : TE := fun σ H Q => ta σ H fun x H1 => r x H1 Q
def rI (C : Int → Int → Prop) (g : Int → Int → V) : R2 := fun x y H Q => ∃ i j, x = .int i ∧ y = .int j ∧ C i j ∧ Q (g i j) H
def rI0 (g : Int → Int → V) : R2 := fun x y H Q => ∃ i j, x = .int i ∧ y = .int j ∧ Q (g i j) H
def rU (g : Int → V) : V → Hp → VK → Prop := fun x H Q => ∃ i, x = .int i ∧ Q (g i) H
section
variable {X : Cx} {a b c : Expr} {ta tb tc : TE} {pos : Pos}
theorem binT (ha : PE X a ta) (hb : PE X b tb) {pins : List (Addr × Obj)} {s : Shared} {σ : St} {H : Hp} {R : V → V → Hp → Prop} (I : Inv X pins σ H s)
    (h : ta σ H fun x H1 => tb σ H1 fun y H2 => R x y H2) {Q : Value → Shared → Prop} {f : Value → Value → Sem Value}
    (hf : ∀ v u s2 x y H2, Inv X pins σ H2 s2 → RelV x v → RelV y u → R x y H2 → wpAny (model X.prog X.w) X.A (f v u) Q X.xe s2) :
    wpAny (model X.prog X.w) X.A (eval a X.env) (fun v s₁ => wpAny (model X.prog X.w) X.A (eval b X.env) (fun u s₂ => wpAny (model X.prog X.w) X.A (f v u) Q X.xe s₂) X.xe s₁) X.xe s := by
  refine thn (ha pins s σ H _ I h) fun v s1 ⟨x, H1, I1, r1, q1⟩ => ?_
  refine thn (hb pins s1 σ H1 _ I1 q1) fun u s2 ⟨y, H2, I2, r2, q2⟩ => ?_
  exact hf v u s2 x y H2 I2 r1 r2 q2
theorem pe_op {op : Operator} {r : R2} (ho : OpR X (binaryOp op) r) (ha : PE X a ta) (hb : PE X b tb) : PE X (.BinOp a op b pos) (tOp r ta tb) := by
  intro pins s σ H Q I h
  exact wpAny_BinOp (binT ha hb I h fun v u s2 x y H2 I2 rx ry q => ho pins s2 σ H2 x y v u Q I2 rx ry q)
theorem pe_un {op : UnaryOp} {r : V → Hp → VK → Prop} (ho : UnR X (unaryOp op) r) (ha : PE X a ta) : PE X (.UnaryOp op a pos) (tUn r ta) := by
  intro pins s σ H Q I h
  exact UnaryOp_ (thn (ha pins s σ H _ I h) fun v s1 ⟨x, H1, I1, r1, q1⟩ => ho pins s1 σ H1 x v Q I1 r1 q1)
theorem opI {f : Value → Value → Sem Value} {C : Int → Int → Prop} {g : Int → Int → Int}
    (rule : ∀ (i j : Int) (t u : Tok) (s : Shared) (Q : Value → Shared → Prop) (E : Value → Shared → Prop), C i j → Q (.int (g i j) s.toks) { s with toks := s.toks + 1 } → wpAny (model X.prog X.w) X.A (f (.int i t) (.int j u)) Q E s) :
    OpR X f (rI C fun i j => .int (g i j)) := by
  intro pins s σ H x y v u Q I rx ry h
  obtain ⟨i, j, rfl, rfl, hc, q⟩ := h
  obtain ⟨t, rfl⟩ := rx
  obtain ⟨t', rfl⟩ := ry
  exact rule i j t t' s _ _ hc ⟨.int (g i j), H, I.tok _, ⟨_, rfl⟩, q⟩
theorem opI0 {f : Value → Value → Sem Value} {g : Int → Int → Int}
    (rule : ∀ (i j : Int) (t u : Tok) (s : Shared) (Q : Value → Shared → Prop) (E : Value → Shared → Prop), Q (.int (g i j) s.toks) { s with toks := s.toks + 1 } → wpAny (model X.prog X.w) X.A (f (.int i t) (.int j u)) Q E s) :
    OpR X f (rI0 fun i j => .int (g i j)) := by
  intro pins s σ H x y v u Q I rx ry h
  obtain ⟨i, j, rfl, rfl, q⟩ := h
  obtain ⟨t, rfl⟩ := rx
  obtain ⟨t', rfl⟩ := ry
  exact rule i j t t' s _ _ ⟨.int (g i j), H, I.tok _, ⟨_, rfl⟩, q⟩
theorem opB0 {f : Value → Value → Sem Value} {g : Int → Int → Bool}
    (rule : ∀ (i j : Int) (t u : Tok) (s : Shared) (Q : Value → Shared → Prop) (E : Value → Shared → Prop), Q (.bool (g i j)) s → wpAny (model X.prog X.w) X.A (f (.int i t) (.int j u)) Q E s) :
    OpR X f (rI0 fun i j => .bl (g i j)) := by
  intro pins s σ H x y v u Q I rx ry h
  obtain ⟨i, j, rfl, rfl, q⟩ := h
  obtain ⟨t, rfl⟩ := rx
  obtain ⟨t', rfl⟩ := ry
  exact rule i j t t' s _ _ ⟨.bl (g i j), H, I, rfl, q⟩
def CDiv (i j : Int) : Prop := 0 < j ∧ j < 1073741824
def CMul (i j : Int) : Prop := (-(2 ^ 64) < i ∧ i < 2 ^ 64) ∨ (-(2 ^ 64) < j ∧ j < 2 ^ 64)
theorem CMul.ok {i j : Int} (h : CMul i j) : IntMulOk i j := by
  rcases h with ⟨h1, h2⟩ | ⟨h1, h2⟩
  · exact .of_left (intBits_le_64 h1 h2)
  · exact .of_right (intBits_le_64 h1 h2)
theorem op_add : OpR X (binaryOp .Add) (rI0 fun i j => .int (i + j)) := opI0 fun _ _ _ _ _ _ _ q => add_int q
theorem op_sub : OpR X (binaryOp .Sub) (rI0 fun i j => .int (i - j)) := opI0 fun _ _ _ _ _ _ _ q => sub_int q
theorem op_mul : OpR X (binaryOp .Mult) (rI CMul fun i j => .int (i * j)) := opI fun _ _ _ _ _ _ _ hc q => mul_int q hc.ok
theorem op_fdiv : OpR X (binaryOp .FloorDiv) (rI CDiv fun i j => .int (i / j)) := opI fun i j _ _ _ _ _ hc q => by
  have h1 : (0 : Int) < j := hc.1
  have h2 : j < 1073741824 := hc.2
  exact floordiv_int (by omega) (by rw [Int.fdiv_eq_ediv_of_nonneg i (by omega)]; exact q) (.inl (PyProof.noPylong_small (by omega)))
theorem op_mod : OpR X (binaryOp .Mod) (rI (fun _ j => 0 < j) fun i j => .int (i % j)) := opI fun i j _ _ _ _ _ hc q => by
  have h1 : (0 : Int) < j := hc
  exact mod_int' (by omega) (by rw [Int.fmod_eq_emod_of_nonneg i (by omega)]; exact q)
theorem unI {f : Value → Sem Value} {g : Int → Int}
    (rule : ∀ (i : Int) (t : Tok) (s : Shared) (Q : Value → Shared → Prop) (E : Value → Shared → Prop), Q (.int (g i) s.toks) { s with toks := s.toks + 1 } → wpAny (model X.prog X.w) X.A (f (.int i t)) Q E s) :
    UnR X f (rU fun i => .int (g i)) := by
  intro pins s σ H x v Q I rx h
  obtain ⟨i, rfl, q⟩ := h
  obtain ⟨t, rfl⟩ := rx
  exact rule i t s _ _ ⟨.int (g i), H, I.tok _, ⟨_, rfl⟩, q⟩
theorem un_neg : UnR X (unaryOp .USub) (rU fun i => .int (-i)) := unI fun _ _ _ _ _ q => neg_int q
end
def scal : V → V → Bool
  | .non, .non => true | .non, .int _ => true | .int _, .non => true | .non, .bl _ => true | .bl _, .non => true | .non, .str _ => true | .str _, .non => true
  | .int _, .int _ => true | .bl _, .bl _ => true | .str _, .str _ => true | .byt _, .byt _ => true
  | .int _, .str _ => true | .str _, .int _ => true | .bl _, .str _ => true | .str _, .bl _ => true
  | _, _ => false
def rEq : R2 := fun x y H Q => scal x y = true ∧ Q (.bl (decide (x = y))) H
def rNe : R2 := fun x y H Q => scal x y = true ∧ Q (.bl (!decide (x = y))) H
theorem dec_int {i j : Int} : decide (V.int i = V.int j) = (i == j) := by
  rw [Bool.eq_iff_iff]
  simp
theorem dec_bl {i j : Bool} : decide (V.bl i = V.bl j) = (i == j) := by
  rw [Bool.eq_iff_iff]
  simp
theorem dec_str {i j : Str} : decide (V.str i = V.str j) = (i == j) := by
  rw [Bool.eq_iff_iff]
  simp
theorem dec_byt {i j : Array UInt8} : decide (V.byt i = V.byt j) = (i.toList == j.toList) := by
  rw [Bool.eq_iff_iff]
  cases i
  cases j
  simp
section
variable {X : Cx} {a b c : Expr} {ta tb tc : TE} {pos : Pos}
theorem fin_bl {pins : List (Addr × Obj)} {σ : St} {H : Hp} {s : Shared} {Q : VK} {k k' : Bool} (I : Inv X pins σ H s) (q : Q (.bl k) H) (e : k = k') : EP X pins σ Q (.bool k') s := by
  subst e
  exact ⟨.bl k, H, I, rfl, q⟩
theorem op_eq : OpR X (compareOp .Eq) rEq := by
  intro pins s σ H x y v u Q I rx ry h
  obtain ⟨hs, q⟩ := h
  cases x with
  | non =>
    cases rx
    cases y with
    | non => cases ry; exact PySem.EqNone.eq_none_none (fin_bl I q (by simp))
    | bl j => cases ry; exact PySem.EqNone.eq_none_bool (fin_bl I q (by simp))
    | int j => obtain ⟨t', rfl⟩ := ry; exact PySem.EqNone.eq_none_int (fin_bl I q (by simp))
    | str j => obtain ⟨t', rfl⟩ := ry; exact PySem.EqNone.eq_none_str (fin_bl I q (by simp))
    | _ => exact absurd (show false = true from hs) Bool.false_ne_true
  | bl i =>
    cases rx
    cases y with
    | non => cases ry; exact PySem.EqNone.eq_bool_none (fin_bl I q (by simp))
    | bl j => cases ry; exact eq_bool (fin_bl I q dec_bl)
    | str j => obtain ⟨t', rfl⟩ := ry; exact PySem.EqMixed.eq_bool_str (fin_bl I q (by simp))
    | _ => exact absurd (show false = true from hs) Bool.false_ne_true
  | int i =>
    obtain ⟨t, rfl⟩ := rx
    cases y with
    | non => cases ry; exact PySem.EqNone.eq_int_none (fin_bl I q (by simp))
    | int j => obtain ⟨t', rfl⟩ := ry; exact eq_int (fin_bl I q dec_int)
    | str j => obtain ⟨t', rfl⟩ := ry; exact PySem.EqMixed.eq_int_str (fin_bl I q (by simp))
    | _ => exact absurd (show false = true from hs) Bool.false_ne_true
  | str i =>
    obtain ⟨t, rfl⟩ := rx
    cases y with
    | non => cases ry; exact PySem.EqNone.eq_str_none (fin_bl I q (by simp))
    | bl j => cases ry; exact PySem.EqMixed.eq_str_bool (fin_bl I q (by simp))
    | int j => obtain ⟨t', rfl⟩ := ry; exact PySem.EqMixed.eq_str_int (fin_bl I q (by simp))
    | str j => obtain ⟨t', rfl⟩ := ry; exact eq_str (fin_bl I q dec_str)
    | _ => exact absurd (show false = true from hs) Bool.false_ne_true
  | byt i =>
    obtain ⟨t, rfl⟩ := rx
    cases y with
    | byt j => obtain ⟨t', rfl⟩ := ry; exact PySem.W.eq_bytes (fin_bl I q dec_byt)
    | _ => exact absurd (show false = true from hs) Bool.false_ne_true
  | _ => cases y <;> exact absurd (show false = true from hs) Bool.false_ne_true
theorem op_ne : OpR X (compareOp .NotEq) rNe := by
  intro pins s σ H x y v u Q I rx ry h
  obtain ⟨hs, q⟩ := h
  cases x with
  | non =>
    cases rx
    cases y with
    | non => cases ry; exact PySem.EqNone.ne_none_none (fin_bl I q (by simp))
    | bl j => cases ry; exact PySem.EqNone.ne_none_bool (fin_bl I q (by simp))
    | int j => obtain ⟨t', rfl⟩ := ry; exact PySem.EqNone.ne_none_int (fin_bl I q (by simp))
    | str j => obtain ⟨t', rfl⟩ := ry; exact PySem.EqNone.ne_none_str (fin_bl I q (by simp))
    | _ => exact absurd (show false = true from hs) Bool.false_ne_true
  | bl i =>
    cases rx
    cases y with
    | non => cases ry; exact PySem.EqNone.ne_bool_none (fin_bl I q (by simp))
    | bl j => cases ry; exact ne_bool (fin_bl I q (congrArg not dec_bl))
    | str j => obtain ⟨t', rfl⟩ := ry; exact PySem.EqMixed.ne_bool_str (fin_bl I q (by simp))
    | _ => exact absurd (show false = true from hs) Bool.false_ne_true
  | int i =>
    obtain ⟨t, rfl⟩ := rx
    cases y with
    | non => cases ry; exact PySem.EqNone.ne_int_none (fin_bl I q (by simp))
    | int j => obtain ⟨t', rfl⟩ := ry; exact ne_int (fin_bl I q (congrArg not dec_int))
    | str j => obtain ⟨t', rfl⟩ := ry; exact PySem.EqMixed.ne_int_str (fin_bl I q (by simp))
    | _ => exact absurd (show false = true from hs) Bool.false_ne_true
  | str i =>
    obtain ⟨t, rfl⟩ := rx
    cases y with
    | non => cases ry; exact PySem.EqNone.ne_str_none (fin_bl I q (by simp))
    | bl j => cases ry; exact PySem.EqMixed.ne_str_bool (fin_bl I q (by simp))
    | int j => obtain ⟨t', rfl⟩ := ry; exact PySem.EqMixed.ne_str_int (fin_bl I q (by simp))
    | str j => obtain ⟨t', rfl⟩ := ry; exact ne_str (fin_bl I q (congrArg not dec_str))
    | _ => exact absurd (show false = true from hs) Bool.false_ne_true
  | byt i =>
    obtain ⟨t, rfl⟩ := rx
    cases y with
    | byt j => obtain ⟨t', rfl⟩ := ry; exact PySem.W.ne_bytes (fin_bl I q (congrArg not dec_byt))
    | _ => exact absurd (show false = true from hs) Bool.false_ne_true
  | _ => cases y <;> exact absurd (show false = true from hs) Bool.false_ne_true
theorem op_lt : OpR X (compareOp .Lt) (rI0 fun i j => .bl (decide (i < j))) := opB0 fun _ _ _ _ _ _ _ q => lt_int q
theorem op_le : OpR X (compareOp .LtE) (rI0 fun i j => .bl (decide (i ≤ j))) := opB0 fun _ _ _ _ _ _ _ q => le_int q
theorem op_gt : OpR X (compareOp .Gt) (rI0 fun i j => .bl (decide (j < i))) := opB0 fun _ _ _ _ _ _ _ q => gt_int q
theorem nomark (b : Expr) {op : CmpOp} (h : op ≠ .In := by decide) (h2 : op ≠ .NotIn := by decide) : behindInMarks op b = false := by
  have e1 : (op == CmpOp.In) = false := by cases op <;> first | rfl | exact absurd rfl h
  have e2 : (op == CmpOp.NotIn) = false := by cases op <;> first | rfl | exact absurd rfl h2
  cases b <;> simp [behindInMarks, e1, e2]
theorem pe_cmpR {op : CmpOp} {r : R2} (ho : OpR X (compareOp op) r) (ha : PE X a ta) (hb : PE X b tb) (hm : behindInMarks op b = false) : PE X (.Compare a [op] [b] pos) (tOp r ta tb) := by
  intro pins s σ H Q I h
  exact wpAny_Compare1 (binT ha hb I h fun v u s2 x y H2 I2 rx ry q => ho pins s2 σ H2 x y v u Q I2 rx ry q) hm
def tTest (t : TE) : TT := fun σ H Q => t σ H fun x H' => ∃ k, x = .bl k ∧ Q k H'
theorem pt_cmpR {op : CmpOp} {r : R2} (ho : OpR X (compareOp op) r) (ha : PE X a ta) (hb : PE X b tb) (hm : behindInMarks op b = false) : PT X (.Compare a [op] [b] pos) (tTest (tOp r ta tb)) := by
  intro pins s σ H Q I h
  refine wpAny_isTrue_Compare1 (thn (ha pins s σ H _ I h) fun v s1 ⟨x, H1, I1, r1, q1⟩ => thn (hb pins s1 σ H1 _ I1 q1) fun u s2 ⟨y, H2, I2, r2, q2⟩ =>
    thn (ho pins s2 σ H2 x y v u _ I2 r1 r2 q2) fun c s3 ⟨z, H3, I3, r3, k, e, q3⟩ => ?_) hm
  subst e
  cases r3
  exact wpAny_truthy_bool ⟨H3, I3, q3⟩
def tChain (r r' : R2) (ta tb tc : TE) : TE := fun σ H Q => ta σ H fun x H1 => tb σ H1 fun y H2 => r x y H2 fun z H3 => ∃ k, z = .bl k ∧
  (if k = true then tc σ H3 fun w' H4 => r' y w' H4 Q else Q (.bl false) H3)
theorem pe_chain {op op' : CmpOp} {r r' : R2} (ho : OpR X (compareOp op) r) (ho' : OpR X (compareOp op') r') (ha : PE X a ta) (hb : PE X b tb) (hc : PE X c tc)
    (hm : lastMarks [op, op'] [b, c] = false := by with_unfolding_all rfl) : PE X (.Compare a [op, op'] [b, c] pos) (tChain r r' ta tb tc) := by
  intro pins s σ H Q I h
  refine Compare_chain (thn (ha pins s σ H _ I h) fun v s1 ⟨x, H1, I1, r1, q1⟩ => chain_link (thn (hb pins s1 σ H1 _ I1 q1) fun u s2 ⟨y, H2, I2, r2, q2⟩ =>
    thn (ho pins s2 σ H2 x y v u _ I2 r1 r2 q2) fun d s3 ⟨z, H3, I3, r3, k, e, q3⟩ => ?_)) hm
  subst e
  cases r3
  refine wpAny_truthy_bool ?_
  cases k with
  | false => exact ite_ff ⟨.bl false, H3, I3, rfl, q3⟩
  | true => exact ite_tt (chain_last (thn (hc pins s3 σ H3 _ I3 q3) fun w' s4 ⟨z', H4, I4, r4, q4⟩ => ho' pins s4 σ H4 y z' u w' Q I4 r2 r4 q4))
theorem line63 : (sizeLine : Nat) < 2 ^ 63 := by rw [sizeLine_eq]; decide
theorem vals1 {x : V} {us : List Value} (r : Vals [x] us) : ∃ u, us = [u] ∧ RelV x u := by
  cases r with
  | cons r1 r2 => cases r2; exact ⟨_, rfl, r1⟩
end
end L2
namespace L2
open PySem PySem.Spec PyProof.Rows
structure ObjM (h : Heap) (x dx C : Addr) (mA : Str → Option Value) : Prop where
  obj : h.get? x = some (PySem.W.instObj C dx)
  ns : h.Ns1 dx mA
  ne : dx ≠ x
theorem lookIn_ns {h : Heap} {dx : Addr} {mA : Str → Option Value} (n : h.Ns1 dx mA) : ∃ od, h.get? dx = some od ∧ ∀ name, PySem.W.lookIn name od = some (mA name) := by
  obtain ⟨o, es, ep, ho, hd, hk, _, hm⟩ := n
  refine ⟨o, ho, fun name => ?_⟩
  have e := hm name
  unfold nsFind findBy at e
  rw [← Array.find?_toList] at e
  unfold PySem.W.lookIn
  rw [hd]
  dsimp only
  split
  · rename_i y q
    rw [q] at e
    exact congrArg some e
  · rename_i q
    rw [q] at e
    have a : es.toList.any (·.refKey) = false := by
      rw [List.any_eq_false]
      intro y hy
      obtain ⟨z, t, hkey⟩ := hk y (Array.mem_toList_iff.mp hy)
      simp [DictEntry.refKey, hkey]
    have a' : ¬ es.toList.any (·.refKey) = true := by rw [a]; exact Bool.false_ne_true
    rw [if_neg a']
    exact congrArg some e
theorem ObjM.look {h : Heap} {x dx C : Addr} {mA : Str → Option Value} (I : ObjM h x dx C mA) : ∃ od, PySem.W.InstAt h x (PySem.W.instObj C dx) C (some od) ∧ ∀ name, PySem.W.lookIn name od = some (mA name) :=
  let ⟨od, ho, hl⟩ := lookIn_ns I.ns
  ⟨od, ⟨I.obj, rfl, rfl, ho⟩, hl⟩
section
variable {prog : Program} {w : World} {A : Around} {E : Value → Shared → Prop} {s : Shared} {K : PySem.W.Frag} {x dx C f : Addr} {mA : Str → Option Value} {name : Str} {v : Value}
theorem get_map {expr : Bool} {Q : Value → Shared → Prop} (X : K.In s.heap) (I : ObjM s.heap x dx C mA) (hg : PySem.W.plainGet K C name = true) (hh : PySem.W.hasDictIn K C = true)
    (ha : PySem.W.findIn K (.ref C) name = some none) (hv : mA name = some v) (hv' : PySem.W.handedIn v = true) (h : Q v { s with toks := s.toks + 1 }) :
    wpAny (model prog w) A (getAttr (.ref x) name expr) Q E s := by
  obtain ⟨od, J, hl⟩ := I.look
  exact PySem.W.get_value X J (PySem.W.plainGet_of hg).1 (PySem.W.findObj_own hh ha rfl (by rw [hl, hv])) hv' h
theorem set_map {ns : List Str} {Q : Unit → Shared → Prop} (X : K.In s.heap) (I : ObjM s.heap x dx C mA)
    (hs : PySem.W.findIn K (.ref C) "__setattr__" = some (some (.builtin "object.__setattr__"))) (hp : PySem.W.plainOver K C = true) (ht : PySem.W.takerIn K C name = some none) (hh : PySem.W.hasDictIn K C = true)
    (hw : PySem.Within mA ns) (hsz : ns.length ≤ sizeLine)
    (h : ∀ h', ObjM h' x dx C (fun y => if y = name then some v else mA y) → Heap.SameBut dx s.heap h' → Q () { s with heap := h', toks := s.toks + 2 }) :
    wpAny (model prog w) A (setAttr (.ref x) name v) Q E s := by
  obtain ⟨od, J, hl⟩ := I.look
  refine PySem.W.set_plain X J hs (PySem.W.osa_open (s := { s with toks := s.toks + 1 }) (r := none) X J hp ht fun b => ?_)
  obtain ⟨cd, hc, hd'⟩ := PySem.W.any_some hh
  have hx : s.heap.get? x = some ⟨.ref C, some dx, .plain, #[]⟩ := I.obj
  refine wpAny_bind (wpAny_pure (wpAny_bind (wpAny_bind (wpAny_loadPart hx (wpAny_bind (PySem.W.Looks.here (s := { s with toks := s.toks + 1 }) (PySem.W.looks_clsIn X hc) ?_))))))
  rw [hd']
  refine wpAny_pure (a := some dx) (wpAny_bind (wpAny_pure (wpAny_bind ?_)))
  refine wpAny_nsSet1 (s := { s with toks := s.toks + 1 }) I.ns fun h' hn2 hs2 => ?_
  obtain ⟨oD, esD, epD, hoD, hdD, hcD⟩ := hn2.count (PySem.Within.cons name v hw)
  refine wpAny_bind (wpAny_lookBehind hoD (by rw [hdD]; exact pastItsLine_dict (Nat.le_trans hcD (by rw [List.length_cons]; omega))) ?_)
  exact wpAny_pure (h _ ⟨(hs2.2 _ (Ne.symm I.ne)).trans I.obj, hn2, I.ne⟩ hs2)
theorem make_map {R : Result → Shared → Prop} {vs : List Value} {kw : List (Str × Value)} (X : K.In s.heap) (hm : PySem.W.makesIn K C = true)
    (hi : PySem.W.findIn K (.ref C) "__init__" = some (some (.ref f))) (hf : PySem.W.typeIn K (.ref f) = some (.type "function"))
    (h : codeAny (model prog w) (A.under (.builtin "type.__call__" ⟨.ref C :: vs, kw⟩)) (.call (.ref f) ⟨.ref (s.heap.objs.size + 1) :: vs, kw⟩) (PySem.W.InitBack (s.heap.objs.size + 1) R)
      { s with heap := (s.heap.push PySem.W.emptyDict).push (PySem.W.instObj C s.heap.objs.size) }) :
    codeAny (model prog w) A (.call (.ref C) ⟨vs, kw⟩) R s := by
  obtain ⟨hh, g, d, t, os⟩ := s
  exact PySem.W.make_core (PySem.W.makes_of X hm) (PySem.W.looks_findIn X hi) (fun self => PySem.W.bind_fn X self hf) (.inl rfl) h
end
def putF (f : Str) (v : V) : List (Str × V) → List (Str × V)
  | [] => [(f, v)]
  | (g, x) :: r => if g = f then (g, v) :: r else (g, x) :: putF f v r
theorem lookup_putF (f g : Str) (v : V) : ∀ fs : List (Str × V), (putF f v fs).lookup g = if g = f then some v else fs.lookup g
  | [] => by
    show List.lookup g [(f, v)] = _
    by_cases h : g = f
    · have hb : (g == f) = true := beq_iff_eq.mpr h
      simp only [List.lookup, hb, if_pos h]
    · have hb : (g == f) = false := beq_eq_false_iff_ne.mpr h
      simp only [List.lookup, hb, if_neg h]
  | (k, x) :: r => by
    have ih := lookup_putF f g v r
    rw [show putF f v ((k, x) :: r) = (if k = f then (k, v) :: r else (k, x) :: putF f v r) from rfl]
    by_cases hk : k = f
    · rw [if_pos hk]
      by_cases h : g = k
      · have hb : (g == k) = true := beq_iff_eq.mpr h
        simp only [List.lookup, hb, if_pos (h.trans hk)]
      · have hb : (g == k) = false := beq_eq_false_iff_ne.mpr h
        simp only [List.lookup, hb, if_neg (fun e : g = f => h (e.trans hk.symm))]
    · rw [if_neg hk]
      by_cases h : g = k
      · have hb : (g == k) = true := beq_iff_eq.mpr h
        simp only [List.lookup, hb, if_neg (fun e : g = f => hk (h.symm.trans e))]
      · have hb : (g == k) = false := beq_eq_false_iff_ne.mpr h
        simp only [List.lookup, hb]
        exact ih
theorem keys_putF (f : Str) (v : V) : ∀ fs : List (Str × V), f ∈ (putF f v fs).map (·.1) ∧ ∀ g, g ∈ fs.map (·.1) → g ∈ (putF f v fs).map (·.1)
  | [] => ⟨by simp [putF], fun g h => by simp at h⟩
  | (k, x) :: r => by
    obtain ⟨i1, i2⟩ := keys_putF f v r
    rw [show putF f v ((k, x) :: r) = (if k = f then (k, v) :: r else (k, x) :: putF f v r) from rfl]
    by_cases hk : k = f
    · rw [if_pos hk]
      subst hk
      exact ⟨by simp, fun g h => by simpa using h⟩
    · rw [if_neg hk]
      refine ⟨?_, fun g h => ?_⟩
      · rw [List.map_cons]
        exact List.mem_cons_of_mem _ i1
      · rw [List.map_cons] at h ⊢
        rcases List.mem_cons.mp h with e | e
        · exact List.mem_cons.mpr (.inl e)
        · exact List.mem_cons_of_mem _ (i2 g e)
theorem length_putF (f : Str) (v : V) : ∀ fs : List (Str × V), (putF f v fs).length ≤ fs.length + 1
  | [] => by simp [putF]
  | (k, x) :: r => by
    have ih := length_putF f v r
    rw [show putF f v ((k, x) :: r) = (if k = f then (k, v) :: r else (k, x) :: putF f v r) from rfl]
    by_cases hk : k = f
    · rw [if_pos hk, List.length_cons, List.length_cons]; omega
    · rw [if_neg hk, List.length_cons, List.length_cons]; omega
theorem RelO.some_of {v : V} {o : Option Value} (r : RelO (some v) o) : ∃ u, o = some u ∧ RelV v u := by
  cases o with
  | none => exact (show False from r).elim
  | some u => exact ⟨u, rfl, r⟩
theorem handed_of {v : V} {u : Value} (r : RelV v u) : PySem.W.handedIn u = true := by
  cases v with
  | non => cases (show u = Value.none from r); rfl
  | bl b => cases (show u = Value.bool b from r); rfl
  | int i => obtain ⟨t, e⟩ := (show ∃ t, u = Value.int i t from r); cases e; rfl
  | str x => obtain ⟨t, e⟩ := (show ∃ t, u = Value.str x t from r); cases e; rfl
  | byt b => obtain ⟨t, e⟩ := (show ∃ t, u = Value.bytes b t from r); cases e; rfl
  | flt b => obtain ⟨t, e⟩ := (show ∃ t, u = Value.float b t from r); cases e; rfl
  | ref a => cases (show u = Value.ref a from r); rfl
  | ty n => cases (show u = Value.type n from r); rfl
section
variable {P : Program} {w : World} {H H' : Hp} {h h' : Heap} {a C dx : Addr} {fs fs' : List (Str × V)}
theorem ins_get (hok : HOk P w H h) (e : H a = some (.ins C dx fs)) : ∃ mA, ObjM h a dx C mA ∧ (∀ f, RelO (fs.lookup f) (mA f)) ∧ PySem.Within mA (fs.map (·.1)) ∧ fs.length ≤ 1000 ∧ H dx = some (.own a) := by
  obtain ⟨d, z, ne, ob, mA, n, r, q⟩ := (show ObjOk P w H h a (.ins C dx fs) from hok a _ e)
  exact ⟨mA, ⟨ob, n, ne⟩, r, q, z, d⟩
end
structure Cls (K : PySem.W.Frag) (C : Addr) : Prop where
  pg : PySem.W.plainGet K C Str.empty = true
  hd : PySem.W.hasDictIn K C = true
  po : PySem.W.plainOver K C = true
  sa : PySem.W.findIn K (.ref C) "__setattr__" = some (some (.builtin "object.__setattr__"))
theorem Cls.get {K : PySem.W.Frag} {C : Addr} (c : Cls K C) (f : Str) : PySem.W.plainGet K C f = true := c.pg
def NoAttr (K : PySem.W.Frag) (C : Addr) (f : Str) : Prop := PySem.W.findIn K (.ref C) f = some none
theorem NoAttr.taker {K : PySem.W.Frag} {C : Addr} {f : Str} (n : NoAttr K C f) : PySem.W.takerIn K C f = some none := by
  unfold PySem.W.takerIn
  rw [show PySem.W.findIn K (.ref C) f = some none from n]
  rfl
section
variable {X : Cx} {pins : List (Addr × Obj)} {σ : St} {H : Hp} {s : Shared} {a C dx : Addr} {fs : List (Str × V)} {f : Str} {v : V} {A : Around} {E : Value → Shared → Prop}
theorem getattr_ok {b : Bool} {Q : Value → Shared → Prop} (I : Inv X pins σ H s) (e : H a = some (.ins C dx fs)) (c : Cls X.K C) (n : NoAttr X.K C f) (l : fs.lookup f = some v)
    (h : ∀ u s', Inv X pins σ H s' → RelV v u → Q u s') : wpAny (model X.prog X.w) A (getAttr (.ref a) f b) Q E s := by
  obtain ⟨mA, O, r, _, _, _⟩ := ins_get I.hok e
  obtain ⟨u, hu, ru⟩ := RelO.some_of (v := v) (o := mA f) (by rw [← l]; exact r f)
  exact get_map I.kIn O (c.get f) c.hd n hu (handed_of ru) (h u _ (I.tok _) ru)
theorem setattr_ok {y : V} {u : Value} {Q : Unit → Shared → Prop} (I : Inv X pins σ H s) (e : H a = some (.ins C dx fs)) (c : Cls X.K C) (n : NoAttr X.K C f) (hl : fs.length < 1000) (ry : RelV y u)
    (h : ∀ s', Inv X pins σ (upd H a (.ins C dx (putF f y fs))) s' → Q () s') : wpAny (model X.prog X.w) A (setAttr (.ref a) f u) Q E s := by
  obtain ⟨mA, O, r, wi, _, ho⟩ := ins_get I.hok e
  have hz : (fs.map (·.1)).length ≤ sizeLine := by rw [List.length_map, sizeLine_eq]; omega
  refine set_map I.kIn O c.sa c.po n.taker c.hd wi hz fun h' O' sb => h _ ?_
  have hd : ∃ o, h'.get? dx = some o := let ⟨o, _, _, e', _⟩ := O'.ns; ⟨o, e'⟩
  refine I.write (x := a) (e := dx) (by rw [e]; exact True.intro) (.inr ho) (fun b q hb z => (sb.2 b hb).trans z) hd ?_
  refine ⟨by rw [upd_ne O.ne]; exact ho, ?_, O.ne, O'.obj, _, O'.ns, fun g => ?_, fun g hg => ?_⟩
  · have := length_putF f y fs; omega
  · show RelO ((putF f y fs).lookup g) (if g = f then some u else mA g)
    rw [lookup_putF]
    by_cases q : g = f
    · rw [if_pos q, if_pos q]; exact ry
    · rw [if_neg q, if_neg q]; exact r g
  · by_cases q : g = f
    · rw [q]; exact (keys_putF f y fs).1
    · refine (keys_putF f y fs).2 g (wi g fun z => hg ?_)
      show (if g = f then some u else mA g) = none
      rw [if_neg q]; exact z
theorem Inv.made (I : Inv X pins σ H s) : Inv X pins σ (upd (upd H s.heap.objs.size (.own (s.heap.objs.size + 1))) (s.heap.objs.size + 1) (.ins C s.heap.objs.size []))
    { s with heap := (s.heap.push PySem.W.emptyDict).push (PySem.W.instObj C s.heap.objs.size) } := by
  have e1 : (s.heap.push PySem.W.emptyDict).get? s.heap.objs.size = some PySem.W.emptyDict := Heap.get?_push_size s.heap rfl
  have e2 : ((s.heap.push PySem.W.emptyDict).push (PySem.W.instObj C s.heap.objs.size)).get? (s.heap.objs.size + 1) = some (PySem.W.instObj C s.heap.objs.size) := by
    have := Heap.get?_push_size (s.heap.push PySem.W.emptyDict) (o := PySem.W.instObj C s.heap.objs.size) rfl
    rwa [Heap.size_push] at this
  have e3 : (s.heap.push PySem.W.emptyDict).Ns s.heap.objs.size (fun _ => none) := ⟨PySem.W.emptyDict, #[], _, e1, rfl, (fun e he => absurd he (by simp)), fun _ => rfl⟩
  have I1 := I.laid (a := s.heap.objs.size) (o := .own (s.heap.objs.size + 1)) (h' := s.heap.push PySem.W.emptyDict) (t' := s.toks) (fun b u q => Heap.get?_push_of_some _ q) (Nat.le_refl _) ⟨_, e1⟩
  refine I1.laid (a := s.heap.objs.size + 1) (o := .ins C s.heap.objs.size []) (t' := s.toks) (fun b u q => Heap.get?_push_of_some _ q) (Nat.le_of_eq (Heap.size_push _ _)) ?_
  have ne : s.heap.objs.size ≠ s.heap.objs.size + 1 := Nat.ne_of_lt (Nat.lt_succ_self _)
  refine ⟨by rw [upd_ne ne, upd_same], Nat.zero_le _, ne, e2, fun _ => none, (Heap.Ns1.of_empty e3).at fun o q => Heap.get?_push_of_some _ q, fun _ => True.intro, fun y hy => absurd rfl hy⟩
theorem attr_of {prog : Program} {w : World} {env : Env} {e : Expr} {f : Str} {pos : Pos} {s : Shared} {Q : Value → Shared → Prop} (hb : attributeBase e f env (eval e env) = eval e env)
    (h : wpAny (model prog w) A (eval e env) (fun o s₁ => wpAny (model prog w) A (getAttr o f true) Q E s₁) E s) : wpAny (model prog w) A (eval (.Attribute e f pos) env) Q E s :=
  Attribute_any_ h (by rw [arm_eval_Attribute, hb])
end
def tFld (K : PySem.W.Frag) (ta : TE) (f : Str) : TE := fun σ H Q => ta σ H fun x H1 => ∃ a C dx fs v, x = .ref a ∧ H1 a = some (.ins C dx fs) ∧ Cls K C ∧ NoAttr K C f ∧ fs.lookup f = some v ∧ Q v H1
def sFld (K : PySem.W.Frag) (ta tv : TE) (f : Str) : TS := fun D σ H => tv σ H fun y H1 => ta σ H1 fun x H2 => ∃ a C dx fs, x = .ref a ∧ H2 a = some (.ins C dx fs) ∧ Cls K C ∧ NoAttr K C f ∧ fs.length < 1000 ∧
  D.nx σ (upd H2 a (.ins C dx (putF f y fs)))
section
variable {X : Cx} {o e value : Expr} {f : Str} {pos pos' tpos : Pos} {ta tv : TE}
theorem pe_fld (he : PE X e ta) (hb : attributeBase e f X.env (eval e X.env) = eval e X.env) : PE X (.Attribute e f pos) (tFld X.K ta f) := by
  intro pins s σ H Q I h
  refine attr_of hb (thn (he pins s σ H _ I h) fun u s1 ⟨x, H1, I1, rx, a, C, dx, fs, v, ex, ea, c, n, l, q⟩ => ?_)
  subst ex
  obtain rfl : u = Value.ref a := rx
  exact getattr_ok I1 ea c n l fun u' s2 I2 ru => ⟨v, H1, I2, ru, q⟩
theorem ps_fld (ha : PE X o ta) (hv : PE X value tv) (hs : swapsWith value (some (.Attribute o f pos')) pos.line X.env = pure false) : PS X (.Assign [.Attribute o f pos'] value pos) (sFld X.K ta tv f) := by
  intro pins s σ H D I h
  refine plainObj_wpAny_Assign_Attribute (thn (hv pins s σ H _ I h) fun u s1 ⟨y, H1, I1, ry, q⟩ => thn (ha pins s1 σ H1 _ I1 q) fun ov s2 ⟨x, H2, I2, rx, a, C, dx, fs, ex, ea, c, n, l, q2⟩ => ?_) hs
  subst ex
  obtain rfl : ov = Value.ref a := rx
  exact setattr_ok I2 ea c n l ry fun s3 I3 => ⟨σ, _, I3, q2⟩
end
section
variable {X : Cx} {pins : List (Addr × Obj)} {σ : St} {H : Hp} {s : Shared} {A : Around} {E : Value → Shared → Prop} {Q : Value → Shared → Prop} {c : Value} {b : Bool}
end
end L2
namespace L2
open PySem PySem.Spec PyProof.Rows
structure Room (k : Nat) (A : Around) : Prop where
  hd : A.handled = none
  dp : A.depth + 3 * k + 5 < recursionLimit
  un : A.units + 16 * k + 200 < cLine
theorem Room.mono {j k : Nat} {A : Around} (r : Room k A) (h : j ≤ k) : Room j A := ⟨r.hd, by have := r.dp; omega, by have := r.un; omega⟩
theorem Room.deeper {k : Nat} {A : Around} (r : Room (k + 1) A) (env : Env) : Room k (A.deeper env) :=
  ⟨r.hd, by have := r.dp; show A.depth + 1 + 3 * k + 5 < _; omega, by have := r.un; show A.units + 3 + 16 * k + 200 < _; omega⟩
theorem make_depth {A : Around} {C : Addr} {us : List Value} {kw : List (Str × Value)} : (A.under (.builtin "type.__call__" ⟨.ref C :: us, kw⟩)).depth = A.depth + 1 := by
  first | rfl | simp [Around.under, Code.weight, Code.isCreation, Code.isGuard, Code.isCaller, Code.frames, Code.isFrame, guardIds]
theorem make_units {A : Around} {C : Addr} {us : List Value} {kw : List (Str × Value)} : (A.under (.builtin "type.__call__" ⟨.ref C :: us, kw⟩)).units = A.units + 1 := by
  first | rfl | simp [Around.under, Code.cUnits, Code.frames, Code.isFrame]
theorem Room.make {k : Nat} {A : Around} (r : Room (k + 1) A) (C : Addr) (us : List Value) (kw : List (Str × Value)) : Room k (A.under (.builtin "type.__call__" ⟨.ref C :: us, kw⟩)) :=
  ⟨r.hd, by have := r.dp; rw [make_depth]; omega, by have := r.un; rw [make_units]; omega⟩
theorem Room.depth {k : Nat} {A : Around} (r : Room k A) : A.depth < recursionLimit := by have := r.dp; omega
theorem Room.units {k : Nat} {A : Around} (r : Room k A) : A.units + 64 < cLine := by have := r.un; omega
def tNil : TA := fun _ H Q => Q [] H
def tCons (ta : TE) (tr : TA) : TA := fun σ H Q => ta σ H fun x H1 => tr σ H1 fun xs H2 => Q (x :: xs) H2
section
variable {X : Cx} {e : Expr} {es : List Expr} {te : TE} {t : TA} {pos : Pos}
theorem pa_nil : PA X [] tNil := fun _ _ _ _ H Q I h => Calls.spliced_nil ⟨[], H, I, .nil, h⟩
theorem pa_cons (ha : PE X e te) (hr : PA X es t) (hs : starEach (e :: es) X.env = (false, eval e X.env) :: starEach es X.env := by rfl) : PA X (e :: es) (tCons te t) := by
  intro pos pins s σ H Q I h
  rw [hs]
  show wpAny _ _ (spliced ((false, eval e X.env) :: backTo pos (starEach es X.env))) _ _ s
  refine Calls.spliced_cons (thn (ha pins s σ H _ I h) fun u s1 ⟨x, H1, I1, r1, q1⟩ => ?_)
  exact thn (hr pos pins s1 σ H1 _ I1 q1) fun us s2 ⟨xs, H2, I2, r2, q2⟩ => ⟨x :: xs, H2, I2, .cons r1 r2, q2⟩
def tLst (t : TA) : TE := fun σ H Q => t σ H fun xs H1 => xs.length ≤ sizeLine ∧ ∀ p, H1 p = none → Q (.ref p) (upd H1 p (.lst xs))
theorem pe_lst (h : PA X es t) : PE X (.List es pos) (tLst t) := by
  intro pins s σ H Q I hq
  refine wpAny_List_spliced (thn (h pos pins s σ H _ I hq) fun us s1 ⟨xs, H1, I1, r, z, q⟩ => ⟨by rw [← r.length]; exact z, ?_⟩)
  have hf : H1 s1.heap.objs.size = none := I1.hok.fresh (Nat.le_refl _)
  refine ⟨.ref s1.heap.objs.size, upd H1 s1.heap.objs.size (.lst xs), I1.laid (t' := s1.toks) (fun b u e => Heap.get?_push_of_some _ e) (Nat.le_refl _) ?_, rfl, q _ hf⟩
  exact ⟨z, us, 0, r, Heap.get?_push_size _ rfl⟩
end
abbrev Sp := List V → Hp → VK → XK → Prop
abbrev CXT := List Env → Hp → Shared → XK → Value → Shared → Prop
structure Env0 (P : Program) (w : World) (K : PySem.W.Frag) (mg : Str → Option Value) (base : Heap) (A : Around) (outer : List Env) (s : Shared) (H : Hp) : Prop where
  frames : A.frames = some outer
  mod : Mod K mg base
  bs : ∀ b o, base.get? b = some o → s.heap.get? b = some o ∧ H b = none
  bsz : base.objs.size ≤ s.heap.objs.size
  funs : s.heap.FunFrames base outer
  frf : ∀ b ∈ frs outer, H b = none
  hok : HOk P w H s.heap
  bare : AllBare s.gens
def CE (outer : List Env) (P : Program) (w : World) (H : Hp) (s : Shared) (Q : VK) (u : Value) (s' : Shared) : Prop :=
  ∃ v H', s'.os = s.os ∧ AllBare s'.gens ∧ Un (frs outer) [] H H' s.heap s'.heap ∧ HOk P w H' s'.heap ∧ RelV v u ∧ Q v H'
def CR (CX : CXT) (outer : List Env) (P : Program) (w : World) (H : Hp) (s : Shared) (Q : VK) (E : XK) (r : Result) (s' : Shared) : Prop :=
  match r with
  | .ok (.ret u) => CE outer P w H s Q u s'
  | .ok _ => False
  | .error e => CX outer H s E e s'
structure FnOk (P : Program) (w : World) (K : PySem.W.Frag) (mg : Str → Option Value) (base : Heap) (CX : CXT) (k : Nat) (f : Addr) (fd : FuncData) (ps : List Str) (sp : Sp) : Prop where
  len : ∀ vs H Q E, sp vs H Q E → vs.length = ps.length
  run : ∀ (A : Around) (outer : List Env) (s : Shared) (H : Hp) (args : Args) (us : List Value) (vs : List V) (Q : VK) (E : XK), Room k A → Env0 P w K mg base A outer s H → BindsTo s fd args (ps.zip us) → Vals vs us → sp vs H Q E →
    codeAny (model P w) A (.call (.ref f) args) (CR CX outer P w H s Q E) s
theorem FnOk.mono {P : Program} {w : World} {K : PySem.W.Frag} {mg : Str → Option Value} {base : Heap} {CX : CXT} {j k : Nat} {f : Addr} {fd : FuncData} {ps : List Str} {sp : Sp} (F : FnOk P w K mg base CX j f fd ps sp) (h : j ≤ k) :
    FnOk P w K mg base CX k f fd ps sp := ⟨F.len, fun A outer s H args us vs Q E hr => F.run A outer s H args us vs Q E (hr.mono h)⟩
theorem Env0.make {P : Program} {w : World} {K : PySem.W.Frag} {mg : Str → Option Value} {base : Heap} {A : Around} {outer : List Env} {s : Shared} {H : Hp} (e : Env0 P w K mg base A outer s H) (C : Addr) (us : List Value) (kw : List (Str × Value)) :
    Env0 P w K mg base (A.under (.builtin "type.__call__" ⟨.ref C :: us, kw⟩)) outer s H := ⟨by first | exact e.frames | (simpa [Around.under, Code.envs, Code.isFrame, pushEnvs] using e.frames), e.mod, e.bs, e.bsz, e.funs, e.frf, e.hok, e.bare⟩
section
variable {X : Cx} {pins : List (Addr × Obj)} {σ : St} {H : Hp} {s s' : Shared}
theorem Inv.env0 (I : Inv X pins σ H s) : Env0 X.prog X.w X.K X.mg X.base X.A X.stack s H :=
  ⟨I.ok.frames, I.ok.mod, I.bs, Nat.le_trans I.ok.bsz I.sz, I.stack, I.stkFree, I.hok, I.bare⟩
theorem Inv.after {Q : VK} {u : Value} (I : Inv X pins σ H s) (h : CE X.stack X.prog X.w H s Q u s') : EP X pins σ Q u s' := by
  obtain ⟨v, H', os, bare, un, hok, r, q⟩ := h
  obtain ⟨hh, g, d, t, os'⟩ := s'
  obtain rfl : os' = s.os := os
  exact ⟨v, H', I.call (h' := hh) (g' := g) (d' := d) (t' := t) (ch := []) un hok bare (fun b z => absurd z (by simp)), r, q⟩
end
def tCall (sp : Sp) (dvs : List V) (E : XK) (t : TA) : TE := fun σ H Q => t σ H fun vs H1 => sp (vs ++ dvs) H1 Q E
def tMake (C : Addr) (sp : Sp) (dvs : List V) (E : XK) (t : TA) : TE := fun σ H Q => t σ H fun vs H1 => ∀ x dx, H1 x = none → H1 dx = none → dx ≠ x →
  sp (.ref x :: (vs ++ dvs)) (upd (upd H1 dx (.own x)) x (.ins C dx [])) (fun v H2 => v = .non ∧ Q (.ref x) H2) E
def Binds (K : PySem.W.Frag) (fd : FuncData) (ps : List Str) (ds : List Value) : Prop :=
  ∀ (s : Shared) (us : List Value), K.In s.heap → (us ++ ds).length = ps.length → BindsTo s fd ⟨us, []⟩ (ps.zip (us ++ ds))
theorem Binds.all {K : PySem.W.Frag} {fd : FuncData} {ps : List Str} (h : ∀ us : List Value, us.length = ps.length → bindArgs fd ⟨us, []⟩ = pure (ps.zip us)) : Binds K fd ps [] := fun s us _ hl => by
  rw [List.append_nil] at hl ⊢
  exact .of_eq (h us hl)
def Passes (CX : CXT) (X : Cx) (E : XK) : Prop := ∀ (pins : List (Addr × Obj)) (σ : St) (H : Hp) (s : Shared) (e : Value) (s' : Shared), Inv X pins σ H s → CX X.stack H s E e s' → X.xe e s'
section
variable {X : Cx} {CX : CXT} {k : Nat} {f C : Addr} {fd : FuncData} {ps : List Str} {sp : Sp} {dvs : List V} {ds : List Value} {E : XK} {x m : Str} {p pos apos : Pos} {e o : Expr} {es : List Expr} {ta : TE} {t : TA}
theorem run_fn {pins : List (Addr × Obj)} {σ : St} {H : Hp} {s : Shared} {Q : VK} {us : List Value} {vs : List V} (F : FnOk X.prog X.w X.K X.mg X.base CX k f fd ps sp) (hr : Room k X.A) (hb : Binds X.K fd ps ds) (hd : Vals dvs ds) (hx : Passes CX X E)
    (I : Inv X pins σ H s) (r : Vals vs us) (h : sp (vs ++ dvs) H Q E) : wpAny (model X.prog X.w) X.A (call (.ref f) us) (EP X pins σ Q) X.xe s := by
  have r2 : Vals (vs ++ dvs) (us ++ ds) := r.append hd
  have hl : (us ++ ds).length = ps.length := by rw [← r2.length]; exact F.len _ _ _ _ h
  refine wpAny_call (codeAny_mono (F.run X.A X.stack s H ⟨us, []⟩ (us ++ ds) (vs ++ dvs) Q E hr I.env0 (hb s us I.kIn hl) r2 h) fun r s' hq => ?_)
  cases r with
  | error e => exact hx pins σ H s e s' I hq
  | ok fl =>
    cases fl with
    | ret u => exact I.after hq
    | next => exact False.elim hq
    | brk => exact False.elim hq
    | cont => exact False.elim hq
theorem pe_call (F : FnOk X.prog X.w X.K X.mg X.base CX k f fd ps sp) (hr : Room k X.A) (hg : Gl X x) (hm : X.mg x = some (.ref f)) (hk : PySem.W.keepIn X.K (.ref f) = true) (hb : Binds X.K fd ps ds) (hd : Vals dvs ds) (hx : Passes CX X E)
    (ha : PA X (e :: es) t) (hdb : (x == ("__debug__" : Str)) = false := by decide) (he : starEach (e :: es) X.env = (false, eval e X.env) :: starEach es X.env := by rfl) (hpl : (backTo pos (starEach es X.env)).any (·.1) = false := by rfl) :
    PE X (.Call (.Name x p) (e :: es) [] pos) (tCall sp dvs E t) := by
  intro pins s σ H Q I h
  refine wpAny_Call_Name_kw (ld_glob I hg hm ?_ hdb)
  refine PySem.W.callWith_K (h₀ := X.base) I.ok.mod.kin hk (thn (ha pos pins s σ H _ I h) fun us s1 ⟨vs, H1, I1, r, q⟩ => ⟨I1.kIn, ?_⟩) he hpl
  exact run_fn F hr hb hd hx I1 r q
structure Mk (K : PySem.W.Frag) (C f : Addr) : Prop where
  makes : PySem.W.makesIn K C = true
  init : PySem.W.findIn K (.ref C) "__init__" = some (some (.ref f))
  fn : PySem.W.isFn K (.ref f) = true
  kp : PySem.W.keepIn K (.ref C) = true
theorem run_make {pins : List (Addr × Obj)} {σ : St} {H : Hp} {s : Shared} {Q : VK} {us : List Value} {vs : List V} (M : Mk X.K C f) (F : FnOk X.prog X.w X.K X.mg X.base CX k f fd ps sp) (hr : Room (k + 1) X.A) (hb : Binds X.K fd ps ds) (hd : Vals dvs ds)
    (hx : Passes CX X E) (I : Inv X pins σ H s) (r : Vals vs us)
    (h : ∀ x dx, H x = none → H dx = none → dx ≠ x → sp (.ref x :: (vs ++ dvs)) (upd (upd H dx (.own x)) x (.ins C dx [])) (fun v H2 => v = .non ∧ Q (.ref x) H2) E) :
    wpAny (model X.prog X.w) X.A (call (.ref C) us) (EP X pins σ Q) X.xe s := by
  have hq := h (s.heap.objs.size + 1) s.heap.objs.size (I.hok.fresh (Nat.le_succ _)) (I.hok.fresh (Nat.le_refl _)) (Nat.ne_of_lt (Nat.lt_succ_self _))
  have I2 := Inv.made (C := C) I
  have r2 : Vals (V.ref (s.heap.objs.size + 1) :: (vs ++ dvs)) (Value.ref (s.heap.objs.size + 1) :: (us ++ ds)) := .cons rfl (r.append hd)
  have hl : (Value.ref (s.heap.objs.size + 1) :: us ++ ds).length = ps.length := by
    have e := r2.length
    rw [F.len _ _ _ _ hq] at e
    exact e.symm
  refine wpAny_call (make_map (f := f) I.kIn M.makes M.init (beq_iff_eq.mp M.fn) (codeAny_mono (F.run _ X.stack _ _ ⟨Value.ref (s.heap.objs.size + 1) :: us, []⟩ (Value.ref (s.heap.objs.size + 1) :: (us ++ ds)) _ _ E (hr.make C us [])
    (I2.env0.make C us []) (hb _ (Value.ref (s.heap.objs.size + 1) :: us) I2.kIn hl) r2 hq) fun r s' hq' => ?_))
  cases r with
  | error e => exact hx pins σ _ _ e s' I2 hq'
  | ok fl =>
    cases fl with
    | ret u =>
      obtain ⟨v, H', I3, rv, ev, q3⟩ := I2.after hq'
      subst ev
      exact ⟨rv, ⟨V.ref (s.heap.objs.size + 1), H', I3, rfl, q3⟩⟩
    | next => exact False.elim hq'
    | brk => exact False.elim hq'
    | cont => exact False.elim hq'
theorem pe_make0 (M : Mk X.K C f) (F : FnOk X.prog X.w X.K X.mg X.base CX k f fd ps sp) (hr : Room (k + 1) X.A) (hg : Gl X x) (hm : X.mg x = some (.ref C)) (hb : Binds X.K fd ps ds) (hd : Vals dvs ds) (hx : Passes CX X E)
    (hdb : (x == ("__debug__" : Str)) = false := by decide) : PE X (.Call (.Name x p) [] [] pos) (tMake C sp dvs E tNil) := by
  intro pins s σ H Q I h
  refine wpAny_Call_Name_kw (ld_glob I hg hm ?_ hdb)
  exact PySem.W.callWith_K0 I.kIn M.kp (run_make (us := []) M F hr hb hd hx I .nil h)
end
section
variable {X : Cx} {CX : CXT} {k : Nat} {f C : Addr} {fd : FuncData} {ps ks : List Str} {sp : Sp} {E : XK} {x m : Str} {p pos apos kpos : Pos} {e o : Expr} {es : List Expr} {kws : List Keyword} {te ta : TE} {t tk : TA} {nm : Option Str}
variable {g : List Value → List Value → List Value} {gV : List V → List V → List V}
end
structure FnScope (N P : List Str) (sc : Scope) : Prop where
  kind : sc.kind = .function
  co : sc.isCoroutine = false
  gen : sc.isGenerator = false
  nd : N.Nodup
  pre : N.take P.length = P
  par : ∀ x ∈ P, sc.names.lookup x = some .local ∨ sc.names.lookup x = some .cell
  nofree : ∀ y ∈ sc.names, y.2 ≠ .free
theorem bindL_out {kindOf : Str → Option NameKind} {x : Str} : ∀ {binds : List (Str × Value)} {m : Str → Option Value}, (∀ v, (x, v) ∉ binds) → bindL kindOf binds m x = m x
  | [], _, _ => rfl
  | (n, v) :: r, m, h => by
    unfold bindL
    rw [bindL_out fun w hw => h w (List.mem_cons_of_mem _ hw)]
    split
    · have : x ≠ n := by rintro rfl; exact h v List.mem_cons_self
      simp [this]
    · rfl
theorem bindC_out {kindOf : Str → Option NameKind} {x : Str} : ∀ {binds : List (Str × Value)} {m : Str → Option Value}, (∀ v, (x, v) ∉ binds) → bindC kindOf binds m x = m x
  | [], _, _ => rfl
  | (n, v) :: r, m, h => by
    unfold bindC
    rw [bindC_out fun w hw => h w (List.mem_cons_of_mem _ hw)]
    split
    · rfl
    · have : x ≠ n := by rintro rfl; exact h v List.mem_cons_self
      simp [this]
theorem bindL_get {kindOf : Str → Option NameKind} {x : Str} {v : Value} : ∀ {P : List Str} {vs : List Value} {i : Nat} {m : Str → Option Value}, P.Nodup → P[i]? = some x → vs[i]? = some v → kindOf x = some .local →
    bindL kindOf (P.zip vs) m x = some v
  | [], _, _, _, _, h, _, _ => by simp at h
  | _ :: _, [], _, _, _, _, h, _ => by simp at h
  | p :: P, w :: vs, 0, m, nd, h1, h2, hk => by
    simp at h1 h2; subst h1; subst h2
    show bindL kindOf ((p, w) :: P.zip vs) m p = _
    unfold bindL
    rw [bindL_out fun v hv => (List.nodup_cons.mp nd).1 (List.of_mem_zip hv).1, if_pos hk]
    simp
  | p :: P, w :: vs, i + 1, m, nd, h1, h2, hk => by
    show bindL kindOf ((p, w) :: P.zip vs) m x = _
    unfold bindL
    exact bindL_get (i := i) (List.nodup_cons.mp nd).2 (by simpa using h1) (by simpa using h2) hk
theorem bindC_get {kindOf : Str → Option NameKind} {x : Str} {v : Value} : ∀ {P : List Str} {vs : List Value} {i : Nat} {m : Str → Option Value}, P.Nodup → P[i]? = some x → vs[i]? = some v → kindOf x ≠ some .local →
    bindC kindOf (P.zip vs) m x = some v
  | [], _, _, _, _, h, _, _ => by simp at h
  | _ :: _, [], _, _, _, _, h, _ => by simp at h
  | p :: P, w :: vs, 0, m, nd, h1, h2, hk => by
    simp at h1 h2; subst h1; subst h2
    show bindC kindOf ((p, w) :: P.zip vs) m p = _
    unfold bindC
    rw [bindC_out fun v hv => (List.nodup_cons.mp nd).1 (List.of_mem_zip hv).1, if_neg hk]
    simp
  | p :: P, w :: vs, i + 1, m, nd, h1, h2, hk => by
    show bindC kindOf ((p, w) :: P.zip vs) m x = _
    unfold bindC
    exact bindC_get (i := i) (List.nodup_cons.mp nd).2 (by simpa using h1) (by simpa using h2) hk
def start (N : List Str) (vs : List V) : St := vs.map some ++ List.replicate (N.length - vs.length) none
def cxOf (CX : CXT) (P : Program) (w : World) (K : PySem.W.Frag) (mg : Str → Option Value) (base : Heap) (N : List Str) (qual : Str) (scope : Scope) (f : Addr) (cd : Value) (A : Around) (outer : List Env) (s : Shared) (H : Hp) (E : XK) : Cx where
  prog := P
  w := w
  K := K
  mg := mg
  base := base
  A := A.deeper (envOfC qual scope s.heap.objs.size f cd)
  N := N
  s_0 := s
  H_0 := H
  env := envOfC qual scope s.heap.objs.size f cd
  outer := outer
  stack := envOfC qual scope s.heap.objs.size f cd :: outer
  ex := []
  calm := true
  fn := fun _ => true
  pn := []
  xe := fun e s' => wpAny (model P w) (A.deeper (envOfC qual scope s.heap.objs.size f cd)) (leaving (envOfC qual scope s.heap.objs.size f cd) e) (fun _ s'' => CX outer H s E e s'') (fun e' s'' => CX outer H s E e' s'') s'
theorem cell_has {sc : Scope} {n : Nat} {x : Str} (h : sc.names.lookup x = some .cell) : ∃ c, (cellsFrom n sc.names []).lookup x = some c := by
  have q := PySem.W.cellsFrom_some sc.names n [] (.inl h)
  exact Option.isSome_iff_exists.mp q
theorem inv_start {CX : CXT} {P : Program} {w : World} {K : PySem.W.Frag} {mg : Str → Option Value} {base : Heap} {N ps : List Str} {qual : Str} {scope : Scope} {f : Addr} {cd : Value} {A : Around} {outer : List Env} {s s1 : Shared} {H : Hp} {E : XK} {us : List Value} {vs : List V}
    (S : FnScope N ps scope) (hd : A.handled = none) (e0 : Env0 P w K mg base A outer s H) (hl : vs.length = ps.length) (r : Vals vs us)
    (x : InCallC s s.heap.objs.size (bindL (envOfC qual scope s.heap.objs.size f cd).kindOf (ps.zip us) fun _ => none) (cellsFrom (s.heap.objs.size + 1) scope.names []) (bindC (envOfC qual scope s.heap.objs.size f cd).kindOf (ps.zip us) fun _ => none) s1) :
    Inv (cxOf CX P w K mg base N qual scope f cd A outer s H E) [] (start N vs) H s1 := by
  have hpl : ps.length ≤ N.length := by have := congrArg List.length S.pre; rw [List.length_take] at this; omega
  obtain ⟨h1, tk, rfl, hk⟩ := x.done
  have noA : ∀ b : Addr, b ∉ (cxOf CX P w K mg base N qual scope f cd A outer s H E).ex := fun b z => absurd (show b ∈ ([] : List Addr) from z) (by simp)
  refine ⟨⟨e0.mod, S.kind, rfl, rfl, Nat.le_refl _, fun y z c h1 h2 => ?_, fun y hy => ?_, fun y c _ h => ?_, fun _ => hd, Around.frames_deeper e0.frames, .inr ⟨rfl, rfl⟩, fun b z => absurd z (noA b), e0.bs, e0.bsz, fun b _ _ => noA b, fun b z => absurd z (noA b), e0.funs, e0.frf⟩,
    rfl, e0.bare, Un.kept hk, ⟨_, x.toInCall.ns, fun i y v h1 h2 h3 => ?_⟩, fun y c h => ⟨_, x.cell y c h⟩, e0.hok.fresh (Nat.le_refl _), fun y c h => ?_, fun p hp => absurd (show p ∈ ([] : List (Addr × Obj)) from hp) (by simp), e0.hok.kept hk, ?_⟩
  · exact name_of_addr x.apart (PySem.mem_of_lookup h1) (PySem.mem_of_lookup h2)
  · have hy : scope.names.lookup y = some .cell ∨ scope.names.lookup y = some .free := hy
    rcases hy with hy | hy
    · exact cell_has hy
    · exact absurd rfl (S.nofree _ (PySem.mem_of_lookup hy))
  · exact Nat.le_of_lt (x.above y c (PySem.mem_of_lookup h))
  · have hi : i < vs.length := by
      unfold start at h2
      by_cases hi : i < vs.length
      · exact hi
      · rw [List.getElem?_append_right (by simpa using hi)] at h2
        rw [List.getElem?_replicate] at h2
        split at h2 <;> cases h2
    have ha : vs[i]? = some v := by
      unfold start at h2
      rw [List.getElem?_append_left (by simpa using hi), List.getElem?_map] at h2
      cases e : vs[i]? with
      | none => rw [e] at h2; cases h2
      | some a => rw [e] at h2; cases h2; rfl
    obtain ⟨u, hu, rv⟩ := r.get ha
    have hp : ps[i]? = some y := by
      rw [← S.pre, List.getElem?_take_of_lt (by omega)]; exact h1
    have ndP : ps.Nodup := by rw [← S.pre]; exact S.nd.sublist (List.take_sublist _ _)
    refine ⟨u, rv, ?_⟩
    rcases S.par y (List.mem_of_getElem? hp) with k | k
    · exact .inl ⟨k, bindL_get ndP hp hu k⟩
    · obtain ⟨c, e⟩ := cell_has (n := s.heap.objs.size + 1) k
      refine .inr ⟨.inl k, c, e, ?_⟩
      have q := x.cell y c e
      rw [bindC_get ndP hp hu (by show scope.names.lookup y ≠ _; rw [k]; decide)] at q
      exact q
  · exact e0.hok.fresh (Nat.le_of_lt (x.above y c (PySem.mem_of_lookup h)))
  · unfold start
    show _ = N.length
    rw [List.length_append, List.length_map, List.length_replicate]
    omega
theorem fn_of {CX : CXT} {P : Program} {w : World} {K : PySem.W.Frag} {mg : Str → Option Value} {base : Heap} {k : Nat} {f : Addr} {name qual : Str} {params : Arguments} {body : List Stmt} {scope : Scope} {dV kV doc pm cdv ct oc : Value} {an od : Option Addr}
    {osl : Array (Option Value)} {N ps : List Str} {sp : Sp} (lk : K.lookup f = some ⟨oc, od, .func (PySem.W.fnOf name qual params body scope dV kV doc pm an cdv ct), osl⟩) (hcd : PySem.W.codeIn K cdv qual = true) (S : FnScope N ps scope)
    (len : ∀ vs H Q E, sp vs H Q E → vs.length = ps.length)
    (hbody : ∀ (A : Around) (outer : List Env) (s : Shared) (H : Hp) (vs : List V) (Q : VK) (E : XK), Room k (A.deeper (envOfC qual scope s.heap.objs.size f cdv)) → sp vs H Q E →
      ∃ t, PSs (cxOf CX P w K mg base N qual scope f cdv A outer s H E) body t ∧ t { nx := fun _ H' => Q .non H', rt := Q } (start N vs) H) :
    FnOk P w K mg base CX (k + 1) f (PySem.W.fnOf name qual params body scope dV kV doc pm an cdv ct) ps sp := by
  refine ⟨len, fun A outer s H args us vs Q E hr e0 hb r hsp => ?_⟩
  have hl := len _ _ _ _ hsp
  have KX : K.In s.heap := e0.mod.kin.keeps fun b o e => (e0.bs b o e).1
  have lim : s.heap.NoLimit := e0.mod.nolimit.keeps fun b o e => (e0.bs b o e).1
  have hkind : ∀ y ∈ ps.zip us, scope.names.lookup y.1 = some .local ∨ (scope.names.lookup y.1 = some .cell ∧ ((cellsFrom (s.heap.objs.size + 1) scope.names []).lookup y.1).isSome = true) := fun ⟨n, v⟩ hy => by
    rcases S.par n (List.of_mem_zip hy).1 with q | q
    · exact .inl q
    · exact .inr ⟨q, PySem.W.cellsFrom_some _ _ _ (.inl q)⟩
  refine codeAny_call_function hr.depth (KX _ _ lk) rfl S.co S.gen rfl (PySem.W.codeRec_of KX hcd) (hb _ _ _ _ ?_)
  refine wpAny_newFunctionEnv_cells S.kind hkind fun env he s1 x => ?_
  subst he
  refine ⟨lim.keeps x.toInCall.keep, codeAny_func ?_⟩
  obtain ⟨t, ht, hq⟩ := hbody A outer s H vs Q E (hr.deeper _) hsp
  have I : Inv (cxOf CX P w K mg base N qual scope f cdv A outer s H E) [] (start N vs) H s1 := inv_start S hr.hd e0 hl r x
  refine wpAny_mono (ht [] s1 (start N vs) H _ I hq) (fun fl s' hs => ?_) fun e s' hs => hs
  have fin : ∀ {σ' : St} {H' : Hp} {v : V} {u : Value}, Inv (cxOf CX P w K mg base N qual scope f cdv A outer s H E) [] σ' H' s' → RelV v u → Q v H' → CE outer P w H s Q u s' :=
    fun {σ' H' v u} J rv q => ⟨v, H', J.os, J.bare, J.base, J.hok, rv, q⟩
  cases fl with
  | ret u =>
    obtain ⟨v, σ', H', J, rv, q⟩ := hs
    exact fin J rv q
  | next =>
    obtain ⟨σ', H', J, q⟩ := hs
    exact fin (v := V.non) (u := Value.none) J rfl q
  | brk =>
    obtain ⟨_, _, _, q⟩ := hs
    exact False.elim q
  | cont =>
    obtain ⟨_, _, _, q⟩ := hs
    exact False.elim q
end L2
namespace L2
open PySem PySem.Spec PyProof.Rows
section
variable {X : Cx} {x : Str} {p pos : Pos} {e : Expr} {es : List Expr} {t : TA} {id T : String} {r : List V → Hp → VK → Prop}
def tCB (r : List V → Hp → VK → Prop) (t : TA) : TE := fun σ H Q => t σ H fun vs H1 => r vs H1 Q
theorem pe_callB (hc : CallR X (.builtin id) r) (hg : Gl X x) (hm : X.mg x = none) (hv : bootBuiltins x = some (.builtin id)) (ha : PA X (e :: es) t) (hn : x ≠ "__name__" := by decide) (hdb : (x == ("__debug__" : Str)) = false := by decide)
    (he : starEach (e :: es) X.env = (false, eval e X.env) :: starEach es X.env := by rfl) (hpl : (backTo pos (starEach es X.env)).any (·.1) = false := by rfl) : PE X (.Call (.Name x p) (e :: es) [] pos) (tCB r t) := by
  intro pins s σ H Q I h
  refine wpAny_Call_Name_kw (ld_blt I hg hm hv ?_ hn hdb)
  exact PyProof.Rows.callWith_builtin1 (thn (ha pos pins s σ H _ I h) fun us s1 ⟨vs, H1, I1, r1, q1⟩ => hc pins s1 σ H1 vs us Q I1 r1 q1) he hpl
theorem pe_callTy (hc : CallR X (.type T) r) (hg : Gl X x) (hm : X.mg x = none) (hv : bootBuiltins x = some (.type T)) (ha : PA X (e :: es) t) (hn : x ≠ "__name__" := by decide) (hdb : (x == ("__debug__" : Str)) = false := by decide)
    (he : starEach (e :: es) X.env = (false, eval e X.env) :: starEach es X.env := by rfl) (hpl : (backTo pos (starEach es X.env)).any (·.1) = false := by rfl) : PE X (.Call (.Name x p) (e :: es) [] pos) (tCB r t) := by
  intro pins s σ H Q I h
  refine wpAny_Call_Name_kw (ld_blt I hg hm hv ?_ hn hdb)
  exact PyProof.Rows.callWith_type1 (thn (ha pos pins s σ H _ I h) fun us s1 ⟨vs, H1, I1, r1, q1⟩ => hc pins s1 σ H1 vs us Q I1 r1 q1) he hpl
end
end L2
namespace HT
open PySem PyProof.Rows
section
open PySem.SeqAt
open PySem.AutoSeq1 (wpAny_loadPart')
open PySem.MeetsSeq PySem.MeetsSeq2 PySem.MeetsSeq3
end
section
variable {prog : Program} {w : World} {A : Around} {E : Value → Shared → Prop} {s : Shared}
def sIx (n d : Nat) : Option Int → Nat
  | none => d
  | some v => if v < 0 then (v + (n : Int)).toNat else min v.toNat n
theorem sIx_nat (n d k : Nat) : sIx n d (some (k : Int)) = min k n := by
  show (if (k : Int) < 0 then ((k : Int) + (n : Int)).toNat else min (k : Int).toNat n) = min k n
  rw [if_neg (by omega), Int.toNat_natCast]
end
end HT
namespace L2
open PySem PySem.Spec PyProof.Rows
abbrev TO := St → Hp → (Option Int → Hp → Prop) → Prop
def PO (X : Cx) (e : Option Expr) (t : TO) : Prop :=
  ∀ (pins : List (Addr × Obj)) (s : Shared) (σ : St) (H : Hp) (Q : Option Int → Hp → Prop), Inv X pins σ H s → t σ H Q →
    wpAny (model X.prog X.w) X.A (evalPart e X.env) (fun u s' => ∃ o H', Inv X pins σ H' s' ∧ IsPart u o ∧ Q o H') X.xe s
def tNoPart : TO := fun _ H Q => Q none H
def tPart (t : TE) : TO := fun σ H Q => t σ H fun x H1 => ∃ i, x = .int i ∧ Q (some i) H1
section
variable {X : Cx} {e : Expr} {te : TE} {lo hi : Option Expr} {tl th : TO} {pos p2 : Pos}
theorem po_none : PO X none tNoPart := by
  intro pins s σ H Q I h
  rw [evalPart_none]
  exact wpAny_pure ⟨none, H, I, .none, h⟩
theorem po_some (h : PE X e te) : PO X (some e) (tPart te) := by
  intro pins s σ H Q I hw
  rw [evalPart_some]
  refine thn (h pins s σ H _ I hw) fun u s1 ⟨x, H1, I1, r1, q1⟩ => ?_
  obtain ⟨i, rfl, q⟩ := q1
  obtain ⟨t, rfl⟩ := r1
  exact ⟨some i, H1, I1, .int i t, q⟩
def SlR (X : Cx) (r : V → Option Int → Option Int → Hp → VK → Prop) : Prop :=
  ∀ (pins : List (Addr × Obj)) (s : Shared) (σ : St) (H : Hp) (x : V) (v vl vu : Value) (lo hi : Option Int) (sl : Addr) (Q : VK), Inv X pins σ H s → RelV x v → s.heap.IsSliceOf sl vl vu .none → IsPart vl lo → IsPart vu hi → r x lo hi H Q →
    ∃ T id, typeLookup (.type T) "__getitem__" = pure (some (.builtin id)) ∧ s.TypeIs v T ∧ wpAny (model X.prog X.w) X.A (getItem v (.ref sl)) (EP X pins σ Q) X.xe s
def tSl (r : V → Option Int → Option Int → Hp → VK → Prop) (te : TE) (tl th : TO) : TE := fun σ H Q => te σ H fun x H1 => tl σ H1 fun l H2 => th σ H2 fun u H3 => r x l u H3 Q
theorem pe_slice {r : V → Option Int → Option Int → Hp → VK → Prop} (hr : SlR X r) (he : PE X e te) (hl : PO X lo tl) (hu : PO X hi th) : PE X (.Subscript e (.Slice lo hi none p2) pos) (tSl r te tl th) := by
  intro pins s σ H Q I h
  refine Subscript_ (thn (he pins s σ H _ I h) fun v s1 ⟨x, H1, I1, r1, q1⟩ => ?_)
  refine wpAny_Slice (thn (hl pins s1 σ H1 _ I1 q1) fun vl s2 ⟨l, H2, I2, pl, q2⟩ => thn (hu pins s2 σ H2 _ I2 q2) fun vu s3 ⟨u, H3, I3, pu, q3⟩ => ?_)
  rw [evalPart_none]
  refine wpAny_pure ?_
  have I4 : Inv X pins σ H3 { s3 with heap := s3.heap.push { cls := .type "slice", data := .fields #[vl, vu, .none] } } := I3.kept (t' := s3.toks) fun b ob q => Heap.get?_push_of_some _ q
  obtain ⟨T, id, hT, ht, hg⟩ := hr pins { s3 with heap := s3.heap.push { cls := .type "slice", data := .fields #[vl, vu, .none] } } σ H3 x v vl vu l u s3.heap.objs.size Q I4 r1 (Heap.IsSliceOf.new ..) pl pu q3
  show wpAny (model X.prog X.w) X.A (subscriptTail e (.Slice lo hi none p2) v (.ref s3.heap.objs.size)) (EP X pins σ Q) X.xe { s3 with heap := s3.heap.push { cls := .type "slice", data := .fields #[vl, vu, .none] } }
  exact tail_any (ops := [.ref s3.heap.objs.size, v]) ht hT hg (by with_unfolding_all rfl)
def cutV (xs : List V) (lo hi : Option Int) : List V := (xs.drop (HT.sIx xs.length 0 lo)).take (HT.sIx xs.length xs.length hi - HT.sIx xs.length 0 lo)
theorem cutV_length (xs : List V) (lo hi : Option Int) : (cutV xs lo hi).length ≤ xs.length := by
  unfold cutV
  rw [List.length_take, List.length_drop]
  omega
end
end L2
namespace L2
open PySem PySem.Spec PyProof.Rows
def ixN (n : Nat) (i : Int) : Option Nat := if 0 ≤ i then (if i < n then some i.toNat else none) else if -(n : Int) ≤ i then some (i + n).toNat else none
def atI {α : Type} (xs : List α) (i : Int) : Option α := (ixN xs.length i).bind fun j => xs[j]?
theorem ixN_seq {n : Nat} {i : Int} {j : Nat} (h : ixN n i = some j) : seqIndex? i n = some j ∧ j < n ∧ -(n : Int) ≤ i ∧ i < n := by
  unfold ixN at h
  by_cases h0 : 0 ≤ i
  · rw [if_pos h0] at h
    by_cases h1 : i < n
    · rw [if_pos h1] at h
      have e : i.toNat = j := Option.some.inj h
      exact ⟨by rw [seqIndex_of h0 h1, e], by omega, by omega, h1⟩
    · rw [if_neg h1] at h; cases h
  · rw [if_neg h0] at h
    by_cases h1 : -(n : Int) ≤ i
    · rw [if_pos h1] at h
      have e : (i + n).toNat = j := Option.some.inj h
      exact ⟨by rw [seqIndex_neg (by omega) h1, e], by omega, h1, by omega⟩
    · rw [if_neg h1] at h; cases h
theorem atI_get {α : Type} {xs : List α} {i : Int} {v : α} (h : atI xs i = some v) : ∃ j, seqIndex? i xs.length = some j ∧ xs[j]? = some v ∧ j < xs.length ∧ -(xs.length : Int) ≤ i ∧ i < xs.length := by
  unfold atI at h
  cases e : ixN xs.length i with
  | none => rw [e] at h; cases h
  | some j =>
    rw [e] at h
    obtain ⟨h1, h2, h3, h4⟩ := ixN_seq e
    exact ⟨j, h1, h, h2, h3, h4⟩
theorem atI_nat {α : Type} {xs : List α} {j : Nat} {v : α} (h : xs[j]? = some v) : atI xs (j : Int) = some v := by
  have hj : j < xs.length := (List.getElem?_eq_some_iff.mp h).1
  have e : ixN xs.length (j : Int) = some j := by
    unfold ixN
    rw [if_pos (by omega), if_pos (by omega)]; simp
  unfold atI; rw [e]; exact h
def PlainIx (b : Expr) : Prop := ∀ o i, subscripted b false o i = operate [o, i] (getItem o i)
def IxR (X : Cx) (r : R2) : Prop :=
  ∀ (value slice : Expr) (pins : List (Addr × Obj)) (s : Shared) (σ : St) (H : Hp) (x y : V) (v u : Value) (Q : VK), Inv X pins σ H s → RelV x v → RelV y u → r x y H Q →
    subscripted slice false v u = operate [v, u] (getItem v u) → wpAny (model X.prog X.w) X.A (subscriptTail value slice v u) (EP X pins σ Q) X.xe s
def MtR (X : Cx) (id : String) (r : V → List V → Hp → VK → Prop) : Prop :=
  ∀ (pins : List (Addr × Obj)) (s : Shared) (σ : St) (H : Hp) (x : V) (xs : List V) (v : Value) (us : List Value) (Q : VK), Inv X pins σ H s → RelV x v → Vals xs us → r x xs H Q →
    wpAny (model X.prog X.w) X.A (call (.builtin id) (v :: us)) (EP X pins σ Q) X.xe s
section
variable {X : Cx} {a b : Expr} {ta tb : TE} {pos : Pos}
theorem pe_ix {r : R2} (hr : IxR X r) (ha : PE X a ta) (hb : PE X b tb) (hs : PlainIx b) : PE X (.Subscript a b pos) (tOp r ta tb) := by
  intro pins s σ H Q I h
  exact Subscript_ (binT ha hb I h fun v u s2 x y H2 I2 rx ry q => hr a b pins s2 σ H2 x y v u Q I2 rx ry q (hs _ _))
def rIxL (K : PySem.W.Frag) : R2 := fun x y H Q => ∃ p xs i v, x = .ref p ∧ y = .int i ∧ SqL K H p xs ∧ atI xs i = some v ∧ Q v H
def rIxT (K : PySem.W.Frag) : R2 := fun x y H Q => ∃ p xs i v, x = .ref p ∧ y = .int i ∧ SqT K H p xs ∧ atI xs i = some v ∧ Q v H
theorem ix_list : IxR X (rIxL X.K) := by
  intro value slice pins s σ H x y v u Q I rx ry h hs
  obtain ⟨p, xs, i, z, rfl, rfl, hq, he, q⟩ := h
  cases rx
  obtain ⟨t, rfl⟩ := ry
  obtain ⟨its, r, pl, hz⟩ := I.list hq
  obtain ⟨j, h1, h2, h3, h4, h5⟩ := atI_get he
  obtain ⟨w, ew, rw'⟩ := r.get h2
  have hl := r.length
  have hn := line63
  have fin : EP X pins σ Q w s := ⟨z, H, I, rw', q⟩
  by_cases h0 : 0 ≤ i
  · have hj : i.toNat = j := by
      rw [seqIndex_of h0 h5] at h1
      exact Option.some.inj h1
    exact item_listR pl.isList h0 (by omega) (by rw [hj]; simpa using ew) fin hs
  · have hj : (i + (its.toArray.size : Int)).toNat = j := by
      rw [seqIndex_neg (by omega) h4] at h1
      rw [List.size_toArray, ← hl]
      exact Option.some.inj h1
    exact subscriptTail_builtinR (x := w) pl.isList.typeIs slot_list_getitem.lookup
      (wpAny_getItem_list_neg (Q := fun r s' => r = w ∧ EP X pins σ Q r s') pl.isList (by omega) (by rw [List.size_toArray] <;> omega) (by omega) (by rw [hj]; simpa using ew) ⟨rfl, fin⟩) hs
theorem ix_tup : IxR X (rIxT X.K) := by
  intro value slice pins s σ H x y v u Q I rx ry h hs
  obtain ⟨p, xs, i, z, rfl, rfl, hq, he, q⟩ := h
  cases rx
  obtain ⟨t, rfl⟩ := ry
  obtain ⟨its, r, pl, hz⟩ := I.tuple hq
  obtain ⟨j, h1, h2, h3, h4, h5⟩ := atI_get he
  obtain ⟨w, ew, rw'⟩ := r.get h2
  have hl := r.length
  have hn := line63
  have fin : EP X pins σ Q w s := ⟨z, H, I, rw', q⟩
  exact subscriptTail_builtinR (x := w) pl.typeIs slot_tuple_getitem.lookup
    (getItem_tuple (j := j) (Q := fun r s' => r = w ∧ EP X pins σ Q r s') pl (by omega) (by omega) (by rw [List.size_toArray, ← hl]; exact h1) (by simpa using ew) ⟨rfl, fin⟩) hs
theorem mapSeq_set (its : List Value) (n j : Nat) (u : Value) : Obj.mapSeq (·.setIfInBounds j u) { cls := .type "list", data := .seq its.toArray n } = { cls := .type "list", data := .seq (its.set j u).toArray n } := by
  simp [Obj.mapSeq]
theorem Inv.lst {pins : List (Addr × Obj)} {σ : St} {H : Hp} {s : Shared} {p : Addr} {xs : List V} (I : Inv X pins σ H s) (h : H p = some (.lst xs)) :
    ∃ (its : List Value) (n : Nat), Vals xs its ∧ s.heap.get? p = some { cls := .type "list", data := .seq its.toArray n } ∧ xs.length ≤ sizeLine := by
  obtain ⟨z, its, n, r, e⟩ := I.hok p _ h
  exact ⟨its, n, r, e, z⟩
theorem Inv.lstUpd {pins : List (Addr × Obj)} {σ : St} {H : Hp} {s : Shared} {p : Addr} {xs ys : List V} {its its' : List Value} {n n' : Nat} {f : Obj → Obj} (I : Inv X pins σ H s) (h : H p = some (.lst xs))
    (ho : s.heap.get? p = some { cls := .type "list", data := .seq its.toArray n }) (hf : f { cls := .type "list", data := .seq its.toArray n } = { cls := .type "list", data := .seq its'.toArray n' }) (r : Vals ys its') (hz : ys.length ≤ sizeLine) (t : Nat) :
    Inv X pins σ (upd H p (.lst ys)) { s with heap := s.heap.update p f, toks := t } := by
  have e : (s.heap.update p f).get? p = some { cls := .type "list", data := .seq its'.toArray n' } := by
    rw [Heap.get?_update_self f ho (by rw [hf] <;> rfl), hf]
  refine I.write (x := p) (e := p) (by rw [h]; trivial) (.inl rfl) (fun b u hb q => (Heap.get?_update_other _ _ (Ne.symm hb)).trans q) ⟨_, e⟩ ?_
  exact ⟨hz, its', n', r, e⟩
def rSetL : V → V → V → Hp → (Hp → Prop) → Prop := fun o i v H Q => ∃ p xs k j, o = .ref p ∧ i = .int k ∧ H p = some (.lst xs) ∧ ixN xs.length k = some j ∧ Q (upd H p (.lst (xs.set j v)))
theorem set_list : PSet X rSetL := by
  intro pins s σ H o i v ov iv u Q I ro ri rv h
  obtain ⟨p, xs, k, j, rfl, rfl, hp, hj, q⟩ := h
  cases ro
  obtain ⟨t, rfl⟩ := ri
  obtain ⟨its, n, r, ho, hz⟩ := I.lst hp
  obtain ⟨h1, h2, h3, h4⟩ := ixN_seq hj
  have hl := r.length
  have hn := line63
  have I' : Inv X pins σ (upd H p (.lst (xs.set j v))) { s with heap := s.heap.update p (Obj.mapSeq (·.setIfInBounds j u)) } :=
    I.lstUpd hp ho (mapSeq_set its n j u) (r.set rv j) (by rw [List.length_set]; exact hz) s.toks
  by_cases h0 : 0 ≤ k
  · have hk : k.toNat = j := by
      rw [seqIndex_of h0 h4] at h1
      exact Option.some.inj h1
    exact PySem.W.ki_setAt ho h0 (by omega) (by rw [List.size_toArray, ← hl]; exact h4) (by rw [hk]; exact ⟨_, I', q⟩)
  · have hk : (k + (its.toArray.size : Int)).toNat = j := by
      rw [seqIndex_neg (by omega) h3] at h1
      rw [List.size_toArray, ← hl]
      exact Option.some.inj h1
    exact PySem.W.ki_setBack ho (by omega) (by rw [List.size_toArray, ← hl]; exact h3) (by omega) (by rw [hk]; exact ⟨_, I', q⟩)
theorem slice_bounds (lo hi : Option Int) (n : Nat) : (sliceBounds lo hi none n).1 = ((HT.sIx n 0 lo : Nat) : Int) ∧ (sliceBounds lo hi none n).2.1 = ((HT.sIx n n hi : Nat) : Int) ∧ (sliceBounds lo hi none n).2.2 = 1 := by
  refine ⟨?_, ?_, rfl⟩
  · cases lo with
    | none => simp [sliceBounds, HT.sIx]
    | some i =>
      simp only [sliceBounds, HT.sIx, Option.getD_none, show (1 : Int) > 0 by decide, if_true]
      by_cases h : i < 0
      · simp only [h, if_true] <;> omega
      · simp only [h, if_false] <;> omega
  · cases hi with
    | none => simp [sliceBounds, HT.sIx]
    | some i =>
      simp only [sliceBounds, HT.sIx, Option.getD_none, show (1 : Int) > 0 by decide, if_true]
      by_cases h : i < 0
      · simp only [h, if_true] <;> omega
      · simp only [h, if_false] <;> omega
theorem slicePick_cut (its : List Value) (lo hi : Option Int) : slicePick its.toArray lo hi none = ((its.drop (HT.sIx its.length 0 lo)).take (HT.sIx its.length its.length hi - HT.sIx its.length 0 lo)).toArray := by
  obtain ⟨h1, h2, h3⟩ := slice_bounds lo hi its.toArray.size
  unfold slicePick
  rw [h1, h2, h3]
  simp only [sliceRange_one, pick_run, List.size_toArray] <;> rfl
def rSlL (K : PySem.W.Frag) : V → Option Int → Option Int → Hp → VK → Prop := fun x lo hi H Q => ∃ a xs, x = .ref a ∧ SqL K H a xs ∧ ∀ p, H p = none → Q (.ref p) (upd H p (.lst (cutV xs lo hi)))
theorem sl_list : SlR X (rSlL X.K) := by
  intro pins s σ H x v vl vu lo hi sl Q I rx hs pl pu h
  obtain ⟨a, xs, rfl, hx, q⟩ := h
  cases rx
  obtain ⟨its, r, ht, hz⟩ := I.list hx
  have hlen := r.length
  refine ⟨"list", _, slot_list_getitem.lookup, ht.isList.typeIs, ?_⟩
  refine wpAny_getItem_list_slice ht.isList hs pl pu .none (by simp) ?_ (by rw [List.size_toArray] <;> omega)
  rw [slicePick_cut, ← hlen]
  refine ⟨.ref s.heap.objs.size, _, I.laid (t' := s.toks) (o := .lst (cutV xs lo hi)) (fun b ob q => Heap.get?_push_of_some _ q) (Nat.le_refl _) ?_, rfl, q _ (I.hok.fresh (Nat.le_refl _))⟩
  exact ⟨Nat.le_trans (cutV_length xs lo hi) hz, _, 0, (r.drop (HT.sIx xs.length 0 lo)).take (HT.sIx xs.length xs.length hi - HT.sIx xs.length 0 lo), Heap.get?_push_size _ rfl⟩
def flatV : V → Bool
  | .non => true
  | .bl _ => true
  | .int _ => true
  | .str _ => true
  | _ => false
def eqV : V → V → Bool
  | .non, .non => true
  | .bl a, .bl b => a == b
  | .bl a, .int b => (if a then 1 else 0) == b
  | .int a, .bl b => a == (if b then 1 else 0)
  | .int a, .int b => a == b
  | .str a, .str b => a == b
  | _, _ => false
theorem eqAt_V {A : Around} {s : Shared} {y x : V} {u v : Value} (ry : RelV y u) (rx : RelV x v) (fy : flatV y = true) (fx : flatV x = true) : SeqAt.EqAt A s u v (eqV y x) := by
  cases y with
  | non =>
    cases ry
    cases x with
    | non => cases rx; exact SeqAt.EqAt.same _
    | bl b => cases rx; exact SeqAt.EqAt.none_bool b
    | int b => obtain ⟨t, rfl⟩ := rx; exact SeqAt.EqAt.none_int b t
    | str b => obtain ⟨t, rfl⟩ := rx; exact SeqAt.EqAt.none_str b t
    | _ => exact absurd (show false = true from fx) Bool.false_ne_true
  | bl a =>
    cases ry
    cases x with
    | non => cases rx; exact SeqAt.EqAt.bool_none a
    | bl b => cases rx; exact SeqAt.EqAt.bool_bool a b
    | int b => obtain ⟨t, rfl⟩ := rx; exact SeqAt.EqAt.bool_int a b t
    | str b => obtain ⟨t, rfl⟩ := rx; exact SeqAt.EqAt.bool_str a b t
    | _ => exact absurd (show false = true from fx) Bool.false_ne_true
  | int a =>
    obtain ⟨t', rfl⟩ := ry
    cases x with
    | non => cases rx; exact SeqAt.EqAt.int_none a t'
    | bl b => cases rx; exact SeqAt.EqAt.int_bool a t' b
    | int b => obtain ⟨t, rfl⟩ := rx; exact SeqAt.EqAt.int_int a t' b t
    | str b => obtain ⟨t, rfl⟩ := rx; exact SeqAt.EqAt.int_str a t' b t
    | _ => exact absurd (show false = true from fx) Bool.false_ne_true
  | str a =>
    obtain ⟨t', rfl⟩ := ry
    cases x with
    | non => cases rx; exact SeqAt.EqAt.str_none a t'
    | bl b => cases rx; exact SeqAt.EqAt.str_bool a t' b
    | int b => obtain ⟨t, rfl⟩ := rx; exact SeqAt.EqAt.str_int a t' b t
    | str b => obtain ⟨t, rfl⟩ := rx; exact SeqAt.EqAt.str_str a t' b t
    | _ => exact absurd (show false = true from fx) Bool.false_ne_true
  | _ => exact absurd (show false = true from fy) Bool.false_ne_true
def eqU (x : V) (u : Value) : Bool := match u with
  | .none => eqV .non x
  | .bool b => eqV (.bl b) x
  | .int i _ => eqV (.int i) x
  | .str z _ => eqV (.str z) x
  | _ => false
theorem eqU_of {x y : V} {u : Value} (r : RelV y u) (f : flatV y = true) : eqU x u = eqV y x := by
  cases y with
  | non => cases r; rfl
  | bl b => cases r; rfl
  | int i => obtain ⟨t, rfl⟩ := r; rfl
  | str z => obtain ⟨t, rfl⟩ := r; rfl
  | _ => exact absurd (show false = true from f) Bool.false_ne_true
theorem any_eqU {x : V} : ∀ {xs : List V} {us : List Value}, Vals xs us → xs.all flatV = true → us.any (eqU x) = xs.any fun y => eqV y x
  | _, _, .nil, _ => rfl
  | y :: xs, u :: us, .cons r t, f => by
    rw [List.all_cons, Bool.and_eq_true] at f
    rw [List.any_cons, List.any_cons, eqU_of r f.1, any_eqU t f.2]
theorem mem_eqAt {A : Around} {s : Shared} {x : V} {v : Value} (rx : RelV x v) (fx : flatV x = true) : ∀ {xs : List V} {us : List Value}, Vals xs us → xs.all flatV = true → ∀ u ∈ us, SeqAt.EqAt A s u v (eqU x u)
  | _, _, .nil, _ => fun u hu => by cases hu
  | y :: xs, u :: us, .cons r t, f => fun u' hu => by
    rw [List.all_cons, Bool.and_eq_true] at f
    rcases List.mem_cons.mp hu with rfl | hu
    · rw [eqU_of r f.1]; exact eqAt_V r rx f.1 fx
    · exact mem_eqAt rx fx t f.2 u' hu
def inV (x : V) (xs : List V) : Bool := xs.any fun y => eqV y x
def rIn (K : PySem.W.Frag) (neg : Bool) : R2 := fun x y H Q => ∃ p xs, y = .ref p ∧ (SqL K H p xs ∨ SqT K H p xs) ∧ flatV x = true ∧ xs.all flatV = true ∧ Q (.bl (if neg then !inV x xs else inV x xs)) H
theorem op_in_seq : OpR X (compareOp .In) (rIn X.K false) := by
  intro pins s σ H x y v u Q I rx ry h
  obtain ⟨p, xs, rfl, hq, fx, fs, q⟩ := h
  cases ry
  rcases hq with hq | hq
  · obtain ⟨its, r, pl, hz⟩ := I.list hq
    refine SeqAt.in_listAt (eqU x) pl.isList (fun w hw => mem_eqAt rx fx r fs w (by simpa using hw)) ⟨.bl _, H, I, rfl, ?_⟩
    rw [show its.toArray.any (eqU x) = its.any (eqU x) by simp, any_eqU r fs]
    exact q
  · obtain ⟨its, r, pl, hz⟩ := I.tuple hq
    refine SeqAt.in_tupleAt (eqU x) pl (fun w hw => mem_eqAt rx fx r fs w (by simpa using hw)) ⟨.bl _, H, I, rfl, ?_⟩
    rw [show its.toArray.any (eqU x) = its.any (eqU x) by simp, any_eqU r fs]
    exact q
theorem call_len_seq : CallR X (.builtin "len") (fun xs H Q => ∃ p ys, xs = [.ref p] ∧ (SqL X.K H p ys ∨ SqT X.K H p ys) ∧ Q (.int ys.length) H) := by
  intro pins s σ H xs us Q I r h
  obtain ⟨p, ys, rfl, hq, q⟩ := h
  obtain ⟨u, rfl, rx⟩ := vals1 r
  cases rx
  have hn := line63
  rcases hq with hq | hq
  · obtain ⟨its, r', pl, hz⟩ := I.list hq
    have hlen := r'.length
    exact Calls.call_len_list pl.isList (by simp only [List.size_toArray] <;> omega) ⟨.int ys.length, H, I.tok _, ⟨s.toks + 1, by rw [List.size_toArray, hlen]⟩, q⟩
  · obtain ⟨its, r', pl, hz⟩ := I.tuple hq
    have hlen := r'.length
    exact len_tuple pl (by simp only [List.size_toArray] <;> omega) ⟨.int ys.length, H, I.tok _, ⟨s.toks + 1, by rw [List.size_toArray, hlen]⟩, q⟩
theorem call_tuple_of : CallR X (.type "tuple") (fun xs H Q => ∃ p ys, xs = [.ref p] ∧ ((SqL X.K H p ys ∧ ∀ l, H l = none → Q (.ref l) (upd H l (.tup ys))) ∨ (SqT X.K H p ys ∧ Q (.ref p) H))) := by
  intro pins s σ H xs us Q I r h
  obtain ⟨p, ys, rfl, h⟩ := h
  obtain ⟨u, rfl, rx⟩ := vals1 r
  cases rx
  rcases h with ⟨hq, q⟩ | ⟨hq, q⟩
  · obtain ⟨its, r', pl, hz⟩ := I.list hq
    have hlen := r'.length
    refine call_tuple_list pl.isList (fun h' kp => ?_) (by simp only [List.size_toArray] <;> omega)
    have I1 : Inv X pins σ H { s with heap := h' } := I.kept (t' := s.toks) kp
    have I2 : Inv X pins σ (upd H h'.objs.size (.tup ys)) { s with heap := h'.push { cls := .type "tuple", data := .seq its.toArray } } :=
      I1.laid (t' := s.toks) (fun b o e => Heap.get?_push_of_some _ e) (Nat.le_refl _) (show ObjOk X.prog X.w _ _ _ (.tup ys) from ⟨hz, its, r', IsTup.new _ _⟩)
    exact ⟨.ref h'.objs.size, _, I2, rfl, q _ (I1.hok.fresh (Nat.le_refl _))⟩
  · obtain ⟨its, r', pl, hz⟩ := I.tuple hq
    exact call_tuple_same pl ⟨.ref p, H, I, rfl, q⟩
def tyV (K : PySem.W.Frag) (T : String) (x : V) (H : Hp) : Prop := match x with
  | .str _ => T = "str"
  | .int _ => T = "int"
  | .ref p => (T = "list" ∧ ∃ xs, SqL K H p xs) ∨ (T = "tuple" ∧ ∃ o, K.lookup p = some o ∧ o.cls = .type "tuple" ∧ o.dict = none) ∨
      (T = "dict" ∧ ((∃ kvs, H p = some (.dK kvs)) ∨ ∃ kvs, H p = some (.dT kvs))) ∨ (T = "set" ∧ ∃ S n, H p = some (.set S n))
  | _ => False
theorem tyV_is {pins : List (Addr × Obj)} {σ : St} {H : Hp} {s : Shared} {T : String} {x : V} {v : Value} (I : Inv X pins σ H s) (r : RelV x v) (ty : tyV X.K T x H) :
    s.TypeIs v T ∧ ∀ a, v = .ref a → ∃ ob, s.heap.get? a = some ob ∧ ob.dict = none := by
  cases x with
  | str z =>
    obtain ⟨t, rfl⟩ := r
    cases (show T = "str" from ty)
    exact ⟨typeIs_str s z t, fun _ e => nomatch e⟩
  | int i =>
    obtain ⟨t, rfl⟩ := r
    cases (show T = "int" from ty)
    exact ⟨typeIs_int s i t, fun _ e => nomatch e⟩
  | ref p =>
    cases r
    rcases ty with ⟨rfl, xs, hq⟩ | ⟨rfl, o, hk, hc, hd⟩ | ⟨rfl, hk⟩ | ⟨rfl, S, n, hk⟩
    · obtain ⟨its, _, pl, _⟩ := I.list hq
      refine ⟨pl.isList.typeIs, fun a e => ?_⟩
      cases e
      obtain ⟨o, n, e, c, hd, _⟩ := pl
      exact ⟨o, e, hd⟩
    · refine ⟨⟨o, I.kIn p o hk, hc⟩, fun a e => ?_⟩
      cases e
      exact ⟨o, I.kIn _ o hk, hd⟩
    · have z : ∃ o, s.heap.get? p = some o ∧ o.ExactDict := by
        rcases hk with ⟨kvs, hk⟩ | ⟨kvs, hk⟩
        · obtain ⟨_, _, _, _, o, _, _, e, ex, _⟩ := I.hok p _ hk
          exact ⟨o, e, ex⟩
        · obtain ⟨_, _, _, _, o, _, _, e, ex, _⟩ := I.hok p _ hk
          exact ⟨o, e, ex⟩
      obtain ⟨o, e, ex⟩ := z
      refine ⟨⟨o, e, ex.1⟩, fun a e2 => ?_⟩
      cases e2
      exact ⟨o, e, ex.2.1⟩
    · obtain ⟨o, _, _, _, e, ex, _⟩ := I.hok p _ hk
      refine ⟨⟨o, e, ex.1⟩, fun a e2 => ?_⟩
      cases e2
      exact ⟨o, e, ex.2.1⟩
  | _ => exact False.elim ty
def tBM (K : PySem.W.Frag) (T : String) (r : V → List V → Hp → VK → Prop) (to : TE) (t : TA) : TE := fun σ H Q => to σ H fun x H1 => tyV K T x H1 ∧ t σ H1 fun xs H2 => r x xs H2 Q
variable {o e : Expr} {es : List Expr} {to : TE} {t : TA} {name : Str} {apos cpos : Pos} {T id : String} {r : V → List V → Hp → VK → Prop}
theorem pe_bm (pa : PlainAttrs T) (slot : Slot T name id) (hty : typeOf (.builtin id) = pure (.type "method_descriptor")) (hm : MtR X id r) (ho : PE X o to) (ha : PA X (e :: es) t)
    (hbase : attributeBase o name X.env (eval o X.env) = eval o X.env := by rfl)
    (hfew : ((backTo cpos (starEach (e :: es) X.env)).all (fun x => !x.1) && (backToKw cpos (keywordEach [] X.env)).all (fun x => x.1.isSome)
      && decide ((e :: es).length + ([] : List Keyword).length + (if ([] : List Keyword).isEmpty then 0 else 1) < 30)) = true := by rfl)
    (hline : (apos.endLine == cpos.line) = true := by rfl) (hs : starEach (e :: es) X.env = (false, eval e X.env) :: starEach es X.env := by rfl) (hplain : (backTo cpos (starEach es X.env)).any (·.1) = false := by rfl) :
    PE X (.Call (.Attribute o name apos) (e :: es) [] cpos) (tBM X.K T r to t) := by
  intro pins s σ H Q I h
  refine wpAny_Call_method_late hbase hfew hline rfl (thn (ho pins s σ H _ I h) fun v s1 ⟨x, H1, I1, r1, ty, q1⟩ => ?_)
  obtain ⟨h1, h2⟩ := tyV_is I1 r1 ty
  refine ⟨T, id, pa, slot, hty, h1, h2, ?_⟩
  have hA := ha cpos pins s1 σ H1 _ I1 q1
  rw [hs] at hA ⊢
  refine Calls.callWith_builtin (by show (false || (backTo cpos (starEach es X.env)).any (·.1)) = false; rw [hplain] <;> rfl) (Calls.evalArgs_plain ?_)
  exact thn hA fun us s2 ⟨vs, H2, I2, r2, q2⟩ => hm pins s2 σ H2 x vs v us Q I2 r1 r2 q2
/- xs.append(e), list.index on a module's tuple .. are MtR facts of 06m -/
end
end L2
namespace L2
open PySem PySem.Spec PyProof.Rows
def MtM (X : Cx) (id : String) (r : V → List V → Hp → VK → Prop) : Prop :=
  ∀ (pins : List (Addr × Obj)) (s : Shared) (σ : St) (H : Hp) (x : V) (xs : List V) (v : Value) (us : List Value) (Q : VK), Inv X pins σ H s → RelV x v → Vals xs us → r x xs H Q →
    wpAny (model X.prog X.w) X.A (call (.builtin id) (v :: us)) (EP X pins σ Q) X.xe s
theorem Vals.one : ∀ {x : V} {us : List Value}, Vals [x] us → ∃ u, us = [u] ∧ RelV x u
  | _, _, .cons r .nil => ⟨_, rfl, r⟩
theorem Vals.rep {xs : List V} {us : List Value} (h : Vals xs us) : ∀ k : Nat, Vals (List.replicate k xs).flatten (List.replicate k us).flatten
  | 0 => .nil
  | k + 1 => by
    rw [List.replicate_succ, List.replicate_succ, List.flatten_cons, List.flatten_cons]
    exact Vals.append h (Vals.rep h k)
theorem foldl_rep (its : List Value) : ∀ (k : Nat) (acc : List Value),
    List.foldl (fun x1 x2 => x1 ++ x2) acc.toArray (List.replicate k its.toArray) = (acc ++ (List.replicate k its).flatten).toArray
  | 0, acc => by simp
  | k + 1, acc => by
    have e : acc.toArray ++ its.toArray = (acc ++ its).toArray := by simp
    have e2 : (acc ++ its) ++ (List.replicate k its).flatten = acc ++ (List.replicate (k + 1) its).flatten := by
      rw [List.replicate_succ, List.flatten_cons, List.append_assoc]
    rw [← e2, ← foldl_rep its k (acc ++ its), ← e, List.replicate_succ, List.foldl_cons]
section
variable {X : Cx} {pins : List (Addr × Obj)} {σ : St} {H : Hp} {s : Shared} {l b : Addr} {xs ys zs : List V}
theorem Inv.lset {its its' : List Value} {n : Nat} {f : Array Value → Array Value} {t' : Nat} (I : Inv X pins σ H s) (hH : H l = some (.lst xs))
    (e : s.heap.get? l = some { cls := .type "list", data := .seq its.toArray n }) (hf : f its.toArray = its'.toArray) (hv : Vals ys its') (hz : ys.length ≤ sizeLine) :
    Inv X pins σ (upd H l (.lst ys)) { s with heap := s.heap.update l (Obj.mapSeq f), toks := t' } := by
  have q := PySem.IsL.update e f
  rw [hf] at q
  refine I.write (x := l) (e := l) (by rw [hH]; exact trivial) (.inl rfl) (fun b' u hb hu => (Heap.get?_update_other s.heap (Obj.mapSeq f) (Ne.symm hb)).trans hu) ⟨_, q⟩ ?_
  exact ⟨hz, its', _, hv, q⟩
theorem Inv.lnew {its : List Value} {t' : Nat} (I : Inv X pins σ H s) (hv : Vals ys its) (hz : ys.length ≤ sizeLine) :
    Inv X pins σ (upd H s.heap.objs.size (.lst ys)) { s with heap := s.heap.push { cls := .type "list", data := .seq its.toArray }, toks := t' } :=
  I.laid (fun _ _ q => Heap.get?_push_of_some _ q) (Nat.le_refl _) ⟨hz, its, 0, hv, Heap.get?_push_size _ rfl⟩
theorem Inv.fresh (I : Inv X pins σ H s) : H s.heap.objs.size = none := I.hok.fresh (Nat.le_refl _)
theorem Inv.lstM (I : Inv X pins σ H s) (hH : H l = some (.lst xs)) : xs.length ≤ sizeLine ∧ ∃ (its : List Value) (n : Nat), Vals xs its ∧ xs.length = its.length ∧ s.heap.get? l = some { cls := .type "list", data := .seq its.toArray n } := by
  obtain ⟨z, its, n, r, e⟩ := I.hok l _ hH
  exact ⟨z, its, n, r, r.length, e⟩
theorem notLongL {n : Nat} (h : n ≤ sizeLine) : Builtin.List.listTooLong n = false := by
  unfold Builtin.List.listTooLong
  exact decide_eq_false (by omega)
end
section
variable {X : Cx}
def rAppend : V → List V → Hp → VK → Prop := fun x vs H Q => ∃ l xs y, x = .ref l ∧ vs = [y] ∧ H l = some (.lst xs) ∧ xs.length < sizeLine ∧ Q .non (upd H l (.lst (xs ++ [y])))
theorem mt_append : MtM X "list.append" rAppend := by
  intro pins s σ H x vs v us Q I rx rv h
  obtain ⟨l, xs, y, rfl, rfl, hH, hz, q⟩ := h
  cases rx
  obtain ⟨u, rfl, ru⟩ := rv.one
  obtain ⟨z, its, n, r, hl, e⟩ := I.lstM hH
  refine call_meets F.slot_list_append ⟨_, e, rfl⟩ F.entry_list_append (F.args_list_append_2 _ _) (PySem.list_append l its.toArray n u (by rw [List.size_toArray]; omega)) ⟨e, ?_⟩
  refine ⟨.non, _, I.lset (its' := its ++ [u]) hH e (by simp) (r.append (.cons ru .nil)) ?_, rfl, q⟩
  rw [List.length_append, List.length_singleton]
  omega
def rExtend : V → List V → Hp → VK → Prop := fun x vs H Q => ∃ l b xs zs, x = .ref l ∧ vs = [.ref b] ∧ H l = some (.lst xs) ∧ H b = some (.lst zs) ∧ xs.length + zs.length ≤ sizeLine ∧ Q .non (upd H l (.lst (xs ++ zs)))
theorem mt_extend : MtM X "list.extend" rExtend := by
  intro pins s σ H x vs v us Q I rx rv h
  obtain ⟨l, b, xs, zs, rfl, rfl, hH, hB, hz, q⟩ := h
  cases rx
  obtain ⟨u, rfl, ru⟩ := rv.one
  cases ru
  obtain ⟨z, its, n, r, hl, e⟩ := I.lstM hH
  obtain ⟨z2, its2, n2, r2, hl2, e2⟩ := I.lstM hB
  have hsz : its.toArray.size + its2.toArray.size ≤ sizeLine := by rw [List.size_toArray, List.size_toArray]; omega
  have hlong : ¬ (!its.toArray.isEmpty && Builtin.List.listTooLong (its.toArray.size + its2.toArray.size)) = true := by
    rw [notLongL hsz, Bool.and_false]
    exact Bool.false_ne_true
  refine call_meets F.slot_list_extend ⟨_, e, rfl⟩ F.entry_list_extend (F.args_list_extend_2 _ _)
    (AutoSeq1.list_extend_list_list_0 l its.toArray n b its2.toArray n2 hlong (by rw [List.size_toArray]; omega) (by omega)) ⟨e, e2, ?_⟩
  refine ⟨.non, _, I.lset (its' := its ++ its2) hH e (by simp) (r.append r2) ?_, rfl, q⟩
  rw [List.length_append]
  omega
def rCat : R2 := fun x y H Q => ∃ l b xs zs, x = .ref l ∧ y = .ref b ∧ H l = some (.lst xs) ∧ H b = some (.lst zs) ∧ xs.length + zs.length ≤ sizeLine ∧ ∀ p, H p = none → Q (.ref p) (upd H p (.lst (xs ++ zs)))
theorem op_cat : OpR X (binaryOp .Add) rCat := by
  intro pins s σ H x y v u Q I rx ry h
  obtain ⟨l, b, xs, zs, rfl, rfl, hH, hB, hz, q⟩ := h
  cases rx
  cases ry
  obtain ⟨z, its, n, r, hl, e⟩ := I.lstM hH
  obtain ⟨z2, its2, n2, r2, hl2, e2⟩ := I.lstM hB
  refine PySem.P.add_list e e2 ?_ (by rw [List.size_toArray, List.size_toArray]; omega)
  have ea : its.toArray ++ its2.toArray = (its ++ its2).toArray := by simp
  rw [ea]
  exact ⟨.ref _, _, I.lnew (t' := s.toks) (r.append r2) (by rw [List.length_append]; omega), rfl, q _ I.fresh⟩
def rRep : R2 := fun x y H Q => ∃ l k xs, x = .ref l ∧ y = .int k ∧ H l = some (.lst xs) ∧ -(2 ^ 63) ≤ k ∧ k < 2 ^ 63 ∧ xs.length * k.toNat ≤ sizeLine ∧
  ∀ p, H p = none → Q (.ref p) (upd H p (.lst (List.replicate k.toNat xs).flatten))
theorem len_rep {α : Type} (xs : List α) (k : Nat) : (List.replicate k xs).flatten.length = k * xs.length := by
  induction k with
  | zero => simp
  | succ k ih => rw [List.replicate_succ, List.flatten_cons, List.length_append, ih, Nat.succ_mul, Nat.add_comm]
theorem op_rep : OpR X (binaryOp .Mult) rRep := by
  intro pins s σ H x y v u Q I rx ry h
  obtain ⟨l, k, xs, rfl, rfl, hH, h1, h2, hz, q⟩ := h
  cases rx
  obtain ⟨t, rfl⟩ := ry
  obtain ⟨z, its, n, r, hl, e⟩ := I.lstM hH
  have hlen : its.toArray.size * k.toNat ≤ sizeLine := by rw [List.size_toArray, ← hl]; exact hz
  have hcap : ¬ its.toArray.size * k.toNat > (2 ^ 63 - 1) / 8 := by
    have : (sizeLine : Nat) ≤ (2 ^ 63 - 1) / 8 := by decide
    omega
  have hfit : ¬ (!Builtin.List.listFitsIndex k) = true := by
    rw [fitsIndex_both h1 h2]
    exact Bool.false_ne_true
  have hlong : ¬ Builtin.List.listTooLong (its.toArray.size * k.toNat) = true := by
    rw [notLongL hlen]
    exact Bool.false_ne_true
  have hnew : List.foldl (fun x1 x2 => x1 ++ x2) #[] (List.replicate (if its.toArray.isEmpty = true then 0 else k.toNat) its.toArray) = (List.replicate k.toNat its).flatten.toArray := by
    have f0 : ∀ m : Nat, List.foldl (fun x1 x2 => x1 ++ x2) #[] (List.replicate m its.toArray) = (List.replicate m its).flatten.toArray := fun m => by
      have := foldl_rep its m []
      rw [List.nil_append] at this
      exact this
    rw [f0]
    cases its with
    | nil => simp
    | cons a r' => rw [if_neg (by simp)]
  refine wpAny_binaryOp_repeat_ref (T := "list") (U := "int") (by decide) ⟨_, e, rfl⟩ (fun s' => typeIs_int s' k t) noFill_list_mul F.fills_int_mul F.slot_int_rmul repeat_list F.slot_int_index.lookup
    (call_meets F.slot_int_rmul (typeIs_int s k t) F.entry_int_rmul (F.args_int_rmul_2 _ _) (int___rmul___int_list k t l its.toArray n)
      ⟨e, rfl, ⟨_, e, rfl⟩, call_meets F.slot_list_mul ⟨_, e, rfl⟩ F.entry_list_mul (F.args_list_mul_2 _ _) (AutoListH.list___mul___list_int_3 l its.toArray n k t hfit hcap hlong) ⟨e, ?_⟩⟩)
  rw [hnew]
  exact ⟨.ref _, _, I.lnew (t' := s.toks) (r.rep k.toNat) (by rw [len_rep, Nat.mul_comm]; exact hz), rfl, q _ I.fresh⟩
end
section
variable {prog : Program} {w : World} {A : Around} {E : Value → Shared → Prop} {s : Shared}
end
section
variable {X : Cx}
end
end L2
namespace L2
open PySem PySem.Spec PyProof.Rows
theorem Vals.ints : ∀ {ns : List Int} {us : List Value}, Vals (ns.map V.int) us → IntsAre us ns
  | [], us, h => by
    rw [List.map_nil] at h
    cases h
    exact IntsAre.nil
  | n :: ns, us, h => by
    rw [List.map_cons] at h
    cases h with
    | cons r t =>
      obtain ⟨k, rfl⟩ := r
      exact IntsAre.cons n k (Vals.ints t)
theorem Vals.bls : ∀ {bs : List Bool} {us : List Value}, Vals (bs.map V.bl) us → us = bs.map Value.bool
  | [], us, h => by
    rw [List.map_nil] at h
    cases h
    rfl
  | b :: bs, us, h => by
    rw [List.map_cons] at h
    cases h with
    | cons r t =>
      cases r
      rw [Vals.bls t, List.map_cons]
theorem Vals.ref1 {a : Addr} {us : List Value} (r : Vals [V.ref a] us) : us = [Value.ref a] := by
  cases r with
  | cons r t =>
    cases t
    cases r
    rfl
section
variable {prog : Program} {w : World} {A : Around} {E : Value → Shared → Prop} {s : Shared} {l : Addr} {its : List Value} {ns : List Int} {Q : Value → Shared → Prop}
theorem sum_raw (hh : A.handled = none) (hl : s.heap.IsList l its.toArray) (hi : IntsAre its ns)
    (h : ∀ h' tk t', (∀ b o, s.heap.get? b = some o → h'.get? b = some o) → Q (.int ns.sum t') { s with heap := h', toks := tk }) : wpAny (model prog w) A (call (.builtin "sum") [.ref l]) Q E s := by
  obtain ⟨xs, e⟩ := hi.allInts.items
  have hn : numsOf (intItems xs).toList = ns := by rw [← e]; exact hi.numsOf
  rw [nums_intItems] at hn
  rw [e] at hl
  refine PySem.sum_intListG hh hl fun h' tk t' hk => ?_
  have := h h' tk t' hk
  rw [preSum_eq, List.take_of_length_le (by simp), hn]; exact this
end
section
variable {X : Cx}
def rSum (K : PySem.W.Frag) : List V → Hp → VK → Prop := fun vs H Q => ∃ (a : Addr) (ns : List Int), vs = [V.ref a] ∧ SqL K H a (ns.map V.int) ∧ Q (.int ns.sum) H
theorem cr_sum (hc : X.calm = true) : CallR X (.builtin "sum") (rSum X.K) := by
  intro pins s σ H vs us Q I r h
  obtain ⟨a, ns, rfl, hs, q⟩ := h
  obtain ⟨its, rv, hl, _⟩ := I.list hs
  rw [Vals.ref1 r]
  exact sum_raw (I.ok.hd hc) hl.isList rv.ints fun h' tk t' hk => ⟨.int _, H, I.kept hk, ⟨_, rfl⟩, q⟩
end
section
variable {X : Cx}
end
section
variable {X : Cx}
end
theorem iter_any {prog : Program} {w : World} {A : Around} {E : Value → Shared → Prop} {s : Shared} {l : Addr} {items : Array Value} {Q : Value → Shared → Prop} (hl : s.heap.IsList l items)
    (h : ∀ s₂ : Shared, s₂ = { s with heap := s.heap.push { cls := .type "list_iterator", data := .fields #[.ref l, .int 0 0] } } →
      (s₂.heap.IsListIter s.heap.objs.size l 0 ∧ s₂.heap.IsList l items) → l ≠ s.heap.objs.size → Q (.ref s.heap.objs.size) s₂) : wpAny (model prog w) A (pyIter (.ref l)) Q E s := by
  have hlt : l < s.heap.objs.size := by obtain ⟨_, e, _⟩ := hl; exact Heap.lt_size e
  exact wpAny_pyIter_list hl (h _ rfl ⟨⟨_, Heap.get?_push_size _ rfl, rfl, rfl⟩, hl.push _⟩ (Nat.ne_of_lt hlt))
theorem truth_bools {prog : Program} {w : World} {A : Around} {bs : List Bool} {its : List Value} (e : its = bs.map Value.bool) :
    TruthOf prog w A (fun i v => its.toArray[i]? = some v) (fun i => bs.getD i false) := fun i v s Q E hv hq => by
  have hv' : its[i]? = some v := by simpa using hv
  rw [e, List.getElem?_map] at hv'
  obtain ⟨b, hb, rfl⟩ := Option.map_eq_some_iff.mp hv'
  have hg : bs.getD i false = b := by rw [List.getD_eq_getElem?_getD, hb] <;> rfl
  have hq' : Q (bs.getD i false) s := hq
  rw [hg] at hq'
  exact wpAny_truthy_bool hq'
theorem all_range : ∀ bs : List Bool, (List.range bs.length).all (fun i => bs.getD i false) = bs.all id
  | [] => rfl
  | b :: bs => by
    rw [List.length_cons, List.range_succ_eq_map, List.all_cons, List.all_map, List.all_cons, ← all_range bs]
    all_goals rfl
section
variable {X : Cx}
def rAll (K : PySem.W.Frag) : List V → Hp → VK → Prop := fun vs H Q => ∃ (a : Addr) (bs : List Bool), vs = [V.ref a] ∧ SqL K H a (bs.map V.bl) ∧ Q (.bl (bs.all id)) H
theorem cr_all (hc : X.calm = true) : CallR X (.builtin "all") (rAll X.K) := by
  intro pins s σ H vs us Q I r h
  obtain ⟨a, bs, rfl, hs, q⟩ := h
  obtain ⟨its, rv, hl, _⟩ := I.list hs
  rw [Vals.ref1 r]
  have hb := rv.bls
  refine call_all_walk (iter_any hl.isList fun s₂ e2 st hne => ?_)
  subst e2
  refine ⟨_, _, _, _, _, _, _, rfl, Walks.list (A := X.A.in1) (I.ok.hd hc) _ a hne its.toArray, st, truth_bools hb, fun h' tk hk => ?_⟩
  refine ⟨.bl _, H, I.kept fun b o eo => hk b o (fun hmem => ?_) (Heap.get?_push_of_some _ eo), ?_, q⟩
  · rcases List.mem_cons.mp hmem with e1 | hmem
    · exact absurd (e1 ▸ Heap.lt_size eo) (Nat.lt_irrefl _)
    · cases hmem
  · show Value.bool _ = Value.bool _
    rw [← all_range, hb, List.size_toArray, List.length_map]
end
section
variable {X : Cx} {pins : List (Addr × Obj)} {σ : St} {H : Hp} {s : Shared}
end
section
variable {X : Cx}
end
end L2
namespace L2
open PySem PySem.Spec PyProof.Rows
abbrev CellAt (h : Heap) (c : Addr) (v : Option Value) : Prop := h.IsCell c v
def relS (scope sc : Scope) : Scope :=
  { scope with names := scope.names.map fun (n, k) => if (k == .free && sc.kind == .function && sc.names.lookup n == some .cell) then (n, .cell) else (n, k) }
def cloFrom (cells : List (Str × Addr)) : List (Str × NameKind) → List (Str × Addr) → List (Str × Addr)
  | [], acc => acc
  | (n, k) :: r, acc => if k == .free then cloFrom cells r ((n, (cells.lookup n).getD 0) :: acc) else cloFrom cells r acc
theorem closure_loop (env : Env) (f : Str × NameKind → List (Str × Addr) → Sem (ForInStep (List (Str × Addr))))
    (hf : ∀ n k c, f (n, k) c = if k == .free then (do let a ← cellOf env n; pure (.yield ((n, a) :: c))) else pure (.yield c)) :
    ∀ (names : List (Str × NameKind)) (acc : List (Str × Addr)), (∀ y ∈ names, y.2 = .free → ∃ c, env.cells.lookup y.1 = some c) → forIn names acc f = pure (cloFrom env.cells names acc)
  | [], acc, _ => by rw [List.forIn_nil]; rfl
  | (n, k) :: r, acc, h => by
    rw [List.forIn_cons, hf]
    have ih := fun acc => closure_loop env f hf r acc fun y hy => h y (List.mem_cons_of_mem _ hy)
    unfold cloFrom
    by_cases hk : (k == NameKind.free) = true
    · rw [if_pos hk, if_pos hk]
      obtain ⟨c, hc⟩ := h (n, k) List.mem_cons_self (by simpa using hk)
      have e : cellOf env n = pure c := by unfold cellOf; rw [hc]
      rw [e]
      have e2 : (env.cells.lookup n).getD 0 = c := by rw [hc]; rfl
      rw [e2]
      exact ih _
    · rw [if_neg hk, if_neg hk]
      exact ih _
theorem closure_ok {scope : Scope} {env : Env} (h : ∀ y ∈ scope.names, y.2 = .free → ∃ c, env.cells.lookup y.1 = some c) : closureFor scope env = pure (cloFrom env.cells scope.names []) := by
  simp only [closureFor]
  rw [closure_loop env _ (fun n k c => rfl) scope.names [] h]
  rfl
theorem mem_lookup {α : Type} : ∀ {l : List (Str × α)} {n : Str} {c : α}, (n, c) ∈ l → ∃ c', l.lookup n = some c'
  | (k, v) :: r, n, c, h => by
    rw [List.lookup_cons]
    cases hb : n == k with
    | true => exact ⟨_, rfl⟩
    | false =>
      rcases List.mem_cons.mp h with e | h
      · cases e; simp at hb
      · exact mem_lookup h
theorem cloFrom_mem {cells : List (Str × Addr)} : ∀ {names : List (Str × NameKind)} {acc : List (Str × Addr)} {n : Str} {c : Addr}, (n, c) ∈ cloFrom cells names acc → (n, c) ∈ acc ∨ ((n, .free) ∈ names ∧ c = (cells.lookup n).getD 0)
  | [], _, _, _, h => .inl h
  | (m, k) :: r, acc, n, c, h => by
    unfold cloFrom at h
    split at h
    · rename_i hk
      have hk : k = .free := by simpa using hk
      rcases cloFrom_mem h with h | ⟨h1, h2⟩
      · rcases List.mem_cons.mp h with e | h
        · cases e; exact .inr ⟨hk ▸ List.mem_cons_self, rfl⟩
        · exact .inl h
      · exact .inr ⟨List.mem_cons_of_mem _ h1, h2⟩
    · rcases cloFrom_mem h with h | ⟨h1, h2⟩
      · exact .inl h
      · exact .inr ⟨List.mem_cons_of_mem _ h1, h2⟩
theorem cloFrom_acc {cells : List (Str × Addr)} : ∀ {names : List (Str × NameKind)} {acc : List (Str × Addr)} {p : Str × Addr}, p ∈ acc → p ∈ cloFrom cells names acc
  | [], _, _, h => h
  | (m, k) :: r, acc, p, h => by
    unfold cloFrom
    split
    · exact cloFrom_acc (List.mem_cons_of_mem _ h)
    · exact cloFrom_acc h
theorem cloFrom_has {cells : List (Str × Addr)} : ∀ {names : List (Str × NameKind)} {acc : List (Str × Addr)} {n : Str}, (n, .free) ∈ names → (n, (cells.lookup n).getD 0) ∈ cloFrom cells names acc
  | (m, k) :: r, acc, n, h => by
    unfold cloFrom
    rcases List.mem_cons.mp h with e | h
    · cases e
      exact cloFrom_acc List.mem_cons_self
    · split
      · exact cloFrom_has h
      · exact cloFrom_has h
theorem cells_mem : ∀ {names : List (Str × NameKind)} {h : Heap} {acc : List (Str × Addr)} {x : Str} {c : Addr}, (x, c) ∈ cellsFrom h.objs.size names acc →
    (x, c) ∈ acc ∨ ((x, .cell) ∈ names ∧ h.objs.size ≤ c ∧ CellAt (pushCells h names) c none)
  | [], _, _, _, _, h => .inl h
  | (n, k) :: r, h, acc, x, c, hm => by
    unfold cellsFrom at hm
    unfold pushCells
    split at hm
    · rename_i hk
      rw [if_pos hk]
      have hk : k = .cell := by simpa using hk
      rw [← Heap.size_push h { cls := .type "cell", data := .cell none }] at hm
      rcases cells_mem hm with hm | ⟨h1, h2, h3⟩
      · rcases List.mem_cons.mp hm with e | hm
        · cases e
          exact .inr ⟨hk ▸ List.mem_cons_self, Nat.le_refl _, _, pushCells_keeps r _ _ _ (Heap.get?_push_size _ rfl), rfl⟩
        · exact .inl hm
      · rw [Heap.size_push] at h2
        exact .inr ⟨List.mem_cons_of_mem _ h1, Nat.le_of_succ_le h2, h3⟩
    · rename_i hk
      rw [if_neg hk]
      rcases cells_mem hm with hm | ⟨h1, h2, h3⟩
      · exact .inl hm
      · exact .inr ⟨List.mem_cons_of_mem _ h1, h2, h3⟩
theorem cells_acc : ∀ {names : List (Str × NameKind)} {n : Nat} {acc : List (Str × Addr)} {p : Str × Addr}, p ∈ acc → p ∈ cellsFrom n names acc
  | [], _, _, _, h => h
  | (m, k) :: r, n, acc, p, h => by
    unfold cellsFrom
    split
    · exact cells_acc (List.mem_cons_of_mem _ h)
    · exact cells_acc h
theorem cells_has : ∀ {names : List (Str × NameKind)} {n : Nat} {acc : List (Str × Addr)} {x : Str}, (x, .cell) ∈ names → ∃ c, (x, c) ∈ cellsFrom n names acc
  | (m, k) :: r, n, acc, x, h => by
    unfold cellsFrom
    rcases List.mem_cons.mp h with e | h
    · cases e
      exact ⟨n, cells_acc List.mem_cons_self⟩
    · split
      · exact cells_has h
      · exact cells_has h
theorem cells_inj : ∀ {names : List (Str × NameKind)} {h : Heap} {acc : List (Str × Addr)} {x y : Str} {c : Addr}, (∀ p ∈ acc, p.2 < h.objs.size) → (∀ x y c, (x, c) ∈ acc → (y, c) ∈ acc → x = y) →
    (x, c) ∈ cellsFrom h.objs.size names acc → (y, c) ∈ cellsFrom h.objs.size names acc → x = y
  | [], _, _, _, _, _, _, hi, h1, h2 => hi _ _ _ h1 h2
  | (n, k) :: r, h, acc, x, y, c, hl, hi, h1, h2 => by
    unfold cellsFrom at h1 h2
    split at h1
    · rename_i hk
      rw [if_pos hk] at h2
      rw [← Heap.size_push h { cls := .type "cell", data := .cell none }] at h1 h2
      refine cells_inj (h := h.push _) (fun p hp => ?_) (fun x y c a b => ?_) h1 h2
      · rw [Heap.size_push]
        rcases List.mem_cons.mp hp with rfl | hp
        · exact Nat.lt_succ_self _
        · exact Nat.lt_succ_of_lt (hl p hp)
      · rcases List.mem_cons.mp a with e | a <;> rcases List.mem_cons.mp b with e' | b
        · cases e; cases e'; rfl
        · cases e; exact absurd (hl _ b) (Nat.lt_irrefl _)
        · cases e'; exact absurd (hl _ a) (Nat.lt_irrefl _)
        · exact hi _ _ _ a b
    · rename_i hk
      rw [if_neg hk] at h2
      exact cells_inj hl hi h1 h2
theorem newEnv_comp {M : Model} {A : Around} {E : Value → Shared → Prop} {s : Shared} {scope : Scope} {globals : Addr} {closure : List (Str × Addr)} {qual : Str} {func : Option Addr} {code : Value} {around : Env} {builtins : Addr} {Q : Env → Shared → Prop}
    (h : Q (newEnv scope s.heap.objs.size globals (cellsFrom (s.heap.objs.size + 1) scope.names closure) qual func code (some around) builtins)
      { s with heap := pushCells (s.heap.push { cls := .type "dict", data := .dict #[] }) scope.names }) :
    wpAny M A (newFunctionEnv scope globals closure [] qual func code (some around) builtins) Q E s := by
  simp only [newFunctionEnv, Option.isSome_some, if_true]
  refine wpAny_bind (wpAny_alloc ?_)
  refine wpAny_bind (wpAny_layCells _ (fun n k c => rfl) scope.names closure _ _ ?_)
  rw [show ({ s with heap := s.heap.push { cls := .type "dict", data := .dict #[] } } : Shared).heap.objs.size = s.heap.objs.size + 1 from Heap.size_push ..]
  rw [List.forIn_nil]
  exact wpAny_bind (wpAny_pure (wpAny_pure h))
theorem lookup_relS {sc : Scope} : ∀ {names : List (Str × NameKind)} {x : Str} {k : NameKind},
    (names.map fun (n, k) => if (k == NameKind.free && sc.kind == .function && sc.names.lookup n == some .cell) then (n, NameKind.cell) else (n, k)).lookup x = some k →
    ∃ k', names.lookup x = some k' ∧ (k = k' ∨ (k' = .free ∧ k = .cell))
  | [], _, _, h => by simp at h
  | (n, k₀) :: r, x, k, h => by
    have ih := @lookup_relS sc r x k
    have h' : List.lookup x ((if (k₀ == NameKind.free && sc.kind == .function && sc.names.lookup n == some .cell) = true then (n, NameKind.cell) else (n, k₀)) :: (r.map _)) = some k := h
    cases hx : x == n with
    | true =>
      simp only [List.lookup_cons, hx]
      by_cases hc : (k₀ == NameKind.free && sc.kind == .function && sc.names.lookup n == some .cell) = true
      · rw [if_pos hc] at h'
        simp only [List.lookup_cons, hx] at h'
        cases h'
        simp only [Bool.and_eq_true, beq_iff_eq] at hc
        exact ⟨k₀, rfl, .inr ⟨hc.1.1, rfl⟩⟩
      · rw [if_neg hc] at h'
        simp only [List.lookup_cons, hx] at h'
        cases h'
        exact ⟨_, rfl, .inl rfl⟩
    | false =>
      simp only [List.lookup_cons, hx]
      by_cases hc : (k₀ == NameKind.free && sc.kind == .function && sc.names.lookup n == some .cell) = true
      · rw [if_pos hc] at h'
        simp only [List.lookup_cons, hx] at h'
        exact ih h'
      · rw [if_neg hc] at h'
        simp only [List.lookup_cons, hx] at h'
        exact ih h'
structure BlkOk (N : List Str) (sc scope : Scope) (own : List (Str × Nat)) : Prop where
  kind : scope.kind = .function
  uniq : ∀ y ∈ scope.names, scope.names.lookup y.1 = some y.2
  ix : ∀ p ∈ own, N[p.2]? = some p.1
  free : ∀ y ∈ scope.names, y.2 = .free → sc.names.lookup y.1 = some .cell ∨ sc.names.lookup y.1 = some .free
  own : ∀ y ∈ scope.names, y.2 = .local ∨ y.2 = .cell → y.1 ∈ own.map (·.1) ∨ y.1 ∉ N
def wipe (σ : St) : List Nat → St
  | [] => σ
  | v :: vs => (wipe σ vs).set v none
theorem wipe_length (σ : St) : ∀ vs : List Nat, (wipe σ vs).length = σ.length
  | [] => rfl
  | v :: vs => by unfold wipe; rw [List.length_set, wipe_length σ vs]
theorem wipe_some {σ : St} {i : Nat} {x : V} : ∀ {vs : List Nat}, (wipe σ vs)[i]? = some (some x) → σ[i]? = some (some x) ∧ i ∉ vs
  | [], h => ⟨h, by simp⟩
  | v :: vs, h => by
    unfold wipe at h
    by_cases hi : v = i
    · subst hi
      by_cases hv : v < (wipe σ vs).length
      · rw [List.getElem?_set_self hv] at h; cases h
      · rw [List.getElem?_eq_none (by simpa using hv)] at h; cases h
    · rw [List.getElem?_set_ne hi] at h
      obtain ⟨h1, h2⟩ := wipe_some h
      exact ⟨h1, by simp only [List.mem_cons, not_or]; exact ⟨fun e => hi e.symm, h2⟩⟩
abbrev Cx.blk (X : Cx) (s : Shared) (H : Hp) (scope : Scope) (cenv : Env) (fp : List Addr) : Cx := { X with s_0 := s, H_0 := H, env := cenv, outer := X.stack, ex := fp, fn := fun x => scope.names.lookup x == some .cell, pn := [], xe := fun _ _ => False }
section
variable {X : Cx} {pins : List (Addr × Obj)} {σ : St} {H : Hp} {s : Shared}
theorem block_start {scope : Scope} {own : List (Str × Nat)} {fp : List Addr} (I : Inv X pins σ H s) (ok : BlkOk X.N X.env.scope scope own) (hN : X.N.Nodup) (hfp : ∀ b ∈ fp, FpOk X pins H b ∧ b < s.heap.objs.size) :
    Inv (X.blk s H scope (compEnvC scope (cellsFrom (s.heap.objs.size + 1) scope.names (cloFrom X.env.cells scope.names [])) s.heap.objs.size X.env) fp) [] (wipe σ (own.map (·.2))) H { s with heap := pushCells (s.heap.push { cls := .type "dict", data := .dict #[] }) scope.names } := by
  have hfree : ∀ y ∈ scope.names, y.2 = .free → ∃ c, X.env.cells.lookup y.1 = some c := fun y hy e => by
    rcases ok.free y hy e with k | k
    · exact I.ok.has _ (.inl k)
    · exact I.ok.has _ (.inr k)
  generalize hcenv : compEnvC scope (cellsFrom (s.heap.objs.size + 1) scope.names (cloFrom X.env.cells scope.names [])) s.heap.objs.size X.env = cenv
  have kp : ∀ b o, s.heap.get? b = some o → (pushCells (s.heap.push { cls := .type "dict", data := .dict #[] }) scope.names).get? b = some o := fun b o e => pushCells_keeps _ _ _ _ (Heap.get?_push_of_some _ e)
  have hL : cenv.locals = s.heap.objs.size := by rw [← hcenv]; rfl
  have hcl : cenv.cells = cellsFrom (s.heap.objs.size + 1) scope.names (cloFrom X.env.cells scope.names []) := by rw [← hcenv]; rfl
  have hsc : cenv.scope = relS scope X.env.scope := by rw [← hcenv]; rfl
  rw [← Heap.size_push s.heap { cls := .type "dict", data := .dict #[] }] at hcl
  have cm : ∀ {y c}, (y, c) ∈ cloFrom X.env.cells scope.names [] → X.env.cells.lookup y = some c ∧ c < s.heap.objs.size := fun {y c} hm => by
    rcases cloFrom_mem hm with hm | ⟨h1, rfl⟩
    · cases hm
    · obtain ⟨c, hc⟩ := hfree _ h1 rfl
      rw [hc]
      obtain ⟨w, z⟩ := I.cell _ _ hc
      exact ⟨rfl, z.lt⟩
  have mem : ∀ {y c}, cenv.cells.lookup y = some c → (X.env.cells.lookup y = some c ∧ c < s.heap.objs.size) ∨ (s.heap.objs.size + 1 ≤ c ∧ CellAt (pushCells (s.heap.push { cls := .type "dict", data := .dict #[] }) scope.names) c none) := fun {y c} e => by
    rw [hcl] at e
    rcases cells_mem (PySem.mem_of_lookup e) with hm | ⟨_, h2, h3⟩
    · exact .inl (cm hm)
    · rw [Heap.size_push] at h2; exact .inr ⟨h2, h3⟩
  have look : ∀ {y}, scope.names.lookup y = some .free → ∃ c, cenv.cells.lookup y = some c ∧ X.env.cells.lookup y = some c := fun {y} hl => by
    have hy : (y, NameKind.free) ∈ scope.names := PySem.mem_of_lookup hl
    obtain ⟨c', e'⟩ := mem_lookup (cells_acc (names := scope.names) (n := (s.heap.push { cls := .type "dict", data := .dict #[] }).objs.size) (cloFrom_has (cells := X.env.cells) (acc := []) hy))
    rw [← hcl] at e'
    refine ⟨c', e', ?_⟩
    rw [hcl] at e'
    rcases cells_mem (PySem.mem_of_lookup e') with hm | ⟨h1, _, _⟩
    · exact (cm hm).1
    · have := ok.uniq _ h1
      rw [hl] at this; cases this
  have okB : (X.blk s H scope cenv fp).Ok := by
    refine ⟨I.ok.mod, by show cenv.scope.kind = _; rw [hsc]; exact ok.kind, by show cenv.globals = _; rw [← hcenv]; exact I.ok.glob, by show cenv.builtins = _; rw [← hcenv]; exact I.ok.blt, by show s.heap.objs.size ≤ cenv.locals; rw [hL]; exact Nat.le_refl _,
      fun y z c e1 e2 => ?_, fun y hy => ?_, fun y c z e => ?_, I.ok.hd, I.ok.frames, .inl rfl, fun b hb => ⟨?_, fun y c e z => ?_⟩, I.bs, Nat.le_trans I.ok.bsz I.sz, fun b o e hb => ?_, fun b hb z => ?_, I.stack, I.stkFree⟩
    · have e1 : cenv.cells.lookup y = some c := e1
      have e2 : cenv.cells.lookup z = some c := e2
      rw [hcl] at e1 e2
      refine cells_inj (fun p hp => ?_) (fun y z c a b => I.ok.inj y z c (cm a).1 (cm b).1) (PySem.mem_of_lookup e1) (PySem.mem_of_lookup e2)
      rw [Heap.size_push]
      exact Nat.lt_succ_of_lt (cm (y := p.1) (c := p.2) hp).2
    · show ∃ c, cenv.cells.lookup y = some c
      have key : ∀ k, cenv.kindOf y = some k → (k = .cell ∨ k = .free) → ∃ c, cenv.cells.lookup y = some c := fun k hk hk' => by
        unfold Env.kindOf at hk
        rw [hsc] at hk
        obtain ⟨k', e, r⟩ := lookup_relS hk
        have : k' = .cell ∨ k' = .free := by
          rcases r with rfl | ⟨rfl, _⟩
          · exact hk'
          · exact .inr rfl
        rcases this with rfl | rfl
        · obtain ⟨c, hm⟩ := cells_has (n := (s.heap.push { cls := .type "dict", data := .dict #[] }).objs.size) (acc := cloFrom X.env.cells scope.names []) (PySem.mem_of_lookup e)
          obtain ⟨c', e'⟩ := mem_lookup hm
          exact ⟨c', by rw [hcl]; exact e'⟩
        · obtain ⟨c, h1, _⟩ := look e
          exact ⟨c, h1⟩
      rcases hy with hy | hy
      · exact key _ hy (.inl rfl)
      · exact key _ hy (.inr rfl)
    · have z : (scope.names.lookup y == some NameKind.cell) = true := z
      have z : scope.names.lookup y = some .cell := by simpa using z
      have e : cenv.cells.lookup y = some c := e
      rw [hcl] at e
      rcases cells_mem (PySem.mem_of_lookup e) with hm | ⟨_, h2, _⟩
      · rcases cloFrom_mem hm with hm | ⟨h1, _⟩
        · cases hm
        · have q := ok.uniq _ h1
          rw [z] at q; cases q
      · rw [Heap.size_push] at h2
        exact Nat.le_of_succ_le h2
    · show b ≠ cenv.locals
      rw [hL]; exact Nat.ne_of_lt (hfp b hb).2
    · have e : cenv.cells.lookup y = some c := e
      rcases mem e with ⟨h1, _⟩ | ⟨h1, _⟩
      · exact (hfp b hb).1.2.2.2.2.1 y c h1 z
      · have h2 : s.heap.objs.size + 1 ≤ b := by rw [← z]; exact h1
        exact absurd (Nat.lt_of_lt_of_le (hfp b hb).2 (Nat.le_of_succ_le h2)) (Nat.lt_irrefl _)
    · rcases (hfp b hb).1.2.2.2.1 with z | z
      · exact I.ok.noex b o e z
      · exact absurd (Nat.lt_of_lt_of_le (Heap.lt_size e) (Nat.le_trans I.ok.bsz z)) (Nat.lt_irrefl _)
    · rcases List.mem_cons.mp (I.stkSub b z) with z | z
      · exact (hfp b hb).1.2.1 z
      · exact (hfp b hb).1.2.2.1 z
  refine ⟨okB, rfl, I.bare, Un.kept kp, ⟨fun _ => none, ?_, fun i y av e1 e2 e3 => ?_⟩, fun y c e => ?_, ?_, fun y c e => ?_, fun p hp => ?_, I.hok.kept kp, by rw [wipe_length]; exact I.len⟩
  · show Heap.Ns _ cenv.locals _
    rw [hL]
    exact Heap.Ns.keeps (Heap.Ns.new ..) fun b o e => pushCells_keeps _ _ _ _ e
  · obtain ⟨e2, hne⟩ := wipe_some e2
    have hfr : scope.names.lookup y = some .free ∧ (cenv.kindOf y = some .cell ∨ cenv.kindOf y = some .free) := by
      have key : ∀ k, cenv.scope.names.lookup y = some k → k = .local ∨ k = .cell ∨ k = .free → scope.names.lookup y = some .free ∧ (cenv.kindOf y = some .cell ∨ cenv.kindOf y = some .free) := fun k hk hk' => by
        have hk0 := hk
        rw [hsc] at hk
        obtain ⟨k', e, r⟩ := lookup_relS hk
        have no : ¬ (k' = .local ∨ k' = .cell) := fun hh => by
          rcases ok.own _ (PySem.mem_of_lookup e) hh with e' | e'
          · obtain ⟨p, hp, hpy⟩ := List.mem_map.mp e'
            have e3 := ok.ix p hp
            have : p.1 = y := hpy
            rw [this] at e3
            exact hne (List.mem_map.mpr ⟨p, hp, nodup_ix hN e3 e1⟩)
          · exact e' (List.mem_of_getElem? e1)
        rcases r with rfl | ⟨rfl, rfl⟩
        · rcases hk' with rfl | rfl | rfl
          · exact absurd (.inl rfl) no
          · exact absurd (.inr rfl) no
          · exact ⟨e, .inr hk0⟩
        · exact ⟨e, .inl hk0⟩
      have e3 : Vis cenv.scope y := e3
      rcases e3 with e3 | e3 | e3
      · exact key _ e3 (.inl rfl)
      · exact key _ e3 (.inr (.inl rfl))
      · exact key _ e3 (.inr (.inr rfl))
    obtain ⟨m, hn, hl⟩ := I.loc
    have hvis : Vis X.env.scope y := (ok.free _ (PySem.mem_of_lookup hfr.1) rfl).elim (fun k => .inr (.inl k)) (fun k => .inr (.inr k))
    obtain ⟨w, r, q⟩ := hl i y av e1 e2 hvis
    refine ⟨w, r, .inr ⟨hfr.2, ?_⟩⟩
    obtain ⟨c, h1, h2⟩ := look hfr.1
    rcases q with ⟨k, _⟩ | ⟨_, c', e', z⟩
    · have k : X.env.scope.names.lookup y = some .local := k
      rcases ok.free _ (PySem.mem_of_lookup hfr.1) rfl with k' | k' <;> rw [show X.env.scope.names.lookup y = _ from k'] at k <;> cases k
    · rw [h2] at e'; cases e'
      exact ⟨c, h1, z.keeps kp⟩
  · have e : cenv.cells.lookup y = some c := e
    rcases mem e with ⟨h1, _⟩ | ⟨_, z⟩
    · obtain ⟨w, z⟩ := I.cell y c h1
      exact ⟨w, z.keeps kp⟩
    · exact ⟨_, z⟩
  · show H cenv.locals = none
    rw [hL]; exact I.hok.fresh (Nat.le_refl _)
  · have e : cenv.cells.lookup y = some c := e
    rcases mem e with ⟨h1, _⟩ | ⟨h1, _⟩
    · exact I.freeC y c h1
    · exact I.hok.fresh (Nat.le_of_succ_le h1)
  · exact absurd (show p ∈ ([] : List (Addr × Obj)) ++ [] from hp) (by simp)
theorem app_ok {E : Value → Shared → Prop} {D : Addr} {xs : List V} {y : V} {v : Value} {Q : Value → Shared → Prop} (I : Inv X pins σ H s) (hD : H D = some (.lst xs)) (hz : xs.length < sizeLine) (r : RelV y v)
    (h : ∀ s', Inv X pins σ (upd H D (.lst (xs ++ [y]))) s' → Q .none s') : wpAny (model X.prog X.w) X.A (call (.builtin "list.append") [.ref D, v]) Q E s := by
  obtain ⟨hz', its, n, ri, e⟩ := I.hok D _ hD
  have hl := ri.length
  refine append_at (hsz := by rw [List.size_toArray]; omega) e fun h' sb ho' => ?_
  refine h { s with heap := h' } (I.write (t' := s.toks) (by rw [hD]; trivial) (.inl rfl) (fun b u hb q => (sb.2 b hb).trans q) ⟨_, ho'⟩ ⟨by rw [List.length_append]; exact hz, its ++ [v], n + 1, ri.append (.cons r .nil), ?_⟩)
  rw [ho']
  simp
def PTs (X : Cx) (ifs : List Expr) (t : TT) : Prop :=
  ∀ (pins : List (Addr × Obj)) (s : Shared) (σ : St) (H : Hp) (Q : Bool → Hp → Prop), Inv X pins σ H s → t σ H Q →
    wpAny (model X.prog X.w) X.A (forIn ifs true fun c r => if r = true then do let ok ← isTrue c X.env (eval c X.env); pure (ForInStep.yield ok) else pure (ForInStep.yield r)) (TP X pins σ Q) X.xe s
def tYes : TT := fun _ H Q => Q true H
theorem pts_nil : PTs X [] tYes := fun _ _ _ H _ I h => wpAny_tests_nil ⟨H, I, h⟩
end
theorem thnF {α : Type} {t : Sem α} {Q Q' : α → Shared → Prop} {M : Model} {A : Around} {E : Value → Shared → Prop} {s : Shared} (h : wpAny M A t Q (fun _ _ => False) s) (hQ : ∀ a s, Q a s → Q' a s) : wpAny M A t Q' E s := wpAny_mono h hQ fun _ _ z => False.elim z
theorem compLoop_any {prog : Program} {w : World} {A : Around} {R : Result → Shared → Prop} {s : Shared} {elt target iter : Expr} {ifs : List Expr} {scope : Scope} {pos : Pos} {it acc : Value} {env : Env} (I : Nat → Shared → Prop)
    (turn : ∀ n s, I n s → wpAny (model prog w) A (pyNext it) (fun r s₁ => match r with
      | none => R (.ok .next) s₁
      | some v => wpAny (model prog w) A (letOwnedTupleGo target it v) (fun _ s₁' => wpAny (model prog w) A (assign target env v) (fun _ s₂ =>
          wpAny (model prog w) A (forIn ifs true fun c r => if r = true then do let ok ← isTrue c env (eval c env); pure (ForInStep.yield ok) else pure (ForInStep.yield r)) (fun ok s₃ =>
            if ok = true then wpAny (model prog w) A (eval elt env) (fun x s₄ =>
              wpAny (model prog w) A (call (.builtin "list.append") [acc, x]) (fun _ s₅ => ∃ m, m < n ∧ I m s₅) (notedBy (model prog w) A env fun e s' => R (.error e) s') s₄) (notedBy (model prog w) A env fun e s' => R (.error e) s') s₃
            else ∃ m, m < n ∧ I m s₃) (notedBy (model prog w) A env fun e s' => R (.error e) s') s₂) (notedBy (model prog w) A env fun e s' => R (.error e) s') s₁') (notedBy (model prog w) A env fun e s' => R (.error e) s') s₁) (notedBy (model prog w) A env fun e s' => R (.error e) s') s)
    (n : Nat) (h : I n s) :
    codeAny (model prog w) A (.compLoop (.ListComp elt [⟨target, iter, ifs, 0⟩] scope pos) 0 it acc env) R s := by
  refine codeAny_loop rfl I (fun n s hI => ?_) n h
  show wpAny _ A ((compTurn (.ListComp elt [⟨target, iter, ifs, 0⟩] scope pos) 0 it acc env).onRaise (fun x => do noteFrame x env; theTreesLotGoes x)) _ _ s
  refine wpAny_noted ?_
  rw [compTurn_list]
  refine wpAny_bind (wpAny_standAt (wpAny_bind (wpAny_mono (turn n s hI) (fun r s₁ h₁ => ?_) fun _ _ h' => h')))
  cases r with
  | none => exact wpAny_pure h₁
  | some v =>
    refine wpAny_bind (wpAny_mono h₁ (fun _ s₁' h₁' => ?_) fun _ _ h' => h')
    refine wpAny_bind (wpAny_mono h₁' (fun _ s₂ h₂ => wpAny_bind (wpAny_mono h₂ (fun ok s₃ h₃ => ?_) fun _ _ h' => h')) fun _ _ h' => h')
    cases ok with
    | false => exact wpAny_pure ⟨rfl, h₃⟩
    | true =>
      exact wpAny_bind (wpAny_bind (wpAny_mono h₃ (fun x s₄ h₄ => wpAny_bind (wpAny_mono h₄ (fun _ s₅ h₅ => wpAny_pure (wpAny_pure ⟨rfl, h₅⟩)) fun _ _ h' => h')) fun _ _ h' => h'))
section
variable {X : Cx}
def tLc (wi : TI) (g : TG) (tt : TT) (te : TE) (vs : List Nat) : TE := fun σ H Q => wi σ H fun J H1 => ∀ D, H1 D = none → ∃ W : Nat → Nat → Hp → Prop, (∃ m, W 0 m (upd H1 D (.lst []))) ∧ ∀ i m H, W i m H →
  (J.stop i H ∧ Q (.ref D) H) ∨ (J.go i H ∧ ∃ Nx : Hp → Prop, (∀ H', Nx H' → ∃ m', m' < m ∧ W (i + 1) m' H') ∧ ∀ x H', J.yld i H x H' → g x (wipe σ vs) H' fun σ2 H2 => wipe σ2 vs = wipe σ vs ∧ tt σ2 H2 fun b H3 =>
    if b = true then te σ2 H3 fun y H4 => ∃ acc, H4 D = some (.lst acc) ∧ acc.length < sizeLine ∧ Nx (upd H4 D (.lst (acc ++ [y]))) else Nx H3)
theorem lc_core {pins : List (Addr × Obj)} {s : Shared} {σ : St} {H : Hp} {Q : VK} {elt tg iter : Expr} {ifs : List Expr} {scope : Scope} {own : List (Str × Nat)} {pos pos' : Pos} {wi : TI} {g : TG} {tt : TT} {te : TE} {use : Option (Value → Sem Unit)} {Qf : Value → Shared → Prop}
    (hc : X.calm = true) (hN : X.N.Nodup) (I : Inv X pins σ H s) (hi : PI X tg iter wi) (ok : BlkOk X.N X.env.scope scope own)
    (hg : ∀ (s : Shared) (H : Hp) (C : Addr) (cl : List (Str × Addr)) (fp : List Addr), PG (X.blk s H scope (compEnvC scope cl C X.env) fp) tg g) (ht : ∀ (s : Shared) (H : Hp) (C : Addr) (cl : List (Str × Addr)) (fp : List Addr), PTs (X.blk s H scope (compEnvC scope cl C X.env) fp) ifs tt)
    (he : ∀ (s : Shared) (H : Hp) (C : Addr) (cl : List (Str × Addr)) (fp : List Addr), PE (X.blk s H scope (compEnvC scope cl C X.env) fp) elt te) (hs : ∀ x, foldedSetIterable iter X.env x = pure x)
    (h : tLc wi g tt te (own.map (·.2)) σ H Q)
    (hRR : ∀ D C s' m H', Inv X pins σ H' s' → Q (.ref D) H' → s'.heap.Ns C m → FpOk X pins H' C → compPost (model X.prog X.w) X.A X.xe use Qf (.ref D) C (.ok .next) s') :
    wpAny (model X.prog X.w) X.A (comprehension (.ListComp elt [⟨tg, iter, ifs, 0⟩] scope pos) scope X.env pos' (newList []) false (eval iter X.env) use) Qf X.xe s := by
  have hfree : ∀ y ∈ scope.names, y.2 = .free → ∃ c, X.env.cells.lookup y.1 = some c := fun y hy e => by
    rcases ok.free y hy e with k | k
    · exact I.ok.has _ (.inl k)
    · exact I.ok.has _ (.inr k)
  refine wpAny_comprehension_free (use := use) rfl hs (closure_ok hfree) ok.kind (fun y hy e => by rw [ok.uniq y hy, e])
    (thn (hi pins s σ H _ I h) fun xv s1 hx => thn hx fun itv s2 h2 => ?_)
  obtain ⟨it, fp, tn, J, H2, e, I2, T, st2, f2, q⟩ := h2
  subst e
  refine wpAny_newObj_type (newEnv_comp ?_) (by show 0 ≤ sizeLine; decide)
  generalize hD : s2.heap.objs.size = D
  have hDn : H2 D = none := I2.hok.fresh (Nat.le_of_eq hD)
  obtain ⟨W, ⟨m0, w0⟩, turn⟩ := q D hDn
  -- the new list
  generalize hs3 : ({ s2 with heap := s2.heap.push { cls := .type "list", data := .seq ([] : List Value).toArray } } : Shared) = s3
  have I3 : Inv X pins σ (upd H2 D (.lst [])) s3 := by
    rw [← hs3]
    refine I2.laid (t' := s2.toks) (fun b o e => Heap.get?_push_of_some _ e) (Nat.le_of_eq hD) ⟨Nat.zero_le _, [], 0, .nil, ?_⟩
    rw [← hD]
    exact Heap.get?_push_size _ rfl
  have h3 : s3.heap = s2.heap.push { cls := .type "list", data := .seq ([] : List Value).toArray } := by rw [← hs3]
  have sz : ∀ b ∈ fp, b < s2.heap.objs.size := fun b hb => by
    obtain ⟨o, e, _⟩ := T.obj _ _ st2 b hb
    exact Heap.lt_size e
  have f3 : ∀ b ∈ fp, FpOk X pins (upd H2 D (.lst [])) b ∧ b < s3.heap.objs.size := fun b hb => by
    have hlt := sz b hb
    refine ⟨⟨?_, (f2 b hb).2⟩, by rw [h3, Heap.size_push]; exact Nat.lt_succ_of_lt hlt⟩
    rw [upd_ne (by rw [← hD]; exact Nat.ne_of_lt hlt)]
    exact (f2 b hb).1
  have st3 : tn 0 s3.heap := T.keep _ _ _ st2 fun b _ o e => by rw [h3]; exact Heap.get?_push_of_some _ e
  have I4 := block_start I3 ok hN f3
  have pg := hg s3 (upd H2 D (.lst [])) s3.heap.objs.size (cellsFrom (s3.heap.objs.size + 1) scope.names (cloFrom X.env.cells scope.names [])) fp
  have pt := ht s3 (upd H2 D (.lst [])) s3.heap.objs.size (cellsFrom (s3.heap.objs.size + 1) scope.names (cloFrom X.env.cells scope.names [])) fp
  have pe := he s3 (upd H2 D (.lst [])) s3.heap.objs.size (cellsFrom (s3.heap.objs.size + 1) scope.names (cloFrom X.env.cells scope.names [])) fp
  show codeAny _ _ (.compStart (.ListComp elt [⟨tg, iter, ifs, 0⟩] scope pos) 0 (.ref it) (.ref D) (compEnvC scope (cellsFrom (s3.heap.objs.size + 1) scope.names (cloFrom X.env.cells scope.names [])) s3.heap.objs.size X.env)) (compPost (model X.prog X.w) X.A X.xe use Qf (.ref D) s3.heap.objs.size) { s3 with heap := pushCells (s3.heap.push { cls := .type "dict", data := .dict #[] }) scope.names }
  have nfp : ∀ b ∈ fp, (upd H2 D (.lst [])) b = none := fun b hb => (f3 b hb).1.1
  generalize hce : compEnvC scope (cellsFrom (s3.heap.objs.size + 1) scope.names (cloFrom X.env.cells scope.names [])) s3.heap.objs.size X.env = ce at I4 pg pt pe ⊢
  have cL : ce.locals = s3.heap.objs.size := by subst hce; rfl
  generalize hH3 : upd H2 D (.lst []) = H3 at I3 I4 pg pt pe w0 nfp f3
  generalize hs4 : ({ s3 with heap := pushCells (s3.heap.push { cls := .type "dict", data := .dict #[] }) scope.names } : Shared) = s4 at I4 ⊢
  have st4 : tn 0 s4.heap := T.keep _ _ _ st3 fun b _ o e => by rw [← hs4]; exact pushCells_keeps _ _ _ _ (Heap.get?_push_of_some _ e)
  have stat : ∀ {σ' : St} {H' : Hp} {s' : Shared}, Inv (X.blk s3 H3 scope ce fp) [] σ' H' s' → (∀ b ∈ fp, H' b = none) → ∀ b ∈ fp, FpOk (X.blk s3 H3 scope ce fp) [] H' b := fun {σ' H' s'} I' hn b hb =>
    ⟨hn b hb, (I'.ok.exf b hb).1, I'.ok.exfs b hb, .inl hb, fun x c e => (I'.ok.exf b hb).2 x c e, fun p hp => absurd (show p ∈ ([] : List (Addr × Obj)) ++ [] from hp) (by simp)⟩
  have loop : codeAny (model X.prog X.w) X.A (.compLoop (.ListComp elt [⟨tg, iter, ifs, 0⟩] scope pos) 0 (.ref it) (.ref D) ce) (compPost (model X.prog X.w) X.A X.xe use Qf (.ref D) s3.heap.objs.size) s4 := by
    refine compLoop_any (fun n s' => ∃ i H', Inv (X.blk s3 H3 scope ce fp) [] (wipe σ (own.map (·.2))) H' s' ∧ tn i s'.heap ∧ (∀ b ∈ fp, H' b = none) ∧ W i n H') ?_ m0 ⟨0, H3, I4, st4, nfp, w0⟩
    rintro n s5 ⟨i, H5, I5, st5, n5, w5⟩
    rcases turn i n H5 w5 with ⟨stop, qq⟩ | ⟨go, Nx, hNx, step⟩
    · have td := T.done (X.blk s3 H3 scope ce fp) rfl rfl rfl hc i [] s5 _ H5 (fun _ _ => False) I5 (stat I5 n5) st5 stop
      refine thnF td fun r s6 ⟨hr, I6⟩ => ?_
      subst hr
      -- back in the def's context
      have I7 : Inv X pins σ H5 s6 := I3.call' (ch := fp) I6.os I6.base I6.hok I6.bare fun b hb => ⟨(f3 b hb).1.2.2.2.1, (f3 b hb).1.2.1, (f3 b hb).1.2.2.2.2.1, (f3 b hb).1.2.2.2.2.2⟩
      have nC : H5 s3.heap.objs.size = none := by
        have z : H5 ce.locals = none := I6.free
        rw [cL] at z
        exact z
      obtain ⟨m, hn, _⟩ := I6.loc
      have hn : s6.heap.Ns ce.locals m := hn
      rw [cL] at hn
      exact hRR D s3.heap.objs.size s6 m H5 I7 qq hn (I3.fpOk (Nat.le_refl _) nC)
    · have ti := T.item (X.blk s3 H3 scope ce fp) rfl rfl rfl hc i [] s5 _ H5 (fun _ _ => False) I5 (stat I5 n5) st5 go
      refine thnF ti fun r s6 ⟨u, hr, h6⟩ => ?_
      subst hr
      refine thnF h6 fun _ s7 ⟨x, H7, I7, r7, y7, st7, n7⟩ => ?_
      have I7' := I7.pinned (stat I7 n7) (T.obj _ _ st7)
      refine thnF (pg _ s7 _ H7 x u _ I7' r7 (step x H7 y7)) fun _ s8 ⟨σ8, H8, I8, hw8, q8⟩ => ?_
      refine thnF (pt _ s8 σ8 H8 _ I8 q8) fun b s9 ⟨H9, I9, q9⟩ => ?_
      -- the turn's end
      have fin : ∀ {s' : Shared} {H' : Hp}, Inv (X.blk s3 H3 scope ce fp) ([] ++ pinsAt fp s7.heap) σ8 H' s' → Nx H' → ∃ m, m < n ∧ ∃ i H', Inv (X.blk s3 H3 scope ce fp) [] (wipe σ (own.map (·.2))) H' s' ∧ tn i s'.heap ∧ (∀ b ∈ fp, H' b = none) ∧ W i m H' := fun {s' H'} I' nx => by
        obtain ⟨m', hm, w'⟩ := hNx H' nx
        have pin' : ∀ b ∈ fp, ∀ o, s7.heap.get? b = some o → s'.heap.get? b = some o ∧ H' b = none := fun b hb o e =>
          let z := I'.pin (b, o) (List.mem_append_right _ (List.mem_append_right _ (mem_pinsAt hb e)))
          ⟨z.1, z.2.1⟩
        have hl : (wipe σ (own.map (·.2))).length = σ8.length := by rw [← hw8, wipe_length]
        refine ⟨m', hm, i + 1, H', (I'.unpinned (pins := [])).weak hl (fun j v e => ?_), T.keep _ _ _ st7 fun b hb o e => (pin' b hb o e).1, fun b hb => ?_, w'⟩
        · rw [← hw8] at e
          exact (wipe_some e).1
        · obtain ⟨o, e, _⟩ := T.obj _ _ st7 b hb
          exact (pin' b hb o e).2
      cases b with
      | false =>
        simp only [Bool.false_eq_true, if_false] at q9 ⊢
        exact fin I9 q9
      | true =>
        simp only [if_true] at q9 ⊢
        refine thnF (pe _ s9 σ8 H9 _ I9 q9) fun z s10 ⟨yv, H10, I10, r10, acc, hD10, hz10, nx⟩ => ?_
        exact app_ok (X := X.blk s3 H3 scope ce fp) I10 hD10 hz10 r10 fun s11 I11 => fin I11 nx
  exact codeAny_compStart_list loop (T.self X.A 0 _ _ _ st4 loop)
theorem pe_lc {elt tg iter : Expr} {ifs : List Expr} {scope : Scope} {own : List (Str × Nat)} {pos : Pos} {wi : TI} {g : TG} {tt : TT} {te : TE} (hc : X.calm = true) (hN : X.N.Nodup) (hi : PI X tg iter wi) (ok : BlkOk X.N X.env.scope scope own)
    (hg : ∀ (s : Shared) (H : Hp) (C : Addr) (cl : List (Str × Addr)) (fp : List Addr), PG (X.blk s H scope (compEnvC scope cl C X.env) fp) tg g) (ht : ∀ (s : Shared) (H : Hp) (C : Addr) (cl : List (Str × Addr)) (fp : List Addr), PTs (X.blk s H scope (compEnvC scope cl C X.env) fp) ifs tt)
    (he : ∀ (s : Shared) (H : Hp) (C : Addr) (cl : List (Str × Addr)) (fp : List Addr), PE (X.blk s H scope (compEnvC scope cl C X.env) fp) elt te) (hs : ∀ x, foldedSetIterable iter X.env x = pure x := by intro _; rfl) :
    PE X (.ListComp elt [⟨tg, iter, ifs, 0⟩] scope pos) (tLc wi g tt te (own.map (·.2))) := by
  intro pins s σ H Q I h
  rw [eval_ListComp]
  refine lc_core hc hN I hi ok hg ht he hs h fun D C s' m H' I' q hn f => ⟨m, hn, fun h'' sb => ?_⟩
  obtain ⟨f0, f1, f2, f3, f4, f5⟩ := f
  exact ⟨.ref D, H', I'.turned (t' := s'.toks) (fun b o hb e => (sb.2 b hb).trans e) f0 f1 f3 f4 f5, rfl, q⟩
end
theorem lc_range {lo : Int} {n : Nat} {g : TG} {tt : TT} {te : TE} {vs : List Nat} {σ : St} {H1 : Hp} {D : Addr} {Qd : Hp → Prop} (Pv : Nat → Hp → Prop) (h0 : Pv 0 (upd H1 D (.lst [])))
    (hs : ∀ i H, i < n → Pv i H → g (.int (lo + i)) (wipe σ vs) H fun σ2 H2 => wipe σ2 vs = wipe σ vs ∧ tt σ2 H2 fun b H3 =>
      if b = true then te σ2 H3 fun y H4 => ∃ acc, H4 D = some (.lst acc) ∧ acc.length < sizeLine ∧ Pv (i + 1) (upd H4 D (.lst (acc ++ [y]))) else Pv (i + 1) H3) (hd : ∀ H, Pv n H → Qd H) :
    ∃ W : Nat → Nat → Hp → Prop, (∃ m, W 0 m (upd H1 D (.lst []))) ∧ ∀ i m H, W i m H →
      ((Itr lo n).stop i H ∧ Qd H) ∨ ((Itr lo n).go i H ∧ ∃ Nx : Hp → Prop, (∀ H', Nx H' → ∃ m', m' < m ∧ W (i + 1) m' H') ∧ ∀ x H', (Itr lo n).yld i H x H' → g x (wipe σ vs) H' fun σ2 H2 => wipe σ2 vs = wipe σ vs ∧ tt σ2 H2 fun b H3 =>
        if b = true then te σ2 H3 fun y H4 => ∃ acc, H4 D = some (.lst acc) ∧ acc.length < sizeLine ∧ Nx (upd H4 D (.lst (acc ++ [y]))) else Nx H3) := by
  refine ⟨fun i m H => m = n - i ∧ i ≤ n ∧ Pv i H, ⟨n, by simp, Nat.zero_le _, h0⟩, ?_⟩
  rintro i m H ⟨rfl, hi, p⟩
  by_cases hlt : i < n
  · refine .inr ⟨hlt, Pv (i + 1), fun H' p' => ⟨n - (i + 1), by omega, rfl, hlt, p'⟩, fun x H' y => ?_⟩
    obtain ⟨e, y⟩ := y
    subst e y
    exact hs i _ hlt p
  · have e : i = n := by omega
    subst e
    exact .inl ⟨Nat.le_refl _, hd H p⟩
theorem lc_list {K : PySem.W.Frag} {a : Addr} {xs : List V} {g : TG} {tt : TT} {te : TE} {vs : List Nat} {σ : St} {H1 : Hp} {D : Addr} {Qd : Hp → Prop} (Pv : Nat → Hp → Prop) (h0 : Pv 0 (upd H1 D (.lst []))) (hl : ∀ i H, i ≤ xs.length → Pv i H → SqL K H a xs)
    (hs : ∀ i x H, xs[i]? = some x → Pv i H → g x (wipe σ vs) H fun σ2 H2 => wipe σ2 vs = wipe σ vs ∧ tt σ2 H2 fun b H3 =>
      if b = true then te σ2 H3 fun y H4 => ∃ acc, H4 D = some (.lst acc) ∧ acc.length < sizeLine ∧ Pv (i + 1) (upd H4 D (.lst (acc ++ [y]))) else Pv (i + 1) H3) (hd : ∀ H, Pv xs.length H → Qd H) :
    ∃ W : Nat → Nat → Hp → Prop, (∃ m, W 0 m (upd H1 D (.lst []))) ∧ ∀ i m H, W i m H →
      ((Itl K a).stop i H ∧ Qd H) ∨ ((Itl K a).go i H ∧ ∃ Nx : Hp → Prop, (∀ H', Nx H' → ∃ m', m' < m ∧ W (i + 1) m' H') ∧ ∀ x H', (Itl K a).yld i H x H' → g x (wipe σ vs) H' fun σ2 H2 => wipe σ2 vs = wipe σ vs ∧ tt σ2 H2 fun b H3 =>
        if b = true then te σ2 H3 fun y H4 => ∃ acc, H4 D = some (.lst acc) ∧ acc.length < sizeLine ∧ Nx (upd H4 D (.lst (acc ++ [y]))) else Nx H3) := by
  refine ⟨fun i m H => m = xs.length - i ∧ i ≤ xs.length ∧ Pv i H, ⟨xs.length, by simp, Nat.zero_le _, h0⟩, ?_⟩
  rintro i m H ⟨rfl, hi, p⟩
  have q := hl i H hi p
  by_cases hlt : i < xs.length
  · refine .inr ⟨⟨xs, xs[i], q, by simp [hlt]⟩, Pv (i + 1), fun H' p' => ⟨xs.length - (i + 1), by omega, rfl, hlt, p'⟩, fun x H' y => ?_⟩
    obtain ⟨e, y⟩ := y
    subst e
    exact hs i x _ (y xs q) p
  · have e : i = xs.length := by omega
    subst e
    exact .inl ⟨⟨xs, q, Nat.le_refl _⟩, hd H p⟩
end L2
namespace L2
open PySem PySem.Spec PyProof.Rows
section
variable {prog : Program} {w : World} {A : Around} {R : Result → Shared → Prop} {s : Shared} {elt t0 i0 t1 i1 : Expr} {ifs0 ifs1 : List Expr} {scope : Scope} {pos : Pos} {it acc : Value} {env : Env}
end
section
variable {X : Cx}
end
end L2
namespace L2
open PySem PySem.Spec PyProof.Rows
section
variable {κ : Type} [DecidableEq κ]
def valV (kvs : List (κ × V)) (k : κ) : Option V := (kvs.find? fun kv => decide (kv.1 = k)).map (·.2)
def putK (kvs : List (κ × V)) (k : κ) (v : V) : List (κ × V) :=
  if (kvs.any fun kv => decide (kv.1 = k)) = true then kvs.map (fun kv => if kv.1 = k then (kv.1, v) else kv) else kvs ++ [(k, v)]
theorem valV_pos {p : κ × V} {r : List (κ × V)} {k : κ} (e : p.1 = k) : valV (p :: r) k = some p.2 := by simp [valV, List.find?_cons, e]
theorem valV_neg {p : κ × V} {r : List (κ × V)} {k : κ} (e : ¬ p.1 = k) : valV (p :: r) k = valV r k := by simp [valV, List.find?_cons, e]
theorem valV_any (k : κ) : ∀ kvs : List (κ × V), (kvs.any fun kv => decide (kv.1 = k)) = (valV kvs k).isSome
  | [] => rfl
  | p :: r => by
    rw [List.any_cons]
    by_cases e : p.1 = k
    · simp only [valV_pos e, decide_eq_true e, Bool.true_or, Option.isSome_some]
    · rw [valV_neg e, decide_eq_false e, Bool.false_or]; exact valV_any k r
theorem valV_snoc (k j : κ) (y : V) : ∀ kvs : List (κ × V), valV kvs k = none → valV (kvs ++ [(k, y)]) j = if j = k then some y else valV kvs j
  | [], _ => by
    by_cases e : k = j
    · rw [if_pos e.symm]; exact valV_pos (p := (k, y)) e
    · rw [if_neg (fun z => e z.symm)]; exact valV_neg (p := (k, y)) e
  | p :: r, hn => by
    rw [List.cons_append]
    have hk : ¬ p.1 = k := fun z => by rw [valV_pos z] at hn; cases hn
    rw [valV_neg hk] at hn
    have ih := valV_snoc k j y r hn
    by_cases e : p.1 = j
    · rw [valV_pos e, valV_pos e, if_neg (fun z => hk (e.trans z))]
    · rw [valV_neg e, valV_neg e, ih]
theorem length_putK (kvs : List (κ × V)) (k : κ) (v : V) : (putK kvs k v).length ≤ kvs.length + 1 := by
  unfold putK
  split
  · rw [List.length_map]; omega
  · rw [List.length_append, List.length_cons, List.length_nil]; omega
theorem putK_new {kvs : List (κ × V)} {k : κ} (v : V) (h : valV kvs k = none) : putK kvs k v = kvs ++ [(k, v)] := by
  unfold putK
  rw [valV_any, h]
  exact if_neg (by decide)
theorem RelO.isSome_eq {o : Option V} {u : Option Value} (r : RelO o u) : o.isSome = u.isSome := by
  cases o with
  | none => cases u with
    | none => rfl
    | some _ => exact (show False from r).elim
  | some _ => cases u with
    | none => exact (show False from r).elim
    | some _ => rfl
theorem KV.val {kvs : List (κ × V)} {vs : List (κ × Value)} (r : KV kvs vs) (k : κ) : RelO (valV kvs k) (valueAt vs k) := by
  unfold KV at r
  induction r with
  | nil => exact True.intro
  | @cons p q ps qs h t ih =>
    obtain ⟨h1, h2⟩ := h
    by_cases e : p.1 = k
    · have e' : q.1 = k := h1.symm.trans e
      have b : valueAt (q :: qs) k = some q.2 := by simp [valueAt, List.find?_cons, e']
      rw [valV_pos e, b]; exact h2
    · have e' : ¬ q.1 = k := fun z => e (h1.trans z)
      have b : valueAt (q :: qs) k = valueAt qs k := by simp [valueAt, List.find?_cons, e']
      rw [valV_neg e, b]; exact ih
theorem KV.any {kvs : List (κ × V)} {vs : List (κ × Value)} (r : KV kvs vs) (k : κ) : (kvs.any fun kv => decide (kv.1 = k)) = vs.any fun kv => decide (kv.1 = k) := by
  unfold KV at r
  induction r with
  | nil => rfl
  | cons h t ih => rw [List.any_cons, List.any_cons, ih, h.1]
theorem KV.repl {kvs : List (κ × V)} {vs : List (κ × Value)} (r : KV kvs vs) (k : κ) {y : V} {u : Value} (ry : RelV y u) :
    KV (kvs.map fun kv => if kv.1 = k then (kv.1, y) else kv) (vs.map fun kv => if kv.1 = k then (kv.1, u) else kv) := by
  unfold KV at r ⊢
  induction r with
  | nil => exact .nil
  | @cons p q ps qs h t ih =>
    rw [List.map_cons, List.map_cons]
    refine .cons ?_ ih
    obtain ⟨h1, h2⟩ := h
    by_cases e : p.1 = k
    · rw [if_pos e, if_pos (h1.symm.trans e)]; exact ⟨h1, ry⟩
    · rw [if_neg e, if_neg (fun z => e (h1.trans z))]; exact ⟨h1, h2⟩
theorem KV.put {kvs : List (κ × V)} {vs : List (κ × Value)} (r : KV kvs vs) (k : κ) {y : V} {u : Value} (ry : RelV y u) : KV (putK kvs k y) (stored vs k u) := by
  unfold putK stored
  rw [r.any k]
  by_cases e : (vs.any fun kv => decide (kv.1 = k)) = true
  · rw [if_pos e, if_pos e]; exact r.repl k ry
  · rw [if_neg e, if_neg e]; exact Paired.snoc r ⟨rfl, ry⟩
theorem KV.length {kvs : List (κ × V)} {vs : List (κ × Value)} (r : KV kvs vs) : kvs.length = vs.length := Paired.length r
end
theorem kV_is {P : Program} {w : World} {k : Key} {u : Value} (r : RelV (kV k) u) : (mixKind P w).is k u = true := by
  cases k with
  | inl i => obtain ⟨t, e⟩ := (show ∃ t, u = Value.int i t from r); subst e; exact mixKind_int P w i t
  | inr x => obtain ⟨t, e⟩ := (show ∃ t, u = Value.str x t from r); subst e; exact mixKind_str P w x t
theorem items_are {P : Program} {w : World} : ∀ {ks : List Key} {us : List Value}, Vals (ks.map kV) us → ItemsAre (mixKind P w) ks us
  | [], _, r => by rw [List.map_nil] at r; cases r; exact .nil
  | k :: ks, _, r => by
    rw [List.map_cons] at r
    cases r with
    | cons h t => exact .cons (kV_is h) (items_are t)
abbrev KT (H : Hp) : List (List Key × V) → List (List Key × Addr × Value) → Prop := Paired fun p q => p.1 = q.1 ∧ H q.2.1 = some (.tup (p.1.map kV)) ∧ RelV p.2 q.2.2
theorem KT.val {H : Hp} {kvs : List (List Key × V)} {xs : List (List Key × Addr × Value)} (r : KT H kvs xs) (k : List Key) : RelO (valV kvs k) ((atKey xs k).map (·.2)) := by
  induction r with
  | nil => exact True.intro
  | @cons p q ps qs h t ih =>
    obtain ⟨h1, _, h2⟩ := h
    by_cases e : p.1 = k
    · have e' : q.1 = k := h1.symm.trans e
      have b : atKey (q :: qs) k = some q.2 := by simp [atKey, List.find?_cons, e']
      rw [valV_pos e, b]; exact h2
    · have e' : ¬ q.1 = k := fun z => e (h1.trans z)
      have b : atKey (q :: qs) k = atKey qs k := by simp [atKey, List.find?_cons, e']
      rw [valV_neg e, b]; exact ih
theorem KT.repl {H : Hp} {kvs : List (List Key × V)} {xs : List (List Key × Addr × Value)} (r : KT H kvs xs) (k : List Key) {y : V} {u : Value} (ry : RelV y u) :
    KT H (kvs.map fun kv => if kv.1 = k then (kv.1, y) else kv) (xs.map (putAt k u)) := by
  induction r with
  | nil => exact .nil
  | @cons p q ps qs h t ih =>
    rw [List.map_cons, List.map_cons]
    refine .cons ?_ ih
    obtain ⟨h1, h2, h3⟩ := h
    unfold putAt
    by_cases e : p.1 = k
    · rw [if_pos e, if_pos (h1.symm.trans e)]; exact ⟨h1, h2, ry⟩
    · rw [if_neg e, if_neg (fun z => e (h1.trans z))]; exact ⟨h1, h2, h3⟩
theorem KT.put {H : Hp} {kvs : List (List Key × V)} {xs : List (List Key × Addr × Value)} (r : KT H kvs xs) (k : List Key) {b : Addr} {y : V} {u : Value} (hb : H b = some (.tup (k.map kV))) (ry : RelV y u) :
    KT H (putK kvs k y) (storedH xs k b u) := by
  have e : (kvs.any fun kv => decide (kv.1 = k)) = (atKey xs k).isSome := by
    rw [valV_any, (r.val k).isSome_eq, Option.isSome_map]
  unfold putK storedH
  rw [e]
  by_cases q : (atKey xs k).isSome = true
  · rw [if_pos q, if_pos q]; exact r.repl k ry
  · rw [if_neg q, if_neg q]; exact Paired.snoc r ⟨rfl, hb, ry⟩
theorem KT.keeps {H H' : Hp} {kvs : List (List Key × V)} {xs : List (List Key × Addr × Value)} (r : KT H kvs xs) (ht : ∀ b ys, H b = some (.tup ys) → H' b = some (.tup ys)) : KT H' kvs xs :=
  Paired.mapP r fun _ _ z => ⟨z.1, ht _ _ z.2.1, z.2.2⟩
section
variable {P : Program} {w : World} {H : Hp} {h : Heap} {a : Addr}
theorem rd_of {u : HO} (ok : HOk P w H h) (e : Rd H a u) : ObjOk P w H h a u := e.ok ok
theorem dk_rd {kvs : List (Key × V)} (ok : HOk P w H h) (e : Rd H a (.dK kvs)) : kvs.length ≤ sizeLine ∧ (a == sysModules) = false ∧ ∃ vs, KV kvs vs ∧ h.DictOf (mixKind P w) a vs :=
  show ObjOk P w H h a (.dK kvs) from rd_of ok e
theorem dk_of {kvs : List (Key × V)} (ok : HOk P w H h) (e : H a = some (.dK kvs)) : kvs.length ≤ sizeLine ∧ (a == sysModules) = false ∧ ∃ vs, KV kvs vs ∧ h.DictOf (mixKind P w) a vs := dk_rd ok (.inl e)
theorem key_of {ks : List Key} (ok : HOk P w H h) (e : H a = some (.tup (ks.map kV))) : (tupleKind (mixKind P w)).is h ks a := by
  obtain ⟨_, its, r, o, h1, h2, n, h3⟩ := (show ObjOk P w H h a (.tup (ks.map kV)) from ok a _ e)
  exact ⟨o, its.toArray, n, h1, h2, h3, by simpa using items_are r⟩
theorem dt_rd {kvs : List (List Key × V)} (ok : HOk P w H h) (e : Rd H a (.dT kvs)) : kvs.length ≤ sizeLine ∧ (a == sysModules) = false ∧
    ∃ xs, KT H kvs xs ∧ h.DictOfH (tupleKind (mixKind P w)) a xs := by
  obtain ⟨z, y, xs, r, o, es, ep, h1, h2, h3, h4, h5⟩ := (show ObjOk P w H h a (.dT kvs) from rd_of ok e)
  refine ⟨z, y, xs, r, o, es, ep, h1, h2, h3, h4, fun x hx => ?_, h5⟩
  have all : ∀ {l : List (List Key × V)} {m : List (List Key × Addr × Value)}, KT H l m → ∀ x ∈ m, (tupleKind (mixKind P w)).is h x.1 x.2.1 := by
    intro l m q
    induction q with
    | nil => intro x hx; exact nomatch hx
    | @cons p q ps qs hq t ih =>
      intro x hx
      rcases List.mem_cons.mp hx with e | hx
      · subst e
        exact key_of ok (by rw [← hq.1]; exact hq.2.1)
      · exact ih x hx
  exact all r x hx
theorem dt_of {kvs : List (List Key × V)} (ok : HOk P w H h) (e : H a = some (.dT kvs)) : kvs.length ≤ sizeLine ∧ (a == sysModules) = false ∧
    ∃ xs, KT H kvs xs ∧ h.DictOfH (tupleKind (mixKind P w)) a xs := dt_rd ok (.inl e)
end
def DGet (H : Hp) (a : Addr) (y : V) (r : Option V) : Prop :=
  (∃ kvs k, Rd H a (.dK kvs) ∧ y = kV k ∧ r = valV kvs k) ∨ ∃ kvs k b, Rd H a (.dT kvs) ∧ y = .ref b ∧ H b = some (.tup (k.map kV)) ∧ r = valV kvs k
def DPut (H : Hp) (a : Addr) (y v : V) (H' : Hp) : Prop :=
  (∃ kvs k, H a = some (.dK kvs) ∧ y = kV k ∧ kvs.length < sizeLine ∧ H' = upd H a (.dK (putK kvs k v))) ∨
  ∃ kvs k b, H a = some (.dT kvs) ∧ y = .ref b ∧ H b = some (.tup (k.map kV)) ∧ kvs.length < sizeLine ∧ H' = upd H a (.dT (putK kvs k v))
theorem DGet.t {H : Hp} {a b : Addr} {kvs : List (List Key × V)} {k : List Key} (e : H a = some (.dT kvs)) (eb : H b = some (.tup (k.map kV))) : DGet H a (.ref b) (valV kvs k) := .inr ⟨kvs, k, b, .inl e, rfl, eb, rfl⟩
theorem DPut.t {H : Hp} {a b : Addr} {kvs : List (List Key × V)} {k : List Key} {v : V} (e : H a = some (.dT kvs)) (eb : H b = some (.tup (k.map kV))) (hl : kvs.length < sizeLine) :
    DPut H a (.ref b) v (upd H a (.dT (putK kvs k v))) := .inr ⟨kvs, k, b, e, rfl, eb, hl, rfl⟩
section
variable {X : Cx} {pins : List (Addr × Obj)} {σ : St} {H : Hp} {s : Shared} {a : Addr} {y v : V} {u r : Value} {o : Option V} {A : Around} {E : Value → Shared → Prop}
theorem Inv.big (I : Inv X pins σ H s) : sysModules < s.heap.objs.size := by
  have h : mainGlobals < s.heap.objs.size := (I.mod.glob.keeps I.bk).lt
  exact Nat.lt_trans (by decide) h
theorem d_getItem {Q : Value → Shared → Prop} (hu : A.units + 1 < cLine) (I : Inv X pins σ H s) (g : DGet H a y (some v)) (ry : RelV y u) (h : ∀ w' s', Inv X pins σ H s' → RelV v w' → Q w' s') :
    wpAny (model X.prog X.w) A (getItem (.ref a) u) Q E s := by
  rcases g with ⟨kvs, k, e, ey, l⟩ | ⟨kvs, k, b, e, ey, eb, l⟩
  · subst ey
    obtain ⟨z, hd, vs, rel, dd⟩ := dk_rd I.hok e
    obtain ⟨w', hw, rw'⟩ := RelO.some_of (v := v) (o := valueAt vs k) (by rw [l]; exact rel.val k)
    exact wpAny_getItem_of (kV_is ry) dd.mapOf hw (h w' _ (I.tok _) rw')
  · subst ey
    cases (show u = Value.ref b from ry)
    obtain ⟨z, hd, xs, rel, dd⟩ := dt_rd I.hok e
    obtain ⟨w', hw, rw'⟩ := RelO.some_of (v := v) (o := (atKey xs k).map (·.2)) (by rw [l]; exact rel.val k)
    obtain ⟨p, hp, hp2⟩ := Option.map_eq_some_iff.mp hw
    refine wpAny_getItem_heap (tupleKind_room_in1 hu) (key_of I.hok eb) dd hp ?_
    rw [hp2]
    exact h w' _ (I.tok _) rw'
theorem d_notIn {Q : Value → Shared → Prop} (hu : A.units + 1 < cLine) (I : Inv X pins σ H s) (g : DGet H a y o) (ry : RelV y u) (h : ∀ s', Inv X pins σ H s' → Q (.bool (!o.isSome)) s') :
    wpAny (model X.prog X.w) A (compareOp .NotIn u (.ref a)) Q E s := by
  rcases g with ⟨kvs, k, e, ey, l⟩ | ⟨kvs, k, b, e, ey, eb, l⟩
  · subst ey
    obtain ⟨z, hd, vs, rel, dd⟩ := dk_rd I.hok e
    refine wpAny_notIn_of (kV_is ry) hd dd.mapOf ?_
    rw [← (rel.val k).isSome_eq, ← l]
    exact h _ (I.tok _)
  · subst ey
    cases (show u = Value.ref b from ry)
    obtain ⟨z, hd, xs, rel, dd⟩ := dt_rd I.hok e
    refine wpAny_notIn_heap (tupleKind_room_in1 hu) (key_of I.hok eb) hd dd ?_
    have q := (rel.val k).isSome_eq
    rw [Option.isSome_map] at q
    rw [← q, ← l]
    exact h _ (I.tok _)
theorem d_write {h' : Heap} {t' : Nat} {ob : HO} (I : Inv X pins σ H s) (mu : Mut (H a)) (hs : Heap.SameBut a s.heap h') (he : ∃ q, h'.get? a = some q) (new : ObjOk X.prog X.w (upd H a ob) h' a ob) :
    Inv X pins σ (upd H a ob) { s with heap := h', toks := t' } :=
  I.write (x := a) (e := a) mu (.inl rfl) (fun b q hb z => (hs.2 b hb).trans z) he new
theorem dk_new {P : Program} {w : World} {H' : Hp} {h' : Heap} {kvs : List (Key × V)} {vs : List (Key × Value)} (z : kvs.length ≤ sizeLine) (hd : (a == sysModules) = false) (rel : KV kvs vs) (dd : h'.DictOf (mixKind P w) a vs) :
    ObjOk P w H' h' a (.dK kvs) := ⟨z, hd, vs, rel, dd⟩
theorem d_setItem {H' : Hp} {Q : Unit → Shared → Prop} (hu : A.units + 1 < cLine) (I : Inv X pins σ H s) (g : DPut H a y v H') (ry : RelV y u) (rv : RelV v r) (h : ∀ s', Inv X pins σ H' s' → Q () s') :
    wpAny (model X.prog X.w) A (setItem (.ref a) u r) Q E s := by
  rcases g with ⟨kvs, k, e, ey, l, eH⟩ | ⟨kvs, k, b, e, ey, eb, l, eH⟩
  · subst ey eH
    obtain ⟨z, hd, vs, rel, dd⟩ := dk_of I.hok e
    have hz : vs.length ≤ sizeLine := by rw [← rel.length]; exact z
    have hl : (putK kvs k v).length ≤ sizeLine := by have := length_putK kvs k v; omega
    refine wpAny_setItem_pairs (hsz := hz) (kV_is ry) dd fun h' dd' hs => h _ ?_
    have he : ∃ q, h'.get? a = some q := let ⟨q, _, _, hq, _⟩ := dd'; ⟨q, hq⟩
    exact d_write I (by rw [e]; exact True.intro) hs he (dk_new hl hd (rel.put k rv) dd')
  · subst ey eH
    cases (show u = Value.ref b from ry)
    obtain ⟨z, hd, xs, rel, dd⟩ := dt_of I.hok e
    have hz : xs.length ≤ sizeLine := by rw [← Paired.length rel]; exact z
    have hl : (putK kvs k v).length ≤ sizeLine := by have := length_putK kvs k v; omega
    refine wpAny_setItem_heap (hsz := hz) (tupleKind_room_in1 hu) (key_of I.hok eb) dd fun h' dd' hs => h _ ?_
    obtain ⟨q, es, ep, hq, h2, h3, h4, _, h5⟩ := dd'
    refine d_write I (by rw [e]; exact True.intro) hs ⟨q, hq⟩ ⟨hl, hd, _, (rel.put k eb rv).keeps fun c ys ec => ?_, q, es, ep, hq, h2, h3, h4, h5⟩
    rw [upd_ne (ne_of ec e (fun z => nomatch z))]
    exact ec
end
section
variable {X : Cx} {pins : List (Addr × Obj)} {σ : St} {H : Hp} {s : Shared} {a : Addr} {kvs : List (Key × V)} {k : Key} {u : Value} {A : Around} {E : Value → Shared → Prop}
end
def NoSl (i : Expr) : Prop := ∀ ov iv, subscripted i false ov iv = operate [ov, iv] (getItem ov iv)
theorem subD_of {prog : Program} {w : World} {A : Around} {E : Value → Shared → Prop} {s : Shared} {env : Env} {value slice : Expr} {pos : Pos} {T id : String} {Q : Value → Shared → Prop}
    (hl : typeLookup (.type T) "__getitem__" = pure (some (.builtin id))) (hs : NoSl slice)
    (h : wpAny (model prog w) A (eval value env) (fun o s₁ => wpAny (model prog w) A (eval slice env) (fun i s₂ => s₂.TypeIs o T ∧ wpAny (model prog w) A (getItem o i) Q E s₂) E s₁) E s) :
    wpAny (model prog w) A (eval (.Subscript value slice pos) env) Q E s := by
  refine Subscript_ (wpAny_mono h (fun o s₁ h₁ => wpAny_mono h₁ (fun i s₂ h₂ => ?_) fun _ _ x => x) fun _ _ x => x)
  obtain ⟨hT, h₂⟩ := h₂
  unfold subscriptTail
  refine wpAny_bind ?_
  rw [getitemInPython_of_ne hT.not_modules]
  refine wpAny_bind (wpAny_specialOf hT hl ?_)
  have fin : wpAny (model prog w) A (subscripted slice false o i) (fun r s₃ => wpAny (model prog w) A (letTemporaryGo value o r >>= fun _ => pure r) Q E s₃) E s₂ := by
    rw [hs o i]
    exact wpAny_operating (wpAny_mono h₂ (fun r s₃ h₃ => wpAny_bind (wpAny_letTemporaryGo (wpAny_pure h₃))) fun _ _ x => x)
  first
    | exact wpAny_pure (wpAny_bind fin)
    | exact wpAny_bind (wpAny_pure (wpAny_bind fin))
    | exact wpAny_bind fin
theorem dict_typeIs {X : Cx} {pins : List (Addr × Obj)} {σ : St} {H : Hp} {s : Shared} {a : Addr} {y : V} {o : Option V} (I : Inv X pins σ H s) (g : DGet H a y o) : s.TypeIs (.ref a) "dict" := by
  rcases g with ⟨kvs, k, e, _, _⟩ | ⟨kvs, k, b, e, _, _, _⟩
  · obtain ⟨_, _, vs, _, dd⟩ := dk_rd I.hok e
    exact dd.typeIs
  · obtain ⟨_, _, xs, _, dd⟩ := dt_rd I.hok e
    exact dd.typeIs
def tDGet (td ty : TE) : TE := fun σ H Q => td σ H fun x H1 => ty σ H1 fun y H2 => ∃ a v, x = .ref a ∧ DGet H2 a y (some v) ∧ Q v H2
def tDNotIn (ty td : TE) : TE := fun σ H Q => ty σ H fun y H1 => td σ H1 fun x H2 => ∃ a o, x = .ref a ∧ DGet H2 a y o ∧ Q (.bl (!o.isSome)) H2
def sDPut (td ty tv : TE) : TS := fun D σ H => tv σ H fun v H1 => td σ H1 fun x H2 => ty σ H2 fun y H3 => ∃ a H4, x = .ref a ∧ DPut H3 a y v H4 ∧ D.nx σ H4
section
variable {X : Cx} {o i e value : Expr} {pos pos' tpos : Pos} {td ty tv : TE}
theorem pe_dget (hu : X.A.units + 1 < cLine) (ho : PE X o td) (hi : PE X i ty) (hs : NoSl i) : PE X (.Subscript o i pos) (tDGet td ty) := by
  intro pins s σ H Q I h
  refine subD_of PySem.F.slot_dict_getitem.lookup hs (thn (ho pins s σ H _ I h) fun u s1 ⟨x, H1, I1, rx, q1⟩ => thn (hi pins s1 σ H1 _ I1 q1) fun iv s2 ⟨y, H2, I2, ry, a, v, ex, g, q2⟩ => ?_)
  subst ex
  obtain rfl : u = Value.ref a := rx
  exact ⟨dict_typeIs I2 g, d_getItem hu I2 g ry fun w' s3 I3 rw' => ⟨v, H2, I3, rw', q2⟩⟩
theorem pc_dnotin (hu : X.A.units + 1 < cLine) (hi : PE X i ty) (ho : PE X o td) : PC X .NotIn i o (tDNotIn ty td) := by
  intro pins s σ H Q I h
  refine thn (hi pins s σ H _ I h) fun iv s1 ⟨y, H1, I1, ry, q1⟩ => thn (ho pins s1 σ H1 _ I1 q1) fun u s2 ⟨x, H2, I2, rx, a, ov, ex, g, q2⟩ => ?_
  subst ex
  obtain rfl : u = Value.ref a := rx
  exact d_notIn hu I2 g ry fun s3 I3 => ⟨.bl (!ov.isSome), H2, I3, rfl, q2⟩
theorem ps_dput (hu : X.A.units + 1 < cLine) (ho : PE X o td) (hi : PE X i ty) (hv : PE X value tv) (hs : swapsWith value (some (.Subscript o i pos')) pos.line X.env = pure false) :
    PS X (.Assign [.Subscript o i pos'] value pos) (sDPut td ty tv) := by
  intro pins s σ H D I h
  refine wpAny_Assign_Subscript (thn (hv pins s σ H _ I h) fun r s1 ⟨v, H1, I1, rv, q1⟩ => thn (ho pins s1 σ H1 _ I1 q1) fun u s2 ⟨x, H2, I2, rx, q2⟩ => thn (hi pins s2 σ H2 _ I2 q2) fun iv s3 ⟨y, H3, I3, ry, a, H4, ex, g, q3⟩ => ?_) hs
  subst ex
  obtain rfl : u = Value.ref a := rx
  exact d_setItem hu I3 g ry rv fun s4 I4 => ⟨σ, H4, I4, q3⟩
end
theorem dt_empty {P : Program} {w : World} {H : Hp} (h : Heap) (hb : sysModules < h.objs.size) : ObjOk P w H (h.push { cls := .type "dict", data := .dict #[] }) h.objs.size (.dT []) :=
  ⟨Nat.zero_le _, beq_eq_false_iff_ne.mpr (Ne.symm (Nat.ne_of_lt hb)), [], .nil, _, #[], 0, Heap.get?_push_size _ rfl, ⟨rfl, rfl, rfl⟩, rfl, rfl, List.nodup_nil⟩
def tDNewT : TE := fun _ H Q => ∀ p, H p = none → Q (.ref p) (upd H p (.dT []))
section
variable {X : Cx} {pos : Pos}
theorem pe_dnewT : PE X (.Dict [] [] pos) tDNewT := fun pins s σ H Q I h =>
  wpAny_Dict_empty ⟨.ref s.heap.objs.size, _, I.laid (a := s.heap.objs.size) (o := .dT []) (t' := s.toks) (fun _ _ q => Heap.get?_push_of_some _ q) (Nat.le_refl _) (dt_empty s.heap I.big), rfl, h _ (I.hok.fresh (Nat.le_refl _))⟩
end
section
variable {X : Cx} {pins : List (Addr × Obj)} {σ : St} {H : Hp} {s : Shared} {a : Addr} {y d : V} {u r : Value} {o : Option V} {A : Around} {E : Value → Shared → Prop}
end
section
variable {X : Cx} {o e f : Expr} {apos cpos : Pos} {td ty tx : TE}
end
section
variable {X : Cx} {pins : List (Addr × Obj)} {σ : St} {H : Hp} {s : Shared} {a : Addr} {kvs : List (Key × V)} {A : Around} {E : Value → Shared → Prop}
end
section
variable {X : Cx} {pins : List (Addr × Obj)} {σ : St} {H : Hp} {s : Shared} {a : Addr} {y : V} {u : Value} {A : Around} {E : Value → Shared → Prop}
end
end L2
namespace L2
open PySem PySem.Spec PyProof.Rows
section
variable {prog : Program} {w : World} {A : Around} {E : Value → Shared → Prop}
end
section
variable {X : Cx}
end
end L2
namespace L2
open PySem PySem.Spec PyProof.Rows
theorem boot_reversed5 : bootBuiltins "reversed" = some (.type "reversed") := by decide +kernel
section
variable {X : Cx} {pins : List (Addr × Obj)} {σ : St} {H : Hp} {s : Shared} {h' : Heap}
theorem Inv.turnedNew {t' : Nat} {ch : List Addr} {T : Addr} {ob : HO} (I : Inv X pins σ H s) (k : ∀ b o, b ∉ ch → s.heap.get? b = some o → h'.get? b = some o) (hf : ∀ b ∈ ch, FpOk X pins H b) (hT : s.heap.objs.size ≤ T)
    (new : ObjOk X.prog X.w (upd H T ob) h' T ob) : Inv X pins σ (upd H T ob) { s with heap := h', toks := t' } := by
  have hn : H T = none := I.hok.fresh hT
  have nit : ∀ b u, H b = some u → b ∉ ch := fun b u e z => by
    have q := (hf b z).1
    rw [q] at e; cases e
  refine I.step (g' := s.gens) (d' := s.drawn) (ch := ch) (fun b hb => ⟨(hf b hb).2.2.2.1, (hf b hb).2.1, (hf b hb).2.2.2.2.1, (hf b hb).2.2.2.2.2⟩) (fun b o _ _ hc e _ => k b o hc e) (fun b o _ _ hc e _ => ⟨o.slots, k b o hc e⟩)
    (fun b o _ e n => ?_) (fun b o hc e => ⟨o, k b o hc e⟩) (fun b xs e => ?_) (fun b o u e => ?_) (fun b ps e => ⟨#[], ?_⟩) (fun m hm => ?_) (fun b u e => ?_) I.bare
  · rw [upd_ne (Nat.ne_of_lt (Nat.lt_of_lt_of_le (Heap.lt_size e) hT))]; exact n
  · rw [upd_ne (ne_of_none e hn)]; exact e
  · rw [upd_ne (ne_of_none e hn)]; exact e
  · rw [upd_ne (ne_of_none e hn), e]; simp
  · obtain ⟨o, es, ep, ho, r⟩ := hm
    exact ⟨o, es, ep, k _ o (fun z => (hf _ z).2.1 rfl) ho, r⟩
  · by_cases hb : b = T
    · subst hb
      rw [upd_same] at e
      cases e
      exact new
    · rw [upd_ne hb] at e
      refine (I.hok b u e).stay (fun c v hc q => k c v ?_ q) (fun c q => by rw [upd_ne (ne_of_none q hn)]; exact q) fun c xs q => by rw [upd_ne (ne_of_none q hn)]; exact q
      rcases hc with z | z
      · rw [z]; exact nit b u e
      · exact nit c _ z
end
section
variable {X : Cx}
theorem pi_one {tg : Expr} {pins : List (Addr × Obj)} {σ : St} {H : Hp} {s : Shared} {R : It → Hp → Prop} {J : It} {tn : Nat → Heap → Prop} {tk : Nat} (I : Inv X pins σ H s) (o : Obj)
    (T : Turn X.prog X.w X.K tg J [s.heap.objs.size] s.heap.objs.size tn) (st : tn 0 (s.heap.push o)) (q : R J H) : PIE X pins σ tg R (.ref s.heap.objs.size) { s with heap := s.heap.push o, toks := tk } := by
  refine ⟨s.heap.objs.size, [s.heap.objs.size], tn, J, H, rfl, I.kept fun b ob e => Heap.get?_push_of_some _ e, T, st, fun b hb => ?_, q⟩
  have e : b = s.heap.objs.size := by simpa using hb
  subst e
  exact I.fpOk (Nat.le_refl _) (I.hok.fresh (Nat.le_refl _))
end
section
variable {X : Cx} {tg : Expr}
end
def Itv (K : PySem.W.Frag) (a : Addr) (n : Nat) : It :=
  ⟨fun i H => i < n ∧ ∃ (xs : List V) (x : V), SqL K H a xs ∧ xs[n - 1 - i]? = some x, fun i H x H' => H' = H ∧ ∀ xs, SqL K H a xs → xs[n - 1 - i]? = some x, fun i _ => n ≤ i⟩
theorem turn_rev {P : Program} {w : World} {K : PySem.W.Frag} {tg : Expr} (a it : Addr) (n : Nat) : Turn P w K tg (Itv K a n) [it] it (fun i h => i ≤ n ∧ h.IsRevIter it a ((n : Int) - 1 - (i : Nat))) where
  mem := by simp
  obj := fun i h st b hb => by
    have e : b = it := by simpa using hb
    subst e
    obtain ⟨_, o, e, c, d⟩ := st
    exact ⟨o, e, fun v z => by rw [d] at z; cases z⟩
  keep := fun i h h' st k => ⟨st.1, st.2.at fun o e => k it (by simp) o e⟩
  item := by
    intro X hP hw hK hc i pins s σ H E I hf st hg
    subst hP hw hK
    obtain ⟨hin, xs, x, hq, hx⟩ := hg
    obtain ⟨its, rv, p, hz⟩ := I.list hq
    obtain ⟨u, hu, ru⟩ := rv.get hx
    obtain ⟨f0, f1, f2, f3, f4, f5⟩ := hf it (by simp)
    obtain ⟨_, hit⟩ := st
    have e1 : (n : Int) - 1 - ((i : Nat) : Int) = ((n - 1 - i : Nat) : Int) := by omega
    rw [e1] at hit
    refine wpAny_pyNext_rev_item hit p.isList (x := u) (by simpa using hu) fun h' st' sb => ?_
    have e2 : ((n - 1 - i : Nat) : Int) - 1 = (n : Int) - 1 - ((i + 1 : Nat) : Int) := by omega
    rw [e2] at st'
    have I1 : Inv X pins σ H { s with heap := h' } := I.turned (t' := s.toks) (fun b o hb e => (sb.2 b hb).trans e) f0 f1 f3 f4 f5
    obtain ⟨o, e, c, d⟩ := id st'
    exact ⟨u, rfl, go_of (s := { s with heap := h' }) e c d (by decide) ⟨x, H, I1, ru, ⟨rfl, fun ys hy => by rw [I.list_inj hy hq]; exact hx⟩, ⟨hin, st'⟩, fun b hb => (hf b hb).1⟩⟩
  done := by
    intro X hP hw hK hc i pins s σ H E I hf st hg
    subst hP hw hK
    obtain ⟨f0, f1, f2, f3, f4, f5⟩ := hf it (by simp)
    obtain ⟨hin, hit⟩ := st
    have hge : n ≤ i := hg
    have e1 : (n : Int) - 1 - ((i : Nat) : Int) = -1 := by omega
    rw [e1] at hit
    exact wpAny_pyNext_rev_end (I.ok.hd hc) hit fun h' eb => ⟨rfl, I.turned (t' := s.toks) (fun b o hb e => eb b o hb e) f0 f1 f3 f4 f5⟩
  self := fun A i s Q E st h => wpAny_pyIter_revIter st.2 h
def iRev (K : PySem.W.Frag) (ta : TA) : TI := fun σ H R => ta σ H fun vs H1 => ∃ (a : Addr) (xs : List V), vs = [.ref a] ∧ SqL K H1 a xs ∧ R (Itv K a xs.length) H1
section
variable {X : Cx} {tg : Expr}
theorem pi_reversed {e : Expr} {ta : TA} {p pos : Pos} (hg : Gl X "reversed") (hm : X.mg "reversed" = none) (ha : PA X [e] ta) (hs : starEach [e] X.env = [(false, eval e X.env)] := by rfl) : PI X tg (.Call (.Name "reversed" p) [e] [] pos) (iRev X.K ta) := by
  intro pins s σ H R I h
  refine Call_ (ld_blt I hg hm boot_reversed5 (PyProof.Rows.callWith_type1 (thn (ha pos pins s σ H _ I h) fun us s1 ⟨vs, H1, I1, r1, q1⟩ => ?_) hs rfl))
  obtain ⟨a, xs, e, hq, q⟩ := q1
  subst e
  cases r1 with
  | cons r rr =>
    cases rr
    cases r
    obtain ⟨its, rv, p', hz⟩ := I1.list hq
    have hl := rv.length
    have e1 : ((its.toArray.size : Nat) : Int) - 1 = (xs.length : Int) - 1 - ((0 : Nat) : Int) := by simp only [List.size_toArray]; omega
    refine call_reversed_list p'.isList (wpAny_pyIter_revIter (l := a) (i := ((its.toArray.size : Nat) : Int) - 1) ⟨_, Heap.get?_push_size _ rfl, rfl, rfl⟩ ?_)
    refine pi_one (tk := s1.toks) I1 _ (turn_rev a _ xs.length) ⟨Nat.zero_le _, ?_⟩ q
    rw [← e1]
    exact ⟨_, Heap.get?_push_size _ rfl, rfl, rfl⟩
end
section
variable {prog : Program} {w : World} {A : Around} {E : Value → Shared → Prop} {s : Shared}
end
section
variable {X : Cx} {pins : List (Addr × Obj)} {σ : St} {H : Hp} {s : Shared} {d : Addr} {o : Obj}
end
section
variable {P : Program} {w : World} {K : PySem.W.Frag} {tg : Expr} {d : Addr} {o : Obj} {es : Array DictEntry} {ep : Nat}
end
section
variable {X : Cx} {tg e : Expr} {td : TE} {apos cpos : Pos}
end
def Ite (K : PySem.W.Frag) (a : Addr) : It :=
  ⟨fun i H => ∃ (xs : List V) (x : V), SqL K H a xs ∧ xs[i]? = some x, fun i H v H' => ∃ T x, v = .ref T ∧ H T = none ∧ H' = upd H T (.tup [.int (i : Nat), x]) ∧ ∀ xs, SqL K H a xs → xs[i]? = some x, fun i H => ∃ xs : List V, SqL K H a xs ∧ xs.length ≤ i⟩
theorem turn_enum {P : Program} {w : World} {K : PySem.W.Frag} {elts : List Expr} {kk : Nat} {tpos : Pos} (a e it : Addr) :
    Turn P w K (.Tuple elts kk tpos) (Ite K a) [e, it] e (fun i h => (∃ old, IsEnum h e it ((i : Nat) : Int) old) ∧ h.IsListIter it a i ∧ e ≠ it) where
  mem := by simp
  obj := fun i h st b hb => by
    obtain ⟨⟨old, he⟩, ⟨o, ho, hc, hd⟩, _⟩ := st
    have e' : b = e ∨ b = it := by simpa using hb
    rcases e' with z | z
    · rw [z]; exact ⟨_, he, fun v q => nomatch q⟩
    · rw [z]; exact ⟨o, ho, fun v q => by rw [hd] at q; cases q⟩
  keep := fun i h h' st k => let ⟨⟨old, he⟩, hi, hne⟩ := st; ⟨⟨old, k e (by simp) _ he⟩, hi.at fun o q => k it (by simp) o q, hne⟩
  item := by
    intro X hP hw hK hc i pins s σ H E I hf st hg
    subst hP hw hK
    obtain ⟨⟨old, he⟩, hit, hne⟩ := st
    obtain ⟨xs, x, hq, hx⟩ := hg
    obtain ⟨its, rv, p, hz⟩ := I.list hq
    obtain ⟨u, hu, ru⟩ := rv.get hx
    have hel : e < s.heap.objs.size := Heap.lt_size he
    have hil : it < s.heap.objs.size := by obtain ⟨_, q, _⟩ := hit; exact Heap.lt_size q
    refine wpAny_pyNext_enum_item he hit p.isList (x := u) (by simpa using hu) hne fun h' ho hit' hT hsz hk => ?_
    refine ⟨_, rfl, wpAny_letOwnedTupleGo_enum (s := { s with heap := h', toks := s.toks + 1 }) ho fun h'' he' sb => ?_⟩
    have hT2 : h''.get? s.heap.objs.size = some { cls := .type "tuple", data := .seq #[.int i s.toks, u] } := (sb.2 _ (Nat.ne_of_gt hel)).trans hT
    have new : ObjOk X.prog X.w (upd H s.heap.objs.size (.tup [.int (i : Nat), x])) h'' s.heap.objs.size (.tup [.int (i : Nat), x]) :=
      ⟨by show 2 ≤ sizeLine; decide, [.int i s.toks, u], .cons ⟨_, rfl⟩ (.cons ru .nil), ⟨_, hT2, rfl, _, rfl⟩⟩
    have I1 : Inv X pins σ (upd H s.heap.objs.size (.tup [.int (i : Nat), x])) { s with heap := h'', toks := s.toks + 1 } :=
      I.turnedNew (ch := [e, it]) (fun b ob hb q => (sb.2 b (fun z => hb (by simp [z]))).trans (hk b ob (fun z => hb (by simp [z])) (fun z => hb (by simp [z])) q)) hf (Nat.le_refl _) new
    refine ⟨.ref s.heap.objs.size, _, I1, rfl, ⟨_, x, rfl, I.hok.fresh (Nat.le_refl _), rfl, fun ys hy => by rw [I.list_inj hy hq]; exact hx⟩, ⟨⟨u, ?_⟩, hit'.at fun o q => (sb.2 it (Ne.symm hne)).trans q, hne⟩, fun b hb => ?_⟩
    · have e1 : ((i + 1 : Nat) : Int) = (i : Int) + 1 := by omega
      rw [e1]; exact he'
    · have hb' : b < s.heap.objs.size := by
        have e' : b = e ∨ b = it := by simpa using hb
        rcases e' with z | z
        · rw [z]; exact hel
        · rw [z]; exact hil
      rw [upd_ne (Nat.ne_of_lt hb')]
      exact (hf b hb).1
  done := by
    intro X hP hw hK hc i pins s σ H E I hf st hg
    subst hP hw hK
    obtain ⟨⟨old, he⟩, hit, hne⟩ := st
    obtain ⟨xs, hq, hx⟩ := hg
    obtain ⟨its, rv, p, hz⟩ := I.list hq
    obtain ⟨f0, f1, f2, f3, f4, f5⟩ := hf it (by simp)
    have hl := rv.length
    exact wpAny_pyNext_enum_end (I.ok.hd hc) he hit p.isList (by simp; omega) fun h' eb => ⟨rfl, I.turned (t' := s.toks) (fun b o hb q => eb b o hb q) f0 f1 f3 f4 f5⟩
  self := fun A i s Q E st h => let ⟨⟨_, he⟩, _⟩ := st; wpAny_pyIter_enum he h
def iEnum (K : PySem.W.Frag) (ta : TA) : TI := fun σ H R => ta σ H fun vs H1 => ∃ a xs, vs = [.ref a] ∧ SqL K H1 a xs ∧ R (Ite K a) H1
theorem pi_enum {X : Cx} {e : Expr} {ta : TA} {p pos tpos : Pos} {elts : List Expr} {kk : Nat} (hg : Gl X "enumerate") (hm : X.mg "enumerate" = none) (ha : PA X [e] ta) (hs : starEach [e] X.env = [(false, eval e X.env)] := by rfl) :
    PI X (.Tuple elts kk tpos) (.Call (.Name "enumerate" p) [e] [] pos) (iEnum X.K ta) := by
  intro pins s σ H R I h
  refine Call_ (ld_blt I hg hm boot_enumerate (PyProof.Rows.callWith_type1 (thn (ha pos pins s σ H _ I h) fun us s1 ⟨vs, H1, I1, r1, q1⟩ => ?_) hs rfl))
  obtain ⟨a, xs, ex, hq, q⟩ := q1
  subst ex
  cases r1 with
  | cons r rr =>
    cases rr
    cases r
    obtain ⟨its, rv, p', hz⟩ := I1.list hq
    refine call_enumerate_list p'.isList fun h' he hit hsz hk => wpAny_pyIter_enum he ?_
    have I2 : Inv X pins σ H1 { s1 with heap := h' } := I1.kept (t' := s1.toks) hk
    refine ⟨s1.heap.objs.size + 1, [s1.heap.objs.size + 1, s1.heap.objs.size], _, _, H1, rfl, I2, turn_enum a (s1.heap.objs.size + 1) s1.heap.objs.size, ⟨⟨.none, he⟩, hit, Nat.succ_ne_self _⟩, fun b hb => ?_, q⟩
    have e' : b = s1.heap.objs.size + 1 ∨ b = s1.heap.objs.size := by simpa using hb
    have hle : s1.heap.objs.size ≤ b := by
      rcases e' with z | z
      · rw [z]; exact Nat.le_add_right _ _
      · rw [z]; exact Nat.le_refl _
    exact I1.fpOk hle (I1.hok.fresh hle)
end L2
section 
namespace Bits
open PySem PyProof.Rows
end Bits
end 
section 
namespace TL
open PySem PySem.Builtin PySem.Builtin.Str PySem.StrLaws
end TL
end 
namespace L2
open PySem PySem.Spec PyProof.Rows
section
variable {X : Cx} {pins : List (Addr × Obj)} {σ : St} {H : Hp} {s : Shared} {Q : VK}
end
section
variable {X : Cx}
end
section
variable {X : Cx} {o e : Expr} {to te : TE}
end
end L2
namespace L2
open PySem PySem.Spec PyProof.Rows
section
variable {X : Cx}
end
end L2
namespace Att
open PySem PySem.W PySem.Calls PyProof.Rows
section
variable {prog : Program} {w : World} {A : Around} {E : Value → Shared → Prop} {s : Shared} {K : Frag}
end
end Att
namespace L2
open PySem PySem.Spec PyProof.Rows
end L2
namespace L2
open PySem PySem.Spec PyProof.Rows
end L2
/- THE LAST THEOREM (shape; LID, My.* are yours):
   My.Adr: a structure of the addresses that your layer names (classes, functions); My.Txt K t: a structure (Prop) of the equations over K;
   My.txt_mk : {K} {implicit addresses ..} (e1 : nsIn K mainGlobals "law" = some (some (.ref f))) (e2 : K.lookup f = some ⟨oc, od, .func (fnOf "law" "law" params body scope dV kV doc pm an cdv ct), sl⟩) (e3 : codeIn K cdv "law" = true) .. : ∃ t, My.Txt K t
set_option maxRecDepth 100000 in
set_option maxHeartbeats 0 in
theorem PySem.Challenge.cw_LID_holds : PySem.Challenge.rw_LID.Holds := by
  w_on; o_law; k_head; (case hw => w_witness2)
  k_fill
  refine L2.walk_of (l := PySem.Challenge.rw_LID) (n := 63) (k := 40) (x := "script") (CX := fun w => ..) (sp := fun _ => My.sp_law) rfl (by decide) rfl ⟨rfl, by decide, by decide⟩ (fun w h Y => PySem.W.kIn_of Y) ?F ?S ?C
  case F =>
    intro w mg fa h KX G hmg
    have T : ∃ t, My.Txt (L2.KOf KX) t := by
      dsimp only [L2.KOf]                          -- K must stand as «<heap const> w.params» for k_is
      refine' My.txt_mk ?e1 ?e2 ?e3 ..
      (case e1 => PySem.W.k_is)                    -- in the order: a name -> its address -> its object -> its parts
      (case e2 => PySem.W.k_is)
      ..
    obtain ⟨t, T⟩ := T
    have e0 := hmg.symm.trans (PySem.W.mg_of KX G T.law)
    cases e0                                       -- fa is the law's own address
    exact ⟨_, fun s u => .of_eq rfl, fun base kb nb => My.law_fn T kb nb⟩     -- if «.of_eq rfl» comes too early: refine' ⟨_, ?b, fun base kb nb => My.law_fn T kb nb⟩; exact fun s u => .of_eq rfl
  case S => exact fun w H a ns hl hO hS => ..
  case C => exact ..
(the tactic k_is has no namespace: write k_is) -/
namespace L2
open PySem PySem.Spec PyProof.Rows
def inClass (s : Stmt) (j : Nat) : Stmt := match s with
  | .ClassDef _ _ _ body _ _ _ _ _ _ _ => body.getD j (.Pass ⟨0, 0, 0, 0⟩)
  | _ => .Pass ⟨0, 0, 0, 0⟩
def defArgs (s : Stmt) : Arguments := match s with
  | .FunctionDef _ a _ _ _ _ _ _ _ _ => a
  | _ => { posonlyargs := [], args := [], vararg := none, kwonlyargs := [], kw_defaults := [], kwarg := none, defaults := [] }
def defBody (s : Stmt) : List Stmt := match s with
  | .FunctionDef _ _ b _ _ _ _ _ _ _ => b
  | _ => []
def defScope (s : Stmt) : Scope := match s with
  | .FunctionDef _ _ _ _ _ _ sc _ _ _ => sc
  | _ => { kind := .function, names := [], isGenerator := false, isCoroutine := false }
abbrev CX0 : CXT := fun _ _ _ _ _ _ => False
abbrev E0 : XK := fun _ _ _ => False
theorem pass0 {X : Cx} : Passes CX0 X E0 := fun _ _ _ _ _ _ _ h => h.elim
structure Fun (K : PySem.W.Frag) (x qual : Str) (st : Stmt) (f : Addr) (fd : FuncData) : Prop where
  ex : ∃ (oc : Value) (od : Option Addr) (kV doc pm : Value) (an : Option Addr) (cdv ct : Value) (osl : Array (Option Value)),
    fd = PySem.W.fnOf x qual (defArgs st) (defBody st) (defScope st) .none kV doc pm an cdv ct ∧ K.lookup f = some ⟨oc, od, .func fd, osl⟩ ∧ PySem.W.codeIn K cdv qual = true
  kp : PySem.W.keepIn K (.ref f) = true
section
variable {P : Program} {w : World} {K : PySem.W.Frag} {mg : Str → Option Value} {base : Heap}
theorem Fun.ok {x qual : Str} {st : Stmt} {f : Addr} {fd : FuncData} {N ps : List Str} {k : Nat} {sp : Sp} (F : Fun K x qual st f fd) (S : FnScope N ps (defScope st)) (len : ∀ vs H Q E, sp vs H Q E → vs.length = ps.length)
    (hbody : ∀ (cdv : Value) (A : Around) (outer : List Env) (s : Shared) (H : Hp) (vs : List V) (Q : VK) (E : XK), Room k (A.deeper (envOfC qual (defScope st) s.heap.objs.size f cdv)) → sp vs H Q E →
      ∃ t, PSs (cxOf CX0 P w K mg base N qual (defScope st) f cdv A outer s H E).nox (defBody st) t ∧ t { nx := fun _ H' => Q .non H', rt := Q } (start N vs) H) : FnOk P w K mg base CX0 (k + 1) f fd ps sp := by
  obtain ⟨oc, od, kV, doc, pm, an, cdv, ct, osl, rfl, lk, hcd⟩ := F.ex
  refine fn_of lk hcd S len fun A outer s H vs Q E hr hsp => ?_
  obtain ⟨t, h, q⟩ := hbody cdv A outer s H vs Q E hr hsp
  exact ⟨t, h.nox, q⟩
theorem Fun.binds {x qual : Str} {st : Stmt} {f : Addr} {fd : FuncData} {ps : List Str} (F : Fun K x qual st f fd)
    (h : ∀ (kV doc pm : Value) (an : Option Addr) (cdv ct : Value) (us : List Value), us.length = ps.length → bindArgs (PySem.W.fnOf x qual (defArgs st) (defBody st) (defScope st) .none kV doc pm an cdv ct) ⟨us, []⟩ = pure (ps.zip us)) : Binds K fd ps [] := by
  obtain ⟨oc, od, kV, doc, pm, an, cdv, ct, osl, rfl, lk, hcd⟩ := F.ex
  exact .all (h kV doc pm an cdv ct)
theorem fun_mk {x qual : Str} {st : Stmt} {f : Addr} {oc : Value} {od an : Option Addr} {osl : Array (Option Value)} {kV doc pm cdv ct : Value} (l : K.lookup f = some ⟨oc, od, .func (PySem.W.fnOf x qual (defArgs st) (defBody st) (defScope st) .none kV doc pm an cdv ct), osl⟩)
    (c : PySem.W.codeIn K cdv qual = true) (k : PySem.W.keepIn K (.ref f) = true) : Fun K x qual st f (PySem.W.fnOf x qual (defArgs st) (defBody st) (defScope st) .none kV doc pm an cdv ct) := ⟨⟨oc, od, kV, doc, pm, an, cdv, ct, osl, rfl, l, c⟩, k⟩
end
theorem hu_of {A : Around} {k : Nat} (hr : Room k A) : A.units + 1 < cLine := Nat.lt_of_le_of_lt (Nat.add_le_add_left (by decide : 1 ≤ 64) _) hr.units
section
variable {X : Cx}
theorem pv (i : Nat) {x : Str} {pos : Pos} (hN : X.N[i]? = some x := by rfl) (hv : Vis X.env.scope x := by first | exact Or.inl rfl | exact Or.inr (Or.inl rfl) | exact Or.inr (Or.inr rfl)) (hd : (x == ("__debug__" : Str)) = false := by decide)
    (hcd : (x == ("__classdict__" : Str)) = false := by decide) : PE X (.Name x pos) (tVar i) := pe_var hN hv hd hcd
end
def Same (H H' : Hp) : Prop := ∀ b o, H b = some o → H' b = some o
theorem Same.refl (H : Hp) : Same H H := fun _ _ h => h
theorem Same.trans {H H1 H2 : Hp} (a : Same H H1) (b : Same H1 H2) : Same H H2 := fun c o h => b c o (a c o h)
theorem Same.free {H H' : Hp} (e : Same H H') {l : Addr} (h : H' l = Option.none) : H l = Option.none := by
  cases q : H l with
  | none => rfl
  | some o =>
    rw [e l o q] at h
    cases h
theorem Same.seq {K : PySem.W.Frag} {H H' : Hp} {a : Addr} {xs : List V} (e : Same H H') (h : SqL K H a xs) : SqL K H' a xs := by
  rcases h with (h | ⟨o, h⟩) | h
  · exact .inl (.inl (e _ _ h))
  · exact .inl (.inr ⟨o, e _ _ h⟩)
  · exact .inr h
section
variable {κ : Type} [DecidableEq κ]
end
theorem Same.made {H H1 : Hp} {x dx C : Addr} (nx : H x = Option.none) (nd : H dx = Option.none) (k : ∀ b o, (upd (upd H dx (.own x)) x (.ins C dx [])) b = some o → b ≠ x → H1 b = some o) : Same H H1 := fun b o e =>
  k b o (by rw [upd_ne (ne_of_none e nx), upd_ne (ne_of_none e nd)]; exact e) (ne_of_none e nx)
end L2
end
section
section
set_option Elab.async false
set_option linter.all false
set_option maxRecDepth 100000
set_option maxHeartbeats 2000000
namespace L2
open PySem PySem.Spec PyProof.Rows
open PySem.W (WData Codec OpenSpec Well WellAll ReadsW ReadsAllW)
/-! ### an answer as data -/
mutual
/-- x stands for the datum d, lists and tuples all the way -/
inductive Dw (K : PySem.W.Frag) (H : Hp) : V → WData → Prop
  | non : Dw K H .non .none
  | bl (b : Bool) : Dw K H (.bl b) (.bool b)
  | int (i : Int) : Dw K H (.int i) (.int i)
  | str (x : Str) : Dw K H (.str x) (.str x)
  | byt (b : Array UInt8) : Dw K H (.byt b) (.bytes b.toList)
  | lst {a : Addr} {xs : List V} {ds : List WData} : SqL K H a xs → DwAll K H xs ds → Dw K H (.ref a) (.list ds)
  | tup {a : Addr} {xs : List V} {ds : List WData} : SqT K H a xs → DwAll K H xs ds → Dw K H (.ref a) (.tuple ds)
inductive DwAll (K : PySem.W.Frag) (H : Hp) : List V → List WData → Prop
  | nil : DwAll K H [] []
  | cons {v : V} {vs : List V} {d : WData} {ds : List WData} : Dw K H v d → DwAll K H vs ds → DwAll K H (v :: vs) (d :: ds)
end
theorem dw_ints {K : PySem.W.Frag} {H : Hp} : ∀ ns : List Int, DwAll K H (ns.map V.int) (ns.map WData.int)
  | [] => .nil
  | n :: r => .cons (.int n) (dw_ints r)
theorem ints_dw {K : PySem.W.Frag} {H : Hp} : ∀ (ns : List Int) (xs : List V), DwAll K H xs (ns.map WData.int) → xs = ns.map V.int
  | [], xs, h => by
    cases h
    rfl
  | n :: r, xs, h => by
    cases h with
    | cons h1 h2 =>
      cases h1
      rw [ints_dw r _ h2] <;> rfl
section
variable {P : Program} {w : World} {K : PySem.W.Frag} {H : Hp} {h : Heap} {R : PySem.W.WRecords} {cl : Str → Option Addr}
theorem sqL_at {a : Addr} {xs : List V} (hok : HOk P w H h) (KX : K.In h) (q : SqL K H a xs) : ∃ (its : List Value) (o : Obj) (n : Nat), Vals xs its ∧ h.get? a = some o ∧ o.cls = .type "list" ∧ o.data = .seq its.toArray n := by
  rcases q with q | ⟨o, its, n, e, hc, _, hd, _, hv⟩
  · obtain ⟨_, its, n, hv, e⟩ := (show ObjOk P w H h a (.lst xs) from q.ok hok)
    exact ⟨its, _, n, hv, e, rfl, rfl⟩
  · exact ⟨its.toList, o, n, hv, KX _ _ e, hc, by simp [hd]⟩
theorem sqT_at {a : Addr} {xs : List V} (hok : HOk P w H h) (KX : K.In h) (q : SqT K H a xs) : ∃ (its : List Value) (o : Obj) (n : Nat), Vals xs its ∧ h.get? a = some o ∧ o.cls = .type "tuple" ∧ o.data = .seq its.toArray n := by
  rcases q with q | ⟨o, its, n, e, hc, hd, _, hv⟩
  · obtain ⟨_, its, hv, o, e, hc, n, hd⟩ := (show ObjOk P w H h a (.tup xs) from q.ok hok)
    exact ⟨its, o, n, hv, e, hc, hd⟩
  · exact ⟨its.toList, o, n, hv, KX _ _ e, hc, by simp [hd]⟩
mutual
theorem Dw.reads (hok : HOk P w H h) (KX : K.In h) : ∀ (d : WData) (v : V) (u : Value), Dw K H v d → RelV v u → ∃ as, ReadsW R cl h u d as
  | .none, _, _, x, r => by
    cases x
    cases r
    exact ⟨_, ReadsW.none⟩
  | .bool b, _, _, x, r => by
    cases x
    cases r
    exact ⟨_, ReadsW.bool b⟩
  | .int i, _, _, x, r => by
    cases x
    obtain ⟨t, rfl⟩ := r
    exact ⟨_, ReadsW.int i t⟩
  | .str s, _, _, x, r => by
    cases x
    obtain ⟨t, rfl⟩ := r
    exact ⟨_, ReadsW.str s t⟩
  | .bytes b, _, _, x, r => by
    cases x
    obtain ⟨t, rfl⟩ := r
    exact ⟨_, ReadsW.bytes _ t⟩
  | .list ds, _, _, x, r => by
    cases x with
    | lst hs ha =>
      cases r
      obtain ⟨its, o, n, rv, ho, hc, hd⟩ := sqL_at hok KX hs
      obtain ⟨as, hr⟩ := Dw.readsAll hok KX ds _ its ha rv
      exact ⟨_, ReadsW.list ho hc hd hr⟩
  | .tuple ds, _, _, x, r => by
    cases x with
    | tup hs ha =>
      cases r
      obtain ⟨its, o, n, rv, ho, hc, hd⟩ := sqT_at hok KX hs
      obtain ⟨as, hr⟩ := Dw.readsAll hok KX ds _ its ha rv
      exact ⟨_, ReadsW.tuple ho hc hd hr⟩
  | .float _, _, _, x, _ => by cases x
  | .dict _, _, _, x, _ => by cases x
  | .bytearray _, _, _, x, _ => by cases x
  | .set _, _, _, x, _ => by cases x
  | .frozenset _, _, _, x, _ => by cases x
  | .obj _ _, _, _, x, _ => by cases x
theorem Dw.readsAll (hok : HOk P w H h) (KX : K.In h) : ∀ (ds : List WData) (vs : List V) (us : List Value), DwAll K H vs ds → Vals vs us → ∃ as, ReadsAllW R cl h us ds as
  | [], _, _, x, r => by
    cases x
    cases r
    exact ⟨_, ReadsAllW.nil⟩
  | d :: ds, _, _, x, r => by
    cases x with
    | cons h1 h2 =>
      cases r with
      | cons r1 r2 =>
        obtain ⟨as, q1⟩ := Dw.reads hok KX d _ _ h1 r1
        obtain ⟨bs, q2⟩ := Dw.readsAll hok KX ds _ _ h2 r2
        exact ⟨_, ReadsAllW.cons q1 q2⟩
end
end
/-! ### the arguments -/
mutual
/-- data that a codec tells -/
def plW : WData → Bool
  | .none => true
  | .bool _ => true
  | .int _ => true
  | .str _ => true
  | .bytes _ => true
  | .list xs => plWs xs
  | .tuple xs => plWs xs
  | _ => false
def plWs : List WData → Bool
  | [] => true
  | x :: r => plW x && plWs r
end
theorem plWs_map {α : Type} {f : α → WData} (h : ∀ a, plW (f a) = true) : ∀ l : List α, plWs (l.map f) = true
  | [] => rfl
  | x :: r => by
    show (plW (f x) && plWs (r.map f)) = true
    rw [h x, plWs_map h r] <;> rfl
theorem pl_enc : ∀ (c : Codec) (a : c.denote), plW (c.enc a) = true
  | .unit, _ => rfl
  | .bool, _ => rfl
  | .int _ _, _ => rfl
  | .nat _ _, _ => rfl
  | .u8, _ => rfl
  | .bytes _ _, _ => rfl
  | .text _ _ _ _, _ => rfl
  | .list _ _ c, a => plWs_map (fun x => pl_enc c x) a
  | .pair c d, a => by
    show (plW (c.enc a.1) && (plW (d.enc a.2) && true)) = true
    rw [pl_enc c a.1, pl_enc d a.2] <;> rfl
  | .triple c d e, a => by
    show (plW (c.enc a.1) && (plW (d.enc a.2.1) && (plW (e.enc a.2.2) && true))) = true
    rw [pl_enc c a.1, pl_enc d a.2.1, pl_enc e a.2.2] <;> rfl
  | .option c, none => rfl
  | .option c, some x => pl_enc c x
theorem pl_encAll : ∀ (cs : List Codec) (a : Codec.denoteAll cs), plWs (Codec.encAll cs a) = true
  | [], _ => rfl
  | c :: cs, a => by
    show (plW (c.enc a.1) && plWs (Codec.encAll cs a.2)) = true
    rw [pl_enc c a.1, pl_encAll cs a.2] <;> rfl
theorem weight_mem : ∀ {xs : List WData} {d : WData}, d ∈ xs → d.weight ≤ WData.weightAll xs
  | [], d, h => absurd h (by simp)
  | x :: r, d, h => by
    show d.weight ≤ x.weight + 1 + WData.weightAll r
    rcases List.mem_cons.mp h with e | m
    · rw [e]
      omega
    · have z := weight_mem m
      omega
def toV : Value → V
  | .none => .non
  | .bool b => .bl b
  | .int i _ => .int i
  | .str x _ => .str x
  | .bytes b _ => .byt b
  | .ref a => .ref a
  | _ => .non
/-- a value of the arguments, its objects among A -/
def OkU (A : List Addr) : Value → Prop
  | .none => True
  | .bool _ => True
  | .int _ _ => True
  | .str _ _ => True
  | .bytes _ _ => True
  | .ref a => a ∈ A
  | _ => False
theorem OkU.mono {A B : List Addr} (h : ∀ a ∈ A, a ∈ B) : ∀ {u : Value}, OkU A u → OkU B u := fun {u} x => by
  cases u with
  | ref a => exact h a x
  | none => trivial
  | bool b => trivial
  | int i t => trivial
  | str s t => trivial
  | bytes b t => trivial
  | _ => exact False.elim x
theorem relV_toV {A : List Addr} {u : Value} (x : OkU A u) : RelV (toV u) u := by
  cases u with
  | ref a => rfl
  | none => rfl
  | bool b => rfl
  | int i t => exact ⟨t, rfl⟩
  | str s t => exact ⟨t, rfl⟩
  | bytes b t => exact ⟨t, rfl⟩
  | _ => exact False.elim x
theorem vals_toV {A : List Addr} : ∀ {vs : List Value}, (∀ u ∈ vs, OkU A u) → Vals (vs.map toV) vs
  | [], _ => .nil
  | u :: r, h => .cons (relV_toV (h u (List.mem_cons_self ..))) (vals_toV fun x hx => h x (List.mem_cons_of_mem _ hx))
/-- an object of the arguments -/
def ArgOb (h : Heap) (A : List Addr) (a : Addr) : Prop := ∃ vs : List Value, vs.length ≤ sizeLine ∧ (∀ u ∈ vs, OkU A u) ∧
  (h.get? a = some { cls := .type "list", data := .seq vs.toArray } ∨ h.get? a = some { cls := .type "tuple", data := .seq vs.toArray })
theorem ArgOb.mono {h : Heap} {A B : List Addr} {a : Addr} (k : ∀ a ∈ A, a ∈ B) (x : ArgOb h A a) : ArgOb h B a := by
  obtain ⟨vs, h1, h2, h3⟩ := x
  exact ⟨vs, h1, fun u hu => (h2 u hu).mono k, h3⟩
theorem wellAll_len {P : Params} {h : Heap} : ∀ {vs : List Value} {ds : List WData}, WellAll P h vs ds → vs.length = ds.length
  | _, _, .nil => rfl
  | _, _, .cons _ b => by
    show _ + 1 = _ + 1
    rw [wellAll_len b]
theorem well_list {P : Params} {h : Heap} {v : Value} {ds : List WData} (x : Well P h v (.list ds)) : ∃ (a : Addr) (vs : List Value), v = .ref a ∧ h.get? a = some { cls := .type "list", data := .seq vs.toArray } ∧ WellAll P h vs ds := by
  cases x with
  | list ho hall => exact ⟨_, _, rfl, ho, hall⟩
theorem well_tuple {P : Params} {h : Heap} {v : Value} {ds : List WData} (x : Well P h v (.tuple ds)) : ∃ (a : Addr) (vs : List Value), v = .ref a ∧ h.get? a = some { cls := .type "tuple", data := .seq vs.toArray } ∧ WellAll P h vs ds := by
  cases x with
  | tuple ho hall => exact ⟨_, _, rfl, ho, hall⟩
theorem well_cons {P : Params} {h : Heap} {us : List Value} {d : WData} {ds : List WData} (x : WellAll P h us (d :: ds)) : ∃ (v : Value) (vs : List Value), us = v :: vs ∧ Well P h v d ∧ WellAll P h vs ds := by
  cases x with
  | cons a b => exact ⟨_, _, rfl, a, b⟩
theorem line_of {n : Nat} (h : n ≤ 1048576) : n ≤ sizeLine := Nat.le_trans h (by decide)
section
variable {P : Params} {h : Heap}
mutual
theorem area_one : ∀ (d : WData) (v : Value), Well P h v d → plW d = true → d.weight ≤ 1048576 → ∃ A : List Addr, OkU A v ∧ ∀ a ∈ A, ArgOb h A a
  | .none, _, x, _, _ => by
    cases x
    exact ⟨[], trivial, fun a m => absurd m (by simp)⟩
  | .bool b, _, x, _, _ => by
    cases x
    exact ⟨[], trivial, fun a m => absurd m (by simp)⟩
  | .int i, _, x, _, _ => by
    cases x
    exact ⟨[], trivial, fun a m => absurd m (by simp)⟩
  | .str s, _, x, _, _ => by
    cases x
    exact ⟨[], trivial, fun a m => absurd m (by simp)⟩
  | .bytes b, _, x, _, _ => by
    cases x
    exact ⟨[], trivial, fun a m => absurd m (by simp)⟩
  | .list ds, _, x, p, z => by
    obtain ⟨a, vs, rfl, ho, hall⟩ := well_list x
    have z2 : WData.weightAll ds ≤ 1048576 := z
    obtain ⟨A, h1, h2⟩ := area_all ds _ hall p fun d hd => Nat.le_trans (weight_mem hd) z2
    have k : ∀ b ∈ A, b ∈ a :: A := fun b hb => List.mem_cons_of_mem _ hb
    refine ⟨a :: A, List.mem_cons_self .., fun b hb => ?_⟩
    rcases List.mem_cons.mp hb with e | m
    · rw [e]
      exact ⟨vs, line_of (by rw [wellAll_len hall]; exact Nat.le_trans (PySem.W.length_le_weightAllW ds) z2), fun u hu => (h1 u hu).mono k, .inl ho⟩
    · exact (h2 b m).mono k
  | .tuple ds, _, x, p, z => by
    obtain ⟨a, vs, rfl, ho, hall⟩ := well_tuple x
    have z2 : WData.weightAll ds ≤ 1048576 := z
    obtain ⟨A, h1, h2⟩ := area_all ds _ hall p fun d hd => Nat.le_trans (weight_mem hd) z2
    have k : ∀ b ∈ A, b ∈ a :: A := fun b hb => List.mem_cons_of_mem _ hb
    refine ⟨a :: A, List.mem_cons_self .., fun b hb => ?_⟩
    rcases List.mem_cons.mp hb with e | m
    · rw [e]
      exact ⟨vs, line_of (by rw [wellAll_len hall]; exact Nat.le_trans (PySem.W.length_le_weightAllW ds) z2), fun u hu => (h1 u hu).mono k, .inr ho⟩
    · exact (h2 b m).mono k
  | .float _, _, _, p, _ => Bool.noConfusion (show false = true from p)
  | .dict _, _, _, p, _ => Bool.noConfusion (show false = true from p)
  | .bytearray _, _, _, p, _ => Bool.noConfusion (show false = true from p)
  | .set _, _, _, p, _ => Bool.noConfusion (show false = true from p)
  | .frozenset _, _, _, p, _ => Bool.noConfusion (show false = true from p)
  | .obj _ _, _, _, p, _ => Bool.noConfusion (show false = true from p)
theorem area_all : ∀ (ds : List WData) (vs : List Value), WellAll P h vs ds → plWs ds = true → (∀ d ∈ ds, d.weight ≤ 1048576) → ∃ A : List Addr, (∀ u ∈ vs, OkU A u) ∧ ∀ a ∈ A, ArgOb h A a
  | [], _, x, _, _ => by
    cases x
    exact ⟨[], fun u m => absurd m (by simp), fun a m => absurd m (by simp)⟩
  | d :: ds, _, x, p, z => by
    obtain ⟨v, vs, rfl, x1, x2⟩ := well_cons x
    have q : plW d = true ∧ plWs ds = true := Bool.and_eq_true_iff.mp p
    obtain ⟨A, a1, a2⟩ := area_one d v x1 q.1 (z d (List.mem_cons_self ..))
    obtain ⟨B, b1, b2⟩ := area_all ds vs x2 q.2 fun e he => z e (List.mem_cons_of_mem _ he)
    have kA : ∀ b ∈ A, b ∈ A ++ B := fun b hb => List.mem_append.mpr (.inl hb)
    have kB : ∀ b ∈ B, b ∈ A ++ B := fun b hb => List.mem_append.mpr (.inr hb)
    refine ⟨A ++ B, fun u hu => ?_, fun b hb => ?_⟩
    · rcases List.mem_cons.mp hu with e | m
      · rw [e]
        exact a1.mono kA
      · exact (b1 u m).mono kB
    · rcases List.mem_append.mp hb with m | m
      · exact (a2 b m).mono kA
      · exact (b2 b m).mono kB
end
end
/-- what is tracked of an argument's object -/
def hoOf (o : Obj) : Option HO := match o.data with
  | .seq vs _ => if (o.cls == Value.type "list") = true then some (.frz o (.lst (vs.toList.map toV))) else some (.frz o (.tup (vs.toList.map toV)))
  | _ => none
def argH (K : PySem.W.Frag) (h : Heap) (A : List Addr) : Hp := fun b => if b ∈ A then (if (K.lookup b).isNone = true then (h.get? b).bind hoOf else none) else none
/-- nothing is tracked but what is known to the object -/
def OnlyF (H : Hp) : Prop := ∀ b, H b = none ∨ ∃ o u, H b = some (.frz o u)
theorem hoOf_lst (vs : List Value) : hoOf { cls := .type "list", data := .seq vs.toArray } = some (.frz { cls := .type "list", data := .seq vs.toArray } (.lst (vs.map toV))) := by
  show (if (Value.type "list" == Value.type "list") = true then some (HO.frz { cls := .type "list", data := .seq vs.toArray } (.lst (vs.toArray.toList.map toV))) else some (HO.frz { cls := .type "list", data := .seq vs.toArray } (.tup (vs.toArray.toList.map toV)))) = _
  rw [if_pos (beq_self_eq_true _)]
theorem hoOf_tup (vs : List Value) : hoOf { cls := .type "tuple", data := .seq vs.toArray } = some (.frz { cls := .type "tuple", data := .seq vs.toArray } (.tup (vs.map toV))) := by
  show (if (Value.type "tuple" == Value.type "list") = true then some (HO.frz { cls := .type "tuple", data := .seq vs.toArray } (.lst (vs.toArray.toList.map toV))) else some (HO.frz { cls := .type "tuple", data := .seq vs.toArray } (.tup (vs.toArray.toList.map toV)))) = _
  rw [if_neg (by decide)]
section
variable {P : Program} {w : World} {K : PySem.W.Frag} {h : Heap} {A : List Addr}
theorem argH_at {b : Addr} {o : Obj} (hb : b ∈ A) (hk : K.lookup b = none) (e : h.get? b = some o) : argH K h A b = hoOf o := by
  unfold argH
  rw [if_pos hb, hk, if_pos (show (none : Option Obj).isNone = true from rfl), e] <;> rfl
theorem of_argH {b : Addr} {u : HO} (q : argH K h A b = some u) : b ∈ A ∧ K.lookup b = none := by
  unfold argH at q
  by_cases hb : b ∈ A
  · rw [if_pos hb] at q
    cases hk : K.lookup b with
    | none => exact ⟨hb, rfl⟩
    | some o =>
      rw [hk, if_neg (by simp)] at q
      cases q
  · rw [if_neg hb] at q
    cases q
/-- what stands tracked -/
theorem argH_is (ar : ∀ a ∈ A, ArgOb h A a) {b : Addr} {u : HO} (q : argH K h A b = some u) : K.lookup b = none ∧ ∃ vs : List Value, vs.length ≤ sizeLine ∧ (∀ u ∈ vs, OkU A u) ∧
    ((h.get? b = some { cls := .type "list", data := .seq vs.toArray } ∧ u = .frz { cls := .type "list", data := .seq vs.toArray } (.lst (vs.map toV))) ∨
     (h.get? b = some { cls := .type "tuple", data := .seq vs.toArray } ∧ u = .frz { cls := .type "tuple", data := .seq vs.toArray } (.tup (vs.map toV)))) := by
  obtain ⟨hb, hk⟩ := of_argH q
  obtain ⟨vs, h1, h2, h3⟩ := ar b hb
  refine ⟨hk, vs, h1, h2, ?_⟩
  rcases h3 with e | e
  · rw [argH_at hb hk e, hoOf_lst] at q
    exact .inl ⟨e, (Option.some.inj q).symm⟩
  · rw [argH_at hb hk e, hoOf_tup] at q
    exact .inr ⟨e, (Option.some.inj q).symm⟩
theorem argH_only (ar : ∀ a ∈ A, ArgOb h A a) : OnlyF (argH K h A) := fun b => by
  cases q : argH K h A b with
  | none => exact .inl rfl
  | some u =>
    obtain ⟨_, vs, _, _, ⟨_, e⟩ | ⟨_, e⟩⟩ := argH_is ar q
    · exact .inr ⟨_, _, by rw [e]⟩
    · exact .inr ⟨_, _, by rw [e]⟩
theorem argH_ok (ar : ∀ a ∈ A, ArgOb h A a) : HOk P w (argH K h A) h := fun b u q => by
  obtain ⟨_, vs, h1, h2, ⟨e, rfl⟩ | ⟨e, rfl⟩⟩ := argH_is ar q
  · exact ⟨e, by rw [List.length_map]; exact h1, vs, _, vals_toV h2, e⟩
  · exact ⟨e, by rw [List.length_map]; exact h1, vs, vals_toV h2, _, e, rfl, _, rfl⟩
theorem seq_inj {c c' : Value} {vs us : List Value} (e : (some { cls := c, data := .seq vs.toArray } : Option Obj) = some { cls := c', data := .seq us.toArray }) : c = c' ∧ vs = us := by
  have e1 := Option.some.inj e
  have e2 : c = c' := congrArg Obj.cls e1
  have e3 : Data.seq vs.toArray = Data.seq us.toArray := congrArg Obj.data e1
  injection e3 with e4
  refine ⟨e2, ?_⟩
  have e5 := congrArg Array.toList e4
  simpa using e5
/-- a list argument -/
theorem argL (KX : K.In h) (ar : ∀ a ∈ A, ArgOb h A a) {a : Addr} {vs : List Value} (ha : a ∈ A) (e : h.get? a = some { cls := .type "list", data := .seq vs.toArray }) : (∀ u ∈ vs, OkU A u) ∧ SqL K (argH K h A) a (vs.map toV) := by
  obtain ⟨us, h1, h2, h3⟩ := ar a ha
  have hu : us = vs := by
    rcases h3 with q | q
    · rw [e] at q
      exact (seq_inj q).2.symm
    · rw [e] at q
      exact absurd (Value.type.inj (seq_inj q).1) (by decide)
  subst hu
  refine ⟨h2, ?_⟩
  cases hk : K.lookup a with
  | none => exact .inl (.inr ⟨_, by rw [argH_at ha hk e, hoOf_lst]⟩)
  | some o =>
    have e2 := KX a o hk
    rw [e] at e2
    obtain rfl := Option.some.inj e2
    exact .inr ⟨_, us.toArray, _, hk, rfl, rfl, rfl, by rw [List.size_toArray]; exact h1, by simpa using vals_toV h2⟩
theorem argT (KX : K.In h) (ar : ∀ a ∈ A, ArgOb h A a) {a : Addr} {vs : List Value} (ha : a ∈ A) (e : h.get? a = some { cls := .type "tuple", data := .seq vs.toArray }) : (∀ u ∈ vs, OkU A u) ∧ SqT K (argH K h A) a (vs.map toV) := by
  obtain ⟨us, h1, h2, h3⟩ := ar a ha
  have hu : us = vs := by
    rcases h3 with q | q
    · rw [e] at q
      exact absurd (Value.type.inj (seq_inj q).1) (by decide)
    · rw [e] at q
      exact (seq_inj q).2.symm
  subst hu
  refine ⟨h2, ?_⟩
  cases hk : K.lookup a with
  | none => exact .inl (.inr ⟨_, by rw [argH_at ha hk e, hoOf_tup]⟩)
  | some o =>
    have e2 := KX a o hk
    rw [e] at e2
    obtain rfl := Option.some.inj e2
    exact .inr ⟨_, us.toArray, _, hk, rfl, rfl, by rw [List.size_toArray]; exact h1, by simpa using vals_toV h2⟩
mutual
theorem dw_one {Pm : Params} (KX : K.In h) (ar : ∀ a ∈ A, ArgOb h A a) : ∀ (d : WData) (v : Value), Well Pm h v d → plW d = true → OkU A v → Dw K (argH K h A) (toV v) d
  | .none, _, x, _, _ => by
    cases x
    exact .non
  | .bool b, _, x, _, _ => by
    cases x
    exact .bl b
  | .int i, _, x, _, _ => by
    cases x
    exact .int i
  | .str s, _, x, _, _ => by
    cases x
    exact .str s
  | .bytes b, _, x, _, _ => by
    cases x
    have z := Dw.byt (K := K) (H := argH K h A) b.toArray
    exact z
  | .list ds, _, x, p, hu => by
    obtain ⟨a, vs, rfl, ho, hall⟩ := well_list x
    obtain ⟨h2, hs⟩ := argL KX ar hu ho
    exact .lst hs (dw_all KX ar ds _ hall p h2)
  | .tuple ds, _, x, p, hu => by
    obtain ⟨a, vs, rfl, ho, hall⟩ := well_tuple x
    obtain ⟨h2, hs⟩ := argT KX ar hu ho
    exact .tup hs (dw_all KX ar ds _ hall p h2)
  | .float _, _, _, p, _ => Bool.noConfusion (show false = true from p)
  | .dict _, _, _, p, _ => Bool.noConfusion (show false = true from p)
  | .bytearray _, _, _, p, _ => Bool.noConfusion (show false = true from p)
  | .set _, _, _, p, _ => Bool.noConfusion (show false = true from p)
  | .frozenset _, _, _, p, _ => Bool.noConfusion (show false = true from p)
  | .obj _ _, _, _, p, _ => Bool.noConfusion (show false = true from p)
theorem dw_all {Pm : Params} (KX : K.In h) (ar : ∀ a ∈ A, ArgOb h A a) : ∀ (ds : List WData) (vs : List Value), WellAll Pm h vs ds → plWs ds = true → (∀ u ∈ vs, OkU A u) → DwAll K (argH K h A) (vs.map toV) ds
  | [], _, x, _, _ => by
    cases x
    exact .nil
  | d :: ds, _, x, p, hu => by
    obtain ⟨v, vs, rfl, x1, x2⟩ := well_cons x
    have q : plW d = true ∧ plWs ds = true := Bool.and_eq_true_iff.mp p
    exact .cons (dw_one KX ar d v x1 q.1 (hu _ (List.mem_cons_self ..))) (dw_all KX ar ds vs x2 q.2 fun u m => hu u (List.mem_cons_of_mem _ m))
end
end
/-! ### the call -/
theorem spec_call {P : Program} {w : World} {K : PySem.W.Frag} {mg mb : Str → Option Value} {CX : CXT} {k : Nat} {fa : Addr} {fd : FuncData} {ps : List Str} {sp : Sp} {s₁ : Shared} {vals : List Value} {ds : List WData} {R : PySem.W.WRecords} {cl : Str → Option Addr} {d0 : WData}
    (KX : K.In s₁.heap) (hns : s₁.heap.Ns mainGlobals mg) (hb : s₁.heap.Ns builtinsNs mb) (hbb : ∀ x : Str, x ≠ "__name__" → mb x = bootBuiltins x) (hlim : s₁.heap.NoLimit) (hg : s₁.gens = #[])
    (hwl : WellAll w.params s₁.heap vals ds) (hpl : plWs ds = true) (hwt : ∀ d ∈ ds, d.weight ≤ 1048576) (hr : Room k callerA)
    (F : ∀ base : Heap, K.In base → base.Ns mainGlobals mg → FnOk P w K mg base CX k fa fd ps sp) (hbind : ∀ (s : Shared) (us : List Value), us.length = ps.length → BindsTo s fd ⟨us, []⟩ (ps.zip us)) (hlen : ds.length = ps.length)
    (hsp : ∀ (H : Hp) (xs : List V), OnlyF H → DwAll K H xs ds → sp xs H (fun v H' => Dw K H' v d0) fun _ _ _ => False)
    (hCX : ∀ H e s', CX [] H s₁ (fun _ _ _ => False) e s' → False) :
    codeAny (model P w) callerA (.call (.ref fa) ⟨vals, []⟩) (fun r s' => ∃ u as, r = .ok (.ret u) ∧ ReadsW R cl s'.heap u d0 as ∧ OldK s₁.heap s'.heap ∧ s'.os = s₁.os ∧ AllBare s'.gens) s₁ := by
  obtain ⟨A, ho, ar⟩ := area_all ds vals hwl hpl hwt
  have hO : OnlyF (argH K s₁.heap A) := argH_only ar
  have hok : HOk P w (argH K s₁.heap A) s₁.heap := argH_ok ar
  have hS := dw_all KX ar ds vals hwl hpl ho
  have hV := vals_toV ho
  have hK : ∀ b u, argH K s₁.heap A b = some u → K.lookup b = none := fun b u q => (argH_is ar q).1
  have noA : ∀ {b : Addr} {o : Obj} {es : Array DictEntry} {ep : Nat}, s₁.heap.get? b = some o → o.data = .dict es ep → argH K s₁.heap A b = none := fun {b o es ep} e d => by
    cases q : argH K s₁.heap A b with
    | none => rfl
    | some u =>
      obtain ⟨_, vs, _, _, ⟨e2, _⟩ | ⟨e2, _⟩⟩ := argH_is ar q
      · rw [e2] at e
        cases e
        have d' : Data.seq vs.toArray _ = Data.dict es ep := d
        cases d'
      · rw [e2] at e
        cases e
        have d' : Data.seq vs.toArray _ = Data.dict es ep := d
        cases d'
  generalize argH K s₁.heap A = H at hO hok hS hK noA
  have base_of : ∀ {b : Addr} {o : Obj}, s₁.heap.get? b = some o → H b = none → (hidT s₁.heap H).get? b = some o := fun e n => hidT_get e n
  have nsK : ∀ {b : Addr} {m : Str → Option Value}, s₁.heap.Ns b m → (hidT s₁.heap H).Ns b m := fun {b m} ⟨o, es, ep, e, d, r⟩ => ⟨o, es, ep, base_of e (noA e d), d, r⟩
  have nK : ∀ b o, K.lookup b = some o → H b = none := fun b o e => by
    cases q : H b with
    | none => rfl
    | some u =>
      rw [hK b u q] at e
      cases e
  have hKb : K.In (hidT s₁.heap H) := fun b o e => base_of (KX b o e) (nK b o e)
  have hM : Mod K mg (hidT s₁.heap H) := ⟨hKb, nsK hns, ⟨mb, nsK hb, hbb⟩, let ⟨mc, h1, h2⟩ := hlim; ⟨mc, nsK h1, h2⟩⟩
  have e0 : Env0 P w K mg (hidT s₁.heap H) callerA [] s₁ H := ⟨rfl, hM, fun b o e => of_hidT e, Nat.le_of_eq (hidT_size _ _), trivial, fun b hb => absurd (show b ∈ ([] : List Addr) from hb) (by simp), hok, .of_eq hg⟩
  have hl : vals.length = ps.length := by rw [wellAll_len hwl]; exact hlen
  refine codeAny_mono ((F _ hKb (nsK hns)).run callerA [] s₁ H ⟨vals, []⟩ vals (vals.map toV) _ _ hr e0 (hbind s₁ vals hl) hV (hsp H _ hO hS)) fun r s' x => ?_
  cases r with
  | error e => exact (hCX H e s' x).elim
  | ok fl =>
    cases fl with
    | next => exact False.elim x
    | brk => exact False.elim x
    | cont => exact False.elim x
    | ret u =>
      obtain ⟨v, H', os, bare, un, hok', r', q⟩ := x
      have kept : ∀ b o, s₁.heap.get? b = some o → s'.heap.get? b = some o := fun b o e => by
        cases q2 : H b with
        | none => exact un.keep b o e q2 (by intro z; exact absurd (show b ∈ ([] : List Addr) from z) (by simp)) (by simp)
        | some u2 =>
          rcases hO b with z | ⟨ob, u3, z⟩
          · rw [q2] at z
            cases z
          · have z2 := un.frzs b ob _ z
            obtain ⟨e1, _⟩ := hok b _ z
            obtain ⟨e2, _⟩ := hok' b _ z2
            rw [e] at e1
            cases e1
            exact e2
      have KX' : K.In s'.heap := fun b o e => kept b o (KX b o e)
      obtain ⟨as, hrd⟩ := Dw.reads (R := R) (cl := cl) hok' KX' d0 v u q r'
      exact ⟨u, as, rfl, hrd, OldK.of_keep kept, os, bare⟩
/-! ### the row -/
theorem layable_weight {ds : List WData} (h : WData.layableAll ds = true) : ∀ d ∈ ds, d.weight ≤ 1048576 := fun d hd =>
  (PySem.W.layableW_iff.mp (List.all_eq_true.mp h d hd)).2.2
theorem encAll_len : ∀ (cs : List Codec) (a : Codec.denoteAll cs), (Codec.encAll cs a).length = cs.length
  | [], _ => rfl
  | c :: cs, a => by
    show (Codec.encAll cs a.2).length + 1 = cs.length + 1
    rw [encAll_len cs a.2]
/-- the goal that k_headS leaves (case hc), from the promise of the row's def: whatever the arguments that the codecs let and the row asks for, the def gives what stands for enc (f ..) -/
theorem walk_spec {r : OpenSpec} {k : Nat} {q : Program} {loose : List Str} {XP : (Str → Option Value) → Heap → Prop} {YP : World → Heap → Prop} {d : DefRec} {K : Params → PySem.W.Frag} {CX : World → CXT} {ps : List Str} {sp : World → Sp}
    (hwell : r.wellSaid = true) (hdf : d.params.defaults = []) (hlen : r.args.length = ps.length) (hr : Room k callerA)
    (hY : ∀ (w : World) (h : Heap), YP w h → (K w.params).In h)
    (F : ∀ (w : World) (mg : Str → Option Value) (fa : Addr) (h : Heap), YP w h → (K w.params).In h → h.Ns mainGlobals mg → mg d.name = some (.ref fa) →
      ∃ fd : FuncData, (∀ (s : Shared) (us : List Value), us.length = ps.length → BindsTo s fd ⟨us, []⟩ (ps.zip us)) ∧
        ∀ base : Heap, (K w.params).In base → base.Ns mainGlobals mg → FnOk r.prog w (K w.params) mg base (CX w) k fa fd ps (sp w))
    (hsp : ∀ (w : World) (H : Hp) (xs : List V) (a : Codec.denoteAll r.args), OnlyF H → Codec.withinAll r.args a = true → Codec.app r.args r.asked a = true → DwAll (K w.params) H xs (Codec.encAll r.args a) →
      sp w xs H (fun v H' => Dw (K w.params) H' v (r.ret.enc (Codec.app r.args r.f a))) fun _ _ _ => False)
    (hCX : ∀ (w : World) (H : Hp) (s : Shared) (e : Value) (s' : Shared), CX w [] H s (fun _ _ _ => False) e s' → False) :
    PySem.W.WalkOS q loose XP YP r d [] (fun f vs => PySem.call f vs) := by
  intro w s_0 s₁ mg mb G Y fa o pm cd doc dV kV ho hd hcd hD hmg hg args vals as hpre hlay hrd hwl hlo
  obtain ⟨a, e1, e2⟩ := PySem.W.os_pre_some hpre
  obtain ⟨e3, hwi⟩ := Codec.encAll_of_decAll r.args args a e1
  subst e3
  have KX := hY w _ Y
  obtain ⟨fd, hb, hF⟩ := F w mg fa _ Y KX G.T.g hmg
  refine PySem.W.enter_call (codeAny_mono (spec_call (R := []) (cl := classAt s_0.heap) (d0 := r.ret.enc (Codec.app r.args r.f a)) KX G.T.g G.T.b G.T.builtins G.T.nolimit hg hwl (pl_encAll _ _) (layable_weight hlay) hr hF hb (by rw [encAll_len]; exact hlen)
    (fun H xs hO hS => hsp w H xs a hO hwi e2 hS) fun H e s' => hCX w H s₁ e s') fun r' s' hq => ?_)
  obtain ⟨u, as', rfl, h1, h2, h3, h4⟩ := hq
  exact ⟨.inl ⟨u, _, as', rfl, fun _ => rfl, h1, (OpenSpec.post_iff hwell hwi _ _).mpr rfl, fun z => Bool.noConfusion (show false = true from z)⟩, h2, h3, h4⟩
/-- the same where the promise hangs on the written part alone -/
theorem walk_specK {r : OpenSpec} {k : Nat} {q : Program} {loose : List Str} {XP : (Str → Option Value) → Heap → Prop} {YP : World → Heap → Prop} {d : DefRec} {K : Params → PySem.W.Frag} {CX : CXT} {ps : List Str} {sp : PySem.W.Frag → Sp}
    (hwell : r.wellSaid = true) (hdf : d.params.defaults = []) (hlen : r.args.length = ps.length) (hr : Room k callerA)
    (hY : ∀ (w : World) (h : Heap), YP w h → (K w.params).In h)
    (F : ∀ (w : World) (mg : Str → Option Value) (fa : Addr) (h : Heap), YP w h → (K w.params).In h → h.Ns mainGlobals mg → mg d.name = some (.ref fa) →
      ∃ fd : FuncData, (∀ (s : Shared) (us : List Value), us.length = ps.length → BindsTo s fd ⟨us, []⟩ (ps.zip us)) ∧
        ∀ base : Heap, (K w.params).In base → base.Ns mainGlobals mg → FnOk r.prog w (K w.params) mg base CX k fa fd ps (sp (K w.params)))
    (hsp : ∀ (K : PySem.W.Frag) (H : Hp) (xs : List V) (a : Codec.denoteAll r.args), OnlyF H → Codec.withinAll r.args a = true → Codec.app r.args r.asked a = true → DwAll K H xs (Codec.encAll r.args a) →
      sp K xs H (fun v H' => Dw K H' v (r.ret.enc (Codec.app r.args r.f a))) fun _ _ _ => False)
    (hCX : ∀ (H : Hp) (s : Shared) (e : Value) (s' : Shared), CX [] H s (fun _ _ _ => False) e s' → False) :
    PySem.W.WalkOS q loose XP YP r d [] (fun f vs => PySem.call f vs) :=
  walk_spec (K := K) (CX := fun _ => CX) (sp := fun w => sp (K w.params)) hwell hdf hlen hr hY F (fun w H xs a h1 h2 h3 h4 => hsp (K w.params) H xs a h1 h2 h3 h4) fun _ H s e s' => hCX H s e s'
end L2
-- rests on (row put in by the clerk, for the bench that shows a file only what it spells): KE.SpHead KE.OsShapes
end
end
section
set_option Elab.async false
set_option linter.all false
set_option maxRecDepth 100000
namespace L2
open PySem PySem.Spec PyProof.Rows
open PySem.W (CodeHd tabObj kla_obj kla_fn kla_eval kla_makeFunction kla_makeFunctionHit kla_callFunE kla_codeExpr envX)
/-! ### cells that are known for a while -/
abbrev Zs := List (Addr × Obj)
def fzs (H : Hp) (zs : Zs) : Hp := fun b => match zs.lookup b with | some o => some (.frz o (.own 0)) | none => H b
def uzs (H : Hp) (zs : Zs) : Hp := fun b => match zs.lookup b with | some _ => none | none => H b
theorem fzs_in {H : Hp} {zs : Zs} {b : Addr} {o : Obj} (h : zs.lookup b = some o) : fzs H zs b = some (.frz o (.own 0)) := by unfold fzs; rw [h]
theorem fzs_out {H : Hp} {zs : Zs} {b : Addr} (h : zs.lookup b = none) : fzs H zs b = H b := by unfold fzs; rw [h]
theorem uzs_in {H : Hp} {zs : Zs} {b : Addr} {o : Obj} (h : zs.lookup b = some o) : uzs H zs b = none := by unfold uzs; rw [h]
theorem uzs_out {H : Hp} {zs : Zs} {b : Addr} (h : zs.lookup b = none) : uzs H zs b = H b := by unfold uzs; rw [h]
/-- they stand in the heap, untracked -/
def ZsFree (zs : Zs) (H : Hp) (h : Heap) : Prop := ∀ c o, zs.lookup c = some o → h.get? c = some o ∧ H c = none
def ZsIn (zs : Zs) (H : Hp) : Prop := ∀ c o, zs.lookup c = some o → H c = some (.frz o (.own 0))
theorem ZsFree.out {zs : Zs} {H : Hp} {h : Heap} (z : ZsFree zs H h) {b : Addr} {o : HO} (e : H b = some o) : zs.lookup b = none := by
  cases q : zs.lookup b with
  | none => rfl
  | some ob => rw [(z b ob q).2] at e; cases e
theorem ZsIn.out {zs : Zs} {H : Hp} (z : ZsIn zs H) {b : Addr} {o : HO} (e : H b = some o) (hn : ∀ ob, o ≠ .frz ob (.own 0)) : zs.lookup b = none := by
  cases q : zs.lookup b with
  | none => rfl
  | some ob => rw [z b ob q] at e; cases e; exact absurd rfl (hn ob)
section
variable {P : Program} {w : World} {zs : Zs} {H H' : Hp} {h h' : Heap}
theorem HOk.fz (x : HOk P w H h) (z : ZsFree zs H h) : HOk P w (fzs H zs) h := fun a o e => by
  cases q : zs.lookup a with
  | some ob =>
    rw [fzs_in q] at e; cases e
    exact ⟨(z a ob q).1, ob, (z a ob q).1⟩
  | none =>
    rw [fzs_out q] at e
    exact (x a o e).stay (fun b u _ g => g) (fun b g => by rw [fzs_out (z.out g)]; exact g) fun b xs g => by rw [fzs_out (z.out g)]; exact g
theorem HOk.uz (x : HOk P w H h) (z : ZsIn zs H) : HOk P w (uzs H zs) h := fun a o e => by
  cases q : zs.lookup a with
  | some ob => rw [uzs_in q] at e; cases e
  | none =>
    rw [uzs_out q] at e
    exact (x a o e).stay (fun b u _ g => g) (fun b g => by rw [uzs_out (z.out g (by intro ob k; cases k))]; exact g) fun b xs g => by rw [uzs_out (z.out g (by intro ob k; cases k))]; exact g
end
/-- none of them is a frame that runs, none stands in the base -/
def ZsApart (zs : Zs) (base : Heap) (fs : List Addr) : Prop := ∀ c o, zs.lookup c = some o → base.get? c = none ∧ c ∉ fs
section
variable {P : Program} {w : World} {K : PySem.W.Frag} {mg : Str → Option Value} {base : Heap} {A : Around} {outer : List Env} {s s' : Shared} {H : Hp} {zs : Zs}
theorem Env0.fz (e : Env0 P w K mg base A outer s H) (z : ZsFree zs H s.heap) (ap : ZsApart zs base (frs outer)) : Env0 P w K mg base A outer s (fzs H zs) :=
  ⟨e.frames, e.mod, fun b o g => ⟨(e.bs b o g).1, by
    rw [fzs_out]; exact (e.bs b o g).2
    cases q : zs.lookup b with
    | none => rfl
    | some ob => rw [(ap b ob q).1] at g; cases g⟩, e.bsz, e.funs, fun b hb => by
    rw [fzs_out]; exact e.frf b hb
    cases q : zs.lookup b with
    | none => rfl
    | some ob => exact absurd hb (ap b ob q).2, e.hok.fz z, e.bare⟩
theorem Env0.uz (e : Env0 P w K mg base A outer s H) (z : ZsIn zs H) : Env0 P w K mg base A outer s (uzs H zs) :=
  ⟨e.frames, e.mod, fun b o g => ⟨(e.bs b o g).1, by
    cases q : zs.lookup b with
    | none => rw [uzs_out q]; exact (e.bs b o g).2
    | some ob => exact uzs_in q⟩, e.bsz, e.funs, fun b hb => by
    cases q : zs.lookup b with
    | none => rw [uzs_out q]; exact e.frf b hb
    | some ob => exact uzs_in q, e.hok.uz z, e.bare⟩
/-- behind a call that was made with the cells known: they are free again -/
theorem CE.uz {Q Q' : VK} {u : Value} (z : ZsFree zs H s.heap) (ap : ZsApart zs base (frs outer)) (hQ : ∀ v H', Q' v H' → Q v (uzs H' zs)) (h : CE outer P w (fzs H zs) s Q' u s') : CE outer P w H s Q u s' := by
  obtain ⟨v, H', os, bare, un, hok, r, q⟩ := h
  have zin : ZsIn zs H' := fun c o g => un.frzs c o _ (fzs_in g)
  have nofr : ∀ b, b ∈ frs outer → zs.lookup b = none := fun b hb => by
    cases g : zs.lookup b with
    | none => rfl
    | some ob => exact absurd hb (ap b ob g).2
  refine ⟨v, uzs H' zs, os, bare, ⟨fun b o g n hb hx => ?_, fun b o g n hb hx => ?_, fun b o g n hx => ?_, fun b o g hx => un.there b o g hx, fun b xs g => ?_, fun b o x g => ?_, fun b ps g => ?_⟩, hok.uz zin, r, hQ v H' q⟩
  · cases k : zs.lookup b with
    | none => exact un.keep b o g (by rw [fzs_out k]; exact n) hb hx
    | some ob =>
      have e1 := (z b ob k).1
      rw [g] at e1; cases e1
      exact (hok b _ (zin b o k)).1
  · have k := nofr b hb
    exact un.slot b o g (by rw [fzs_out k]; exact n) hb hx
  · cases k : zs.lookup b with
    | none => rw [uzs_out k]; exact un.free b o g (by rw [fzs_out k]; exact n) hx
    | some ob => exact uzs_in k
  · have k := z.out g
    rw [uzs_out k]; exact un.tups b xs (by rw [fzs_out k]; exact g)
  · have k := z.out g
    rw [uzs_out k]; exact un.frzs b o x (by rw [fzs_out k]; exact g)
  · have k := z.out g
    rw [uzs_out k]; exact un.tbls b ps (by rw [fzs_out k]; exact g)
/-- behind a body that ran with the cells free and changed nothing that is tracked -/
theorem CE.fz {Q : VK} {u : Value} (hok0 : HOk P w H s.heap) (zin : ZsIn zs H) (ap : ∀ c o, zs.lookup c = some o → c ∉ frs outer) (h : CE outer P w (uzs H zs) s (fun v H' => H' = uzs H zs ∧ Q v H) u s') : CE outer P w H s Q u s' := by
  obtain ⟨v, H', os, bare, un, hok, r, e, q⟩ := h
  subst e
  refine ⟨v, H, os, bare, ⟨fun b o g n hb hx => ?_, fun b o g n hb hx => ?_, fun b o g n hx => n, fun b o g hx => un.there b o g hx, fun b xs g => g, fun b o x g => g, fun b ps g => ⟨#[], by rw [g]; simp⟩⟩, fun a o e => ?_, r, q⟩
  · refine un.keep b o g ?_ hb hx
    cases k : zs.lookup b with
    | none => rw [uzs_out k]; exact n
    | some ob => exact uzs_in k
  · refine un.slot b o g ?_ hb hx
    cases k : zs.lookup b with
    | none => rw [uzs_out k]; exact n
    | some ob => exact uzs_in k
  · cases k : zs.lookup a with
    | some ob =>
      have e1 := zin a ob k
      rw [e1] at e; cases e
      have g := (hok0 a _ e1).1
      have g2 := un.keep a ob g (uzs_in k) (ap a ob k) (by simp)
      exact ⟨g2, ob, g2⟩
    | none =>
      have g := hok a o (by rw [uzs_out k]; exact e)
      exact g.stay (fun b u _ g => g) (fun b g => by
        cases k2 : zs.lookup b with
        | none => rw [uzs_out k2] at g; exact g
        | some ob => rw [uzs_in k2] at g; cases g) fun b xs g => by
        cases k2 : zs.lookup b with
        | none => rw [uzs_out k2] at g; exact g
        | some ob => rw [uzs_in k2] at g; cases g
end

/-! ### a lambda is made -/
def codeO (c : Addr) (q : Str) : HO := .ext fun h => h.CodeRec (.ref c) q
structure LamT where
  params : Arguments
  body : Expr
  scope : Scope
  clos : List (Str × Addr)
  q : Str
def lamO (f c : Addr) (t : LamT) : HO := .ext fun h => ∃ pm ctv, h.get? f = some (kla_obj "<lambda>" t.q t.params t.body t.scope t.clos pm c ctv)
def LamAt (H : Hp) (f : Addr) (t : LamT) : Prop := ∃ c, H f = some (lamO f c t) ∧ H c = some (codeO c t.q)
/-- the table at P holds codes of that name alone -/
def TabOk (P : Addr) (q : Str) (H : Hp) : Prop := ∃ ps, H P = some (.tbl ps) ∧ TriplesOk ps.toList ∧ ∀ pos cv, codeAmong pos ps.toList = some cv → ∃ c, cv = .ref c ∧ H c = some (codeO c q)
theorem triples_snoc {a b : Int} {c : Value} : ∀ {l : List Value}, TriplesOk l → TriplesOk (l ++ [rawInt a, rawInt b, c])
  | [], _ => trivial
  | .int _ _ :: .int _ _ :: _ :: rest, h => triples_snoc (l := rest) h
theorem among_snoc {pos : Pos} {a b : Int} {c cv : Value} : ∀ {l : List Value}, TriplesOk l → codeAmong pos (l ++ [rawInt a, rawInt b, c]) = some cv → codeAmong pos l = some cv ∨ cv = c
  | [], _, h => by
    show codeAmong pos [] = some cv ∨ cv = c
    have h2 : (if (a == (pos.line : Int) && b == (pos.col : Int)) = true then some c else codeAmong pos []) = some cv := h
    split at h2
    · exact .inr (Option.some.inj h2).symm
    · exact .inl h2
  | .int x _ :: .int y _ :: d :: rest, t, h => by
    have h2 : (if (x == (pos.line : Int) && y == (pos.col : Int)) = true then some d else codeAmong pos (rest ++ [rawInt a, rawInt b, c])) = some cv := h
    show (if (x == (pos.line : Int) && y == (pos.col : Int)) = true then some d else codeAmong pos rest) = some cv ∨ cv = c
    split at h2
    · rename_i k; rw [if_pos k]; exact .inl h2
    · rename_i k; rw [if_neg k]; exact among_snoc (l := rest) t h2
def BMain (mg : Str → Option Value) (h : Heap) : Prop := ∃ bm ob, mg "__builtins__" = some (.ref bm) ∧ bm ≠ builtinsNs ∧ h.get? bm = some ob ∧ ob.cls = .type "module" ∧ ob.dict = some builtinsNs ∧ ob.data = .plain
/-- all but the table is as it was -/
def SameT (P : Addr) (H H' : Hp) : Prop := ∀ b o, H b = some o → b ≠ P → H' b = some o
def tLam (P : Addr) (t : LamT) : TE := fun _ H Q => TabOk P t.q H ∧ ∀ f H', H f = none → LamAt H' f t → TabOk P t.q H' → SameT P H H' → Q (.ref f) H'
theorem pe_lam {X : Cx} {params : Arguments} {body : Expr} {scope : Scope} {pos : Pos} {c P : Addr} (hcode : X.env.code = .ref c) (C : CodeHd X.base c P) (B : BMain X.mg X.base)
    (hdef : defaultsOf params X.env = ([], [])) (hcl : ∀ y ∈ scope.names, y.2 = .free → ∃ c, X.env.cells.lookup y.1 = some c) :
    PE X (.Lambda params body scope pos) (tLam P ⟨params, body, scope, cloFrom X.env.cells scope.names [], X.env.qual ++ "<lambda>"⟩) := by
  intro pins s σ H Q I h
  obtain ⟨⟨ps, hP, ht, hcs⟩, k⟩ := h
  have hPo : s.heap.get? P = some (tabObj ps) := I.hok P _ hP
  have hg : s.heap.Ns mainGlobals X.mg := I.mod.glob.keeps I.bk
  have C' := C.keeps I.bk
  have hgP : mainGlobals ≠ P := fun q => by
    obtain ⟨o, es, ep, e, _⟩ := I.mod.glob
    have := (I.bs _ _ e).2
    rw [q, hP] at this; cases this
  obtain ⟨bm, ob, b1, b2, b3, b4, b5, b6⟩ := B
  have hbP : bm ≠ P := fun q => by
    have := (I.bs _ _ b3).2
    rw [q, hP] at this; cases this
  have hbG : bm ≠ mainGlobals := fun q => by
    obtain ⟨o, es, ep, e, hd, _⟩ := I.mod.glob
    rw [q, e] at b3; cases b3; rw [hd] at b6; cases b6
  have hB : s.heap.BuiltinsAt X.mg P := ⟨bm, ob, b1, b2, hbG, hbP, I.bk _ _ b3, b4, b5, b6⟩
  refine kla_eval hdef ?_
  have lt : ∀ {b : Addr} {o : HO}, H b = some o → b < s.heap.objs.size := fun e => I.hok.lt e
  cases hf : codeAmong pos ps.toList with
  | some cv =>
    obtain ⟨c', rfl, hc'⟩ := hcs pos cv hf
    refine kla_makeFunctionHit (mg := X.mg) (closure_ok hcl) I.ok.glob hg hcode C' hPo ht hf hB fun ctv h' tk hk hsz => ?_
    have hfr : H h'.objs.size = none := I.hok.fresh hsz
    have I2 := I.laid (t' := tk) (a := h'.objs.size) (o := lamO h'.objs.size c' ⟨params, body, scope, cloFrom X.env.cells scope.names [], X.env.qual ++ "<lambda>"⟩) (h' := h'.push (kla_obj "<lambda>" (X.env.qual ++ "<lambda>") params body scope (cloFrom X.env.cells scope.names []) ((X.mg "__name__").getD .none) c' ctv))
      (fun b u e => Heap.get?_push_of_some _ (hk b u e)) hsz ⟨⟨_, _, Heap.get?_push_size _ rfl⟩, ⟨_, Heap.get?_push_size _ rfl⟩, fun h1 h2 ⟨pm, ct, e⟩ st => ⟨pm, ct, st _ e⟩⟩
    refine ⟨.ref h'.objs.size, _, I2, rfl, k _ _ hfr ⟨c', upd_same, ?_⟩ ⟨ps, ?_, ht, fun pos' cv' e' => ?_⟩ fun b o e hb => ?_⟩
    · rw [upd_ne (ne_of_none hc' hfr)]; exact hc'
    · rw [upd_ne (ne_of_none hP hfr)]; exact hP
    · obtain ⟨d, hd, hd2⟩ := hcs pos' cv' e'
      exact ⟨d, hd, by rw [upd_ne (ne_of_none hd2 hfr)]; exact hd2⟩
    · rw [upd_ne (ne_of_none e hfr)]; exact e
  | none =>
    refine kla_makeFunction (mg := X.mg) (closure_ok hcl) I.ok.glob hg hcode C' hPo ht hf hgP hB fun c' ctv h' tk hx hge hlt hrec htb => ?_
    have hPc : P ≠ c' := Nat.ne_of_lt (Nat.lt_of_lt_of_le (lt hP) hge)
    have hPf : P ≠ h'.objs.size := Nat.ne_of_lt (Nat.lt_trans (Nat.lt_of_lt_of_le (lt hP) hge) hlt)
    have hcf : c' ≠ h'.objs.size := Nat.ne_of_lt hlt
    have old : ∀ {b : Addr} {o : HO}, H b = some o → b ≠ c' ∧ b ≠ h'.objs.size := fun {b o} e => ⟨Nat.ne_of_lt (Nat.lt_of_lt_of_le (lt e) hge), Nat.ne_of_lt (Nat.lt_trans (Nat.lt_of_lt_of_le (lt e) hge) hlt)⟩
    generalize hT : (⟨params, body, scope, cloFrom X.env.cells scope.names [], X.env.qual ++ "<lambda>"⟩ : LamT) = T at *
    have nw : ∀ b, b ≠ h'.objs.size → b ≠ c' → b ≠ P → upd (upd (upd H P (.tbl (ps ++ #[rawInt pos.line, rawInt pos.col, .ref c']))) c' (codeO c' T.q)) h'.objs.size (lamO h'.objs.size c' T) b = H b := fun b h1 h2 h3 => by
      rw [upd_ne h1, upd_ne h2, upd_ne h3]
    have atP : upd (upd (upd H P (.tbl (ps ++ #[rawInt pos.line, rawInt pos.col, .ref c']))) c' (codeO c' T.q)) h'.objs.size (lamO h'.objs.size c' T) P = some (.tbl (ps ++ #[rawInt pos.line, rawInt pos.col, .ref c'])) := by
      rw [upd_ne hPf, upd_ne hPc, upd_same]
    have atC : upd (upd (upd H P (.tbl (ps ++ #[rawInt pos.line, rawInt pos.col, .ref c']))) c' (codeO c' T.q)) h'.objs.size (lamO h'.objs.size c' T) c' = some (codeO c' T.q) := by
      rw [upd_ne hcf, upd_same]
    have hfin : ∀ b o, b ≠ P → s.heap.get? b = some o → (h'.push (kla_obj "<lambda>" (X.env.qual ++ "<lambda>") params body scope (cloFrom X.env.cells scope.names []) ((X.mg "__name__").getD .none) c' ctv)).get? b = some o :=
      fun b o hb e => Heap.get?_push_of_some _ (hx b o hb e)
    have noP : ∀ {b : Addr}, H b = none → b ≠ P := fun n q => by rw [q, hP] at n; cases n
    have U : Un X.fs [] H (upd (upd (upd H P (.tbl (ps ++ #[rawInt pos.line, rawInt pos.col, .ref c']))) c' (codeO c' T.q)) h'.objs.size (lamO h'.objs.size c' T)) s.heap
        (h'.push (kla_obj "<lambda>" (X.env.qual ++ "<lambda>") params body scope (cloFrom X.env.cells scope.names []) ((X.mg "__name__").getD .none) c' ctv)) := by
      refine ⟨fun b o e n _ _ => hfin b o (noP n) e, fun b o e n _ _ => ⟨o.slots, hfin b o (noP n) e⟩, fun b o e n _ => ?_, fun b o e _ => ?_, fun b xs e => ?_, fun b o x e => ?_, fun b qs e => ?_⟩
      · have q := Nat.lt_of_lt_of_le (Heap.lt_size e) hge
        rw [nw b (Nat.ne_of_lt (Nat.lt_trans q hlt)) (Nat.ne_of_lt q) (noP n)]; exact n
      · by_cases q : b = P
        · subst q; exact ⟨_, Heap.get?_push_of_some _ htb⟩
        · exact ⟨o, hfin b o q e⟩
      · rw [nw b (old e).2 (old e).1 (fun q => by rw [q, hP] at e; cases e)]; exact e
      · rw [nw b (old e).2 (old e).1 (fun q => by rw [q, hP] at e; cases e)]; exact e
      · by_cases q : b = P
        · subst q
          rw [hP] at e; cases e
          exact ⟨_, atP⟩
        · exact ⟨#[], by rw [nw b (old e).2 (old e).1 q, e]; simp⟩
    have HK : HOk X.prog X.w (upd (upd (upd H P (.tbl (ps ++ #[rawInt pos.line, rawInt pos.col, .ref c']))) c' (codeO c' T.q)) h'.objs.size (lamO h'.objs.size c' T))
        (h'.push (kla_obj "<lambda>" (X.env.qual ++ "<lambda>") params body scope (cloFrom X.env.cells scope.names []) ((X.mg "__name__").getD .none) c' ctv)) := by
      intro a o e
      by_cases q1 : a = h'.objs.size
      · subst q1; rw [upd_same] at e; cases e
        subst hT
        exact ⟨⟨_, _, Heap.get?_push_size _ rfl⟩, ⟨_, Heap.get?_push_size _ rfl⟩, fun h1 h2 ⟨pm, ct, e⟩ st => ⟨pm, ct, st _ e⟩⟩
      · by_cases q2 : a = c'
        · subst q2; rw [atC] at e; cases e
          subst hT
          have hr2 := hrec.push (kla_obj "<lambda>" (X.env.qual ++ "<lambda>") params body scope (cloFrom X.env.cells scope.names []) ((X.mg "__name__").getD .none) a ctv)
          refine ⟨hr2, ?_, fun h1 h2 ⟨c2, o2, vs, t, e1, e2, e3, e4⟩ st => by cases e1; exact ⟨a, o2, vs, t, rfl, st _ e2, e3, e4⟩⟩
          obtain ⟨c2, o2, vs, t, e1, e2, _⟩ := hr2
          cases e1; exact ⟨_, e2⟩
        · by_cases q3 : a = P
          · subst q3; rw [atP] at e; cases e
            exact Heap.get?_push_of_some _ htb
          · rw [nw a q1 q2 q3] at e
            refine (I.hok a o e).stay (fun b u hb g => hfin b u ?_ g) (fun b g => ?_) fun b xs g => ?_
            · rcases hb with rfl | hb
              · exact q3
              · intro q; rw [q, hP] at hb; cases hb
            · rw [nw b (old g).2 (old g).1 (fun q => by rw [q, hP] at g; cases g)]; exact g
            · rw [nw b (old g).2 (old g).1 (fun q => by rw [q, hP] at g; cases g)]; exact g
    refine ⟨.ref h'.objs.size, _, I.un (t' := tk) U HK, rfl, k _ _ (I.hok.fresh (by omega)) ⟨c', upd_same, atC⟩ ⟨_, atP, ?_, fun pos' cv' e' => ?_⟩ fun b o e hb => ?_⟩
    · rw [Array.toList_append]; exact triples_snoc ht
    · rw [Array.toList_append] at e'
      rcases among_snoc ht e' with e' | rfl
      · obtain ⟨d, hd, hd2⟩ := hcs pos' cv' e'
        exact ⟨d, hd, by rw [nw d (old hd2).2 (old hd2).1 (fun q => by rw [q, hP] at hd2; cases hd2)]; exact hd2⟩
      · exact ⟨c', rfl, atC⟩
    · rw [nw b (old e).2 (old e).1 hb]; exact e

/-! ### a lambda is called -/
/-- the context of a lambda's body -/
def cxLam (P : Program) (w : World) (K : PySem.W.Frag) (mg : Str → Option Value) (base : Heap) (N : List Str) (t : LamT) (f : Addr) (cd : Value) (A : Around) (outer : List Env) (s : Shared) (H : Hp) : Cx where
  prog := P
  w := w
  K := K
  mg := mg
  base := base
  A := A.deeper (envX t.q t.scope s.heap.objs.size f cd t.clos)
  N := N
  s_0 := s
  H_0 := H
  env := envX t.q t.scope s.heap.objs.size f cd t.clos
  outer := outer
  stack := envX t.q t.scope s.heap.objs.size f cd t.clos :: outer
  ex := []
  calm := true
  fn := fun _ => false
  pn := []
  xe := fun _ _ => False
/-- names: the parameters, then the captured ones -/
structure LamScope (N ps fv : List Str) (t : LamT) : Prop where
  kind : t.scope.kind = .function
  co : t.scope.isCoroutine = false
  gen : t.scope.isGenerator = false
  nd : N.Nodup
  all : N = ps ++ fv
  par : ∀ x ∈ ps, t.scope.names.lookup x = some .local
  fre : ∀ x ∈ fv, t.scope.names.lookup x = some .free
  cel : ∀ y ∈ t.scope.names, y.2 ≠ .cell
  has : ∀ y ∈ t.scope.names, y.2 = .free → ∃ c, t.clos.lookup y.1 = some c
  inj : ∀ x y c, t.clos.lookup x = some c → t.clos.lookup y = some c → x = y
/-- the captured cells as they are known: each holds its value -/
structure Caps (t : LamT) (fv : List Str) (cvs : List V) (zs : Zs) : Prop where
  len : fv.length = cvs.length
  vals : ∀ (i : Nat) (x : Str) (v : V), fv[i]? = some x → cvs[i]? = some v → ∃ c o u, t.clos.lookup x = some c ∧ zs.lookup c = some o ∧ o.data = .cell (some u) ∧ RelV v u
  cells : ∀ x c, t.clos.lookup x = some c → ∃ o v, zs.lookup c = some o ∧ o.data = .cell v
theorem zip_rev_lookup : ∀ {P : List Str} {vs : List Value} {i : Nat} {x : Str} {v : Value}, P.Nodup → P[i]? = some x → vs[i]? = some v → (P.zip vs).reverse.lookup x = some v
  | [], _, _, _, _, _, h, _ => by simp at h
  | _ :: _, [], _, _, _, _, _, h => by simp at h
  | p :: P, w :: vs, 0, x, v, nd, h1, h2 => by
    simp at h1 h2; subst h1; subst h2
    rw [List.zip_cons_cons, List.reverse_cons, List.lookup_append]
    have : (P.zip vs).reverse.lookup p = none := by
      rw [List.lookup_eq_none_iff]
      intro q hq
      have := (List.of_mem_zip (List.mem_reverse.mp hq)).1
      simp only [beq_eq_false_iff_ne, bne_iff_ne, ne_eq]
      intro e; subst e
      exact (List.nodup_cons.mp nd).1 this
    rw [this]; simp [List.lookup]
  | p :: P, w :: vs, i + 1, x, v, nd, h1, h2 => by
    rw [List.zip_cons_cons, List.reverse_cons, List.lookup_append, zip_rev_lookup (i := i) (List.nodup_cons.mp nd).2 (by simpa using h1) (by simpa using h2)]
    rfl
section
variable {P : Program} {w : World} {K : PySem.W.Frag} {mg : Str → Option Value} {base : Heap}
theorem inv_lam {N ps fv : List Str} {t : LamT} {f : Addr} {cd : Value} {A : Around} {outer : List Env} {s : Shared} {H : Hp} {us : List Value} {vs cvs : List V} {h1 : Heap} {tk : Nat} {zs : Zs}
    (S : LamScope N ps fv t) (hd : A.handled = none) (e0 : Env0 P w K mg base A outer s H) (zin : ZsIn zs H) (C : Caps t fv cvs zs) (hl : vs.length = ps.length) (r : Vals vs us)
    (hns : h1.Ns s.heap.objs.size (fun x => (ps.zip us).reverse.lookup x)) (hk : ∀ b o, s.heap.get? b = some o → h1.get? b = some o) :
    Inv (cxLam P w K mg base N t f cd A outer s (uzs H zs)) [] (vs.map some ++ cvs.map some) (uzs H zs) { s with heap := h1, toks := tk } := by
  have e1 := e0.uz zin
  have lookc : ∀ x c, t.clos.lookup x = some c → ∃ o v, h1.get? c = some o ∧ o.data = .cell v ∧ uzs H zs c = none := fun x c hc => by
    obtain ⟨o, v, h2, h3⟩ := C.cells x c hc
    exact ⟨o, v, hk _ _ (e0.hok c _ (zin c o h2)).1, h3, uzs_in h2⟩
  have noA : ∀ b : Addr, b ∉ (cxLam P w K mg base N t f cd A outer s (uzs H zs)).ex := fun b z => absurd (show b ∈ ([] : List Addr) from z) (by simp)
  refine ⟨⟨e1.mod, S.kind, rfl, rfl, Nat.le_refl _, fun y z c h1 h2 => S.inj y z c h1 h2, fun y hy => ?_, fun y c h _ => Bool.noConfusion (show false = true from h), fun _ => hd, Around.frames_deeper e1.frames, .inr ⟨rfl, rfl⟩, fun b z => absurd z (noA b), e1.bs, e1.bsz, fun b _ _ => noA b, fun b z => absurd z (noA b), e1.funs, e1.frf⟩,
    rfl, e1.bare, Un.kept hk, ⟨_, hns, fun i y v h1' h2 h3 => ?_⟩, fun y c h => ?_, e1.hok.fresh (Nat.le_refl _), fun y c h => ?_, fun p hp => absurd (show p ∈ ([] : List (Addr × Obj)) from hp) (by simp), e1.hok.kept hk, ?_⟩
  · have hy : t.scope.names.lookup y = some .cell ∨ t.scope.names.lookup y = some .free := hy
    rcases hy with hy | hy
    · exact absurd rfl (S.cel _ (PySem.mem_of_lookup hy))
    · exact S.has _ (PySem.mem_of_lookup hy) rfl
  · have hN : (ps ++ fv)[i]? = some y := by rw [← S.all]; exact h1'
    by_cases hi : i < vs.length
    · rw [List.getElem?_append_left (by simpa using hi), List.getElem?_map] at h2
      have ha : vs[i]? = some v := by
        cases e : vs[i]? with
        | none => rw [e] at h2; cases h2
        | some a => rw [e] at h2; cases h2; rfl
      obtain ⟨u, hu, rv⟩ := r.get ha
      have hp : ps[i]? = some y := by rw [List.getElem?_append_left (by omega)] at hN; exact hN
      have ndP : ps.Nodup := by have := S.nd; rw [S.all] at this; exact (List.nodup_append.mp this).1
      exact ⟨u, rv, .inl ⟨S.par y (List.mem_of_getElem? hp), zip_rev_lookup ndP hp hu⟩⟩
    · rw [List.getElem?_append_right (by simpa using hi), List.getElem?_map, List.length_map] at h2
      have ha : cvs[i - vs.length]? = some v := by
        cases e : cvs[i - vs.length]? with
        | none => rw [e] at h2; cases h2
        | some a => rw [e] at h2; cases h2; rfl
      have hp : fv[i - vs.length]? = some y := by rw [List.getElem?_append_right (by omega)] at hN; rw [hl]; exact hN
      obtain ⟨c, o, u, q1, q2, q3, q4⟩ := C.vals _ y v hp ha
      exact ⟨u, q4, .inr ⟨.inr (S.fre y (List.mem_of_getElem? hp)), c, q1, o, hk _ _ (e0.hok c _ (zin c o q2)).1, q3⟩⟩
  · obtain ⟨o, v, h2, h3, _⟩ := lookc y c h
    exact ⟨v, o, h2, h3⟩
  · obtain ⟨o, v, _, _, h4⟩ := lookc y c h
    exact h4
  · show _ = N.length
    rw [S.all, List.length_append, List.length_append, List.length_map, List.length_map, hl, C.len]
/-- what a measure is asked at -/
def Sm (a b c : Int) : Prop := 0 ≤ a ∧ a ≤ 6 ∧ (b = 0 ∨ b = 1) ∧ (c = 0 ∨ c = 1)
/-- a callable of three ints, in heaps of which R holds -/
def MOk (P : Program) (w : World) (K : PySem.W.Frag) (mg : Str → Option Value) (base : Heap) (k : Nat) (f : Addr) (R : Hp → Prop) (μ : Int → Int → Int → Int) : Prop :=
  ∀ (A : Around) (outer : List Env) (s : Shared) (H : Hp) (us : List Value) (a b c : Int), Sm a b c → Room k A → Env0 P w K mg base A outer s H → R H → Vals [.int a, .int b, .int c] us →
    codeAny (model P w) A (.call (.ref f) ⟨us, []⟩) (CR CX0 outer P w H s (fun v H' => v = .int (μ a b c) ∧ H' = H) E0) s
theorem lam_ok {N fv : List Str} {p0 p1 p2 : Str} {t : LamT} {f : Addr} {k : Nat} {cvs : List V} {zs : Zs} {R : Hp → Prop} {μ : Int → Int → Int → Int}
    (S : LamScope N [p0, p1, p2] fv t) (C : Caps t fv cvs zs)
    (hR : ∀ H, R H → LamAt H f t ∧ ZsIn zs H)
    (hbind : ∀ (pm cd ct : Value) (u0 u1 u2 : Value), bindArgs (kla_fn "<lambda>" t.q t.params t.body t.scope t.clos pm cd ct) ⟨[u0, u1, u2], []⟩ = pure [(p0, u0), (p1, u1), (p2, u2)])
    (hbody : ∀ (cd : Value) (A : Around) (outer : List Env) (s : Shared) (H : Hp) (a b c : Int), Sm a b c → Room k (A.deeper (envX t.q t.scope s.heap.objs.size f cd t.clos)) → R H →
      ∃ te, PE (cxLam P w K mg base N t f cd A outer s (uzs H zs)) t.body te ∧ te ([some (.int a), some (.int b), some (.int c)] ++ cvs.map some) (uzs H zs) (fun v H' => v = .int (μ a b c) ∧ H' = uzs H zs)) :
    MOk P w K mg base (k + 1) f R μ := by
  intro A outer s H us a b c hsm hr e0 hRH rv
  obtain ⟨⟨cc, hf, hc⟩, zin⟩ := hR H hRH
  have ap : ∀ c o, zs.lookup c = some o → c ∉ frs outer := fun c o g hb => by
    have e1 := e0.frf c hb
    rw [zin c o g] at e1; cases e1
  obtain ⟨⟨pm, ctv, hfo⟩, _⟩ := e0.hok f _ hf
  obtain ⟨hrec, _⟩ := e0.hok cc _ hc
  have lim : s.heap.NoLimit := e0.mod.nolimit.keeps fun b o e => (e0.bs b o e).1
  obtain ⟨u0, u1, u2, rfl⟩ : ∃ u0 u1 u2, us = [u0, u1, u2] := by
    have := rv.length
    match us, this with
    | [u0, u1, u2], _ => exact ⟨u0, u1, u2, rfl⟩
  refine kla_callFunE hr.depth hfo rfl S.co S.gen rfl hrec ?_
  rw [hbind]
  refine wpAny_pure (wpAny_newFunctionEnv S.cel (fun x hx => ?_) (fun h1 hns hsb => ⟨lim.fresh _ hsb, ?_⟩) S.kind)
  · refine S.par x.1 ?_
    simp at hx
    rcases hx with rfl | rfl | rfl <;> simp
  · have hk1 : ∀ b o, s.heap.get? b = some o → h1.get? b = some o := fun b o e => hsb.extBut b o (Nat.ne_of_lt (Heap.lt_size e)) (Heap.get?_push_of_some _ e)
    obtain ⟨te, ht, hq⟩ := hbody (.ref cc) A outer s H a b c hsm (hr.deeper _) hRH
    have I : Inv (cxLam P w K mg base N t f (.ref cc) A outer s (uzs H zs)) [] ([some (.int a), some (.int b), some (.int c)] ++ cvs.map some) (uzs H zs) { s with heap := h1, toks := s.toks + 3 } :=
      inv_lam (us := [u0, u1, u2]) (vs := [.int a, .int b, .int c]) S hr.hd e0 zin C rfl rv hns hk1
    refine kla_codeExpr (wpAny_mono (ht [] _ _ _ _ I hq) (fun v s' hs => ?_) fun e s' hs => False.elim hs)
    obtain ⟨x, H', J, rx, q1, q2⟩ := hs
    refine CE.fz (zs := zs) e0.hok zin ap ⟨x, H', J.os, J.bare, J.base, J.hok, rx, q2, q1, rfl⟩
end

/-- a callable: a lambda that is tracked, or a def of the text -/
def FunAt (K : PySem.W.Frag) (H : Hp) (f : Addr) : Prop := (∃ t, LamAt H f t) ∨ ∃ o fd, K.lookup f = some o ∧ o.data = .func fd
theorem mok_fn {P : Program} {w : World} {K : PySem.W.Frag} {mg : Str → Option Value} {base : Heap} {k : Nat} {f : Addr} {fd : FuncData} {ps : List Str} {sp : Sp} {μ : Int → Int → Int → Int} (F : FnOk P w K mg base CX0 k f fd ps sp) (hb : Binds K fd ps []) (hl : ps.length = 3)
    (hsp : ∀ (a b c : Int) (H : Hp), sp [.int a, .int b, .int c] H (fun v H' => v = .int (μ a b c) ∧ H' = H) E0) : MOk P w K mg base k f (fun _ => True) μ := by
  intro A outer s H us a b c hsm hr e0 _ rv
  have hu : us.length = 3 := rv.length.symm
  have hb2 := hb s us (fun b o e => (e0.bs b o (e0.mod.kin b o e)).1) (by rw [List.append_nil, hu, hl])
  rw [List.append_nil] at hb2
  exact F.run A outer s H ⟨us, []⟩ us _ _ E0 hr e0 hb2 rv (hsp a b c H)
/-- a callable in a slot is called with three ints -/
def tCallV (X : Cx) (k i : Nat) (t : TA) : TE := fun σ H Q => ∃ f, σ[i]? = some (some (.ref f)) ∧ t σ H fun vs H1 => ∃ (a b c : Int) (R : Hp → Prop) (μ : Int → Int → Int → Int),
  vs = [.int a, .int b, .int c] ∧ Sm a b c ∧ MOk X.prog X.w X.K X.mg X.base k f R μ ∧ R H1 ∧ FunAt X.K H1 f ∧ Q (.int (μ a b c)) H1
theorem pe_callV {X : Cx} {k i : Nat} {x : Str} {p pos : Pos} {e : Expr} {es : List Expr} {t : TA} (hr : Room k X.A) (ha : PA X (e :: es) t) (hN : X.N[i]? = some x := by rfl)
    (hv : Vis X.env.scope x := by first | exact Or.inl rfl | exact Or.inr (Or.inl rfl) | exact Or.inr (Or.inr rfl)) (hd : (x == ("__debug__" : Str)) = false := by decide) (hcd : (x == ("__classdict__" : Str)) = false := by decide)
    (he : starEach (e :: es) X.env = (false, eval e X.env) :: starEach es X.env := by rfl) (hpl : (backTo pos (starEach es X.env)).any (·.1) = false := by rfl) :
    PE X (.Call (.Name x p) (e :: es) [] pos) (tCallV X k i t) := by
  intro pins s σ H Q I h
  obtain ⟨f, hf, h⟩ := h
  refine wpAny_Call_Name_kw (thn (pe_var (pos := p) hN hv hd hcd pins s σ H (fun v H1 => v = .ref f ∧ H1 = H) I ⟨_, hf, rfl, rfl⟩) fun u s0 ⟨v, H0, I0, r0, q1, q2⟩ => ?_)
  subst q1 q2
  obtain rfl : u = Value.ref f := r0
  have ha' := ha pos pins s0 σ H0 _ I0 h
  rw [he] at ha' ⊢
  refine PySem.W.callWith_of (P := fun h => ∃ o fd, h.get? f = some o ∧ o.data = .func fd) (by show ((false || (backTo pos (starEach es X.env)).any (·.1)) || false) = false; rw [hpl]; rfl) (fun h ⟨o, fd, e1, e2⟩ => ⟨.frame, .inl rfl, ?_⟩) (Calls.evalArgs_plain (thn ha' fun us s1 ⟨vs, H1, I1, r, a, b, c, R, μ, e1, hsm, M, hR, hl, q⟩ => ?_))
  · refine (PySem.W.Looks.ld (part := none) e1).andThen ?_
    rw [e2]; exact .now
  · subst e1
    have hfo : ∃ o fd, s1.heap.get? f = some o ∧ o.data = .func fd := by
      rcases hl with ⟨lt, cc, h1, h2⟩ | ⟨o, fd, h1, h2⟩
      · obtain ⟨⟨pm, ctv, hfo⟩, _⟩ := I1.hok f _ h1
        exact ⟨_, _, hfo, rfl⟩
      · exact ⟨o, fd, I1.kIn f o h1, h2⟩
    refine ⟨hfo, ?_⟩
    refine wpAny_call (codeAny_mono (M X.A X.stack s1 H1 us a b c hsm hr I1.env0 hR r) fun r s' hq => ?_)
    cases r with
    | error e => exact False.elim hq
    | ok fl =>
      cases fl with
      | ret u =>
        obtain ⟨v, H', c1, c2, c3, c4, c5, c6, c7⟩ := hq
        subst c6 c7
        exact I1.after ⟨_, _, c1, c2, c3, c4, c5, q⟩
      | next => exact False.elim hq
      | brk => exact False.elim hq
      | cont => exact False.elim hq
/-- f(..) of the text, with one captured name of this def known to the lambda that is handed on -/
def tCallZ (X : Cx) (sp : Sp) (j : Nat) (y : Str) (t : TA) : TE := fun σ H Q => t σ H fun vs H1 => ∃ v0, σ[j]? = some (some v0) ∧ ∀ c o u, X.env.cells.lookup y = some c → o.data = .cell (some u) → RelV v0 u → H1 c = none →
  sp vs (fzs H1 [(c, o)]) (fun v H' => Q v (uzs H' [(c, o)])) E0
theorem pe_callZ {X : Cx} {k : Nat} {f : Addr} {fd : FuncData} {ps : List Str} {sp : Sp} {x y : Str} {j : Nat} {p pos : Pos} {e : Expr} {es : List Expr} {t : TA}
    (F : FnOk X.prog X.w X.K X.mg X.base CX0 k f fd ps sp) (hr : Room k X.A) (hg : Gl X x) (hm : X.mg x = some (.ref f)) (hk : PySem.W.keepIn X.K (.ref f) = true) (hb : Binds X.K fd ps [])
    (ha : PA X (e :: es) t) (hN : X.N[j]? = some y) (hy : X.env.scope.names.lookup y = some .cell) (hfn : X.fn y = true) (hdb : (x == ("__debug__" : Str)) = false := by decide)
    (he : starEach (e :: es) X.env = (false, eval e X.env) :: starEach es X.env := by rfl) (hpl : (backTo pos (starEach es X.env)).any (·.1) = false := by rfl) :
    PE X (.Call (.Name x p) (e :: es) [] pos) (tCallZ X sp j y t) := by
  intro pins s σ H Q I h
  refine wpAny_Call_Name_kw (ld_glob I hg hm ?_ hdb)
  refine PySem.W.callWith_K (h₀ := X.base) I.ok.mod.kin hk (thn (ha pos pins s σ H _ I h) fun us s1 ⟨vs, H1, I1, r, q⟩ => ⟨I1.kIn, ?_⟩) he hpl
  obtain ⟨v0, hv0, q⟩ := q
  obtain ⟨m, hn, hl⟩ := I1.loc
  obtain ⟨u, ru, lk⟩ := hl j y v0 hN hv0 (.inr (.inl hy))
  obtain ⟨c, hc, o, ho, hd⟩ : ∃ c, X.env.cells.lookup y = some c ∧ s1.heap.IsCell c (some u) := by
    rcases lk with ⟨hk1, _⟩ | ⟨_, c, h1, h2⟩
    · have hk1 : X.env.scope.names.lookup y = some .local := hk1
      rw [hy] at hk1; cases hk1
    · exact ⟨c, h1, h2⟩
  have hHc := I1.freeC y c hc
  have hcab := I1.ok.cab y c hfn hc
  have zf : ZsFree [(c, o)] H1 s1.heap := fun b ob g => by
    rw [List.lookup_cons] at g
    cases hb : b == c with
    | true => rw [hb] at g; cases g; rw [eq_of_beq hb]; exact ⟨ho, hHc⟩
    | false => rw [hb] at g; cases g
  have za : ZsApart [(c, o)] X.base (frs X.stack) := fun b ob g => by
    rw [List.lookup_cons] at g
    cases hb : b == c with
    | false => rw [hb] at g; cases g
    | true =>
      rw [eq_of_beq hb]
      refine ⟨Heap.get?_none_of_le (Nat.le_trans I1.ok.bsz hcab), fun hm => ?_⟩
      rcases List.mem_cons.mp (I1.stkSub c hm) with e | e
      · exact I1.cne y c hc e
      · obtain ⟨_, o2, ho2, _⟩ := I1.ok.funs.mem e
        exact absurd (Nat.lt_of_lt_of_le (Heap.lt_size ho2) hcab) (Nat.lt_irrefl _)
  have hsp := q c o u hc hd ru hHc
  have hl2 : us.length = ps.length := by rw [← r.length]; exact F.len _ _ _ _ hsp
  have hb2 := hb s1 us I1.kIn (by rw [List.append_nil]; exact hl2)
  rw [List.append_nil] at hb2
  refine wpAny_call (codeAny_mono (F.run X.A X.stack s1 (fzs H1 [(c, o)]) ⟨[] ++ us, []⟩ us vs _ E0 hr (I1.env0.fz zf za) hb2 r hsp) fun r s' hq => ?_)
  cases r with
  | error e => exact False.elim hq
  | ok fl =>
    cases fl with
    | ret u => exact I1.after (CE.uz zf za (fun v H' z => z) hq)
    | next => exact False.elim hq
    | brk => exact False.elim hq
    | cont => exact False.elim hq
/-- T[i](..): the callee is an item -/
def tCallS (X : Cx) (k : Nat) (tf : TE) (t : TA) : TE := fun σ H Q => tf σ H fun v H0 => ∃ (f : Addr) (fd : FuncData) (ps : List Str) (sp : Sp), v = .ref f ∧ FnOk X.prog X.w X.K X.mg X.base CX0 k f fd ps sp ∧ PySem.W.keepIn X.K (.ref f) = true ∧ Binds X.K fd ps [] ∧ t σ H0 fun vs H1 => sp vs H1 Q E0
theorem pe_callS {X : Cx} {k : Nat} {o i : Expr} {p pos : Pos} {e : Expr} {es : List Expr} {tf : TE} {t : TA} (hf : PE X (.Subscript o i p) tf) (hr : Room k X.A) (ha : PA X (e :: es) t)
    (he : starEach (e :: es) X.env = (false, eval e X.env) :: starEach es X.env := by rfl) (hpl : (backTo pos (starEach es X.env)).any (·.1) = false := by rfl) :
    PE X (.Call (.Subscript o i p) (e :: es) [] pos) (tCallS X k tf t) := by
  intro pins s σ H Q I h
  show wpAny _ _ (do callWith pos (← eval (.Subscript o i p) X.env) [] (backTo pos (starEach (e :: es) X.env)) (backToKw pos (keywordEach [] X.env))) _ _ _
  refine wpAny_bind (thn (hf pins s σ H _ I h) fun u s0 ⟨v, H0, I0, r0, q0⟩ => ?_)
  obtain ⟨f, fd, ps, sp, rfl, F, hk, hb, q⟩ := q0
  obtain rfl : u = Value.ref f := r0
  refine PySem.W.callWith_K (h₀ := X.base) I0.ok.mod.kin hk (thn (ha pos pins s0 σ H0 _ I0 q) fun us s1 ⟨vs, H1, I1, r, q⟩ => ⟨I1.kIn, ?_⟩) he hpl
  exact run_fn (dvs := []) (E := E0) F hr hb .nil pass0 I1 r (by rw [List.append_nil]; exact q)
end L2
end
section
set_option Elab.async false
set_option linter.all false
set_option maxRecDepth 100000
set_option maxHeartbeats 2000000
namespace L2
open PySem PySem.Spec PyProof.Rows
open PySem.W (WData Codec OpenSpec Well WellAll ReadsW ReadsAllW CodeHd tabObj TabsAt noTabs)
theorem Same.tup {K : PySem.W.Frag} {H H' : Hp} {a : Addr} {xs : List V} (e : Same H H') (h : SqT K H a xs) : SqT K H' a xs := by
  rcases h with (h | ⟨o, h⟩) | h
  · exact .inl (.inl (e _ _ h))
  · exact .inl (.inr ⟨o, e _ _ h⟩)
  · exact .inr h
mutual
theorem Dw.mono {K : PySem.W.Frag} {H H' : Hp} (e : Same H H') : ∀ {v : V} {d : WData}, Dw K H v d → Dw K H' v d
  | _, _, .non => .non
  | _, _, .bl b => .bl b
  | _, _, .int i => .int i
  | _, _, .str x => .str x
  | _, _, .byt b => .byt b
  | _, _, .lst hs ha => .lst (e.seq hs) (DwAll.mono e ha)
  | _, _, .tup hs ha => .tup (e.tup hs) (DwAll.mono e ha)
theorem DwAll.mono {K : PySem.W.Frag} {H H' : Hp} (e : Same H H') : ∀ {vs : List V} {ds : List WData}, DwAll K H vs ds → DwAll K H' vs ds
  | _, _, .nil => .nil
  | _, _, .cons h t => .cons (h.mono e) (t.mono e)
end
/-- what the defs' codes are -/
def Codes (tabs : List (Addr × Addr)) (h : Heap) : Prop := ∀ q ∈ tabs, CodeHd h q.1 q.2
/-- the tables, all empty -/
def TabsIn (tabs : List (Addr × Addr)) (H : Hp) : Prop := ∀ q ∈ tabs, H q.2 = some (.tbl #[])
theorem spec_callT {P : Program} {w : World} {K : PySem.W.Frag} {mg mb : Str → Option Value} {CX : CXT} {k : Nat} {fa : Addr} {fd : FuncData} {ps : List Str} {sp : Sp} {s₁ : Shared} {vals : List Value} {ds : List WData} {R : PySem.W.WRecords} {cl : Str → Option Addr} {d0 : WData} {tabs : List (Addr × Addr)}
    (KX : K.In s₁.heap) (hns : s₁.heap.Ns mainGlobals mg) (hb : s₁.heap.Ns builtinsNs mb) (hbb : ∀ x : Str, x ≠ "__name__" → mb x = bootBuiltins x) (hlim : s₁.heap.NoLimit) (hg : s₁.gens = #[])
    (hT : TabsAt tabs s₁.heap) (hnt : noTabs K = true) (hbm : BMain mg s₁.heap)
    (hwl : WellAll w.params s₁.heap vals ds) (hpl : plWs ds = true) (hwt : ∀ d ∈ ds, d.weight ≤ 1048576) (hr : Room k callerA)
    (F : ∀ base : Heap, K.In base → base.Ns mainGlobals mg → Codes tabs base → BMain mg base → FnOk P w K mg base CX k fa fd ps sp) (hbind : ∀ (s : Shared) (us : List Value), us.length = ps.length → BindsTo s fd ⟨us, []⟩ (ps.zip us)) (hlen : ds.length = ps.length)
    (hsp : ∀ (H : Hp) (xs : List V), TabsIn tabs H → DwAll K H xs ds → sp xs H (fun v H' => Dw K H' v d0) fun _ _ _ => False)
    (hCX : ∀ H e s', CX [] H s₁ (fun _ _ _ => False) e s' → False) :
    codeAny (model P w) callerA (.call (.ref fa) ⟨vals, []⟩) (fun r s' => ∃ u as, r = .ok (.ret u) ∧ ReadsW R cl s'.heap u d0 as ∧ OldK s₁.heap s'.heap ∧ s'.os = s₁.os ∧ AllBare s'.gens) s₁ := by
  obtain ⟨A, ho, ar⟩ := area_all ds vals hwl hpl hwt
  have hO0 : OnlyF (argH K s₁.heap A) := argH_only ar
  have hok0 : HOk P w (argH K s₁.heap A) s₁.heap := argH_ok ar
  have hS0 := dw_all KX ar ds vals hwl hpl ho
  have hV := vals_toV ho
  have hK0 : ∀ b u, argH K s₁.heap A b = some u → K.lookup b = none := fun b u q => (argH_is ar q).1
  have seqA : ∀ b u, argH K s₁.heap A b = some u → ∃ o vs n, s₁.heap.get? b = some o ∧ o.data = .seq vs n := fun b u q => by
    obtain ⟨_, vs, _, _, ⟨e2, _⟩ | ⟨e2, _⟩⟩ := argH_is ar q
    · exact ⟨_, _, _, e2, rfl⟩
    · exact ⟨_, _, _, e2, rfl⟩
  generalize argH K s₁.heap A = H0 at hO0 hok0 hS0 hK0 seqA
  -- the tables besides
  have tabNo : ∀ q ∈ tabs, H0 q.2 = none := fun q hq => by
    cases e : H0 q.2 with
    | none => rfl
    | some u =>
      obtain ⟨o, vs, n, e1, e2⟩ := seqA _ u e
      rw [(hT q hq).2] at e1; cases e1; cases e2
  obtain ⟨H, hH⟩ : ∃ H : Hp, H = fun b => if b ∈ tabs.map (·.2) then some (HO.tbl #[]) else H0 b := ⟨_, rfl⟩
  have Hin : ∀ {b}, b ∈ tabs.map (·.2) → H b = some (.tbl #[]) := fun {b} hb => by rw [hH]; exact if_pos hb
  have Hout : ∀ {b}, b ∉ tabs.map (·.2) → H b = H0 b := fun {b} hb => by rw [hH]; exact if_neg hb
  have tabAt : ∀ {b}, b ∈ tabs.map (·.2) → s₁.heap.get? b = some (tabObj #[]) := fun {b} hb => by
    obtain ⟨q, hq, rfl⟩ := List.mem_map.mp hb
    exact (hT q hq).2
  have same : Same H0 H := fun b o e => by
    rw [Hout]; exact e
    intro hb
    obtain ⟨q, hq, rfl⟩ := List.mem_map.mp hb
    rw [tabNo q hq] at e; cases e
  have hok : HOk P w H s₁.heap := fun a o e => by
    by_cases ha : a ∈ tabs.map (·.2)
    · rw [Hin ha] at e; cases e
      exact tabAt ha
    · rw [Hout ha] at e
      exact (hok0 a o e).stay (fun b u _ g => g) (fun b g => same _ _ g) fun b xs g => same _ _ g
  have hTI : TabsIn tabs H := fun q hq => Hin (List.mem_map.mpr ⟨q, hq, rfl⟩)
  have hS := DwAll.mono same hS0
  -- what has another form is not tracked
  have no : ∀ {b : Addr} {o : Obj}, s₁.heap.get? b = some o → (∀ vs n, o.data ≠ .seq vs n) → o ≠ tabObj #[] → H b = none := fun {b o} e n1 n2 => by
    by_cases hb : b ∈ tabs.map (·.2)
    · rw [tabAt hb] at e; exact absurd (Option.some.inj e).symm n2
    · rw [Hout hb]
      cases q : H0 b with
      | none => rfl
      | some u =>
        obtain ⟨o', vs, n, e1, e2⟩ := seqA _ u q
        rw [e] at e1; cases e1
        exact absurd e2 (n1 vs n)
  have noA : ∀ {b : Addr} {o : Obj} {es : Array DictEntry} {ep : Nat}, s₁.heap.get? b = some o → o.data = .dict es ep → H b = none := fun {b o es ep} e d =>
    no e (fun vs n z => by rw [d] at z; cases z) (fun z => by rw [z] at d; cases d)
  have base_of : ∀ {b : Addr} {o : Obj}, s₁.heap.get? b = some o → H b = none → (hidT s₁.heap H).get? b = some o := fun e n => hidT_get e n
  have nsK : ∀ {b : Addr} {m : Str → Option Value}, s₁.heap.Ns b m → (hidT s₁.heap H).Ns b m := fun {b m} ⟨o, es, ep, e, d, r⟩ => ⟨o, es, ep, base_of e (noA e d), d, r⟩
  have nK : ∀ b o, K.lookup b = some o → H b = none := fun b o e => by
    by_cases hb : b ∈ tabs.map (·.2)
    · have e2 := KX b o e
      rw [tabAt hb] at e2; cases e2
      have h2 := List.all_eq_true.mp hnt (b, tabObj #[]) (PySem.W.mem_of_lookupK e)
      exact absurd (show false = true from h2) Bool.false_ne_true
    · rw [Hout hb]
      cases q : H0 b with
      | none => rfl
      | some u => rw [hK0 b u q] at e; cases e
  have hKb : K.In (hidT s₁.heap H) := fun b o e => base_of (KX b o e) (nK b o e)
  have hM : Mod K mg (hidT s₁.heap H) := ⟨hKb, nsK hns, ⟨mb, nsK hb, hbb⟩, let ⟨mc, h1, h2⟩ := hlim; ⟨mc, nsK h1, h2⟩⟩
  have hC : Codes tabs (hidT s₁.heap H) := fun q hq => by
    obtain ⟨o, vs, file, tf, flags, tg, inF, text, tt, e1, r1, r2, r⟩ := (hT q hq).1
    exact ⟨o, vs, file, tf, flags, tg, inF, text, tt, base_of e1 (no e1 (fun vs n z => by rw [r2] at z; cases z) (fun z => by rw [z] at r1; cases r1)), r1, r2, r⟩
  have hBM : BMain mg (hidT s₁.heap H) := by
    obtain ⟨bm, ob, b1, b2, b3, b4, b5, b6⟩ := hbm
    exact ⟨bm, ob, b1, b2, base_of b3 (no b3 (fun vs n z => by rw [b6] at z; cases z) (fun z => by rw [z] at b6; cases b6)), b4, b5, b6⟩
  have e0 : Env0 P w K mg (hidT s₁.heap H) callerA [] s₁ H := ⟨rfl, hM, fun b o e => of_hidT e, Nat.le_of_eq (hidT_size _ _), trivial, fun b hb => absurd (show b ∈ ([] : List Addr) from hb) (by simp), hok, .of_eq hg⟩
  have hl : vals.length = ps.length := by rw [wellAll_len hwl]; exact hlen
  refine codeAny_mono ((F _ hKb (nsK hns) hC hBM).run callerA [] s₁ H ⟨vals, []⟩ vals (vals.map toV) _ _ hr e0 (hbind s₁ vals hl) hV (hsp H _ hTI hS)) fun r s' x => ?_
  cases r with
  | error e => exact (hCX H e s' x).elim
  | ok fl =>
    cases fl with
    | next => exact False.elim x
    | brk => exact False.elim x
    | cont => exact False.elim x
    | ret u =>
      obtain ⟨v, H', os, bare, un, hok', r', q⟩ := x
      have kept : ∀ b o, s₁.heap.get? b = some o → b ∉ tabs.map (·.2) → s'.heap.get? b = some o := fun b o e hb => by
        cases q2 : H b with
        | none => exact un.keep b o e q2 (by intro z; exact absurd (show b ∈ ([] : List Addr) from z) (by simp)) (by simp)
        | some u2 =>
          rw [Hout hb] at q2
          rcases hO0 b with z | ⟨ob, u3, z⟩
          · rw [q2] at z; cases z
          · have z1 := same _ _ z
            have z2 := un.frzs b ob _ z1
            obtain ⟨e1, _⟩ := hok b _ z1
            obtain ⟨e2, _⟩ := hok' b _ z2
            rw [e] at e1; cases e1
            exact e2
      have KX' : K.In s'.heap := fun b o e => kept b o (KX b o e) (fun hb => by have z := Hin hb; rw [nK b o e] at z; cases z)
      obtain ⟨as, hrd⟩ := Dw.reads (R := R) (cl := cl) hok' KX' d0 v u q r'
      refine ⟨u, as, rfl, hrd, ⟨fun b o e => ?_, fun b o e => un.there b o e (by simp)⟩, os, bare⟩
      by_cases hb : b ∈ tabs.map (·.2)
      · obtain ⟨more, e2⟩ := un.tbls b _ (Hin hb)
        have e3 := hok' b _ e2
        have e4 := tabAt hb
        rw [e] at e4; cases e4
        obtain ⟨qq, hq, rfl⟩ := List.mem_map.mp hb
        exact .inr (.inl ⟨((hT qq hq).1.tab (hT qq hq).2).isCodeTable, rfl, #[], more, rfl, e3⟩)
      · exact .inl (kept b o e hb)
/-- the goal that the row's head leaves, from the promise of the row's def; the tables of the defs that make lambdas are tracked -/
theorem walk_specT {r : OpenSpec} {k : Nat} {q : Program} {loose : List Str} {XP : (Str → Option Value) → Heap → Prop} {YP : World → Heap → Prop} {d : DefRec} {K : Params → PySem.W.Frag} {CX : CXT} {ps : List Str} {sp : PySem.W.Frag → List (Addr × Addr) → Sp} {tabs : List (Addr × Addr)}
    (hwell : r.wellSaid = true) (hdf : d.params.defaults = []) (hlen : r.args.length = ps.length) (hr : Room k callerA)
    (hY : ∀ (w : World) (h : Heap), YP w h → (K w.params).In h) (hnt : ∀ w : World, noTabs (K w.params) = true)
    (hT : ∀ (w : World) (ls : List Str) (mean : ExcName → Option Value) (mg mb : Str → Option Value) (h : Heap), Top q ls mean mg mb h → (K w.params).In h → TabsAt tabs h)
    (F : ∀ (w : World) (mg : Str → Option Value) (fa : Addr) (h : Heap), YP w h → (K w.params).In h → h.Ns mainGlobals mg → mg d.name = some (.ref fa) →
      ∃ fd : FuncData, (∀ (s : Shared) (us : List Value), us.length = ps.length → BindsTo s fd ⟨us, []⟩ (ps.zip us)) ∧
        ∀ base : Heap, (K w.params).In base → base.Ns mainGlobals mg → Codes tabs base → BMain mg base → FnOk r.prog w (K w.params) mg base CX k fa fd ps (sp (K w.params) tabs))
    (hsp : ∀ (K : PySem.W.Frag) (tabs : List (Addr × Addr)) (H : Hp) (xs : List V) (a : Codec.denoteAll r.args), TabsIn tabs H → Codec.withinAll r.args a = true → Codec.app r.args r.asked a = true → DwAll K H xs (Codec.encAll r.args a) →
      sp K tabs xs H (fun v H' => Dw K H' v (r.ret.enc (Codec.app r.args r.f a))) fun _ _ _ => False)
    (hCX : ∀ (H : Hp) (s : Shared) (e : Value) (s' : Shared), CX [] H s (fun _ _ _ => False) e s' → False) :
    PySem.W.WalkOS q loose XP YP r d [] (fun f vs => PySem.call f vs) := by
  intro w s_0 s₁ mg mb G Y fa o pm cd doc dV kV ho hd hcd hD hmg hg args vals as hpre hlay hrd hwl hlo
  obtain ⟨a, e1, e2⟩ := PySem.W.os_pre_some hpre
  obtain ⟨e3, hwi⟩ := Codec.encAll_of_decAll r.args args a e1
  subst e3
  have KX := hY w _ Y
  obtain ⟨fd, hb, hF⟩ := F w mg fa _ Y KX G.T.g hmg
  refine PySem.W.enter_call (codeAny_mono (spec_callT (R := []) (cl := classAt s_0.heap) (d0 := r.ret.enc (Codec.app r.args r.f a)) KX G.T.g G.T.b G.T.builtins G.T.nolimit hg (hT w _ _ _ _ _ G.T KX) (hnt w) G.T.bmain hwl (pl_encAll _ _) (layable_weight hlay) hr hF hb (by rw [encAll_len]; exact hlen)
    (fun H xs hO hS => hsp _ _ H xs a hO hwi e2 hS) fun H e s' => hCX H s₁ e s') fun r' s' hq => ?_)
  obtain ⟨u, as', rfl, h1, h2, h3, h4⟩ := hq
  exact ⟨.inl ⟨u, _, as', rfl, fun _ => rfl, h1, (OpenSpec.post_iff hwell hwi _ _).mpr rfl, fun z => Bool.noConfusion (show false = true from z)⟩, h2, h3, h4⟩
end L2
end
section
set_option Elab.async false
set_option linter.all false
set_option maxRecDepth 100000
namespace L2
open PySem PySem.Spec PyProof.Rows
/-! ### a list out of sight while a def is called -/
def hid (H : Hp) (a : Addr) : Hp := fun b => if b = a then none else H b
theorem hid_at {H : Hp} {a : Addr} : hid H a a = none := by unfold hid; rw [if_pos rfl]
theorem hid_ne {H : Hp} {a b : Addr} (h : b ≠ a) : hid H a b = H b := by unfold hid; rw [if_neg h]
theorem hid_of {H : Hp} {a b : Addr} {o : HO} (h : hid H a b = some o) : b ≠ a ∧ H b = some o := by
  by_cases e : b = a
  · rw [e, hid_at] at h; cases h
  · rw [hid_ne e] at h; exact ⟨e, h⟩
theorem hid_upd {H : Hp} {a : Addr} {o : HO} (h : H a = none) : hid (upd H a o) a = H := by
  funext b
  by_cases e : b = a
  · rw [e, hid_at, h]
  · rw [hid_ne e, upd_ne e]
theorem Same.hid {H H' : Hp} {a : Addr} (e : ∀ b o, H b = some o → H' b = some o) : ∀ b o, L2.hid H a b = some o → L2.hid H' a b = some o := fun b o h => by
  obtain ⟨h1, h2⟩ := hid_of h
  rw [hid_ne h1]; exact e _ _ h2
section
variable {P : Program} {w : World} {K : PySem.W.Frag} {mg : Str → Option Value} {base : Heap} {A : Around} {outer : List Env} {s s' : Shared} {H : Hp} {a : Addr} {xs : List V}
theorem HOk.hide {h : Heap} (x : HOk P w H h) (ha : H a = some (.lst xs)) : HOk P w (hid H a) h := fun b o e => by
  obtain ⟨h1, h2⟩ := hid_of e
  refine (x b o h2).stay (fun b u _ g => g) (fun c g => ?_) fun c ys g => ?_
  · rw [hid_ne (fun z => by rw [z, ha] at g; cases g)]; exact g
  · rw [hid_ne (fun z => by rw [z, ha] at g; cases g)]; exact g
theorem Env0.hide (e : Env0 P w K mg base A outer s H) (ha : H a = some (.lst xs)) : Env0 P w K mg base A outer s (hid H a) :=
  ⟨e.frames, e.mod, fun b o g => ⟨(e.bs b o g).1, by
    by_cases z : b = a
    · rw [z, hid_at]
    · rw [hid_ne z]; exact (e.bs b o g).2⟩, e.bsz, e.funs, fun b hb => by
    by_cases z : b = a
    · rw [z, hid_at]
    · rw [hid_ne z]; exact e.frf b hb, e.hok.hide ha, e.bare⟩
theorem CE.hide {Q : VK} {u : Value} (hok0 : HOk P w H s.heap) (nf : a ∉ frs outer) (ha : H a = some (.lst xs)) (h : CE outer P w (hid H a) s (fun v H' => H' a = none → Q v (upd H' a (.lst xs))) u s') : CE outer P w H s Q u s' := by
  obtain ⟨v, H', os, bare, un, hok, r, q⟩ := h
  obtain ⟨z, its, n, rv, e⟩ := hok0 a _ ha
  have e2 := un.keep a _ e hid_at nf (by simp)
  have e3 := un.free a _ e hid_at (by simp)
  have nn : ∀ {b : Addr}, H b = none → hid H a b = none := fun {b} g => by
    by_cases z : b = a
    · rw [z, hid_at]
    · rw [hid_ne z]; exact g
  have ne : ∀ {b : Addr}, H b = none → b ≠ a := fun g z => by rw [z, ha] at g; cases g
  refine ⟨v, upd H' a (.lst xs), os, bare, ⟨fun b o g n hb hx => un.keep b o g (nn n) hb hx, fun b o g n hb hx => un.slot b o g (nn n) hb hx, fun b o g n hx => ?_, fun b o g hx => un.there b o g hx, fun b ys g => ?_, fun b o x g => ?_, fun b ps g => ?_⟩, fun b o g => ?_, r, q e3⟩
  · rw [upd_ne (ne n)]; exact un.free b o g (nn n) hx
  · have k : b ≠ a := fun z => by rw [z, ha] at g; cases g
    rw [upd_ne k]; exact un.tups b ys (by rw [hid_ne k]; exact g)
  · have k : b ≠ a := fun z => by rw [z, ha] at g; cases g
    rw [upd_ne k]; exact un.frzs b o x (by rw [hid_ne k]; exact g)
  · have k : b ≠ a := fun z => by rw [z, ha] at g; cases g
    rw [upd_ne k]; exact un.tbls b ps (by rw [hid_ne k]; exact g)
  · by_cases k : b = a
    · subst k
      rw [upd_same] at g; cases g
      exact ⟨z, its, n, rv, e2⟩
    · rw [upd_ne k] at g
      refine (hok b o g).stay (fun b u _ g => g) (fun c g => ?_) fun c ys g => ?_
      · rw [upd_ne (fun z => by rw [z, e3] at g; cases g)]; exact g
      · rw [upd_ne (fun z => by rw [z, e3] at g; cases g)]; exact g
end
/-- f(..) of the text, with one list out of its sight -/
def tCallH (sp : Sp) (t : TA) : TE := fun σ H Q => t σ H fun vs H1 => ∃ (a : Addr) (xs : List V), H1 a = some (.lst xs) ∧ sp vs (hid H1 a) (fun v H' => H' a = none → Q v (upd H' a (.lst xs))) E0
theorem pe_callH {X : Cx} {k : Nat} {f : Addr} {fd : FuncData} {ps : List Str} {sp : Sp} {x : Str} {p pos : Pos} {e : Expr} {es : List Expr} {t : TA}
    (F : FnOk X.prog X.w X.K X.mg X.base CX0 k f fd ps sp) (hr : Room k X.A) (hg : Gl X x) (hm : X.mg x = some (.ref f)) (hk : PySem.W.keepIn X.K (.ref f) = true) (hb : Binds X.K fd ps [])
    (ha : PA X (e :: es) t) (hdb : (x == ("__debug__" : Str)) = false := by decide)
    (he : starEach (e :: es) X.env = (false, eval e X.env) :: starEach es X.env := by rfl) (hpl : (backTo pos (starEach es X.env)).any (·.1) = false := by rfl) :
    PE X (.Call (.Name x p) (e :: es) [] pos) (tCallH sp t) := by
  intro pins s σ H Q I h
  refine wpAny_Call_Name_kw (ld_glob I hg hm ?_ hdb)
  refine PySem.W.callWith_K (h₀ := X.base) I.ok.mod.kin hk (thn (ha pos pins s σ H _ I h) fun us s1 ⟨vs, H1, I1, r, q⟩ => ⟨I1.kIn, ?_⟩) he hpl
  obtain ⟨a, xs, hH, hsp⟩ := q
  have e0 := I1.env0
  have nf : a ∉ frs X.stack := fun z => by
    have z2 := e0.frf a z
    rw [hH] at z2; cases z2
  have hl2 : us.length = ps.length := by rw [← r.length]; exact F.len _ _ _ _ hsp
  have hb2 := hb s1 us I1.kIn (by rw [List.append_nil]; exact hl2)
  rw [List.append_nil] at hb2
  refine wpAny_call (codeAny_mono (F.run X.A X.stack s1 (hid H1 a) ⟨[] ++ us, []⟩ us vs _ E0 hr (e0.hide hH) hb2 r hsp) fun r s' hq => ?_)
  cases r with
  | error e => exact False.elim hq
  | ok fl =>
    cases fl with
    | ret u => exact I1.after (CE.hide e0.hok nf hH hq)
    | next => exact False.elim hq
    | brk => exact False.elim hq
    | cont => exact False.elim hq
end L2
end
section
set_option linter.all false
namespace Md
/-- sums -/
def sm : Nat → (Nat → Rat) → Rat
  | 0, _ => 0
  | n + 1, f => sm n f + f n
theorem sm_congr : ∀ {n : Nat} {f g : Nat → Rat}, (∀ i, i < n → f i = g i) → sm n f = sm n g
  | 0, _, _, _ => rfl
  | n + 1, f, g, h => by
    show sm n f + f n = sm n g + g n
    rw [sm_congr (fun i hi => h i (Nat.lt_succ_of_lt hi)), h n (Nat.lt_succ_self n)]
theorem sm_zero : ∀ {n : Nat} {f : Nat → Rat}, (∀ i, i < n → f i = 0) → sm n f = 0
  | 0, _, _ => rfl
  | n + 1, f, h => by
    show sm n f + f n = 0
    rw [sm_zero (fun i hi => h i (Nat.lt_succ_of_lt hi)), h n (Nat.lt_succ_self n)]; grind
theorem sm_add (n : Nat) (f g : Nat → Rat) : sm n (fun i => f i + g i) = sm n f + sm n g := by
  induction n with
  | zero => simp only [sm]; grind
  | succ n ih => simp only [sm, ih]; grind
theorem sm_mul (n : Nat) (c : Rat) (f : Nat → Rat) : sm n (fun i => c * f i) = c * sm n f := by
  induction n with
  | zero => simp [sm]
  | succ n ih => simp only [sm, ih]; grind
theorem sm_lin (n : Nat) (a b : Rat) (f g : Nat → Rat) : sm n (fun i => a * f i + b * g i) = a * sm n f + b * sm n g := by
  rw [sm_add, sm_mul, sm_mul]
/-- the first one off -/
theorem sm_first (n : Nat) (f : Nat → Rat) : sm (n + 1) f = f 0 + sm n (fun i => f (i + 1)) := by
  induction n with
  | zero => simp [sm]; grind
  | succ n ih =>
    show sm (n + 1) f + f (n + 1) = _
    rw [ih]; show f 0 + sm n _ + f (n+1) = f 0 + (sm n _ + f (n + 1)); grind
theorem sm_one {n k : Nat} {f : Nat → Rat} (hk : k < n) (h : ∀ i, i < n → i ≠ k → f i = 0) : sm n f = f k := by
  induction n with
  | zero => omega
  | succ n ih =>
    show sm n f + f n = f k
    by_cases e : k = n
    · subst e; rw [sm_zero (fun i hi => h i (by omega) (by omega))]; grind
    · rw [ih (by omega) (fun i hi hne => h i (by omega) hne), h n (by omega) (by omega)]; grind
theorem sm_two {n r : Nat} {f : Nat → Rat} (hr : r + 1 < n) (h : ∀ i, i < n → i ≠ r → i ≠ r + 1 → f i = 0) (hs : f r + f (r + 1) = 0) : sm n f = 0 := by
  have e : sm n f = sm n (fun i => (if i = r then f r else 0) + (if i = r + 1 then f (r + 1) else 0)) := by
    apply sm_congr; intro i hi
    by_cases h1 : i = r
    · subst h1; have : ¬ i = i + 1 := by omega
      simp [this]; grind
    · by_cases h2 : i = r + 1
      · subst h2; simp; grind
      · simp [h1, h2, h i hi h1 h2]; grind
  rw [e, sm_add, sm_one (k := r) (by omega) (by intro i _ h; simp [h]), sm_one (k := r + 1) hr (by intro i _ h; simp [h])]
  simpa using hs
theorem sm_nonneg : ∀ {n : Nat} {f : Nat → Rat}, (∀ i, i < n → 0 ≤ f i) → 0 ≤ sm n f
  | 0, _, _ => by simp [sm]
  | n + 1, f, h => by
    have h1 := sm_nonneg (n := n) (f := f) (fun i hi => h i (by omega))
    have h2 := h n (by omega)
    show 0 ≤ sm n f + f n
    grind
theorem sm_pos {n k : Nat} {f : Nat → Rat} (hk : k < n) (h : ∀ i, i < n → 0 ≤ f i) (hp : 0 < f k) : 0 < sm n f := by
  induction n with
  | zero => omega
  | succ n ih =>
    show 0 < sm n f + f n
    by_cases e : k = n
    · subst e; have := sm_nonneg (n := k) (f := f) (fun i hi => h i (by omega)); grind
    · have := ih (by omega) (fun i hi => h i (by omega)); have := h n (by omega); grind

/-! determinants: along the first column -/
def skip (i r : Nat) : Nat := if r < i then r else r + 1
def sg (i : Nat) : Rat := if i % 2 = 0 then 1 else -1
theorem sg_succ (i : Nat) : sg (i + 1) = - sg i := by
  unfold sg
  by_cases h : i % 2 = 0
  · have : ¬ (i + 1) % 2 = 0 := by omega
    simp [h, this]
  · have : (i + 1) % 2 = 0 := by omega
    simp [h, this]
abbrev Mx := Nat → Nat → Rat
def minor (A : Mx) (i : Nat) : Mx := fun r c => A (skip i r) (c + 1)
def det : Nat → Mx → Rat
  | 0, _ => 1
  | n + 1, A => sm (n + 1) (fun i => sg i * A i 0 * det n (minor A i))
theorem skip_lt {i r n : Nat} (h : r < n) : skip i r < n + 1 := by unfold skip; split <;> omega
theorem det_congr : ∀ {n : Nat} {A B : Mx}, (∀ i j, i < n → j < n → A i j = B i j) → det n A = det n B
  | 0, _, _, _ => rfl
  | n + 1, A, B, h => by
    apply sm_congr; intro i hi
    rw [h i 0 hi (by omega), det_congr (A := minor A i) (B := minor B i)]
    intro r c hr hc
    exact h _ _ (skip_lt hr) (by omega)
def ro (A : Mx) (r : Nat) (v : Nat → Rat) : Mx := fun i j => if i = r then v j else A i j
theorem minor_same (A : Mx) (r : Nat) (v : Nat → Rat) : minor (ro A r v) r = minor A r := by
  funext i j
  have : skip r i ≠ r := by unfold skip; split <;> omega
  simp only [minor, ro, this, if_false]
theorem minor_ne (A : Mx) (i r : Nat) (h : i ≠ r) (v : Nat → Rat) : minor (ro A r v) i = ro (minor A i) (if r < i then r else r - 1) (fun j => v (j + 1)) := by
  funext s j
  by_cases e : skip i s = r
  · have : s = (if r < i then r else r - 1) := by unfold skip at e; split at e <;> split <;> omega
    simp only [minor, ro, e, if_true]; rw [if_pos this]
  · have : ¬ s = (if r < i then r else r - 1) := by
      intro q; apply e; unfold skip; split at q <;> split <;> omega
    simp only [minor, ro, e, this, if_false]
theorem det_lin : ∀ (n : Nat) (A : Mx) (r : Nat) (a b : Rat) (u v : Nat → Rat), r < n →
    det n (ro A r (fun j => a * u j + b * v j)) = a * det n (ro A r u) + b * det n (ro A r v)
  | 0, _, _, _, _, _, _, h => by omega
  | n + 1, A, r, a, b, u, v, h => by
    show sm (n + 1) _ = a * sm (n + 1) _ + b * sm (n + 1) _
    rw [← sm_lin]
    apply sm_congr; intro i hi
    by_cases e : i = r
    · subst e
      rw [minor_same, minor_same, minor_same]
      simp only [ro, if_true]; grind
    · rw [minor_ne _ _ _ e, minor_ne _ _ _ e, minor_ne _ _ _ e]
      have := det_lin n (minor A i) (if r < i then r else r - 1) a b (fun j => u (j + 1)) (fun j => v (j + 1)) (by split <;> omega)
      rw [this]
      simp only [ro, e, if_false]; grind
theorem det_adj : ∀ (n : Nat) (A : Mx) (r : Nat), r + 1 < n → (∀ j, A r j = A (r + 1) j) → det n A = 0
  | 0, _, _, h, _ => by omega
  | n + 1, A, r, h, e => by
    apply sm_two (r := r) h
    · intro i hi h1 h2
      have : det n (minor A i) = 0 := by
        by_cases q : i < r
        · apply det_adj n _ (r - 1) (by omega)
          intro j
          have e1 : skip i (r - 1) = r := by unfold skip; split <;> omega
          have e2 : skip i (r - 1 + 1) = r + 1 := by unfold skip; split <;> omega
          simp only [minor, e1, e2, e]
        · apply det_adj n _ r (by omega)
          intro j
          have e1 : skip i r = r := by unfold skip; split <;> omega
          have e2 : skip i (r + 1) = r + 1 := by unfold skip; split <;> omega
          simp only [minor, e1, e2, e]
      rw [this]; grind
    · have : minor A r = minor A (r + 1) := by
        funext s j
        by_cases q : s = r
        · subst q
          have e1 : skip s s = s + 1 := by unfold skip; split <;> omega
          have e2 : skip (s + 1) s = s := by unfold skip; split <;> omega
          simp only [minor, e1, e2, e]
        · have : skip r s = skip (r + 1) s := by unfold skip; split <;> split <;> omega
          simp only [minor, this]
      rw [this, sg_succ, e]; grind
theorem ro_self (A : Mx) (r : Nat) : ro A r (A r) = A := by
  funext i j; simp only [ro]; split <;> simp_all
theorem ro_comm (A : Mx) (r s : Nat) (h : r ≠ s) (u v : Nat → Rat) : ro (ro A r u) s v = ro (ro A s v) r u := by
  funext i j; simp only [ro]
  by_cases e1 : i = r
  · subst e1; simp [h]
  · simp [e1]
theorem ro_ro (A : Mx) (r : Nat) (u v : Nat → Rat) : ro (ro A r u) r v = ro A r v := by
  funext i j; simp only [ro]; split <;> simp_all
/-- rows one behind the other changed -/
theorem det_swap (n : Nat) (A : Mx) (r : Nat) (h : r + 1 < n) (u v : Nat → Rat) :
    det n (ro (ro A r u) (r + 1) v) = - det n (ro (ro A r v) (r + 1) u) := by
  have z : ∀ w : Nat → Rat, det n (ro (ro A r w) (r + 1) w) = 0 := by
    intro w; apply det_adj n _ r h; intro j; simp [ro]
  have ne : r ≠ r + 1 := by omega
  have l1 : ∀ (B : Mx) (w : Nat → Rat), det n (ro B (r+1) (fun j => u j + w j)) = det n (ro B (r+1) u) + det n (ro B (r+1) w) := by
    intro B w; have := det_lin n B (r + 1) 1 1 u w h; simpa using this
  have l2 : ∀ (B : Mx) (w : Nat → Rat), det n (ro B r (fun j => u j + w j)) = det n (ro B r u) + det n (ro B r w) := by
    intro B w; have := det_lin n B r 1 1 u w (by omega); simpa using this
  have k := z (fun j => u j + v j)
  have c : ∀ x y : Nat → Rat, ro (ro A r x) (r + 1) y = ro (ro A (r + 1) y) r x := fun x y => ro_comm _ _ _ ne _ _
  have k1 := l1 (ro A r (fun j => u j + v j)) v
  have k2 := l2 (ro A (r + 1) u) v
  have k3 := l2 (ro A (r + 1) v) v
  rw [← c, ← c, ← c] at k2 k3
  have z1 := z u
  have z2 := z v
  grind
theorem det_swapA (n : Nat) (A : Mx) (r : Nat) (h : r + 1 < n) : det n A = - det n (ro (ro A r (A (r + 1))) (r + 1) (A r)) := by
  have := det_swap n A r h (A r) (A (r + 1))
  rw [ro_self, ro_self] at this
  exact this
theorem det_eqRows : ∀ (d n : Nat) (A : Mx) (r : Nat), r + 1 + d < n → (∀ j, A r j = A (r + 1 + d) j) → det n A = 0
  | 0, n, A, r, h, e => det_adj n A r h e
  | d + 1, n, A, r, h, e => by
    rw [det_swapA n A (r + 1 + d) h, det_eqRows d n _ r (by omega)]
    · grind
    · intro j
      have h1 : ¬ r = r + 1 + d := by omega
      have h2 : ¬ r = r + 1 + d + 1 := by omega
      have h3 : ¬ r + 1 + d = r + 1 + d + 1 := by omega
      simp only [ro, h1, h2, h3, if_false, if_true]
      exact e j
theorem det_two (n : Nat) (A : Mx) (r s : Nat) (hr : r < n) (hs : s < n) (ne : r ≠ s) (e : ∀ j, A r j = A s j) : det n A = 0 := by
  by_cases h : r < s
  · exact det_eqRows (s - r - 1) n A r (by omega) (by intro j; rw [e j]; congr 1; omega)
  · exact det_eqRows (r - s - 1) n A s (by omega) (by intro j; rw [← e j]; congr 1; omega)
/-- a multiple of one row put to another -/
theorem det_addRow (n : Nat) (A : Mx) (r s : Nat) (hr : r < n) (hs : s < n) (ne : r ≠ s) (c : Rat) :
    det n (ro A r (fun j => A r j + c * A s j)) = det n A := by
  have h := det_lin n A r 1 c (A r) (A s) hr
  rw [ro_self] at h
  have z : det n (ro A r (A s)) = 0 := det_two n _ r s hr hs ne (by intro j; simp [ro])
  rw [z] at h
  have e : (fun j => 1 * A r j + c * A s j) = (fun j => A r j + c * A s j) := by funext j; grind
  rw [e] at h; rw [h]; grind
/-- multiples of the first row put to the rows 1 .. k -/
theorem det_addAll (n : Nat) (A : Mx) (c : Nat → Rat) : ∀ k, k < n →
    det n (fun i j => if 0 < i ∧ i ≤ k then A i j + c i * A 0 j else A i j) = det n A
  | 0, h => by
    apply det_congr; intro i j _ _
    have : ¬ (0 < i ∧ i ≤ 0) := by omega
    simp only [this, if_false]
  | k + 1, h => by
    rw [← det_addAll n A c k (by omega)]
    rw [← det_addRow n (fun i j => if 0 < i ∧ i ≤ k then A i j + c i * A 0 j else A i j) (k + 1) 0 h (by omega) (by omega) (c (k + 1))]
    apply det_congr; intro i j _ _
    by_cases e : i = k + 1
    · subst e
      have h1 : ¬ k + 1 ≤ k := by omega
      simp [ro, h1]
    · by_cases q : 0 < i ∧ i ≤ k
      · have h1 : 0 < i ∧ i ≤ k + 1 := by omega
        simp only [ro, e, q, h1, if_false, if_true, and_self]
      · have h1 : ¬ (0 < i ∧ i ≤ k + 1) := by omega
        simp only [ro, e, q, h1, if_false]
/-- one column and row cleared off -/
def sch (A : Mx) : Mx := fun i j => A (i + 1) (j + 1) - A (i + 1) 0 * A 0 (j + 1) / A 0 0
theorem det_sch (n : Nat) (A : Mx) (h : A 0 0 ≠ 0) : det (n + 1) A = A 0 0 * det n (sch A) := by
  rw [← det_addAll (n + 1) A (fun i => - A i 0 / A 0 0) n (by omega)]
  show sm (n + 1) _ = _
  rw [sm_one (k := 0) (by omega)]
  · have e : (minor (fun i j => if 0 < i ∧ i ≤ n then A i j + - A i 0 / A 0 0 * A 0 j else A i j) 0) = fun r c => if r + 1 ≤ n then A (r + 1) (c + 1) + - A (r + 1) 0 / A 0 0 * A 0 (c + 1) else A (r + 1) (c + 1) := by
      funext r c; simp [minor, skip]
    rw [e]
    rw [det_congr (B := sch A)]
    · simp [sg]
    · intro i j hi _
      have : i + 1 ≤ n := by omega
      simp only [this, if_true, sch]; grind
  · intro i hi hne
    have : 0 < i ∧ i ≤ n := by omega
    simp only [this, and_self, if_true]
    have : A i 0 + -A i 0 / A 0 0 * A 0 0 = 0 := by grind
    rw [this]; grind
def S : Nat → Mx → Mx
  | 0, A => A
  | k + 1, A => S k (sch A)
/-- the product of the first k pivots -/
def D : Nat → Mx → Rat
  | 0, _ => 1
  | k + 1, A => A 0 0 * D k (sch A)
def Piv (k : Nat) (A : Mx) : Prop := ∀ l, l < k → S l A 0 0 ≠ 0
theorem Piv.head {k : Nat} {A : Mx} (h : Piv (k + 1) A) : A 0 0 ≠ 0 := h 0 (by omega)
theorem Piv.tail {k : Nat} {A : Mx} (h : Piv (k + 1) A) : Piv k (sch A) := fun l hl => h (l + 1) (by omega)
theorem Piv.mono {k l : Nat} {A : Mx} (h : Piv k A) (q : l ≤ k) : Piv l A := fun i hi => h i (by omega)
theorem S_succ : ∀ (k : Nat) (A : Mx), S (k + 1) A = sch (S k A)
  | 0, _ => rfl
  | k + 1, A => S_succ k (sch A)
theorem D_succ : ∀ (k : Nat) (A : Mx), D (k + 1) A = D k A * S k A 0 0
  | 0, A => by simp only [D, S]; grind
  | k + 1, A => by
    show A 0 0 * D (k + 1) (sch A) = A 0 0 * D k (sch A) * S k (sch A) 0 0
    rw [D_succ k (sch A)]; grind
theorem D_ne : ∀ {k : Nat} {A : Mx}, Piv k A → D k A ≠ 0
  | 0, A, _ => by show (1 : Rat) ≠ 0; decide
  | k + 1, A, h => by
    have h1 := h.head
    have h2 := D_ne h.tail
    show A 0 0 * D k (sch A) ≠ 0
    intro e; rcases Rat.mul_eq_zero.mp e with e | e
    · exact h1 e
    · exact h2 e
theorem det_D : ∀ (k : Nat) (A : Mx), Piv k A → det k A = D k A
  | 0, _, _ => rfl
  | k + 1, A, h => by rw [det_sch k A h.head, det_D k _ h.tail]; rfl
/-- rows and columns 0 .. k - 1, and one more -/
def bord (k : Nat) (A : Mx) (i j : Nat) : Mx := fun s t => A (if s < k then s else i + k) (if t < k then t else j + k)
theorem det_bord : ∀ (k : Nat) (A : Mx) (i j : Nat), Piv k A → det (k + 1) (bord k A i j) = D k A * S k A i j
  | 0, A, i, j, _ => by
    show sm 1 _ = _
    simp [sm, sg, det, bord, D, S]; grind
  | k + 1, A, i, j, h => by
    have e0 : bord (k + 1) A i j 0 0 = A 0 0 := by simp [bord]
    rw [det_sch (k + 1) _ (by rw [e0]; exact h.head), e0]
    have e : sch (bord (k + 1) A i j) = bord k (sch A) i j := by
      funext s t
      have e1 : (if s + 1 < k + 1 then s + 1 else i + (k + 1)) = (if s < k then s else i + k) + 1 := by split <;> split <;> omega
      have e2 : (if t + 1 < k + 1 then t + 1 else j + (k + 1)) = (if t < k then t else j + k) + 1 := by split <;> split <;> omega
      simp only [sch, bord, e1, e2]; simp
    rw [e, det_bord k _ i j h.tail]
    simp only [D, S]; grind
/-- whole numbers -/
def IsI (q : Rat) : Prop := ∃ z : Int, (z : Rat) = q
theorem IsI.add {a b : Rat} : IsI a → IsI b → IsI (a + b) := fun ⟨x, hx⟩ ⟨y, hy⟩ => ⟨x + y, by rw [← hx, ← hy]; exact Rat.intCast_add x y⟩
theorem IsI.mul {a b : Rat} : IsI a → IsI b → IsI (a * b) := fun ⟨x, hx⟩ ⟨y, hy⟩ => ⟨x * y, by rw [← hx, ← hy]; exact Rat.intCast_mul x y⟩
theorem IsI.neg {a : Rat} : IsI a → IsI (-a) := fun ⟨x, hx⟩ => ⟨-x, by rw [← hx]; exact Rat.intCast_neg x⟩
theorem IsI.one : IsI 1 := ⟨1, rfl⟩
theorem IsI.zero : IsI 0 := ⟨0, rfl⟩
theorem IsI.sg (i : Nat) : IsI (sg i) := by unfold Md.sg; split; exact IsI.one; exact IsI.one.neg
theorem IsI.sm : ∀ {n : Nat} {f : Nat → Rat}, (∀ i, i < n → IsI (f i)) → IsI (sm n f)
  | 0, _, _ => IsI.zero
  | n + 1, f, h => (IsI.sm fun i hi => h i (by omega)).add (h n (by omega))
theorem IsI.det : ∀ {n : Nat} {A : Mx}, (∀ i j, i < n → j < n → IsI (A i j)) → IsI (det n A)
  | 0, _, _ => IsI.one
  | n + 1, A, h => IsI.sm fun i hi => ((IsI.sg i).mul (h i 0 hi (by omega))).mul (IsI.det fun r c hr hc => h _ _ (skip_lt hr) (by omega))
/-- how great they are -/
def Le (B a : Rat) : Prop := -B ≤ a ∧ a ≤ B
theorem Le.nonneg {B a : Rat} (h : Le B a) : 0 ≤ B := by obtain ⟨h1, h2⟩ := h; grind
theorem Le.add {a b x y : Rat} (h1 : Le x a) (h2 : Le y b) : Le (x + y) (a + b) := by
  obtain ⟨h1, h3⟩ := h1; obtain ⟨h2, h4⟩ := h2; constructor <;> grind
theorem Le.mul {a b x y : Rat} (h1 : Le x a) (h2 : Le y b) : Le (x * y) (a * b) := by
  obtain ⟨h1, h3⟩ := h1; obtain ⟨h2, h4⟩ := h2
  have k1 := Rat.mul_nonneg (a := x - a) (b := y + b) (by grind) (by grind)
  have k2 := Rat.mul_nonneg (a := x + a) (b := y - b) (by grind) (by grind)
  have k3 := Rat.mul_nonneg (a := x - a) (b := y - b) (by grind) (by grind)
  have k4 := Rat.mul_nonneg (a := x + a) (b := y + b) (by grind) (by grind)
  constructor <;> grind
theorem Le.sg (i : Nat) : Le 1 (sg i) := by unfold Md.sg; split <;> constructor <;> decide
theorem Le.mono {a x y : Rat} (h : Le x a) (q : x ≤ y) : Le y a := by obtain ⟨h1, h2⟩ := h; constructor <;> grind
theorem Le.sm : ∀ {n : Nat} {f : Nat → Rat} {B : Rat}, (∀ i, i < n → Le B (f i)) → Le (n * B) (sm n f)
  | 0, _, B, _ => by simp only [Md.sm]; constructor <;> simp
  | n + 1, f, B, h => by
    have h1 := (Le.sm (n := n) fun i hi => h i (by omega)).add (h n (by omega))
    have e : ((n + 1 : Nat) : Rat) * B = (n : Rat) * B + B := by
      have : ((n + 1 : Nat) : Rat) = (n : Rat) + 1 := Rat.natCast_add n 1
      rw [this]; grind
    rw [e]; exact h1
def fac (C : Nat) : Nat → Nat
  | 0 => 1
  | n + 1 => (n + 1) * (C * fac C n)
theorem Le.det {C : Nat} : ∀ {n : Nat} {A : Mx}, (∀ i j, i < n → j < n → Le C (A i j)) → Le (fac C n : Nat) (det n A)
  | 0, _, _ => by show Le (1 : Nat) 1; constructor <;> decide
  | n + 1, A, h => by
    have k : Le ((n + 1 : Nat) * (1 * (C : Rat) * (fac C n : Nat))) (Md.det (n + 1) A) := by
      apply Le.sm; intro i hi
      exact ((Le.sg i).mul (h i 0 hi (by omega))).mul (Le.det fun r c hr hc => h _ _ (skip_lt hr) (by omega))
    have e : ((fac C (n + 1) : Nat) : Rat) = ((n + 1 : Nat) : Rat) * (1 * (C : Rat) * (fac C n : Nat)) := by
      show (((n + 1) * (C * fac C n) : Nat) : Rat) = _
      rw [Rat.natCast_mul, Rat.natCast_mul, Rat.one_mul]
    rw [e]; exact k
/-! ## the fraction-free elimination -/
abbrev Mi := Nat → Nat → Int
def cast (M : Mi) : Mx := fun i j => (M i j : Rat)
def bstep (prev : Int) (M : Mi) : Mi := fun i j => (M 0 0 * M (i + 1) (j + 1) - M (i + 1) 0 * M 0 (j + 1)) / prev
/-- level by level: the pivot before, and the numbers -/
def bar (M : Mi) : Nat → Int × Mi
  | 0 => (1, M)
  | k + 1 => ((bar M k).2 0 0, bstep (bar M k).1 (bar M k).2)
theorem intCast_inj {a b : Int} (h : (a : Rat) = (b : Rat)) : a = b := by exact_mod_cast h
theorem bar_eq (M : Mi) : ∀ k, Piv k (cast M) → ((bar M k).1 : Rat) = D k (cast M) ∧ ∀ i j, ((bar M k).2 i j : Rat) = D k (cast M) * S k (cast M) i j
  | 0, _ => ⟨rfl, fun i j => by show (M i j : Rat) = 1 * (M i j : Rat); grind⟩
  | k + 1, h => by
    obtain ⟨h1, h2⟩ := bar_eq M k (h.mono (by omega))
    have hp := h k (by omega)
    have hD : D k (cast M) ≠ 0 := D_ne (h.mono (by omega))
    refine ⟨by rw [D_succ, ← h2]; rfl, fun i j => ?_⟩
    have hI : IsI (D (k + 1) (cast M) * S (k + 1) (cast M) i j) := by
      rw [← det_bord (k + 1) _ i j h]
      exact IsI.det fun s t _ _ => ⟨_, rfl⟩
    obtain ⟨z, hz⟩ := hI
    have e : (bar M k).2 0 0 * (bar M k).2 (i + 1) (j + 1) - (bar M k).2 (i + 1) 0 * (bar M k).2 0 (j + 1) = z * (bar M k).1 := by
      apply intCast_inj
      rw [Rat.intCast_sub, Rat.intCast_mul, Rat.intCast_mul, Rat.intCast_mul, h2, h2, h2, h2, h1, hz, D_succ, S_succ]
      simp only [sch]; grind
    have hne : (bar M k).1 ≠ 0 := by intro q; rw [q] at h1; exact hD h1.symm
    show ((bstep (bar M k).1 (bar M k).2 i j : Int) : Rat) = _
    unfold bstep
    rw [e, Int.mul_ediv_cancel _ hne, hz]
theorem bar_exact (M : Mi) (k : Nat) (h : Piv (k + 1) (cast M)) (i j : Nat) :
    (bar M k).2 0 0 * (bar M k).2 (i + 1) (j + 1) - (bar M k).2 (i + 1) 0 * (bar M k).2 0 (j + 1) = (bar M (k + 1)).2 i j * (bar M k).1 := by
  obtain ⟨h1, h2⟩ := bar_eq M k (h.mono (by omega))
  obtain ⟨_, h3⟩ := bar_eq M (k + 1) h
  have hp := h k (by omega)
  apply intCast_inj
  rw [Rat.intCast_sub, Rat.intCast_mul, Rat.intCast_mul, Rat.intCast_mul, h2, h2, h2, h2, h1, h3, D_succ, S_succ]
  simp only [sch]; grind
theorem bar_le (M : Mi) (k : Nat) (h : Piv k (cast M)) (C n : Nat) (hk : k < n) (hM : ∀ i j, i < n → j < n → Le C (M i j)) (i j : Nat) (hi : i + k < n) (hj : j + k < n) :
    Le (fac C (k + 1) : Nat) ((bar M k).2 i j : Rat) := by
  rw [(bar_eq M k h).2, ← det_bord k _ i j h]
  exact Le.det fun s t hs ht => hM _ _ (by split <;> omega) (by split <;> omega)
end Md
end
section
set_option linter.all false
namespace Md
/-! ## from the left: weights -/
def Wt : Nat → Mx → Rat → Nat → Rat
  | 0, _, c, _ => c
  | m + 1, A, c, 0 => - (sm (m + 1) fun i => Wt m (sch A) c i * A (i + 1) 0) / A 0 0
  | m + 1, A, c, i + 1 => Wt m (sch A) c i
/-- m + 1 states, m columns -/
theorem Wt_null : ∀ (m : Nat) (A : Mx) (c : Rat), Piv m A → ∀ j, j < m → sm (m + 1) (fun t => Wt m A c t * A t j) = 0
  | 0, _, _, _, j, h => by omega
  | m + 1, A, c, h, j, hj => by
    rw [sm_first]
    have h0 := h.head
    show Wt (m + 1) A c 0 * A 0 j + sm (m + 1) (fun i => Wt m (sch A) c i * A (i + 1) j) = 0
    have e0 : Wt (m + 1) A c 0 = - (sm (m + 1) fun i => Wt m (sch A) c i * A (i + 1) 0) / A 0 0 := rfl
    cases j with
    | zero => rw [e0]; grind
    | succ j =>
      have ih := Wt_null m (sch A) c h.tail j (by omega)
      have e : sm (m + 1) (fun i => Wt m (sch A) c i * A (i + 1) (j + 1)) = sm (m + 1) (fun t => Wt m (sch A) c t * sch A t j) + (A 0 (j + 1) / A 0 0) * sm (m + 1) (fun i => Wt m (sch A) c i * A (i + 1) 0) := by
        rw [← sm_mul, ← sm_add]
        apply sm_congr; intro i _
        simp only [sch]; grind
      rw [e, ih, e0]; grind
theorem Wt_last : ∀ (m : Nat) (A : Mx) (c : Rat), Wt m A c m = c
  | 0, _, _ => rfl
  | m + 1, A, c => Wt_last m (sch A) c
/-- a row that rows make -/
theorem det_comb (n : Nat) (A : Mx) (s : Nat) (hs : s < n) (w : Nat → Rat) : ∀ k, k ≤ n →
    det n (ro A s (fun j => sm k (fun t => w t * A t j))) = if s < k then w s * det n A else 0
  | 0, _ => by
    have h := det_lin n A s 0 0 (A s) (A s) hs
    have e : (fun j => 0 * A s j + 0 * A s j) = (fun j => sm 0 (fun t => w t * A t j)) := by funext j; simp only [sm]; grind
    rw [e] at h; rw [h]; simp only [Nat.not_lt_zero, if_false]; grind
  | k + 1, hk => by
    have h := det_lin n A s 1 (w k) (fun j => sm k (fun t => w t * A t j)) (A k) hs
    have e : (fun j => 1 * sm k (fun t => w t * A t j) + w k * A k j) = (fun j => sm (k + 1) (fun t => w t * A t j)) := by
      funext j; show _ = sm k _ + _; grind
    rw [e] at h; rw [h, det_comb n A s hs w k (by omega)]
    by_cases q : s = k
    · subst q
      rw [ro_self]
      have h1 : ¬ s < s := by omega
      have h2 : s < s + 1 := by omega
      simp only [h1, h2, if_true, if_false]; grind
    · have z : det n (ro A s (A k)) = 0 := det_two n _ s k hs (by omega) q (by intro j; simp [ro])
      rw [z]
      by_cases h1 : s < k
      · have h2 : s < k + 1 := by omega
        simp only [h1, h2, if_true]; grind
      · have h2 : ¬ s < k + 1 := by omega
        simp only [h1, h2, if_false]; grind
/-- with the last weight the product of pivots, each is a determinant -/
theorem Wt_det (m : Nat) (A : Mx) (h : Piv m A) (s : Nat) (hs : s < m) : Wt m A (D m A) s = det m (ro A s (fun j => - A m j)) := by
  have hD := D_ne h
  have k := det_comb m A s hs (Wt m A (D m A)) m (Nat.le_refl m)
  simp only [hs, if_true] at k
  have e : det m (ro A s (fun j => sm m (fun t => Wt m A (D m A) t * A t j))) = det m (ro A s (fun j => D m A * (- A m j) + 0 * A m j)) := by
    apply det_congr; intro i j _ hj
    have n := Wt_null m A (D m A) h j hj
    have n2 : sm m (fun t => Wt m A (D m A) t * A t j) + Wt m A (D m A) m * A m j = 0 := n
    rw [Wt_last] at n2
    simp only [ro]; split
    · grind
    · rfl
  rw [e, det_lin m A s _ _ _ _ hs, det_D m A h] at k
  grind
theorem Wt_isI (m : Nat) (A : Mx) (h : Piv m A) (hA : ∀ i j, i ≤ m → j ≤ m → IsI (A i j)) (s : Nat) (hs : s ≤ m) : IsI (Wt m A (D m A) s) := by
  by_cases e : s < m
  · rw [Wt_det m A h s e]
    exact IsI.det fun i j hi hj => by
      simp only [ro]; split
      · exact (hA m j (by omega) (by omega)).neg
      · exact hA i j (by omega) (by omega)
  · have : s = m := by omega
    subst this
    rw [Wt_last, ← det_D _ A h]
    exact IsI.det fun i j hi hj => hA i j (by omega) (by omega)
theorem Wt_le (m : Nat) (A : Mx) (h : Piv m A) (C : Nat) (hA : ∀ i j, i ≤ m → j ≤ m → Le C (A i j)) (s : Nat) (hs : s ≤ m) : Le (fac C m : Nat) (Wt m A (D m A) s) := by
  by_cases e : s < m
  · rw [Wt_det m A h s e]
    exact Le.det fun i j hi hj => by
      simp only [ro]; split
      · have k := hA m j (by omega) (by omega)
        obtain ⟨k1, k2⟩ := k; constructor <;> grind
      · exact hA i j (by omega) (by omega)
  · have : s = m := by omega
    subst this
    rw [Wt_last, ← det_D _ A h]
    exact Le.det fun i j hi hj => hA i j (by omega) (by omega)
/-! ## signs: rows that sum to nothing -/
structure Gen (m : Nat) (A : Mx) : Prop where
  off : ∀ i j, i ≤ m → j ≤ m → i ≠ j → A i j ≤ 0
  sum : ∀ i, i ≤ m → sm (m + 1) (A i) = 0
  down : ∀ i, i < m → ∃ j, i < j ∧ j ≤ m ∧ A i j < 0
theorem Gen.pos {m : Nat} {A : Mx} (g : Gen (m + 1) A) : 0 < A 0 0 := by
  have h := g.sum 0 (by omega)
  rw [sm_first] at h
  obtain ⟨j, h1, h2, h3⟩ := g.down 0 (by omega)
  obtain ⟨j, rfl⟩ : ∃ k, j = k + 1 := ⟨j - 1, by omega⟩
  have k : 0 < sm (m + 1) (fun i => - A 0 (i + 1)) := sm_pos (k := j) (by omega) (fun i hi => by have := g.off 0 (i + 1) (by omega) (by omega) (by omega); grind) (by grind)
  have e : sm (m + 1) (fun i => - A 0 (i + 1)) = - sm (m + 1) (fun i => A 0 (i + 1)) := by
    have := sm_mul (m + 1) (-1) (fun i => A 0 (i + 1))
    rw [show (fun i => - A 0 (i + 1)) = (fun i => -1 * A 0 (i + 1)) from by funext i; grind, this]; grind
  rw [e] at k; grind
theorem quot_nonneg {a b c : Rat} (ha : a ≤ 0) (hb : b ≤ 0) (hc : 0 < c) : 0 ≤ a * b / c := by
  rw [Rat.div_def]
  have h1 : 0 ≤ a * b := by have := Rat.mul_nonneg (a := -a) (b := -b) (by grind) (by grind); grind
  exact Rat.mul_nonneg h1 (Rat.le_of_lt (Rat.inv_pos.mpr hc))
theorem Gen.tail {m : Nat} {A : Mx} (g : Gen (m + 1) A) : Gen m (sch A) := by
  have hp := g.pos
  have le : ∀ i j, i ≤ m → j ≤ m → sch A i j ≤ A (i + 1) (j + 1) := by
    intro i j hi hj
    have := quot_nonneg (g.off (i + 1) 0 (by omega) (by omega) (by omega)) (g.off 0 (j + 1) (by omega) (by omega) (by omega)) hp
    simp only [sch]; grind
  refine ⟨fun i j hi hj hne => ?_, fun i hi => ?_, fun i hi => ?_⟩
  · have := le i j hi hj; have := g.off (i + 1) (j + 1) (by omega) (by omega) (by omega); grind
  · have h1 := g.sum (i + 1) (by omega)
    have h0 := g.sum 0 (by omega)
    rw [sm_first] at h1 h0
    have e : sm (m + 1) (sch A i) = sm (m + 1) (fun j => A (i + 1) (j + 1)) + (- A (i + 1) 0 / A 0 0) * sm (m + 1) (fun j => A 0 (j + 1)) := by
      rw [← sm_mul, ← sm_add]; apply sm_congr; intro j _; simp only [sch]; grind
    rw [e]; grind
  · obtain ⟨j, h1, h2, h3⟩ := g.down (i + 1) (by omega)
    obtain ⟨j, rfl⟩ : ∃ k, j = k + 1 := ⟨j - 1, by omega⟩
    refine ⟨j, by omega, by omega, ?_⟩
    have := le i j (by omega) (by omega); grind
theorem Gen.piv : ∀ {m : Nat} {A : Mx}, Gen m A → ∀ l, l < m → 0 < S l A 0 0
  | 0, _, _, l, h => by omega
  | m + 1, A, g, 0, _ => g.pos
  | m + 1, A, g, l + 1, h => Gen.piv g.tail l (by omega)
theorem Gen.Piv {m : Nat} {A : Mx} (g : Gen m A) : Piv m A := fun l h => by have := g.piv l h; grind
theorem Gen.Dpos : ∀ {m : Nat} {A : Mx}, Gen m A → 0 < D m A
  | 0, _, _ => by show (0 : Rat) < 1; decide
  | m + 1, A, g => Rat.mul_pos g.pos (Gen.Dpos g.tail)
theorem Gen.Wt_nonneg : ∀ {m : Nat} {A : Mx}, Gen m A → ∀ (c : Rat), 0 ≤ c → ∀ t, 0 ≤ Wt m A c t
  | 0, _, _, c, h, _ => h
  | m + 1, A, g, c, h, 0 => by
    show 0 ≤ - (sm (m + 1) fun i => Wt m (sch A) c i * A (i + 1) 0) / A 0 0
    have k : 0 ≤ sm (m + 1) (fun i => Wt m (sch A) c i * - A (i + 1) 0) := sm_nonneg fun i hi =>
      Rat.mul_nonneg (Gen.Wt_nonneg g.tail c h i) (by have := g.off (i + 1) 0 (by omega) (by omega) (by omega); grind)
    have e : sm (m + 1) (fun i => Wt m (sch A) c i * - A (i + 1) 0) = - (sm (m + 1) fun i => Wt m (sch A) c i * A (i + 1) 0) := by
      have := sm_mul (m + 1) (-1) (fun i => Wt m (sch A) c i * A (i + 1) 0)
      rw [show (fun i => Wt m (sch A) c i * - A (i + 1) 0) = (fun i => -1 * (Wt m (sch A) c i * A (i + 1) 0)) from by funext i; grind, this]; grind
    rw [← e, Rat.div_def]
    exact Rat.mul_nonneg k (Rat.le_of_lt (Rat.inv_pos.mpr g.pos))
  | m + 1, A, g, c, h, t + 1 => Gen.Wt_nonneg g.tail c h t
/-- the last column too -/
theorem Gen.Wt_all {m : Nat} {A : Mx} (g : Gen m A) (c : Rat) (j : Nat) (hj : j ≤ m) : sm (m + 1) (fun t => Wt m A c t * A t j) = 0 := by
  by_cases e : j < m
  · exact Wt_null m A c g.Piv j e
  · have : j = m := by omega
    subst this
    have swap : ∀ (a b : Nat) (f : Nat → Nat → Rat), sm a (fun i => sm b (fun j => f i j)) = sm b (fun j => sm a (fun i => f i j)) := by
      intro a b f
      induction a with
      | zero => simp only [sm]; exact (sm_zero fun _ _ => rfl).symm
      | succ a ih => simp only [sm]; rw [ih, ← sm_add]
    have k := swap (j + 1) (j + 1) (fun t i => Wt j A c t * A t i)
    have z : sm (j + 1) (fun t => sm (j + 1) (fun i => Wt j A c t * A t i)) = 0 := sm_zero fun t ht => by
      rw [sm_mul, show sm (j + 1) (fun i => A t i) = 0 from g.sum t (by omega)]; grind
    rw [z] at k
    have k2 : sm j (fun i => sm (j + 1) (fun t => Wt j A c t * A t i)) + sm (j + 1) (fun t => Wt j A c t * A t j) = 0 := k.symm
    rw [sm_zero fun i hi => Wt_null j A c g.Piv i hi] at k2
    grind
/-! ## from the right: the answer of the equations (m rows, columns 0 .. m - 1, and what is asked in column m) -/
def Xs : Nat → Mx → Nat → Rat
  | 0, _, _ => 0
  | m + 1, A, 0 => (A 0 (m + 1) - sm m (fun j => A 0 (j + 1) * Xs m (sch A) j)) / A 0 0
  | m + 1, A, i + 1 => Xs m (sch A) i
theorem Xs_sol : ∀ (m : Nat) (A : Mx), Piv m A → ∀ i, i < m → sm m (fun j => A i j * Xs m A j) = A i m
  | 0, _, _, i, h => by omega
  | m + 1, A, h, i, hi => by
    rw [sm_first]
    have h0 := h.head
    show A i 0 * Xs (m + 1) A 0 + sm m (fun j => A i (j + 1) * Xs m (sch A) j) = A i (m + 1)
    have e0 : Xs (m + 1) A 0 = (A 0 (m + 1) - sm m (fun j => A 0 (j + 1) * Xs m (sch A) j)) / A 0 0 := rfl
    cases i with
    | zero => rw [e0]; grind
    | succ i =>
      have ih := Xs_sol m (sch A) h.tail i (by omega)
      have e : sm m (fun j => A (i + 1) (j + 1) * Xs m (sch A) j) = sm m (fun j => sch A i j * Xs m (sch A) j) + (A (i + 1) 0 / A 0 0) * sm m (fun j => A 0 (j + 1) * Xs m (sch A) j) := by
        rw [← sm_mul, ← sm_add]; apply sm_congr; intro j _; simp only [sch]; grind
      rw [e, ih, e0]; simp only [sch]; grind
theorem Xs_unique : ∀ (m : Nat) (A : Mx), Piv m A → ∀ (y : Nat → Rat), (∀ i, i < m → sm m (fun j => A i j * y j) = A i m) → ∀ i, i < m → y i = Xs m A i
  | 0, _, _, _, _, i, h => by omega
  | m + 1, A, h, y, hy, i, hi => by
    have h0 := h.head
    have y0 := hy 0 (by omega)
    rw [sm_first] at y0
    have tl : ∀ i, i < m → y (i + 1) = Xs m (sch A) i := Xs_unique m (sch A) h.tail (fun i => y (i + 1)) fun i hi => by
      have yi := hy (i + 1) (by omega)
      rw [sm_first] at yi
      have e : sm m (fun j => sch A i j * y (j + 1)) = sm m (fun j => A (i + 1) (j + 1) * y (j + 1)) + (- A (i + 1) 0 / A 0 0) * sm m (fun j => A 0 (j + 1) * y (j + 1)) := by
        rw [← sm_mul, ← sm_add]; apply sm_congr; intro j _; simp only [sch]; grind
      rw [e]; simp only [sch]; grind
    cases i with
    | zero =>
      show y 0 = (A 0 (m + 1) - sm m (fun j => A 0 (j + 1) * Xs m (sch A) j)) / A 0 0
      rw [sm_congr (g := fun j => A 0 (j + 1) * Xs m (sch A) j) (fun j hj => by rw [tl j hj])] at y0
      grind
    | succ i => exact tl i (by omega)
/-- signs of the equations: the last row is all above 0, the others balance -/
structure Eqs (m : Nat) (A : Mx) : Prop where
  off : ∀ i j, i < m → j ≤ m → i ≠ j → 0 ≤ A i j
  sum : ∀ j, j < m → sm m (fun i => A i j) ≤ 0
  up : ∀ j, j < m → sm m (fun i => A i j) < 0 ∨ ∃ i, j < i ∧ i < m ∧ 0 < A i j
  last : ∀ j, j ≤ m → 0 < A m j
theorem Eqs.neg {m : Nat} {A : Mx} (g : Eqs (m + 1) A) : A 0 0 < 0 := by
  have h := g.sum 0 (by omega)
  rw [sm_first] at h
  have nn : 0 ≤ sm m (fun i => A (i + 1) 0) := sm_nonneg fun i hi => g.off (i + 1) 0 (by omega) (by omega) (by omega)
  rcases g.up 0 (by omega) with q | ⟨i, h1, h2, h3⟩
  · rw [sm_first] at q; grind
  · obtain ⟨i, rfl⟩ : ∃ k, i = k + 1 := ⟨i - 1, by omega⟩
    have := sm_pos (n := m) (k := i) (f := fun i => A (i + 1) 0) (by omega) (fun i hi => g.off (i + 1) 0 (by omega) (by omega) (by omega)) h3
    grind
theorem quot_nonpos {a b c : Rat} (ha : 0 ≤ a) (hb : 0 ≤ b) (hc : c < 0) : a * b / c ≤ 0 := by
  have h := Rat.mul_nonneg (Rat.mul_nonneg ha hb) (Rat.le_of_lt (Rat.inv_pos.mpr (show 0 < -c by grind)))
  have e : a * b / c = - (a * b * (-c)⁻¹) := by grind
  rw [e]; grind
theorem Eqs.tail {m : Nat} {A : Mx} (g : Eqs (m + 1) A) : Eqs m (sch A) := by
  have hn := g.neg
  have ge : ∀ i j, i ≤ m → j ≤ m → A (i + 1) (j + 1) ≤ sch A i j := by
    intro i j hi hj
    have hi0 : 0 ≤ A (i + 1) 0 := by
      by_cases q : i < m
      · exact g.off (i + 1) 0 (by omega) (by omega) (by omega)
      · have : i = m := by omega
        subst this
        exact Rat.le_of_lt (g.last 0 (by omega))
    have := quot_nonpos hi0 (g.off 0 (j + 1) (by omega) (by omega) (by omega)) hn
    simp only [sch]; grind
  have sums : ∀ j, j ≤ m → sm m (fun i => sch A i j) ≤ sm (m + 1) (fun i => A i (j + 1)) := by
    intro j hj
    have h0 := g.sum 0 (by omega)
    have e : sm m (fun i => sch A i j) = sm m (fun i => A (i + 1) (j + 1)) + (- A 0 (j + 1) / A 0 0) * sm m (fun i => A (i + 1) 0) := by
      rw [← sm_mul, ← sm_add]; apply sm_congr; intro i _; simp only [sch]; grind
    have q := quot_nonpos (a := A 0 (j + 1)) (b := - sm (m + 1) (fun i => A i 0)) (g.off 0 (j + 1) (by omega) (by omega) (by omega)) (by grind) hn
    rw [sm_first] at q
    rw [sm_first, e]
    generalize sm m (fun i => A (i + 1) 0) = x at *
    generalize sm m (fun i => A (i + 1) (j + 1)) = y at *
    generalize A 0 (j + 1) = a at *
    generalize A 0 0 = d at *
    have e2 : a * -(d + x) / d = -a + -a / d * x := by grind
    rw [e2] at q
    clear e ge
    grind
  refine ⟨fun i j hi hj hne => ?_, fun j hj => ?_, fun j hj => ?_, fun j hj => ?_⟩
  · have := ge i j (by omega) hj; have := g.off (i + 1) (j + 1) (by omega) (by omega) (by omega); grind
  · have := sums j (by omega); have := g.sum (j + 1) (by omega); grind
  · rcases g.up (j + 1) (by omega) with q | ⟨i, h1, h2, h3⟩
    · have := sums j (by omega); left; grind
    · obtain ⟨i, rfl⟩ : ∃ k, i = k + 1 := ⟨i - 1, by omega⟩
      have := ge i j (by omega) (by omega)
      exact .inr ⟨i, by omega, by omega, by grind⟩
  · have := ge m j (by omega) hj; have := g.last (j + 1) (by omega); grind
theorem Eqs.piv : ∀ {m : Nat} {A : Mx}, Eqs m A → ∀ l, l ≤ m → S l A 0 0 ≠ 0
  | 0, A, g, l, h => by
    have : l = 0 := by omega
    subst this
    have := g.last 0 (by omega)
    show A 0 0 ≠ 0
    grind
  | m + 1, A, g, 0, _ => by have := g.neg; show A 0 0 ≠ 0; grind
  | m + 1, A, g, l + 1, h => Eqs.piv g.tail l (by omega)
theorem Eqs.Piv {m : Nat} {A : Mx} (g : Eqs m A) : Piv (m + 1) A := fun l h => g.piv l (by omega)
end Md
end
section
set_option linter.all false
namespace Md
open Su111 (low plus times swapTo stepOne triangle solve)
/-! ## fractions -/
def fr (q : Rat) : Su111.Fr := (q.num, q.den)
theorem low_eq (x : Int) {n : Nat} (h : n ≠ 0) : low x n = fr (mkRat x n) := by
  have hg : Nat.gcd x.natAbs n ≠ 0 := by
    intro e; exact h (Nat.eq_zero_of_gcd_eq_zero_right e)
  unfold low fr
  rw [if_neg hg, ← Rat.normalize_eq_mkRat h, Rat.normalize_eq]
  rfl
theorem plus_eq (p q : Rat) : plus (fr p) (fr q) = fr (p + q) := by
  unfold plus
  rw [low_eq _ (show (fr p).2 * (fr q).2 ≠ 0 from Nat.mul_ne_zero p.den_nz q.den_nz), Rat.add_def, Rat.normalize_eq_mkRat]
  rfl
theorem times_eq (p : Rat) (x : Int) {n : Nat} (h : n ≠ 0) : times (fr p) x n = fr (p * x / n) := by
  unfold times
  rw [low_eq _ (show (fr p).2 * n ≠ 0 from Nat.mul_ne_zero p.den_nz h)]
  congr 1
  rw [Rat.mkRat_eq_div]
  have e : p = (p.num : Rat) / (p.den : Rat) := by rw [← Rat.mkRat_eq_div, Rat.mkRat_self]
  show (((p.num * x : Int) : Rat)) / ((p.den * n : Nat) : Rat) = p * x / n
  rw [Rat.intCast_mul, Rat.natCast_mul]
  have h1 : (p.den : Rat) ≠ 0 := by
    intro q; exact p.den_nz (by exact_mod_cast q)
  have h2 : (n : Rat) ≠ 0 := by
    intro q; exact h (by exact_mod_cast q)
  generalize hd : (p.den : Rat) = d at *
  generalize hn : (p.num : Rat) = u at *
  rw [e]
  grind
theorem fr_int (z : Int) : (z, 1) = fr (z : Rat) := by unfold fr; rw [Rat.num_intCast, Rat.den_intCast]
theorem fr_neg (q : Rat) : (-(fr q).1, (fr q).2) = fr (-q) := by unfold fr; rw [Rat.neg_num, Rat.neg_den]
theorem fr_zero : ((0, 1) : Su111.Fr) = fr 0 := fr_int 0
/-- a sum of many -/
theorem fold_plus : ∀ (l : List Su111.Fr) (g : List Rat) (a : Rat), l = g.map fr → l.foldl plus (fr a) = fr (g.foldl (· + ·) a)
  | _, [], a, rfl => rfl
  | _, q :: g, a, rfl => by
    show List.foldl plus (plus (fr a) (fr q)) (g.map fr) = fr (g.foldl (· + ·) (a + q))
    rw [plus_eq]; exact fold_plus _ g _ rfl
theorem foldl_sm (f : Nat → Rat) : ∀ (n : Nat), ((List.range n).map f).foldl (· + ·) 0 = sm n f
  | 0 => rfl
  | n + 1 => by
    rw [List.range_succ, List.map_append, List.foldl_append, foldl_sm f n]; rfl
theorem fold_range (n : Nat) (f : Nat → Su111.Fr) (g : Nat → Rat) (h : ∀ i, i < n → f i = fr (g i)) : ((List.range n).map f).foldl plus (0, 1) = fr (sm n g) := by
  rw [fr_zero, fold_plus _ ((List.range n).map g) 0, foldl_sm]
  rw [List.map_map]
  apply List.map_congr_left
  intro i hi
  exact h i (List.mem_range.mp hi)
/-! ## the triangle -/
def ent (m : Array (Array Int)) (r c : Nat) : Int := (m.getD r #[]).getD c 0
theorem getD_map_range {α : Type} {n r : Nat} {f : Nat → α} {d : α} (h : r < n) : ((Array.range n).map f).getD r d = f r := by
  rw [Array.getD_eq_getD_getElem?, Array.getElem?_map, Array.getElem?_range, if_pos h]; rfl
theorem swapTo_same {m : Array (Array Int)} {k : Nat} (hk : k < m.size) (h : ent m k k ≠ 0) : swapTo m k = m := by
  unfold swapTo
  have e : ((List.range m.size).drop k).find? (fun r => (m.getD r #[]).getD k 0 != 0) = some k := by
    have : (List.range m.size).drop k = k :: (List.range m.size).drop (k + 1) := by
      rw [List.drop_eq_getElem_cons (by simpa using hk)]; simp
    rw [this, List.find?_cons_of_pos]
    simpa [ent] using h
  rw [e]
  simp only [Array.set!_eq_setIfInBounds]
  apply Array.ext
  · simp
  · intro i h1 h2
    by_cases q : k = i
    · subst q; simp [h2]
    · rw [Array.getElem_setIfInBounds_ne (by simpa using h2) q, Array.getElem_setIfInBounds_ne h2 q]
structure Tri (n : Nat) (M : Mi) (k : Nat) (m : Array (Array Int)) : Prop where
  size : m.size = n
  rows : ∀ r, r < n → (m.getD r #[]).size = n + 1
  old : ∀ r, r < k → ∀ c, r + c ≤ n → ent m r (r + c) = (bar M r).2 0 c
  new : ∀ r c, k + r < n → k + c ≤ n → ent m (k + r) (k + c) = (bar M k).2 r c
theorem Tri.step {n : Nat} {M : Mi} {k : Nat} {m : Array (Array Int)} (t : Tri n M k m) (hk : k < n) :
    Tri n M (k + 1) (stepOne m k (bar M k).1) := by
  have sz : ∀ r, r < n → (stepOne m k (bar M k).1).getD r #[] = if r ≤ k then m.getD r #[] else
      (Array.range (m.getD r #[]).size).map fun c => ((m.getD k #[]).getD k 0 * (m.getD r #[]).getD c 0 - (m.getD r #[]).getD k 0 * (m.getD k #[]).getD c 0) / (bar M k).1 := by
    intro r hr
    unfold stepOne
    rw [getD_map_range (by rw [t.size]; exact hr)]
  refine ⟨by simp [stepOne, t.size], fun r hr => ?_, fun r hr c hc => ?_, fun r c hr hc => ?_⟩
  · rw [sz r hr]; split
    · exact t.rows r hr
    · rw [Array.size_map, Array.size_range]; exact t.rows r hr
  · show ((stepOne m k (bar M k).1).getD r #[]).getD (r + c) 0 = _
    rw [sz r (by omega), if_pos (by omega)]
    by_cases q : r < k
    · exact t.old r q c hc
    · have : r = k := by omega
      subst this
      exact t.new 0 c (by omega) hc
  · show ((stepOne m k (bar M k).1).getD (k + 1 + r) #[]).getD (k + 1 + c) 0 = _
    rw [sz _ hr, if_neg (by omega), getD_map_range (by rw [t.rows _ hr]; omega)]
    have e1 := t.new 0 0 (by omega) (by omega)
    have e2 := t.new (r + 1) (c + 1) (by omega) (by omega)
    have e3 := t.new (r + 1) 0 (by omega) (by omega)
    have e4 := t.new 0 (c + 1) (by omega) (by omega)
    rw [show k + (r + 1) = k + 1 + r by omega] at e2 e3
    rw [show k + (c + 1) = k + 1 + c by omega] at e2 e4
    simp only [ent, Nat.add_zero] at e1 e2 e3 e4
    rw [e1, e2, e3, e4]
    rfl
theorem Tri.all {n : Nat} {M : Mi} (hp : Piv n (cast M)) : ∀ (j k : Nat) (m : Array (Array Int)), Tri n M k m → k + j < n →
    Tri n M (k + j) (triangle j k (bar M k).1 m)
  | 0, k, m, t, _ => t
  | j + 1, k, m, t, h => by
    have hkk : ent m k k = (bar M k).2 0 0 := t.new 0 0 (by omega) (by omega)
    have hne : (bar M k).2 0 0 ≠ 0 := by
      have e := (bar_eq M k (hp.mono (by omega))).2 0 0
      intro q
      rw [q] at e
      have h1 := D_ne (hp.mono (show k ≤ n by omega))
      have h2 := hp k (by omega)
      rcases Rat.mul_eq_zero.mp e.symm with x | x
      · exact h1 x
      · exact h2 x
    have sw := swapTo_same (m := m) (k := k) (by rw [t.size]; omega) (by rw [hkk]; exact hne)
    show Tri n M (k + (j + 1)) (triangle j (k + 1) (((swapTo m k).getD k #[]).getD k 0) (stepOne (swapTo m k) k (bar M k).1))
    rw [sw]
    have := Tri.all hp j (k + 1) _ (t.step (by omega)) (by omega)
    rw [show k + 1 + j = k + (j + 1) by omega] at this
    have e : (m.getD k #[]).getD k 0 = (bar M (k + 1)).1 := hkk
    rw [e]; exact this
/-! ## from the last one up -/
theorem Xs_shift : ∀ (k m : Nat) (A : Mx) (i : Nat), Xs (k + m) A (k + i) = Xs m (S k A) i
  | 0, m, A, i => by rw [Nat.zero_add, Nat.zero_add]; rfl
  | k + 1, m, A, i => by
    rw [show k + 1 + m = (k + m) + 1 by omega, show k + 1 + i = (k + i) + 1 by omega]
    exact Xs_shift k m (sch A) i
theorem fold_down {α : Type} (F : List α → Nat → α) (x : Nat → α) (n : Nat)
    (h : ∀ k, k < n → F ((List.range (n - 1 - k)).map fun j => x (k + 1 + j)) k = x k) :
    ∀ k, k ≤ n → (List.range k).reverse.foldl (fun l k => F l k :: l) ((List.range (n - k)).map fun j => x (k + j)) = (List.range n).map x
  | 0, _ => by simp
  | k + 1, hk => by
    rw [List.range_succ, List.reverse_append, List.reverse_singleton, List.singleton_append, List.foldl_cons]
    have e : ((List.range (n - k)).map fun j => x (k + j)) = x k :: ((List.range (n - (k + 1))).map fun j => x (k + 1 + j)) := by
      rw [show n - k = (n - (k + 1)) + 1 by omega, List.range_succ_eq_map, List.map_cons, List.map_map]
      congr 1
      apply List.map_congr_left; intro j _; show x (k + (j + 1)) = _; congr 1; omega
    have hh := h k (by omega)
    rw [show n - 1 - k = n - (k + 1) by omega] at hh
    rw [hh, ← e]
    exact fold_down F x n h k (by omega)
theorem solve_eq {n : Nat} {M : Mi} {m : Array (Array Int)} (hn : 0 < n) (t : Tri n M (n - 1) m) (hp : Piv n (cast M)) :
    solve m = (List.range n).map fun i => fr (Xs n (cast M) i) := by
  unfold solve
  rw [t.size]
  have k := fold_down (fun (l : List Su111.Fr) k =>
    let r := m.getD k #[]
    let s := ((List.range l.length).map fun j => times (l.getD j (0, 1)) (r.getD (k + 1 + j) 0) 1).foldl plus (0, 1)
    let t := plus (r.getD n 0, 1) (-s.1, s.2)
    (let d := r.getD k 0
     if d < 0 then low (-t.1) (t.2 * d.natAbs) else low t.1 (t.2 * d.natAbs))) (fun i => fr (Xs n (cast M) i)) n ?_ n (Nat.le_refl n)
  · rw [Nat.sub_self] at k; exact k
  · intro k hk
    have ent_k : ∀ c, k + c ≤ n → (m.getD k #[]).getD (k + c) 0 = (bar M k).2 0 c := by
      intro c hc
      by_cases q : k < n - 1
      · exact t.old k q c hc
      · have : k = n - 1 := by omega
        subst this
        exact t.new 0 c (by omega) hc
    obtain ⟨_, hb⟩ := bar_eq M k (hp.mono (by omega))
    have hD := D_ne (hp.mono (show k ≤ n by omega))
    have hS := hp k hk
    dsimp only
    rw [List.length_map, List.length_range]
    have es := fold_range (n - 1 - k) (fun j => times (((List.range (n - 1 - k)).map fun j => fr (Xs n (cast M) (k + 1 + j))).getD j (0, 1)) ((m.getD k #[]).getD (k + 1 + j) 0) 1)
      (fun j => Xs n (cast M) (k + 1 + j) * (D k (cast M) * S k (cast M) 0 (j + 1))) (by
        intro j hj
        have e1 : ((List.range (n - 1 - k)).map fun j => fr (Xs n (cast M) (k + 1 + j))).getD j (0, 1) = fr (Xs n (cast M) (k + 1 + j)) := by
          rw [List.getD_eq_getElem?_getD, List.getElem?_map, List.getElem?_range hj]; rfl
        rw [e1, times_eq _ _ (by decide), show k + 1 + j = k + (j + 1) by omega, ent_k (j + 1) (by omega), hb]
        congr 1
        have : ((1 : Nat) : Rat) = 1 := rfl
        rw [this]; grind)
    rw [es]
    have en : (m.getD k #[]).getD n 0 = (bar M k).2 0 (n - k) := by
      have := ent_k (n - k) (by omega); rw [show k + (n - k) = n by omega] at this; exact this
    have ed : (m.getD k #[]).getD k 0 = (bar M k).2 0 0 := ent_k 0 (by omega)
    rw [en, ed, fr_neg, fr_int, plus_eq, hb]
    have ex : Xs n (cast M) k = (S k (cast M) 0 (n - k) - sm (n - 1 - k) (fun j => S k (cast M) 0 (j + 1) * Xs n (cast M) (k + 1 + j))) / S k (cast M) 0 0 := by
      have h1 := Xs_shift k (n - k) (cast M) 0
      rw [show k + (n - k) = n by omega, Nat.add_zero] at h1
      rw [h1]
      obtain ⟨u, hu⟩ : ∃ u, n - k = u + 1 := ⟨n - k - 1, by omega⟩
      rw [hu, show n - 1 - k = u by omega]
      show (S k (cast M) 0 (u + 1) - sm u (fun j => S k (cast M) 0 (j + 1) * Xs u (sch (S k (cast M))) j)) / S k (cast M) 0 0 = _
      congr 2
      apply sm_congr; intro j hj
      have h2 := Xs_shift (k + 1) u (cast M) j
      rw [show k + 1 + u = n by omega] at h2
      rw [h2, S_succ]
    have ez : sm (n - 1 - k) (fun j => Xs n (cast M) (k + 1 + j) * (D k (cast M) * S k (cast M) 0 (j + 1))) = D k (cast M) * sm (n - 1 - k) (fun j => S k (cast M) 0 (j + 1) * Xs n (cast M) (k + 1 + j)) := by
      rw [← sm_mul]; apply sm_congr; intro j _; grind
    rw [ez]
    generalize hq : D k (cast M) * S k (cast M) 0 (n - k) + -(D k (cast M) * sm (n - 1 - k) (fun j => S k (cast M) 0 (j + 1) * Xs n (cast M) (k + 1 + j))) = q
    have ev : Xs n (cast M) k = q / (D k (cast M) * S k (cast M) 0 0) := by rw [ex, ← hq]; grind
    rw [ev, ← hb]
    have hd0 : (bar M k).2 0 0 ≠ 0 := by
      intro e; have := hb 0 0; rw [e] at this
      rcases Rat.mul_eq_zero.mp this.symm with x | x
      · exact hD x
      · exact hS x
    generalize (bar M k).2 0 0 = d at *
    have hdn : d.natAbs ≠ 0 := by omega
    have gen : ∀ (u : Int), mkRat u ((fr q).2 * d.natAbs) = (u : Rat) / (q.den : Rat) / (d.natAbs : Rat) := by
      intro u
      rw [Rat.mkRat_eq_div]
      show (u : Rat) / ((q.den * d.natAbs : Nat) : Rat) = _
      rw [Rat.natCast_mul]
      have h1 : (q.den : Rat) ≠ 0 := by intro e; exact q.den_nz (by exact_mod_cast e)
      have h2 : (d.natAbs : Rat) ≠ 0 := by intro e; exact hdn (by exact_mod_cast e)
      grind
    have eq_q : q = (q.num : Rat) / (q.den : Rat) := by rw [← Rat.mkRat_eq_div, Rat.mkRat_self]
    have hd' : (d : Rat) ≠ 0 := by intro e; exact hd0 (by exact_mod_cast e)
    split
    · rename_i hneg
      rw [low_eq _ (show (fr q).2 * d.natAbs ≠ 0 from Nat.mul_ne_zero q.den_nz hdn), gen]
      have e1 : ((d.natAbs : Nat) : Rat) = - (d : Rat) := by
        have : ((d.natAbs : Nat) : Int) = -d := by omega
        rw [← Rat.intCast_neg, ← this]; rfl
      rw [e1]
      congr 1
      show ((-q.num : Int) : Rat) / (q.den : Rat) / -(d : Rat) = q / d
      rw [Rat.intCast_neg]
      have : (-(q.num : Rat)) / (q.den : Rat) = -q := by
        conv => rhs; rw [eq_q]
        grind
      rw [this]; grind
    · rename_i hpos
      rw [low_eq _ (show (fr q).2 * d.natAbs ≠ 0 from Nat.mul_ne_zero q.den_nz hdn), gen]
      have e1 : ((d.natAbs : Nat) : Rat) = (d : Rat) := by
        have : ((d.natAbs : Nat) : Int) = d := by omega
        conv => rhs; rw [← this]
        rfl
      rw [e1]
      congr 1
      show (q.num : Rat) / (q.den : Rat) / (d : Rat) = q / d
      rw [← eq_q]
end Md
end
section
set_option linter.all false
namespace Md
open Su111 (low plus times swapTo stepOne triangle solve)
/-- n states, so many of N from one to another -/
structure Chain (n N : Nat) (P : Nat → Nat → Nat) : Prop where
  pos : 0 < n
  rows : ∀ i, i < n → sm n (fun j => (P i j : Rat)) = N
  up : ∀ i, i + 1 < n → ∃ j, i < j ∧ j < n ∧ 0 < P i j
  down : ∀ i, 0 < i → i < n → ∃ j, j < i ∧ 0 < P i j
/-- the equations' numbers -/
def eqM (n N : Nat) (P : Nat → Nat → Nat) : Mi := fun j i => if j + 1 = n then 1 else if i = n then 0 else (P i j : Int) - (if i = j then (N : Int) else 0)
def pi (n N : Nat) (P : Nat → Nat → Nat) : Nat → Rat := Xs n (cast (eqM n N P))
theorem sm_ite {n k : Nat} (a : Rat) (h : k < n) : sm n (fun i => if i = k then a else 0) = a := by
  rw [sm_one (k := k) h (by intro i _ h; simp [h])]; simp
theorem natCast_pos {k : Nat} (h : 0 < k) : (0 : Rat) < (k : Rat) := by exact_mod_cast h
theorem natCast_nonneg (k : Nat) : (0 : Rat) ≤ (k : Rat) := by exact_mod_cast Nat.zero_le k
theorem castSub (a b : Int) : ((a - b : Int) : Rat) = (a : Rat) - (b : Rat) := Rat.intCast_sub a b
theorem eqM_off {n N : Nat} {P : Nat → Nat → Nat} {i j : Nat} (hi : i + 1 < n) (hj : j < n) : cast (eqM n N P) i j = (P j i : Rat) - (if j = i then (N : Rat) else 0) := by
  have h1 : ¬ i + 1 = n := by omega
  have h2 : ¬ j = n := by omega
  unfold cast eqM
  rw [if_neg h1, if_neg h2, castSub]
  congr 1
  split <;> rfl
theorem Chain.eqs {n N : Nat} {P : Nat → Nat → Nat} (c : Chain n N P) : Eqs (n - 1) (cast (eqM n N P)) := by
  have hn := c.pos
  have colsum : ∀ j, j < n - 1 → sm (n - 1) (fun i => cast (eqM n N P) i j) = - (P j (n - 1) : Rat) := by
    intro j hj
    have e1 : sm (n - 1) (fun i => cast (eqM n N P) i j) = sm (n - 1) (fun i => (P j i : Rat) + (if i = j then - (N : Rat) else 0)) := by
      apply sm_congr; intro i hi
      rw [eqM_off (by omega) (by omega)]
      by_cases q : i = j
      · simp [q]; grind
      · have : ¬ j = i := fun z => q z.symm
        simp [q, this]; grind
    have e2 := c.rows j (by omega)
    rw [show n = (n - 1) + 1 by omega] at e2
    have e3 : sm (n - 1) (fun j_1 => (P j j_1 : Rat)) + (P j (n - 1) : Rat) = N := e2
    rw [e1, sm_add, sm_ite _ hj]
    grind
  refine ⟨fun i j hi hj hne => ?_, fun j hj => ?_, fun j hj => ?_, fun j hj => ?_⟩
  · rw [eqM_off (by omega) (by omega), if_neg (fun z => hne z.symm)]
    have := natCast_nonneg (P j i); grind
  · rw [colsum j hj]; have := natCast_nonneg (P j (n - 1)); grind
  · obtain ⟨t, h1, h2, h3⟩ := c.up j (by omega)
    by_cases q : t = n - 1
    · subst q; left; rw [colsum j hj]; have := natCast_pos h3; grind
    · right
      refine ⟨t, h1, by omega, ?_⟩
      rw [eqM_off (by omega) (by omega), if_neg (by omega)]
      have := natCast_pos h3; grind
  · unfold cast eqM
    rw [if_pos (by omega)]; decide
theorem Chain.piv {n N : Nat} {P : Nat → Nat → Nat} (c : Chain n N P) : Piv n (cast (eqM n N P)) := by
  have h := c.eqs.Piv
  have hn := c.pos
  rw [show n - 1 + 1 = n by omega] at h; exact h
/-- what the specification reckons -/
theorem Chain.long {n N : Nat} {P : Nat → Nat → Nat} (c : Chain n N P) (m : Array (Array Int)) (hs : m.size = n)
    (hr : ∀ r, r < n → (m.getD r #[]).size = n + 1) (he : ∀ r c, r < n → c ≤ n → ent m r c = eqM n N P r c) :
    solve (triangle (m.size - 1) 0 1 m) = (List.range n).map fun i => fr (pi n N P i) := by
  have hn := c.pos
  have t0 : Tri n (eqM n N P) 0 m := ⟨hs, hr, fun r h => by omega, fun r c hr hc => by
    rw [Nat.zero_add, Nat.zero_add]; exact he r c (by omega) (by omega)⟩
  have t := Tri.all c.piv (n - 1) 0 m t0 (by omega)
  rw [Nat.zero_add] at t
  rw [hs]
  exact solve_eq hn t c.piv
theorem Chain.sum_one {n N : Nat} {P : Nat → Nat → Nat} (c : Chain n N P) : sm n (pi n N P) = 1 := by
  have hn := c.pos
  have h := Xs_sol n _ c.piv (n - 1) (by omega)
  have e : sm n (fun j => cast (eqM n N P) (n - 1) j * Xs n (cast (eqM n N P)) j) = sm n (pi n N P) := by
    apply sm_congr; intro j _
    have : cast (eqM n N P) (n - 1) j = 1 := by unfold cast eqM; rw [if_pos (by omega)]; rfl
    rw [this]; unfold pi; grind
  rw [e] at h; rw [h]
  unfold cast eqM; rw [if_pos (by omega)]; rfl
theorem Chain.unique {n N : Nat} {P : Nat → Nat → Nat} (c : Chain n N P) (y : Nat → Rat) (h1 : sm n y = 1)
    (h2 : ∀ j, j + 1 < n → sm n (fun i => y i * P i j) = N * y j) (i : Nat) (hi : i < n) : y i = pi n N P i := by
  have hn := c.pos
  apply Xs_unique n _ c.piv y _ i hi
  intro r hr
  by_cases q : r + 1 = n
  · have e : sm n (fun j => cast (eqM n N P) r j * y j) = sm n y := by
      apply sm_congr; intro j _
      have : cast (eqM n N P) r j = 1 := by unfold cast eqM; rw [if_pos q]; rfl
      rw [this]; grind
    rw [e, h1]; unfold cast eqM; rw [if_pos q]; rfl
  · have e : sm n (fun j => cast (eqM n N P) r j * y j) = sm n (fun i => y i * P i r + (if i = r then - N * y r else 0)) := by
      apply sm_congr; intro j hj
      rw [eqM_off (by omega) hj]
      by_cases z : j = r
      · subst z; simp; grind
      · simp [z]; grind
    rw [e, sm_add, h2 r (by omega), sm_ite _ hr]
    have : cast (eqM n N P) r n = 0 := by unfold cast eqM; rw [if_neg q, if_pos rfl]; rfl
    rw [this]; grind
theorem Chain.balance {n N : Nat} {P : Nat → Nat → Nat} (c : Chain n N P) (j : Nat) (hj : j + 1 < n) : sm n (fun i => pi n N P i * P i j) = N * pi n N P j := by
  have h := Xs_sol n _ c.piv j (by omega)
  have z0 : cast (eqM n N P) j n = 0 := by unfold cast eqM; rw [if_neg (by omega), if_pos rfl]; rfl
  rw [z0] at h
  have e : sm n (fun i => cast (eqM n N P) j i * Xs n (cast (eqM n N P)) i) = sm n (fun i => pi n N P i * P i j + (if i = j then - N * pi n N P j else 0)) := by
    apply sm_congr; intro i hi
    rw [eqM_off (by omega) hi]
    by_cases z : i = j
    · subst z; simp; unfold pi; grind
    · simp [z]; unfold pi; grind
  rw [e, sm_add, sm_ite _ (by omega)] at h
  grind
/-! ## from behind: the weights of a program that folds the last state into the others -/
theorem sm_rev : ∀ (n : Nat) (f : Nat → Rat), sm n f = sm n (fun i => f (n - 1 - i))
  | 0, _ => rfl
  | n + 1, f => by
    rw [sm_first n f, sm_rev n (fun i => f (i + 1))]
    show _ = sm n (fun i => f (n + 1 - 1 - i)) + f (n + 1 - 1 - n)
    rw [sm_congr (g := fun i => f (n + 1 - 1 - i)) (fun i hi => by congr 1; omega)]
    rw [show n + 1 - 1 - n = 0 by omega]; grind
/-- reversed: how much is left, less what comes -/
def revQ (n N : Nat) (P : Nat → Nat → Nat) : Mi := fun s t => (if s = t then (N : Int) else 0) - (P (n - 1 - s) (n - 1 - t) : Int)
theorem revQ_cast (n N : Nat) (P : Nat → Nat → Nat) (s t : Nat) : cast (revQ n N P) s t = (if s = t then (N : Rat) else 0) - (P (n - 1 - s) (n - 1 - t) : Rat) := by
  unfold cast revQ; rw [castSub]; congr 1; split <;> rfl
theorem Chain.gen {n N : Nat} {P : Nat → Nat → Nat} (c : Chain n N P) : Gen (n - 1) (cast (revQ n N P)) := by
  have hn := c.pos
  refine ⟨fun i j hi hj hne => ?_, fun i hi => ?_, fun i hi => ?_⟩
  · rw [revQ_cast, if_neg hne]; have := natCast_nonneg (P (n - 1 - i) (n - 1 - j)); grind
  · have e := c.rows (n - 1 - i) (by omega)
    rw [sm_rev] at e
    rw [show n - 1 + 1 = n by omega]
    have e2 : sm n (cast (revQ n N P) i) = sm n (fun t => (if t = i then (N : Rat) else 0) + (-1) * (P (n - 1 - i) (n - 1 - t) : Rat)) := by
      apply sm_congr; intro t _; rw [revQ_cast]
      by_cases q : i = t
      · subst q; simp; grind
      · have : ¬ t = i := fun z => q z.symm
        simp [q, this]; grind
    rw [e2, sm_add, sm_mul, e, sm_ite _ (by omega)]
    grind
  · obtain ⟨j, h1, h2⟩ := c.down (n - 1 - i) (by omega) (by omega)
    refine ⟨n - 1 - j, by omega, by omega, ?_⟩
    rw [revQ_cast, if_neg (by omega), show n - 1 - (n - 1 - j) = j by omega]
    have := natCast_pos h2; grind
/-- the weights -/
def wt (n N : Nat) (P : Nat → Nat → Nat) (i : Nat) : Rat := Wt (n - 1) (cast (revQ n N P)) (D (n - 1) (cast (revQ n N P))) (n - 1 - i)
theorem Chain.wt_nonneg {n N : Nat} {P : Nat → Nat → Nat} (c : Chain n N P) (i : Nat) : 0 ≤ wt n N P i :=
  c.gen.Wt_nonneg _ (Rat.le_of_lt c.gen.Dpos) _
theorem Chain.wt_sum_pos {n N : Nat} {P : Nat → Nat → Nat} (c : Chain n N P) : 0 < sm n (wt n N P) := by
  have hn := c.pos
  refine sm_pos (k := 0) hn (fun i _ => c.wt_nonneg i) ?_
  unfold wt
  rw [Nat.sub_zero, Wt_last]; exact c.gen.Dpos
theorem Chain.wt_balance {n N : Nat} {P : Nat → Nat → Nat} (c : Chain n N P) (j : Nat) (hj : j < n) : sm n (fun i => wt n N P i * P i j) = N * wt n N P j := by
  have hn := c.pos
  have h := c.gen.Wt_all (D (n - 1) (cast (revQ n N P))) (n - 1 - j) (by omega)
  rw [show n - 1 + 1 = n by omega] at h
  rw [sm_rev n (fun i => wt n N P i * P i j)]
  have e : sm n (fun t => Wt (n - 1) (cast (revQ n N P)) (D (n - 1) (cast (revQ n N P))) t * cast (revQ n N P) t (n - 1 - j)) =
      sm n (fun i => (-1) * (wt n N P (n - 1 - i) * P (n - 1 - i) j) + (if i = n - 1 - j then N * wt n N P j else 0)) := by
    apply sm_congr; intro t ht
    rw [revQ_cast, show n - 1 - (n - 1 - j) = j by omega]
    unfold wt
    rw [show n - 1 - (n - 1 - t) = t by omega]
    by_cases q : t = n - 1 - j
    · subst q; simp; grind
    · simp [q]; grind
  rw [e, sm_add, sm_mul, sm_ite _ (by omega)] at h
  grind
theorem Chain.wt_pi {n N : Nat} {P : Nat → Nat → Nat} (c : Chain n N P) (i : Nat) (hi : i < n) : wt n N P i = pi n N P i * sm n (wt n N P) := by
  have hp := c.wt_sum_pos
  have h0 : sm n (wt n N P) ≠ 0 := by grind
  have h := c.unique (fun i => (sm n (wt n N P))⁻¹ * wt n N P i) (by rw [sm_mul]; grind) (fun j hj => by
    have b := c.wt_balance j (by omega)
    have e : sm n (fun i => (sm n (wt n N P))⁻¹ * wt n N P i * P i j) = (sm n (wt n N P))⁻¹ * sm n (fun i => wt n N P i * P i j) := by
      rw [← sm_mul]; apply sm_congr; intro i _; grind
    rw [e, b]; grind) i hi
  rw [← h]; grind
end Md
end
section
set_option linter.all false
namespace Md
open Su111 (low plus times swapTo stepOne triangle solve)
open Su113 (Abs St ups change)
structure Ok (a : Abs) : Prop where
  b1 : 1 ≤ a.b1 ∧ a.b1 ≤ 9
  r1 : 1 ≤ a.r1 ∧ a.r1 ≤ 9
  b2 : 1 ≤ a.b2 ∧ a.b2 ≤ 9
  r2 : 1 ≤ a.r2 ∧ a.r2 ≤ 9
  room : 1 ≤ a.room ∧ a.room ≤ 6
def st (i : Nat) : St := (i / 4, i / 2 % 2, i % 2)
def ix (s : St) : Nat := 4 * s.1 + 2 * s.2.1 + s.2.2
def nst (a : Abs) : Nat := 4 * (a.room + 1)
def nx (a : Abs) (i x y : Nat) : Nat := ix (a.next (st i) x y)
def wg (a : Abs) (i x y : Nat) : Nat := a.weight (st i) x y
def hit (a : Abs) (i j x y : Nat) : Nat := if nx a i x y = j then wg a i x y else 0
def Pm (a : Abs) (i j : Nat) : Nat := hit a i j 0 0 + hit a i j 0 1 + hit a i j 1 0 + hit a i j 1 1
theorem st_range : ∀ (k : Nat), ((List.range k).flatMap fun k => ups.map fun u => ((k, u.1, u.2) : St)) = (List.range (4 * k)).map st
  | 0 => rfl
  | k + 1 => by
    rw [List.range_succ, List.flatMap_append, st_range k, show 4 * (k + 1) = 4 * k + 1 + 1 + 1 + 1 by omega, List.range_succ, List.range_succ, List.range_succ, List.range_succ]
    simp only [List.map_append, List.append_assoc]
    congr 1
    have e0 : st (4 * k) = (k, 0, 0) := by unfold st; refine Prod.ext ?_ (Prod.ext ?_ ?_) <;> dsimp only <;> omega
    have e1 : st (4 * k + 1) = (k, 0, 1) := by unfold st; refine Prod.ext ?_ (Prod.ext ?_ ?_) <;> dsimp only <;> omega
    have e2 : st (4 * k + 1 + 1) = (k, 1, 0) := by unfold st; refine Prod.ext ?_ (Prod.ext ?_ ?_) <;> dsimp only <;> omega
    have e3 : st (4 * k + 1 + 1 + 1) = (k, 1, 1) := by unfold st; refine Prod.ext ?_ (Prod.ext ?_ ?_) <;> dsimp only <;> omega
    simp [ups, e0, e1, e2, e3]
theorem states_eq (a : Abs) : a.states = (List.range (nst a)).map st := st_range (a.room + 1)
theorem st_inj {k x y j : Nat} (hx : x < 2) (hy : y < 2) : ((k, x, y) : St) = st j ↔ 4 * k + 2 * x + y = j := by
  unfold st
  constructor
  · intro e; injection e with e1 e2; injection e2 with e2 e3; omega
  · intro e; refine Prod.ext ?_ (Prod.ext ?_ ?_) <;> dsimp only <;> omega
theorem hit_row (a : Abs) (i j x y : Nat) (hx : x < 2) (hy : y < 2) : (if (a.next (st i) x y == st j) = true then a.weight (st i) x y else 0) = hit a i j x y := by
  unfold hit nx wg
  have : (a.next (st i) x y == st j) = true ↔ ix (a.next (st i) x y) = j := by
    rw [beq_iff_eq]; exact st_inj (k := (a.next (st i) x y).1) hx hy
  by_cases q : ix (a.next (st i) x y) = j
  · rw [if_pos q, if_pos (this.mpr q)]
  · rw [if_neg q, if_neg (fun z => q (this.mp z))]
theorem row_eq (a : Abs) (i : Nat) : a.row (st i) = (List.range (nst a)).map fun j => Pm a i j := by
  unfold Abs.row
  rw [states_eq, List.map_map]
  apply List.map_congr_left
  intro j _
  show ((List.filter _ (ups.map _)).map _).sum = Pm a i j
  have h00 := hit_row a i j 0 0 (by omega) (by omega)
  have h01 := hit_row a i j 0 1 (by omega) (by omega)
  have h10 := hit_row a i j 1 0 (by omega) (by omega)
  have h11 := hit_row a i j 1 1 (by omega) (by omega)
  unfold Pm
  rw [← h00, ← h01, ← h10, ← h11]
  simp only [ups, List.map_cons, List.map_nil, List.filter_cons, List.filter_nil]
  cases (a.next (st i) 0 0 == st j) <;> cases (a.next (st i) 0 1 == st j) <;> cases (a.next (st i) 1 0 == st j) <;> cases (a.next (st i) 1 1 == st j) <;> simp <;> omega
theorem change_sum {b r was : Nat} (hb : b ≤ 9) (hr : r ≤ 9) : change b r was 0 + change b r was 1 = 10 := by
  unfold change; split <;> simp <;> omega
theorem change_pos {b r was is : Nat} (hb : 1 ≤ b ∧ b ≤ 9) (hr : 1 ≤ r ∧ r ≤ 9) : 0 < change b r was is := by
  unfold change; split <;> split <;> omega
theorem change_le {b r was is : Nat} (hb : 1 ≤ b ∧ b ≤ 9) (hr : 1 ≤ r ∧ r ≤ 9) : change b r was is ≤ 9 := by
  unfold change; split <;> split <;> omega
theorem wg_pos {a : Abs} (o : Ok a) (i x y : Nat) : 0 < wg a i x y := Nat.mul_pos (change_pos o.b1 o.r1) (change_pos o.b2 o.r2)
theorem wg_sum {a : Abs} (o : Ok a) (i : Nat) : wg a i 0 0 + wg a i 0 1 + wg a i 1 0 + wg a i 1 1 = 100 := by
  unfold wg Abs.weight
  have h1 := change_sum (was := (st i).2.1) o.b1.2 o.r1.2
  have h2 := change_sum (was := (st i).2.2) o.b2.2 o.r2.2
  have : (change a.b1 a.r1 (st i).2.1 0 + change a.b1 a.r1 (st i).2.1 1) * (change a.b2 a.r2 (st i).2.2 0 + change a.b2 a.r2 (st i).2.2 1) = 100 := by rw [h1, h2]
  grind
/-- what lies there behind -/
theorem nx_eq (a : Abs) (i x y : Nat) : nx a i x y = 4 * (i / 4 + (if a.first (st i) x y then 1 else 0) - (if a.second (st i) y then 1 else 0)) + 2 * x + y := rfl
theorem first_iff (a : Abs) (i x y : Nat) : a.first (st i) x y = true ↔ x = 1 ∧ (i / 4 < a.room ∨ (y = 1 ∧ 0 < i / 4)) := by
  unfold Abs.first Abs.second st; simp
theorem second_iff (a : Abs) (i y : Nat) : a.second (st i) y = true ↔ y = 1 ∧ 0 < i / 4 := by
  unfold Abs.second st; simp
theorem nx_lt {a : Abs} {i x y : Nat} (hi : i < nst a) (hx : x < 2) (hy : y < 2) : nx a i x y < nst a := by
  have h1 := first_iff a i x y
  have h2 := second_iff a i y
  rw [nx_eq]; unfold nst at *
  cases q1 : a.first (st i) x y <;> cases q2 : a.second (st i) y <;> simp only [q1, q2, true_iff, Bool.false_eq_true, false_iff, if_true, if_false] at * <;> omega
theorem sm_hit {a : Abs} {i x y : Nat} (hi : i < nst a) (hx : x < 2) (hy : y < 2) (g : Nat → Rat) :
    sm (nst a) (fun j => (hit a i j x y : Rat) * g j) = (wg a i x y : Rat) * g (nx a i x y) := by
  rw [sm_one (k := nx a i x y) (nx_lt hi hx hy)]
  · unfold hit; rw [if_pos rfl]
  · intro j _ hne; unfold hit; rw [if_neg (fun z => hne z.symm)]
    have : ((0 : Nat) : Rat) = 0 := rfl
    rw [this]; grind
theorem sm_Pm {a : Abs} {i : Nat} (hi : i < nst a) (g : Nat → Rat) :
    sm (nst a) (fun j => (Pm a i j : Rat) * g j) = (wg a i 0 0 : Rat) * g (nx a i 0 0) + (wg a i 0 1 : Rat) * g (nx a i 0 1) + (wg a i 1 0 : Rat) * g (nx a i 1 0) + (wg a i 1 1 : Rat) * g (nx a i 1 1) := by
  rw [← sm_hit hi (by omega) (by omega), ← sm_hit hi (by omega) (by omega), ← sm_hit hi (by omega) (by omega), ← sm_hit hi (by omega) (by omega), ← sm_add, ← sm_add, ← sm_add]
  apply sm_congr; intro j _
  unfold Pm
  rw [Rat.natCast_add, Rat.natCast_add, Rat.natCast_add]; grind
theorem Pm_pos {a : Abs} (o : Ok a) {i j : Nat} (x y : Nat) (hx : x < 2) (hy : y < 2) (h : nx a i x y = j) : 0 < Pm a i j := by
  have w := wg_pos o i x y
  have : hit a i j x y = wg a i x y := by unfold hit; rw [if_pos h]
  unfold Pm
  have hx' : x = 0 ∨ x = 1 := by omega
  have hy' : y = 0 ∨ y = 1 := by omega
  rcases hx' with rfl | rfl <;> rcases hy' with rfl | rfl <;> omega
theorem chain {a : Abs} (o : Ok a) : Chain (nst a) 100 (Pm a) := by
  refine ⟨by unfold nst; omega, fun i hi => ?_, fun i hi => ?_, fun i h0 hi => ?_⟩
  · have h := sm_Pm hi (fun _ => 1)
    rw [sm_congr (g := fun j => (Pm a i j : Rat)) (fun j _ => by grind)] at h
    rw [h]
    have e := wg_sum o i
    have e2 : ((wg a i 0 0 + wg a i 0 1 + wg a i 1 0 + wg a i 1 1 : Nat) : Rat) = ((100 : Nat) : Rat) := by rw [e]
    rw [Rat.natCast_add, Rat.natCast_add, Rat.natCast_add] at e2
    rw [← e2]; grind
  · have f := fun x y => first_iff a i x y
    have s := fun y => second_iff a i y
    have hr := o.room
    have rm : i / 4 ≤ a.room := by unfold nst at hi; omega
    have go : ∀ x y, x < 2 → y < 2 → i < nx a i x y → ∃ j, i < j ∧ j < nst a ∧ 0 < Pm a i j := fun x y hx hy h =>
      ⟨nx a i x y, h, nx_lt (by omega) hx hy, Pm_pos o x y hx hy rfl⟩
    by_cases k0 : i / 4 = 0
    · apply go 1 1 (by omega) (by omega)
      have f1 : a.first (st i) 1 1 = true := (f 1 1).mpr (by omega)
      have s1 : ¬ a.second (st i) 1 = true := fun q => by have := (s 1).mp q; omega
      rw [nx_eq, if_pos f1, if_neg s1]; omega
    · by_cases q : i % 4 = 3
      · apply go 1 0 (by omega) (by omega)
        have f1 : a.first (st i) 1 0 = true := (f 1 0).mpr (by unfold nst at hi; omega)
        have s1 : ¬ a.second (st i) 0 = true := fun q => by have := (s 0).mp q; omega
        rw [nx_eq, if_pos f1, if_neg s1]; omega
      · apply go 1 1 (by omega) (by omega)
        have f1 : a.first (st i) 1 1 = true := (f 1 1).mpr (by omega)
        have s1 : a.second (st i) 1 = true := (s 1).mpr (by omega)
        rw [nx_eq, if_pos f1, if_pos s1]; omega
  · have f := fun x y => first_iff a i x y
    have s := fun y => second_iff a i y
    have go : ∀ x y, x < 2 → y < 2 → nx a i x y < i → ∃ j, j < i ∧ 0 < Pm a i j := fun x y hx hy h =>
      ⟨nx a i x y, h, Pm_pos o x y hx hy rfl⟩
    by_cases q : i % 4 = 0
    · apply go 0 1 (by omega) (by omega)
      have f1 : ¬ a.first (st i) 0 1 = true := fun q => by have := (f 0 1).mp q; omega
      have s1 : a.second (st i) 1 = true := (s 1).mpr (by omega)
      rw [nx_eq, if_neg f1, if_pos s1]; omega
    · apply go 0 0 (by omega) (by omega)
      have f1 : ¬ a.first (st i) 0 0 = true := fun q => by have := (f 0 0).mp q; omega
      have s1 : ¬ a.second (st i) 0 = true := fun q => by have := (s 0).mp q; omega
      rw [nx_eq, if_neg f1, if_neg s1]; omega
/-- how often the state is there -/
def ppi (a : Abs) : Nat → Rat := pi (nst a) 100 (Pm a)
theorem long_eq {a : Abs} (o : Ok a) : a.long = (List.range (nst a)).map fun i => fr (ppi a i) := by
  unfold Abs.long
  have sz : a.matrix.size = nst a := by
    unfold Abs.matrix; rw [states_eq]; simp
  have rw0 : ∀ r, r < nst a → a.matrix.getD r #[] = (Array.range (nst a + 1)).map fun i => eqM (nst a) 100 (Pm a) r i := by
    intro r hr
    unfold Abs.matrix
    dsimp only
    rw [states_eq, List.length_map, List.length_range, getD_map_range hr]
    apply Array.map_congr_left
    intro i hi
    have hi' : i < nst a + 1 := by simpa using hi
    unfold eqM
    by_cases q : r + 1 = nst a
    · rw [if_pos q, if_pos q]
    · rw [if_neg q, if_neg q]
      by_cases z : i = nst a
      · rw [if_pos z, if_pos z]
      · rw [if_neg z, if_neg z]
        have e : (((((List.range (nst a)).map st).map fun s => (a.row s).toArray).toArray).getD i #[]).getD r 0 = Pm a i r := by
          have hi2 : i < nst a := by omega
          rw [List.map_map]
          have e1 : (((List.range (nst a)).map ((fun s => (a.row s).toArray) ∘ st)).toArray).getD i #[] = (a.row (st i)).toArray := by
            rw [Array.getD_eq_getD_getElem?, List.getElem?_toArray, List.getElem?_map, List.getElem?_range hi2]; rfl
          rw [e1, row_eq, Array.getD_eq_getD_getElem?, List.getElem?_toArray, List.getElem?_map, List.getElem?_range hr]; rfl
        rw [e]; rfl
  apply (chain o).long _ sz
  · intro r hr; rw [rw0 r hr]; simp
  · intro r c hr hc
    unfold ent
    rw [rw0 r hr, getD_map_range (by omega)]
theorem zip_long {a : Abs} (o : Ok a) : a.states.zip a.long = (List.range (nst a)).map fun i => (st i, fr (ppi a i)) := by
  rw [states_eq, long_eq o, List.zip_map', ]
theorem sumOver_eq {a : Abs} (o : Ok a) (f : St → Nat) : a.sumOver f = fr (sm (nst a) fun i => ppi a i * (f (st i) : Rat)) := by
  unfold Abs.sumOver
  rw [zip_long o, List.map_map]
  apply fold_range
  intro i _
  show times (fr (ppi a i)) (Int.ofNat (f (st i))) 1 = _
  rw [times_eq _ _ (by decide)]
  congr 1
  have : ((1 : Nat) : Rat) = 1 := rfl
  have e : ((Int.ofNat (f (st i)) : Int) : Rat) = (f (st i) : Rat) := rfl
  rw [this, e]; grind
/-- how many of a hundred -/
def cnt (a : Abs) (f : St → Nat → Nat → Bool) (i : Nat) : Nat :=
  (if f (st i) 0 0 then wg a i 0 0 else 0) + (if f (st i) 0 1 then wg a i 0 1 else 0) + (if f (st i) 1 0 then wg a i 1 0 else 0) + (if f (st i) 1 1 then wg a i 1 1 else 0)
theorem often_eq {a : Abs} (o : Ok a) (f : St → Nat → Nat → Bool) : a.often f = fr (sm (nst a) fun i => ppi a i * (cnt a f i : Rat) / 100) := by
  unfold Abs.often
  rw [zip_long o, List.map_map]
  apply fold_range
  intro i _
  show times (fr (ppi a i)) (Int.ofNat ((ups.filter fun u => f (st i) u.1 u.2).map fun u => a.weight (st i) u.1 u.2).sum) 100 = _
  rw [times_eq _ _ (by decide)]
  have e : ((ups.filter fun u => f (st i) u.1 u.2).map fun u => a.weight (st i) u.1 u.2).sum = cnt a f i := by
    unfold cnt wg
    simp only [ups, List.filter_cons, List.filter_nil]
    cases f (st i) 0 0 <;> cases f (st i) 0 1 <;> cases f (st i) 1 0 <;> cases f (st i) 1 1 <;> simp <;> omega
  rw [e]
  rfl
theorem st_ne {i j : Nat} (h : st i = st j) : i = j := by
  have := (st_inj (k := i / 4) (x := i / 2 % 2) (y := i % 2) (j := j) (by omega) (by omega)).mp h
  omega
theorem idx_range (j : Nat) : ∀ n, j < n → ((List.range n).map st).idxOf (st j) = j
  | 0, h => by omega
  | n + 1, h => by
    rw [List.range_succ, List.map_append, List.idxOf_append]
    by_cases q : j < n
    · rw [if_pos (List.mem_map.mpr ⟨j, List.mem_range.mpr q, rfl⟩)]; exact idx_range j n q
    · have e : j = n := by omega
      subst e
      rw [if_neg]
      · simp
      · intro m
        obtain ⟨i, h1, h2⟩ := List.mem_map.mp m
        have := st_ne h2
        have := List.mem_range.mp h1
        omega
theorem idx_eq {a : Abs} {k x y : Nat} (hk : k ≤ a.room) (hx : x < 2) (hy : y < 2) : a.states.idxOf (k, x, y) = 4 * k + 2 * x + y := by
  rw [states_eq, show (k, x, y) = st (4 * k + 2 * x + y) from (st_inj hx hy).mpr rfl]
  exact idx_range _ _ (by unfold nst; omega)
theorem longAt_eq {a : Abs} (o : Ok a) {k x y : Nat} (hk : k ≤ a.room) (hx : x < 2) (hy : y < 2) :
    a.long.getD (a.states.idxOf (k, x, y)) (0, 1) = fr (ppi a (4 * k + 2 * x + y)) := by
  rw [idx_eq hk hx hy, long_eq o, List.getD_eq_getElem?_getD, List.getElem?_map, List.getElem?_range (by unfold nst; omega)]; rfl
end Md
end
section
set_option linter.all false
namespace Md
/-! ## whole numbers: what a program that folds reckons -/
def isum (n : Nat) (f : Nat → Int) : Int := ((List.range n).map f).sum
theorem isum_succ (n : Nat) (f : Nat → Int) : isum (n + 1) f = isum n f + f n := by
  unfold isum; rw [List.range_succ, List.map_append, List.sum_append]; simp
theorem isum_cast (f : Nat → Int) : ∀ n, ((isum n f : Int) : Rat) = sm n (fun i => (f i : Rat))
  | 0 => rfl
  | n + 1 => by rw [isum_succ, Rat.intCast_add, isum_cast f n]; rfl
theorem isum_congr {n : Nat} {f g : Nat → Int} (h : ∀ i, i < n → f i = g i) : isum n f = isum n g := by
  unfold isum; congr 1; apply List.map_congr_left; intro i hi; exact h i (List.mem_range.mp hi)
theorem Wt_shift : ∀ (k m : Nat) (A : Mx) (c : Rat) (i : Nat), Wt (k + m) A c (k + i) = Wt m (S k A) c i
  | 0, m, A, c, i => by rw [Nat.zero_add, Nat.zero_add]; rfl
  | k + 1, m, A, c, i => by
    rw [show k + 1 + m = (k + m) + 1 by omega, show k + 1 + i = (k + i) + 1 by omega]
    exact Wt_shift k m (sch A) c i
theorem toInt_of {q : Rat} (h : IsI q) : ((q.num : Int) : Rat) = q := by
  obtain ⟨z, rfl⟩ := h; rw [Rat.num_intCast]
section
variable {n N : Nat} {P : Nat → Nat → Nat}
/-- the rows with l states folded in -/
def lev (n N : Nat) (P : Nat → Nat → Nat) (l i j : Nat) : Int := - (bar (revQ n N P) l).2 (n - 1 - l - i) (n - 1 - l - j)
def fac1 (n N : Nat) (P : Nat → Nat → Nat) (l : Nat) : Int := (bar (revQ n N P) l).1
def wI (n N : Nat) (P : Nat → Nat → Nat) (i : Nat) : Int := (wt n N P i).num
theorem lev_zero {i j : Nat} (hi : i < n) (hj : j < n) : lev n N P 0 i j = (P i j : Int) - (if i = j then (N : Int) else 0) := by
  show - ((if n - 1 - 0 - i = n - 1 - 0 - j then (N : Int) else 0) - (P (n - 1 - (n - 1 - 0 - i)) (n - 1 - (n - 1 - 0 - j)) : Int)) = _
  rw [show n - 1 - (n - 1 - 0 - i) = i by omega, show n - 1 - (n - 1 - 0 - j) = j by omega]
  by_cases q : i = j
  · rw [if_pos q, if_pos (by omega)]; omega
  · rw [if_neg q, if_neg (by omega)]; omega
theorem fac_zero : fac1 n N P 0 = 1 := rfl
/-- the factor is what the last state is left by -/
theorem fac_succ (l : Nat) (hl : l < n) : fac1 n N P (l + 1) = - lev n N P l (n - 1 - l) (n - 1 - l) := by
  show (bar (revQ n N P) l).2 0 0 = - - (bar (revQ n N P) l).2 _ _
  rw [show n - 1 - l - (n - 1 - l) = 0 by omega]; omega
theorem Chain.fac_pos (c : Chain n N P) (l : Nat) (hl : l < n) : 0 < fac1 n N P l := by
  have g := c.gen
  have hp : Piv l (cast (revQ n N P)) := g.Piv.mono (by omega)
  have e := (bar_eq (revQ n N P) l hp).1
  have hD : 0 < D l (cast (revQ n N P)) := by
    have : ∀ (l : Nat), l ≤ n - 1 → 0 < D l (cast (revQ n N P)) := by
      intro l; induction l with
      | zero => intro _; show (0 : Rat) < 1; decide
      | succ l ih => intro h; rw [D_succ]; exact Rat.mul_pos (ih (by omega)) (g.piv l (by omega))
    exact this l (by omega)
  rw [← e] at hD
  exact_mod_cast hD
/-- one more folded in: no division leaves a rest -/
theorem Chain.fold (c : Chain n N P) (l : Nat) (hl : l + 1 < n) (i j : Nat) (hi : i < n - 1 - l) (hj : j < n - 1 - l) :
    lev n N P l i j * fac1 n N P (l + 1) + lev n N P l i (n - 1 - l) * lev n N P l (n - 1 - l) j = lev n N P (l + 1) i j * fac1 n N P l := by
  have e := bar_exact (revQ n N P) l (c.gen.Piv.mono (by omega)) (n - 1 - (l + 1) - i) (n - 1 - (l + 1) - j)
  unfold lev fac1
  rw [show n - 1 - (l + 1) - i + 1 = n - 1 - l - i by omega, show n - 1 - (l + 1) - j + 1 = n - 1 - l - j by omega] at e
  rw [show n - 1 - l - (n - 1 - l) = 0 by omega]
  show -(bar (revQ n N P) l).2 (n - 1 - l - i) (n - 1 - l - j) * (bar (revQ n N P) l).2 0 0 + -(bar (revQ n N P) l).2 (n - 1 - l - i) 0 * -(bar (revQ n N P) l).2 0 (n - 1 - l - j) = -(bar (revQ n N P) (l + 1)).2 (n - 1 - (l + 1) - i) (n - 1 - (l + 1) - j) * (bar (revQ n N P) l).1
  grind
theorem Chain.fold_div (c : Chain n N P) (l : Nat) (hl : l + 1 < n) (i j : Nat) (hi : i < n - 1 - l) (hj : j < n - 1 - l) :
    (lev n N P l i j * fac1 n N P (l + 1) + lev n N P l i (n - 1 - l) * lev n N P l (n - 1 - l) j) / fac1 n N P l = lev n N P (l + 1) i j := by
  rw [c.fold l hl i j hi hj]
  have := c.fac_pos l (by omega)
  exact Int.mul_ediv_cancel _ (by omega)
theorem Chain.wI_cast (c : Chain n N P) (i : Nat) : ((wI n N P i : Int) : Rat) = wt n N P i := by
  refine toInt_of ?_
  unfold wt
  exact Wt_isI (n - 1) _ c.gen.Piv (fun i j _ _ => ⟨_, rfl⟩) _ (by omega)
theorem Chain.wI_zero (c : Chain n N P) : wI n N P 0 = fac1 n N P (n - 1) := by
  have hn := c.pos
  apply intCast_inj
  rw [c.wI_cast]
  unfold wt fac1
  rw [Nat.sub_zero, Wt_last, (bar_eq (revQ n N P) (n - 1) c.gen.Piv).1]
/-- the weight of the last state, from those ahead of it -/
theorem Chain.come (c : Chain n N P) (l : Nat) (hl : l + 1 < n) :
    isum (n - 1 - l) (fun k => wI n N P k * lev n N P l k (n - 1 - l)) = wI n N P (n - 1 - l) * fac1 n N P (l + 1) := by
  apply intCast_inj
  rw [isum_cast, Rat.intCast_mul, c.wI_cast]
  obtain ⟨_, hb⟩ := bar_eq (revQ n N P) l (c.gen.Piv.mono (by omega))
  have hp := c.gen.piv l (by omega)
  have ef : ((fac1 n N P (l + 1) : Int) : Rat) = D l (cast (revQ n N P)) * S l (cast (revQ n N P)) 0 0 := hb 0 0
  rw [ef]
  obtain ⟨u, hu⟩ : ∃ u, n - 1 - l = u + 1 := ⟨n - 1 - l - 1, by omega⟩
  have ew : wt n N P (n - 1 - l) = Wt (u + 1) (S l (cast (revQ n N P))) (D (n - 1) (cast (revQ n N P))) 0 := by
    unfold wt
    rw [show n - 1 - (n - 1 - l) = l + 0 by omega]
    have := Wt_shift l (u + 1) (cast (revQ n N P)) (D (n - 1) (cast (revQ n N P))) 0
    rw [show l + (u + 1) = n - 1 by omega] at this
    exact this
  have ew2 : ∀ i, i < u + 1 → wt n N P (u - i) = Wt u (sch (S l (cast (revQ n N P)))) (D (n - 1) (cast (revQ n N P))) i := by
    intro i hi
    unfold wt
    rw [show n - 1 - (u - i) = l + 1 + i by omega]
    have := Wt_shift (l + 1) u (cast (revQ n N P)) (D (n - 1) (cast (revQ n N P))) i
    rw [show l + 1 + u = n - 1 by omega, S_succ] at this
    exact this
  rw [ew]
  show _ = - (sm (u + 1) fun i => Wt u (sch (S l (cast (revQ n N P)))) (D (n - 1) (cast (revQ n N P))) i * S l (cast (revQ n N P)) (i + 1) 0) / S l (cast (revQ n N P)) 0 0 * (D l (cast (revQ n N P)) * S l (cast (revQ n N P)) 0 0)
  have e1 : sm (n - 1 - l) (fun i => ((wI n N P i * lev n N P l i (n - 1 - l) : Int) : Rat)) = - D l (cast (revQ n N P)) * sm (u + 1) (fun i => Wt u (sch (S l (cast (revQ n N P)))) (D (n - 1) (cast (revQ n N P))) i * S l (cast (revQ n N P)) (i + 1) 0) := by
    rw [hu, sm_rev, ← sm_mul]
    apply sm_congr; intro i hi
    rw [show u + 1 - 1 - i = u - i by omega, Rat.intCast_mul, c.wI_cast, ew2 i hi]
    have : ((lev n N P l (u - i) (u + 1) : Int) : Rat) = - (D l (cast (revQ n N P)) * S l (cast (revQ n N P)) (i + 1) 0) := by
      unfold lev
      rw [Rat.intCast_neg, hb, show n - 1 - l - (u - i) = i + 1 by omega, show n - 1 - l - (u + 1) = 0 by omega]
    rw [this]; grind
  rw [e1]; grind
theorem Chain.come_div (c : Chain n N P) (l : Nat) (hl : l + 1 < n) :
    isum (n - 1 - l) (fun k => wI n N P k * lev n N P l k (n - 1 - l)) / (- lev n N P l (n - 1 - l) (n - 1 - l)) = wI n N P (n - 1 - l) := by
  rw [← fac_succ l (by omega), c.come l hl]
  have := c.fac_pos (l + 1) (by omega)
  exact Int.mul_ediv_cancel _ (by omega)
theorem Chain.wI_nonneg (c : Chain n N P) (i : Nat) : 0 ≤ wI n N P i := by
  have h := c.wt_nonneg i
  rw [← c.wI_cast] at h
  exact_mod_cast h
theorem Chain.wI_sum_pos (c : Chain n N P) : 0 < isum n (wI n N P) := by
  have h := c.wt_sum_pos
  rw [sm_congr (g := fun i => ((wI n N P i : Int) : Rat)) (fun i _ => (c.wI_cast i).symm), ← isum_cast] at h
  exact_mod_cast h
/-- what the weights tell -/
theorem Chain.tell (c : Chain n N P) (f : Nat → Int) (k : Nat) (hk : 0 < k) :
    mkRat (isum n fun i => wI n N P i * f i) (((k : Int) * isum n (wI n N P)).toNat) = sm n fun i => pi n N P i * (f i : Rat) / k := by
  have hp := c.wI_sum_pos
  have hs := c.wt_sum_pos
  have e0 : ((isum n (wI n N P) : Int) : Rat) = sm n (wt n N P) := by
    rw [isum_cast]; exact sm_congr fun i _ => c.wI_cast i
  rw [Rat.mkRat_eq_div]
  have e1 : ((((k : Int) * isum n (wI n N P)).toNat : Nat) : Rat) = (k : Rat) * sm n (wt n N P) := by
    have h : ((((k : Int) * isum n (wI n N P)).toNat : Nat) : Int) = (k : Int) * isum n (wI n N P) := Int.toNat_of_nonneg (Int.mul_nonneg (by omega) (by omega))
    have h2 : ((((((k : Int) * isum n (wI n N P)).toNat : Nat) : Int)) : Rat) = (((k : Int) * isum n (wI n N P) : Int) : Rat) := by rw [h]
    rw [Rat.intCast_mul, e0] at h2
    exact h2
  rw [e1, isum_cast]
  have e2 : sm n (fun i => ((wI n N P i * f i : Int) : Rat)) = sm n (wt n N P) * sm n (fun i => pi n N P i * (f i : Rat)) := by
    rw [← sm_mul]
    apply sm_congr; intro i hi
    rw [Rat.intCast_mul, c.wI_cast, c.wt_pi i hi]; grind
  have e3 : sm n (fun i => pi n N P i * (f i : Rat) / k) = (1 / (k : Rat)) * sm n (fun i => pi n N P i * (f i : Rat)) := by
    rw [← sm_mul]; apply sm_congr; intro i _; grind
  rw [e2, e3]
  have hk' : (k : Rat) ≠ 0 := by have := natCast_pos hk; grind
  have hs' : sm n (wt n N P) ≠ 0 := by grind
  grind
/-! how great they are -/
theorem Le.int {B : Nat} {z : Int} (h : Le (B : Rat) (z : Rat)) : z.natAbs ≤ B := by
  obtain ⟨h1, h2⟩ := h
  have h1' : ((-(B : Int) : Int) : Rat) ≤ (z : Rat) := by rw [Rat.intCast_neg]; exact h1
  have h2' : (z : Rat) ≤ ((B : Int) : Rat) := h2
  have a1 : -(B : Int) ≤ z := by exact_mod_cast h1'
  have a2 : z ≤ (B : Int) := by exact_mod_cast h2'
  omega
theorem Chain.revQ_le (c : Chain n N P) (i j : Nat) (hi : i < n) (hj : j < n) : Le N ((revQ n N P i j : Int) : Rat) := by
  have h := c.rows (n - 1 - i) (by omega)
  have hle : (P (n - 1 - i) (n - 1 - j) : Rat) ≤ N := by
    rw [← h]
    have e : ∀ m, n - 1 - j < m → (P (n - 1 - i) (n - 1 - j) : Rat) ≤ sm m (fun k => (P (n - 1 - i) k : Rat)) := by
      intro m; induction m with
      | zero => intro q; omega
      | succ m ih =>
        intro q
        show _ ≤ sm m _ + _
        have nn := natCast_nonneg (P (n - 1 - i) m)
        by_cases z : n - 1 - j = m
        · subst z
          have := sm_nonneg (n := n - 1 - j) (f := fun k => (P (n - 1 - i) k : Rat)) (fun i _ => natCast_nonneg _)
          grind
        · have := ih (by omega); grind
    exact e n (by omega)
  have h0 := natCast_nonneg (P (n - 1 - i) (n - 1 - j))
  have e := revQ_cast n N P i j
  unfold cast at e
  rw [e]
  have hN := natCast_nonneg N
  split <;> constructor <;> grind
theorem fac_mono (C : Nat) (hC : 1 ≤ C) : ∀ {a b : Nat}, a ≤ b → fac C a ≤ fac C b := by
  intro a b h
  induction h with
  | refl => exact Nat.le_refl _
  | step _ ih =>
    rename_i m _
    refine Nat.le_trans ih ?_
    show fac C m ≤ (m + 1) * (C * fac C m)
    have h1 : fac C m ≤ C * fac C m := Nat.le_mul_of_pos_left _ hC
    exact Nat.le_trans h1 (Nat.le_mul_of_pos_left _ (by omega))
theorem Chain.lev_le (c : Chain n N P) (hN : 1 ≤ N) (l i j : Nat) (hl : l < n) (hi : i < n - l) (hj : j < n - l) : (lev n N P l i j).natAbs ≤ fac N n := by
  have h := bar_le (revQ n N P) l (c.gen.Piv.mono (by omega)) N n hl (fun i j hi hj => c.revQ_le i j hi hj) (n - 1 - l - i) (n - 1 - l - j) (by omega) (by omega)
  have h2 := Le.int h
  have h3 := fac_mono N hN (show l + 1 ≤ n by omega)
  unfold lev
  omega
theorem Chain.fac_le (c : Chain n N P) (hN : 1 ≤ N) (l : Nat) (hl : l < n) : (fac1 n N P l).natAbs ≤ fac N n := by
  cases l with
  | zero =>
    rw [fac_zero]
    have : fac N 0 ≤ fac N n := fac_mono N hN (by omega)
    exact this
  | succ l =>
    rw [fac_succ l (by omega)]
    have := c.lev_le hN l (n - 1 - l) (n - 1 - l) (by omega) (by omega) (by omega)
    omega
theorem Chain.wI_le (c : Chain n N P) (hN : 1 ≤ N) (i : Nat) : (wI n N P i).natAbs ≤ fac N n := by
  have hn := c.pos
  have h : Le (fac N (n - 1) : Nat) ((wI n N P i : Int) : Rat) := by
    rw [c.wI_cast]
    exact Wt_le (n - 1) _ c.gen.Piv N (fun i j hi hj => c.revQ_le i j (by omega) (by omega)) _ (by omega)
  have h2 := Le.int h
  have h3 := fac_mono N hN (show n - 1 ≤ n by omega)
  omega
end
end Md
end
section
set_option linter.all false
namespace Md
open Su111 (low plus times swapTo stepOne triangle solve)
/-! ## machines that are up by told chances -/
def fA (r1 r2 n : Nat) : Su111.Abs := ⟨[r1, r2], [n], [0]⟩
def fw (r1 r2 x y : Nat) : Nat := (if x = 1 then r1 else 10 - r1) * (if y = 1 then r2 else 10 - r2)
def fS (k y : Nat) : Bool := y == 1 && decide (0 < k)
def fF (n k x y : Nat) : Bool := x == 1 && (decide (k < n) || fS k y)
def fx (n k x y : Nat) : Nat := k + (if fF n k x y then 1 else 0) - (if fS k y then 1 else 0)
def fhit (r1 r2 n k l x y : Nat) : Nat := if fx n k x y = l then fw r1 r2 x y else 0
def fP (r1 r2 n k l : Nat) : Nat := fhit r1 r2 n k l 0 0 + fhit r1 r2 n k l 0 1 + fhit r1 r2 n k l 1 0 + fhit r1 r2 n k l 1 1
theorem f_states (r1 r2 n : Nat) : (fA r1 r2 n).states = (List.range (n + 1)).map fun k => [k] := by
  show (List.range (n + 1)).flatMap (fun k => (Su111.states []).map fun s => k :: s) = _
  simp only [Su111.states, List.map_cons, List.map_nil]
  induction (List.range (n + 1)) with
  | nil => rfl
  | cons a l ih => rw [List.flatMap_cons, ih]; rfl
theorem f_ups : Su111.ups 2 = [[0, 0], [0, 1], [1, 0], [1, 1]] := by decide
theorem f_m (r1 r2 n : Nat) : (fA r1 r2 n).m = 2 := rfl
theorem f_weight (r1 r2 n x y : Nat) : (fA r1 r2 n).weight [x, y] = fw r1 r2 x y := by
  show 1 * (if x = 1 then r1 else 10 - r1) * (if y = 1 then r2 else 10 - r2) = _
  rw [Nat.one_mul]; rfl
theorem f_works (r1 r2 n k x y : Nat) : (fA r1 r2 n).works [k] [x, y] = [fF n k x y, fS k y] := by
  show [x == 1 && ((0 == 0 || decide (0 < k)) && (0 + 1 == 2 || decide (k < n) || (y == 1 && ((1 == 0 || decide (0 < k)) && (1 + 1 == 2 || decide (0 < 0) || false))))), y == 1 && ((1 == 0 || decide (0 < k)) && (1 + 1 == 2 || decide (0 < 0) || false))] = _
  simp [fF, fS]
theorem f_next (r1 r2 n k x y : Nat) : (fA r1 r2 n).next [k] [x, y] = [fx n k x y] := by
  unfold Su111.Abs.next
  rw [f_works]
  rfl
theorem f_hit (r1 r2 n k l x y : Nat) : (if ((fA r1 r2 n).next [k] [x, y] == [l]) = true then (fA r1 r2 n).weight [x, y] else 0) = fhit r1 r2 n k l x y := by
  rw [f_next, f_weight]
  unfold fhit
  by_cases q : fx n k x y = l
  · rw [if_pos q, if_pos (by rw [q]; simp)]
  · rw [if_neg q, if_neg (by simp [q])]
theorem f_row (r1 r2 n k : Nat) : (fA r1 r2 n).row [k] = (List.range (n + 1)).map fun l => fP r1 r2 n k l := by
  unfold Su111.Abs.row
  rw [f_states, f_m, f_ups, List.map_map]
  apply List.map_congr_left
  intro l _
  show ((List.filter _ (List.map _ [[0, 0], [0, 1], [1, 0], [1, 1]])).map _).sum = fP r1 r2 n k l
  have h00 := f_hit r1 r2 n k l 0 0
  have h01 := f_hit r1 r2 n k l 0 1
  have h10 := f_hit r1 r2 n k l 1 0
  have h11 := f_hit r1 r2 n k l 1 1
  unfold fP
  rw [← h00, ← h01, ← h10, ← h11]
  simp only [List.map_cons, List.map_nil, List.filter_cons, List.filter_nil]
  cases ((fA r1 r2 n).next [k] [0, 0] == [l]) <;> cases ((fA r1 r2 n).next [k] [0, 1] == [l]) <;> cases ((fA r1 r2 n).next [k] [1, 0] == [l]) <;> cases ((fA r1 r2 n).next [k] [1, 1] == [l]) <;> simp <;> omega
theorem fF_iff (n k x y : Nat) : fF n k x y = true ↔ x = 1 ∧ (k < n ∨ (y = 1 ∧ 0 < k)) := by unfold fF fS; simp
theorem fS_iff (k y : Nat) : fS k y = true ↔ y = 1 ∧ 0 < k := by unfold fS; simp
theorem fx_le {n k x y : Nat} (h : k ≤ n) : fx n k x y ≤ n := by
  have h1 := fF_iff n k x y
  have h2 := fS_iff k y
  unfold fx
  cases q1 : fF n k x y <;> cases q2 : fS k y <;> simp only [q1, q2, true_iff, Bool.false_eq_true, false_iff, if_true, if_false] at * <;> omega
theorem fw_pos {r1 r2 : Nat} (h1 : 1 ≤ r1 ∧ r1 ≤ 9) (h2 : 1 ≤ r2 ∧ r2 ≤ 9) (x y : Nat) : 0 < fw r1 r2 x y := by
  unfold fw; apply Nat.mul_pos <;> split <;> omega
theorem fw_sum {r1 r2 : Nat} (h1 : 1 ≤ r1 ∧ r1 ≤ 9) (h2 : 1 ≤ r2 ∧ r2 ≤ 9) : fw r1 r2 0 0 + fw r1 r2 0 1 + fw r1 r2 1 0 + fw r1 r2 1 1 = 100 := by
  unfold fw
  simp
  have : (10 - r1 + r1) * (10 - r2 + r2) = 100 := by rw [show 10 - r1 + r1 = 10 by omega, show 10 - r2 + r2 = 10 by omega]
  grind
theorem sm_fhit {r1 r2 n k x y : Nat} (hk : k ≤ n) (g : Nat → Rat) : sm (n + 1) (fun l => (fhit r1 r2 n k l x y : Rat) * g l) = (fw r1 r2 x y : Rat) * g (fx n k x y) := by
  rw [sm_one (k := fx n k x y) (by have := fx_le (n := n) (k := k) (x := x) (y := y) hk; omega)]
  · unfold fhit; rw [if_pos rfl]
  · intro j _ hne; unfold fhit; rw [if_neg (fun z => hne z.symm)]
    have : ((0 : Nat) : Rat) = 0 := rfl
    rw [this]; grind
theorem fP_pos {r1 r2 n k l : Nat} (h1 : 1 ≤ r1 ∧ r1 ≤ 9) (h2 : 1 ≤ r2 ∧ r2 ≤ 9) (x y : Nat) (hx : x < 2) (hy : y < 2) (h : fx n k x y = l) : 0 < fP r1 r2 n k l := by
  have w := fw_pos h1 h2 x y
  have : fhit r1 r2 n k l x y = fw r1 r2 x y := by unfold fhit; rw [if_pos h]
  unfold fP
  have hx' : x = 0 ∨ x = 1 := by omega
  have hy' : y = 0 ∨ y = 1 := by omega
  rcases hx' with rfl | rfl <;> rcases hy' with rfl | rfl <;> omega
theorem f_chain {r1 r2 n : Nat} (h1 : 1 ≤ r1 ∧ r1 ≤ 9) (h2 : 1 ≤ r2 ∧ r2 ≤ 9) : Chain (n + 1) 100 (fP r1 r2 n) := by
  refine ⟨by omega, fun k hk => ?_, fun k hk => ?_, fun k h0 hk => ?_⟩
  · have e : sm (n + 1) (fun l => (fP r1 r2 n k l : Rat)) = sm (n + 1) (fun l => (fhit r1 r2 n k l 0 0 : Rat) * 1) + sm (n + 1) (fun l => (fhit r1 r2 n k l 0 1 : Rat) * 1) + sm (n + 1) (fun l => (fhit r1 r2 n k l 1 0 : Rat) * 1) + sm (n + 1) (fun l => (fhit r1 r2 n k l 1 1 : Rat) * 1) := by
      rw [← sm_add, ← sm_add, ← sm_add]
      apply sm_congr; intro l _
      unfold fP
      rw [Rat.natCast_add, Rat.natCast_add, Rat.natCast_add]; grind
    rw [e, sm_fhit (by omega) (fun _ => 1), sm_fhit (by omega) (fun _ => 1), sm_fhit (by omega) (fun _ => 1), sm_fhit (by omega) (fun _ => 1)]
    have e2 : ((fw r1 r2 0 0 + fw r1 r2 0 1 + fw r1 r2 1 0 + fw r1 r2 1 1 : Nat) : Rat) = ((100 : Nat) : Rat) := by rw [fw_sum h1 h2]
    rw [Rat.natCast_add, Rat.natCast_add, Rat.natCast_add] at e2
    rw [← e2]; grind
  · have f1 : fF n k 1 0 = true := (fF_iff n k 1 0).mpr (by omega)
    have s1 : ¬ fS k 0 = true := fun q => by have := (fS_iff k 0).mp q; omega
    exact ⟨k + 1, by omega, by omega, fP_pos h1 h2 1 0 (by omega) (by omega) (by unfold fx; rw [if_pos f1, if_neg s1]; omega)⟩
  · have f1 : ¬ fF n k 0 1 = true := fun q => by have := (fF_iff n k 0 1).mp q; omega
    have s1 : fS k 1 = true := (fS_iff k 1).mpr (by omega)
    exact ⟨k - 1, by omega, fP_pos h1 h2 0 1 (by omega) (by omega) (by unfold fx; rw [if_neg f1, if_pos s1]; omega)⟩
def fpi (r1 r2 n : Nat) : Nat → Rat := pi (n + 1) 100 (fP r1 r2 n)
theorem f_long {r1 r2 n : Nat} (h1 : 1 ≤ r1 ∧ r1 ≤ 9) (h2 : 1 ≤ r2 ∧ r2 ≤ 9) : (fA r1 r2 n).long = (List.range (n + 1)).map fun i => fr (fpi r1 r2 n i) := by
  unfold Su111.Abs.long
  have sz : (fA r1 r2 n).matrix.size = n + 1 := by
    unfold Su111.Abs.matrix; rw [f_states]; simp
  have rw0 : ∀ r, r < n + 1 → (fA r1 r2 n).matrix.getD r #[] = (Array.range (n + 1 + 1)).map fun i => eqM (n + 1) 100 (fP r1 r2 n) r i := by
    intro r hr
    unfold Su111.Abs.matrix
    dsimp only
    rw [f_states, List.length_map, List.length_range, getD_map_range hr]
    apply Array.map_congr_left
    intro i hi
    have hi' : i < n + 1 + 1 := by simpa using hi
    unfold eqM
    by_cases q : r + 1 = n + 1
    · rw [if_pos q, if_pos q]
    · rw [if_neg q, if_neg q]
      by_cases z : i = n + 1
      · rw [if_pos z, if_pos z]
      · rw [if_neg z, if_neg z]
        have e : (((((List.range (n + 1)).map fun k => [k]).map fun s => ((fA r1 r2 n).row s).toArray).toArray).getD i #[]).getD r 0 = fP r1 r2 n i r := by
          have hi2 : i < n + 1 := by omega
          rw [List.map_map]
          have e1 : (((List.range (n + 1)).map ((fun s => ((fA r1 r2 n).row s).toArray) ∘ fun k => [k])).toArray).getD i #[] = ((fA r1 r2 n).row [i]).toArray := by
            rw [Array.getD_eq_getD_getElem?, List.getElem?_toArray, List.getElem?_map, List.getElem?_range hi2]; rfl
          rw [e1, f_row, Array.getD_eq_getD_getElem?, List.getElem?_toArray, List.getElem?_map, List.getElem?_range hr]; rfl
        rw [e]; rfl
  apply (f_chain h1 h2).long _ sz
  · intro r hr; rw [rw0 r hr]; simp
  · intro r c hr hc
    unfold ent
    rw [rw0 r hr, getD_map_range (by omega)]
/-- of a filling, over a hundred: how often a piece comes out -/
def fcnt (r1 r2 k : Nat) : Nat := (if fS k 0 then fw r1 r2 0 0 else 0) + (if fS k 1 then fw r1 r2 0 1 else 0) + (if fS k 0 then fw r1 r2 1 0 else 0) + (if fS k 1 then fw r1 r2 1 1 else 0)
theorem f_out {r1 r2 n : Nat} (h1 : 1 ≤ r1 ∧ r1 ≤ 9) (h2 : 1 ≤ r2 ∧ r2 ≤ 9) : (fA r1 r2 n).out = fr (sm (n + 1) fun k => fpi r1 r2 n k * (fcnt r1 r2 k : Rat) / 100) := by
  unfold Su111.Abs.out Su111.Abs.rate Su111.Abs.often
  rw [f_states, f_long h1 h2, List.zip_map', List.map_map]
  apply fold_range
  intro k _
  show times (fr (fpi r1 r2 n k)) (Int.ofNat (((Su111.ups 2).filter fun u => ((fA r1 r2 n).works [k] u).getD 1 false).map (fA r1 r2 n).weight).sum) (10 ^ 2) = _
  rw [times_eq _ _ (by decide), f_ups]
  have e : (([[0, 0], [0, 1], [1, 0], [1, 1]].filter fun u => ((fA r1 r2 n).works [k] u).getD 1 false).map (fA r1 r2 n).weight).sum = fcnt r1 r2 k := by
    unfold fcnt
    simp only [List.filter_cons, List.filter_nil, f_works]
    show ((if fS k 0 = true then _ else _ : List (List Nat)).map _).sum = _
    cases fS k 0 <;> cases fS k 1 <;> simp [f_weight] <;> omega
  rw [e]
  rfl
/-! ## where an hour doesn't hang on the one before -/
theorem Chain.balance_all {n N : Nat} {P : Nat → Nat → Nat} (c : Chain n N P) (j : Nat) (hj : j < n) : sm n (fun i => pi n N P i * P i j) = N * pi n N P j := by
  have h := c.wt_balance j hj
  have hp := c.wt_sum_pos
  have h0 : sm n (wt n N P) ≠ 0 := by grind
  have e : sm n (fun i => wt n N P i * P i j) = sm n (wt n N P) * sm n (fun i => pi n N P i * P i j) := by
    rw [← sm_mul]; apply sm_congr; intro i hi; rw [c.wt_pi i hi]; grind
  rw [e, c.wt_pi j hj] at h
  generalize sm n (wt n N P) = s at *
  generalize sm n (fun i => pi n N P i * P i j) = x at *
  grind
/-- four by four -/
theorem sm_four (f : Nat → Rat) : ∀ n, sm (4 * n) f = sm n (fun k => f (4 * k) + f (4 * k + 1) + f (4 * k + 2) + f (4 * k + 3))
  | 0 => rfl
  | n + 1 => by
    rw [show 4 * (n + 1) = 4 * n + 1 + 1 + 1 + 1 by omega]
    show sm (4 * n) f + f (4 * n) + f (4 * n + 1) + f (4 * n + 1 + 1) + f (4 * n + 1 + 1 + 1) = sm n _ + _
    rw [sm_four f n]
    grind
open Su113 (Abs) in
theorem wg_free {a : Abs} (o : Ok a) (h1 : a.b1 + a.r1 = 10) (h2 : a.b2 + a.r2 = 10) (i x y : Nat) (hx : x < 2) (hy : y < 2) : wg a i x y = fw a.r1 a.r2 x y := by
  unfold wg Abs.weight fw Su113.change
  have hx' : x = 0 ∨ x = 1 := by omega
  have hy' : y = 0 ∨ y = 1 := by omega
  have := o.b1; have := o.r1; have := o.b2; have := o.r2
  have e1 : 10 - a.b1 = a.r1 := by omega
  have e2 : 10 - a.b2 = a.r2 := by omega
  have e3 : a.b1 = 10 - a.r1 := by omega
  have e4 : a.b2 = 10 - a.r2 := by omega
  rcases hx' with rfl | rfl <;> rcases hy' with rfl | rfl <;> simp [← e3, ← e4, e1, e2]
open Su113 (Abs) in
theorem second_free (a : Abs) (i y : Nat) : a.second (st i) y = fS (i / 4) y := rfl
open Su113 (Abs) in
theorem first_free (a : Abs) (i x y : Nat) : a.first (st i) x y = fF a.room (i / 4) x y := rfl
open Su113 (Abs) in
theorem nx_free (a : Abs) (i x y : Nat) : nx a i x y = 4 * fx a.room (i / 4) x y + 2 * x + y := rfl
open Su113 (Abs) in
/-- the pieces alone -/
def lump (a : Abs) (k : Nat) : Rat := ppi a (4 * k) + ppi a (4 * k + 1) + ppi a (4 * k + 2) + ppi a (4 * k + 3)
open Su113 (Abs) in
theorem Pm_lump {a : Abs} (o : Ok a) (h1 : a.b1 + a.r1 = 10) (h2 : a.b2 + a.r2 = 10) (i l : Nat) :
    Pm a i (4 * l) + Pm a i (4 * l + 1) + Pm a i (4 * l + 2) + Pm a i (4 * l + 3) = fP a.r1 a.r2 a.room (i / 4) l := by
  have g : ∀ x y, x < 2 → y < 2 → hit a i (4 * l) x y + hit a i (4 * l + 1) x y + hit a i (4 * l + 2) x y + hit a i (4 * l + 3) x y = fhit a.r1 a.r2 a.room (i / 4) l x y := by
    intro x y hx hy
    unfold hit fhit
    rw [wg_free o h1 h2 i x y hx hy, nx_free]
    by_cases q : fx a.room (i / 4) x y = l
    · rw [if_pos q, q]
      have hx' : x = 0 ∨ x = 1 := by omega
      have hy' : y = 0 ∨ y = 1 := by omega
      rcases hx' with rfl | rfl <;> rcases hy' with rfl | rfl <;> simp <;> omega
    · rw [if_neg q, if_neg (by omega), if_neg (by omega), if_neg (by omega), if_neg (by omega)]
  unfold Pm fP
  rw [← g 0 0 (by omega) (by omega), ← g 0 1 (by omega) (by omega), ← g 1 0 (by omega) (by omega), ← g 1 1 (by omega) (by omega)]
  omega
open Su113 (Abs) in
theorem lump_pi {a : Abs} (o : Ok a) (h1 : a.b1 + a.r1 = 10) (h2 : a.b2 + a.r2 = 10) (k : Nat) (hk : k < a.room + 1) : lump a k = fpi a.r1 a.r2 a.room k := by
  have c := chain o
  have fc := f_chain (n := a.room) o.r1 o.r2
  refine fc.unique (lump a) ?_ (fun l hl => ?_) k hk
  · have e := c.sum_one
    rw [show nst a = 4 * (a.room + 1) from rfl, sm_four] at e
    exact e
  · have b0 := c.balance_all (4 * l) (by unfold nst; omega)
    have b1 := c.balance_all (4 * l + 1) (by unfold nst; omega)
    have b2 := c.balance_all (4 * l + 2) (by unfold nst; omega)
    have b3 := c.balance_all (4 * l + 3) (by unfold nst; omega)
    have e : sm (nst a) (fun i => ppi a i * (fP a.r1 a.r2 a.room (i / 4) l : Rat)) = ((100 : Nat) : Rat) * lump a l := by
      have e1 : sm (nst a) (fun i => ppi a i * (fP a.r1 a.r2 a.room (i / 4) l : Rat)) = sm (nst a) (fun i => ppi a i * (Pm a i (4 * l) : Rat)) + sm (nst a) (fun i => ppi a i * (Pm a i (4 * l + 1) : Rat)) + sm (nst a) (fun i => ppi a i * (Pm a i (4 * l + 2) : Rat)) + sm (nst a) (fun i => ppi a i * (Pm a i (4 * l + 3) : Rat)) := by
        rw [← sm_add, ← sm_add, ← sm_add]
        apply sm_congr; intro i _
        rw [← Pm_lump o h1 h2 i l, Rat.natCast_add, Rat.natCast_add, Rat.natCast_add]; grind
      have b0' : sm (nst a) (fun i => ppi a i * (Pm a i (4 * l) : Rat)) = ((100 : Nat) : Rat) * ppi a (4 * l) := b0
      have b1' : sm (nst a) (fun i => ppi a i * (Pm a i (4 * l + 1) : Rat)) = ((100 : Nat) : Rat) * ppi a (4 * l + 1) := b1
      have b2' : sm (nst a) (fun i => ppi a i * (Pm a i (4 * l + 2) : Rat)) = ((100 : Nat) : Rat) * ppi a (4 * l + 2) := b2
      have b3' : sm (nst a) (fun i => ppi a i * (Pm a i (4 * l + 3) : Rat)) = ((100 : Nat) : Rat) * ppi a (4 * l + 3) := b3
      rw [e1, b0', b1', b2', b3']; unfold lump; grind
    rw [show nst a = 4 * (a.room + 1) from rfl, sm_four] at e
    rw [← e]
    apply sm_congr; intro k _
    rw [show 4 * k / 4 = k by omega, show (4 * k + 1) / 4 = k by omega, show (4 * k + 2) / 4 = k by omega, show (4 * k + 3) / 4 = k by omega]
    unfold lump; grind
open Su113 (Abs) in
/-- free is what out tells -/
theorem free_out {a : Abs} (o : Ok a) (h1 : a.b1 + a.r1 = 10) (h2 : a.b2 + a.r2 = 10) : (fA a.r1 a.r2 a.room).out = a.out := by
  rw [f_out o.r1 o.r2]
  unfold Abs.out
  rw [often_eq o]
  congr 1
  rw [show nst a = 4 * (a.room + 1) from rfl, sm_four]
  apply sm_congr; intro k hk
  rw [← lump_pi o h1 h2 k hk]
  have e : ∀ i, cnt a (fun s _ y => a.second s y) i = fcnt a.r1 a.r2 (i / 4) := by
    intro i
    unfold cnt fcnt
    simp only [second_free]
    rw [wg_free o h1 h2 i 0 0 (by omega) (by omega), wg_free o h1 h2 i 0 1 (by omega) (by omega), wg_free o h1 h2 i 1 0 (by omega) (by omega), wg_free o h1 h2 i 1 1 (by omega) (by omega)]
    rfl
  rw [e, e, e, e, show 4 * k / 4 = k by omega, show (4 * k + 1) / 4 = k by omega, show (4 * k + 2) / 4 = k by omega, show (4 * k + 3) / 4 = k by omega]
  unfold lump; grind
end Md
end
section
set_option linter.all false
namespace Md
/-! ## the list of calls -/
def sizes : List Nat := [5, 3, 1, 2, 0, 0, 1, 1, 1, 1, 0, 0, 3, 0, 0, 0, 0, 1, 1, 1, 1, 0, 0, 0]
theorem shape_nat (p : Nat) (h : p < 24) : PySu113.shape (p : Int) = some (sizes.getD p 0, 0) := by
  have : ∀ p : Fin 24, PySu113.shape ((p : Nat) : Int) = some (sizes.getD p 0, 0) := by decide
  exact this ⟨p, h⟩
theorem shape_some {p : Int} {q : Nat × Nat} (h : PySu113.shape p = some q) : 0 ≤ p ∧ p < 24 := by
  by_cases hp : 0 ≤ p ∧ p < 24
  · exact hp
  · exfalso
    unfold PySu113.shape at h
    rw [if_neg (show ¬ p = 0 by omega), if_neg (show ¬ p = 1 by omega), if_neg (show ¬ p = 2 by omega), if_neg (show ¬ p = 3 by omega), if_neg (show ¬ p = 4 by omega), if_neg (show ¬ p = 5 by omega), if_neg (show ¬ p = 6 by omega), if_neg (show ¬ p = 7 by omega), if_neg (show ¬ p = 8 by omega), if_neg (show ¬ p = 9 by omega), if_neg (show ¬ p = 10 by omega), if_neg (show ¬ p = 11 by omega), if_neg (show ¬ p = 12 by omega), if_neg (show ¬ p = 13 by omega), if_neg (show ¬ p = 14 by omega), if_neg (show ¬ p = 15 by omega), if_neg (show ¬ p = 16 by omega), if_neg (show ¬ p = 17 by omega), if_neg (show ¬ p = 18 by omega), if_neg (show ¬ p = 19 by omega), if_neg (show ¬ p = 20 by omega), if_neg (show ¬ p = 21 by omega), if_neg (show ¬ p = 22 by omega), if_neg (show ¬ p = 23 by omega)] at h
    cases h
/-- the next call off -/
theorem calls_step {f : Nat} {p : Int} {r : List Int} {cs : List (List (List Int))} (h : PyFlat.calls PySu113.shape f (p :: r) = some cs) :
    ∃ (k f' : Nat) (cs' : List (List (List Int))), p = (k : Int) ∧ k < 24 ∧ sizes.getD k 0 ≤ r.length ∧ cs = [p :: r.take (sizes.getD k 0)] :: cs' ∧ PyFlat.calls PySu113.shape f' (r.drop (sizes.getD k 0)) = some cs' := by
  cases f with
  | zero => simp [PyFlat.calls] at h
  | succ f =>
    simp only [PyFlat.calls] at h
    cases hc : PyFlat.call PySu113.shape (p :: r) with
    | none => rw [hc] at h; simp at h
    | some q =>
      obtain ⟨c, t⟩ := q
      rw [hc] at h
      simp only at h
      cases hcs : PyFlat.calls PySu113.shape f t with
      | none => rw [hcs] at h; simp at h
      | some cs' =>
        rw [hcs] at h
        simp at h
        simp only [PyFlat.call] at hc
        cases hs : PySu113.shape p with
        | none => rw [hs] at hc; simp at hc
        | some q =>
          have hp := shape_some hs
          obtain ⟨k, rfl⟩ : ∃ k : Nat, p = (k : Int) := ⟨p.toNat, by omega⟩
          have hk : k < 24 := by omega
          rw [shape_nat k hk] at hs
          cases hs
          rw [shape_nat k hk] at hc
          simp only [PyFlat.rows] at hc
          by_cases hl : r.length < sizes.getD k 0
          · rw [if_pos hl] at hc; cases hc
          · rw [if_neg hl] at hc
            simp at hc
            obtain ⟨rfl, rfl⟩ := hc
            exact ⟨k, f, cs', rfl, hk, by omega, h.symm, hcs⟩
theorem whole_one : ∀ (k : Nat), k < 24 → ∀ xs : List Int, xs.length = sizes.getD k 0 → PySu113.whole [(k : Int) :: xs] = [(k : Int) :: xs] := by
  intro k hk xs hx
  match k, hk with
  | 0, _ => match xs, hx with | [a, b, c, d, e], _ => rfl
  | 1, _ => match xs, hx with | [a, b, c], _ => rfl
  | 2, _ => match xs, hx with | [a], _ => rfl
  | 3, _ => match xs, hx with | [a, b], _ => rfl
  | 4, _ => match xs, hx with | [], _ => rfl
  | 5, _ => match xs, hx with | [], _ => rfl
  | 6, _ => match xs, hx with | [a], _ => rfl
  | 7, _ => match xs, hx with | [a], _ => rfl
  | 8, _ => match xs, hx with | [a], _ => rfl
  | 9, _ => match xs, hx with | [a], _ => rfl
  | 10, _ => match xs, hx with | [], _ => rfl
  | 11, _ => match xs, hx with | [], _ => rfl
  | 12, _ => match xs, hx with | [a, b, c], _ => rfl
  | 13, _ => match xs, hx with | [], _ => rfl
  | 14, _ => match xs, hx with | [], _ => rfl
  | 15, _ => match xs, hx with | [], _ => rfl
  | 16, _ => match xs, hx with | [], _ => rfl
  | 17, _ => match xs, hx with | [a], _ => rfl
  | 18, _ => match xs, hx with | [a], _ => rfl
  | 19, _ => match xs, hx with | [a], _ => rfl
  | 20, _ => match xs, hx with | [a], _ => rfl
  | 21, _ => match xs, hx with | [], _ => rfl
  | 22, _ => match xs, hx with | [], _ => rfl
  | 23, _ => match xs, hx with | [], _ => rfl
  | k + 24, h => omega
theorem map_whole : ∀ (cs : List (List (List Int))) {f : Nat} {l : List Int}, PyFlat.calls PySu113.shape f l = some cs → cs.map PySu113.whole = cs := by
  intro cs
  induction cs with
  | nil => intro _ _ _; rfl
  | cons c cs ih =>
    intro f l h
    cases l with
    | nil => cases f <;> simp [PyFlat.calls] at h
    | cons p r =>
      obtain ⟨k, f', cs', rfl, hk, hl, e, h'⟩ := calls_step h
      cases e
      rw [List.map_cons, whole_one k hk _ (by rw [List.length_take]; omega), ih h']
/-- the call of that number -/
def mk (k : Nat) (xs : List Nat) : Su113.Call := match k with
  | 0 => .begin_ (xs.getD 0 0) (xs.getD 1 0) (xs.getD 2 0) (xs.getD 3 0) (xs.getD 4 0)
  | 1 => .set (xs.getD 0 0) (xs.getD 1 0) (xs.getD 2 0)
  | 2 => .room (xs.getD 0 0)
  | 3 => .hour (xs.getD 0 0) (xs.getD 1 0)
  | 4 => .fresh
  | 5 => .out
  | 6 => .rate (xs.getD 0 0)
  | 7 => .up (xs.getD 0 0)
  | 8 => .starved (xs.getD 0 0)
  | 9 => .blocked (xs.getD 0 0)
  | 10 => .mean
  | 11 => .full
  | 12 => .long (xs.getD 0 0) (xs.getD 1 0) (xs.getD 2 0)
  | 13 => .both
  | 14 => .turn
  | 15 => .turned
  | 16 => .more
  | 17 => .sooner (xs.getD 0 0)
  | 18 => .fewer (xs.getD 0 0)
  | 19 => .alone (xs.getD 0 0)
  | 20 => .soon (xs.getD 0 0)
  | 21 => .free
  | 22 => .now
  | _ => .state
theorem callOf_mk : ∀ (k : Nat), k < 24 → ∀ xs : List Int, xs.length = sizes.getD k 0 → Su113Neutral.callOf ((k : Int) :: xs) = some (mk k (xs.map Int.toNat)) := by
  intro k hk xs hx
  match k, hk with
  | 0, _ => match xs, hx with | [a, b, c, d, e], _ => rfl
  | 1, _ => match xs, hx with | [a, b, c], _ => rfl
  | 2, _ => match xs, hx with | [a], _ => rfl
  | 3, _ => match xs, hx with | [a, b], _ => rfl
  | 4, _ => match xs, hx with | [], _ => rfl
  | 5, _ => match xs, hx with | [], _ => rfl
  | 6, _ => match xs, hx with | [a], _ => rfl
  | 7, _ => match xs, hx with | [a], _ => rfl
  | 8, _ => match xs, hx with | [a], _ => rfl
  | 9, _ => match xs, hx with | [a], _ => rfl
  | 10, _ => match xs, hx with | [], _ => rfl
  | 11, _ => match xs, hx with | [], _ => rfl
  | 12, _ => match xs, hx with | [a, b, c], _ => rfl
  | 13, _ => match xs, hx with | [], _ => rfl
  | 14, _ => match xs, hx with | [], _ => rfl
  | 15, _ => match xs, hx with | [], _ => rfl
  | 16, _ => match xs, hx with | [], _ => rfl
  | 17, _ => match xs, hx with | [a], _ => rfl
  | 18, _ => match xs, hx with | [a], _ => rfl
  | 19, _ => match xs, hx with | [a], _ => rfl
  | 20, _ => match xs, hx with | [a], _ => rfl
  | 21, _ => match xs, hx with | [], _ => rfl
  | 22, _ => match xs, hx with | [], _ => rfl
  | 23, _ => match xs, hx with | [], _ => rfl
  | k + 24, h => omega
/-- what is still to be told from a place on -/
def rest (s : Option Su113.Abs) (cs : List (List (List Int))) : List Int := PyFlat.told (PyFlat.played (fun s c => Su113Neutral.step s (c.headD [])) s cs)
theorem answers_rest {l : List Int} {cs : List (List (List Int))} (h : PyFlat.calls PySu113.shape l.length l = some cs) : PySu113.answers l = rest none cs := by
  unfold PySu113.answers PySu113.calls
  rw [h]
  simp only [map_whole cs h]
  rfl
theorem rest_nil (s : Option Su113.Abs) : rest s [] = [] := rfl
theorem rest_cons (s : Option Su113.Abs) (k : Nat) (hk : k < 24) (xs : List Int) (hx : xs.length = sizes.getD k 0) (cs : List (List (List Int))) :
    rest s ([(k : Int) :: xs] :: cs) = ((((Su113.step s (mk k (xs.map Int.toNat))).2.value :: (Su113.step s (mk k (xs.map Int.toNat))).2.out).length : Nat) : Int) :: ((Su113.step s (mk k (xs.map Int.toNat))).2.value :: (Su113.step s (mk k (xs.map Int.toNat))).2.out) ++ rest (Su113.step s (mk k (xs.map Int.toNat))).1 cs := by
  have e : Su113Neutral.step s ((k : Int) :: xs) = ((Su113.step s (mk k (xs.map Int.toNat))).1, (Su113.step s (mk k (xs.map Int.toNat))).2.value :: (Su113.step s (mk k (xs.map Int.toNat))).2.out) := by
    unfold Su113Neutral.step
    rw [callOf_mk k hk xs hx]
  show (PyFlat.told ((Su113Neutral.step s ((k : Int) :: xs)).2 :: PyFlat.played _ (Su113Neutral.step s ((k : Int) :: xs)).1 cs)) = _
  rw [e]
  simp only [PyFlat.told, List.flatMap_cons]
  rfl
theorem asked_calls {l : List Int} (h : PySu113.answers_asked l = true) : ∃ cs, PyFlat.calls PySu113.shape l.length l = some cs ∧ cs.length ≤ 400 := by
  unfold PySu113.answers_asked at h
  cases hc : PyFlat.calls PySu113.shape l.length l with
  | none => rw [hc] at h; cases h
  | some cs =>
    rw [hc] at h
    simp only [Bool.and_eq_true] at h
    refine ⟨cs, rfl, ?_⟩
    have := h.1.1.1.2
    unfold PyFlat.atMost at this
    exact of_decide_eq_true this
end Md
end
section
set_option linter.all false
namespace Md
open Su113
/-! ## so many hours from now on -/
theorem isum_add (n : Nat) (f g : Nat → Int) : isum n (fun i => f i + g i) = isum n f + isum n g := by
  induction n with
  | zero => rfl
  | succ n ih => rw [isum_succ, isum_succ, isum_succ, ih]; omega
theorem isum_mul (n : Nat) (c : Int) (f : Nat → Int) : isum n (fun i => c * f i) = c * isum n f := by
  induction n with
  | zero => simp [isum]
  | succ n ih => rw [isum_succ, isum_succ, ih, Int.mul_add]
theorem isum_mulr (n : Nat) (c : Int) (f : Nat → Int) : isum n (fun i => f i * c) = isum n f * c := by
  induction n with
  | zero => simp [isum]
  | succ n ih => rw [isum_succ, isum_succ, ih, Int.add_mul]
theorem isum_z (n : Nat) : isum n (fun _ => 0) = 0 := by
  induction n with
  | zero => rfl
  | succ n ih => rw [isum_succ, ih]; rfl
theorem isum_swap (n m : Nat) (f : Nat → Nat → Int) : isum n (fun i => isum m (fun j => f i j)) = isum m (fun j => isum n (fun i => f i j)) := by
  induction n with
  | zero => rw [show isum 0 (fun i => isum m fun j => f i j) = 0 from rfl]; exact (isum_z m).symm
  | succ n ih =>
    rw [isum_succ, ih, ← isum_add]
    apply isum_congr; intro j _
    rw [isum_succ]
theorem isum_pick (n k : Nat) (hk : k < n) (g : Nat → Int) : isum n (fun t => (if k = t then g t else 0)) = g k := by
  induction n with
  | zero => omega
  | succ n ih =>
    rw [isum_succ]
    by_cases h : k = n
    · subst h
      have : isum k (fun t => (if k = t then g t else 0)) = 0 := by
        rw [show isum k (fun t => (if k = t then g t else 0)) = isum k (fun _ => 0) from isum_congr fun i hi => if_neg (by omega)]
        exact isum_z k
      rw [this]; simp
    · rw [ih (by omega), if_neg h]; omega
def uX (u : Nat) : Nat := u / 2
def uY (u : Nat) : Nat := u % 2
/-- from state i to state t, by the first j ways -/
def hitS (a : Abs) (i j t : Nat) : Int := isum j fun u => (hit a i t (uX u) (uY u) : Int)
/-- an hour on -/
def onF (a : Abs) (f : Nat → Int) (t : Nat) : Int := isum (nst a) fun i => f i * hitS a i 4 t
def cS (a : Abs) (i : Nat) : Int := isum 4 fun u => (wg a i (uX u) (uY u) : Int) * (if a.second (st i) (uY u) then 1 else 0)
def VV (a : Abs) (n i : Nat) : Int := (a.pieces n (st i) : Nat)
theorem isum4 (f : Nat → Int) : isum 4 f = f 0 + f 1 + f 2 + f 3 := by
  rw [isum_succ, isum_succ, isum_succ, isum_succ]
  show 0 + f 0 + f 1 + f 2 + f 3 = _
  omega
theorem st_nx (a : Abs) (i x y : Nat) (hx : x < 2) (hy : y < 2) : st (nx a i x y) = a.next (st i) x y := by
  unfold nx ix
  show st (4 * (a.next (st i) x y).1 + 2 * x + y) = ((a.next (st i) x y).1, x, y)
  generalize (a.next (st i) x y).1 = k
  unfold st
  refine Prod.ext ?_ (Prod.ext ?_ ?_) <;> show _ = _ <;> simp only <;> omega
theorem VV_succ (a : Abs) (n i : Nat) : VV a (n + 1) i = 100 ^ n * cS a i + isum 4 fun u => (wg a i (uX u) (uY u) : Int) * VV a n (nx a i (uX u) (uY u)) := by
  unfold VV cS
  rw [isum4, isum4]
  simp only [uX, uY, Nat.reduceDiv, Nat.reduceMod]
  rw [st_nx a i 0 0 (by omega) (by omega), st_nx a i 0 1 (by omega) (by omega), st_nx a i 1 0 (by omega) (by omega), st_nx a i 1 1 (by omega) (by omega)]
  have e : a.pieces (n + 1) (st i) = wg a i 0 0 * ((if a.second (st i) 0 then 100 ^ n else 0) + a.pieces n (a.next (st i) 0 0)) + (wg a i 0 1 * ((if a.second (st i) 1 then 100 ^ n else 0) + a.pieces n (a.next (st i) 0 1)) + (wg a i 1 0 * ((if a.second (st i) 0 then 100 ^ n else 0) + a.pieces n (a.next (st i) 1 0)) + (wg a i 1 1 * ((if a.second (st i) 1 then 100 ^ n else 0) + a.pieces n (a.next (st i) 1 1)) + 0))) := rfl
  rw [e]
  simp only [Int.natCast_add, Int.natCast_mul]
  by_cases h0 : a.second (st i) 0 = true <;> by_cases h1 : a.second (st i) 1 = true <;> simp [h0, h1] <;> grind
theorem hitS_sum {a : Abs} {i : Nat} (hi : i < nst a) (g : Nat → Int) : isum (nst a) (fun t => hitS a i 4 t * g t) = isum 4 fun u => (wg a i (uX u) (uY u) : Int) * g (nx a i (uX u) (uY u)) := by
  unfold hitS
  rw [show isum (nst a) (fun t => isum 4 (fun u => (hit a i t (uX u) (uY u) : Int)) * g t) = isum (nst a) (fun t => isum 4 (fun u => (hit a i t (uX u) (uY u) : Int) * g t)) from isum_congr fun t _ => (isum_mulr 4 (g t) _).symm]
  rw [isum_swap]
  apply isum_congr; intro u hu
  have hx : uX u < 2 := by unfold uX; omega
  have hy : uY u < 2 := by unfold uY; omega
  rw [← isum_pick (nst a) (nx a i (uX u) (uY u)) (nx_lt hi hx hy) (fun t => (wg a i (uX u) (uY u) : Int) * g t)]
  apply isum_congr; intro t _
  unfold hit
  split
  · rfl
  · simp
/-- what is still to come, an hour on -/
theorem soon_step (a : Abs) (n : Nat) (f : Nat → Int) : isum (nst a) (fun i => f i * VV a (n + 1) i) = 100 ^ n * isum (nst a) (fun i => f i * cS a i) + isum (nst a) (fun t => onF a f t * VV a n t) := by
  have e1 : isum (nst a) (fun t => onF a f t * VV a n t) = isum (nst a) (fun i => f i * isum 4 fun u => (wg a i (uX u) (uY u) : Int) * VV a n (nx a i (uX u) (uY u))) := by
    unfold onF
    rw [show isum (nst a) (fun t => isum (nst a) (fun i => f i * hitS a i 4 t) * VV a n t) = isum (nst a) (fun t => isum (nst a) (fun i => f i * hitS a i 4 t * VV a n t)) from isum_congr fun t _ => (isum_mulr _ _ _).symm]
    rw [isum_swap]
    apply isum_congr; intro i hi
    rw [← hitS_sum hi, ← isum_mul]
    apply isum_congr; intro t _
    rw [Int.mul_assoc]
  rw [e1, ← isum_mul, ← isum_add]
  apply isum_congr; intro i _
  rw [VV_succ, Int.mul_add, ← Int.mul_assoc, ← Int.mul_assoc, Int.mul_comm (f i)]
theorem VV_zero (a : Abs) (i : Nat) : VV a 0 i = 0 := rfl
/-- the weights so many hours on from state s -/
def fK (a : Abs) (s : Nat) : Nat → Nat → Int
  | 0 => fun t => if s = t then 1 else 0
  | k + 1 => onF a (fK a s k)
/-- what has come out, over a hundred as many times -/
def aK (a : Abs) (s : Nat) : Nat → Int
  | 0 => 0
  | k + 1 => 100 * aK a s k + isum (nst a) fun i => fK a s k i * cS a i
theorem soon_inv (a : Abs) (s : Nat) (hs : s < nst a) (n : Nat) : ∀ k, k ≤ n → aK a s k * 100 ^ (n - k) + isum (nst a) (fun i => fK a s k i * VV a (n - k) i) = VV a n s := by
  intro k
  induction k with
  | zero =>
    intro _
    show 0 * _ + isum (nst a) (fun i => (if s = i then 1 else 0) * VV a n i) = _
    rw [show isum (nst a) (fun i => (if s = i then (1 : Int) else 0) * VV a n i) = isum (nst a) (fun i => if s = i then VV a n i else 0) from isum_congr fun i _ => by split <;> simp]
    rw [isum_pick _ s hs]; simp
  | succ k ih =>
    intro hk
    rw [← ih (by omega)]
    obtain ⟨m, hm⟩ : ∃ m, n - k = m + 1 := ⟨n - k - 1, by omega⟩
    have hm2 : n - (k + 1) = m := by omega
    rw [hm, hm2, soon_step, Int.pow_succ]
    show (100 * aK a s k + isum (nst a) fun i => fK a s k i * cS a i) * 100 ^ m + isum (nst a) (fun i => onF a (fK a s k) i * VV a m i) = _
    grind
theorem soon_eq (a : Abs) (s : Nat) (hs : s < nst a) (n : Nat) : aK a s n = VV a n s := by
  have h := soon_inv a s hs n n (Nat.le_refl _)
  rw [Nat.sub_self] at h
  rw [show isum (nst a) (fun i => fK a s n i * VV a 0 i) = isum (nst a) (fun _ => 0) from isum_congr fun i _ => by rw [VV_zero, Int.mul_zero]] at h
  rw [isum_z] at h
  omega
end Md
end
section
set_option Elab.async false
set_option linter.all false
set_option maxRecDepth 100000
namespace Me
open PySem PySem.Spec PyProof.Rows L2
theorem scal_int (a b : Int) : (scal (V.int a) (V.int b) = true) = True := eq_true rfl
local macro_rules | `(tactic| walk_at "rd") => `(tactic| simp only [scal_int, List.cons.injEq, and_true, true_and, and_assoc, exists_eq_left, exists_eq_right, exists_eq_right', tRet, tIf, tIfS, tSeq, tAnd, tOr, tNot, tAndV, tOrV, tNotV, tTest, tB, tOp, tVar, tC, rI0, rI, rEq, rNe, tCall, tCons, tNil, tAsg, tChain, gName, tDrop, tNext, tRetN, tUn, rU, tBM, rAppend, tAug, tAugS, ipI, rSetL, tCB, tYes, sFld, L2.start, List.map_cons, List.map_nil, List.cons_append, List.nil_append, List.append_nil, List.getElem?_cons_zero, List.getElem?_cons_succ, List.set_cons_zero, List.set_cons_succ, List.length_cons, List.length_nil, List.replicate, Nat.reduceSub, Nat.reduceAdd, Option.some.injEq, exists_eq_left', exists_eq_left, V.int.injEq, V.bl.injEq, exists_and_left, Bool.false_eq_true, if_false, if_true, ite_true, ite_false, decide_eq_true_eq, Bool.not_eq_true', decide_eq_false_iff_not])
def top (i : Nat) : Stmt := PySem.Challenge.pw_mendedline_s01_answers.main.body.getD i (.Pass ⟨0, 0, 0, 0⟩)
abbrev sSec : Stmt := top 2
abbrev sFir : Stmt := top 3
abbrev sPie : Stmt := top 4
abbrev sTen : Stmt := top 5
abbrev sHun : Stmt := top 6
abbrev sStn : Stmt := top 7
abbrev sStb : Stmt := top 8
/-! mirrors -/
def secW (k y : Int) : Int := if y = 1 then (if 0 < k then 1 else 0) else 0
def firW (k x y n : Int) : Int := if x = 1 then (if k < n then 1 else if secW k y = 1 then 1 else 0) else 0
def tenW (was now b r : Int) : Int := if was = 1 then (if now = 1 then 10 - b else 10 - (10 - b)) else if now = 1 then r else 10 - r
theorem secW_01 (k y : Int) : secW k y = 0 ∨ secW k y = 1 := by unfold secW; split <;> (try split) <;> simp
theorem firW_01 (k x y n : Int) : firW k x y n = 0 ∨ firW k x y n = 1 := by unfold firW; split <;> (try split) <;> (try split) <;> simp
/-! promises -/
def spSec : Sp := fun vs H Q _ => ∃ k y : Int, vs = [.int k, .int y] ∧ Q (.int (secW k y)) H
def spFir : Sp := fun vs H Q _ => ∃ k x y n : Int, vs = [.int k, .int x, .int y, .int n] ∧ Q (.int (firW k x y n)) H
def spPie : Sp := fun vs H Q _ => ∃ k x y n : Int, vs = [.int k, .int x, .int y, .int n] ∧ Q (.int (k + firW k x y n - secW k y)) H
def spTen : Sp := fun vs H Q _ => ∃ w n b r : Int, vs = [.int w, .int n, .int b, .int r] ∧ Q (.int (tenW w n b r)) H
section
variable {P : Program} {w : World} {K : PySem.W.Frag} {mg : Str → Option Value} {base : Heap}
theorem scSec : FnScope ["pieces", "second"] ["pieces", "second"] (defScope sSec) := ⟨rfl, rfl, rfl, by decide +kernel, rfl, by decide +kernel, by decide +kernel⟩
theorem ok_sec {f : Addr} {fd : FuncData} (F : Fun K "second_works" "second_works" sSec f fd) : FnOk P w K mg base CX0 1 f fd ["pieces", "second"] spSec := by
  refine F.ok scSec (fun vs H Q E h => ?_) (fun cdv A outer s H vs Q E hr h => ?_)
  · obtain ⟨k, y, rfl, _⟩ := h; rfl
  · obtain ⟨k, y, rfl, q⟩ := h
    refine ⟨_, pss_one (ps_ret (pe_ifExp (PW.pt (pw_and (pt_cmpR op_eq (pv 1) pe_int (nomark _)) (pw_and1 (pt_cmpR op_gt (pv 0) pe_int (nomark _))))) pe_int pe_int)), ?_⟩
    walk_at "rd"
    grind [secW]
theorem scFir : FnScope ["pieces", "first", "second", "holds", "place"] ["pieces", "first", "second", "holds"] (defScope sFir) := ⟨rfl, rfl, rfl, by decide +kernel, rfl, by decide +kernel, by decide +kernel⟩
theorem ok_fir {f fS : Addr} {fd fdS : FuncData} (F : Fun K "first_works" "first_works" sFir f fd) (FS : Fun K "second_works" "second_works" sSec fS fdS) (bS : Binds K fdS ["pieces", "second"] []) (gS : mg "second_works" = some (.ref fS)) :
    FnOk P w K mg base CX0 2 f fd ["pieces", "first", "second", "holds"] spFir := by
  have GS : FnOk P w K mg base CX0 1 fS fdS ["pieces", "second"] spSec := ok_sec FS
  refine F.ok scFir (fun vs H Q E h => ?_) (fun cdv A outer s H vs Q E hr h => ?_)
  · obtain ⟨k, x, y, n, rfl, _⟩ := h; rfl
  · obtain ⟨k, x, y, n, rfl, q⟩ := h
    refine ⟨_, pss_cons (ps_set (i := 4) scFir.nd rfl (Or.inl rfl) (pe_or (pe_cmpR op_lt (pv 0) (pv 3) (nomark _)) (pe_one (pe_cmpR op_eq (pe_call GS hr rfl gS FS.kp bS .nil pass0 (pa_cons (pv 0) (pa_cons (pv 2) pa_nil))) pe_int (nomark _)))))
      (pss_one (ps_ret (pe_ifExp (PW.pt (pw_and (pt_cmpR op_eq (pv 1) pe_int (nomark _)) (pw_and1 (pt_val (pv 4))))) pe_int pe_int))), ?_⟩
    walk_at "rd"
    simp only [spSec]
    walk_at "rd"
    by_cases h1 : k < n
    · simp only [h1, if_true]
      grind [firW]
    · simp only [h1, if_false]
      grind [firW]
theorem scPie : FnScope ["pieces", "first", "second", "holds"] ["pieces", "first", "second", "holds"] (defScope sPie) := ⟨rfl, rfl, rfl, by decide +kernel, rfl, by decide +kernel, by decide +kernel⟩
theorem ok_pie {f fS fF : Addr} {fd fdS fdF : FuncData} (F : Fun K "pieces_behind" "pieces_behind" sPie f fd) (FS : Fun K "second_works" "second_works" sSec fS fdS) (bS : Binds K fdS ["pieces", "second"] []) (gS : mg "second_works" = some (.ref fS))
    (FF : Fun K "first_works" "first_works" sFir fF fdF) (bF : Binds K fdF ["pieces", "first", "second", "holds"] []) (gF : mg "first_works" = some (.ref fF)) :
    FnOk P w K mg base CX0 3 f fd ["pieces", "first", "second", "holds"] spPie := by
  have GS : FnOk P w K mg base CX0 1 fS fdS ["pieces", "second"] spSec := ok_sec FS
  have GF : FnOk P w K mg base CX0 2 fF fdF ["pieces", "first", "second", "holds"] spFir := ok_fir FF FS bS gS
  refine F.ok scPie (fun vs H Q E h => ?_) (fun cdv A outer s H vs Q E hr h => ?_)
  · obtain ⟨k, x, y, n, rfl, _⟩ := h; rfl
  · obtain ⟨k, x, y, n, rfl, q⟩ := h
    refine ⟨_, pss_one (ps_ret (pe_op op_sub (pe_op op_add (pv 0) (pe_call GF hr rfl gF FF.kp bF .nil pass0 (pa_cons (pv 0) (pa_cons (pv 1) (pa_cons (pv 2) (pa_cons (pv 3) pa_nil))))))
      (pe_call GS (hr.mono (by decide)) rfl gS FS.kp bS .nil pass0 (pa_cons (pv 0) (pa_cons (pv 2) pa_nil))))), ?_⟩
    walk_at "rd"
    exact ⟨_, _, _, _, rfl, _, rfl, _, _, rfl, _, rfl, q⟩
theorem scTen : FnScope ["was", "now", "breaks", "mended", "rising"] ["was", "now", "breaks", "mended"] (defScope sTen) := ⟨rfl, rfl, rfl, by decide +kernel, rfl, by decide +kernel, by decide +kernel⟩
theorem ok_ten {f : Addr} {fd : FuncData} (F : Fun K "tenths" "tenths" sTen f fd) : FnOk P w K mg base CX0 1 f fd ["was", "now", "breaks", "mended"] spTen := by
  refine F.ok scTen (fun vs H Q E h => ?_) (fun cdv A outer s H vs Q E hr h => ?_)
  · obtain ⟨k, x, y, n, rfl, _⟩ := h; rfl
  · obtain ⟨wa, no, b, r, rfl, q⟩ := h
    refine ⟨_, pss_cons (ps_set (i := 4) scTen.nd rfl (Or.inl rfl) (pe_ifExp (pt_cmpR op_eq (pv 0) pe_int (nomark _)) (pe_op op_sub pe_int (pv 2)) (pv 3)))
      (pss_one (ps_ret (pe_ifExp (pt_cmpR op_eq (pv 1) pe_int (nomark _)) (pv 4) (pe_op op_sub pe_int (pv 4))))), ?_⟩
    walk_at "rd"
    grind [tenW]
theorem ixL {K : PySem.W.Frag} {H : Hp} {p : Addr} {xs : List V} {i : Int} {v : V} {Q : VK} (h : SqL K H p xs) (e : atI xs i = some v) (q : Q v H) : rIxL K (.ref p) (.int i) H Q := ⟨p, xs, i, v, rfl, rfl, h, e, q⟩
theorem ixT {K : PySem.W.Frag} {H : Hp} {p : Addr} {xs : List V} {i : Int} {v : V} {Q : VK} (h : SqT K H p xs) (e : atI xs i = some v) (q : Q v H) : rIxT K (.ref p) (.int i) H Q := ⟨p, xs, i, v, rfl, rfl, h, e, q⟩
def spHun (K : PySem.W.Frag) : Sp := fun vs H Q _ => ∃ (st x y b1 r1 b2 r2 : Int) (u c : Addr), vs = [.int st, .ref u, .ref c] ∧ SqT K H u [.int x, .int y] ∧ SqL K H c [.int b1, .int r1, .int b2, .int r2] ∧
  (-100 ≤ b1 ∧ b1 ≤ 100 ∧ -100 ≤ r1 ∧ r1 ≤ 100) ∧ Q (.int (tenW (st / 2 % 2) x b1 r1 * tenW (st % 2) y b2 r2)) H
theorem tenW_small {a x b r : Int} (h : -100 ≤ b ∧ b ≤ 100 ∧ -100 ≤ r ∧ r ≤ 100) : -200 ≤ tenW a x b r ∧ tenW a x b r ≤ 200 := by
  unfold tenW; split <;> split <;> omega
theorem scHun : FnScope ["state", "ups", "chances", "first", "second"] ["state", "ups", "chances"] (defScope sHun) := ⟨rfl, rfl, rfl, by decide +kernel, rfl, by decide +kernel, by decide +kernel⟩
theorem ok_hun {f fT : Addr} {fd fdT : FuncData} (F : Fun K "hundredths" "hundredths" sHun f fd) (FT : Fun K "tenths" "tenths" sTen fT fdT) (bT : Binds K fdT ["was", "now", "breaks", "mended"] []) (gT : mg "tenths" = some (.ref fT)) :
    FnOk P w K mg base CX0 2 f fd ["state", "ups", "chances"] (spHun K) := by
  have GT : FnOk P w K mg base CX0 1 fT fdT ["was", "now", "breaks", "mended"] spTen := ok_ten FT
  refine F.ok scHun (fun vs H Q E h => ?_) (fun cdv A outer s H vs Q E hr h => ?_)
  · obtain ⟨st, x, y, b1, r1, b2, r2, u, c, rfl, _⟩ := h; rfl
  · obtain ⟨st, x, y, b1, r1, b2, r2, u, c, rfl, hu, hc, hs, q⟩ := h
    refine ⟨_, pss_cons (ps_set (i := 3) scHun.nd rfl (Or.inl rfl) (pe_call GT hr rfl gT FT.kp bT .nil pass0 (pa_cons (pe_op op_mod (pe_op op_fdiv (pv 0) pe_int) pe_int) (pa_cons (pe_ix ix_tup (pv 1) pe_int (fun _ _ => rfl)) (pa_cons (pe_ix ix_list (pv 2) pe_int (fun _ _ => rfl)) (pa_cons (pe_ix ix_list (pv 2) pe_int (fun _ _ => rfl)) pa_nil))))))
      (pss_cons (ps_set (i := 4) scHun.nd rfl (Or.inl rfl) (pe_call GT hr rfl gT FT.kp bT .nil pass0 (pa_cons (pe_op op_mod (pv 0) pe_int) (pa_cons (pe_ix ix_tup (pv 1) pe_int (fun _ _ => rfl)) (pa_cons (pe_ix ix_list (pv 2) pe_int (fun _ _ => rfl)) (pa_cons (pe_ix ix_list (pv 2) pe_int (fun _ _ => rfl)) pa_nil))))))
      (pss_one (ps_ret (pe_op op_mul (pv 3) (pv 4))))), ?_⟩
    walk_at "rd"
    refine ⟨⟨by decide, by decide⟩, by decide, ixT hu rfl (ixL hc rfl (ixL hc rfl ⟨_, _, _, _, rfl, by decide, ixT hu rfl (ixL hc rfl (ixL hc rfl ⟨_, _, _, _, rfl, _, rfl, _, rfl, .inl ?_, q⟩))⟩))⟩
    have := tenW_small (a := st / 2 % 2) (x := x) hs
    omega
/-! ### state_number, state_behind -/
def spStn : Sp := fun vs H Q _ => ∃ k x y : Int, vs = [.int k, .int x, .int y] ∧ Q (.int (4 * k + 2 * x + y)) H
theorem scStn : FnScope ["pieces", "first", "second"] ["pieces", "first", "second"] (defScope sStn) := ⟨rfl, rfl, rfl, by decide +kernel, rfl, by decide +kernel, by decide +kernel⟩
theorem ok_stn {f : Addr} {fd : FuncData} (F : Fun K "state_number" "state_number" sStn f fd) : FnOk P w K mg base CX0 1 f fd ["pieces", "first", "second"] spStn := by
  refine F.ok scStn (fun vs H Q E h => ?_) (fun cdv A outer s H vs Q E hr h => ?_)
  · obtain ⟨k, x, y, rfl, _⟩ := h; rfl
  · obtain ⟨k, x, y, rfl, q⟩ := h
    refine ⟨_, pss_one (ps_ret (pe_op op_add (pe_op op_add (pe_op op_mul pe_int (pv 0)) (pe_op op_mul pe_int (pv 1))) (pv 2))), ?_⟩
    walk_at "rd"
    exact ⟨.inl (by constructor <;> decide), .inl (by constructor <;> decide), q⟩
def spStb (K : PySem.W.Frag) : Sp := fun vs H Q _ => ∃ (st x y n : Int) (u : Addr), vs = [.int st, .ref u, .int n] ∧ SqT K H u [.int x, .int y] ∧ Q (.int (4 * (st / 4 + firW (st / 4) x y n - secW (st / 4) y) + 2 * x + y)) H
theorem scStb : FnScope ["state", "ups", "holds"] ["state", "ups", "holds"] (defScope sStb) := ⟨rfl, rfl, rfl, by decide +kernel, rfl, by decide +kernel, by decide +kernel⟩
theorem ok_stb {f fN fP : Addr} {fd fdN fdP : FuncData} (F : Fun K "state_behind" "state_behind" sStb f fd)
    (GN : FnOk P w K mg base CX0 1 fN fdN ["pieces", "first", "second"] spStn) (kN : PySem.W.keepIn K (.ref fN) = true) (bN : Binds K fdN ["pieces", "first", "second"] []) (gN : mg "state_number" = some (.ref fN))
    (GP : FnOk P w K mg base CX0 3 fP fdP ["pieces", "first", "second", "holds"] spPie) (kP : PySem.W.keepIn K (.ref fP) = true) (bP : Binds K fdP ["pieces", "first", "second", "holds"] []) (gP : mg "pieces_behind" = some (.ref fP)) :
    FnOk P w K mg base CX0 4 f fd ["state", "ups", "holds"] (spStb K) := by
  refine F.ok scStb (fun vs H Q E h => ?_) (fun cdv A outer s H vs Q E hr h => ?_)
  · obtain ⟨st, x, y, n, u, rfl, _⟩ := h; rfl
  · obtain ⟨st, x, y, n, u, rfl, hu, q⟩ := h
    refine ⟨_, pss_one (ps_ret (pe_call GN (hr.mono (by decide)) rfl gN kN bN .nil pass0 (pa_cons (pe_call GP hr rfl gP kP bP .nil pass0 (pa_cons (pe_op op_fdiv (pv 0) pe_int) (pa_cons (pe_ix ix_tup (pv 1) pe_int (fun _ _ => rfl)) (pa_cons (pe_ix ix_tup (pv 1) pe_int (fun _ _ => rfl)) (pa_cons (pv 2) pa_nil))))) (pa_cons (pe_ix ix_tup (pv 1) pe_int (fun _ _ => rfl)) (pa_cons (pe_ix ix_tup (pv 1) pe_int (fun _ _ => rfl)) pa_nil))))), ?_⟩
    walk_at "rd"
    exact ⟨⟨by decide, by decide⟩, ixT hu rfl (ixT hu rfl ⟨_, _, _, _, rfl, ixT hu rfl (ixT hu rfl ⟨_, _, _, rfl, q⟩)⟩)⟩
end
theorem get_listP {X : Cx} : PGet X (rIxL X.K) := by
  intro pins s σ H o i ov iv Q I ro ri h
  obtain ⟨p, xs, k, z, rfl, rfl, hq, he, q⟩ := h
  cases ro
  obtain ⟨t, rfl⟩ := ri
  obtain ⟨its, r, pl, hz⟩ := I.list hq
  obtain ⟨j, h1, h2, h3, h4, h5⟩ := atI_get he
  obtain ⟨w, ew, rw'⟩ := r.get h2
  have hl := r.length
  have hn := line63
  have fin : EP X pins σ Q w s := ⟨z, H, I, rw', q⟩
  by_cases h0 : 0 ≤ k
  · have hj : k.toNat = j := by
      rw [seqIndex_of h0 h5] at h1
      exact Option.some.inj h1
    exact wpAny_getItem_list pl.isList h0 (by omega) (by rw [hj]; simpa using ew) fin
  · have hj : (k + (its.toArray.size : Int)).toNat = j := by
      rw [seqIndex_neg (by omega) h4] at h1
      rw [List.size_toArray, ← hl]
      exact Option.some.inj h1
    exact wpAny_getItem_list_neg pl.isList (by omega) (by rw [List.size_toArray] <;> omega) (by omega) (by rw [hj]; simpa using ew) fin
/-! ### lists of lists -/
structure MatAt (H : Hp) (p : Addr) (as : List Addr) (M : List (List Int)) : Prop where
  lst : H p = some (.lst (as.map V.ref))
  len : as.length = M.length
  row : ∀ (i : Nat) (a : Addr) (r : List Int), as[i]? = some a → M[i]? = some r → H a = some (.lst (r.map V.int))
theorem MatAt.same {H H' : Hp} {p : Addr} {as : List Addr} {M : List (List Int)} (m : MatAt H p as M) (e : Same H H') : MatAt H' p as M :=
  ⟨e _ _ m.lst, m.len, fun i a r h1 h2 => e _ _ (m.row i a r h1 h2)⟩
/-- one more row -/
theorem MatAt.snoc {H H' : Hp} {p a : Addr} {as : List Addr} {M : List (List Int)} {r : List Int} (m : MatAt H p as M) (ha : H a = some (.lst (r.map V.int))) (hpa : ∀ (i : Nat) (b : Addr), as[i]? = some b → b ≠ p) (hap : a ≠ p)
    (hp : H' p = some (.lst ((as ++ [a]).map V.ref))) (e : ∀ b o, H b = some o → b ≠ p → H' b = some o) : MatAt H' p (as ++ [a]) (M ++ [r]) := by
  refine ⟨hp, by simp [m.len], fun i b r' h1 h2 => ?_⟩
  by_cases hi : i < as.length
  · rw [List.getElem?_append_left hi] at h1
    rw [List.getElem?_append_left (by rw [← m.len]; exact hi)] at h2
    exact e _ _ (m.row i b r' h1 h2) (hpa i b h1)
  · have h1l := (List.getElem?_eq_some_iff.mp h1).1
    simp at h1l
    have : i = as.length := by omega
    subst this
    rw [List.getElem?_append_right (Nat.le_refl _)] at h1
    rw [List.getElem?_append_right (by rw [m.len]; exact Nat.le_refl _)] at h2
    simp at h1
    simp [m.len] at h2
    subst h1 h2
    exact e _ _ ha hap
/-! ### the text's tuple UPS -/
structure Ups (K : PySem.W.Frag) (mg : Str → Option Value) (U u0 u1 u2 u3 : Addr) : Prop where
  mg : mg "UPS" = some (.ref U)
  all : ∀ H, SqT K H U [.ref u0, .ref u1, .ref u2, .ref u3]
  a0 : ∀ H, SqT K H u0 [.int 0, .int 0]
  a1 : ∀ H, SqT K H u1 [.int 0, .int 1]
  a2 : ∀ H, SqT K H u2 [.int 1, .int 0]
  a3 : ∀ H, SqT K H u3 [.int 1, .int 1]
def upX (i : Nat) : Nat := i / 2
def upY (i : Nat) : Nat := i % 2
def upA (u0 u1 u2 u3 : Addr) (i : Nat) : Addr := match i with | 0 => u0 | 1 => u1 | 2 => u2 | _ => u3
theorem Ups.at {K : PySem.W.Frag} {mg : Str → Option Value} {U u0 u1 u2 u3 : Addr} (S : Ups K mg U u0 u1 u2 u3) {i : Nat} {v : V} (h : [V.ref u0, .ref u1, .ref u2, .ref u3][i]? = some v) :
    i < 4 ∧ ∃ u, v = .ref u ∧ ∀ H, SqT K H u [.int (upX i : Nat), .int (upY i : Nat)] := by
  match i, h with
  | 0, h => exact ⟨by decide, u0, (Option.some.inj h).symm, S.a0⟩
  | 1, h => exact ⟨by decide, u1, (Option.some.inj h).symm, S.a1⟩
  | 2, h => exact ⟨by decide, u2, (Option.some.inj h).symm, S.a2⟩
  | 3, h => exact ⟨by decide, u3, (Option.some.inj h).symm, S.a3⟩
  | i + 4, h => simp at h
/-! ### mirrors and the specification -/
open Md (st nx wg hit Pm nst)
theorem sec_eq (a : Su113.Abs) (i : Nat) (y : Nat) (hy : y < 2) : secW ((i / 4 : Nat) : Int) (y : Int) = if a.second (st i) y then 1 else 0 := by
  have h := Md.second_iff a i y
  unfold secW
  cases q : a.second (st i) y <;> simp only [q, true_iff, Bool.false_eq_true, false_iff, if_true, if_false] at * <;> split <;> (try split) <;> omega
theorem fir_eq (a : Su113.Abs) (i x y : Nat) (hx : x < 2) (hy : y < 2) : firW ((i / 4 : Nat) : Int) (x : Int) (y : Int) (a.room : Int) = if a.first (st i) x y then 1 else 0 := by
  have h := Md.first_iff a i x y
  have h2 := Md.second_iff a i y
  have e := sec_eq a i y hy
  unfold firW
  rw [e]
  cases q : a.first (st i) x y <;> cases q2 : a.second (st i) y <;> simp only [q, q2, true_iff, Bool.false_eq_true, false_iff, if_true, if_false] at * <;> split <;> (try split) <;> (try split) <;> omega
theorem ten_eq (was x b r : Nat) (hw : was < 2) (hx : x < 2) (hb : b ≤ 9) (hr : r ≤ 9) : tenW (was : Int) (x : Int) (b : Int) (r : Int) = (Su113.change b r was x : Nat) := by
  unfold tenW Su113.change
  have h1 : was = 0 ∨ was = 1 := by omega
  have h2 : x = 0 ∨ x = 1 := by omega
  rcases h1 with rfl | rfl <;> rcases h2 with rfl | rfl <;> simp <;> omega
theorem hun_eq {a : Su113.Abs} (o : Md.Ok a) (i x y : Nat) (hx : x < 2) (hy : y < 2) :
    tenW ((i : Int) / 2 % 2) x a.b1 a.r1 * tenW ((i : Int) % 2) y a.b2 a.r2 = (wg a i x y : Int) := by
  have e1 : (i : Int) / 2 % 2 = ((i / 2 % 2 : Nat) : Int) := by omega
  have e2 : (i : Int) % 2 = ((i % 2 : Nat) : Int) := by omega
  rw [e1, e2, ten_eq _ _ _ _ (by omega) hx o.b1.2 o.r1.2, ten_eq _ _ _ _ (by omega) hy o.b2.2 o.r2.2]
  rw [← Int.natCast_mul]; rfl
theorem nx_int (a : Su113.Abs) (i x y : Nat) (hx : x < 2) (hy : y < 2) :
    4 * ((i / 4 : Nat) + firW ((i / 4 : Nat) : Int) x y a.room - secW ((i / 4 : Nat) : Int) y) + 2 * (x : Int) + y = (nx a i x y : Int) := by
  rw [fir_eq a i x y hx hy, sec_eq a i y hy, Md.nx_eq]
  have h2 := Md.second_iff a i y
  cases q2 : a.second (st i) y <;> cases q : a.first (st i) x y <;> simp only [q2, true_iff, Bool.false_eq_true, false_iff, if_true, if_false] at * <;> omega
/-! ### flows -/
abbrev sFlo : Stmt := top 9
def rowL (a : Su113.Abs) (i j : Nat) : List Int := (List.range (nst a)).map fun t => (if t = i then (-100 : Int) else 0) + Md.isum j (fun u => (hit a i t (upX u) (upY u) : Int))
def flowsM (a : Su113.Abs) : List (List Int) := (List.range (nst a)).map fun i => rowL a i 4
theorem rowL_len (a : Su113.Abs) (i j : Nat) : (rowL a i j).length = nst a := by simp [rowL]
theorem rowL_get {a : Su113.Abs} {i j t : Nat} (ht : t < nst a) : (rowL a i j)[t]? = some ((if t = i then (-100 : Int) else 0) + Md.isum j (fun u => (hit a i t (upX u) (upY u) : Int))) := by
  simp [rowL, List.getElem?_range ht]
theorem rowL_step {a : Su113.Abs} {i j : Nat} (hi : i < nst a) (hj : j < 4) {z : Int} (hz : (rowL a i j)[nx a i (upX j) (upY j)]? = some z) :
    (rowL a i j).set (nx a i (upX j) (upY j)) (z + (wg a i (upX j) (upY j) : Int)) = rowL a i (j + 1) := by
  have hn : nx a i (upX j) (upY j) < nst a := Md.nx_lt hi (by unfold upX; omega) (by unfold upY; omega)
  apply List.ext_getElem?
  intro t
  by_cases ht : t < nst a
  · rw [rowL_get ht, Md.isum_succ, ← Int.add_assoc]
    by_cases q : nx a i (upX j) (upY j) = t
    · subst q
      rw [List.getElem?_set_self (by rw [rowL_len]; exact hn)]
      rw [rowL_get hn] at hz
      have e := Option.some.inj hz
      rw [← e]; simp [hit]
    · rw [List.getElem?_set_ne q, rowL_get ht]
      have : hit a i t (upX j) (upY j) = 0 := by unfold hit; rw [if_neg q]
      rw [this]; simp
  · rw [List.getElem?_eq_none (by rw [List.length_set, rowL_len]; omega), List.getElem?_eq_none (by rw [rowL_len]; omega)]
theorem rowL_zero (a : Su113.Abs) (i : Nat) (hi : i < nst a) : (List.replicate (nst a) (0 : Int)).set i (-100) = rowL a i 0 := by
  apply List.ext_getElem?
  intro t
  by_cases ht : t < nst a
  · rw [rowL_get ht]
    by_cases q : i = t
    · subst q
      rw [List.getElem?_set_self (by simpa using ht)]; simp [Md.isum]
    · rw [List.getElem?_set_ne q]
      have : ¬ t = i := fun z => q z.symm
      simp [ht, this, Md.isum]
  · rw [List.getElem?_eq_none (by simp; omega), List.getElem?_eq_none (by rw [rowL_len]; omega)]
theorem nst_le {a : Su113.Abs} (o : Md.Ok a) : nst a ≤ 28 := by have := o.room; unfold nst; omega
theorem ixN_nat {n i : Nat} (h : i < n) : ixN n (0 + (i : Int)) = some i := by
  unfold ixN
  rw [if_pos (by omega), if_pos (by omega)]; simp
theorem ixN_nat' {n i : Nat} (h : i < n) : ixN n (i : Int) = some i := by
  unfold ixN
  rw [if_pos (by omega), if_pos (by omega)]; simp
/-- a line's numbers as they lie in the program's list -/
def chV (a : Su113.Abs) : List V := [.int a.b1, .int a.r1, .int a.b2, .int a.r2]
def spFlo (K : PySem.W.Frag) : Sp := fun vs H Q _ => ∃ (a : Su113.Abs) (c : Addr), Md.Ok a ∧ vs = [.ref c, .int a.room] ∧ SqL K H c (chV a) ∧
  ∀ H' p as, Same H H' → H p = none → (∀ b ∈ as, H b = none) → MatAt H' p as (flowsM a) → Q (.ref p) H'
theorem rep_flat (n : Nat) : (List.replicate n [V.int 0]).flatten = (List.replicate n (0 : Int)).map V.int := by
  induction n with
  | zero => rfl
  | succ n ih => rw [List.replicate_succ, List.flatten_cons, ih]; rfl
section
variable {P : Program} {w : World} {K : PySem.W.Frag} {mg : Str → Option Value} {base : Heap}
theorem scFlo : FnScope ["chances", "holds", "size", "rows", "state", "row", "ups"] ["chances", "holds"] (defScope sFlo) := ⟨rfl, rfl, rfl, by decide +kernel, rfl, by decide +kernel, by decide +kernel⟩
theorem ok_flo {f fP fH U u0 u1 u2 u3 : Addr} {fd fdP fdH : FuncData} (F : Fun K "flows" "flows" sFlo f fd) (nR : mg "range" = none) (S : Ups K mg U u0 u1 u2 u3)
    (GP : FnOk P w K mg base CX0 4 fP fdP ["state", "ups", "holds"] (spStb K)) (kP : PySem.W.keepIn K (.ref fP) = true) (bP : Binds K fdP ["state", "ups", "holds"] []) (gP : mg "state_behind" = some (.ref fP))
    (GH : FnOk P w K mg base CX0 2 fH fdH ["state", "ups", "chances"] (spHun K)) (kH : PySem.W.keepIn K (.ref fH) = true) (bH : Binds K fdH ["state", "ups", "chances"] []) (gH : mg "hundredths" = some (.ref fH)) :
    FnOk P w K mg base CX0 5 f fd ["chances", "holds"] (spFlo K) := by
  refine F.ok scFlo (fun vs H Q E h => ?_) (fun cdv A outer s H vs Q E hr h => ?_)
  · obtain ⟨a, c, _, rfl, _⟩ := h; rfl
  · obtain ⟨a, c, ok, rfl, hc, k⟩ := h
    have rm := ok.room
    refine ⟨_, pss_cons (ps_set (i := 2) scFlo.nd rfl (Or.inl rfl) (pe_op op_mul pe_int (pe_op op_add (pv 1) pe_int)))
      (pss_cons (ps_set (i := 3) scFlo.nd rfl (Or.inl rfl) (pe_lst pa_nil))
      (pss_cons (ps_for PassesOwn.never rfl (pi_range1 rfl nR (pa_cons (pv 2) pa_nil)) (pg_name (i := 4) scFlo.nd rfl (Or.inl rfl))
        (pss_cons (ps_set (i := 5) scFlo.nd rfl (Or.inl rfl) (pe_op op_rep (pe_lst (pa_cons pe_int pa_nil)) (pv 2)))
        (pss_cons (ps_asg (pe_un un_neg pe_int) (pg_sub (pv 5) (pv 4) set_list))
        (pss_cons (ps_for PassesOwn.never rfl (pi_tup (pe_glob (v := V.ref U) rfl S.mg rfl)) (pg_name (i := 6) scFlo.nd rfl (Or.inl rfl))
          (pss_one (ps_augS (pv 5) (pe_call GP hr rfl gP kP bP .nil pass0 (pa_cons (pv 4) (pa_cons (pv 6) (pa_cons (pv 1) pa_nil)))) get_listP
            (pe_call GH (hr.mono (by decide)) rfl gH kH bH .nil pass0 (pa_cons (pv 4) (pa_cons (pv 6) (pa_cons (pv 0) pa_nil)))) ip_add set_list)))
        (pss_one (ps_expr (pe_bm PySem.F.plainAttrs_list PySem.F.slot_list_append PySem.F.type_list_append mt_append (pv 3) (pa_cons (pv 5) pa_nil))))))))
      (pss_one (ps_ret (pv 3))))), ?_⟩
    walk_at "rd"
    refine ⟨.inl (by constructor <;> decide), Nat.zero_le _, fun R hR => ?_⟩
    have en : (4 * ((a.room : Int) + 1)).toNat = nst a := by unfold nst; omega
    have s0 : Same H (upd H R (.lst [])) := fun b o e => by rw [upd_ne (ne_of_none e hR)]; exact e
    refine ⟨_, rfl, _, rfl, by omega, by omega, ?_⟩
    rw [en]
    refine for_range (n := nst a) (fun i σ H1 => ∃ v4 v5 v6 as, σ = [some (V.ref c), some (.int a.room), some (.int (4 * ((a.room : Int) + 1))), some (.ref R), v4, v5, v6] ∧ Same H H1 ∧ MatAt H1 R as ((flowsM a).take i) ∧ ∀ b ∈ as, H b = none ∧ b ≠ R)
      ⟨_, _, _, [], rfl, s0, ⟨upd_same, rfl, fun i b r h1 => by simp at h1⟩, fun b hb => by simp at hb⟩ ?_ ?_
    · rintro i σ H1 hi ⟨v4, v5, v6, as, rfl, sm, M, fr⟩
      walk_at "rd"
      have rn := nst_le ok
      refine ⟨by show 1 ≤ sizeLine; decide, fun l hl => ⟨l, _, _, rfl, rfl, upd_same, by omega, by omega, ?_, fun p hp => ?_⟩⟩
      · rw [en]; show 1 * nst a ≤ sizeLine
        exact Nat.le_trans (by omega) (show 28 ≤ sizeLine by decide)
      rw [en, rep_flat]
      have hlp : p ≠ l := fun e => by rw [e, upd_same] at hp; cases hp
      have hp1 : H1 p = none := by rw [upd_ne hlp] at hp; exact hp
      have s1 : Same H1 (upd (upd (upd H1 l (.lst [V.int 0])) p (.lst ((List.replicate (nst a) (0 : Int)).map V.int))) p (.lst ((rowL a i 0).map V.int))) := fun b o e => by
        rw [upd_upd, upd_ne (ne_of_none e hp1), upd_ne (ne_of_none e hl)]; exact e
      refine ⟨_, rfl, _, rfl, p, _, _, i, rfl, rfl, upd_same, ixN_nat (by simpa using hi), ?_⟩
      rw [← List.map_set (f := V.int) (a := (-100 : Int)), rowL_zero a i hi]
      refine ⟨U, rfl, ⟨_, S.all _⟩, for_tup (xs := [.ref u0, .ref u1, .ref u2, .ref u3]) (fun j σ H2 => ∃ v6, σ = [some (V.ref c), some (.int a.room), some (.int (4 * ((a.room : Int) + 1))), some (.ref R), some (.int (0 + (i : Int))), some (.ref p), v6] ∧ Same H1 H2 ∧ H2 p = some (.lst ((rowL a i j).map V.int)))
        ⟨_, rfl, s1, upd_same⟩ (fun _ _ _ _ _ => S.all _) ?_ ?_⟩
      · rintro j x σ H2 hx ⟨w6, rfl, sm2, hrow⟩
        obtain ⟨hj, u, rfl, hu⟩ := S.at hx
        walk_at "rd"
        have e4 : (0 + (i : Int)) / 4 = ((i / 4 : Nat) : Int) := by omega
        have hX : upX j < 2 := by unfold upX; omega
        have hY : upY j < 2 := by unfold upY; omega
        have hn := Md.nx_lt hi hX hY
        have ei := nx_int a i (upX j) (upY j) hX hY
        have hz := rowL_get (a := a) (i := i) (j := j) (t := nx a i (upX j) (upY j)) hn
        have hcc : SqL K H2 c (chV a) := (sm.trans sm2).seq hc
        refine ⟨_, _, _, _, u, rfl, hu _, ?_⟩
        walk_at "rd"
        rw [e4, ei]
        refine ixL (SqL.of hrow) (atI_nat (j := nx a i (upX j) (upY j)) (by rw [List.getElem?_map, hz]; rfl)) ⟨_, _, _, _, _, _, _, u, c, rfl, hu _, hcc, ?_, _, rfl, _, rfl, p, rfl, _, hrow, _, ixN_nat' (by rw [List.length_map, rowL_len]; exact hn), ?_, ?_⟩
        · have := ok.b1; have := ok.r1; omega
        · intro b o e
          rw [upd_ne (ne_of_none e hp1)]; exact sm2 b o e
        · rw [upd_same, show (0 + (i : Int)) = (i : Int) by omega, hun_eq ok i (upX j) (upY j) hX hY, ← List.map_set, rowL_step hi hj hz]
      · rintro σ H2 ⟨w6, rfl, sm2, hrow⟩
        walk_at "rd"
        have hRp : R ≠ p := ne_of_none M.lst hp1
        have e4 : rowL a i ([V.ref u0, V.ref u1, V.ref u2, V.ref u3].length) = rowL a i 4 := rfl
        rw [e4] at hrow
        have hl2 : (as.map V.ref).length < sizeLine := by
          rw [List.length_map, M.len, List.length_take]
          exact Nat.lt_of_le_of_lt (Nat.min_le_left _ _) (Nat.lt_of_lt_of_le (Nat.lt_of_lt_of_le hi rn) (show 28 ≤ sizeLine by decide))
        have M2 := M.same sm2
        refine ⟨.inl ⟨rfl, _, SqL.of M2.lst⟩, R, rfl, _, M2.lst, hl2, ?_, as ++ [p], ?_, ?_⟩
        · intro b o e
          rw [upd_ne (ne_of_none e hR)]
          exact sm2 b o (sm b o e)
        · have et : (flowsM a).take (i + 1) = (flowsM a).take i ++ [rowL a i 4] := by
            have : (flowsM a)[i]? = some (rowL a i 4) := by simp [flowsM, List.getElem?_range hi]
            rw [List.take_succ, this]; rfl
          rw [et]
          refine M2.snoc hrow (fun j b hb => (fr b (List.mem_of_getElem? hb)).2) hRp.symm ?_ fun b o e hb => by rw [upd_ne hb]; exact e
          rw [upd_same, List.map_append]; rfl
        · intro b hb
          rcases List.mem_append.mp hb with hb | hb
          · exact fr b hb
          · have : b = p := by simpa using hb
            subst this
            exact ⟨sm.free hp1, hRp.symm⟩
    · rintro σ H1 ⟨v4, v5, v6, as, rfl, sm, M, fr⟩
      walk_at "rd"
      refine k H1 R as sm hR (fun b hb => (fr b hb).1) ?_
      have : (flowsM a).take (nst a) = flowsM a := List.take_of_length_le (by simp [flowsM])
      rw [this] at M
      exact M
end
open Md (st nx wg hit Pm nst lev fac1 wI)
/-! ### great numbers -/
theorem op_mulB {X : Cx} : OpR X (binaryOp .Mult) (rI (fun i j => IntMulOk i j) fun i j => .int (i * j)) := opI fun _ _ _ _ _ _ _ hc q => mul_int q hc
def CBig (i j : Int) : Prop := 0 < j ∧ j.natAbs < 2 ^ 4096
theorem op_fdivB {X : Cx} : OpR X (binaryOp .FloorDiv) (rI CBig fun i j => .int (i / j)) := opI fun i j _ _ _ _ _ hc q => by
  have h1 : (0 : Int) < j := hc.1
  refine floordiv_int (by omega) (by rw [Int.fdiv_eq_ediv_of_nonneg i (by omega)]; exact q) (.inl (PyProof.noPylong_of_log2 ?_))
  have h0 : j.natAbs ≠ 0 := by omega
  exact Nat.lt_trans ((Nat.log2_lt h0).mpr hc.2) (by decide)
/-- the greatest that is met -/
def BIG : Nat := Md.fac 100 28
theorem big_lt : BIG < 2 ^ 400 := by decide +kernel
theorem big_mul {i j : Int} (h1 : i.natAbs ≤ BIG * 2 ^ 100) (h2 : j.natAbs ≤ BIG * 2 ^ 100) : IntMulOk i j := by
  have hb : BIG * 2 ^ 100 < 2 ^ 500 := by decide +kernel
  exact IntMulOk.of_le (m := 500) (n := 500) (intBits_le_iff.mpr (Nat.lt_of_le_of_lt h1 hb)) (intBits_le_iff.mpr (Nat.lt_of_le_of_lt h2 hb)) (by decide)
theorem atI_m1 {α : Type} {xs : List α} {m : Nat} {v : α} (hl : xs.length = m + 1) (h : xs[m]? = some v) : atI xs (-1) = some v := by
  unfold atI ixN
  rw [if_neg (by decide), hl, if_pos (by omega)]
  have : ((-1 : Int) + ((m + 1 : Nat) : Int)).toNat = m := by omega
  rw [this]; exact h
/-! ### the rows, level by level -/
abbrev LV (a : Su113.Abs) (l i j : Nat) : Int := lev (nst a) 100 (Pm a) l i j
abbrev FC (a : Su113.Abs) (l : Nat) : Int := fac1 (nst a) 100 (Pm a) l
def rowV (a : Su113.Abs) (l i : Nat) : List Int := (List.range (nst a - l)).map fun j => LV a l i j
def levM (a : Su113.Abs) (l : Nat) : List (List Int) := (List.range (nst a - l)).map fun i => rowV a l i
theorem rowV_len (a : Su113.Abs) (l i : Nat) : (rowV a l i).length = nst a - l := by simp [rowV]
theorem levM_len (a : Su113.Abs) (l : Nat) : (levM a l).length = nst a - l := by simp [levM]
theorem rowV_get {a : Su113.Abs} {l i j : Nat} (h : j < nst a - l) : (rowV a l i)[j]? = some (LV a l i j) := by simp [rowV, List.getElem?_range h]
theorem levM_get {a : Su113.Abs} {l i : Nat} (h : i < nst a - l) : (levM a l)[i]? = some (rowV a l i) := by simp [levM, List.getElem?_range h]
theorem flows_lev (a : Su113.Abs) : flowsM a = levM a 0 := by
  unfold flowsM levM
  rw [Nat.sub_zero]
  apply List.map_congr_left
  intro i hi
  unfold rowL rowV
  rw [Nat.sub_zero]
  apply List.map_congr_left
  intro j hj
  have hi := List.mem_range.mp hi
  have hj := List.mem_range.mp hj
  rw [LV, Md.lev_zero hi hj]
  have e : Md.isum 4 (fun u => (hit a i j (upX u) (upY u) : Int)) = (Pm a i j : Int) := by
    unfold Pm Md.isum
    show (([0, 1, 2, 3] : List Nat).map fun u => (hit a i j (upX u) (upY u) : Int)).sum = _
    simp [upX, upY]
    omega
  rw [e]
  by_cases q : i = j
  · subst q; simp; omega
  · have : ¬ j = i := fun z => q z.symm
    simp [q, this]
/-- a matrix at a level stands at p -/
def LevAt (H : Hp) (p : Addr) (as : List Addr) (a : Su113.Abs) (l : Nat) : Prop := MatAt H p as (levM a l)
theorem LevAt.row {H : Hp} {p : Addr} {as : List Addr} {a : Su113.Abs} {l : Nat} (m : LevAt H p as a l) {i : Nat} (hi : i < nst a - l) : ∃ b, as[i]? = some b ∧ H b = some (.lst ((rowV a l i).map V.int)) := by
  have hl : i < as.length := by rw [m.len, levM_len]; exact hi
  exact ⟨as[i], List.getElem?_eq_getElem hl, MatAt.row m i _ _ (List.getElem?_eq_getElem hl) (levM_get hi)⟩
abbrev sLea : Stmt := top 10
def spLea (K : PySem.W.Frag) : Sp := fun vs H Q _ => ∃ (a : Su113.Abs) (p : Addr) (as : List Addr) (l : Nat), l < nst a ∧ vs = [.ref p] ∧ LevAt H p as a l ∧ Q (.int (FC a (l + 1))) H
section
variable {P : Program} {w : World} {K : PySem.W.Frag} {mg : Str → Option Value} {base : Heap}
theorem scLea : FnScope ["rows"] ["rows"] (defScope sLea) := ⟨rfl, rfl, rfl, by decide +kernel, rfl, by decide +kernel, by decide +kernel⟩
theorem ok_lea {f : Addr} {fd : FuncData} (F : Fun K "leaving" "leaving" sLea f fd) : FnOk P w K mg base CX0 1 f fd ["rows"] (spLea K) := by
  refine F.ok scLea (fun vs H Q E h => ?_) (fun cdv A outer s H vs Q E hr h => ?_)
  · obtain ⟨a, p, as, l, _, rfl, _⟩ := h; rfl
  · obtain ⟨a, p, as, l, hl, rfl, M, q⟩ := h
    refine ⟨_, pss_one (ps_ret (pe_un un_neg (pe_ix ix_list (pe_ix ix_list (pv 0) (pe_un un_neg pe_int) (fun _ _ => rfl)) (pe_un un_neg pe_int) (fun _ _ => rfl)))), ?_⟩
    walk_at "rd"
    obtain ⟨m, hm⟩ : ∃ m, nst a - l = m + 1 := ⟨nst a - l - 1, by omega⟩
    obtain ⟨b, hb, hB⟩ := M.row (i := m) (by omega)
    refine ixL (SqL.of M.lst) (atI_m1 (m := m) (v := V.ref b) (by rw [List.length_map, M.len, levM_len, hm]) (by rw [List.getElem?_map, hb]; rfl)) ?_
    refine ixL (SqL.of hB) (atI_m1 (m := m) (v := V.int (LV a l m m)) (by rw [List.length_map, rowV_len, hm]) (by rw [List.getElem?_map, rowV_get (by omega)]; rfl)) ?_
    refine ⟨_, rfl, ?_⟩
    rw [FC, Md.fac_succ l hl, show nst a - 1 - l = m by omega] at q
    exact q
end
theorem cut_last (xs : List V) : cutV xs none (some (-1)) = xs.take (xs.length - 1) := by
  unfold cutV
  show (xs.drop 0).take ((if (-1 : Int) < 0 then ((-1 : Int) + (xs.length : Int)).toNat else min (-1 : Int).toNat xs.length) - 0) = _
  rw [if_pos (by decide), List.drop_zero, Nat.sub_zero]
  congr 1; omega
theorem atI_z {α : Type} {xs : List α} {j : Nat} {v : α} (h : xs[j]? = some v) : atI xs (0 + (j : Int)) = some v := by rw [Int.zero_add]; exact atI_nat h
theorem fac_BIG {a : Su113.Abs} (ok : Md.Ok a) : Md.fac 100 (nst a) ≤ BIG := Md.fac_mono 100 (by decide) (nst_le ok)
theorem BIG_le : BIG ≤ BIG * 2 ^ 100 := Nat.le_mul_of_pos_right _ (by decide)
theorem lv_le {a : Su113.Abs} (ok : Md.Ok a) {l i j : Nat} (hl : l < nst a) (hi : i < nst a - l) (hj : j < nst a - l) : (LV a l i j).natAbs ≤ BIG * 2 ^ 100 :=
  Nat.le_trans ((Md.chain ok).lev_le (by decide) l i j hl hi hj) (Nat.le_trans (fac_BIG ok) BIG_le)
theorem fc_le {a : Su113.Abs} (ok : Md.Ok a) {l : Nat} (hl : l < nst a) : (FC a l).natAbs ≤ BIG * 2 ^ 100 :=
  Nat.le_trans ((Md.chain ok).fac_le (by decide) l hl) (Nat.le_trans (fac_BIG ok) BIG_le)
theorem fc_big {a : Su113.Abs} (ok : Md.Ok a) {l : Nat} {z : Int} (hl : l < nst a) : CBig z (FC a l) :=
  ⟨(Md.chain ok).fac_pos l hl, Nat.lt_of_le_of_lt (fc_le ok hl) (by decide +kernel)⟩
abbrev sFol : Stmt := top 11
def spFol (K : PySem.W.Frag) : Sp := fun vs H Q _ => ∃ (a : Su113.Abs) (p : Addr) (as : List Addr) (l : Nat), Md.Ok a ∧ l + 1 < nst a ∧ vs = [.ref p, .int (FC a l)] ∧ LevAt H p as a l ∧
  ∀ H' p' as', Same H H' → H p' = none → (∀ b ∈ as', H b = none) → LevAt H' p' as' a (l + 1) → Q (.ref p') H'
section
variable {P : Program} {w : World} {K : PySem.W.Frag} {mg : Str → Option Value} {base : Heap}
abbrev nFol : List Str := ["rows", "before", "last", "factor", "shorter", "row", "through", "k"]
theorem scFol : FnScope nFol ["rows", "before"] (defScope sFol) := ⟨rfl, rfl, rfl, by decide +kernel, rfl, by decide +kernel, by decide +kernel⟩
theorem ok_fol {f fL : Addr} {fd fdL : FuncData} (F : Fun K "folded" "folded" sFol f fd) (nR : mg "range" = none) (nL : mg "len" = none)
    (GL : FnOk P w K mg base CX0 1 fL fdL ["rows"] (spLea K)) (kL : PySem.W.keepIn K (.ref fL) = true) (bL : Binds K fdL ["rows"] []) (gL : mg "leaving" = some (.ref fL)) :
    FnOk P w K mg base CX0 2 f fd ["rows", "before"] (spFol K) := by
  refine F.ok scFol (fun vs H Q E h => ?_) (fun cdv A outer s H vs Q E hr h => ?_)
  · obtain ⟨a, p, as, l, _, _, rfl, _⟩ := h; rfl
  · obtain ⟨a, p, as, l, ok, hl, rfl, M, k⟩ := h
    refine ⟨_, pss_cons (ps_set (i := 2) scFol.nd rfl (Or.inr rfl) (pe_ix ix_list (pv 0) (pe_un un_neg pe_int) (fun _ _ => rfl)))
      (pss_cons (ps_set (i := 3) scFol.nd rfl (Or.inr rfl) (pe_call GL hr rfl gL kL bL .nil pass0 (pa_cons (pv 0) pa_nil)))
      (pss_cons (ps_set (i := 4) scFol.nd rfl (Or.inl rfl) (pe_lst pa_nil))
      (pss_cons (ps_for PassesOwn.never rfl (pi_list (pe_slice sl_list (pv 0) po_none (po_some (pe_un un_neg pe_int)))) (pg_name (i := 5) scFol.nd rfl (Or.inr rfl))
        (pss_cons (ps_set (i := 6) scFol.nd rfl (Or.inr rfl) (pe_ix ix_list (pv 5) (pe_un un_neg pe_int) (fun _ _ => rfl)))
        (pss_one (ps_expr (pe_bm PySem.F.plainAttrs_list PySem.F.slot_list_append PySem.F.type_list_append mt_append (pv 4) (pa_cons
          (pe_lc (own := [("k", 7)]) rfl scFol.nd (pi_range1 rfl nR (pa_cons (pe_op op_sub (pe_callB call_len_seq (by rfl) nL PySem.boot_len (pa_cons (pv 2) pa_nil)) pe_int) pa_nil))
            (show BlkOk nFol (defScope sFol) _ _ from ⟨rfl, by decide +kernel, by decide +kernel, by decide +kernel, by decide +kernel⟩) (fun _ _ _ _ _ => pg_name (i := 7) scFol.nd rfl (Or.inl rfl)) (fun _ _ _ _ _ => pts_nil)
            (fun _ _ _ _ _ => pe_op op_fdivB (pe_op op_add (pe_op op_mulB (pe_ix (r := rIxL K) ix_list (pv 5) (pv 7) (fun _ _ => rfl)) (pv 3)) (pe_op op_mulB (pv 6) (pe_ix (r := rIxL K) ix_list (pv 2) (pv 7) (fun _ _ => rfl)))) (pv 1))) pa_nil))))))
      (pss_one (ps_ret (pv 4)))))), ?_⟩
    walk_at "rd"
    have rn := nst_le ok
    obtain ⟨m, hm⟩ : ∃ m, nst a - l = m + 1 := ⟨nst a - l - 1, by omega⟩
    have hm0 : 0 < m := by omega
    obtain ⟨b, hb, hB⟩ := M.row (i := m) (by omega)
    have hal : as.length = m + 1 := by rw [M.len, levM_len, hm]
    refine ixL (SqL.of M.lst) (atI_m1 (m := m) (v := V.ref b) (by rw [List.length_map, hal]) (by rw [List.getElem?_map, hb]; rfl)) ⟨a, p, as, l, by omega, rfl, M, Nat.zero_le _, fun R hR => ?_⟩
    have s0 : Same H (upd H R (.lst [])) := fun b o e => by rw [upd_ne (ne_of_none e hR)]; exact e
    refine ⟨_, rfl, _, rfl, _, rfl, p, _, rfl, SqL.of (s0 _ _ M.lst), fun c hc => ⟨c, rfl, ⟨_, SqL.of upd_same⟩, ?_⟩⟩
    have ecut : cutV (as.map V.ref) none (some (-1)) = (as.take m).map V.ref := by rw [cut_last, List.length_map, hal, List.map_take]; rfl
    rw [ecut]
    have hRc : R ≠ c := fun e => by rw [← e, upd_same] at hc; cases hc
    have hc0 : H c = none := by rw [upd_ne hRc.symm] at hc; exact hc
    have s1 : Same H (upd (upd H R (.lst [])) c (.lst ((as.take m).map V.ref))) := fun b o e => by rw [upd_ne (ne_of_none e hc0)]; exact s0 b o e
    have hlen : ((as.take m).map V.ref).length = m := by rw [List.length_map, List.length_take, hal]; omega
    refine for_list (K := K) (a := c) (xs := (as.take m).map V.ref) (fun i σ H1 => ∃ v5 v6 bs, σ = [some (V.ref p), some (.int (FC a l)), some (.ref b), some (.int (FC a (l + 1))), some (.ref R), v5, v6, none] ∧ Same H H1 ∧ H1 c = some (.lst ((as.take m).map V.ref)) ∧ MatAt H1 R bs ((levM a (l + 1)).take i) ∧ ∀ b ∈ bs, H b = none ∧ b ≠ R ∧ b ≠ c)
      ⟨_, _, [], rfl, s1, upd_same, ⟨by rw [upd_ne hRc, upd_same]; rfl, rfl, fun i b r h1 => by simp at h1⟩, fun b hb => by simp at hb⟩ (fun i σ H1 _ ⟨_, _, _, _, _, h, _⟩ => SqL.of h) ?_ ?_
    · rintro i x σ H1 hx ⟨v5, v6, bs, rfl, sm, hc1, M1, fr⟩
      have hi : i < m := by have := (List.getElem?_eq_some_iff.mp hx).1; rw [hlen] at this; exact this
      obtain ⟨r, hr1, hR1⟩ := M.row (i := i) (by omega)
      have ex : x = V.ref r := by
        rw [List.getElem?_map, List.getElem?_take_of_lt hi, hr1] at hx
        exact (Option.some.inj hx).symm
      subst ex
      walk_at "rd"
      refine ixL (SqL.of (sm _ _ hR1)) (atI_m1 (m := m) (v := V.int (LV a l i m)) (by rw [List.length_map, rowV_len, hm]) (by rw [List.getElem?_map, rowV_get (by omega)]; rfl)) ?_
      refine ⟨.inl ⟨rfl, _, SqL.of M1.lst⟩, ?_⟩
      have el : ((((rowV a l m).map V.int).length : Int) - 1).toNat = m := by rw [List.length_map, rowV_len, hm]; omega
      refine ⟨_, rfl, b, rfl, _, .inl (SqL.of (sm _ _ hB)), _, _, rfl, rfl, _, rfl, ?_, ?_, fun D' hD => ?_⟩
      · rw [List.length_map, rowV_len, hm]; omega
      · rw [List.length_map, rowV_len, hm]; omega
      rw [el]
      refine lc_range (n := m) (fun j H2 => Same H1 H2 ∧ H2 D' = some (.lst (((rowV a (l + 1) i).take j).map V.int))) ⟨fun b o e => by rw [upd_ne (ne_of_none e hD)]; exact e, upd_same⟩ ?_ ?_
      · rintro j H2 hj ⟨sm2, hD2⟩
        simp only [wipe]
        walk_at "rd"
        refine ixL (SqL.of (sm2 _ _ (sm _ _ hR1))) (atI_z (v := V.int (LV a l i j)) (by rw [List.getElem?_map, rowV_get (by omega)]; rfl)) ⟨_, rfl, big_mul (lv_le ok (by omega) (by omega) (by omega)) (fc_le ok (by omega)), ixL (SqL.of (sm2 _ _ (sm _ _ hB))) (atI_z (v := V.int (LV a l m j)) (by rw [List.getElem?_map, rowV_get (by omega)]; rfl))
          ⟨_, rfl, big_mul (lv_le ok (by omega) (by omega) (by omega)) (lv_le ok (by omega) (by omega) (by omega)), fc_big ok (by omega), _, hD2, ?_, fun b o e => by rw [upd_ne (ne_of_none e hD)]; exact sm2 b o e, ?_⟩⟩
        · rw [List.length_map, List.length_take]
          exact Nat.lt_of_le_of_lt (Nat.min_le_left _ _) (Nat.lt_of_lt_of_le (show j < 28 by omega) (show 28 ≤ sizeLine by decide))
        · have e := (Md.chain ok).fold_div l hl i j (by omega) (by omega)
          rw [show nst a - 1 - l = m by omega] at e
          rw [upd_same, e, List.take_succ, rowV_get (by omega), List.map_append]; rfl
      · rintro H2 ⟨sm2, hD2⟩
        have er : (rowV a (l + 1) i).take m = rowV a (l + 1) i := List.take_of_length_le (by rw [rowV_len]; omega)
        rw [er] at hD2
        have hDR : D' ≠ R := (ne_of_none M1.lst hD).symm
        have hDc : D' ≠ c := (ne_of_none hc1 hD).symm
        have M2 := M1.same sm2
        refine ⟨R, rfl, _, M2.lst, ?_, fun b o e => ?_, ?_, bs ++ [D'], ?_, fun b' hb' => ?_⟩
        · rw [List.length_map, M2.len, List.length_take]
          exact Nat.lt_of_le_of_lt (Nat.min_le_left _ _) (Nat.lt_of_lt_of_le (show i < 28 by omega) (show 28 ≤ sizeLine by decide))
        · rw [upd_ne (ne_of_none e hR)]; exact sm2 b o (sm b o e)
        · rw [upd_ne hRc.symm]; exact sm2 _ _ hc1
        · have et : (levM a (l + 1)).take (i + 1) = (levM a (l + 1)).take i ++ [rowV a (l + 1) i] := by
            rw [List.take_succ, levM_get (by omega)]; rfl
          rw [et]
          refine M2.snoc hD2 (fun j b hb => (fr b (List.mem_of_getElem? hb)).2.1) hDR ?_ fun b o e hb => by rw [upd_ne hb]; exact e
          rw [upd_same, List.map_append]; rfl
        · rcases List.mem_append.mp hb' with hb' | hb'
          · exact fr b' hb'
          · have : b' = D' := by simpa using hb'
            subst this
            exact ⟨sm.free hD, hDR, hDc⟩
    · rintro σ H1 ⟨v5, v6, bs, rfl, sm, hc1, M1, fr⟩
      walk_at "rd"
      refine k H1 R bs sm hR (fun b hb => (fr b hb).1) ?_
      have : (levM a (l + 1)).take m = levM a (l + 1) := List.take_of_length_le (by rw [levM_len]; omega)
      rw [hlen, this] at M1
      exact M1
end
theorem bt_sum : bootBuiltins "sum" = some (.builtin "sum") := by decide +kernel
abbrev WI (a : Su113.Abs) (i : Nat) : Int := wI (nst a) 100 (Pm a) i
/-- the first m weights -/
def wsL (a : Su113.Abs) (m : Nat) : List Int := (List.range m).map fun i => WI a i
theorem wsL_len (a : Su113.Abs) (m : Nat) : (wsL a m).length = m := by simp [wsL]
theorem wsL_get {a : Su113.Abs} {m i : Nat} (h : i < m) : (wsL a m)[i]? = some (WI a i) := by simp [wsL, List.getElem?_range h]
theorem wsL_succ (a : Su113.Abs) (m : Nat) : wsL a (m + 1) = wsL a m ++ [WI a m] := by simp [wsL, List.range_succ]
theorem wi_le {a : Su113.Abs} (ok : Md.Ok a) (i : Nat) : (WI a i).natAbs ≤ BIG * 2 ^ 100 :=
  Nat.le_trans ((Md.chain ok).wI_le (by decide) i) (Nat.le_trans (fac_BIG ok) BIG_le)
abbrev sCom : Stmt := top 12
def spCom (K : PySem.W.Frag) : Sp := fun vs H Q _ => ∃ (a : Su113.Abs) (q p : Addr) (as : List Addr) (l : Nat), Md.Ok a ∧ l + 1 < nst a ∧ vs = [.ref q, .ref p] ∧ H q = some (.lst ((wsL a (nst a - 1 - l)).map V.int)) ∧ LevAt H p as a l ∧
  ∀ H', Same H H' → Q (.int (WI a (nst a - 1 - l))) H'
section
variable {P : Program} {w : World} {K : PySem.W.Frag} {mg : Str → Option Value} {base : Heap}
abbrev nCom : List Str := ["found", "rows", "coming", "k"]
theorem scCom : FnScope nCom ["found", "rows"] (defScope sCom) := ⟨rfl, rfl, rfl, by decide +kernel, rfl, by decide +kernel, by decide +kernel⟩
theorem ok_com {f fL : Addr} {fd fdL : FuncData} (F : Fun K "come_to" "come_to" sCom f fd) (nR : mg "range" = none) (nL : mg "len" = none) (nS : mg "sum" = none)
    (GL : FnOk P w K mg base CX0 1 fL fdL ["rows"] (spLea K)) (kL : PySem.W.keepIn K (.ref fL) = true) (bL : Binds K fdL ["rows"] []) (gL : mg "leaving" = some (.ref fL)) :
    FnOk P w K mg base CX0 2 f fd ["found", "rows"] (spCom K) := by
  refine F.ok scCom (fun vs H Q E h => ?_) (fun cdv A outer s H vs Q E hr h => ?_)
  · obtain ⟨a, q, p, as, l, _, _, rfl, _⟩ := h; rfl
  · obtain ⟨a, q, p, as, l, ok, hl, rfl, hq, M, k⟩ := h
    refine ⟨_, pss_cons (ps_set (i := 2) scCom.nd rfl (Or.inl rfl) (pe_callB (cr_sum rfl) (by rfl) nS bt_sum (pa_cons
          (pe_lc (own := [("k", 3)]) rfl scCom.nd (pi_range1 rfl nR (pa_cons (pe_callB call_len_seq (by rfl) nL PySem.boot_len (pa_cons (pv 0) pa_nil)) pa_nil))
            (show BlkOk nCom (defScope sCom) _ _ from ⟨rfl, by decide +kernel, by decide +kernel, by decide +kernel, by decide +kernel⟩) (fun _ _ _ _ _ => pg_name (i := 3) scCom.nd rfl (Or.inl rfl)) (fun _ _ _ _ _ => pts_nil)
            (fun _ _ _ _ _ => pe_op op_mulB (pe_ix (r := rIxL K) ix_list (pv 0) (pv 3) (fun _ _ => rfl)) (pe_ix (r := rIxL K) ix_list (pe_ix (r := rIxL K) ix_list (pv 1) (pv 3) (fun _ _ => rfl)) (pe_un un_neg pe_int) (fun _ _ => rfl)))) pa_nil)))
      (pss_one (ps_ret (pe_op op_fdivB (pv 2) (pe_call GL hr rfl gL kL bL .nil pass0 (pa_cons (pv 1) pa_nil))))), ?_⟩
    walk_at "rd"
    have rn := nst_le ok
    obtain ⟨m, hm⟩ : ∃ m, nst a - l = m + 1 := ⟨nst a - l - 1, by omega⟩
    have em : nst a - 1 - l = m := by omega
    rw [em] at hq k
    have el : ((((wsL a m).map V.int).length : Int)).toNat = m := by rw [List.length_map, wsL_len]; omega
    refine ⟨_, rfl, q, rfl, _, .inl (SqL.of hq), _, rfl, ?_, ?_, fun D hD => ?_⟩
    · rw [List.length_map, wsL_len]; omega
    · rw [List.length_map, wsL_len]; omega
    rw [el]
    refine lc_range (n := m) (fun j H1 => Same H H1 ∧ H1 D = some (.lst (((List.range j).map fun k => WI a k * LV a l k m).map V.int))) ⟨fun b o e => by rw [upd_ne (ne_of_none e hD)]; exact e, upd_same⟩ ?_ ?_
    · rintro j H1 hj ⟨sm, hD1⟩
      simp only [wipe]
      walk_at "rd"
      obtain ⟨b, hb, hB⟩ := M.row (i := j) (by omega)
      refine ixL (SqL.of (sm _ _ hq)) (atI_z (v := V.int (WI a j)) (by rw [List.getElem?_map, wsL_get hj]; rfl)) (ixL (SqL.of (sm _ _ M.lst)) (atI_z (v := V.ref b) (by rw [List.getElem?_map, hb]; rfl)) (ixL (SqL.of (sm _ _ hB)) (atI_m1 (m := m) (v := V.int (LV a l j m)) (by rw [List.length_map, rowV_len, hm]) (by rw [List.getElem?_map, rowV_get (by omega)]; rfl))
        ⟨_, rfl, _, rfl, big_mul (wi_le ok j) (lv_le ok (by omega) (by omega) (by omega)), _, hD1, ?_, fun b o e => by rw [upd_ne (ne_of_none e hD)]; exact sm b o e, ?_⟩))
      · rw [List.length_map, List.length_map, List.length_range]
        exact Nat.lt_of_lt_of_le (show j < 28 by omega) (show 28 ≤ sizeLine by decide)
      · rw [upd_same, List.range_succ, List.map_append, List.map_append]; rfl
    · rintro H1 ⟨sm, hD1⟩
      refine ⟨D, _, rfl, SqL.of hD1, a, p, as, l, by omega, rfl, M.same sm, _, rfl, _, rfl, fc_big ok (by omega), ?_⟩
      have e := (Md.chain ok).come_div l hl
      rw [em] at e
      have e2 : ((List.range m).map fun k => WI a k * LV a l k m).sum / FC a (l + 1) = WI a m := by
        rw [FC, Md.fac_succ l (by omega), em]; exact e
      rw [e2]
      exact k H1 sm
end
theorem for_rev {K : PySem.W.Frag} {a : Addr} {xs : List V} {g : TG} {tb : TS} {D : Ends} {σ : L2.St} {H : Hp} (Pv : Nat → L2.St → Hp → Prop) (h0 : Pv 0 σ H) (hl : ∀ i σ H, i ≤ xs.length → Pv i σ H → SqL K H a xs)
    (hs : ∀ i x σ H, i < xs.length → xs[xs.length - 1 - i]? = some x → Pv i σ H → g x σ H fun σ2 H2 => tb { D with nx := Pv (i + 1), ct := Pv (i + 1), bk := D.nx } σ2 H2) (hd : ∀ σ H, Pv xs.length σ H → D.nx σ H) :
    ∃ W : Nat → Nat → L2.St → Hp → Prop, (∃ m, W 0 m σ H) ∧ ∀ i m σ H, W i m σ H →
      ((Itv K a xs.length).stop i H ∧ D.nx σ H) ∨ ((Itv K a xs.length).go i H ∧ ∃ N : L2.St → Hp → Prop, (∀ σ' H', N σ' H' → ∃ m', m' < m ∧ W (i + 1) m' σ' H') ∧ ∀ x H', (Itv K a xs.length).yld i H x H' → g x σ H' fun σ2 H2 => tb { D with nx := N, ct := N, bk := D.nx } σ2 H2) := by
  refine ⟨fun i m σ H => m = xs.length - i ∧ i ≤ xs.length ∧ Pv i σ H, ⟨xs.length, by simp, Nat.zero_le _, h0⟩, ?_⟩
  rintro i m σ H ⟨rfl, hi, p⟩
  have q := hl i σ H hi p
  by_cases hlt : i < xs.length
  · refine .inr ⟨⟨hlt, xs, xs[xs.length - 1 - i], q, List.getElem?_eq_getElem (by omega)⟩, Pv (i + 1), fun σ' H' p' => ⟨xs.length - (i + 1), by omega, rfl, hlt, p'⟩, fun x H' y => ?_⟩
    obtain ⟨e, y⟩ := y
    subst e
    exact hs i x σ _ hlt (y xs q) p
  · have e : i = xs.length := by omega
    subst e
    exact .inl ⟨Nat.le_refl _, hd σ H p⟩
abbrev sWei : Stmt := top 13
def spWei (K : PySem.W.Frag) : Sp := fun vs H Q _ => ∃ (a : Su113.Abs) (c : Addr), Md.Ok a ∧ vs = [.ref c, .int a.room] ∧ SqL K H c (chV a) ∧
  ∀ H' p, Same H H' → H p = none → H' p = some (.lst ((wsL a (nst a)).map V.int)) → Q (.ref p) H'
/-- the levels kept so far -/
def Folds (H : Hp) (F : Addr) (ps : List Addr) (a : Su113.Abs) : Prop := ∀ (k : Nat) (p : Addr), ps[k]? = some p → p ≠ F ∧ ∃ as, LevAt H p as a k ∧ ∀ b ∈ as, b ≠ F
theorem LevAt.but {H H' : Hp} {p F : Addr} {as : List Addr} {a : Su113.Abs} {l : Nat} (m : LevAt H p as a l) (hp : p ≠ F) (ha : ∀ b ∈ as, b ≠ F) (e : ∀ b o, H b = some o → b ≠ F → H' b = some o) : LevAt H' p as a l :=
  ⟨e _ _ m.lst hp, m.len, fun i b r h1 h2 => e _ _ (MatAt.row m i b r h1 h2) (ha b (List.mem_of_getElem? h1))⟩
/-- between two turns of the while -/
def WInv (H : Hp) (a : Su113.Abs) (c F : Addr) (l : Nat) (σ : L2.St) (H1 : Hp) : Prop := l < nst a ∧ ∃ p as ps v5, σ = [some (V.ref c), some (.int a.room), some (.ref p), some (.ref F), some (.int (FC a l)), v5, none, none] ∧ Same H H1 ∧ LevAt H1 p as a l ∧ p ≠ F ∧ (∀ b ∈ as, b ≠ F) ∧
  H1 F = some (.lst (ps.map V.ref)) ∧ ps.length = l ∧ Folds H1 F ps a
section
variable {P : Program} {w : World} {K : PySem.W.Frag} {mg : Str → Option Value} {base : Heap}
abbrev nWei : List Str := ["chances", "holds", "rows", "folds", "before", "factor", "found", "fold"]
theorem scWei : FnScope nWei ["chances", "holds"] (defScope sWei) := ⟨rfl, rfl, rfl, by decide +kernel, rfl, by decide +kernel, by decide +kernel⟩
theorem ok_wei {f fF fL fG fC : Addr} {fd fdF fdL fdG fdC : FuncData} (F : Fun K "weights" "weights" sWei f fd) (nL : mg "len" = none) (nV : mg "reversed" = none)
    (GF : FnOk P w K mg base CX0 5 fF fdF ["chances", "holds"] (spFlo K)) (kF : PySem.W.keepIn K (.ref fF) = true) (bF : Binds K fdF ["chances", "holds"] []) (gF : mg "flows" = some (.ref fF))
    (GL : FnOk P w K mg base CX0 1 fL fdL ["rows"] (spLea K)) (kL : PySem.W.keepIn K (.ref fL) = true) (bL : Binds K fdL ["rows"] []) (gL : mg "leaving" = some (.ref fL))
    (GG : FnOk P w K mg base CX0 2 fG fdG ["rows", "before"] (spFol K)) (kG : PySem.W.keepIn K (.ref fG) = true) (bG : Binds K fdG ["rows", "before"] []) (gG : mg "folded" = some (.ref fG))
    (GC : FnOk P w K mg base CX0 2 fC fdC ["found", "rows"] (spCom K)) (kC : PySem.W.keepIn K (.ref fC) = true) (bC : Binds K fdC ["found", "rows"] []) (gC : mg "come_to" = some (.ref fC)) :
    FnOk P w K mg base CX0 6 f fd ["chances", "holds"] (spWei K) := by
  refine F.ok scWei (fun vs H Q E h => ?_) (fun cdv A outer s H vs Q E hr h => ?_)
  · obtain ⟨a, c, _, rfl, _⟩ := h; rfl
  · obtain ⟨a, c, ok, rfl, hc, k⟩ := h
    have hr2 : Room 2 _ := hr.mono (by decide)
    have hr1 : Room 1 _ := hr.mono (by decide)
    refine ⟨_, pss_cons (ps_set (i := 2) scWei.nd rfl (Or.inl rfl) (pe_call GF hr rfl gF kF bF .nil pass0 (pa_cons (pv 0) (pa_cons (pv 1) pa_nil))))
      (pss_cons (ps_set (i := 3) scWei.nd rfl (Or.inl rfl) (pe_lst pa_nil))
      (pss_cons (ps_set (i := 4) scWei.nd rfl (Or.inl rfl) pe_int)
      (pss_cons (ps_while PassesOwn.never (pt_cmpR op_gt (pe_callB call_len_seq (by rfl) nL PySem.boot_len (pa_cons (pv 2) pa_nil)) pe_int (nomark _))
        (pss_cons (ps_expr (pe_bm PySem.F.plainAttrs_list PySem.F.slot_list_append PySem.F.type_list_append mt_append (pv 3) (pa_cons (pv 2) pa_nil)))
        (pss_cons (ps_set (i := 5) scWei.nd rfl (Or.inl rfl) (pe_call GL hr1 rfl gL kL bL .nil pass0 (pa_cons (pv 2) pa_nil)))
        (pss_cons (ps_set (i := 2) scWei.nd rfl (Or.inl rfl) (pe_call GG hr2 rfl gG kG bG .nil pass0 (pa_cons (pv 2) (pa_cons (pv 4) pa_nil))))
        (pss_one (ps_set (i := 4) scWei.nd rfl (Or.inl rfl) (pv 5)))))))
      (pss_cons (ps_set (i := 6) scWei.nd rfl (Or.inl rfl) (pe_lst (pa_cons (pv 4) pa_nil)))
      (pss_cons (ps_for PassesOwn.never rfl (pi_reversed rfl nV (pa_cons (pv 3) pa_nil)) (pg_name (i := 7) scWei.nd rfl (Or.inl rfl))
        (pss_one (ps_expr (pe_bm PySem.F.plainAttrs_list PySem.F.slot_list_append PySem.F.type_list_append mt_append (pv 6) (pa_cons (pe_call GC hr2 rfl gC kC bC .nil pass0 (pa_cons (pv 6) (pa_cons (pv 7) pa_nil))) pa_nil)))))
      (pss_one (ps_ret (pv 6)))))))), ?_⟩
    walk_at "rd"
    have rn := nst_le ok
    have r8 : 8 ≤ nst a := by have := ok.room; unfold nst; omega
    refine ⟨a, c, ok, rfl, hc, fun H0 p0 as0 sm0 hp0 has0 M0 => ⟨Nat.zero_le _, fun F hF => ?_⟩⟩
    rw [flows_lev] at M0
    have hFH : H F = none := sm0.free hF
    have s1 : Same H0 (upd H0 F (.lst [])) := fun b o e => by rw [upd_ne (ne_of_none e hF)]; exact e
    have hasF : ∀ b ∈ as0, b ≠ F := fun b hb => by
      obtain ⟨i, hi⟩ := List.getElem?_of_mem hb
      have hil : i < (levM a 0).length := by rw [← M0.len]; exact (List.getElem?_eq_some_iff.mp hi).1
      exact ne_of_none (M0.row i b _ hi (List.getElem?_eq_getElem hil)) hF
    refine ⟨fun m σ H1 => ∃ l, m = nst a - l ∧ WInv H a c F l σ H1, ⟨_, 0, rfl, by omega, p0, as0, [], none, rfl, sm0.trans s1, MatAt.same M0 s1, ne_of_none M0.lst hF, hasF, upd_same, rfl, fun k p h => by simp at h⟩, ?_⟩
    rintro m σ H1 ⟨l, rfl, hl, p, as, ps, v5, rfl, sm, M, hpF, haF, hF1, hps, Fo⟩
    refine ⟨_, rfl, p, rfl, _, .inl (SqL.of M.lst), _, _, rfl, rfl, _, rfl, ?_⟩
    have elen : (as.map V.ref).length = nst a - l := by rw [List.length_map, M.len, levM_len]
    rw [elen]
    dsimp only
    by_cases h1 : l + 1 < nst a
    · rw [if_pos (decide_eq_true (by omega))]
      refine ⟨WInv H a c F (l + 1), fun σ' H' h => ⟨nst a - (l + 1), by omega, l + 1, rfl, h⟩, ?_⟩
      walk_at "rd"
      have but : ∀ b o, H1 b = some o → b ≠ F → upd H1 F (.lst (ps.map V.ref ++ [V.ref p])) b = some o := fun b o e hb => by rw [upd_ne hb]; exact e
      have M2 : LevAt (upd H1 F (.lst (ps.map V.ref ++ [V.ref p]))) p as a l := M.but hpF haF but
      refine ⟨.inl ⟨rfl, _, SqL.of hF1⟩, F, rfl, _, hF1, ?_, a, p, as, l, hl, rfl, M2, a, p, as, l, ok, h1, rfl, M2, fun H3 p3 as3 sm3 hp3 has3 M3 => ?_⟩
      · rw [List.length_map, hps]
        exact Nat.lt_of_lt_of_le (show l < 28 by omega) (show 28 ≤ sizeLine by decide)
      · have h3F : upd H1 F (.lst (ps.map V.ref ++ [V.ref p])) F = some (.lst (ps.map V.ref ++ [V.ref p])) := upd_same
        refine ⟨h1, p3, as3, ps ++ [p], _, rfl, fun b o e => sm3 b o (but b o (sm b o e) (ne_of_none e hFH)), M3, (fun e => by rw [e, h3F] at hp3; cases hp3), (fun b hb e => by have := has3 b hb; rw [e, h3F] at this; cases this), ?_, by simp [hps], ?_⟩
        · rw [List.map_append]; exact sm3 _ _ h3F
        · intro k q hk
          by_cases hkl : k < ps.length
          · rw [List.getElem?_append_left hkl] at hk
            obtain ⟨x1, as', x2, x3⟩ := Fo k q hk
            exact ⟨x1, as', MatAt.same (LevAt.but x2 x1 x3 but) sm3, x3⟩
          · have hk2 := (List.getElem?_eq_some_iff.mp hk).1
            simp at hk2
            have : k = l := by omega
            subst this
            rw [List.getElem?_append_right (by omega), hps] at hk
            simp at hk
            subst hk
            exact ⟨hpF, as, MatAt.same M2 sm3, haF⟩
    · have hl1 : l + 1 = nst a := by omega
      rw [if_neg (by rw [decide_eq_true_eq]; omega)]
      show tSeq _ _ _ _ _
      walk_at "rd"
      refine ⟨_, rfl, by show 1 ≤ sizeLine; decide, fun G hG => ⟨_, rfl, F, _, rfl, SqL.of (show upd H1 G _ F = _ by rw [upd_ne (ne_of_none hF1 hG)]; exact hF1), ?_⟩⟩
      have hw0 : FC a l = WI a 0 := by
        have e := (Md.chain ok).wI_zero
        rw [show nst a - 1 = l by omega] at e
        exact e.symm
      have s2 : Same H1 (upd H1 G (.lst [V.int (FC a l)])) := fun b o e => by rw [upd_ne (ne_of_none e hG)]; exact e
      refine for_rev (K := K) (a := F) (xs := ps.map V.ref) (fun i σ H2 => ∃ v7, σ = [some (V.ref c), some (.int a.room), some (.ref p), some (.ref F), some (.int (FC a l)), v5, some (.ref G), v7] ∧ Same H1 H2 ∧ H2 G = some (.lst ((wsL a (i + 1)).map V.int)))
        ⟨_, rfl, s2, by rw [upd_same, hw0]; rfl⟩ (fun i σ H2 _ ⟨_, _, e, _⟩ => SqL.of (e _ _ hF1)) ?_ ?_
      · rintro i x σ H2 hi hx ⟨v7, rfl, sm2, hG2⟩
        rw [List.length_map, hps] at hi
        rw [List.length_map, hps, List.getElem?_map] at hx
        obtain ⟨q, hq, rfl⟩ : ∃ q, ps[l - 1 - i]? = some q ∧ x = V.ref q := by
          cases e : ps[l - 1 - i]? with
          | none => rw [e] at hx; cases hx
          | some q => rw [e] at hx; exact ⟨q, rfl, (Option.some.inj hx).symm⟩
        obtain ⟨x1, as', x2, x3⟩ := Fo _ q hq
        walk_at "rd"
        have ek : nst a - 1 - (l - 1 - i) = i + 1 := by omega
        refine ⟨.inl ⟨rfl, _, SqL.of hG2⟩, a, G, q, as', l - 1 - i, ok, by omega, rfl, by rw [ek]; exact hG2, MatAt.same x2 sm2, fun H3 sm3 => ⟨G, rfl, _, sm3 _ _ hG2, ?_, fun b o e => ?_, ?_⟩⟩
        · rw [List.length_map, wsL_len]
          exact Nat.lt_of_lt_of_le (show i + 1 < 28 by omega) (show 28 ≤ sizeLine by decide)
        · rw [upd_ne (ne_of_none e hG)]; exact sm3 b o (sm2 b o e)
        · rw [upd_same, ek, wsL_succ a (i + 1), List.map_append]; rfl
      · rintro σ H2 ⟨v7, rfl, sm2, hG2⟩
        walk_at "rd"
        rw [List.length_map, hps, hl1] at hG2
        exact k H2 G (sm.trans sm2) (sm.free hG) hG2
end
open Md (st nx wg hit Pm nst lev fac1 wI isum)
/-! ### common, fraction -/
abbrev sCmm : Stmt := top 14
def spCmm : Sp := fun vs H Q _ => ∃ x y : Int, 0 ≤ x ∧ 0 ≤ y ∧ vs = [.int x, .int y] ∧ Q (.int (Nat.gcd x.toNat y.toNat : Nat)) H
section
variable {P : Program} {w : World} {K : PySem.W.Frag} {mg : Str → Option Value} {base : Heap}
theorem scCmm : FnScope ["one", "other", "rest"] ["one", "other"] (defScope sCmm) := ⟨rfl, rfl, rfl, by decide +kernel, rfl, by decide +kernel, by decide +kernel⟩
theorem gcd_step {x y : Int} (hx : 0 ≤ x) (hy : 0 < y) : Nat.gcd y.toNat (x % y).toNat = Nat.gcd x.toNat y.toNat := by
  have e : (x % y).toNat = x.toNat % y.toNat := by
    have h1 : x = (x.toNat : Int) := by omega
    have h2 : y = (y.toNat : Int) := by omega
    conv => lhs; rw [h1, h2, ← Int.natCast_emod]
    omega
  rw [e, Nat.gcd_comm y.toNat, ← Nat.gcd_rec, Nat.gcd_comm]
theorem ok_cmm {f : Addr} {fd : FuncData} (F : Fun K "common" "common" sCmm f fd) : FnOk P w K mg base CX0 1 f fd ["one", "other"] spCmm := by
  refine F.ok scCmm (fun vs H Q E h => ?_) (fun cdv A outer s H vs Q E hr h => ?_)
  · obtain ⟨x, y, _, _, rfl, _⟩ := h; rfl
  · obtain ⟨x, y, hx, hy, rfl, q⟩ := h
    refine ⟨_, pss_cons (ps_while PassesOwn.never (pt_cmpR op_gt (pv 1) pe_int (nomark _))
        (pss_cons (ps_set (i := 2) scCmm.nd rfl (Or.inl rfl) (pe_op op_mod (pv 0) (pv 1)))
        (pss_cons (ps_set (i := 0) scCmm.nd rfl (Or.inl rfl) (pv 1))
        (pss_one (ps_set (i := 1) scCmm.nd rfl (Or.inl rfl) (pv 2))))))
      (pss_one (ps_ret (pv 0))), ?_⟩
    refine ⟨fun m σ H1 => ∃ (x' y' : Int) (v : Option V), m = y'.toNat ∧ H1 = H ∧ σ = [some (V.int x'), some (.int y'), v] ∧ 0 ≤ x' ∧ 0 ≤ y' ∧ Nat.gcd x'.toNat y'.toNat = Nat.gcd x.toNat y.toNat, ⟨_, x, y, _, rfl, rfl, rfl, hx, hy, rfl⟩, ?_⟩
    rintro m σ H1 ⟨x', y', v, rfl, rfl, rfl, h1, h2, hg⟩
    refine ⟨_, rfl, _, _, rfl, rfl, _, rfl, ?_⟩
    dsimp only
    by_cases h0 : 0 < y'
    · rw [if_pos (decide_eq_true h0)]
      refine ⟨fun σ' H' => ∃ v, H' = H1 ∧ σ' = [some (V.int y'), some (.int (x' % y')), v], ?_, ?_⟩
      · rintro σ' H' ⟨v', rfl, rfl⟩
        have hm := Int.emod_nonneg x' (show y' ≠ 0 by omega)
        have hm2 := Int.emod_lt_of_pos x' h0
        exact ⟨_, by omega, y', x' % y', v', rfl, rfl, rfl, h2, hm, by rw [gcd_step h1 h0]; exact hg⟩
      · walk_at "rd"
        exact h0
    · rw [if_neg (by rw [decide_eq_true_eq]; exact h0)]
      show tRet _ _ _ _
      walk_at "rd"
      have : y' = 0 := by omega
      subst this
      rw [← hg] at q
      have e : ((Nat.gcd x'.toNat (0 : Int).toNat : Nat) : Int) = x' := by
        show ((Nat.gcd x'.toNat 0 : Nat) : Int) = x'
        rw [Nat.gcd_zero_right]; omega
      rw [e] at q
      exact q
abbrev sFra : Stmt := top 15
/-- the fraction as it is told -/
def fracL (x y : Int) : List Int := Su113.two (Su111.low x y.toNat)
theorem fracL_eq {x y : Int} (hx : 0 ≤ x) (hy : 0 < y) : fracL x y = [x / (Nat.gcd x.toNat y.toNat : Nat), y / (Nat.gcd x.toNat y.toNat : Nat)] := by
  unfold fracL Su113.two Su111.low
  have e : x.natAbs = x.toNat := by omega
  rw [e]
  have hg : Nat.gcd x.toNat y.toNat ≠ 0 := by
    intro z; have := Nat.eq_zero_of_gcd_eq_zero_right z; omega
  rw [if_neg hg]
  have e2 : Su113.nat (y.toNat / Nat.gcd x.toNat y.toNat) = y / (Nat.gcd x.toNat y.toNat : Nat) := by
    show ((y.toNat / Nat.gcd x.toNat y.toNat : Nat) : Int) = _
    rw [Int.natCast_ediv]; congr 1; omega
  rw [e2]; rfl
def spFra : Sp := fun vs H Q _ => ∃ x y : Int, 0 ≤ x ∧ 0 < y ∧ y.natAbs < 2 ^ 4096 ∧ vs = [.int x, .int y] ∧ ∀ H' p, Same H H' → H p = none → H' p = some (.lst ((fracL x y).map V.int)) → Q (.ref p) H'
theorem scFra : FnScope ["above", "below", "shared"] ["above", "below"] (defScope sFra) := ⟨rfl, rfl, rfl, by decide +kernel, rfl, by decide +kernel, by decide +kernel⟩
theorem ok_fra {f fC : Addr} {fd fdC : FuncData} (F : Fun K "fraction" "fraction" sFra f fd) (GC : FnOk P w K mg base CX0 1 fC fdC ["one", "other"] spCmm) (kC : PySem.W.keepIn K (.ref fC) = true) (bC : Binds K fdC ["one", "other"] []) (gC : mg "common" = some (.ref fC)) :
    FnOk P w K mg base CX0 2 f fd ["above", "below"] spFra := by
  refine F.ok scFra (fun vs H Q E h => ?_) (fun cdv A outer s H vs Q E hr h => ?_)
  · obtain ⟨x, y, _, _, _, rfl, _⟩ := h; rfl
  · obtain ⟨x, y, hx, hy, hb, rfl, q⟩ := h
    refine ⟨_, pss_cons (ps_set (i := 2) scFra.nd rfl (Or.inl rfl) (pe_call GC hr rfl gC kC bC .nil pass0 (pa_cons (pv 0) (pa_cons (pv 1) pa_nil))))
      (pss_one (ps_ret (pe_lst (pa_cons (pe_op op_fdivB (pv 0) (pv 2)) (pa_cons (pe_op op_fdivB (pv 1) (pv 2)) pa_nil))))), ?_⟩
    walk_at "rd"
    have hg : 0 < Nat.gcd x.toNat y.toNat := Nat.gcd_pos_of_pos_right _ (by omega)
    have hgl : Nat.gcd x.toNat y.toNat ≤ y.toNat := Nat.gcd_le_right _ (by omega)
    have cb : ∀ z, CBig z ((Nat.gcd x.toNat y.toNat : Nat) : Int) := fun z => ⟨by omega, by rw [Int.natAbs_natCast]; exact Nat.lt_of_le_of_lt hgl (by omega)⟩
    refine ⟨x, y, hx, by omega, rfl, ?_⟩
    simp only [tLst]
    walk_at "rd"
    refine ⟨cb _, cb _, by show 2 ≤ sizeLine; decide, fun p hp => ?_⟩
    refine q _ p (fun b o e => by rw [upd_ne (ne_of_none e hp)]; exact e) hp ?_
    rw [upd_same, fracL_eq hx hy]; rfl
end
theorem for_enum {K : PySem.W.Frag} {a : Addr} {xs : List V} {g : TG} {tb : TS} {D : Ends} {σ : L2.St} {H : Hp} (Pv : Nat → L2.St → Hp → Prop) (h0 : Pv 0 σ H) (hl : ∀ i σ H, i ≤ xs.length → Pv i σ H → SqL K H a xs)
    (hs : ∀ i x σ H T, xs[i]? = some x → Pv i σ H → H T = none → g (.ref T) σ (upd H T (.tup [.int (i : Nat), x])) fun σ2 H2 => tb { D with nx := Pv (i + 1), ct := Pv (i + 1), bk := D.nx } σ2 H2) (hd : ∀ σ H, Pv xs.length σ H → D.nx σ H) :
    ∃ W : Nat → Nat → L2.St → Hp → Prop, (∃ m, W 0 m σ H) ∧ ∀ i m σ H, W i m σ H →
      ((Ite K a).stop i H ∧ D.nx σ H) ∨ ((Ite K a).go i H ∧ ∃ N : L2.St → Hp → Prop, (∀ σ' H', N σ' H' → ∃ m', m' < m ∧ W (i + 1) m' σ' H') ∧ ∀ x H', (Ite K a).yld i H x H' → g x σ H' fun σ2 H2 => tb { D with nx := N, ct := N, bk := D.nx } σ2 H2) := by
  refine ⟨fun i m σ H => m = xs.length - i ∧ i ≤ xs.length ∧ Pv i σ H, ⟨xs.length, by simp, Nat.zero_le _, h0⟩, ?_⟩
  rintro i m σ H ⟨rfl, hi, p⟩
  have q := hl i σ H hi p
  by_cases hlt : i < xs.length
  · refine .inr ⟨⟨xs, xs[i], q, by simp [hlt]⟩, Pv (i + 1), fun σ' H' p' => ⟨xs.length - (i + 1), by omega, rfl, hlt, p'⟩, fun x H' y => ?_⟩
    obtain ⟨T, z, rfl, hT, rfl, y⟩ := y
    exact hs i z σ _ T (y xs q) p hT
  · have e : i = xs.length := by omega
    subst e
    exact .inl ⟨⟨xs, q, Nat.le_refl _⟩, hd σ H p⟩
/-! ### measured, expected -/
abbrev sMea : Stmt := top 16
abbrev sExp : Stmt := top 17
/-- of a state, over a hundred -/
def cM (a : Su113.Abs) (μ : Int → Int → Int → Int) (i : Nat) : Int := isum 4 fun u => (wg a i (upX u) (upY u) : Int) * μ ((i / 4 : Nat) : Int) (upX u : Nat) (upY u : Nat)
def aboveE (a : Su113.Abs) (μ : Int → Int → Int → Int) : Int := isum (nst a) fun i => WI a i * cM a μ i
def belowE (a : Su113.Abs) : Int := 100 * isum (nst a) (WI a)
/-- a measure that may be asked: no great numbers, none below 0 -/
def Meas (μ : Int → Int → Int → Int) : Prop := ∀ k x y : Nat, k ≤ 6 → x < 2 → y < 2 → 0 ≤ μ k x y ∧ μ k x y ≤ 1000
def lsF (n : Nat) (f : Nat → Int) : List Int := (List.range n).map f
theorem lsF_len (n : Nat) (f : Nat → Int) : (lsF n f).length = n := by simp [lsF]
theorem lsF_get {n i : Nat} {f : Nat → Int} (h : i < n) : (lsF n f)[i]? = some (f i) := by simp [lsF, List.getElem?_range h]
/-- a callable measure -/
structure Cal (P : Program) (w : World) (K : PySem.W.Frag) (mg : Str → Option Value) (base : Heap) (f : Addr) (R : Hp → Prop) (μ : Int → Int → Int → Int) : Prop where
  ok : MOk P w K mg base 3 f R μ
  fn : ∀ H, R H → FunAt K H f
  me : Meas μ
def spMea (P : Program) (w : World) (K : PySem.W.Frag) (mg : Str → Option Value) (base : Heap) : Sp := fun vs H Q _ => ∃ (a : Su113.Abs) (l c f : Addr) (fw : Nat → Int) (R : Hp → Prop) (μ : Int → Int → Int → Int), Md.Ok a ∧ vs = [.ref l, .ref c, .ref f] ∧
  SqL K H l ((lsF (nst a) fw).map V.int) ∧ SqL K H c (chV a) ∧ Cal P w K mg base f R μ ∧ R H ∧ (∀ H1 H2, Same H1 H2 → R H1 → R H2) ∧
  ∀ H', Same H H' → Q (.int (isum (nst a) fun i => fw i * cM a μ i)) H'
def spExp (P : Program) (w : World) (K : PySem.W.Frag) (mg : Str → Option Value) (base : Heap) : Sp := fun vs H Q _ => ∃ (a : Su113.Abs) (l c f : Addr) (R : Hp → Prop) (μ : Int → Int → Int → Int), Md.Ok a ∧ vs = [.ref l, .ref c, .ref f] ∧
  SqL K H l ((wsL a (nst a)).map V.int) ∧ SqL K H c (chV a) ∧ Cal P w K mg base f R μ ∧ R H ∧ (∀ H1 H2, Same H1 H2 → R H1 → R H2) ∧
  ∀ H' p, Same H H' → H p = none → H' p = some (.lst ((fracL (aboveE a μ) (belowE a)).map V.int)) → Q (.ref p) H'
theorem wg_le {a : Su113.Abs} (ok : Md.Ok a) (i x y : Nat) : wg a i x y ≤ 81 := Nat.mul_le_mul (Md.change_le ok.b1 ok.r1) (Md.change_le ok.b2 ok.r2)
theorem sum_le {f : Nat → Int} {B : Nat} (h : ∀ i, (f i).natAbs ≤ B) {n m : Nat} (hn : n ≤ m) : (isum n f).natAbs ≤ m * B := by
  have : ∀ n, (isum n f).natAbs ≤ n * B := by
    intro n; induction n with
    | zero => simp [isum]
    | succ n ih => rw [Md.isum_succ, Nat.succ_mul]; have := h n; omega
  exact Nat.le_trans (this n) (Nat.mul_le_mul_right _ hn)
theorem isum_nn {n : Nat} {f : Nat → Int} (h : ∀ i, i < n → 0 ≤ f i) : 0 ≤ isum n f := by
  induction n with
  | zero => simp [isum]
  | succ n ih => rw [Md.isum_succ]; have := h n (by omega); have := ih fun i hi => h i (by omega); omega
theorem above_nn {a : Su113.Abs} (ok : Md.Ok a) {μ : Int → Int → Int → Int} (hμ : Meas μ) : 0 ≤ aboveE a μ := by
  have rn := nst_le ok
  refine isum_nn fun i hi => Int.mul_nonneg ((Md.chain ok).wI_nonneg i) (isum_nn fun u hu => Int.mul_nonneg (by omega) ?_)
  exact (hμ (i / 4) (upX u) (upY u) (by omega) (by unfold upX; omega) (by unfold upY; omega)).1
section
variable {P : Program} {w : World} {K : PySem.W.Frag} {mg : Str → Option Value} {base : Heap}
abbrev nMea : List Str := ["found", "chances", "measure", "above", "state", "weight", "ups"]
theorem scMea : FnScope nMea ["found", "chances", "measure"] (defScope sMea) := ⟨rfl, rfl, rfl, by decide +kernel, rfl, by decide +kernel, by decide +kernel⟩
theorem ok_mea {f fH U u0 u1 u2 u3 : Addr} {fd fdH : FuncData} (F : Fun K "measured" "measured" sMea f fd) (nE : mg "enumerate" = none) (S : Ups K mg U u0 u1 u2 u3)
    (GH : FnOk P w K mg base CX0 2 fH fdH ["state", "ups", "chances"] (spHun K)) (kH : PySem.W.keepIn K (.ref fH) = true) (bH : Binds K fdH ["state", "ups", "chances"] []) (gH : mg "hundredths" = some (.ref fH)) :
    FnOk P w K mg base CX0 4 f fd ["found", "chances", "measure"] (spMea P w K mg base) := by
  refine F.ok scMea (fun vs H Q E h => ?_) (fun cdv A outer s H vs Q E hr h => ?_)
  · obtain ⟨a, l, c, f, fw, R, μ, _, rfl, _⟩ := h; rfl
  · obtain ⟨a, l, c, fm, fw, R, μ, ok, rfl, hl, hc, hM, hR, hRs, k⟩ := h
    have hr2 : Room 2 _ := hr.mono (by decide)
    refine ⟨_, pss_cons (ps_set (i := 3) scMea.nd rfl (Or.inl rfl) pe_int)
      (pss_cons (ps_for PassesOwn.never rfl (pi_enum rfl nE (pa_cons (pv 0) pa_nil)) (pg_tup (n := 2) rfl (pgs_cons (pg_name (i := 4) scMea.nd rfl (Or.inl rfl)) (pgs_cons (pg_name (i := 5) scMea.nd rfl (Or.inl rfl)) pgs_nil)))
        (pss_one (ps_for PassesOwn.never rfl (pi_tup (pe_glob (v := V.ref U) rfl S.mg rfl)) (pg_name (i := 6) scMea.nd rfl (Or.inl rfl))
          (pss_one (ps_aug (i := 3) scMea.nd rfl (Or.inl rfl) (pe_op op_mulB (pe_op op_mulB (pv 5) (pe_call GH hr2 rfl gH kH bH .nil pass0 (pa_cons (pv 4) (pa_cons (pv 6) (pa_cons (pv 1) pa_nil)))))
            (pe_callV (k := 3) (i := 2) hr (pa_cons (pe_op op_fdiv (pv 4) pe_int) (pa_cons (pe_ix ix_tup (pv 6) pe_int (fun _ _ => rfl)) (pa_cons (pe_ix ix_tup (pv 6) pe_int (fun _ _ => rfl)) pa_nil))))) ip_add)))))
      (pss_one (ps_ret (pv 3)))), ?_⟩
    walk_at "rd"
    have rn := nst_le ok
    refine ⟨_, rfl, l, _, rfl, hl, for_enum (K := K) (a := l) (xs := (lsF (nst a) fw).map V.int) (fun i σ H1 => ∃ v4 v5 v6, σ = [some (V.ref l), some (.ref c), some (.ref fm), some (.int (isum i fun s => fw s * cM a μ s)), v4, v5, v6] ∧ Same H H1)
      ⟨_, _, _, rfl, Same.refl H⟩ (fun i σ H1 _ ⟨_, _, _, _, e⟩ => e.seq hl) ?_ ?_⟩
    · rintro i x σ H1 T hx ⟨v4, v5, v6, rfl, sm⟩ hT
      have hi : i < nst a := by have := (List.getElem?_eq_some_iff.mp hx).1; rw [List.length_map, lsF_len] at this; exact this
      obtain rfl : x = V.int (fw i) := by
        rw [List.getElem?_map, lsF_get hi] at hx
        exact (Option.some.inj hx).symm
      have sT : Same H (upd H1 T (.tup [.int (i : Nat), .int (fw i)])) := fun b o e => by
        have e1 := sm b o e
        rw [upd_ne (ne_of_none e1 hT)]; exact e1
      refine ⟨T, _, rfl, SqT.of upd_same, rfl, _, _, rfl, _, _, rfl, rfl, ?_⟩
      refine ⟨U, rfl, ⟨_, S.all _⟩, for_tup (xs := [.ref u0, .ref u1, .ref u2, .ref u3]) (fun j σ H2 => ∃ v6, σ = [some (V.ref l), some (.ref c), some (.ref fm), some (.int ((isum i fun s => fw s * cM a μ s) + fw i * isum j fun u => (wg a i (upX u) (upY u) : Int) * μ ((i / 4 : Nat) : Int) (upX u : Nat) (upY u : Nat))), some (.int (i : Nat)), some (.int (fw i)), v6] ∧ Same H H2)
        ⟨v6, ?_, sT⟩ (fun _ _ _ _ _ => S.all _) ?_ ?_⟩
      · have e0 : (isum 0 fun u => (wg a i (upX u) (upY u) : Int) * μ ((i / 4 : Nat) : Int) (upX u : Nat) (upY u : Nat)) = 0 := rfl
        rw [e0, Int.mul_zero, Int.add_zero]; rfl
      · rintro j x σ H2 hx ⟨w6, rfl, sm2⟩
        obtain ⟨hj, u, rfl, hu⟩ := S.at hx
        have hX : upX j < 2 := by unfold upX; omega
        have hY : upY j < 2 := by unfold upY; omega
        have hk : i / 4 ≤ 6 := by omega
        obtain ⟨m1, m2⟩ := hM.me (i / 4) (upX j) (upY j) hk hX hY
        have e4 : (i : Int) / 4 = ((i / 4 : Nat) : Int) := by omega
        have hw := wg_le ok i (upX j) (upY j)
        walk_at "rd"
        refine ⟨_, _, _, _, _, _, _, u, c, rfl, hu _, sm2.seq hc, ?_, ?_⟩
        · have := ok.b1; have := ok.r1; omega
        rw [hun_eq ok i (upX j) (upY j) hX hY]
        refine ⟨_, rfl, .of_right (intBits_le_64 (by omega) (by omega)), ?_⟩
        simp only [tCallV]
        walk_at "rd"
        refine ⟨fm, rfl, ⟨by decide, by decide⟩, ixT (hu _) rfl (ixT (hu _) rfl ⟨_, rfl, _, rfl, by unfold L2.Sm; omega, R, μ, hM.ok, hRs _ _ sm2 hR, hM.fn _ (hRs _ _ sm2 hR), ?_⟩)⟩
        rw [e4]
        refine ⟨.of_right (intBits_le_64 (by omega) (by omega)), ?_, sm2⟩
        rw [Md.isum_succ, Int.mul_add, Int.mul_assoc, Int.add_assoc]
      · rintro σ H2 ⟨w6, rfl, sm2⟩
        refine ⟨some (V.int (i : Nat)), some (V.int (fw i)), w6, ?_, sm2⟩
        rw [Md.isum_succ]; rfl
    · rintro σ H1 ⟨v4, v5, v6, rfl, sm⟩
      walk_at "rd"
      rw [List.length_map, lsF_len]
      exact k H1 sm
theorem scExp : FnScope ["found", "chances", "measure"] ["found", "chances", "measure"] (defScope sExp) := ⟨rfl, rfl, rfl, by decide +kernel, rfl, by decide +kernel, by decide +kernel⟩
theorem ok_exp {f fM fF : Addr} {fd fdM fdF : FuncData} (F : Fun K "expected" "expected" sExp f fd) (nS : mg "sum" = none)
    (GM : FnOk P w K mg base CX0 4 fM fdM ["found", "chances", "measure"] (spMea P w K mg base)) (kM : PySem.W.keepIn K (.ref fM) = true) (bM : Binds K fdM ["found", "chances", "measure"] []) (gM : mg "measured" = some (.ref fM))
    (GF : FnOk P w K mg base CX0 2 fF fdF ["above", "below"] spFra) (kF : PySem.W.keepIn K (.ref fF) = true) (bF : Binds K fdF ["above", "below"] []) (gF : mg "fraction" = some (.ref fF)) :
    FnOk P w K mg base CX0 5 f fd ["found", "chances", "measure"] (spExp P w K mg base) := by
  refine F.ok scExp (fun vs H Q E h => ?_) (fun cdv A outer s H vs Q E hr h => ?_)
  · obtain ⟨a, l, c, f, R, μ, _, rfl, _⟩ := h; rfl
  · obtain ⟨a, l, c, fm, R, μ, ok, rfl, hl, hc, hM, hR, hRs, k⟩ := h
    refine ⟨_, pss_one (ps_ret (pe_call GF (hr.mono (by decide)) rfl gF kF bF .nil pass0 (pa_cons (pe_call GM hr rfl gM kM bM .nil pass0 (pa_cons (pv 0) (pa_cons (pv 1) (pa_cons (pv 2) pa_nil)))) (pa_cons (pe_op op_mulB pe_int (pe_callB (cr_sum rfl) (by rfl) nS bt_sum (pa_cons (pv 0) pa_nil))) pa_nil)))), ?_⟩
    walk_at "rd"
    have rn := nst_le ok
    refine ⟨a, l, c, fm, WI a, R, μ, ok, rfl, hl, hc, hM, hR, hRs, fun H1 sm => ?_⟩
    have hs : (wsL a (nst a)).sum = isum (nst a) (WI a) := rfl
    have C := Md.chain ok
    have hp := C.wI_sum_pos
    have hb : (isum (nst a) (WI a)).natAbs ≤ 28 * (BIG * 2 ^ 100) := sum_le (fun i => wi_le ok i) rn
    refine ⟨l, _, rfl, sm.seq hl, ?_⟩
    rw [hs]
    refine ⟨_, rfl, .of_left (by decide +kernel), _, _, ?_, ?_, ?_, rfl, fun H' p e1 e2 e3 => k H' p (sm.trans e1) (sm.free e2) e3⟩
    · exact above_nn ok hM.me
    · exact Int.mul_pos (by decide) hp
    · have h4 : 100 * (28 * (BIG * 2 ^ 100)) < 2 ^ 4096 := by decide +kernel
      rw [Int.natAbs_mul]
      exact Nat.lt_of_le_of_lt (Nat.mul_le_mul_left 100 hb) h4
end
/-! ### hour_on -/
abbrev sHon : Stmt := top 18
abbrev sEso : Stmt := top 19
def bL (a : Su113.Abs) (fw : Nat → Int) (i j : Nat) : List Int := lsF (nst a) fun t => isum i (fun s => fw s * Md.hitS a s 4 t) + fw i * Md.hitS a i j t
theorem bL_zero (a : Su113.Abs) (fw : Nat → Int) : List.replicate (nst a) (0 : Int) = bL a fw 0 0 := by
  unfold bL lsF
  apply List.ext_getElem?
  intro t
  by_cases ht : t < nst a
  · rw [List.getElem?_replicate, if_pos ht, List.getElem?_map, List.getElem?_range ht]
    show some 0 = some (0 + fw 0 * 0)
    simp
  · rw [List.getElem?_eq_none (by simp; omega), List.getElem?_eq_none (by simp; omega)]
theorem bL_next (a : Su113.Abs) (fw : Nat → Int) (i : Nat) : bL a fw i 4 = bL a fw (i + 1) 0 := by
  unfold bL lsF
  apply List.map_congr_left; intro t _
  rw [Md.isum_succ]
  show _ = _ + fw (i + 1) * 0
  simp
theorem bL_end (a : Su113.Abs) (fw : Nat → Int) : bL a fw (nst a) 0 = lsF (nst a) (Md.onF a fw) := by
  unfold bL lsF
  apply List.map_congr_left; intro t _
  show _ + fw (nst a) * 0 = _
  rw [Int.mul_zero, Int.add_zero]; rfl
theorem bL_step {a : Su113.Abs} {fw : Nat → Int} {i j : Nat} (hi : i < nst a) (hj : j < 4) {z : Int} (hz : (bL a fw i j)[nx a i (upX j) (upY j)]? = some z) :
    (bL a fw i j).set (nx a i (upX j) (upY j)) (z + fw i * (wg a i (upX j) (upY j) : Int)) = bL a fw i (j + 1) := by
  have hn : nx a i (upX j) (upY j) < nst a := Md.nx_lt hi (by unfold upX; omega) (by unfold upY; omega)
  apply List.ext_getElem?
  intro t
  by_cases ht : t < nst a
  · have e1 : ∀ j, (bL a fw i j)[t]? = some (isum i (fun s => fw s * Md.hitS a s 4 t) + fw i * Md.hitS a i j t) := fun j => lsF_get ht
    have e2 : Md.hitS a i (j + 1) t = Md.hitS a i j t + (hit a i t (upX j) (upY j) : Int) := Md.isum_succ _ _
    rw [e1 (j + 1), e2]
    by_cases q : nx a i (upX j) (upY j) = t
    · subst q
      rw [List.getElem?_set_self (by unfold bL; rw [lsF_len]; exact hn)]
      rw [e1 j] at hz
      have e := Option.some.inj hz
      rw [← e]
      have : hit a i (nx a i (upX j) (upY j)) (upX j) (upY j) = wg a i (upX j) (upY j) := by unfold hit; rw [if_pos rfl]
      rw [this, Int.mul_add, Int.add_assoc]
    · rw [List.getElem?_set_ne q, e1 j]
      have : hit a i t (upX j) (upY j) = 0 := by unfold hit; rw [if_neg q]
      rw [this]; simp
  · rw [List.getElem?_eq_none (by rw [List.length_set]; unfold bL; rw [lsF_len]; omega), List.getElem?_eq_none (by unfold bL; rw [lsF_len]; omega)]
def spHon (K : PySem.W.Frag) : Sp := fun vs H Q _ => ∃ (a : Su113.Abs) (l c : Addr) (fw : Nat → Int), Md.Ok a ∧ vs = [.ref l, .ref c, .int a.room] ∧
  SqL K H l ((lsF (nst a) fw).map V.int) ∧ SqL K H c (chV a) ∧
  ∀ H' p, Same H H' → H p = none → H' p = some (.lst ((lsF (nst a) (Md.onF a fw)).map V.int)) → Q (.ref p) H'
section
variable {P : Program} {w : World} {K : PySem.W.Frag} {mg : Str → Option Value} {base : Heap}
abbrev nHon : List Str := ["found", "chances", "holds", "behind", "state", "weight", "ups"]
theorem scHon : FnScope nHon ["found", "chances", "holds"] (defScope sHon) := ⟨rfl, rfl, rfl, by decide +kernel, rfl, by decide +kernel, by decide +kernel⟩
theorem ok_hon {f fH fP U u0 u1 u2 u3 : Addr} {fd fdH fdP : FuncData} (F : Fun K "hour_on" "hour_on" sHon f fd) (nE : mg "enumerate" = none) (nL : mg "len" = none) (S : Ups K mg U u0 u1 u2 u3)
    (GP : FnOk P w K mg base CX0 4 fP fdP ["state", "ups", "holds"] (spStb K)) (kP : PySem.W.keepIn K (.ref fP) = true) (bP : Binds K fdP ["state", "ups", "holds"] []) (gP : mg "state_behind" = some (.ref fP))
    (GH : FnOk P w K mg base CX0 2 fH fdH ["state", "ups", "chances"] (spHun K)) (kH : PySem.W.keepIn K (.ref fH) = true) (bH : Binds K fdH ["state", "ups", "chances"] []) (gH : mg "hundredths" = some (.ref fH)) :
    FnOk P w K mg base CX0 5 f fd ["found", "chances", "holds"] (spHon K) := by
  refine F.ok scHon (fun vs H Q E h => ?_) (fun cdv A outer s H vs Q E hr h => ?_)
  · obtain ⟨a, l, c, fw, _, rfl, _⟩ := h; rfl
  · obtain ⟨a, l, c, fw, ok, rfl, hl, hc, k⟩ := h
    refine ⟨_, pss_cons (ps_set (i := 3) scHon.nd rfl (Or.inl rfl) (pe_op op_rep (pe_lst (pa_cons pe_int pa_nil)) (pe_callB call_len_seq (by rfl) nL PySem.boot_len (pa_cons (pv 0) pa_nil))))
      (pss_cons (ps_for PassesOwn.never rfl (pi_enum rfl nE (pa_cons (pv 0) pa_nil)) (pg_tup (n := 2) rfl (pgs_cons (pg_name (i := 4) scHon.nd rfl (Or.inl rfl)) (pgs_cons (pg_name (i := 5) scHon.nd rfl (Or.inl rfl)) pgs_nil)))
        (pss_one (ps_for PassesOwn.never rfl (pi_tup (pe_glob (v := V.ref U) rfl S.mg rfl)) (pg_name (i := 6) scHon.nd rfl (Or.inl rfl))
          (pss_one (ps_augS (pv 3) (pe_call GP hr rfl gP kP bP .nil pass0 (pa_cons (pv 4) (pa_cons (pv 6) (pa_cons (pv 2) pa_nil)))) get_listP
            (pe_op op_mulB (pv 5) (pe_call GH (hr.mono (by decide)) rfl gH kH bH .nil pass0 (pa_cons (pv 4) (pa_cons (pv 6) (pa_cons (pv 1) pa_nil))))) ip_add set_list)))))
      (pss_one (ps_ret (pv 3)))), ?_⟩
    walk_at "rd"
    have rn := nst_le ok
    have elen : ((lsF (nst a) fw).map V.int).length = nst a := by rw [List.length_map, lsF_len]
    refine ⟨by show 1 ≤ sizeLine; decide, fun z hz => ?_⟩
    have s0 : Same H (upd H z (.lst [V.int 0])) := fun b o e => by rw [upd_ne (ne_of_none e hz)]; exact e
    refine ⟨l, rfl, _, .inl (s0.seq hl), ?_⟩
    rw [elen]
    refine ⟨z, _, _, rfl, rfl, upd_same, by omega, by omega, ?_, fun p hp => ?_⟩
    · show 1 * (nst a : Int).toNat ≤ sizeLine
      exact Nat.le_trans (by omega) (show 28 ≤ sizeLine by decide)
    rw [show ((nst a : Nat) : Int).toNat = nst a by omega, rep_flat, bL_zero a fw]
    have hp0 : H p = none := s0.free hp
    have s1 : Same H (upd (upd H z (.lst [V.int 0])) p (.lst ((bL a fw 0 0).map V.int))) := fun b o e => by rw [upd_ne (ne_of_none (s0 b o e) hp)]; exact s0 b o e
    refine ⟨_, rfl, l, _, rfl, s1.seq hl, for_enum (K := K) (a := l) (xs := (lsF (nst a) fw).map V.int) (fun i σ H1 => ∃ v4 v5 v6, σ = [some (V.ref l), some (.ref c), some (.int a.room), some (.ref p), v4, v5, v6] ∧ Same H H1 ∧ H1 p = some (.lst ((bL a fw i 0).map V.int)))
      ⟨_, _, _, rfl, s1, upd_same⟩ (fun i σ H1 _ ⟨_, _, _, _, e, _⟩ => e.seq hl) ?_ ?_⟩
    · rintro i x σ H1 T hx ⟨v4, v5, v6, rfl, sm, hb⟩ hT
      have hi : i < nst a := by have := (List.getElem?_eq_some_iff.mp hx).1; rw [elen] at this; exact this
      obtain rfl : x = V.int (fw i) := by
        rw [List.getElem?_map, lsF_get hi] at hx
        exact (Option.some.inj hx).symm
      have sT : Same H1 (upd H1 T (.tup [.int (i : Nat), .int (fw i)])) := fun b o e => by
        rw [upd_ne (ne_of_none e hT)]; exact e
      refine ⟨T, _, rfl, SqT.of upd_same, rfl, _, _, rfl, _, _, rfl, rfl, ?_⟩
      refine ⟨U, rfl, ⟨_, S.all _⟩, for_tup (xs := [.ref u0, .ref u1, .ref u2, .ref u3]) (fun j σ H2 => ∃ v6, σ = [some (V.ref l), some (.ref c), some (.int a.room), some (.ref p), some (.int (i : Nat)), some (.int (fw i)), v6] ∧ Same H H2 ∧ H2 p = some (.lst ((bL a fw i j).map V.int)))
        ⟨v6, rfl, sm.trans sT, sT _ _ hb⟩ (fun _ _ _ _ _ => S.all _) ?_ ?_⟩
      · rintro j x σ H2 hx ⟨w6, rfl, sm2, hb2⟩
        obtain ⟨hj, u, rfl, hu⟩ := S.at hx
        have hX : upX j < 2 := by unfold upX; omega
        have hY : upY j < 2 := by unfold upY; omega
        have e4 : (i : Int) / 4 = ((i / 4 : Nat) : Int) := by omega
        have hw := wg_le ok i (upX j) (upY j)
        have hn := Md.nx_lt hi hX hY
        have ei := nx_int a i (upX j) (upY j) hX hY
        have hz := lsF_get (n := nst a) (i := nx a i (upX j) (upY j)) (f := fun t => isum i (fun s => fw s * Md.hitS a s 4 t) + fw i * Md.hitS a i j t) hn
        walk_at "rd"
        refine ⟨_, _, _, _, u, rfl, hu _, ?_⟩
        walk_at "rd"
        rw [e4, ei]
        refine ixL (SqL.of hb2) (atI_nat (j := nx a i (upX j) (upY j)) (by rw [List.getElem?_map]; unfold bL; rw [hz]; rfl)) ?_
        refine ⟨_, _, _, _, _, _, _, u, c, rfl, hu _, sm2.seq hc, ?_, _, rfl, ?_⟩
        · have := ok.b1; have := ok.r1; omega
        rw [hun_eq ok i (upX j) (upY j) hX hY]
        refine ⟨.of_right (intBits_le_64 (by omega) (by omega)), _, rfl, p, rfl, _, hb2, _, ixN_nat' (by rw [List.length_map]; unfold bL; rw [lsF_len]; exact hn), ?_, ?_⟩
        · intro b o e
          rw [upd_ne (ne_of_none e hp0)]; exact sm2 b o e
        · rw [upd_same, ← List.map_set, bL_step hi hj hz]
      · rintro σ H2 ⟨w6, rfl, sm2, hb2⟩
        exact ⟨some (V.int (i : Nat)), some (V.int (fw i)), w6, rfl, sm2, by rw [← bL_next]; exact hb2⟩
    · rintro σ H1 ⟨v4, v5, v6, rfl, sm, hb⟩
      walk_at "rd"
      rw [elen, bL_end] at hb
      exact k H1 p sm hp0 hb
/-! ### expected_soon -/
def spEso (P : Program) (w : World) (K : PySem.W.Frag) (mg : Str → Option Value) (base : Heap) : Sp := fun vs H Q _ => ∃ (a : Su113.Abs) (s n : Nat) (c f : Addr) (R : Hp → Prop) (μ : Int → Int → Int → Int), Md.Ok a ∧ s < nst a ∧ n ≤ 5 ∧ vs = [.int s, .ref c, .int a.room, .int n, .ref f] ∧
  SqL K H c (chV a) ∧ Cal P w K mg base f R μ ∧ R H ∧ (∀ H1 H2, Same H1 H2 → R H1 → R H2) ∧ (∀ i, i < nst a → cM a μ i = Md.cS a i) ∧
  ∀ H' p, Same H H' → H p = none → H' p = some (.lst ((fracL (Md.VV a n s) (100 ^ n)).map V.int)) → Q (.ref p) H'
theorem scEso : FnScope ["state", "chances", "holds", "hours", "measure", "found", "above", "below", "past"] ["state", "chances", "holds", "hours", "measure"] (defScope sEso) := ⟨rfl, rfl, rfl, by decide +kernel, rfl, by decide +kernel, by decide +kernel⟩
theorem fK_zero (a : Su113.Abs) (s : Nat) (hs : s < nst a) : (List.replicate (nst a) (0 : Int)).set s 1 = lsF (nst a) (Md.fK a s 0) := by
  unfold lsF
  apply List.ext_getElem?
  intro t
  by_cases ht : t < nst a
  · rw [List.getElem?_map, List.getElem?_range ht]
    show _ = some (if s = t then (1 : Int) else 0)
    by_cases q : s = t
    · subst q
      rw [List.getElem?_set_self (by simpa using ht), if_pos rfl]
    · rw [List.getElem?_set_ne q, List.getElem?_replicate, if_pos ht, if_neg q]
  · rw [List.getElem?_eq_none (by simp; omega), List.getElem?_eq_none (by simp; omega)]
theorem ok_eso {f fM fO fF : Addr} {fd fdM fdO fdF : FuncData} (F : Fun K "expected_soon" "expected_soon" sEso f fd) (nR : mg "range" = none)
    (GM : FnOk P w K mg base CX0 4 fM fdM ["found", "chances", "measure"] (spMea P w K mg base)) (kM : PySem.W.keepIn K (.ref fM) = true) (bM : Binds K fdM ["found", "chances", "measure"] []) (gM : mg "measured" = some (.ref fM))
    (GO : FnOk P w K mg base CX0 5 fO fdO ["found", "chances", "holds"] (spHon K)) (kO : PySem.W.keepIn K (.ref fO) = true) (bO : Binds K fdO ["found", "chances", "holds"] []) (gO : mg "hour_on" = some (.ref fO))
    (GF : FnOk P w K mg base CX0 2 fF fdF ["above", "below"] spFra) (kF : PySem.W.keepIn K (.ref fF) = true) (bF : Binds K fdF ["above", "below"] []) (gF : mg "fraction" = some (.ref fF)) :
    FnOk P w K mg base CX0 6 f fd ["state", "chances", "holds", "hours", "measure"] (spEso P w K mg base) := by
  refine F.ok scEso (fun vs H Q E h => ?_) (fun cdv A outer s H vs Q E hr h => ?_)
  · obtain ⟨a, s, n, c, f, R, μ, _, _, _, rfl, _⟩ := h; rfl
  · obtain ⟨a, q0, n, c, fm, R, μ, ok, hs, hn, rfl, hc, hM, hR, hRs, hμ, k⟩ := h
    refine ⟨_, pss_cons (ps_set (i := 5) scEso.nd rfl (Or.inl rfl) (pe_op op_rep (pe_lst (pa_cons pe_int pa_nil)) (pe_op op_mul pe_int (pe_op op_add (pv 2) pe_int))))
      (pss_cons (ps_asg pe_int (pg_sub (pv 5) (pv 0) set_list))
      (pss_cons (ps_set (i := 6) scEso.nd rfl (Or.inl rfl) pe_int)
      (pss_cons (ps_set (i := 7) scEso.nd rfl (Or.inl rfl) pe_int)
      (pss_cons (ps_for PassesOwn.never rfl (pi_range1 rfl nR (pa_cons (pv 3) pa_nil)) (pg_name (i := 8) scEso.nd rfl (Or.inl rfl))
        (pss_cons (ps_set (i := 6) scEso.nd rfl (Or.inl rfl) (pe_op op_add (pe_op op_mulB pe_int (pv 6)) (pe_call GM (hr.mono (by decide)) rfl gM kM bM .nil pass0 (pa_cons (pv 5) (pa_cons (pv 1) (pa_cons (pv 4) pa_nil))))))
        (pss_cons (ps_set (i := 7) scEso.nd rfl (Or.inl rfl) (pe_op op_mulB pe_int (pv 7)))
        (pss_one (ps_set (i := 5) scEso.nd rfl (Or.inl rfl) (pe_call GO hr rfl gO kO bO .nil pass0 (pa_cons (pv 5) (pa_cons (pv 1) (pa_cons (pv 2) pa_nil)))))))))
      (pss_one (ps_ret (pe_call GF (hr.mono (by decide)) rfl gF kF bF .nil pass0 (pa_cons (pv 6) (pa_cons (pv 7) pa_nil))))))))), ?_⟩
    walk_at "rd"
    have rn := nst_le ok
    have rm := ok.room
    have en : (4 * ((a.room : Int) + 1)).toNat = nst a := by unfold nst; omega
    refine ⟨by show 1 ≤ sizeLine; decide, fun z hz => ⟨.inl (by constructor <;> decide), z, _, _, rfl, rfl, upd_same, by omega, by omega, ?_, fun p hp => ?_⟩⟩
    · rw [en]; show 1 * nst a ≤ sizeLine
      exact Nat.le_trans (by omega) (show 28 ≤ sizeLine by decide)
    rw [en, rep_flat]
    have s0 : Same H (upd H z (.lst [V.int 0])) := fun b o e => by rw [upd_ne (ne_of_none e hz)]; exact e
    have hp0 : H p = none := s0.free hp
    refine ⟨_, rfl, _, rfl, p, _, _, q0, rfl, rfl, upd_same, ixN_nat' (by simpa using hs), ?_⟩
    rw [← List.map_set (f := V.int) (a := (1 : Int)), fK_zero a q0 hs]
    have s1 : Same H (upd (upd (upd H z (.lst [V.int 0])) p (.lst ((List.replicate (nst a) (0 : Int)).map V.int))) p (.lst ((lsF (nst a) (Md.fK a q0 0)).map V.int))) := fun b o e => by
      rw [upd_upd, upd_ne (ne_of_none (s0 b o e) hp)]; exact s0 b o e
    refine ⟨_, rfl, _, rfl, by omega, by omega, ?_⟩
    rw [show ((n : Nat) : Int).toNat = n by omega]
    refine for_range (n := n) (fun i σ H1 => ∃ l v8, σ = [some (V.int q0), some (.ref c), some (.int a.room), some (.int n), some (.ref fm), some (.ref l), some (.int (Md.aK a q0 i)), some (.int (100 ^ i)), v8] ∧ Same H H1 ∧ H1 l = some (.lst ((lsF (nst a) (Md.fK a q0 i)).map V.int)))
      ⟨p, _, rfl, s1, upd_same⟩ ?_ ?_
    · rintro i σ H1 hi ⟨l, v8, rfl, sm, hl⟩
      walk_at "rd"
      refine ⟨.of_left (by decide +kernel), a, l, c, fm, Md.fK a q0 i, R, μ, ok, rfl, SqL.of hl, sm.seq hc, hM, hRs _ _ sm hR, hRs, fun H2 sm2 => ?_⟩
      have e1 : (isum (nst a) fun t => Md.fK a q0 i t * cM a μ t) = isum (nst a) fun t => Md.fK a q0 i t * Md.cS a t := Md.isum_congr fun t ht => by rw [hμ t ht]
      rw [e1]
      refine ⟨_, rfl, .of_left (by decide +kernel), a, l, c, Md.fK a q0 i, ok, rfl, SqL.of (sm2 _ _ hl), (sm.trans sm2).seq hc, fun H3 p3 sm3 hp3 hl3 => ⟨p3, rfl, rfl, ?_, (sm.trans sm2).trans sm3, hl3⟩⟩
      rw [Int.pow_succ, Int.mul_comm (100 ^ i) 100]
    · rintro σ H1 ⟨l, v8, rfl, sm, hl⟩
      walk_at "rd"
      have ev := Md.soon_eq a q0 hs n
      rw [ev]
      have hpos : (0 : Int) < 100 ^ n := Int.pow_pos (by decide)
      refine ⟨_, _, by unfold Md.VV; omega, hpos, ?_, rfl, fun H' p' e1 e2 e3 => k H' p' (sm.trans e1) (sm.free e2) e3⟩
      rw [Int.natAbs_pow]
      exact Nat.lt_of_le_of_lt (Nat.pow_le_pow_right (by decide) hn) (by decide +kernel)
end
theorem bt_tuple : bootBuiltins "tuple" = some (.type "tuple") := by decide +kernel
theorem bt_all : bootBuiltins "all" = some (.builtin "all") := by decide +kernel
/-! ### the object -/
def lineF (b : Bool) (c : Addr) (h p x y : Int) (d : Addr) : List (Str × V) := [("begun", .bl b), ("chances", .ref c), ("holds", .int h), ("pieces", .int p), ("first", .int x), ("second", .int y), ("known", .ref d)]
section
variable {b b' : Bool} {c c' d d' : Addr} {h h' p p' x x' y y' : Int}
theorem lk_begun : (lineF b c h p x y d).lookup ("begun" : Str) = some (.bl b) := rfl
theorem lk_chances : (lineF b c h p x y d).lookup ("chances" : Str) = some (.ref c) := rfl
theorem lk_holds : (lineF b c h p x y d).lookup ("holds" : Str) = some (.int h) := rfl
theorem lk_pieces : (lineF b c h p x y d).lookup ("pieces" : Str) = some (.int p) := rfl
theorem lk_first : (lineF b c h p x y d).lookup ("first" : Str) = some (.int x) := rfl
theorem lk_second : (lineF b c h p x y d).lookup ("second" : Str) = some (.int y) := rfl
theorem lk_known : (lineF b c h p x y d).lookup ("known" : Str) = some (.ref d) := rfl
theorem pt_begun : putF "begun" (.bl b') (lineF b c h p x y d) = lineF b' c h p x y d := rfl
theorem pt_chances : putF "chances" (.ref c') (lineF b c h p x y d) = lineF b c' h p x y d := rfl
theorem pt_holds : putF "holds" (.int h') (lineF b c h p x y d) = lineF b c h' p x y d := rfl
theorem pt_pieces : putF "pieces" (.int p') (lineF b c h p x y d) = lineF b c h p' x y d := rfl
theorem pt_first : putF "first" (.int x') (lineF b c h p x y d) = lineF b c h p x' y d := rfl
theorem pt_second : putF "second" (.int y') (lineF b c h p x y d) = lineF b c h p x y' d := rfl
end
/-- the class as it stands behind the top -/
structure Txt (K : PySem.W.Frag) (C : Addr) : Prop where
  cl : Cls K C
  nB : NoAttr K C "begun"
  nC : NoAttr K C "chances"
  nH : NoAttr K C "holds"
  nP : NoAttr K C "pieces"
  nF : NoAttr K C "first"
  nS : NoAttr K C "second"
  nK : NoAttr K C "known"
/-- the key of a line -/
def keyOf (a : Su113.Abs) : List Key := [.inl a.b1, .inl a.r1, .inl a.b2, .inl a.r2, .inl a.room]
/-- what is known: of each key its weights -/
def Known (H : Hp) (kvs : List (List Key × V)) : Prop := ∀ q ∈ kvs, ∃ (a : Su113.Abs) (w : Addr), Md.Ok a ∧ q.1 = keyOf a ∧ q.2 = .ref w ∧ H w = some (.lst ((wsL a (nst a)).map V.int))
/-- the object's numbers while it is begun -/
structure Now (a : Su113.Abs) : Prop where
  ok : Md.Ok a
  pc : a.now.1 ≤ a.room
  fx : a.now.2.1 < 2
  sy : a.now.2.2 < 2
def LineAt (C : Addr) (H : Hp) (l : Addr) (s : Option Su113.Abs) (n : Nat) : Prop := ∃ (dx c d : Addr) (kvs : List (List Key × V)), H d = some (.dT kvs) ∧ Known H kvs ∧ kvs.length ≤ n ∧
  match s with
  | none => H l = some (.ins C dx (lineF false c 0 0 1 1 d))
  | some a => Now a ∧ H l = some (.ins C dx (lineF true c a.room a.now.1 a.now.2.1 a.now.2.2 d)) ∧ H c = some (.lst (chV a))
/-- all but dicts is as it was -/
def KD (H H' : Hp) : Prop := ∀ b o, H b = some o → (∀ kvs, o ≠ .dT kvs) → H' b = some o
theorem kd_of {H H' : Hp} (e : Same H H') : KD H H' := fun b o h _ => e b o h
theorem KD.trans {H H1 H2 : Hp} (a : KD H H1) (b : KD H1 H2) : KD H H2 := fun x o h n => b x o (a x o h n) n
theorem Known.mono {H H' : Hp} {kvs : List (List Key × V)} (k : Known H kvs) (e : KD H H') : Known H' kvs := fun q hq => by
  obtain ⟨a, w, o, h1, h2, h3⟩ := k q hq
  exact ⟨a, w, o, h1, h2, e _ _ h3 (by intro kvs z; cases z)⟩
theorem LineAt.same {C : Addr} {H H' : Hp} {l : Addr} {s : Option Su113.Abs} {n m : Nat} (L : LineAt C H l s n) (e : Same H H') (hm : n ≤ m) : LineAt C H' l s m := by
  obtain ⟨dx, c, d, kvs, h1, h2, h3, h4⟩ := L
  refine ⟨dx, c, d, kvs, e _ _ h1, h2.mono (kd_of e), Nat.le_trans h3 hm, ?_⟩
  cases s with
  | none => exact e _ _ h4
  | some a => exact ⟨h4.1, e _ _ h4.2.1, e _ _ h4.2.2⟩
theorem key_inj {a b : Su113.Abs} (h : keyOf a = keyOf b) : wsL a (nst a) = wsL b (nst b) := by
  unfold keyOf at h
  simp at h
  obtain ⟨h1, h2, h3, h4, h5⟩ := h
  have h1 : a.b1 = b.b1 := by omega
  have h2 : a.r1 = b.r1 := by omega
  have h3 : a.b2 = b.b2 := by omega
  have h4 : a.r2 = b.r2 := by omega
  have h5 : a.room = b.room := by omega
  have e : ∀ i j, Pm a i j = Pm b i j := by
    intro i j
    unfold Pm hit nx wg Su113.Abs.next Su113.Abs.weight Su113.Abs.first Su113.Abs.second
    rw [h1, h2, h3, h4, h5]
  have e2 : Pm a = Pm b := by funext i j; exact e i j
  have e3 : nst a = nst b := by unfold nst; rw [h5]
  unfold wsL WI
  rw [e2, e3]
/-! ### long_run -/
abbrev sLon : Stmt := top 37
def spLon (C : Addr) (K : PySem.W.Frag) : Sp := fun vs H Q _ => ∃ (a b : Su113.Abs) (l c : Addr) (n : Nat), n < 100000 ∧ vs = [.ref l, .ref c, .int b.room] ∧ Md.Ok b ∧ H c = some (.lst (chV b)) ∧ LineAt C H l (some a) n ∧
  ∀ H' w, KD H H' → LineAt C H' l (some a) (n + 1) → H' w = some (.lst ((wsL b (nst b)).map V.int)) → Q (.ref w) H'
section
variable {P : Program} {w : World} {K : PySem.W.Frag} {mg : Str → Option Value} {base : Heap}
theorem scLon : FnScope ["line", "chances", "holds", "key"] ["line", "chances", "holds"] (defScope sLon) := ⟨rfl, rfl, rfl, by decide +kernel, rfl, by decide +kernel, by decide +kernel⟩
theorem fT {K : PySem.W.Frag} {f : Str} {i : Nat} {σ : L2.St} {H : Hp} {l C dx : Addr} {fs : List (Str × V)} {v : V} {Q : VK} (hi : σ[i]? = some (some (.ref l))) (h : H l = some (.ins C dx fs)) (c : Cls K C) (n : NoAttr K C f) (e : fs.lookup f = some v) (q : Q v H) :
    tFld K (tVar i) f σ H Q := ⟨_, hi, l, C, dx, fs, v, rfl, h, c, n, e, q⟩
theorem known_at {H : Hp} {kvs : List (List Key × V)} {a : Su113.Abs} {v : V} (hk : Known H kvs) (h : valV kvs (keyOf a) = some v) : ∃ w, v = .ref w ∧ H w = some (.lst ((wsL a (nst a)).map V.int)) := by
  unfold valV at h
  cases e : kvs.find? (fun kv => decide (kv.1 = keyOf a)) with
  | none => rw [e] at h; cases h
  | some q =>
    rw [e] at h
    have hq := List.find?_some e
    have hm := List.mem_of_find?_eq_some e
    obtain ⟨a', w, _, h1, h2, h3⟩ := hk q hm
    have h4 : q.1 = keyOf a := of_decide_eq_true hq
    have h5 := key_inj (h1.symm.trans h4)
    have h6 : q.2 = v := Option.some.inj h
    exact ⟨w, h6.symm.trans h2, by rw [← h5]; exact h3⟩
theorem ok_lon {f C fW : Addr} {fd fdW : FuncData} (F : Fun K "long_run" "long_run" sLon f fd) (T : Txt K C) (nT : mg "tuple" = none)
    (GW : FnOk P w K mg base CX0 6 fW fdW ["chances", "holds"] (spWei K)) (kW : PySem.W.keepIn K (.ref fW) = true) (bW : Binds K fdW ["chances", "holds"] []) (gW : mg "weights" = some (.ref fW)) :
    FnOk P w K mg base CX0 7 f fd ["line", "chances", "holds"] (spLon C K) := by
  refine F.ok scLon (fun vs H Q E h => ?_) (fun cdv A outer s H vs Q E hr h => ?_)
  · obtain ⟨a, b, l, c, n, _, rfl, _⟩ := h; rfl
  · obtain ⟨a0, a, l, c, n, hn, rfl, okb, hc, ⟨dx, c', d, kvs, hd, hk, hkn, nw, hl, hc'⟩, k⟩ := h
    have hu := hu_of hr
    refine ⟨_, pss_cons (ps_set (i := 3) scLon.nd rfl (Or.inl rfl) (pe_callTy call_tuple_of (by rfl) nT bt_tuple (pa_cons (pe_op op_cat (pv 1) (pe_lst (pa_cons (pv 2) pa_nil))) pa_nil)))
      (pss_cons (ps_if (pt_cmp (pc_dnotin hu (pv 3) (pe_fld (pv 0) rfl)) rfl)
        (pss_one (ps_dput hu (pe_fld (pv 0) rfl) (pv 3) (pe_call GW hr rfl gW kW bW .nil pass0 (pa_cons (pv 1) (pa_cons (pv 2) pa_nil))) rfl)) pss_nil)
      (pss_one (ps_ret (pe_dget hu (pe_fld (pv 0) rfl) (pv 3) (fun _ _ => rfl))))), ?_⟩
    walk_at "rd"
    refine ⟨_, rfl, by show 1 ≤ sizeLine; decide, fun e he => ?_⟩
    have s2 : Same H (upd H e (.lst [V.int a.room])) := fun b o h => by rw [upd_ne (ne_of_none h he)]; exact h
    refine ⟨c, e, _, _, rfl, rfl, s2 _ _ hc, upd_same, by show 5 ≤ sizeLine; decide, fun g hg => ⟨g, rfl, _, .inl ⟨SqL.of upd_same, fun t ht => ?_⟩⟩⟩
    have s3 : Same H (upd (upd H e (.lst [V.int a.room])) g (.lst (chV a ++ [V.int a.room]))) := fun b o h => by rw [upd_ne (ne_of_none (s2 b o h) hg)]; exact s2 b o h
    have s4 : Same H (upd (upd (upd H e (.lst [V.int a.room])) g (.lst (chV a ++ [V.int a.room]))) t (.tup (chV a ++ [V.int a.room]))) := fun b o h => by rw [upd_ne (ne_of_none (s3 b o h) ht)]; exact s3 b o h
    have hkey : upd (upd (upd H e (.lst [V.int a.room])) g (.lst (chV a ++ [V.int a.room]))) t (.tup (chV a ++ [V.int a.room])) t = some (.tup ((keyOf a).map kV)) := upd_same
    generalize upd (upd (upd H e (.lst [V.int a.room])) g (.lst (chV a ++ [V.int a.room]))) t (.tup (chV a ++ [V.int a.room])) = H4 at s4 hkey
    refine ⟨_, rfl, fT rfl (s4 _ _ hl) T.cl T.nK lk_known ⟨d, _, rfl, DGet.t (s4 _ _ hd) hkey, _, rfl, ?_⟩⟩
    cases ev : valV kvs (keyOf a) with
    | some v =>
      obtain ⟨w', rfl, hw⟩ := known_at hk ev
      rw [if_neg (by simp)]
      refine fT rfl (s4 _ _ hl) T.cl T.nK lk_known ⟨_, rfl, d, _, rfl, by rw [← ev]; exact DGet.t (s4 _ _ hd) hkey, ?_⟩
      exact k H4 w' (kd_of s4) (LineAt.same ⟨dx, c', d, kvs, hd, hk, hkn, nw, hl, hc'⟩ s4 (by omega)) (s4 _ _ hw)
    | none =>
      rw [if_pos (by rfl)]
      simp only [sDPut]
      walk_at "rd"
      refine ⟨a, c, okb, rfl, SqL.of (s4 _ _ hc), fun H5 w5 sm5 hw5 hW5 => ?_⟩
      have s5 := s4.trans sm5
      have hln : kvs.length < sizeLine := Nat.lt_of_le_of_lt hkn (Nat.lt_trans hn (by decide))
      refine fT rfl (s5 _ _ hl) T.cl T.nK lk_known ⟨d, rfl, _, DPut.t (s5 _ _ hd) (sm5 _ _ hkey) hln, ?_⟩
      have ek : KD H (upd H5 d (.dT (putK kvs (keyOf a) (.ref w5)))) := fun b o h n => by
        rw [upd_ne (fun z => by rw [z, hd] at h; cases h; exact n _ rfl)]; exact s5 b o h
      have hl6 : upd H5 d (.dT (putK kvs (keyOf a) (.ref w5))) l = some (.ins C dx (lineF true c' a0.room a0.now.1 a0.now.2.1 a0.now.2.2 d)) := ek _ _ hl (by intro kvs z; cases z)
      have hw6 : upd H5 d (.dT (putK kvs (keyOf a) (.ref w5))) w5 = some (.lst ((wsL a (nst a)).map V.int)) := by
        rw [upd_ne (fun z => by rw [z, s5 _ _ hd] at hW5; cases hW5)]; exact hW5
      have hkey6 : upd H5 d (.dT (putK kvs (keyOf a) (.ref w5))) t = some (.tup ((keyOf a).map kV)) := by
        rw [upd_ne (fun z => by have := sm5 _ _ hkey; rw [z, s5 _ _ hd] at this; cases this)]; exact sm5 _ _ hkey
      have ev6 : valV (putK kvs (keyOf a) (.ref w5)) (keyOf a) = some (.ref w5) := by rw [putK_new _ ev, valV_snoc _ _ _ _ ev, if_pos rfl]
      show tDGet (tFld K (tVar 0) "known") (tVar 3) _ _ _
      refine fT rfl hl6 T.cl T.nK lk_known ⟨_, rfl, d, _, rfl, by rw [← ev6]; exact DGet.t upd_same hkey6, ?_⟩
      refine k _ w5 ek ⟨dx, c', d, _, upd_same, ?_, ?_, nw, hl6, ek _ _ hc' (by intro kvs z; cases z)⟩ hw6
      · intro q hq
        rw [putK_new _ ev] at hq
        rcases List.mem_append.mp hq with hq | hq
        · exact (hk.mono ek) q hq
        · have : q = (keyOf a, .ref w5) := by simpa using hq
          subst this
          exact ⟨a, w5, okb, rfl, rfl, hw6⟩
      · rw [putK_new _ ev, List.length_append]; show kvs.length + 1 ≤ _; omega
end
open PySem.W (CodeHd envX)
/-- a def whose code is known -/
theorem okL {P : Program} {w : World} {K : PySem.W.Frag} {mg : Str → Option Value} {base : Heap} {x qual : Str} {st : Stmt} {f : Addr} {fd : FuncData} {N ps : List Str} {k : Nat} {sp : Sp} (F : Fun K x qual st f fd) (S : FnScope N ps (defScope st)) (len : ∀ vs H Q E, sp vs H Q E → vs.length = ps.length)
    (hbody : ∀ (A : Around) (outer : List Env) (s : Shared) (H : Hp) (vs : List V) (Q : VK) (E : XK), Room k (A.deeper (envOfC qual (defScope st) s.heap.objs.size f fd.code)) → sp vs H Q E →
      ∃ t, PSs (cxOf CX0 P w K mg base N qual (defScope st) f fd.code A outer s H E).nox (defBody st) t ∧ t { nx := fun _ H' => Q .non H', rt := Q } (start N vs) H) : FnOk P w K mg base CX0 (k + 1) f fd ps sp := by
  obtain ⟨oc, od, kV, doc, pm, an, cdv, ct, osl, rfl, lk, hcd⟩ := F.ex
  refine fn_of lk hcd S len fun A outer s H vs Q E hr hsp => ?_
  obtain ⟨t, h, q⟩ := hbody A outer s H vs Q E hr hsp
  exact ⟨t, h.nox, q⟩
/-! ### looked_for -/
abbrev sLok : Stmt := top 38
def spLok (P : Program) (w : World) (mg : Str → Option Value) (base : Heap) (C : Addr) (K : PySem.W.Frag) : Sp := fun vs H Q _ => ∃ (a : Su113.Abs) (l f : Addr) (n : Nat) (R : Hp → Prop) (μ : Int → Int → Int → Int), n < 100000 ∧ vs = [.ref l, .ref f] ∧ LineAt C H l (some a) n ∧
  Cal P w K mg base f R μ ∧ R H ∧ (∀ H1 H2, KD H1 H2 → R H1 → R H2) ∧
  ∀ H' p, KD H H' → LineAt C H' l (some a) (n + 1) → H' p = some (.lst ((fracL (aboveE a μ) (belowE a)).map V.int)) → Q (.ref p) H'
section
variable {P : Program} {w : World} {K : PySem.W.Frag} {mg : Str → Option Value} {base : Heap}
theorem scLok : FnScope ["line", "measure"] ["line", "measure"] (defScope sLok) := ⟨rfl, rfl, rfl, by decide +kernel, rfl, by decide +kernel, by decide +kernel⟩
theorem ok_lok {f C fE fL : Addr} {fd fdE fdL : FuncData} (F : Fun K "looked_for" "looked_for" sLok f fd) (T : Txt K C)
    (GE : FnOk P w K mg base CX0 5 fE fdE ["found", "chances", "measure"] (spExp P w K mg base)) (kE : PySem.W.keepIn K (.ref fE) = true) (bE : Binds K fdE ["found", "chances", "measure"] []) (gE : mg "expected" = some (.ref fE))
    (GL : FnOk P w K mg base CX0 7 fL fdL ["line", "chances", "holds"] (spLon C K)) (kL : PySem.W.keepIn K (.ref fL) = true) (bL : Binds K fdL ["line", "chances", "holds"] []) (gL : mg "long_run" = some (.ref fL)) :
    FnOk P w K mg base CX0 8 f fd ["line", "measure"] (spLok P w mg base C K) := by
  refine F.ok scLok (fun vs H Q E h => ?_) (fun cdv A outer s H vs Q E hr h => ?_)
  · obtain ⟨a, l, f, n, R, μ, _, rfl, _⟩ := h; rfl
  · obtain ⟨a, l, fm, n, R, μ, hn, rfl, L, hM, hR, hRs, k⟩ := h
    refine ⟨_, pss_one (ps_ret (pe_call GE (hr.mono (by decide)) rfl gE kE bE .nil pass0 (pa_cons (pe_call GL hr rfl gL kL bL .nil pass0 (pa_cons (pv 0) (pa_cons (pe_fld (pv 0) rfl) (pa_cons (pe_fld (pv 0) rfl) pa_nil)))) (pa_cons (pe_fld (pv 0) rfl) (pa_cons (pv 1) pa_nil))))), ?_⟩
    walk_at "rd"
    obtain ⟨dx0, c0, d0, kvs0, hd0, hk0, hkn0, nw0, hl0, hc0⟩ := id L
    refine fT rfl hl0 T.cl T.nC lk_chances (fT rfl hl0 T.cl T.nH lk_holds ⟨a, a, l, c0, n, hn, rfl, nw0.ok, hc0, L, fun H1 w1 e1 L1 hw1 => ?_⟩)
    obtain ⟨dx, c, d, kvs, hd, hk, hkn, nw, hl, hc⟩ := id L1
    have r1 := hRs _ _ e1 hR
    refine fT rfl hl T.cl T.nC lk_chances ⟨a, w1, c, fm, R, μ, nw.ok, rfl, SqL.of hw1, SqL.of hc, hM, r1, fun H1 H2 e => hRs _ _ (kd_of e), fun H2 p e2 hp2 hp3 => ?_⟩
    exact k H2 p (e1.trans (kd_of e2)) (L1.same e2 (Nat.le_refl _)) hp3
/-! ### lambdas with one captured name, with none -/
theorem str_lookup {α : Type} {y x : Str} {c : α} {r : α} (h : ([(y, c)] : List (Str × α)).lookup x = some r) : x = y ∧ r = c := by
  rw [List.lookup_cons] at h
  cases hb : x == y with
  | true => rw [hb] at h; exact ⟨eq_of_beq hb, (Option.some.inj h).symm⟩
  | false => rw [hb] at h; cases h
theorem str_in {α : Type} {y : Str} {c : α} : ([(y, c)] : List (Str × α)).lookup y = some c := by rw [List.lookup_cons, beq_self_eq_true]
theorem lam1 {t : LamT} {ps : List Str} {y : Str} {c : Addr} {names : List (Str × NameKind)} (hs : t.scope = { kind := .function, names := names, isGenerator := false, isCoroutine := false }) (hc : t.clos = [(y, c)]) (nd : (ps ++ [y]).Nodup)
    (par : ∀ x ∈ ps, names.lookup x = some .local) (fre : names.lookup y = some .free) (cel : ∀ z ∈ names, z.2 ≠ .cell) (only : ∀ z ∈ names, z.2 = .free → z.1 = y) : LamScope (ps ++ [y]) ps [y] t := by
  refine ⟨by rw [hs], by rw [hs], by rw [hs], nd, rfl, fun x hx => by rw [hs]; exact par x hx, fun x hx => by rw [hs, List.mem_singleton.mp hx]; exact fre, fun z hz => by rw [hs] at hz; exact cel z hz, fun z hz e => ⟨c, by rw [hs] at hz; rw [hc, only z hz e]; exact str_in⟩, fun x z d e1 e2 => ?_⟩
  rw [hc] at e1 e2
  rw [(str_lookup e1).1, (str_lookup e2).1]
theorem cap1 {t : LamT} {y : Str} {c : Addr} {o : Obj} {u : Value} {v : V} (hc : t.clos = [(y, c)]) (hd : o.data = .cell (some u)) (hr : RelV v u) : Caps t [y] [v] [(c, o)] := by
  refine ⟨rfl, fun i x w h1 h2 => ?_, fun x d h => ?_⟩
  · match i, h1, h2 with
    | 0, h1, h2 =>
      obtain rfl : y = x := Option.some.inj h1
      obtain rfl : v = w := Option.some.inj h2
      exact ⟨c, o, u, by rw [hc]; exact str_in, by rw [List.lookup_cons, beq_self_eq_true], hd, hr⟩
    | i + 1, h1, _ => simp at h1
  · rw [hc] at h
    rw [(str_lookup h).2]
    exact ⟨o, _, by rw [List.lookup_cons, beq_self_eq_true], hd⟩
theorem lam0 {t : LamT} {ps : List Str} {names : List (Str × NameKind)} (hs : t.scope = { kind := .function, names := names, isGenerator := false, isCoroutine := false }) (hc : t.clos = []) (nd : ps.Nodup)
    (par : ∀ x ∈ ps, names.lookup x = some .local) (cel : ∀ z ∈ names, z.2 ≠ .cell) (only : ∀ z ∈ names, z.2 ≠ .free) : LamScope ps ps [] t :=
  ⟨by rw [hs], by rw [hs], by rw [hs], nd, (List.append_nil _).symm, fun x hx => by rw [hs]; exact par x hx, fun x hx => absurd hx (by simp), fun z hz => by rw [hs] at hz; exact cel z hz, fun z hz e => absurd e (only z (by rw [hs] at hz; exact hz)), fun x z d e1 e2 => by rw [hc] at e1; cases e1⟩
theorem cap0 {t : LamT} (hc : t.clos = []) : Caps t [] [] [] := ⟨rfl, fun i x w h1 h2 => by simp at h1, fun x d h => by rw [hc] at h; cases h⟩
/-! ### rate_of: lambdas -/
theorem hcl_of {sc lsc : Scope} {n : Nat} (h : ∀ y ∈ lsc.names, y.2 = .free → sc.names.lookup y.1 = some .cell) : ∀ y ∈ lsc.names, y.2 = .free → ∃ c, (cellsFrom n sc.names []).lookup y.1 = some c := fun y hy e => cell_has (h y hy e)
/-- all but tables -/
def KT (H H' : Hp) : Prop := ∀ b o, H b = some o → (∀ ps, o ≠ .tbl ps) → H' b = some o
theorem LineAt.kt {C : Addr} {H H' : Hp} {l : Addr} {s : Option Su113.Abs} {n : Nat} (L : LineAt C H l s n) (e : KT H H') : LineAt C H' l s n := by
  obtain ⟨dx, c, d, kvs, h1, h2, h3, h4⟩ := L
  refine ⟨dx, c, d, kvs, e _ _ h1 (by intro ps z; cases z), fun q hq => ?_, h3, ?_⟩
  · obtain ⟨a, w, o, k1, k2, k3⟩ := h2 q hq
    exact ⟨a, w, o, k1, k2, e _ _ k3 (by intro ps z; cases z)⟩
  · cases s with
    | none => exact e _ _ h4 (by intro ps z; cases z)
    | some a => exact ⟨h4.1, e _ _ h4.2.1 (by intro ps z; cases z), e _ _ h4.2.2 (by intro ps z; cases z)⟩
theorem LineAt.uz {C : Addr} {H : Hp} {l : Addr} {s : Option Su113.Abs} {n : Nat} {zs : Zs} (L : LineAt C H l s n) (z : ZsIn zs H) : LineAt C (uzs H zs) l s n := by
  have e : ∀ {b o}, H b = some o → (∀ ob, o ≠ .frz ob (.own 0)) → uzs H zs b = some o := fun h n => by rw [uzs_out (z.out h n)]; exact h
  obtain ⟨dx, c, d, kvs, h1, h2, h3, h4⟩ := L
  refine ⟨dx, c, d, kvs, e h1 (by intro ps z; cases z), fun q hq => ?_, h3, ?_⟩
  · obtain ⟨a, w, o, k1, k2, k3⟩ := h2 q hq
    exact ⟨a, w, o, k1, k2, e k3 (by intro ps z; cases z)⟩
  · cases s with
    | none => exact e h4 (by intro ps z; cases z)
    | some a => exact ⟨h4.1, e h4.2.1 (by intro ps z; cases z), e h4.2.2 (by intro ps z; cases z)⟩
theorem tab_mono {Pt : Addr} {q : Str} {H H' : Hp} (t : TabOk Pt q H) (e : ∀ b o, H b = some o → (∀ kvs, o ≠ .dT kvs) → H' b = some o) : TabOk Pt q H' := by
  obtain ⟨ps, h1, h2, h3⟩ := t
  refine ⟨ps, e _ _ h1 (by intro k z; cases z), h2, fun pos cv hc => ?_⟩
  obtain ⟨c, e1, e2⟩ := h3 pos cv hc
  exact ⟨c, e1, e _ _ e2 (by intro k z; unfold codeO at z; cases z)⟩
theorem lam_mono {f : Addr} {t : LamT} {H H' : Hp} (L : LamAt H f t) (e : KD H H') : LamAt H' f t := by
  obtain ⟨c, h1, h2⟩ := L
  exact ⟨c, e _ _ h1 (by intro k z; unfold lamO at z; cases z), e _ _ h2 (by intro k z; unfold codeO at z; cases z)⟩
theorem zs_mono {zs : Zs} {H H' : Hp} (z : ZsIn zs H) (e : KD H H') : ZsIn zs H' := fun c o h => e _ _ (z c o h) (by intro k y; cases y)
theorem kt_of {Pt : Addr} {H H' : Hp} {q : Str} (e : SameT Pt H H') (t : TabOk Pt q H) : KT H H' := fun b o h n => e b o h (fun z => by
  obtain ⟨ps, h1, _⟩ := t
  rw [z, h1] at h; cases h; exact n _ rfl)
theorem one_lookup {c b : Addr} {o ob : Obj} (h : ([(c, o)] : Zs).lookup b = some ob) : b = c ∧ ob = o := by
  rw [List.lookup_cons] at h
  cases hb : b == c with
  | true => rw [hb] at h; exact ⟨eq_of_beq hb, (Option.some.inj h).symm⟩
  | false => rw [hb] at h; cases h
theorem one_in {c : Addr} {o : Obj} : ([(c, o)] : Zs).lookup c = some o := by rw [List.lookup_cons, beq_self_eq_true]
theorem fzs_same {H : Hp} {c : Addr} {o : Obj} (h : H c = none) : Same H (fzs H [(c, o)]) := fun b ob e => by
  rw [fzs_out]; exact e
  cases q : ([(c, o)] : Zs).lookup b with
  | none => rfl
  | some x => rw [(one_lookup q).1, h] at e; cases e
/-- what every call keeps: all but objects, dicts, tables -/
def Fix (o : HO) : Prop := (∀ C dx fs, o ≠ .ins C dx fs) ∧ (∀ kvs, o ≠ .dT kvs) ∧ ∀ ps, o ≠ .tbl ps
def KO (H H' : Hp) : Prop := ∀ b o, H b = some o → Fix o → H' b = some o
abbrev Tabs := List (Addr × Str)
def AllT (tabs : Tabs) (H : Hp) : Prop := ∀ q ∈ tabs, TabOk q.1 q.2 H
def Go (tabs : Tabs) (H H' : Hp) : Prop := KO H H' ∧ (AllT tabs H → AllT tabs H')
theorem Go.refl (tabs : Tabs) (H : Hp) : Go tabs H H := ⟨fun _ _ h _ => h, fun h => h⟩
theorem Go.trans {tabs : Tabs} {H H1 H2 : Hp} (a : Go tabs H H1) (b : Go tabs H1 H2) : Go tabs H H2 := ⟨fun x o h n => b.1 x o (a.1 x o h n) n, fun h => b.2 (a.2 h)⟩
theorem fix_lst {xs : List V} : Fix (.lst xs) := ⟨(by intro C dx fs z; cases z), (by intro k z; cases z), (by intro k z; cases z)⟩
theorem fix_code {c : Addr} {q : Str} : Fix (codeO c q) := ⟨(by intro C dx fs z; unfold codeO at z; cases z), (by intro k z; unfold codeO at z; cases z), (by intro k z; unfold codeO at z; cases z)⟩
theorem Go.kd {tabs : Tabs} {H H' : Hp} (e : KD H H') : Go tabs H H' := ⟨fun b o h n => e b o h n.2.1, fun h q hq => tab_mono (h q hq) e⟩
theorem Go.same {tabs : Tabs} {H H' : Hp} (e : Same H H') : Go tabs H H' := .kd (kd_of e)
/-- all but dicts and the table at Pt is as it was -/
def KP (Pt : Addr) (H H' : Hp) : Prop := ∀ b o, H b = some o → (∀ kvs, o ≠ .dT kvs) → b ≠ Pt → H' b = some o
theorem nodup_same {tabs : Tabs} (nd : (tabs.map (·.1)).Nodup) : ∀ {p q : Addr × Str}, p ∈ tabs → q ∈ tabs → p.1 = q.1 → p = q := by
  induction tabs with
  | nil => intro p q h; simp at h
  | cons t ts ih =>
    intro p q hp hq e
    rw [List.map_cons, List.nodup_cons] at nd
    rcases List.mem_cons.mp hp with h1 | h1 <;> rcases List.mem_cons.mp hq with h2 | h2
    · rw [h1, h2]
    · subst h1; exact absurd (show p.1 ∈ ts.map (·.1) from List.mem_map.mpr ⟨q, h2, e.symm⟩) nd.1
    · subst h2; exact absurd (show q.1 ∈ ts.map (·.1) from List.mem_map.mpr ⟨p, h1, e⟩) nd.1
    · exact ih nd.2 h1 h2 e
theorem Go.kp {tabs : Tabs} {Pt : Addr} {q : Str} {H H' : Hp} (nd : (tabs.map (·.1)).Nodup) (hm : (Pt, q) ∈ tabs) (e : KP Pt H H') (tb : TabOk Pt q H) (tb' : TabOk Pt q H') : Go tabs H H' := by
  refine ⟨fun b o h n => e b o h n.2.1 fun z => ?_, fun h p hp => ?_⟩
  · obtain ⟨ps, h1, _⟩ := tb
    rw [z, h1] at h; cases h; exact n.2.2 _ rfl
  · by_cases hb : p.1 = Pt
    · have := nodup_same nd hp hm hb
      subst this
      exact tb'
    · obtain ⟨ps, h1, h2, h3⟩ := h p hp
      refine ⟨ps, e _ _ h1 (by intro k z; cases z) hb, h2, fun pos cv hc => ?_⟩
      obtain ⟨c, e1, e2⟩ := h3 pos cv hc
      refine ⟨c, e1, e _ _ e2 (by intro k z; unfold codeO at z; cases z) fun z => ?_⟩
      obtain ⟨ps', g1, _⟩ := tb
      rw [z, g1] at e2; unfold codeO at e2; cases e2
/-! ### looked_for with a lambda -/
/-- a lambda without captured names, as a measure -/
theorem cal0 {t : LamT} {names : List (Str × NameKind)} {μ : Int → Int → Int → Int} (hs : t.scope = { kind := .function, names := names, isGenerator := false, isCoroutine := false }) (hc : t.clos = [])
    (par : ∀ x ∈ (["pieces", "first", "second"] : List Str), names.lookup x = some .local) (cel : ∀ z ∈ names, z.2 ≠ .cell) (only : ∀ z ∈ names, z.2 ≠ .free)
    (hbind : ∀ (pm cd ct : Value) (u0 u1 u2 : Value), bindArgs (PySem.W.kla_fn "<lambda>" t.q t.params t.body t.scope t.clos pm cd ct) ⟨[u0, u1, u2], []⟩ = pure [(("pieces" : Str), u0), (("first" : Str), u1), (("second" : Str), u2)])
    (hme : Meas μ) (fm : Addr)
    (hbody : ∀ (cd : Value) (A : Around) (outer : List Env) (s : Shared) (H : Hp) (a b c : Int), Sm a b c → Room 2 (A.deeper (envX t.q t.scope s.heap.objs.size fm cd t.clos)) →
      ∃ te, PE (cxLam P w K mg base ["pieces", "first", "second"] t fm cd A outer s H) t.body te ∧ te [some (.int a), some (.int b), some (.int c)] H (fun v H' => v = .int (μ a b c) ∧ H' = H)) :
    Cal P w K mg base fm (fun H' => LamAt H' fm t) μ := by
  refine ⟨lam_ok (N := ["pieces", "first", "second"]) (fv := []) (cvs := []) (zs := []) (k := 2) (lam0 hs hc (by decide +kernel) par cel only) (cap0 hc) (fun H' h => ⟨h, fun c o e => by cases e⟩) hbind fun cd A outer s H a b c hsm hr _ => ?_, fun H h => .inl ⟨t, h⟩, hme⟩
  exact hbody cd A outer s (uzs H []) a b c hsm hr
theorem ask0 {tabs : Tabs} {C Pt l : Addr} {T0 : LamT} {H : Hp} {σ : L2.St} {Q : VK} {a : Su113.Abs} {n : Nat} {μ : Int → Int → Int → Int} (nd : (tabs.map (·.1)).Nodup) (hm : (Pt, T0.q) ∈ tabs) (at_ : AllT tabs H) (L : LineAt C H l (some a) n) (hn : n < 100000)
    (hC : ∀ fm, Cal P w K mg base fm (fun H' => LamAt H' fm T0) μ)
    (k : ∀ H' p, Go tabs H H' → LineAt C H' l (some a) (n + 1) → H' p = some (.lst ((fracL (aboveE a μ) (belowE a)).map V.int)) → Q (.ref p) H') :
    tLam Pt T0 σ H (fun v H1 => spLok P w mg base C K [.ref l, v] H1 Q E0) := by
  have tb := at_ _ hm
  refine ⟨tb, fun fm H1 hfm hLam tb1 sT => ?_⟩
  have L1 : LineAt C H1 l (some a) n := L.kt (kt_of sT tb)
  refine ⟨a, l, fm, n, fun H' => LamAt H' fm T0, μ, hn, rfl, L1, hC fm, hLam, fun H1 H2 e h => lam_mono h e, fun H2 p e2 L2 hp => ?_⟩
  exact k H2 p (.kp nd hm (fun b o h n hb => e2 b o (sT b o h hb) n) tb (tab_mono tb1 e2)) L2 hp
/-- with one captured name -/
theorem ask1z {tabs : Tabs} {C Pt l c0 : Addr} {T0 : LamT} {H : Hp} {σ : L2.St} {Qz : Addr → Obj → VK} {a : Su113.Abs} {n : Nat} {μ : Int → Int → Int → Int} {cells : List (Str × Addr)} {y : Str} {j : Nat} {v0 : V} {R0 : Hp → Prop} (nd : (tabs.map (·.1)).Nodup) (hm : (Pt, T0.q) ∈ tabs) (at_ : AllT tabs H) (L : LineAt C H l (some a) n) (hn : n < 100000)
    (hcell : cells.lookup y = some c0) (hv : σ[j]? = some (some v0)) (r0 : R0 H) (r1 : ∀ H1 H2, KT H1 H2 → R0 H1 → R0 H2) (r2 : ∀ H1 H2, KD H1 H2 → R0 H1 → R0 H2)
    (hC : ∀ fm o u, o.data = .cell (some u) → RelV v0 u → Cal P w K mg base fm (fun H' => LamAt H' fm T0 ∧ ZsIn [(c0, o)] H' ∧ R0 H') μ)
    (k : ∀ Hz p o, Go tabs H (uzs Hz [(c0, o)]) → LineAt C (uzs Hz [(c0, o)]) l (some a) (n + 1) → uzs Hz [(c0, o)] p = some (.lst ((fracL (aboveE a μ) (belowE a)).map V.int)) → Qz c0 o (.ref p) Hz) :
    tLam Pt T0 σ H (fun v H1 => ∃ v1, σ[j]? = some (some v1) ∧ ∀ c o u, cells.lookup y = some c → o.data = .cell (some u) → RelV v1 u → H1 c = none → spLok P w mg base C K [.ref l, v] (fzs H1 [(c, o)]) (Qz c o) E0) := by
  have tb := at_ _ hm
  refine ⟨tb, fun fm H1 hfm hLam tb1 sT => ⟨v0, hv, fun cc o u hcc hd hu hcn => ?_⟩⟩
  rw [hcell] at hcc
  obtain rfl : c0 = cc := Option.some.inj hcc
  have kt := kt_of sT tb
  have L1 : LineAt C H1 l (some a) n := L.kt kt
  have sz := fzs_same (o := o) hcn
  refine ⟨a, l, fm, n, fun H' => LamAt H' fm T0 ∧ ZsIn [(c0, o)] H' ∧ R0 H', μ, hn, rfl, L1.same sz (Nat.le_refl _), hC fm o u hd hu, ⟨lam_mono hLam (kd_of sz), fun b ob h => by rw [(one_lookup h).1, (one_lookup h).2]; exact fzs_in one_in, r2 _ _ (kd_of sz) (r1 _ _ kt r0)⟩, ?_, fun H2 p e2 L2 hp => ?_⟩
  · rintro H1 H2 e ⟨h1, h2, h3⟩
    exact ⟨lam_mono h1 e, zs_mono h2 e, r2 _ _ e h3⟩
  · have zin : ZsIn [(c0, o)] H2 := fun b ob h => by rw [(one_lookup h).1, (one_lookup h).2]; exact e2 _ _ (fzs_in one_in) (by intro k z; cases z)
    have out : ∀ {b ob}, H2 b = some ob → (∀ x, ob ≠ .frz x (.own 0)) → uzs H2 [(c0, o)] b = some ob := fun h n => by rw [uzs_out (zin.out h n)]; exact h
    have k1 : ∀ b ob, H1 b = some ob → (∀ kvs, ob ≠ .dT kvs) → uzs H2 [(c0, o)] b = some ob := fun b ob h n => by
      have h2 := e2 _ _ (sz _ _ h) n
      rw [uzs_out]; exact h2
      cases q : ([(c0, o)] : Zs).lookup b with
      | none => rfl
      | some x => rw [(one_lookup q).1, hcn] at h; cases h
    exact k _ p o (.kp nd hm (fun b ob h n hb => k1 b ob (sT b ob h hb) n) tb (tab_mono tb1 k1)) (L2.uz zin) (out hp (by intro x z; cases z))
/-- with one captured name -/
theorem ask1 {tabs : Tabs} {C Pt l c0 : Addr} {T0 : LamT} {H : Hp} {σ : L2.St} {Q : VK} {a : Su113.Abs} {n : Nat} {μ : Int → Int → Int → Int} {cells : List (Str × Addr)} {y : Str} {j : Nat} {v0 : V} {R0 : Hp → Prop} (nd : (tabs.map (·.1)).Nodup) (hm : (Pt, T0.q) ∈ tabs) (at_ : AllT tabs H) (L : LineAt C H l (some a) n) (hn : n < 100000)
    (hcell : cells.lookup y = some c0) (hv : σ[j]? = some (some v0)) (r0 : R0 H) (r1 : ∀ H1 H2, KT H1 H2 → R0 H1 → R0 H2) (r2 : ∀ H1 H2, KD H1 H2 → R0 H1 → R0 H2)
    (hC : ∀ fm o u, o.data = .cell (some u) → RelV v0 u → Cal P w K mg base fm (fun H' => LamAt H' fm T0 ∧ ZsIn [(c0, o)] H' ∧ R0 H') μ)
    (k : ∀ H' p, Go tabs H H' → LineAt C H' l (some a) (n + 1) → H' p = some (.lst ((fracL (aboveE a μ) (belowE a)).map V.int)) → Q (.ref p) H') :
    tLam Pt T0 σ H (fun v H1 => ∃ v1, σ[j]? = some (some v1) ∧ ∀ c o u, cells.lookup y = some c → o.data = .cell (some u) → RelV v1 u → H1 c = none → spLok P w mg base C K [.ref l, v] (fzs H1 [(c, o)]) (fun v H' => Q v (uzs H' [(c, o)])) E0) :=
  ask1z (Qz := fun c o v H' => Q v (uzs H' [(c, o)])) nd hm at_ L hn hcell hv r0 r1 r2 hC fun Hz p o => k (uzs Hz [(c0, o)]) p
/-- a lambda that captured one name, as a measure -/
theorem cal1 {t : LamT} {names : List (Str × NameKind)} {μ : Int → Int → Int → Int} {y : Str} {c0 : Addr} {v0 : V} {R0 : Hp → Prop} (hs : t.scope = { kind := .function, names := names, isGenerator := false, isCoroutine := false }) (hc : t.clos = [(y, c0)]) (nd : ((["pieces", "first", "second"] : List Str) ++ [y]).Nodup)
    (par : ∀ x ∈ (["pieces", "first", "second"] : List Str), names.lookup x = some .local) (fre : names.lookup y = some .free) (cel : ∀ z ∈ names, z.2 ≠ .cell) (only : ∀ z ∈ names, z.2 = .free → z.1 = y)
    (hbind : ∀ (pm cd ct : Value) (u0 u1 u2 : Value), bindArgs (PySem.W.kla_fn "<lambda>" t.q t.params t.body t.scope t.clos pm cd ct) ⟨[u0, u1, u2], []⟩ = pure [(("pieces" : Str), u0), (("first" : Str), u1), (("second" : Str), u2)])
    (hme : Meas μ) (r3 : ∀ H zs, ZsIn zs H → R0 H → R0 (uzs H zs)) (fm : Addr) (o : Obj) (u : Value) (hd : o.data = .cell (some u)) (hu : RelV v0 u)
    (hbody : ∀ (cd : Value) (A : Around) (outer : List Env) (s : Shared) (H : Hp) (a b c : Int), Sm a b c → Room 2 (A.deeper (envX t.q t.scope s.heap.objs.size fm cd t.clos)) → R0 H →
      ∃ te, PE (cxLam P w K mg base ["pieces", "first", "second", y] t fm cd A outer s H) t.body te ∧ te [some (.int a), some (.int b), some (.int c), some v0] H (fun v H' => v = .int (μ a b c) ∧ H' = H)) :
    Cal P w K mg base fm (fun H' => LamAt H' fm t ∧ ZsIn [(c0, o)] H' ∧ R0 H') μ := by
  refine ⟨lam_ok (N := ["pieces", "first", "second", y]) (fv := [y]) (cvs := [v0]) (zs := [(c0, o)]) (k := 2) (lam1 hs hc nd par fre cel only) (cap1 hc hd hu) (fun H' h => ⟨h.1, h.2.1⟩) hbind fun cd A outer s H a b c hsm hr h => ?_, fun H h => .inl ⟨t, h.1⟩, hme⟩
  exact hbody cd A outer s (uzs H [(c0, o)]) a b c hsm hr (r3 _ _ h.2.1 h.2.2)
/-! ### brought, rate_of -/
abbrev sBro : Stmt := top 46
abbrev sRat : Stmt := top 47
def muFirst (a : Su113.Abs) : Int → Int → Int → Int := fun k x y => firW k x y a.room
def muSecond : Int → Int → Int → Int := fun k x y => secW k y
theorem meas_first (a : Su113.Abs) : Meas (muFirst a) := fun k x y _ _ _ => by
  rcases firW_01 k x y a.room with h | h <;> unfold muFirst <;> rw [h] <;> decide
theorem meas_second : Meas muSecond := fun k x y _ _ _ => by
  rcases secW_01 k y with h | h <;> unfold muSecond <;> rw [h] <;> decide
def spBro : Sp := fun vs H Q _ => ∃ k x y : Int, vs = [.int k, .int x, .int y] ∧ Q (.int (secW k y)) H
theorem scBro : FnScope ["pieces", "first", "second"] ["pieces", "first", "second"] (defScope sBro) := ⟨rfl, rfl, rfl, by decide +kernel, rfl, by decide +kernel, by decide +kernel⟩
theorem ok_bro {f fS : Addr} {fd fdS : FuncData} (F : Fun K "brought" "brought" sBro f fd)
    (GS : FnOk P w K mg base CX0 1 fS fdS ["pieces", "second"] spSec) (kS : PySem.W.keepIn K (.ref fS) = true) (bS : Binds K fdS ["pieces", "second"] []) (gS : mg "second_works" = some (.ref fS)) :
    FnOk P w K mg base CX0 2 f fd ["pieces", "first", "second"] spBro := by
  refine F.ok scBro (fun vs H Q E h => ?_) (fun cdv A outer s H vs Q E hr h => ?_)
  · obtain ⟨k, x, y, rfl, _⟩ := h; rfl
  · obtain ⟨k, x, y, rfl, q⟩ := h
    refine ⟨_, pss_one (ps_ret (pe_call GS hr rfl gS kS bS .nil pass0 (pa_cons (pv 0) (pa_cons (pv 2) pa_nil)))), ?_⟩
    walk_at "rd"
    exact ⟨_, _, rfl, q⟩
/-- brought, as a measure -/
structure Bro (P : Program) (w : World) (K : PySem.W.Frag) (mg : Str → Option Value) (base : Heap) (fB : Addr) : Prop where
  g : mg "brought" = some (.ref fB)
  cal : Cal P w K mg base fB (fun _ => True) muSecond
theorem bro_mk {f : Addr} {fd : FuncData} (F : Fun K "brought" "brought" sBro f fd) (G : FnOk P w K mg base CX0 2 f fd ["pieces", "first", "second"] spBro) (b : Binds K fd ["pieces", "first", "second"] []) (g : mg "brought" = some (.ref f)) : Bro P w K mg base f := by
  refine ⟨g, mok_fn (G.mono (by decide)) b rfl (fun a b c H => ⟨a, b, c, rfl, rfl, rfl⟩), fun H _ => .inr ?_, meas_second⟩
  obtain ⟨oc, od, kV, doc, pm, an, cdv, ct, osl, rfl, lk, hcd⟩ := F.ex
  exact ⟨_, _, lk, rfl⟩
abbrev qRat : Str := "rate_of" ++ ".<locals>." ++ "<lambda>"
def spRat (C : Addr) (tabs : Tabs) (K : PySem.W.Frag) : Sp := fun vs H Q _ => ∃ (a : Su113.Abs) (l : Addr) (i : Int) (n : Nat), n < 100000 ∧ vs = [.ref l, .int i] ∧ LineAt C H l (some a) n ∧ AllT tabs H ∧
  ∀ H' p, Go tabs H H' → LineAt C H' l (some a) (n + 1) → H' p = some (.lst ((fracL (aboveE a (if i = 0 then muFirst a else muSecond)) (belowE a)).map V.int)) → Q (.ref p) H'
theorem scRat : FnScope ["line", "machine"] ["line", "machine"] (defScope sRat) := ⟨rfl, rfl, rfl, by decide +kernel, rfl, by decide +kernel, by decide +kernel⟩
/-- the line's object stands -/
def AtL (l : Addr) (o : HO) (H : Hp) : Prop := H l = some o
theorem ok_rat {f C fK fF fB c Pt : Addr} {fd fdK fdF : FuncData} {tabs : Tabs} (F : Fun K "rate_of" "rate_of" sRat f fd) (T : Txt K C) (nd : (tabs.map (·.1)).Nodup) (hm : (Pt, qRat) ∈ tabs) (hcd : fd.code = .ref c) (Cd : CodeHd base c Pt) (B : BMain mg base)
    (GK : FnOk P w K mg base CX0 8 fK fdK ["line", "measure"] (spLok P w mg base C K)) (kK : PySem.W.keepIn K (.ref fK) = true) (bK : Binds K fdK ["line", "measure"] []) (gK : mg "looked_for" = some (.ref fK))
    (GF : FnOk P w K mg base CX0 2 fF fdF ["pieces", "first", "second", "holds"] spFir) (kF : PySem.W.keepIn K (.ref fF) = true) (bF : Binds K fdF ["pieces", "first", "second", "holds"] []) (gF : mg "first_works" = some (.ref fF))
    (BR : Bro P w K mg base fB) :
    FnOk P w K mg base CX0 9 f fd ["line", "machine"] (spRat C tabs K) := by
  refine okL F scRat (fun vs H Q E h => ?_) (fun A outer s H vs Q E hr h => ?_)
  · obtain ⟨a, l, i, n, _, rfl, _⟩ := h; rfl
  · obtain ⟨a, l, i, n, hn, rfl, L, at_, k⟩ := h
    refine ⟨_, pss_cons (ps_if (pt_cmpR op_eq (pv 1) pe_int (nomark _)) (pss_one (ps_ret (pe_callZ (j := 0) (y := "line") GK hr rfl gK kK bK (pa_cons (pv 0) (pa_cons (pe_lam (P := Pt) (c := c) hcd Cd B rfl (hcl_of (sc := defScope sRat) (by decide +kernel))) pa_nil)) rfl rfl rfl))) pss_nil)
      (pss_one (ps_ret (pe_call GK hr rfl gK kK bK .nil pass0 (pa_cons (pv 0) (pa_cons (pe_glob (v := V.ref fB) rfl BR.g rfl) pa_nil))))), ?_⟩
    walk_at "rd"
    by_cases hi : i = 0
    · rw [if_pos hi]
      rw [if_pos hi] at k
      obtain ⟨dx, c0, d, kvs, hd0, hk, hkn, nw, hl, hc⟩ := id L
      refine ⟨_, rfl, ?_⟩
      refine ask1 (v0 := .ref l) (R0 := AtL l (.ins C dx (lineF true c0 a.room a.now.1 a.now.2.1 a.now.2.2 d))) nd hm at_ L hn rfl rfl hl (fun H1 H2 e h => e _ _ h (by intro k z; cases z)) (fun H1 H2 e h => e _ _ h (by intro k z; cases z)) (fun fm o u hd hu => ?_) k
      refine cal1 (t := ⟨_, _, _, _, _⟩) (y := "line") rfl rfl (by decide +kernel) (by decide +kernel) (by decide +kernel) (by decide +kernel) (by decide +kernel) (fun pm cd ct u0 u1 u2 => rfl) (meas_first a) (fun H zs z h => by show uzs H zs l = _; rw [uzs_out (z.out h (by intro ob z; cases z))]; exact h) fm o u hd hu (fun cd A' outer' s' H' k0 x0 y0 hsm hr' h => ?_)
      refine ⟨_, pe_call GF hr' rfl gF kF bF .nil pass0 (pa_cons (pv 0) (pa_cons (pv 1) (pa_cons (pv 2) (pa_cons (pe_fld (pv 3) rfl) pa_nil)))), ?_⟩
      walk_at "rd"
      exact fT rfl h T.cl T.nH lk_holds ⟨_, _, _, _, rfl, rfl, rfl⟩
    · rw [if_neg hi]
      rw [if_neg hi] at k
      exact ⟨a, l, fB, n, fun _ => True, muSecond, hn, rfl, L, BR.cal, trivial, fun _ _ _ h => h, fun H' p e L' hp => k H' p (.kd e) L' hp⟩
end
abbrev sChf : Stmt := top 34
abbrev sRof : Stmt := top 35
abbrev sSta : Stmt := top 36
def fit (z : Int) : Bool := if 1 ≤ z then decide (z ≤ 9) else false
def rfit (z : Int) : Bool := if 1 ≤ z then decide (z ≤ 6) else false
def spChf (K : PySem.W.Frag) : Sp := fun vs H Q _ => ∃ (g : Addr) (ns : List Int), vs = [.ref g] ∧ SqL K H g (ns.map V.int) ∧ ns.length ≤ 100 ∧ ∀ H', Same H H' → Q (.bl (ns.all fit)) H'
def spRof : Sp := fun vs H Q _ => ∃ z : Int, vs = [.int z] ∧ Q (.bl (rfit z)) H
section
variable {P : Program} {w : World} {K : PySem.W.Frag} {mg : Str → Option Value} {base : Heap}
abbrev nChf : List Str := ["chances", "chance"]
theorem scChf : FnScope nChf ["chances"] (defScope sChf) := ⟨rfl, rfl, rfl, by decide +kernel, rfl, by decide +kernel, by decide +kernel⟩
theorem ok_chf {f : Addr} {fd : FuncData} (F : Fun K "chances_fit" "chances_fit" sChf f fd) (nA : mg "all" = none) (gT : ∃ t, mg "MOST_TENTHS" = some (.int 9 t)) : FnOk P w K mg base CX0 1 f fd ["chances"] (spChf K) := by
  obtain ⟨tT, gT⟩ := gT
  refine F.ok scChf (fun vs H Q E h => ?_) (fun cdv A outer s H vs Q E hr h => ?_)
  · obtain ⟨g, ns, rfl, _⟩ := h; rfl
  · obtain ⟨g, ns, rfl, hg, hn, q⟩ := h
    refine ⟨_, pss_one (ps_ret (pe_callB (cr_all rfl) (by rfl) nA bt_all (pa_cons
      (pe_lc (own := [("chance", 1)]) rfl scChf.nd (pi_list (pv 0))
        (show BlkOk nChf (defScope sChf) _ _ from ⟨rfl, by decide +kernel, by decide +kernel, by decide +kernel, by decide +kernel⟩) (fun _ _ _ _ _ => pg_name (i := 1) scChf.nd rfl (Or.inl rfl)) (fun _ _ _ _ _ => pts_nil)
        (fun _ _ _ _ _ => pe_chain op_le op_le pe_int (pv 1) (pe_glob (v := V.int 9) rfl gT ⟨_, rfl⟩))) pa_nil))), ?_⟩
    walk_at "rd"
    refine ⟨_, rfl, g, rfl, ⟨_, hg⟩, fun D hD => ?_⟩
    refine lc_list (K := K) (a := g) (xs := ns.map V.int) (fun i H1 => Same H H1 ∧ H1 D = some (.lst (((ns.take i).map fit).map V.bl))) ⟨fun b o e => by rw [upd_ne (ne_of_none e hD)]; exact e, upd_same⟩ (fun i H1 _ h => h.1.seq hg) ?_ ?_
    · rintro i x H1 hx ⟨sm, hD1⟩
      obtain ⟨z, hz, rfl⟩ : ∃ z, ns[i]? = some z ∧ x = V.int z := by
        rw [List.getElem?_map] at hx
        cases e : ns[i]? with
        | none => rw [e] at hx; cases hx
        | some z => rw [e] at hx; exact ⟨z, rfl, (Option.some.inj hx).symm⟩
      have fin : ∀ b, b = fit z → (∃ acc, H1 D = some (.lst acc) ∧ acc.length < sizeLine ∧ Same H (upd H1 D (.lst (acc ++ [V.bl b]))) ∧ upd H1 D (.lst (acc ++ [V.bl b])) D = some (.lst (((ns.take (i + 1)).map fit).map V.bl))) := fun b hb => by
        refine ⟨_, hD1, ?_, fun b o e => by rw [upd_ne (ne_of_none e hD)]; exact sm b o e, ?_⟩
        · rw [List.length_map, List.length_map, List.length_take]
          exact Nat.lt_of_le_of_lt (Nat.min_le_right _ _) (Nat.lt_of_le_of_lt hn (by decide))
        · rw [upd_same, hb, List.take_succ, hz, List.map_append, List.map_append]; rfl
      simp only [wipe]
      walk_at "rd"
      by_cases h1 : 1 ≤ z
      · simp only [h1, if_true]
        exact fin _ (by unfold fit; rw [if_pos h1])
      · simp only [h1, if_false]
        exact fin _ (by unfold fit; rw [if_neg h1])
    · rintro H1 ⟨sm, hD1⟩
      rw [List.length_map, List.take_length] at hD1
      refine ⟨D, _, rfl, SqL.of hD1, ?_⟩
      have e : (ns.map fit).all id = ns.all fit := by rw [List.all_map]; rfl
      rw [e]
      exact q H1 sm
theorem scRof : FnScope ["holds"] ["holds"] (defScope sRof) := ⟨rfl, rfl, rfl, by decide +kernel, rfl, by decide +kernel, by decide +kernel⟩
theorem ok_rof {f : Addr} {fd : FuncData} (F : Fun K "room_fits" "room_fits" sRof f fd) (gT : ∃ t, mg "MOST_ROOM" = some (.int 6 t)) : FnOk P w K mg base CX0 1 f fd ["holds"] spRof := by
  obtain ⟨tT, gT⟩ := gT
  refine F.ok scRof (fun vs H Q E h => ?_) (fun cdv A outer s H vs Q E hr h => ?_)
  · obtain ⟨z, rfl, _⟩ := h; rfl
  · obtain ⟨z, rfl, q⟩ := h
    refine ⟨_, pss_one (ps_ret (pe_chain op_le op_le pe_int (pv 0) (pe_glob (v := V.int 6) rfl gT ⟨_, rfl⟩))), ?_⟩
    walk_at "rd"
    unfold rfit at q
    split <;> simp_all
end
abbrev sBeg : Stmt := top 41
def spSta (C : Addr) (K : PySem.W.Frag) : Sp := fun vs H Q _ => ∃ (l dx c d : Addr) (b : Bool) (h p x y : Int), vs = [.ref l] ∧ H l = some (.ins C dx (lineF b c h p x y d)) ∧ Q .non (upd H l (.ins C dx (lineF b c h 0 1 1 d)))
section
variable {P : Program} {w : World} {K : PySem.W.Frag} {mg : Str → Option Value} {base : Heap}
theorem scSta : FnScope ["line"] ["line"] (defScope sSta) := ⟨rfl, rfl, rfl, by decide +kernel, rfl, by decide +kernel, by decide +kernel⟩
theorem ok_sta {f C : Addr} {fd : FuncData} (F : Fun K "start_over" "start_over" sSta f fd) (T : Txt K C) : FnOk P w K mg base CX0 1 f fd ["line"] (spSta C K) := by
  refine F.ok scSta (fun vs H Q E h => ?_) (fun cdv A outer s H vs Q E hr h => ?_)
  · obtain ⟨l, dx, c, d, b, h, p, x, y, rfl, _⟩ := h; rfl
  · obtain ⟨l, dx, c, d, b, h, p, x, y, rfl, hl, q⟩ := h
    refine ⟨_, pss_cons (ps_fld (pv 0) pe_int rfl) (pss_cons (ps_fld (pv 0) pe_int rfl) (pss_one (ps_fld (pv 0) pe_int rfl))), ?_⟩
    walk_at "rd"
    refine ⟨l, rfl, C, dx, _, hl, T.cl, T.nP, by show 7 < 1000; decide, l, rfl, C, dx, _, upd_same, T.cl, T.nF, by show 7 < 1000; decide, l, rfl, C, dx, _, upd_same, T.cl, T.nS, by show 7 < 1000; decide, ?_⟩
    rw [upd_upd, upd_upd]
    exact q
theorem sql_upd {H : Hp} {g l C dx : Addr} {fs : List (Str × V)} {o : HO} {xs : List V} (h : SqL K H g xs) (hl : H l = some (.ins C dx fs)) : SqL K (upd H l o) g xs := by
  rcases h with (h | ⟨ob, h⟩) | h
  · exact .inl (.inl (by rw [upd_ne (ne_of h hl (by intro z; cases z))]; exact h))
  · exact .inl (.inr ⟨ob, by rw [upd_ne (ne_of h hl (by intro z; cases z))]; exact h⟩)
  · exact .inr h
theorem sql_new {H : Hp} {g l : Addr} {o : HO} {xs : List V} (h : SqL K H g xs) (hl : H l = none) : SqL K (upd H l o) g xs := by
  rcases h with (h | ⟨ob, h⟩) | h
  · exact .inl (.inl (by rw [upd_ne (ne_of_none h hl)]; exact h))
  · exact .inl (.inr ⟨ob, by rw [upd_ne (ne_of_none h hl)]; exact h⟩)
  · exact .inr h
/-- all but the line's own object is as it was -/
def KL (l : Addr) (H H' : Hp) : Prop := ∀ b o, H b = some o → b ≠ l → H' b = some o
/-- a call's answer, as one list -/
def ansL (r : Su113.Ans) : List Int := r.value :: r.out
def spBeg (C : Addr) (K : PySem.W.Frag) : Sp := fun vs H Q _ => ∃ (s : Option Su113.Abs) (l g : Addr) (n b1 r1 b2 r2 m : Nat), vs = [.ref l, .ref g] ∧ LineAt C H l s n ∧ SqL K H g [.int b1, .int r1, .int b2, .int r2, .int m] ∧
  ∀ H' p, KL l H H' → H p = none → LineAt C H' l (Su113.step s (.begin_ b1 r1 b2 r2 m)).1 n → H' p = some (.lst ((ansL (Su113.step s (.begin_ b1 r1 b2 r2 m)).2).map V.int)) → Q (.ref p) H'
theorem fit_ok (z : Nat) : fit z = Su113.ok z := by
  unfold fit Su113.ok
  by_cases h : 1 ≤ z
  · rw [if_pos (by omega)]; simp [h]
    constructor <;> intro <;> omega
  · rw [if_neg (by omega)]; simp [h]
theorem rfit_ok (z : Nat) : rfit z = (decide (1 ≤ z) && decide (z ≤ Su113.ROOM)) := by
  unfold rfit Su113.ROOM
  by_cases h : 1 ≤ z
  · rw [if_pos (by omega)]; simp [h]
    constructor <;> intro <;> omega
  · rw [if_neg (by omega)]; simp [h]
theorem begin_step (s : Option Su113.Abs) (b1 r1 b2 r2 m : Nat) : Su113.step s (.begin_ b1 r1 b2 r2 m) = if Su113.okB b1 r1 b2 r2 m = false then (s, Su113.no (-22)) else (some ⟨b1, r1, b2, r2, m, (0, 1, 1)⟩, Su113.no 0) := by
  cases s with
  | none =>
    simp only [Su113.step, Su113.does]
    by_cases h : Su113.okB b1 r1 b2 r2 m = false
    · simp [h, Su113.no]
    · simp [h, Su113.no]
  | some a =>
    simp only [Su113.step, Su113.does]
    by_cases h : Su113.okB b1 r1 b2 r2 m = false
    · simp [h]
    · simp [h]
theorem scBeg : FnScope ["line", "given"] ["line", "given"] (defScope sBeg) := ⟨rfl, rfl, rfl, by decide +kernel, rfl, by decide +kernel, by decide +kernel⟩
theorem ok_beg {f C fC fR fS : Addr} {fd fdC fdR fdS : FuncData} (F : Fun K "begin" "begin" sBeg f fd) (T : Txt K C) (gO : ∃ t, mg "OUT_OF_RANGE" = some (.int (-22) t))
    (GC : FnOk P w K mg base CX0 1 fC fdC ["chances"] (spChf K)) (kC : PySem.W.keepIn K (.ref fC) = true) (bC : Binds K fdC ["chances"] []) (gC : mg "chances_fit" = some (.ref fC))
    (GR : FnOk P w K mg base CX0 1 fR fdR ["holds"] spRof) (kR : PySem.W.keepIn K (.ref fR) = true) (bR : Binds K fdR ["holds"] []) (gR : mg "room_fits" = some (.ref fR))
    (GS : FnOk P w K mg base CX0 1 fS fdS ["line"] (spSta C K)) (kS : PySem.W.keepIn K (.ref fS) = true) (bS : Binds K fdS ["line"] []) (gS : mg "start_over" = some (.ref fS)) :
    FnOk P w K mg base CX0 2 f fd ["line", "given"] (spBeg C K) := by
  obtain ⟨tO, gO⟩ := gO
  refine F.ok scBeg (fun vs H Q E h => ?_) (fun cdv A outer s H vs Q E hr h => ?_)
  · obtain ⟨s, l, g, n, b1, r1, b2, r2, m, rfl, _⟩ := h; rfl
  · obtain ⟨s, l, g, n, b1, r1, b2, r2, m, rfl, L, hg, k⟩ := h
    refine ⟨_, pss_cons (ps_if (PW.pt (pw_or (pt_not (pt_val (pe_call GC hr rfl gC kC bC .nil pass0 (pa_cons (pe_slice sl_list (pv 1) po_none (po_some pe_int)) pa_nil))))
        (pw_or1 (pt_not (pt_val (pe_call GR hr rfl gR kR bR .nil pass0 (pa_cons (pe_ix ix_list (pv 1) pe_int (fun _ _ => rfl)) pa_nil))))))) (pss_one (ps_ret (pe_lst (pa_cons (pe_glob (v := V.int (-22)) rfl gO ⟨_, rfl⟩) pa_nil)))) pss_nil)
      (pss_cons (ps_fld (pv 0) pe_bl rfl) (pss_cons (ps_fld (pv 0) (pe_slice sl_list (pv 1) po_none (po_some pe_int)) rfl) (pss_cons (ps_fld (pv 0) (pe_ix ix_list (pv 1) pe_int (fun _ _ => rfl)) rfl)
      (pss_cons (ps_expr (pe_call GS hr rfl gS kS bS .nil pass0 (pa_cons (pv 0) pa_nil))) (pss_one (ps_ret (pe_lst (pa_cons pe_int pa_nil))))))))
      , ?_⟩
    walk_at "rd"
    rw [begin_step] at k
    have oks : Su113.okB b1 r1 b2 r2 m = (([(b1 : Int), r1, b2, r2] : List Int).all fit && rfit m) := by
      simp only [List.all_cons, List.all_nil, fit_ok, rfit_ok, Bool.and_true]
      unfold Su113.okB
      cases Su113.ok b1 <;> cases Su113.ok r1 <;> cases Su113.ok b2 <;> cases Su113.ok r2 <;> simp
    refine ⟨_, rfl, _, rfl, g, _, rfl, hg, fun c1 hc1 => ?_⟩
    have s1 : Same H (upd H c1 (.lst (cutV [V.int b1, .int r1, .int b2, .int r2, .int m] none (some 4)))) := fun b o e => by rw [upd_ne (ne_of_none e hc1)]; exact e
    have ecut : cutV [V.int b1, .int r1, .int b2, .int r2, .int m] none (some 4) = ([(b1 : Int), r1, b2, r2] : List Int).map V.int := rfl
    refine ⟨c1, [(b1 : Int), r1, b2, r2], rfl, SqL.of (by rw [upd_same, ecut]), by show 4 ≤ 100; decide, fun H2 s2 => ⟨_, rfl, ?_⟩⟩
    have s12 := s1.trans s2
    have refuse : ∀ H3, Same H H3 → Su113.okB b1 r1 b2 r2 m = false → tLst (tCons (tC (V.int (-22))) tNil) [some (V.ref l), some (V.ref g)] H3 Q := fun H3 s3 ho => by
      refine ⟨by show 1 ≤ sizeLine; decide, fun p hp => ?_⟩
      have s4 : Same H (upd H3 p (.lst [V.int (-22)])) := fun b o e => by rw [upd_ne (ne_of_none (s3 b o e) hp)]; exact s3 b o e
      refine k _ p (fun b o e _ => s4 b o e) (s3.free hp) ?_ ?_
      · rw [if_pos ho]; exact L.same s4 (Nat.le_refl _)
      · rw [if_pos ho, upd_same]; rfl
    cases e1 : ([(b1 : Int), r1, b2, r2] : List Int).all fit with
    | false =>
      rw [if_pos rfl]
      exact refuse H2 s12 (by rw [oks, e1]; rfl)
    | true =>
      rw [if_neg (by decide)]
      refine ixL (s12.seq hg) rfl ⟨_, rfl, _, rfl, ?_⟩
      cases e2 : rfit m with
      | false =>
        rw [if_pos rfl]
        exact refuse H2 s12 (by rw [oks, e1, e2]; rfl)
      | true =>
        rw [if_neg (by decide)]
        have ho : ¬ Su113.okB b1 r1 b2 r2 m = false := by rw [oks, e1, e2]; decide
        obtain ⟨dx, c, d, kvs, hd, hk, hkn, b0, h0, p0, x0, y0, hl⟩ : ∃ (dx c d : Addr) (kvs : List (List Key × V)), H d = some (.dT kvs) ∧ Known H kvs ∧ kvs.length ≤ n ∧ ∃ (b : Bool) (h p x y : Int), H l = some (.ins C dx (lineF b c h p x y d)) := by
          obtain ⟨dx, c, d, kvs, h1, h2, h3, h4⟩ := L
          cases s with
          | none => exact ⟨dx, c, d, kvs, h1, h2, h3, _, _, _, _, _, h4⟩
          | some a => exact ⟨dx, c, d, kvs, h1, h2, h3, _, _, _, _, _, h4.2.1⟩
        have hl2 := s12 _ _ hl
        have g2 := s12.seq hg
        have g3 := sql_upd (o := HO.ins C dx (lineF true c h0 p0 x0 y0 d)) g2 hl2
        refine ⟨l, rfl, C, dx, _, hl2, T.cl, T.nB, by show 7 < 1000; decide, ?_⟩
        rw [pt_begun]
        refine ⟨_, rfl, _, rfl, g, _, rfl, g3, fun c2 hc2 => ?_⟩
        have hlc : l ≠ c2 := fun e => by rw [← e, upd_same] at hc2; cases hc2
        have hc20 : H2 c2 = none := by rw [upd_ne hlc.symm] at hc2; exact hc2
        refine ⟨l, rfl, C, dx, _, (by rw [upd_ne hlc, upd_same]), T.cl, T.nC, by show 7 < 1000; decide, ?_⟩
        rw [pt_chances]
        have g4 : SqL K (upd (upd (upd H2 l (.ins C dx (lineF true c h0 p0 x0 y0 d))) c2 (.lst (cutV [V.int b1, .int r1, .int b2, .int r2, .int m] none (some 4)))) l (.ins C dx (lineF true c2 h0 p0 x0 y0 d))) g [.int b1, .int r1, .int b2, .int r2, .int m] :=
          sql_upd (sql_new g3 hc2) (by rw [upd_ne hlc, upd_same])
        refine ixL g4 rfl ⟨l, rfl, C, dx, _, upd_same, T.cl, T.nH, by show 7 < 1000; decide, ?_⟩
        rw [pt_holds, upd_upd]
        refine ⟨l, dx, c2, d, true, m, p0, x0, y0, rfl, upd_same, ?_⟩
        rw [upd_upd]
        refine ⟨by show 1 ≤ sizeLine; decide, fun p hp => ?_⟩
        rw [ecut] at hp ⊢
        generalize hH5 : upd (upd (upd H2 l (.ins C dx (lineF true c h0 p0 x0 y0 d))) c2 (.lst (([(b1 : Int), r1, b2, r2] : List Int).map V.int))) l (.ins C dx (lineF true c2 m 0 1 1 d)) = H5 at hp
        have l5 : H5 l = some (.ins C dx (lineF true c2 m 0 1 1 d)) := by rw [← hH5, upd_same]
        have c5 : H5 c2 = some (.lst (([(b1 : Int), r1, b2, r2] : List Int).map V.int)) := by rw [← hH5, upd_ne hlc.symm, upd_same]
        have k5 : ∀ b o, H2 b = some o → b ≠ l → H5 b = some o := fun b o e hb => by
          rw [← hH5, upd_ne hb, upd_ne (ne_of_none e hc20), upd_ne hb]; exact e
        have k6 : ∀ b o, H5 b = some o → upd H5 p (.lst [V.int 0]) b = some o := fun b o e => by rw [upd_ne (ne_of_none e hp)]; exact e
        have k7 : KL l H (upd H5 p (.lst [V.int 0])) := fun b o e hb => k6 _ _ (k5 _ _ (s12 _ _ e) hb)
        have hdl : d ≠ l := ne_of hd hl (by intro z; cases z)
        have rO : 1 ≤ m ∧ m ≤ 6 := by
          have := rfit_ok m; rw [e2] at this
          unfold Su113.ROOM at this; simp at this; omega
        have cO : ∀ z : Nat, fit z = true → 1 ≤ z ∧ z ≤ 9 := fun z h => by
          rw [fit_ok] at h; unfold Su113.ok at h; simp at h; omega
        simp only [List.all_cons, List.all_nil, Bool.and_true, Bool.and_eq_true] at e1
        have hp0 : H p = none := by
          cases q : H p with
          | none => rfl
          | some o =>
            by_cases hb : p = l
            · rw [hb, l5] at hp; cases hp
            · have z := k5 _ _ (s12 _ _ q) hb; rw [hp] at z; cases z
        refine k _ p k7 hp0 ?_ ?_
        · rw [if_neg ho]
          refine ⟨dx, c2, d, kvs, k7 _ _ hd hdl, fun q hq => ?_, hkn, ⟨⟨cO _ e1.1, cO _ e1.2.1, cO _ e1.2.2.1, cO _ e1.2.2.2, rO⟩, Nat.zero_le _, show 1 < 2 by decide, show 1 < 2 by decide⟩, k6 _ _ l5, k6 _ _ c5⟩
          obtain ⟨a, w, o, q1, q2, q3⟩ := hk q hq
          exact ⟨a, w, o, q1, q2, k7 _ _ q3 (ne_of q3 hl (by intro z; cases z))⟩
        · rw [if_neg ho, upd_same]; rfl
end
abbrev sRoo : Stmt := top 43
abbrev sHou : Stmt := top 44
abbrev sFre : Stmt := top 45
/-- a call on a line that is begun, which changes the line's own object alone -/
def spCmd (C : Addr) (K : PySem.W.Frag) (ok : List Nat → Prop) (mk : List Nat → Su113.Call) : Sp := fun vs H Q _ => ∃ (a : Su113.Abs) (l g : Addr) (n : Nat) (xs : List Nat), ok xs ∧ vs = [.ref l, .ref g] ∧ LineAt C H l (some a) n ∧ SqL K H g (xs.map fun (z : Nat) => V.int (z : Int)) ∧
  ∀ H' p, KL l H H' → H p = none → LineAt C H' l (some (Su113.does a (mk xs)).1) n → H' p = some (.lst ((ansL (Su113.does a (mk xs)).2).map V.int)) → Q (.ref p) H'
/-- the object written: the line stands as told -/
theorem LineAt.put {C : Addr} {H H' : Hp} {l dx c d : Addr} {kvs : List (List Key × V)} {n : Nat} {a : Su113.Abs} {fs : List (Str × V)} (hl : H l = some (.ins C dx fs)) (hd : H d = some (.dT kvs)) (hk : Known H kvs) (hkn : kvs.length ≤ n) (e : KL l H H')
    (nw : Now a) (h1 : H' l = some (.ins C dx (lineF true c a.room a.now.1 a.now.2.1 a.now.2.2 d))) (h2 : H' c = some (.lst (chV a))) : LineAt C H' l (some a) n :=
  ⟨dx, c, d, kvs, e _ _ hd (ne_of hd hl (by intro z; cases z)), fun q hq => by
    obtain ⟨a, w, o, q1, q2, q3⟩ := hk q hq
    exact ⟨a, w, o, q1, q2, e _ _ q3 (ne_of q3 hl (by intro z; cases z))⟩, hkn, nw, h1, h2⟩
section
variable {P : Program} {w : World} {K : PySem.W.Frag} {mg : Str → Option Value} {base : Heap}
theorem scRoo : FnScope ["line", "given", "held"] ["line", "given"] (defScope sRoo) := ⟨rfl, rfl, rfl, by decide +kernel, rfl, by decide +kernel, by decide +kernel⟩
theorem ok_roo {f C fR : Addr} {fd fdR : FuncData} (F : Fun K "room" "room" sRoo f fd) (T : Txt K C) (gO : ∃ t, mg "OUT_OF_RANGE" = some (.int (-22) t))
    (GR : FnOk P w K mg base CX0 1 fR fdR ["holds"] spRof) (kR : PySem.W.keepIn K (.ref fR) = true) (bR : Binds K fdR ["holds"] []) (gR : mg "room_fits" = some (.ref fR)) :
    FnOk P w K mg base CX0 2 f fd ["line", "given"] (spCmd C K (fun xs => ∃ m, xs = [m]) fun xs => .room (xs.getD 0 0)) := by
  obtain ⟨tO, gO⟩ := gO
  refine F.ok scRoo (fun vs H Q E h => ?_) (fun cdv A outer s H vs Q E hr h => ?_)
  · obtain ⟨a, l, g, n, xs, _, rfl, _⟩ := h; rfl
  · obtain ⟨a, l, g, n, xs, ⟨m, rfl⟩, rfl, L, hg, k⟩ := h
    obtain ⟨dx, c, d, kvs, hd, hk, hkn, nw, hl, hc⟩ := id L
    refine ⟨_, pss_cons (ps_if (pt_not (pt_val (pe_call GR hr rfl gR kR bR .nil pass0 (pa_cons (pe_ix ix_list (pv 1) pe_int (fun _ _ => rfl)) pa_nil)))) (pss_one (ps_ret (pe_lst (pa_cons (pe_glob (v := V.int (-22)) rfl gO ⟨_, rfl⟩) pa_nil)))) pss_nil)
      (pss_cons (ps_set (i := 2) scRoo.nd rfl (Or.inl rfl) (pe_fld (pv 0) rfl)) (pss_cons (ps_fld (pv 0) (pe_ix ix_list (pv 1) pe_int (fun _ _ => rfl)) rfl) (pss_cons (ps_fld (pv 0) pe_int rfl) (pss_one (ps_ret (pe_lst (pa_cons (pv 2) pa_nil))))))), ?_⟩
    walk_at "rd"
    refine ixL hg rfl ⟨_, rfl, _, rfl, ?_⟩
    have hf := rfit_ok m
    cases e : rfit m with
    | false =>
      rw [if_pos rfl]
      have hm : m = 0 ∨ Su113.ROOM < m := by rw [e] at hf; simp at hf; unfold Su113.ROOM at *; omega
      refine ⟨by show 1 ≤ sizeLine; decide, fun p hp => ?_⟩
      have s4 : Same H (upd H p (.lst [V.int (-22)])) := fun b o e => by rw [upd_ne (ne_of_none e hp)]; exact e
      have ed : Su113.does a (.room m) = (a, Su113.no (-22)) := by show (if m = 0 ∨ Su113.ROOM < m then _ else _) = _; rw [if_pos hm]
      refine k _ p (fun b o e _ => s4 b o e) hp ?_ ?_
      · show LineAt C _ l (some (Su113.does a (.room m)).1) n
        rw [ed]; exact L.same s4 (Nat.le_refl _)
      · show _ = some (HO.lst ((ansL (Su113.does a (.room m)).2).map V.int))
        rw [ed, upd_same]; rfl
    | true =>
      rw [if_neg (by decide)]
      have hm : ¬ (m = 0 ∨ Su113.ROOM < m) := by rw [e] at hf; simp at hf; unfold Su113.ROOM at *; omega
      have ed : Su113.does a (.room m) = ({ a with room := m, now := (0, a.now.2.1, a.now.2.2) }, Su113.num a.room []) := by show (if m = 0 ∨ Su113.ROOM < m then _ else _) = _; rw [if_neg hm]
      refine fT rfl hl T.cl T.nH lk_holds (ixL hg rfl ⟨l, rfl, C, dx, _, hl, T.cl, T.nH, by show 7 < 1000; decide, l, rfl, C, dx, _, upd_same, T.cl, T.nP, by show 7 < 1000; decide, ?_⟩)
      rw [pt_holds, pt_pieces, upd_upd]
      refine ⟨_, rfl, by show 1 ≤ sizeLine; decide, fun p hp => ?_⟩
      have hlp : l ≠ p := fun z => by rw [← z, upd_same] at hp; cases hp
      have hp0 : H p = none := by rw [upd_ne hlp.symm] at hp; exact hp
      have kl : KL l H (upd (upd H l (.ins C dx (lineF true c m 0 a.now.2.1 a.now.2.2 d))) p (.lst [V.int a.room])) := fun b o e hb => by rw [upd_ne (ne_of_none e hp0), upd_ne hb]; exact e
      refine k _ p kl hp0 ?_ ?_
      · show LineAt C _ l (some (Su113.does a (.room m)).1) n
        rw [ed]
        exact LineAt.put hl hd hk hkn kl ⟨⟨nw.ok.b1, nw.ok.r1, nw.ok.b2, nw.ok.r2, by unfold Su113.ROOM at hm; show 1 ≤ m ∧ m ≤ 6; omega⟩, Nat.zero_le _, nw.fx, nw.sy⟩ (by rw [upd_ne hlp, upd_same]; rfl) (kl _ _ hc (ne_of hc hl (by intro z; cases z)))
      · show _ = some (HO.lst ((ansL (Su113.does a (.room m)).2).map V.int))
        rw [ed, upd_same]; rfl
theorem scFre : FnScope ["line", "given", "lay"] ["line", "given"] (defScope sFre) := ⟨rfl, rfl, rfl, by decide +kernel, rfl, by decide +kernel, by decide +kernel⟩
theorem ok_fre {f C fS : Addr} {fd fdS : FuncData} (F : Fun K "fresh" "fresh" sFre f fd) (T : Txt K C)
    (GS : FnOk P w K mg base CX0 1 fS fdS ["line"] (spSta C K)) (kS : PySem.W.keepIn K (.ref fS) = true) (bS : Binds K fdS ["line"] []) (gS : mg "start_over" = some (.ref fS)) :
    FnOk P w K mg base CX0 2 f fd ["line", "given"] (spCmd C K (fun xs => True) fun xs => .fresh) := by
  refine F.ok scFre (fun vs H Q E h => ?_) (fun cdv A outer s H vs Q E hr h => ?_)
  · obtain ⟨a, l, g, n, xs, _, rfl, _⟩ := h; rfl
  · obtain ⟨a, l, g, n, xs, _, rfl, L, hg, k⟩ := h
    obtain ⟨dx, c, d, kvs, hd, hk, hkn, nw, hl, hc⟩ := id L
    refine ⟨_, pss_cons (ps_set (i := 2) scFre.nd rfl (Or.inl rfl) (pe_fld (pv 0) rfl)) (pss_cons (ps_expr (pe_call GS hr rfl gS kS bS .nil pass0 (pa_cons (pv 0) pa_nil))) (pss_one (ps_ret (pe_lst (pa_cons (pv 2) pa_nil))))), ?_⟩
    walk_at "rd"
    refine fT rfl hl T.cl T.nP lk_pieces ⟨l, dx, c, d, _, _, _, _, _, rfl, hl, _, rfl, by show 1 ≤ sizeLine; decide, fun p hp => ?_⟩
    have hlp : l ≠ p := fun z => by rw [← z, upd_same] at hp; cases hp
    have hp0 : H p = none := by rw [upd_ne hlp.symm] at hp; exact hp
    have kl : KL l H (upd (upd H l (.ins C dx (lineF true c a.room 0 1 1 d))) p (.lst [V.int a.now.1])) := fun b o e hb => by rw [upd_ne (ne_of_none e hp0), upd_ne hb]; exact e
    refine k _ p kl hp0 ?_ ?_
    · exact LineAt.put (a := { a with now := (0, 1, 1) }) hl hd hk hkn kl ⟨⟨nw.ok.b1, nw.ok.r1, nw.ok.b2, nw.ok.r2, nw.ok.room⟩, Nat.zero_le _, show 1 < 2 by decide, show 1 < 2 by decide⟩ (by rw [upd_ne hlp, upd_same]; rfl) (kl _ _ hc (ne_of hc hl (by intro z; cases z)))
    · rw [upd_same]; rfl
end
abbrev sCha : Stmt := top 42
theorem sec_gen (a : Su113.Abs) (s : Su113.St) (y : Nat) (hy : y < 2) : secW (s.1 : Int) (y : Int) = (Su113.bit (a.second s y) : Nat) := by
  unfold secW Su113.bit Su113.Abs.second
  have h : y = 0 ∨ y = 1 := by omega
  rcases h with rfl | rfl <;> simp <;> split <;> simp_all <;> omega
theorem fir_gen (a : Su113.Abs) (s : Su113.St) (x y : Nat) (hx : x < 2) (hy : y < 2) : firW (s.1 : Int) (x : Int) (y : Int) (a.room : Int) = (Su113.bit (a.first s x y) : Nat) := by
  unfold firW
  rw [sec_gen a s y hy]
  unfold Su113.Abs.first Su113.bit
  have h : x = 0 ∨ x = 1 := by omega
  rcases h with rfl | rfl
  · simp
  · cases q : a.second s y <;> simp <;> (try split) <;> simp_all <;> omega
theorem next_gen (a : Su113.Abs) (s : Su113.St) (x y : Nat) (hx : x < 2) (hy : y < 2) : (s.1 : Int) + firW (s.1 : Int) x y a.room - secW (s.1 : Int) y = ((a.next s x y).1 : Nat) := by
  rw [fir_gen a s x y hx hy, sec_gen a s y hy]
  show _ = ((s.1 + (if a.first s x y then 1 else 0) - (if a.second s y then 1 else 0) : Nat) : Int)
  unfold Su113.bit
  have h2 : a.second s y = true → 0 < s.1 := fun h => by unfold Su113.Abs.second at h; simp at h; exact h.2
  cases q : a.second s y <;> cases q2 : a.first s x y <;> simp
  · have := h2 q; omega
theorem next_le (a : Su113.Abs) (s : Su113.St) (x y : Nat) (h : s.1 ≤ a.room) : (a.next s x y).1 ≤ a.room := by
  show s.1 + (if a.first s x y then 1 else 0) - (if a.second s y then 1 else 0) ≤ _
  cases q : a.second s y <;> cases q2 : a.first s x y <;> simp
  · exact h
  · unfold Su113.Abs.first at q2; rw [q] at q2; simp at q2; omega
  · omega
  · omega
section
variable {P : Program} {w : World} {K : PySem.W.Frag} {mg : Str → Option Value} {base : Heap}
theorem scHou : FnScope ["line", "given", "first", "second", "comes_out", "goes_in"] ["line", "given"] (defScope sHou) := ⟨rfl, rfl, rfl, by decide +kernel, rfl, by decide +kernel, by decide +kernel⟩
theorem ok_hou {f C fS fF fP : Addr} {fd fdS fdF fdP : FuncData} (F : Fun K "hour" "hour" sHou f fd) (T : Txt K C) (gO : ∃ t, mg "OUT_OF_RANGE" = some (.int (-22) t))
    (GS : FnOk P w K mg base CX0 1 fS fdS ["pieces", "second"] spSec) (kS : PySem.W.keepIn K (.ref fS) = true) (bS : Binds K fdS ["pieces", "second"] []) (gS : mg "second_works" = some (.ref fS))
    (GF : FnOk P w K mg base CX0 2 fF fdF ["pieces", "first", "second", "holds"] spFir) (kF : PySem.W.keepIn K (.ref fF) = true) (bF : Binds K fdF ["pieces", "first", "second", "holds"] []) (gF : mg "first_works" = some (.ref fF))
    (GP : FnOk P w K mg base CX0 3 fP fdP ["pieces", "first", "second", "holds"] spPie) (kP : PySem.W.keepIn K (.ref fP) = true) (bP : Binds K fdP ["pieces", "first", "second", "holds"] []) (gP : mg "pieces_behind" = some (.ref fP)) :
    FnOk P w K mg base CX0 4 f fd ["line", "given"] (spCmd C K (fun xs => ∃ x y, xs = [x, y]) fun xs => .hour (xs.getD 0 0) (xs.getD 1 0)) := by
  obtain ⟨tO, gO⟩ := gO
  refine F.ok scHou (fun vs H Q E h => ?_) (fun cdv A outer s H vs Q E hr h => ?_)
  · obtain ⟨a, l, g, n, xs, _, rfl, _⟩ := h; rfl
  · obtain ⟨a, l, g, n, xs, ⟨x, y, rfl⟩, rfl, L, hg, k⟩ := h
    obtain ⟨dx, c, d, kvs, hd, hk, hkn, nw, hl, hc⟩ := id L
    refine ⟨_, pss_cons (ps_set (i := 2) scHou.nd rfl (Or.inl rfl) (pe_ix ix_list (pv 1) pe_int (fun _ _ => rfl))) (pss_cons (ps_set (i := 3) scHou.nd rfl (Or.inl rfl) (pe_ix ix_list (pv 1) pe_int (fun _ _ => rfl)))
      (pss_cons (ps_if (PW.pt (pw_or (pt_cmpR op_gt (pv 2) pe_int (nomark _)) (pw_or1 (pt_cmpR op_gt (pv 3) pe_int (nomark _))))) (pss_one (ps_ret (pe_lst (pa_cons (pe_glob (v := V.int (-22)) rfl gO ⟨_, rfl⟩) pa_nil)))) pss_nil)
      (pss_cons (ps_set (i := 4) scHou.nd rfl (Or.inl rfl) (pe_call GS (hr.mono (by decide)) rfl gS kS bS .nil pass0 (pa_cons (pe_fld (pv 0) rfl) (pa_cons (pv 3) pa_nil))))
      (pss_cons (ps_set (i := 5) scHou.nd rfl (Or.inl rfl) (pe_call GF (hr.mono (by decide)) rfl gF kF bF .nil pass0 (pa_cons (pe_fld (pv 0) rfl) (pa_cons (pv 2) (pa_cons (pv 3) (pa_cons (pe_fld (pv 0) rfl) pa_nil))))))
      (pss_cons (ps_fld (pv 0) (pe_call GP hr rfl gP kP bP .nil pass0 (pa_cons (pe_fld (pv 0) rfl) (pa_cons (pv 2) (pa_cons (pv 3) (pa_cons (pe_fld (pv 0) rfl) pa_nil))))) rfl)
      (pss_cons (ps_fld (pv 0) (pv 2) rfl) (pss_cons (ps_fld (pv 0) (pv 3) rfl) (pss_one (ps_ret (pe_lst (pa_cons (pv 4) (pa_cons (pv 5) (pa_cons (pe_fld (pv 0) rfl) pa_nil)))))))))))))
      , ?_⟩
    have hg : SqL K H g [V.int x, V.int y] := hg
    walk_at "rd"
    refine ixL hg rfl (ixL hg rfl ⟨_, rfl, ?_⟩)
    have refuse : (1 < x ∨ 1 < y) → tLst (tCons (tC (V.int (-22))) tNil) [some (V.ref l), some (V.ref g), some (V.int x), some (V.int y), none, none] H Q := fun hm => by
      refine ⟨by show 1 ≤ sizeLine; decide, fun p hp => ?_⟩
      have s4 : Same H (upd H p (.lst [V.int (-22)])) := fun b o e => by rw [upd_ne (ne_of_none e hp)]; exact e
      have ed : Su113.does a (.hour x y) = (a, Su113.no (-22)) := by show (if 1 < x ∨ 1 < y then _ else _) = _; rw [if_pos hm]
      refine k _ p (fun b o e _ => s4 b o e) hp ?_ ?_
      · show LineAt C _ l (some (Su113.does a (.hour x y)).1) n
        rw [ed]; exact L.same s4 (Nat.le_refl _)
      · show _ = some (HO.lst ((ansL (Su113.does a (.hour x y)).2).map V.int))
        rw [ed, upd_same]; rfl
    by_cases hx : (1 : Int) < x
    · rw [if_pos hx]; exact refuse (.inl (by omega))
    · rw [if_neg hx]
      refine ⟨_, rfl, ?_⟩
      by_cases hy : (1 : Int) < y
      · rw [if_pos hy]; exact refuse (.inr (by omega))
      · rw [if_neg hy]
        have hm : ¬ (1 < x ∨ 1 < y) := by omega
        have hX : x < 2 := by omega
        have hY : y < 2 := by omega
        have ed : Su113.does a (.hour x y) = ({ a with now := a.next a.now x y }, Su113.num (Su113.bit (a.second a.now y)) [Su113.nat (Su113.bit (a.first a.now x y)), Su113.nat (a.next a.now x y).1]) := by show (if 1 < x ∨ 1 < y then _ else _) = _; rw [if_neg hm]
        refine fT rfl hl T.cl T.nP lk_pieces ⟨_, _, rfl, fT rfl hl T.cl T.nP lk_pieces (fT rfl hl T.cl T.nH lk_holds ⟨_, _, _, _, rfl, fT rfl hl T.cl T.nP lk_pieces (fT rfl hl T.cl T.nH lk_holds ⟨_, _, _, _, rfl, ?_⟩)⟩)⟩
        rw [next_gen a a.now x y hX hY, fir_gen a a.now x y hX hY, sec_gen a a.now y hY]
        refine ⟨l, rfl, C, dx, _, hl, T.cl, T.nP, by show 7 < 1000; decide, l, rfl, C, dx, _, upd_same, T.cl, T.nF, by show 7 < 1000; decide, l, rfl, C, dx, _, upd_same, T.cl, T.nS, by show 7 < 1000; decide, ?_⟩
        rw [pt_pieces, pt_first, pt_second, upd_upd, upd_upd]
        refine ⟨_, rfl, _, rfl, fT rfl upd_same T.cl T.nP lk_pieces ⟨by show 3 ≤ sizeLine; decide, fun p hp => ?_⟩⟩
        have hlp : l ≠ p := fun z => by rw [← z, upd_same] at hp; cases hp
        have hp0 : H p = none := by rw [upd_ne hlp.symm] at hp; exact hp
        have kl : ∀ v, KL l H (upd (upd H l (.ins C dx (lineF true c a.room ((a.next a.now x y).1 : Nat) x y d))) p (.lst v)) := fun v b o e hb => by rw [upd_ne (ne_of_none e hp0), upd_ne hb]; exact e
        refine k _ p (kl _) hp0 ?_ ?_
        · show LineAt C _ l (some (Su113.does a (.hour x y)).1) n
          rw [ed]
          exact LineAt.put hl hd hk hkn (kl _) ⟨⟨nw.ok.b1, nw.ok.r1, nw.ok.b2, nw.ok.r2, nw.ok.room⟩, next_le a a.now x y nw.pc, hX, hY⟩ (by rw [upd_ne hlp, upd_same]; rfl) (kl _ _ _ hc (ne_of hc hl (by intro z; cases z)))
        · show _ = some (HO.lst ((ansL (Su113.does a (.hour x y)).2).map V.int))
          rw [ed, upd_same]; rfl
end
end Me
end
section
set_option Elab.async false
set_option linter.all false
set_option maxRecDepth 100000
namespace Me
open Md (st nx wg hit Pm nst lev fac1 wI isum fr ppi cnt Ok chain sm)
/-! ### what the program tells, and the specification -/
theorem frac_fr {a : Su113.Abs} (ok : Ok a) (μ : Int → Int → Int → Int) : fracL (aboveE a μ) (belowE a) = Su113.two (fr (sm (nst a) fun i => ppi a i * ((cM a μ i : Int) : Rat) / 100)) := by
  have C := chain ok
  have hp := C.wI_sum_pos
  have hb : (belowE a).toNat ≠ 0 := by
    have : 0 < belowE a := Int.mul_pos (by decide) hp
    omega
  unfold fracL
  rw [Md.low_eq _ hb]
  congr 2
  exact C.tell (fun i => cM a μ i) 100 (by decide)
theorem cM_often {a : Su113.Abs} {μ : Int → Int → Int → Int} {f : Su113.St → Nat → Nat → Bool} {i : Nat} (h : ∀ x y, x < 2 → y < 2 → μ ((i / 4 : Nat) : Int) (x : Nat) (y : Nat) = if f (st i) x y then 1 else 0) : cM a μ i = (cnt a f i : Nat) := by
  have e : cM a μ i = (wg a i 0 0 : Int) * μ ((i / 4 : Nat) : Int) (0 : Nat) (0 : Nat) + (wg a i 0 1 : Int) * μ ((i / 4 : Nat) : Int) (0 : Nat) (1 : Nat) + (wg a i 1 0 : Int) * μ ((i / 4 : Nat) : Int) (1 : Nat) (0 : Nat) + (wg a i 1 1 : Int) * μ ((i / 4 : Nat) : Int) (1 : Nat) (1 : Nat) := by
    unfold cM isum
    show (([0, 1, 2, 3] : List Nat).map fun u => (wg a i (upX u) (upY u) : Int) * μ ((i / 4 : Nat) : Int) (upX u : Nat) (upY u : Nat)).sum = _
    simp [upX, upY]
    omega
  rw [e, h 0 0 (by omega) (by omega), h 0 1 (by omega) (by omega), h 1 0 (by omega) (by omega), h 1 1 (by omega) (by omega)]
  unfold cnt
  cases f (st i) 0 0 <;> cases f (st i) 0 1 <;> cases f (st i) 1 0 <;> cases f (st i) 1 1 <;> simp
theorem frac_often {a : Su113.Abs} (ok : Ok a) {μ : Int → Int → Int → Int} {f : Su113.St → Nat → Nat → Bool} (h : ∀ i x y, i < nst a → x < 2 → y < 2 → μ ((i / 4 : Nat) : Int) (x : Nat) (y : Nat) = if f (st i) x y then 1 else 0) :
    fracL (aboveE a μ) (belowE a) = Su113.two (a.often f) := by
  rw [frac_fr ok, Md.often_eq ok]
  congr 2
  apply Md.sm_congr; intro i hi
  rw [cM_often (fun x y => h i x y hi)]
  rfl
theorem cM_sum {a : Su113.Abs} (ok : Ok a) {μ : Int → Int → Int → Int} {v : Int} {i : Nat} (h : ∀ x y, x < 2 → y < 2 → μ ((i / 4 : Nat) : Int) (x : Nat) (y : Nat) = v) : cM a μ i = 100 * v := by
  have e : cM a μ i = (wg a i 0 0 : Int) * μ ((i / 4 : Nat) : Int) (0 : Nat) (0 : Nat) + (wg a i 0 1 : Int) * μ ((i / 4 : Nat) : Int) (0 : Nat) (1 : Nat) + (wg a i 1 0 : Int) * μ ((i / 4 : Nat) : Int) (1 : Nat) (0 : Nat) + (wg a i 1 1 : Int) * μ ((i / 4 : Nat) : Int) (1 : Nat) (1 : Nat) := by
    unfold cM isum
    show (([0, 1, 2, 3] : List Nat).map fun u => (wg a i (upX u) (upY u) : Int) * μ ((i / 4 : Nat) : Int) (upX u : Nat) (upY u : Nat)).sum = _
    simp [upX, upY]
    omega
  have w := Md.wg_sum ok i
  rw [e, h 0 0 (by omega) (by omega), h 0 1 (by omega) (by omega), h 1 0 (by omega) (by omega), h 1 1 (by omega) (by omega), ← Int.add_mul, ← Int.add_mul, ← Int.add_mul]
  congr 1
  omega
theorem frac_sumOver {a : Su113.Abs} (ok : Ok a) {μ : Int → Int → Int → Int} {f : Su113.St → Nat} (h : ∀ i x y, i < nst a → x < 2 → y < 2 → μ ((i / 4 : Nat) : Int) (x : Nat) (y : Nat) = (f (st i) : Nat)) :
    fracL (aboveE a μ) (belowE a) = Su113.two (a.sumOver f) := by
  rw [frac_fr ok, Md.sumOver_eq ok]
  congr 2
  apply Md.sm_congr; intro i hi
  rw [cM_sum ok (fun x y => h i x y hi), Rat.intCast_mul]
  show ppi a i * (100 * ((f (st i) : Nat) : Rat)) / 100 = _
  grind
theorem frac_out {a : Su113.Abs} (ok : Ok a) : fracL (aboveE a muSecond) (belowE a) = Su113.two a.out :=
  frac_often ok (f := fun s _ y => a.second s y) fun i x y _ _ hy => by
    show secW ((i / 4 : Nat) : Int) y = _
    rw [sec_eq a i y hy]
theorem frac_first {a : Su113.Abs} (ok : Ok a) : fracL (aboveE a (muFirst a)) (belowE a) = Su113.two (a.often fun s x y => a.first s x y) :=
  frac_often ok (f := fun s x y => a.first s x y) fun i x y _ hx hy => by
    show firW ((i / 4 : Nat) : Int) x y a.room = _
    rw [fir_eq a i x y hx hy]
/-! ### one state, never, soon -/
theorem sm_pick {n k : Nat} (hk : k < n) (g : Nat → Rat) : sm n (fun t => if k = t then g t else 0) = g k := by
  have z : ∀ m, m ≤ k → sm m (fun t => if k = t then g t else 0) = 0 := by
    intro m; induction m with
    | zero => intro _; rfl
    | succ m ih => intro hm; show sm m _ + (if k = m then g m else 0) = 0; rw [ih (by omega), if_neg (by omega)]; grind
  have : ∀ m, k < m → sm m (fun t => if k = t then g t else 0) = g k := by
    intro m; induction m with
    | zero => intro h; omega
    | succ m ih =>
      intro h
      show sm m _ + (if k = m then g m else 0) = g k
      by_cases e : k = m
      · subst e; rw [z k (Nat.le_refl _), if_pos rfl]; grind
      · rw [ih (by omega), if_neg e]; grind
  exact this n hk
theorem frac_long {a : Su113.Abs} (ok : Ok a) {i : Nat} (hi : i < nst a) : fracL (WI a i) (isum (nst a) (WI a)) = Su113.two (fr (ppi a i)) := by
  have C := chain ok
  have hp := C.wI_sum_pos
  have hb : (isum (nst a) (WI a)).toNat ≠ 0 := by
    have : 0 < isum (nst a) (WI a) := hp
    omega
  unfold fracL
  rw [Md.low_eq _ hb]
  congr 2
  have h := C.tell (fun j => if i = j then 1 else 0) 1 (by decide)
  have e1 : (isum (nst a) fun j => wI (nst a) 100 (Pm a) j * (if i = j then 1 else 0)) = WI a i := by
    rw [show (isum (nst a) fun j => wI (nst a) 100 (Pm a) j * (if i = j then 1 else 0)) = isum (nst a) fun j => if i = j then wI (nst a) 100 (Pm a) j else 0 from Md.isum_congr fun j _ => by split <;> simp]
    exact Md.isum_pick (nst a) i hi _
  have e2 : sm (nst a) (fun j => Md.pi (nst a) 100 (Pm a) j * (((if i = j then 1 else 0 : Int)) : Rat) / ((1 : Nat) : Rat)) = ppi a i := by
    rw [show sm (nst a) (fun j => Md.pi (nst a) 100 (Pm a) j * (((if i = j then 1 else 0 : Int)) : Rat) / ((1 : Nat) : Rat)) = sm (nst a) (fun j => if i = j then Md.pi (nst a) 100 (Pm a) j else 0) from Md.sm_congr fun j _ => by split <;> simp <;> grind]
    exact sm_pick hi _
  rw [e1, e2] at h
  rw [← h]
  congr 1
  simp
theorem frac_zero {b : Int} (hb : 0 < b) : fracL 0 b = [0, 1] := by
  rw [fracL_eq (by omega) hb]
  have e : Nat.gcd (0 : Int).toNat b.toNat = b.toNat := Nat.gcd_zero_left _
  rw [e]
  have h2 : ((b.toNat : Nat) : Int) = b := by omega
  rw [h2, Int.zero_ediv, Int.ediv_self (by omega)]
theorem below_pos {a : Su113.Abs} (ok : Ok a) : 0 < belowE a := Int.mul_pos (by decide) (chain ok).wI_sum_pos
theorem often_never {a : Su113.Abs} (ok : Ok a) {f : Su113.St → Nat → Nat → Bool} (h : ∀ s x y, f s x y = false) : Su113.two (a.often f) = [0, 1] := by
  rw [← frac_often ok (μ := fun _ _ _ => 0) (f := f) fun i x y _ _ _ => by rw [h]; rfl]
  have e : aboveE a (fun _ _ _ => 0) = 0 := by
    unfold aboveE cM
    rw [show (isum (nst a) fun i => WI a i * isum 4 fun u => (wg a i (upX u) (upY u) : Int) * 0) = isum (nst a) fun _ => 0 from Md.isum_congr fun i _ => by
      rw [show (isum 4 fun u => (wg a i (upX u) (upY u) : Int) * 0) = isum 4 fun _ => 0 from Md.isum_congr fun u _ => Int.mul_zero _, Md.isum_z, Int.mul_zero]]
    exact Md.isum_z _
  rw [e]
  exact frac_zero (below_pos ok)
theorem cM_cS (a : Su113.Abs) (i : Nat) : cM a muSecond i = Md.cS a i := by
  unfold cM Md.cS
  apply Md.isum_congr; intro u hu
  show (wg a i (upX u) (upY u) : Int) * secW ((i / 4 : Nat) : Int) (upY u : Nat) = (wg a i (upX u) (upY u) : Int) * (if a.second (st i) (upY u) then 1 else 0)
  rw [sec_eq a i (upY u) (by unfold upY; omega)]
theorem st_now {a : Su113.Abs} (fx : a.now.2.1 < 2) (sy : a.now.2.2 < 2) : st (4 * a.now.1 + 2 * a.now.2.1 + a.now.2.2) = a.now := by
  exact ((Md.st_inj (k := a.now.1) fx sy).mpr rfl).symm
theorem frac_soon {a : Su113.Abs} (n : Nat) (fx : a.now.2.1 < 2) (sy : a.now.2.2 < 2) : fracL (Md.VV a n (4 * a.now.1 + 2 * a.now.2.1 + a.now.2.2)) (100 ^ n) = Su113.two (Su111.low (Su113.nat (a.pieces n a.now)) (100 ^ n)) := by
  unfold fracL Md.VV
  rw [st_now fx sy]
  have e : ((100 : Int) ^ n).toNat = 100 ^ n := by
    have : ((100 ^ n : Nat) : Int) = (100 : Int) ^ n := by simp
    rw [← this, Int.toNat_natCast]
  rw [e]; rfl
theorem frac_alone (r b : Nat) : fracL (r : Int) ((r : Int) + (b : Int)) = Su113.two (Su111.low (Su113.nat r) (b + r)) := by
  unfold fracL
  have e : ((r : Int) + (b : Int)).toNat = b + r := by omega
  rw [e]; rfl
theorem frac_ten (b : Nat) : fracL 10 (b : Int) = Su113.two (Su111.low 10 b) := by
  unfold fracL
  have e : ((b : Nat) : Int).toNat = b := by omega
  rw [e]
end Me
end
section
set_option Elab.async false
set_option linter.all false
set_option maxRecDepth 100000
namespace Me
open PySem PySem.Spec PyProof.Rows L2
open Md (st nx wg hit Pm nst lev fac1 wI isum)
open PySem.W (CodeHd envX)
local macro_rules | `(tactic| walk_at "rd") => `(tactic| simp only [scal_int, List.cons.injEq, and_true, true_and, and_assoc, exists_eq_left, exists_eq_right, exists_eq_right', tRet, tIf, tIfS, tSeq, tAnd, tOr, tNot, tAndV, tOrV, tNotV, tTest, tB, tOp, tVar, tC, rI0, rI, rEq, rNe, tCall, tCons, tNil, tAsg, tChain, gName, tDrop, tNext, tRetN, tUn, rU, tBM, rAppend, tAug, tAugS, ipI, rSetL, tCB, tYes, sFld, tSl, tPart, tNoPart, tLst, L2.start, List.map_cons, List.map_nil, List.cons_append, List.nil_append, List.append_nil, List.getElem?_cons_zero, List.getElem?_cons_succ, List.set_cons_zero, List.set_cons_succ, List.length_cons, List.length_nil, List.replicate, Nat.reduceSub, Nat.reduceAdd, Option.some.injEq, exists_eq_left', exists_eq_left, V.int.injEq, V.bl.injEq, exists_and_left, Bool.false_eq_true, if_false, if_true, ite_true, ite_false, decide_eq_true_eq, Bool.not_eq_true', decide_eq_false_iff_not])
abbrev sTro : Stmt := top 39
abbrev sOne : Stmt := top 40
abbrev sTur : Stmt := top 57
abbrev sNow : Stmt := top 66
abbrev sStt : Stmt := top 67
theorem sm_new {H : Hp} {p : Addr} {o : HO} (h : H p = none) : Same H (upd H p o) := fun b x e => by rw [upd_ne (ne_of_none e h)]; exact e
theorem slL {K : PySem.W.Frag} {H : Hp} {g : Addr} {xs : List V} {lo hi : Option Int} {Q : VK} (h : SqL K H g xs) (q : ∀ p, H p = none → Q (.ref p) (upd H p (.lst (cutV xs lo hi)))) : rSlL K (.ref g) lo hi H Q := ⟨g, xs, rfl, h, q⟩
theorem catL {H : Hp} {z p : Addr} {xs ys : List V} {Q : VK} (hz : H z = some (.lst xs)) (hp : H p = some (.lst ys)) (hx : xs.length + ys.length ≤ 1000) (q : ∀ r, H r = none → Q (.ref r) (upd H r (.lst (xs ++ ys)))) : rCat (.ref z) (.ref p) H Q :=
  ⟨z, p, xs, ys, rfl, rfl, hz, hp, Nat.le_trans hx (by decide), q⟩
theorem slS {K : PySem.W.Frag} {H : Hp} {g : Addr} {xs : List V} {lo hi : Option Int} {Q : VK} (h : SqL K H g xs) (q : ∀ p H', H p = none → Same H H' → H' p = some (.lst (cutV xs lo hi)) → Q (.ref p) H') : rSlL K (.ref g) lo hi H Q := ⟨g, xs, rfl, h, fun p hp => q p _ hp (sm_new hp) upd_same⟩
theorem catS {H : Hp} {z p : Addr} {xs ys : List V} {Q : VK} (hz : H z = some (.lst xs)) (hp : H p = some (.lst ys)) (hx : xs.length + ys.length ≤ 1000) (q : ∀ r H', H r = none → Same H H' → H' r = some (.lst (xs ++ ys)) → Q (.ref r) H') : rCat (.ref z) (.ref p) H Q :=
  ⟨z, p, xs, ys, rfl, rfl, hz, hp, Nat.le_trans hx (by decide), fun r hr => q r _ hr (sm_new hr) upd_same⟩
theorem lstS {H : Hp} {xs : List V} {Q : VK} (hx : xs.length ≤ 1000) (q : ∀ p H', H p = none → Same H H' → H' p = some (.lst xs) → Q (.ref p) H') : xs.length ≤ sizeLine ∧ ∀ p, H p = none → Q (.ref p) (upd H p (.lst xs)) :=
  ⟨Nat.le_trans hx (by decide), fun p hp => q p _ hp (sm_new hp) upd_same⟩
theorem bit01 {x : Nat} (h : x < 2) : x = 0 ∨ x = 1 := by omega
theorem Go.kl {tabs : Tabs} {H H' : Hp} {l C dx : Addr} {fs : List (Str × V)} (hl : H l = some (.ins C dx fs)) (e : KL l H H') : Go tabs H H' :=
  ⟨fun b o h n => e b o h (fun z => by rw [z, hl] at h; cases h; exact n.1 _ _ _ rfl), fun h q hq => by
    obtain ⟨ps, h1, h2, h3⟩ := h q hq
    refine ⟨ps, e _ _ h1 (ne_of h1 hl (by intro z; cases z)), h2, fun pos cv hc => ?_⟩
    obtain ⟨c, e1, e2⟩ := h3 pos cv hc
    exact ⟨c, e1, e _ _ e2 (ne_of e2 hl (by intro z; unfold codeO at z; cases z))⟩⟩
/-- no list stood there -/
def NewP (H : Hp) (p : Addr) : Prop := ∀ xs, H p ≠ some (.lst xs)
theorem NewP.of {H : Hp} {p : Addr} (h : H p = none) : NewP H p := fun xs e => by rw [h] at e; cases e
theorem NewP.go {tabs : Tabs} {H H1 : Hp} {p : Addr} (go : Go tabs H H1) (h : H1 p = none) : NewP H p := fun xs e => by
  have z := go.1 _ _ e fix_lst
  rw [h] at z; cases z
/-- what call q brings, the machine looked at -/
def okq (q : Nat) (xs : List Nat) : Prop := xs.length = Md.sizes.getD q 0 ∧ (q ∈ [1, 6, 7, 8, 9, 17, 18, 19] → xs.getD 0 0 < 2)
theorem len1 {xs : List Nat} (h : xs.length = 1) : ∃ x, xs = [x] := by
  match xs, h with
  | [x], _ => exact ⟨x, rfl⟩
theorem len2 {xs : List Nat} (h : xs.length = 2) : ∃ x y, xs = [x, y] := by
  match xs, h with
  | [x, y], _ => exact ⟨x, y, rfl⟩
theorem len3 {xs : List Nat} (h : xs.length = 3) : ∃ x y z, xs = [x, y, z] := by
  match xs, h with
  | [x, y, z], _ => exact ⟨x, y, z, rfl⟩
/-- a call on a line that is begun -/
def spU (C : Addr) (tabs : Tabs) (K : PySem.W.Frag) (q : Nat) : Sp := fun vs H Q _ => ∃ (a : Su113.Abs) (l g : Addr) (n : Nat) (xs : List Nat), n < 99000 ∧ okq q xs ∧ vs = [.ref l, .ref g] ∧ LineAt C H l (some a) n ∧ AllT tabs H ∧ SqL K H g (xs.map fun (z : Nat) => V.int (z : Int)) ∧
  ∀ H' p, Go tabs H H' → NewP H p → LineAt C H' l (some (Su113.does a (Md.mk q xs)).1) (n + 2) → H' p = some (.lst ((ansL (Su113.does a (Md.mk q xs)).2).map V.int)) → Q (.ref p) H'
theorem LineAt.now {C : Addr} {H : Hp} {l : Addr} {a : Su113.Abs} {n : Nat} (L : LineAt C H l (some a) n) : Now a := by
  obtain ⟨dx, c, d, kvs, h1, h2, h3, h4⟩ := L
  exact h4.1
theorem fn_weak {P : Program} {w : World} {K : PySem.W.Frag} {mg : Str → Option Value} {base : Heap} {k : Nat} {f : Addr} {fd : FuncData} {ps : List Str} {sp sp' : Sp} (F : FnOk P w K mg base CX0 k f fd ps sp) (h : ∀ vs H Q E, sp' vs H Q E → sp vs H Q E) : FnOk P w K mg base CX0 k f fd ps sp' :=
  ⟨fun vs H Q E x => F.len vs H Q E (h _ _ _ _ x), fun A outer s H args us vs Q E hr e0 hb r x => F.run A outer s H args us vs Q E hr e0 hb r (h _ _ _ _ x)⟩
theorem cmd_U {P : Program} {w : World} {K : PySem.W.Frag} {mg : Str → Option Value} {base : Heap} {k : Nat} {f C : Addr} {fd : FuncData} {ps : List Str} {tabs : Tabs} {ok : List Nat → Prop} {mk : List Nat → Su113.Call} (F : FnOk P w K mg base CX0 k f fd ps (spCmd C K ok mk)) {q : Nat} (h1 : ∀ xs, okq q xs → ok xs) (h2 : ∀ xs, Md.mk q xs = mk xs) : FnOk P w K mg base CX0 k f fd ps (spU C tabs K q) := by
  refine fn_weak F fun vs H Q E h => ?_
  obtain ⟨a, l, g, n, xs, hn, ho, e, L, at_, hg, k⟩ := h
  obtain ⟨dx, c, d, kvs, hd, hk, hkn, nw, hl, hc⟩ := id L
  rw [h2] at k
  exact ⟨a, l, g, n, xs, h1 _ ho, e, L, hg, fun H' p e1 hn L1 hp => k H' p (.kl hl e1) (.of hn) (L1.same (Same.refl _) (by omega)) hp⟩
/-- a refusal -/
theorem refuse {C l : Addr} {tabs : Tabs} {a : Su113.Abs} {c : Su113.Call} {n : Nat} {H H0 : Hp} {Q : VK} {z : Int} (k : ∀ H' p, Go tabs H H' → NewP H p → LineAt C H' l (some (Su113.does a c).1) (n + 2) → H' p = some (.lst ((ansL (Su113.does a c).2).map V.int)) → Q (.ref p) H')
    (e : Su113.does a c = (a, Su113.no z)) (go : Go tabs H H0) (L : LineAt C H0 l (some a) n) : [V.int z].length ≤ sizeLine ∧ ∀ p, H0 p = none → Q (.ref p) (upd H0 p (.lst [V.int z])) := by
  refine ⟨by show 1 ≤ sizeLine; decide, fun p hp => k _ p (go.trans (.same (sm_new hp))) (.go go hp) ?_ ?_⟩
  · rw [e]; exact L.same (sm_new hp) (by omega)
  · rw [e, upd_same]; rfl
/-- an answer -/
theorem fin {C l : Addr} {tabs : Tabs} {a : Su113.Abs} {c : Su113.Call} {n m : Nat} {H H1 : Hp} {Q : VK} {r : Su113.Ans} {p : Addr} (k : ∀ H' p, Go tabs H H' → NewP H p → LineAt C H' l (some (Su113.does a c).1) (n + 2) → H' p = some (.lst ((ansL (Su113.does a c).2).map V.int)) → Q (.ref p) H')
    (e : Su113.does a c = (a, r)) (go : Go tabs H H1) (nw : NewP H p) (L : LineAt C H1 l (some a) m) (hm : m ≤ n + 2) (hp : H1 p = some (.lst ((ansL r).map V.int))) : Q (.ref p) H1 :=
  k H1 p go nw (by rw [e]; exact L.same (Same.refl _) hm) (by rw [e]; exact hp)
/-- [0] + .. -/
theorem tell1 {C l : Addr} {tabs : Tabs} {a : Su113.Abs} {c : Su113.Call} {n m : Nat} {H H1 : Hp} {Q : VK} {xs : List Int} {z p : Addr} (k : ∀ H' p, Go tabs H H' → NewP H p → LineAt C H' l (some (Su113.does a c).1) (n + 2) → H' p = some (.lst ((ansL (Su113.does a c).2).map V.int)) → Q (.ref p) H')
    (hz : H z = none) (e : Su113.does a c = (a, Su113.num 0 xs)) (go : Go tabs (upd H z (.lst [V.int 0])) H1) (L : LineAt C H1 l (some a) m) (hm : m ≤ n + 2) (hp : H1 p = some (.lst (xs.map V.int))) (hx : xs.length ≤ 900) : rCat (.ref z) (.ref p) H1 Q := by
  refine catL (go.1 _ _ upd_same fix_lst) hp (by rw [List.length_map]; show 1 + _ ≤ 1000; omega) fun r hr => ?_
  exact fin k e (((Go.same (sm_new hz)).trans go).trans (.same (sm_new hr))) (.go ((Go.same (sm_new hz)).trans go) hr) (L.same (sm_new hr) (Nat.le_refl _)) hm (by rw [upd_same]; rfl)
def spTro (K : PySem.W.Frag) : Sp := fun vs H Q _ => ∃ (a : Su113.Abs) (c : Addr), vs = [.ref c] ∧ H c = some (.lst (chV a)) ∧ ∀ H' p, Same H H' → H p = none → H' p = some (.lst (chV a.turned)) → Q (.ref p) H'
/-- one chance by so much more -/
def chAt (a : Su113.Abs) (i : Nat) : Nat := match i with | 0 => a.b1 | 1 => a.r1 | 2 => a.b2 | _ => a.r2
def chPut (a : Su113.Abs) (i : Nat) (z : Int) : List V := (chV a).set i (.int z)
def spOne (K : PySem.W.Frag) : Sp := fun vs H Q _ => ∃ (a : Su113.Abs) (c : Addr) (i : Nat) (d : Int), i < 4 ∧ vs = [.ref c, .int i, .int d] ∧ H c = some (.lst (chV a)) ∧ ∀ H' p, Same H H' → H p = none → H' p = some (.lst (chPut a i ((chAt a i : Int) + d))) → Q (.ref p) H'
section
variable {P : Program} {w : World} {K : PySem.W.Frag} {mg : Str → Option Value} {base : Heap}
theorem scTro : FnScope ["chances"] ["chances"] (defScope sTro) := ⟨rfl, rfl, rfl, by decide +kernel, rfl, by decide +kernel, by decide +kernel⟩
theorem ok_tro {f : Addr} {fd : FuncData} (F : Fun K "turned_round" "turned_round" sTro f fd) : FnOk P w K mg base CX0 1 f fd ["chances"] (spTro K) := by
  refine F.ok scTro (fun vs H Q E h => ?_) (fun cdv A outer s H vs Q E hr h => ?_)
  · obtain ⟨a, c, rfl, _⟩ := h; rfl
  · obtain ⟨a, c, rfl, hc, k⟩ := h
    refine ⟨_, pss_one (ps_ret (pe_op op_cat (pe_slice sl_list (pv 0) (po_some pe_int) po_none) (pe_slice sl_list (pv 0) po_none (po_some pe_int)))), ?_⟩
    walk_at "rd"
    refine slL (SqL.of hc) fun p1 h1 => slL (SqL.of (sm_new h1 _ _ hc)) fun p2 h2 => catL (sm_new h2 _ _ upd_same) upd_same (by show 4 ≤ 1000; decide) fun r hr => ?_
    have s2 := (sm_new (o := .lst (cutV (chV a) (some 2) none)) h1).trans (sm_new (o := .lst (cutV (chV a) none (some 2))) h2)
    exact k _ r (s2.trans (sm_new hr)) (s2.free hr) (by rw [upd_same]; rfl)
theorem scOne : FnScope ["chances", "at", "by"] ["chances", "at", "by"] (defScope sOne) := ⟨rfl, rfl, rfl, by decide +kernel, rfl, by decide +kernel, by decide +kernel⟩
theorem ok_one {f : Addr} {fd : FuncData} (F : Fun K "one_changed" "one_changed" sOne f fd) : FnOk P w K mg base CX0 1 f fd ["chances", "at", "by"] (spOne K) := by
  refine F.ok scOne (fun vs H Q E h => ?_) (fun cdv A outer s H vs Q E hr h => ?_)
  · obtain ⟨a, c, i, d, _, rfl, _⟩ := h; rfl
  · obtain ⟨a, c, i, d, hi, rfl, hc, k⟩ := h
    refine ⟨_, pss_one (ps_ret (pe_op op_cat (pe_op op_cat (pe_slice sl_list (pv 0) po_none (po_some (pv 1))) (pe_lst (pa_cons (pe_op op_add (pe_ix ix_list (pv 0) (pv 1) (fun _ _ => rfl)) (pv 2)) pa_nil))) (pe_slice sl_list (pv 0) (po_some (pe_op op_add (pv 1) pe_int)) po_none))), ?_⟩
    walk_at "rd"
    refine slL (SqL.of hc) fun p1 h1 => ?_
    have s1 := sm_new (o := .lst (cutV (chV a) none (some (i : Int)))) h1
    refine ixL (v := .int (chAt a i)) (SqL.of (s1 _ _ hc)) ?_ ⟨_, rfl, by show 1 ≤ sizeLine; decide, fun p2 h2 => catL (sm_new h2 _ _ upd_same) upd_same ?_ fun p3 h3 => ?_⟩
    · match i, hi with
      | 0, _ => rfl
      | 1, _ => rfl
      | 2, _ => rfl
      | 3, _ => rfl
    · have := cutV_length (chV a) none (some (i : Int))
      have : (chV a).length = 4 := rfl
      show _ + 1 ≤ 1000
      omega
    have s2 := s1.trans (sm_new (o := .lst [V.int ((chAt a i : Int) + d)]) h2)
    have s3 := s2.trans (sm_new (o := .lst (cutV (chV a) none (some (i : Int)) ++ [V.int ((chAt a i : Int) + d)])) h3)
    refine slL (SqL.of (s3 _ _ hc)) fun p4 h4 => catL (sm_new h4 _ _ upd_same) upd_same ?_ fun r hr => ?_
    · have := cutV_length (chV a) none (some (i : Int))
      have := cutV_length (chV a) (some ((i : Int) + 1)) none
      have : (chV a).length = 4 := rfl
      rw [List.length_append]
      show _ + 1 + _ ≤ 1000
      omega
    have s4 := s3.trans (sm_new (o := .lst (cutV (chV a) (some ((i : Int) + 1)) none)) h4)
    refine k _ r (s4.trans (sm_new hr)) (s4.free hr) ?_
    rw [upd_same]
    match i, hi with
    | 0, _ => rfl
    | 1, _ => rfl
    | 2, _ => rfl
    | 3, _ => rfl
theorem scNow : FnScope ["line", "given"] ["line", "given"] (defScope sNow) := ⟨rfl, rfl, rfl, by decide +kernel, rfl, by decide +kernel, by decide +kernel⟩
theorem ok_now {f C : Addr} {fd : FuncData} {tabs : Tabs} (F : Fun K "now" "now" sNow f fd) (T : Txt K C) : FnOk P w K mg base CX0 1 f fd ["line", "given"] (spU C tabs K 22) := by
  refine F.ok scNow (fun vs H Q E h => ?_) (fun cdv A outer s H vs Q E hr h => ?_)
  · obtain ⟨a, l, g, n, xs, _, _, rfl, _⟩ := h; rfl
  · obtain ⟨a, l, g, n, xs, hn, ho, rfl, L, at_, hg, k⟩ := h
    obtain ⟨dx, c, d, kvs, hd, hk, hkn, nw, hl, hc⟩ := id L
    refine ⟨_, pss_one (ps_ret (pe_lst (pa_cons (pe_fld (pv 0) rfl) (pa_cons (pe_fld (pv 0) rfl) (pa_cons (pe_fld (pv 0) rfl) pa_nil))))), ?_⟩
    walk_at "rd"
    refine fT rfl hl T.cl T.nP lk_pieces (fT rfl hl T.cl T.nF lk_first (fT rfl hl T.cl T.nS lk_second ⟨by show 3 ≤ sizeLine; decide, fun p hp => ?_⟩))
    exact fin k rfl (.same (sm_new hp)) (.of hp) (L.same (sm_new hp) (Nat.le_refl _)) (by omega) (by rw [upd_same]; rfl)
theorem scStt : FnScope ["line", "given"] ["line", "given"] (defScope sStt) := ⟨rfl, rfl, rfl, by decide +kernel, rfl, by decide +kernel, by decide +kernel⟩
theorem ok_stt {f C : Addr} {fd : FuncData} {tabs : Tabs} (F : Fun K "state" "state" sStt f fd) (T : Txt K C) : FnOk P w K mg base CX0 1 f fd ["line", "given"] (spU C tabs K 23) := by
  refine F.ok scStt (fun vs H Q E h => ?_) (fun cdv A outer s H vs Q E hr h => ?_)
  · obtain ⟨a, l, g, n, xs, _, _, rfl, _⟩ := h; rfl
  · obtain ⟨a, l, g, n, xs, hn, ho, rfl, L, at_, hg, k⟩ := h
    obtain ⟨dx, c, d, kvs, hd, hk, hkn, nw, hl, hc⟩ := id L
    refine ⟨_, pss_one (ps_ret (pe_op op_cat (pe_lst (pa_cons (pe_fld (pv 0) rfl) pa_nil)) (pe_fld (pv 0) rfl))), ?_⟩
    walk_at "rd"
    refine fT rfl hl T.cl T.nH lk_holds ⟨by show 1 ≤ sizeLine; decide, fun z hz => fT rfl (sm_new hz _ _ hl) T.cl T.nC lk_chances (catL upd_same (sm_new hz _ _ hc) (by show 5 ≤ 1000; decide) fun r hr => ?_)⟩
    exact fin k rfl ((Go.same (sm_new hz)).trans (.same (sm_new hr))) (.go (tabs := tabs) (.same (sm_new hz)) hr) ((L.same (sm_new hz) (Nat.le_refl _)).same (sm_new hr) (Nat.le_refl _)) (by omega) (by rw [upd_same]; rfl)
theorem scCha : FnScope ["line", "given", "at", "old"] ["line", "given"] (defScope sCha) := ⟨rfl, rfl, rfl, by decide +kernel, rfl, by decide +kernel, by decide +kernel⟩
theorem ok_cha {f C fC : Addr} {fd fdC : FuncData} {tabs : Tabs} (F : Fun K "change" "change" sCha f fd) (T : Txt K C) (gO : ∃ t, mg "OUT_OF_RANGE" = some (.int (-22) t))
    (GC : FnOk P w K mg base CX0 1 fC fdC ["chances"] (spChf K)) (kC : PySem.W.keepIn K (.ref fC) = true) (bC : Binds K fdC ["chances"] []) (gC : mg "chances_fit" = some (.ref fC)) :
    FnOk P w K mg base CX0 2 f fd ["line", "given"] (spU C tabs K 1) := by
  obtain ⟨tO, gO⟩ := gO
  refine F.ok scCha (fun vs H Q E h => ?_) (fun cdv A outer s H vs Q E hr h => ?_)
  · obtain ⟨a, l, g, n, xs, _, _, rfl, _⟩ := h; rfl
  · obtain ⟨a, l, g, n, xs, hn, ho, rfl, L, at_, hg, k⟩ := h
    obtain ⟨i, b, r, rfl⟩ := len3 ho.1
    have hi : i < 2 := ho.2 (by decide)
    obtain ⟨dx, c, d, kvs, hd, hk, hkn, nw, hl, hc⟩ := id L
    refine ⟨_, pss_cons (ps_if (pt_not (pt_val (pe_call GC hr rfl gC kC bC .nil pass0 (pa_cons (pe_slice sl_list (pv 1) (po_some pe_int) po_none) pa_nil)))) (pss_one (ps_ret (pe_lst (pa_cons (pe_glob (v := V.int (-22)) rfl gO ⟨_, rfl⟩) pa_nil)))) pss_nil)
      (pss_cons (ps_set (i := 2) scCha.nd rfl (Or.inl rfl) (pe_op op_mul pe_int (pe_ix ix_list (pv 1) pe_int (fun _ _ => rfl))))
      (pss_cons (ps_set (i := 3) scCha.nd rfl (Or.inl rfl) (pe_slice sl_list (pe_fld (pv 0) rfl) (po_some (pv 2)) (po_some (pe_op op_add (pv 2) pe_int))))
      (pss_cons (ps_fld (pv 0) (pe_op op_cat (pe_op op_cat (pe_slice sl_list (pe_fld (pv 0) rfl) po_none (po_some (pv 2))) (pe_slice sl_list (pv 1) (po_some pe_int) po_none)) (pe_slice sl_list (pe_fld (pv 0) rfl) (po_some (pe_op op_add (pv 2) pe_int)) po_none)) rfl)
      (pss_one (ps_ret (pv 3)))))), ?_⟩
    have hg : SqL K H g [V.int i, V.int b, V.int r] := hg
    have k : ∀ H' p, Go tabs H H' → NewP H p → LineAt C H' l (some (Su113.does a (.set i b r)).1) (n + 2) → H' p = some (.lst ((ansL (Su113.does a (.set i b r)).2).map V.int)) → Q (.ref p) H' := k
    walk_at "rd"
    refine slL hg fun p1 h1 => ?_
    have s1 := sm_new (o := .lst (cutV [V.int i, V.int b, V.int r] (some 1) none)) h1
    refine ⟨p1, [(b : Int), r], rfl, SqL.of upd_same, by show 2 ≤ 100; decide, fun H2 s2 => ⟨_, rfl, ?_⟩⟩
    have s12 := s1.trans s2
    have oks : (Su113.ok b && Su113.ok r) = ([(b : Int), r] : List Int).all fit := by simp only [List.all_cons, List.all_nil, fit_ok, Bool.and_true]
    cases e1 : ([(b : Int), r] : List Int).all fit with
    | false =>
      rw [if_pos rfl]
      have e : Su113.does a (.set i b r) = (a, Su113.no (-22)) := by show (if 1 < i then _ else if (Su113.ok b && Su113.ok r) = false then _ else _) = _; rw [if_neg (by omega), if_pos (by rw [oks]; exact e1)]
      exact refuse k e (.same s12) (L.same s12 (Nat.le_refl _))
    | true =>
      rw [if_neg (by decide)]
      have e : Su113.does a (.set i b r) = (a.with_ i b r, Su113.num (a.b i) [Su113.nat (a.r i)]) := by show (if 1 < i then _ else if (Su113.ok b && Su113.ok r) = false then _ else _) = _; rw [if_neg (by omega), if_neg (by rw [oks, e1]; decide)]
      rcases bit01 hi with rfl | rfl
      · refine ixL (s12.seq hg) rfl ⟨_, rfl, .inl (by constructor <;> decide), fT rfl (s12 _ _ hl) T.cl T.nC lk_chances (slS (SqL.of (s12 _ _ hc)) fun p2 H3 n2 t3 e2 => ?_)⟩
        have s3 := s12.trans t3
        refine fT rfl (s3 _ _ hl) T.cl T.nC lk_chances (slS (SqL.of (s3 _ _ hc)) fun p3 H4 n3 t4 e3 => slS ((s3.trans t4).seq hg) fun p4 H5 n4 t5 e4 => catS (t5 _ _ e3) e4 (by show 0 + 2 ≤ 1000; decide) fun p5 H6 n5 t6 e5 => ?_)
        have s6 := ((s3.trans t4).trans t5).trans t6
        refine fT rfl (s6 _ _ hl) T.cl T.nC lk_chances (slS (SqL.of (s6 _ _ hc)) fun p6 H7 n6 t7 e6 => catS (t7 _ _ e5) e6 (by show 4 ≤ 1000; decide) fun p7 H8 n7 t8 e7 => ?_)
        have t38 := (((t4.trans t5).trans t6).trans t7).trans t8
        have s8 := s3.trans t38
        refine ⟨l, rfl, C, dx, _, s8 _ _ hl, T.cl, T.nC, by show 7 < 1000; decide, ?_⟩
        rw [pt_chances]
        have kl : ∀ v, KL l H (upd H8 l v) := fun v b o e hb => by rw [upd_ne hb]; exact s8 b o e
        refine k _ p2 (.kl hl (kl _)) (.of (s12.free n2)) ?_ ?_
        · rw [e]
          simp only [List.all_cons, List.all_nil, Bool.and_true, Bool.and_eq_true] at e1
          have cO : ∀ z : Nat, fit z = true → 1 ≤ z ∧ z ≤ 9 := fun z h => by
            rw [fit_ok] at h; unfold Su113.ok at h; simp at h; omega
          refine (LineAt.put (c := p7) hl hd hk hkn (kl _) ?_ upd_same ?_).same (Same.refl _) (by omega)
          · exact ⟨⟨cO _ e1.1, cO _ e1.2, nw.ok.b2, nw.ok.r2, nw.ok.room⟩, nw.pc, nw.fx, nw.sy⟩
          · rw [upd_ne (ne_of e7 (s8 _ _ hl) (by intro z; cases z))]; exact e7
        · rw [e, upd_ne (ne_of (t38 _ _ e2) (s8 _ _ hl) (by intro z; cases z))]; exact t38 _ _ e2
      · refine ixL (s12.seq hg) rfl ⟨_, rfl, .inl (by constructor <;> decide), fT rfl (s12 _ _ hl) T.cl T.nC lk_chances (slS (SqL.of (s12 _ _ hc)) fun p2 H3 n2 t3 e2 => ?_)⟩
        have s3 := s12.trans t3
        refine fT rfl (s3 _ _ hl) T.cl T.nC lk_chances (slS (SqL.of (s3 _ _ hc)) fun p3 H4 n3 t4 e3 => slS ((s3.trans t4).seq hg) fun p4 H5 n4 t5 e4 => catS (t5 _ _ e3) e4 (by show 2 + 2 ≤ 1000; decide) fun p5 H6 n5 t6 e5 => ?_)
        have s6 := ((s3.trans t4).trans t5).trans t6
        refine fT rfl (s6 _ _ hl) T.cl T.nC lk_chances (slS (SqL.of (s6 _ _ hc)) fun p6 H7 n6 t7 e6 => catS (t7 _ _ e5) e6 (by show 4 ≤ 1000; decide) fun p7 H8 n7 t8 e7 => ?_)
        have t38 := (((t4.trans t5).trans t6).trans t7).trans t8
        have s8 := s3.trans t38
        refine ⟨l, rfl, C, dx, _, s8 _ _ hl, T.cl, T.nC, by show 7 < 1000; decide, ?_⟩
        rw [pt_chances]
        have kl : ∀ v, KL l H (upd H8 l v) := fun v b o e hb => by rw [upd_ne hb]; exact s8 b o e
        refine k _ p2 (.kl hl (kl _)) (.of (s12.free n2)) ?_ ?_
        · rw [e]
          simp only [List.all_cons, List.all_nil, Bool.and_true, Bool.and_eq_true] at e1
          have cO : ∀ z : Nat, fit z = true → 1 ≤ z ∧ z ≤ 9 := fun z h => by
            rw [fit_ok] at h; unfold Su113.ok at h; simp at h; omega
          refine (LineAt.put (c := p7) hl hd hk hkn (kl _) ?_ upd_same ?_).same (Same.refl _) (by omega)
          · exact ⟨⟨nw.ok.b1, nw.ok.r1, cO _ e1.1, cO _ e1.2, nw.ok.room⟩, nw.pc, nw.fx, nw.sy⟩
          · rw [upd_ne (ne_of e7 (s8 _ _ hl) (by intro z; cases z))]; exact e7
        · rw [e, upd_ne (ne_of (t38 _ _ e2) (s8 _ _ hl) (by intro z; cases z))]; exact t38 _ _ e2
end
abbrev sOut : Stmt := top 48
abbrev sRte : Stmt := top 49
abbrev sUpp : Stmt := top 50
abbrev sSta2 : Stmt := top 51
abbrev sBlo : Stmt := top 52
abbrev sMea2 : Stmt := top 53
abbrev sFul : Stmt := top 54
abbrev sBot : Stmt := top 56
abbrev qUp : Str := "up" ++ ".<locals>." ++ "<lambda>"
abbrev qSta : Str := "starved" ++ ".<locals>." ++ "<lambda>"
abbrev qBlo : Str := "blocked" ++ ".<locals>." ++ "<lambda>"
abbrev qMea : Str := "mean" ++ ".<locals>." ++ "<lambda>"
abbrev qFul : Str := "full" ++ ".<locals>." ++ "<lambda>"
abbrev qBot : Str := "both" ++ ".<locals>." ++ "<lambda>"
theorem hcl_no {lsc : Scope} {cells : List (Str × Addr)} (h : ∀ y ∈ lsc.names, y.2 ≠ .free) : ∀ y ∈ lsc.names, y.2 = .free → ∃ c, cells.lookup y.1 = some c := fun y hy e => absurd e (h y hy)
section
variable {P : Program} {w : World} {K : PySem.W.Frag} {mg : Str → Option Value} {base : Heap}
theorem scOut : FnScope ["line", "given"] ["line", "given"] (defScope sOut) := ⟨rfl, rfl, rfl, by decide +kernel, rfl, by decide +kernel, by decide +kernel⟩
theorem ok_out {f C fR : Addr} {fd fdR : FuncData} {tabs : Tabs} {q : Nat} (hq : ∀ xs, Md.mk q xs = .out) (F : Fun K "out" "out" sOut f fd)
    (GR : FnOk P w K mg base CX0 9 fR fdR ["line", "machine"] (spRat C tabs K)) (kR : PySem.W.keepIn K (.ref fR) = true) (bR : Binds K fdR ["line", "machine"] []) (gR : mg "rate_of" = some (.ref fR)) :
    FnOk P w K mg base CX0 10 f fd ["line", "given"] (spU C tabs K q) := by
  refine F.ok scOut (fun vs H Q E h => ?_) (fun cdv A outer s H vs Q E hr h => ?_)
  · obtain ⟨a, l, g, n, xs, _, _, rfl, _⟩ := h; rfl
  · obtain ⟨a, l, g, n, xs, hn, ho, rfl, L, at_, hg, k⟩ := h
    have nw := L.now
    have ok := nw.ok
    rw [hq] at k
    refine ⟨_, pss_one (ps_ret (pe_op op_cat (pe_lst (pa_cons pe_int pa_nil)) (pe_call GR hr rfl gR kR bR .nil pass0 (pa_cons (pv 0) (pa_cons pe_int pa_nil))))), ?_⟩
    walk_at "rd"
    refine ⟨by show 1 ≤ sizeLine; decide, fun z hz => ⟨a, l, 1, n, by omega, rfl, L.same (sm_new hz) (Nat.le_refl _), (Go.same (sm_new hz)).2 at_, fun H1 p go L1 hp => ?_⟩⟩
    rw [if_neg (by decide), frac_out ok] at hp
    exact tell1 k hz rfl go L1 (by omega) hp (by show 2 ≤ 900; decide)
theorem scRte : FnScope ["line", "given"] ["line", "given"] (defScope sRte) := ⟨rfl, rfl, rfl, by decide +kernel, rfl, by decide +kernel, by decide +kernel⟩
theorem ok_rte {f C fR : Addr} {fd fdR : FuncData} {tabs : Tabs} (F : Fun K "rate" "rate" sRte f fd)
    (GR : FnOk P w K mg base CX0 9 fR fdR ["line", "machine"] (spRat C tabs K)) (kR : PySem.W.keepIn K (.ref fR) = true) (bR : Binds K fdR ["line", "machine"] []) (gR : mg "rate_of" = some (.ref fR)) :
    FnOk P w K mg base CX0 10 f fd ["line", "given"] (spU C tabs K 6) := by
  refine F.ok scRte (fun vs H Q E h => ?_) (fun cdv A outer s H vs Q E hr h => ?_)
  · obtain ⟨a, l, g, n, xs, _, _, rfl, _⟩ := h; rfl
  · obtain ⟨a, l, g, n, xs, hn, ho, rfl, L, at_, hg, k⟩ := h
    have nw := L.now
    have ok := nw.ok
    obtain ⟨i, rfl⟩ := len1 ho.1
    have hi : i < 2 := ho.2 (by decide)
    have hg : SqL K H g [V.int i] := hg
    refine ⟨_, pss_one (ps_ret (pe_op op_cat (pe_lst (pa_cons pe_int pa_nil)) (pe_call GR hr rfl gR kR bR .nil pass0 (pa_cons (pv 0) (pa_cons (pe_ix ix_list (pv 1) pe_int (fun _ _ => rfl)) pa_nil))))), ?_⟩
    walk_at "rd"
    refine ⟨by show 1 ≤ sizeLine; decide, fun z hz => ixL ((sm_new hz).seq hg) rfl ⟨_, _, _, n, by omega, rfl, L.same (sm_new hz) (Nat.le_refl _), (Go.same (sm_new hz)).2 at_, fun H1 p go L1 hp => ?_⟩⟩
    have e : Su113.does a (Md.mk 6 [i]) = (a, Su113.num 0 (Su113.two (a.rate i))) := by show (if 1 < i then _ else _) = _; rw [if_neg (by omega)]; rfl
    refine tell1 k hz e go L1 (by omega) ?_ (by show 2 ≤ 900; decide)
    rw [hp]
    unfold Su113.Abs.rate
    by_cases h0 : i = 0
    · rw [if_pos h0, if_pos (by omega), frac_first ok]
    · rw [if_neg h0, if_neg (by omega), frac_out ok]
theorem scUpp : FnScope ["line", "given"] ["line", "given"] (defScope sUpp) := ⟨rfl, rfl, rfl, by decide +kernel, rfl, by decide +kernel, by decide +kernel⟩
theorem ok_upp {f C fK c Pt : Addr} {fd fdK : FuncData} {tabs : Tabs} (F : Fun K "up" "up" sUpp f fd) (nd : (tabs.map (·.1)).Nodup) (hm : (Pt, qUp) ∈ tabs) (hcd : fd.code = .ref c) (Cd : CodeHd base c Pt) (B : BMain mg base)
    (GK : FnOk P w K mg base CX0 8 fK fdK ["line", "measure"] (spLok P w mg base C K)) (kK : PySem.W.keepIn K (.ref fK) = true) (bK : Binds K fdK ["line", "measure"] []) (gK : mg "looked_for" = some (.ref fK)) :
    FnOk P w K mg base CX0 9 f fd ["line", "given"] (spU C tabs K 7) := by
  refine okL F scUpp (fun vs H Q E h => ?_) (fun A outer s H vs Q E hr h => ?_)
  · obtain ⟨a, l, g, n, xs, _, _, rfl, _⟩ := h; rfl
  · obtain ⟨a, l, g, n, xs, hn, ho, rfl, L, at_, hg, k⟩ := h
    have nw := L.now
    have ok := nw.ok
    obtain ⟨i, rfl⟩ := len1 ho.1
    have hi : i < 2 := ho.2 (by decide)
    have hg : SqL K H g [V.int i] := hg
    refine ⟨_, pss_cons (ps_if (pt_cmpR op_eq (pe_ix ix_list (pv 1) pe_int (fun _ _ => rfl)) pe_int (nomark _)) (pss_one (ps_ret (pe_op op_cat (pe_lst (pa_cons pe_int pa_nil)) (pe_call GK hr rfl gK kK bK .nil pass0 (pa_cons (pv 0) (pa_cons (pe_lam (P := Pt) (c := c) hcd Cd B rfl (hcl_no (by decide +kernel))) pa_nil)))))) pss_nil)
      (pss_one (ps_ret (pe_op op_cat (pe_lst (pa_cons pe_int pa_nil)) (pe_call GK hr rfl gK kK bK .nil pass0 (pa_cons (pv 0) (pa_cons (pe_lam (P := Pt) (c := c) hcd Cd B rfl (hcl_no (by decide +kernel))) pa_nil)))))), ?_⟩
    walk_at "rd"
    have e : Su113.does a (Md.mk 7 [i]) = (a, Su113.num 0 (Su113.two (a.up i))) := by show (if 1 < i then _ else _) = _; rw [if_neg (by omega)]; rfl
    refine ixL hg rfl ⟨rfl, ?_⟩
    rcases bit01 hi with rfl | rfl
    · rw [if_pos (by simp)]
      refine ⟨by show 1 ≤ sizeLine; decide, fun z hz => ask0 (μ := fun k x y => x) nd hm ((Go.same (sm_new hz)).2 at_) (L.same (sm_new hz) (Nat.le_refl _)) (by omega) (fun fm => cal0 (t := ⟨_, _, _, _, _⟩) rfl rfl (by decide +kernel) (by decide +kernel) (by decide +kernel) (fun pm cd ct u0 u1 u2 => rfl) (fun k x y _ _ _ => by show 0 ≤ (x : Int) ∧ (x : Int) ≤ 1000; omega) fm fun cd A' outer' s' H' a0 b0 c0 hsm hr' => ⟨_, pv 1, ⟨_, rfl, rfl, rfl⟩⟩) fun H1 p go L1 hp => ?_⟩
      rw [frac_often ok (f := fun _ x y => if 0 = 0 then x == 1 else y == 1) (fun j x y _ hx hy => by rcases bit01 hx with rfl | rfl <;> rfl)] at hp
      exact tell1 k hz e go L1 (by omega) hp (by show 2 ≤ 900; decide)
    · rw [if_neg (by simp)]
      refine ⟨by show 1 ≤ sizeLine; decide, fun z hz => ask0 (μ := fun k x y => y) nd hm ((Go.same (sm_new hz)).2 at_) (L.same (sm_new hz) (Nat.le_refl _)) (by omega) (fun fm => cal0 (t := ⟨_, _, _, _, _⟩) rfl rfl (by decide +kernel) (by decide +kernel) (by decide +kernel) (fun pm cd ct u0 u1 u2 => rfl) (fun k x y _ _ _ => by show 0 ≤ (y : Int) ∧ (y : Int) ≤ 1000; omega) fm fun cd A' outer' s' H' a0 b0 c0 hsm hr' => ⟨_, pv 2, ⟨_, rfl, rfl, rfl⟩⟩) fun H1 p go L1 hp => ?_⟩
      rw [frac_often ok (f := fun _ x y => if 1 = 0 then x == 1 else y == 1) (fun j x y _ hx hy => by rcases bit01 hy with rfl | rfl <;> rfl)] at hp
      exact tell1 k hz e go L1 (by omega) hp (by show 2 ≤ 900; decide)
theorem scSta2 : FnScope ["line", "given"] ["line", "given"] (defScope sSta2) := ⟨rfl, rfl, rfl, by decide +kernel, rfl, by decide +kernel, by decide +kernel⟩
theorem ok_sta2 {f C fK c Pt : Addr} {fd fdK : FuncData} {tabs : Tabs} (F : Fun K "starved" "starved" sSta2 f fd) (nd : (tabs.map (·.1)).Nodup) (hm : (Pt, qSta) ∈ tabs) (hcd : fd.code = .ref c) (Cd : CodeHd base c Pt) (B : BMain mg base)
    (GK : FnOk P w K mg base CX0 8 fK fdK ["line", "measure"] (spLok P w mg base C K)) (kK : PySem.W.keepIn K (.ref fK) = true) (bK : Binds K fdK ["line", "measure"] []) (gK : mg "looked_for" = some (.ref fK)) :
    FnOk P w K mg base CX0 9 f fd ["line", "given"] (spU C tabs K 8) := by
  refine okL F scSta2 (fun vs H Q E h => ?_) (fun A outer s H vs Q E hr h => ?_)
  · obtain ⟨a, l, g, n, xs, _, _, rfl, _⟩ := h; rfl
  · obtain ⟨a, l, g, n, xs, hn, ho, rfl, L, at_, hg, k⟩ := h
    have nw := L.now
    have ok := nw.ok
    obtain ⟨i, rfl⟩ := len1 ho.1
    have hi : i < 2 := ho.2 (by decide)
    have hg : SqL K H g [V.int i] := hg
    refine ⟨_, pss_cons (ps_if (pt_cmpR op_eq (pe_ix ix_list (pv 1) pe_int (fun _ _ => rfl)) pe_int (nomark _)) (pss_one (ps_ret (pe_lst (pa_cons pe_int (pa_cons pe_int (pa_cons pe_int pa_nil)))))) pss_nil)
      (pss_one (ps_ret (pe_op op_cat (pe_lst (pa_cons pe_int pa_nil)) (pe_call GK hr rfl gK kK bK .nil pass0 (pa_cons (pv 0) (pa_cons (pe_lam (P := Pt) (c := c) hcd Cd B rfl (hcl_no (by decide +kernel))) pa_nil)))))), ?_⟩
    walk_at "rd"
    have e : Su113.does a (Md.mk 8 [i]) = (a, Su113.num 0 (Su113.two (a.starved i))) := by show (if 1 < i then _ else _) = _; rw [if_neg (by omega)]; rfl
    refine ixL hg rfl ⟨rfl, ?_⟩
    rcases bit01 hi with rfl | rfl
    · rw [if_pos (by simp)]
      refine ⟨by show 3 ≤ sizeLine; decide, fun p hp => fin k e (.same (sm_new hp)) (.of hp) (L.same (sm_new hp) (Nat.le_refl _)) (by omega) ?_⟩
      have e2 : Su113.two (a.starved 0) = [0, 1] := often_never ok fun s x y => rfl
      rw [e2, upd_same]; rfl
    · rw [if_neg (by simp)]
      refine ⟨by show 1 ≤ sizeLine; decide, fun z hz => ask0 (μ := fun k x y => if k = 0 then y else 0) nd hm ((Go.same (sm_new hz)).2 at_) (L.same (sm_new hz) (Nat.le_refl _)) (by omega) (fun fm => cal0 (t := ⟨_, _, _, _, _⟩) rfl rfl (by decide +kernel) (by decide +kernel) (by decide +kernel) (fun pm cd ct u0 u1 u2 => rfl) (fun k x y _ _ _ => by show 0 ≤ (if (k : Int) = 0 then (y : Int) else 0) ∧ (if (k : Int) = 0 then (y : Int) else 0) ≤ 1000; split <;> omega) fm fun cd A' outer' s' H' a0 b0 c0 hsm hr' => ⟨_, pe_ifExp (pt_cmpR op_eq (pv 0) pe_int (nomark _)) (pv 2) pe_int, ?_⟩) fun H1 p go L1 hp => ?_⟩
      · walk_at "rd"
        by_cases h0 : a0 = 0
        · rw [if_pos h0, if_pos h0]
        · rw [if_neg h0, if_neg h0]
      rw [frac_often ok (f := fun s _ y => 1 != 0 && (y == 1 && s.1 == 0)) (fun j x y _ hx hy => by
        show (if ((j / 4 : Nat) : Int) = 0 then (y : Int) else 0) = if (1 != 0 && (y == 1 && j / 4 == 0)) then 1 else 0
        by_cases h0 : j / 4 = 0
        · rw [h0]; rcases bit01 hy with rfl | rfl <;> rfl
        · rw [if_neg (by omega)]; rcases bit01 hy with rfl | rfl <;> simp [h0])] at hp
      exact tell1 k hz e go L1 (by omega) hp (by show 2 ≤ 900; decide)
theorem scBlo : FnScope ["line", "given", "holds"] ["line", "given"] (defScope sBlo) := ⟨rfl, rfl, rfl, by decide +kernel, rfl, by decide +kernel, by decide +kernel⟩
def muBlo (a : Su113.Abs) : Int → Int → Int → Int := fun k x y => x - firW k x y a.room
theorem meas_blo (a : Su113.Abs) : Meas (muBlo a) := fun k x y _ hx _ => by
  unfold muBlo firW
  rcases bit01 hx with rfl | rfl <;> (repeat' split) <;> omega
theorem ok_blo {f C fK fF c Pt : Addr} {fd fdK fdF : FuncData} {tabs : Tabs} (F : Fun K "blocked" "blocked" sBlo f fd) (T : Txt K C) (nd : (tabs.map (·.1)).Nodup) (hm : (Pt, qBlo) ∈ tabs) (hcd : fd.code = .ref c) (Cd : CodeHd base c Pt) (B : BMain mg base)
    (GK : FnOk P w K mg base CX0 8 fK fdK ["line", "measure"] (spLok P w mg base C K)) (kK : PySem.W.keepIn K (.ref fK) = true) (bK : Binds K fdK ["line", "measure"] []) (gK : mg "looked_for" = some (.ref fK))
    (GF : FnOk P w K mg base CX0 2 fF fdF ["pieces", "first", "second", "holds"] spFir) (kF : PySem.W.keepIn K (.ref fF) = true) (bF : Binds K fdF ["pieces", "first", "second", "holds"] []) (gF : mg "first_works" = some (.ref fF)) :
    FnOk P w K mg base CX0 9 f fd ["line", "given"] (spU C tabs K 9) := by
  refine okL F scBlo (fun vs H Q E h => ?_) (fun A outer s H vs Q E hr h => ?_)
  · obtain ⟨a, l, g, n, xs, _, _, rfl, _⟩ := h; rfl
  · obtain ⟨a, l, g, n, xs, hn, ho, rfl, L, at_, hg, k⟩ := h
    have nw := L.now
    have ok := nw.ok
    obtain ⟨i, rfl⟩ := len1 ho.1
    have hi : i < 2 := ho.2 (by decide)
    have hg : SqL K H g [V.int i] := hg
    obtain ⟨dx, c0, d, kvs, hd0, hk, hkn, _, hl, hc⟩ := id L
    refine ⟨_, pss_cons (ps_if (pt_cmpR op_eq (pe_ix ix_list (pv 1) pe_int (fun _ _ => rfl)) pe_int (nomark _)) (pss_one (ps_ret (pe_lst (pa_cons pe_int (pa_cons pe_int (pa_cons pe_int pa_nil)))))) pss_nil)
      (pss_cons (ps_set (i := 2) scBlo.nd rfl (Or.inr rfl) (pe_fld (pv 0) rfl))
      (pss_one (ps_ret (pe_op op_cat (pe_lst (pa_cons pe_int pa_nil)) (pe_callZ (j := 2) (y := "holds") GK hr rfl gK kK bK (pa_cons (pv 0) (pa_cons (pe_lam (P := Pt) (c := c) hcd Cd B rfl (hcl_of (sc := defScope sBlo) (by decide +kernel))) pa_nil)) rfl rfl rfl))))), ?_⟩
    walk_at "rd"
    have e : Su113.does a (Md.mk 9 [i]) = (a, Su113.num 0 (Su113.two (a.blocked i))) := by show (if 1 < i then _ else _) = _; rw [if_neg (by omega)]; rfl
    refine ixL hg rfl ⟨rfl, ?_⟩
    rcases bit01 hi with rfl | rfl
    · rw [if_neg (by simp)]
      refine fT rfl hl T.cl T.nH lk_holds ⟨by show 1 ≤ sizeLine; decide, fun z hz => ⟨_, rfl, ?_⟩⟩
      show tLam Pt _ _ _ _
      refine ask1z (μ := muBlo a) (v0 := .int a.room) (R0 := fun _ => True) nd hm ((Go.same (sm_new hz)).2 at_) (L.same (sm_new hz) (Nat.le_refl _)) (by omega) (by rfl) (by rfl) trivial (fun _ _ _ h => h) (fun _ _ _ h => h) (fun fm o u hd hu => ?_) fun Hz p oz go L1 hp => ?_
      · refine cal1 (t := ⟨_, _, _, _, _⟩) (y := "holds") rfl rfl (by decide +kernel) (by decide +kernel) (by decide +kernel) (by decide +kernel) (by decide +kernel) (fun pm cd ct u0 u1 u2 => rfl) (meas_blo a) (fun H zs z h => h) fm o u hd hu (fun cd A' outer' s' H' k0 x0 y0 hsm hr' h => ?_)
        refine ⟨_, pe_op op_sub (pv 1) (pe_call GF hr' rfl gF kF bF .nil pass0 (pa_cons (pv 0) (pa_cons (pv 1) (pa_cons (pv 2) (pa_cons (pv 3) pa_nil))))), ?_⟩
        walk_at "rd"
        exact ⟨_, _, _, _, rfl, _, rfl, rfl, rfl⟩
      · show rCat _ _ (uzs Hz _) _
        generalize uzs Hz _ = H1 at go L1 hp ⊢
        rw [frac_often ok (f := fun s x y => 0 == 0 && (x == 1 && !(a.first s x y))) (fun j x y _ hx hy => by
          show (x : Int) - firW ((j / 4 : Nat) : Int) x y a.room = _
          rw [fir_eq a j x y hx hy]
          rcases bit01 hx with rfl | rfl
          · have : a.first (st j) 0 y = false := rfl
            rw [this]; rfl
          · cases a.first (st j) 1 y <;> rfl)] at hp
        exact tell1 k hz e go L1 (by omega) hp (by show 2 ≤ 900; decide)
    · rw [if_pos (by simp)]
      refine ⟨by show 3 ≤ sizeLine; decide, fun p hp => fin k e (.same (sm_new hp)) (.of hp) (L.same (sm_new hp) (Nat.le_refl _)) (by omega) ?_⟩
      have e2 : Su113.two (a.blocked 1) = [0, 1] := often_never ok fun s x y => rfl
      rw [e2, upd_same]; rfl
theorem scMea2 : FnScope ["line", "given"] ["line", "given"] (defScope sMea2) := ⟨rfl, rfl, rfl, by decide +kernel, rfl, by decide +kernel, by decide +kernel⟩
theorem ok_mea2 {f C fK c Pt : Addr} {fd fdK : FuncData} {tabs : Tabs} (F : Fun K "mean" "mean" sMea2 f fd) (nd : (tabs.map (·.1)).Nodup) (hm : (Pt, qMea) ∈ tabs) (hcd : fd.code = .ref c) (Cd : CodeHd base c Pt) (B : BMain mg base)
    (GK : FnOk P w K mg base CX0 8 fK fdK ["line", "measure"] (spLok P w mg base C K)) (kK : PySem.W.keepIn K (.ref fK) = true) (bK : Binds K fdK ["line", "measure"] []) (gK : mg "looked_for" = some (.ref fK)) :
    FnOk P w K mg base CX0 9 f fd ["line", "given"] (spU C tabs K 10) := by
  refine okL F scMea2 (fun vs H Q E h => ?_) (fun A outer s H vs Q E hr h => ?_)
  · obtain ⟨a, l, g, n, xs, _, _, rfl, _⟩ := h; rfl
  · obtain ⟨a, l, g, n, xs, hn, ho, rfl, L, at_, hg, k⟩ := h
    have nw := L.now
    have ok := nw.ok
    refine ⟨_, pss_one (ps_ret (pe_op op_cat (pe_lst (pa_cons pe_int pa_nil)) (pe_call GK hr rfl gK kK bK .nil pass0 (pa_cons (pv 0) (pa_cons (pe_lam (P := Pt) (c := c) hcd Cd B rfl (hcl_no (by decide +kernel))) pa_nil))))), ?_⟩
    walk_at "rd"
    refine ⟨by show 1 ≤ sizeLine; decide, fun z hz => ask0 (μ := fun k x y => k) nd hm ((Go.same (sm_new hz)).2 at_) (L.same (sm_new hz) (Nat.le_refl _)) (by omega) (fun fm => cal0 (t := ⟨_, _, _, _, _⟩) rfl rfl (by decide +kernel) (by decide +kernel) (by decide +kernel) (fun pm cd ct u0 u1 u2 => rfl) (fun k x y _ _ _ => by show 0 ≤ (k : Int) ∧ (k : Int) ≤ 1000; omega) fm fun cd A' outer' s' H' a0 b0 c0 hsm hr' => ⟨_, pv 0, ⟨_, rfl, rfl, rfl⟩⟩) fun H1 p go L1 hp => ?_⟩
    rw [frac_sumOver ok (f := fun s => s.1) (fun j x y _ hx hy => rfl)] at hp
    exact tell1 k hz rfl go L1 (by omega) hp (by show 2 ≤ 900; decide)
theorem scFul : FnScope ["line", "given", "often_full", "often_empty"] ["line", "given"] (defScope sFul) := ⟨rfl, rfl, rfl, by decide +kernel, rfl, by decide +kernel, by decide +kernel⟩
def muFul (a : Su113.Abs) : Int → Int → Int → Int := fun k x y => if k = a.room then 1 else 0
def muEmp : Int → Int → Int → Int := fun k x y => if k = 0 then 1 else 0
theorem meas_ful (a : Su113.Abs) : Meas (muFul a) := fun k x y _ hx _ => by unfold muFul; split <;> omega
theorem meas_emp : Meas muEmp := fun k x y _ hx _ => by unfold muEmp; split <;> omega
theorem ok_ful {f C fK c Pt : Addr} {fd fdK : FuncData} {tabs : Tabs} (F : Fun K "full" "full" sFul f fd) (T : Txt K C) (nd : (tabs.map (·.1)).Nodup) (hm : (Pt, qFul) ∈ tabs) (hcd : fd.code = .ref c) (Cd : CodeHd base c Pt) (B : BMain mg base)
    (GK : FnOk P w K mg base CX0 8 fK fdK ["line", "measure"] (spLok P w mg base C K)) (kK : PySem.W.keepIn K (.ref fK) = true) (bK : Binds K fdK ["line", "measure"] []) (gK : mg "looked_for" = some (.ref fK)) :
    FnOk P w K mg base CX0 9 f fd ["line", "given"] (spU C tabs K 11) := by
  refine okL F scFul (fun vs H Q E h => ?_) (fun A outer s H vs Q E hr h => ?_)
  · obtain ⟨a, l, g, n, xs, _, _, rfl, _⟩ := h; rfl
  · obtain ⟨a, l, g, n, xs, hn, ho, rfl, L, at_, hg, k⟩ := h
    have nw := L.now
    have ok := nw.ok
    obtain ⟨dx, c0, d, kvs, hd0, hk, hkn, _, hl, hc⟩ := id L
    refine ⟨_, pss_cons (ps_set (i := 2) scFul.nd rfl (Or.inl rfl) (pe_callZ (j := 0) (y := "line") GK hr rfl gK kK bK (pa_cons (pv 0) (pa_cons (pe_lam (P := Pt) (c := c) hcd Cd B rfl (hcl_of (sc := defScope sFul) (by decide +kernel))) pa_nil)) rfl rfl rfl))
      (pss_cons (ps_set (i := 3) scFul.nd rfl (Or.inl rfl) (pe_call GK hr rfl gK kK bK .nil pass0 (pa_cons (pv 0) (pa_cons (pe_lam (P := Pt) (c := c) hcd Cd B rfl (hcl_no (by decide +kernel))) pa_nil))))
      (pss_one (ps_ret (pe_op op_cat (pe_op op_cat (pe_lst (pa_cons pe_int pa_nil)) (pv 2)) (pv 3))))), ?_⟩
    walk_at "rd"
    refine ⟨_, rfl, ?_⟩
    show tLam Pt _ _ _ _
    refine ask1z (μ := muFul a) (v0 := .ref l) (R0 := AtL l (.ins C dx (lineF true c0 a.room a.now.1 a.now.2.1 a.now.2.2 d))) nd hm at_ L (by omega) (by rfl) (by rfl) hl (fun H1 H2 e h => e _ _ h (by intro k z; cases z)) (fun H1 H2 e h => e _ _ h (by intro k z; cases z)) (fun fm o u hd hu => ?_) fun Hz p1 oz go1 L1 hp1 => ?_
    · refine cal1 (t := ⟨_, _, _, _, _⟩) (y := "line") rfl rfl (by decide +kernel) (by decide +kernel) (by decide +kernel) (by decide +kernel) (by decide +kernel) (fun pm cd ct u0 u1 u2 => rfl) (meas_ful a) (fun H zs z h => by show uzs H zs l = _; rw [uzs_out (z.out h (by intro ob z; cases z))]; exact h) fm o u hd hu (fun cd A' outer' s' H' k0 x0 y0 hsm hr' h => ?_)
      refine ⟨_, pe_ifExp (pt_cmpR op_eq (pv 0) (pe_fld (pv 3) rfl) (nomark _)) pe_int pe_int, ?_⟩
      walk_at "rd"
      refine fT rfl h T.cl T.nH lk_holds ⟨rfl, ?_⟩
      unfold muFul
      by_cases h0 : k0 = a.room
      · rw [if_pos (by rw [h0]), if_pos h0]; exact ⟨rfl, rfl⟩
      · rw [if_neg (by intro z; cases z; exact h0 rfl), if_neg h0]; exact ⟨rfl, rfl⟩
    · dsimp only
      generalize uzs Hz _ = H1 at go1 L1 hp1 ⊢
      refine ask0 (μ := muEmp) nd hm (go1.2 at_) L1 (by omega) (fun fm => cal0 (t := ⟨_, _, _, _, _⟩) rfl rfl (by decide +kernel) (by decide +kernel) (by decide +kernel) (fun pm cd ct u0 u1 u2 => rfl) meas_emp fm fun cd A' outer' s' H' a0 b0 c0 hsm hr' => ⟨_, pe_ifExp (pt_cmpR op_eq (pv 0) pe_int (nomark _)) pe_int pe_int, ?_⟩) fun H2 p2 go2 L2 hp2 => ?_
      · walk_at "rd"
        unfold muEmp
        by_cases h0 : a0 = 0
        · rw [if_pos h0, if_pos h0]
        · rw [if_neg h0, if_neg h0]
      rw [frac_sumOver ok (f := fun s => Su113.bit (s.1 == a.room)) (fun j x y _ hx hy => by
        show (if ((j / 4 : Nat) : Int) = a.room then (1 : Int) else 0) = ((if (j / 4 == a.room) = true then 1 else 0 : Nat) : Int)
        by_cases h0 : j / 4 = a.room
        · rw [if_pos (by omega), if_pos (by simpa using h0)]; rfl
        · rw [if_neg (by omega), if_neg (by simpa using h0)]; rfl)] at hp1
      rw [frac_sumOver ok (f := fun s => Su113.bit (s.1 == 0)) (fun j x y _ hx hy => by
        show (if ((j / 4 : Nat) : Int) = 0 then (1 : Int) else 0) = ((if (j / 4 == 0) = true then 1 else 0 : Nat) : Int)
        by_cases h0 : j / 4 = 0
        · rw [if_pos (by omega), if_pos (by simpa using h0)]; rfl
        · rw [if_neg (by omega), if_neg (by simpa using h0)]; rfl)] at hp2
      refine ⟨by show 1 ≤ sizeLine; decide, fun z hz => catL upd_same (sm_new hz _ _ (go2.1 _ _ hp1 fix_lst)) (by show 3 ≤ 1000; decide) fun r hr => catL upd_same (sm_new hr _ _ (sm_new hz _ _ hp2)) (by show 5 ≤ 1000; decide) fun r2 hr2 => ?_⟩
      exact fin k rfl ((((go1.trans go2).trans (.same (sm_new hz))).trans (.same (sm_new hr))).trans (.same (sm_new hr2))) (.go (((go1.trans go2).trans (.same (sm_new hz))).trans (.same (sm_new hr))) hr2) (((L2.same (sm_new hz) (Nat.le_refl _)).same (sm_new hr) (Nat.le_refl _)).same (sm_new hr2) (Nat.le_refl _)) (by omega) (by rw [upd_same]; rfl)
theorem scBot : FnScope ["line", "given", "often_down", "often_up"] ["line", "given"] (defScope sBot) := ⟨rfl, rfl, rfl, by decide +kernel, rfl, by decide +kernel, by decide +kernel⟩
theorem ok_bot {f C fK c Pt : Addr} {fd fdK : FuncData} {tabs : Tabs} (F : Fun K "both" "both" sBot f fd) (nd : (tabs.map (·.1)).Nodup) (hm : (Pt, qBot) ∈ tabs) (hcd : fd.code = .ref c) (Cd : CodeHd base c Pt) (B : BMain mg base)
    (GK : FnOk P w K mg base CX0 8 fK fdK ["line", "measure"] (spLok P w mg base C K)) (kK : PySem.W.keepIn K (.ref fK) = true) (bK : Binds K fdK ["line", "measure"] []) (gK : mg "looked_for" = some (.ref fK)) :
    FnOk P w K mg base CX0 9 f fd ["line", "given"] (spU C tabs K 13) := by
  refine okL F scBot (fun vs H Q E h => ?_) (fun A outer s H vs Q E hr h => ?_)
  · obtain ⟨a, l, g, n, xs, _, _, rfl, _⟩ := h; rfl
  · obtain ⟨a, l, g, n, xs, hn, ho, rfl, L, at_, hg, k⟩ := h
    have nw := L.now
    have ok := nw.ok
    refine ⟨_, pss_cons (ps_set (i := 2) scBot.nd rfl (Or.inl rfl) (pe_call GK hr rfl gK kK bK .nil pass0 (pa_cons (pv 0) (pa_cons (pe_lam (P := Pt) (c := c) hcd Cd B rfl (hcl_no (by decide +kernel))) pa_nil))))
      (pss_cons (ps_set (i := 3) scBot.nd rfl (Or.inl rfl) (pe_call GK hr rfl gK kK bK .nil pass0 (pa_cons (pv 0) (pa_cons (pe_lam (P := Pt) (c := c) hcd Cd B rfl (hcl_no (by decide +kernel))) pa_nil))))
      (pss_one (ps_ret (pe_op op_cat (pe_op op_cat (pe_lst (pa_cons pe_int pa_nil)) (pv 2)) (pv 3))))), ?_⟩
    walk_at "rd"
    refine ask0 (μ := fun k x y => (1 - x) * (1 - y)) nd hm at_ L (by omega) (fun fm => cal0 (t := ⟨_, _, _, _, _⟩) rfl rfl (by decide +kernel) (by decide +kernel) (by decide +kernel) (fun pm cd ct u0 u1 u2 => rfl) (fun k x y _ hx hy => by rcases bit01 hx with rfl | rfl <;> rcases bit01 hy with rfl | rfl <;> decide) fm fun cd A' outer' s' H' a0 b0 c0 hsm hr' => ⟨_, pe_op op_mul (pe_op op_sub pe_int (pv 1)) (pe_op op_sub pe_int (pv 2)), ?_⟩) fun H1 p1 go1 L1 hp1 => ?_
    · walk_at "rd"
      exact .inl (by unfold L2.Sm at hsm; constructor <;> omega)
    · refine ask0 (μ := fun k x y => x * y) nd hm (go1.2 at_) L1 (by omega) (fun fm => cal0 (t := ⟨_, _, _, _, _⟩) rfl rfl (by decide +kernel) (by decide +kernel) (by decide +kernel) (fun pm cd ct u0 u1 u2 => rfl) (fun k x y _ hx hy => by rcases bit01 hx with rfl | rfl <;> rcases bit01 hy with rfl | rfl <;> decide) fm fun cd A' outer' s' H' a0 b0 c0 hsm hr' => ⟨_, pe_op op_mul (pv 1) (pv 2), ?_⟩) fun H2 p2 go2 L2 hp2 => ?_
      · walk_at "rd"
        exact .inl (by unfold L2.Sm at hsm; constructor <;> omega)
      rw [frac_often ok (f := fun _ x y => x == 0 && y == 0) (fun j x y _ hx hy => by rcases bit01 hx with rfl | rfl <;> rcases bit01 hy with rfl | rfl <;> rfl)] at hp1
      rw [frac_often ok (f := fun _ x y => x == 1 && y == 1) (fun j x y _ hx hy => by rcases bit01 hx with rfl | rfl <;> rcases bit01 hy with rfl | rfl <;> rfl)] at hp2
      refine ⟨by show 1 ≤ sizeLine; decide, fun z hz => catL upd_same (sm_new hz _ _ (go2.1 _ _ hp1 fix_lst)) (by show 3 ≤ 1000; decide) fun r hr => catL upd_same (sm_new hr _ _ (sm_new hz _ _ hp2)) (by show 5 ≤ 1000; decide) fun r2 hr2 => ?_⟩
      exact fin k rfl ((((go1.trans go2).trans (.same (sm_new hz))).trans (.same (sm_new hr))).trans (.same (sm_new hr2))) (.go (((go1.trans go2).trans (.same (sm_new hz))).trans (.same (sm_new hr))) hr2) (((L2.same (sm_new hz) (Nat.le_refl _)).same (sm_new hr) (Nat.le_refl _)).same (sm_new hr2) (Nat.le_refl _)) (by omega) (by rw [upd_same]; rfl)
end
abbrev sLng : Stmt := top 55
abbrev sBes : Stmt := top 58
abbrev sTrn : Stmt := top 59
abbrev sMor : Stmt := top 60
abbrev sSoo : Stmt := top 61
abbrev sFew : Stmt := top 62
abbrev sAlo : Stmt := top 63
abbrev sSon : Stmt := top 64
abbrev sFre2 : Stmt := top 65
def spBes (C : Addr) (K : PySem.W.Frag) : Sp := fun vs H Q _ => ∃ (a b : Su113.Abs) (l c : Addr) (n : Nat), n < 99500 ∧ vs = [.ref l, .ref c, .int b.room] ∧ Md.Ok b ∧ H c = some (.lst (chV b)) ∧ LineAt C H l (some a) n ∧
  ∀ H' p, KD H H' → NewP H p → LineAt C H' l (some a) (n + 2) → H' p = some (.lst ((0 :: (Su113.two b.out ++ Su113.two a.out)).map V.int)) → Q (.ref p) H'
section
variable {P : Program} {w : World} {K : PySem.W.Frag} {mg : Str → Option Value} {base : Heap}
theorem scLng : FnScope ["line", "given", "pieces", "first", "second", "found"] ["line", "given"] (defScope sLng) := ⟨rfl, rfl, rfl, by decide +kernel, rfl, by decide +kernel, by decide +kernel⟩
theorem ok_lng {f C fL fF fN : Addr} {fd fdL fdF fdN : FuncData} {tabs : Tabs} (F : Fun K "long" "long" sLng f fd) (T : Txt K C) (nS : mg "sum" = none) (gO : ∃ t, mg "OUT_OF_RANGE" = some (.int (-22) t))
    (GL : FnOk P w K mg base CX0 7 fL fdL ["line", "chances", "holds"] (spLon C K)) (kL : PySem.W.keepIn K (.ref fL) = true) (bL : Binds K fdL ["line", "chances", "holds"] []) (gL : mg "long_run" = some (.ref fL))
    (GF : FnOk P w K mg base CX0 2 fF fdF ["above", "below"] spFra) (kF : PySem.W.keepIn K (.ref fF) = true) (bF : Binds K fdF ["above", "below"] []) (gF : mg "fraction" = some (.ref fF))
    (GN : FnOk P w K mg base CX0 1 fN fdN ["pieces", "first", "second"] spStn) (kN : PySem.W.keepIn K (.ref fN) = true) (bN : Binds K fdN ["pieces", "first", "second"] []) (gN : mg "state_number" = some (.ref fN)) :
    FnOk P w K mg base CX0 8 f fd ["line", "given"] (spU C tabs K 12) := by
  obtain ⟨tO, gO⟩ := gO
  refine F.ok scLng (fun vs H Q E h => ?_) (fun cdv A outer s H vs Q E hr h => ?_)
  · obtain ⟨a, l, g, n, xs, _, _, rfl, _⟩ := h; rfl
  · obtain ⟨a, l, g, n, xs, hn, ho, rfl, L, at_, hg, k⟩ := h
    have nw := L.now
    have ok := nw.ok
    obtain ⟨p0, x, y, rfl⟩ := len3 ho.1
    have hg : SqL K H g [V.int p0, V.int x, V.int y] := hg
    have k : ∀ H' p, Go tabs H H' → NewP H p → LineAt C H' l (some (Su113.does a (.long p0 x y)).1) (n + 2) → H' p = some (.lst ((ansL (Su113.does a (.long p0 x y)).2).map V.int)) → Q (.ref p) H' := k
    obtain ⟨dx, c, d, kvs, hd, hk, hkn, _, hl, hc⟩ := id L
    refine ⟨_, pss_cons (ps_set (i := 2) scLng.nd rfl (Or.inl rfl) (pe_ix ix_list (pv 1) pe_int (fun _ _ => rfl))) (pss_cons (ps_set (i := 3) scLng.nd rfl (Or.inl rfl) (pe_ix ix_list (pv 1) pe_int (fun _ _ => rfl))) (pss_cons (ps_set (i := 4) scLng.nd rfl (Or.inl rfl) (pe_ix ix_list (pv 1) pe_int (fun _ _ => rfl)))
      (pss_cons (ps_if (PW.pt (pw_or (pt_cmpR op_gt (pv 2) (pe_fld (pv 0) rfl) (nomark _)) (pw_or (pt_cmpR op_gt (pv 3) pe_int (nomark _)) (pw_or1 (pt_cmpR op_gt (pv 4) pe_int (nomark _)))))) (pss_one (ps_ret (pe_lst (pa_cons (pe_glob (v := V.int (-22)) rfl gO ⟨_, rfl⟩) pa_nil)))) pss_nil)
      (pss_cons (ps_set (i := 5) scLng.nd rfl (Or.inl rfl) (pe_call GL hr rfl gL kL bL .nil pass0 (pa_cons (pv 0) (pa_cons (pe_fld (pv 0) rfl) (pa_cons (pe_fld (pv 0) rfl) pa_nil)))))
      (pss_one (ps_ret (pe_op op_cat (pe_lst (pa_cons pe_int pa_nil)) (pe_call GF (hr.mono (by decide)) rfl gF kF bF .nil pass0 (pa_cons (pe_ix ix_list (pv 5) (pe_call GN (hr.mono (by decide)) rfl gN kN bN .nil pass0 (pa_cons (pv 2) (pa_cons (pv 3) (pa_cons (pv 4) pa_nil)))) (fun _ _ => rfl)) (pa_cons (pe_callB (cr_sum rfl) (by rfl) nS bt_sum (pa_cons (pv 5) pa_nil)) pa_nil)))))))))), ?_⟩
    walk_at "rd"
    have no : (a.room < p0 ∨ 1 < x ∨ 1 < y) → Su113.does a (.long p0 x y) = (a, Su113.no (-22)) := fun h => by show (if a.room < p0 ∨ 1 < x ∨ 1 < y then _ else _) = _; rw [if_pos h]
    refine ixL hg rfl (ixL hg rfl (ixL hg rfl (fT rfl hl T.cl T.nH lk_holds ⟨_, rfl, _, rfl, ?_⟩)))
    by_cases h1 : (a.room : Int) < p0
    · rw [if_pos h1]; exact refuse k (no (.inl (by omega))) (Go.refl _ _) L
    rw [if_neg h1]
    refine ⟨_, rfl, ?_⟩
    by_cases h2 : (1 : Int) < x
    · rw [if_pos h2]; exact refuse k (no (.inr (.inl (by omega)))) (Go.refl _ _) L
    rw [if_neg h2]
    refine ⟨_, rfl, ?_⟩
    by_cases h3 : (1 : Int) < y
    · rw [if_pos h3]; exact refuse k (no (.inr (.inr (by omega)))) (Go.refl _ _) L
    rw [if_neg h3]
    have e : Su113.does a (.long p0 x y) = (a, Su113.num 0 (Su113.two (Md.fr (Md.ppi a (4 * p0 + 2 * x + y))))) := by
      show (if a.room < p0 ∨ 1 < x ∨ 1 < y then _ else _) = _
      rw [if_neg (by omega), Md.longAt_eq ok (by omega) (by omega) (by omega)]
    refine fT rfl hl T.cl T.nC lk_chances (fT rfl hl T.cl T.nH lk_holds ⟨a, a, l, c, n, by omega, rfl, ok, hc, L, fun H1 w1 e1 L1 hw1 => ?_⟩)
    refine ⟨by show 1 ≤ sizeLine; decide, fun z nz => ⟨_, _, _, rfl, ?_⟩⟩
    have s2 := sm_new (o := .lst [V.int 0]) nz
    have hz : upd H1 z (.lst [V.int 0]) z = some (.lst [V.int 0]) := upd_same
    generalize upd H1 z (.lst [V.int 0]) = H2 at s2 hz ⊢
    have hi : 4 * p0 + 2 * x + y < nst a := by unfold nst; omega
    have ei : 4 * (p0 : Int) + 2 * (x : Int) + (y : Int) = ((4 * p0 + 2 * x + y : Nat) : Int) := by omega
    rw [ei]
    have hs : (wsL a (nst a)).sum = isum (nst a) (WI a) := rfl
    have rn := nst_le ok
    have hb : (isum (nst a) (WI a)).natAbs ≤ 28 * (BIG * 2 ^ 100) := sum_le (fun i => wi_le ok i) rn
    refine ixL (SqL.of (s2 _ _ hw1)) (atI_nat (j := 4 * p0 + 2 * x + y) (by rw [List.getElem?_map, wsL_get hi]; rfl)) ⟨w1, _, rfl, SqL.of (s2 _ _ hw1), ?_⟩
    rw [hs]
    refine ⟨_, _, (Md.chain ok).wI_nonneg _, (Md.chain ok).wI_sum_pos, Nat.lt_of_le_of_lt hb (by decide +kernel), rfl, fun H3 p e3 n3 hp3 => ?_⟩
    rw [frac_long ok hi] at hp3
    have go3 : Go tabs H H3 := ((Go.kd e1).trans (.same s2)).trans (.same e3)
    refine catS (e3 _ _ hz) hp3 (by show 3 ≤ 1000; decide) fun r H4 nr s4 hr => ?_
    exact fin k e (go3.trans (.same s4)) (.go go3 nr) (((L1.same s2 (Nat.le_refl _)).same e3 (Nat.le_refl _)).same s4 (Nat.le_refl _)) (by omega) hr
theorem scBes : FnScope ["line", "chances", "holds", "as_it_would_be"] ["line", "chances", "holds"] (defScope sBes) := ⟨rfl, rfl, rfl, by decide +kernel, rfl, by decide +kernel, by decide +kernel⟩
theorem ok_bes {f C fE fL fK fB : Addr} {fd fdE fdL fdK : FuncData} (F : Fun K "beside" "beside" sBes f fd) (BR : Bro P w K mg base fB)
    (GE : FnOk P w K mg base CX0 5 fE fdE ["found", "chances", "measure"] (spExp P w K mg base)) (kE : PySem.W.keepIn K (.ref fE) = true) (bE : Binds K fdE ["found", "chances", "measure"] []) (gE : mg "expected" = some (.ref fE))
    (GL : FnOk P w K mg base CX0 7 fL fdL ["line", "chances", "holds"] (spLon C K)) (kL : PySem.W.keepIn K (.ref fL) = true) (bL : Binds K fdL ["line", "chances", "holds"] []) (gL : mg "long_run" = some (.ref fL))
    (GK : FnOk P w K mg base CX0 8 fK fdK ["line", "measure"] (spLok P w mg base C K)) (kK : PySem.W.keepIn K (.ref fK) = true) (bK : Binds K fdK ["line", "measure"] []) (gK : mg "looked_for" = some (.ref fK)) :
    FnOk P w K mg base CX0 9 f fd ["line", "chances", "holds"] (spBes C K) := by
  refine F.ok scBes (fun vs H Q E h => ?_) (fun cdv A outer s H vs Q E hr h => ?_)
  · obtain ⟨a, b, l, c, n, _, rfl, _⟩ := h; rfl
  · obtain ⟨a, b, l, c, n, hn, rfl, okb, hc, L, k⟩ := h
    have ok := L.now.ok
    refine ⟨_, pss_cons (ps_set (i := 3) scBes.nd rfl (Or.inl rfl) (pe_call GE (hr.mono (by decide)) rfl gE kE bE .nil pass0 (pa_cons (pe_call GL (hr.mono (by decide)) rfl gL kL bL .nil pass0 (pa_cons (pv 0) (pa_cons (pv 1) (pa_cons (pv 2) pa_nil)))) (pa_cons (pv 1) (pa_cons (pe_glob (v := V.ref fB) rfl BR.g rfl) pa_nil)))))
      (pss_one (ps_ret (pe_op op_cat (pe_op op_cat (pe_lst (pa_cons pe_int pa_nil)) (pv 3)) (pe_call GK hr rfl gK kK bK .nil pass0 (pa_cons (pv 0) (pa_cons (pe_glob (v := V.ref fB) rfl BR.g rfl) pa_nil)))))), ?_⟩
    walk_at "rd"
    refine ⟨a, b, l, c, n, by omega, rfl, okb, hc, L, fun H1 w1 e1 L1 hw1 => ?_⟩
    have hc1 := e1 _ _ hc (by intro k z; cases z)
    refine ⟨b, w1, c, fB, fun _ => True, muSecond, okb, rfl, SqL.of hw1, SqL.of hc1, BR.cal, trivial, fun _ _ _ h => h, fun H2 p e2 hp hp2 => ?_⟩
    rw [frac_out okb] at hp2
    refine ⟨by show 1 ≤ sizeLine; decide, fun z hz => catS upd_same (sm_new hz _ _ hp2) (by show 3 ≤ 1000; decide) fun r H2' nr s2' hr => ?_⟩
    have s2 : KD H1 H2' := kd_of ((e2.trans (sm_new hz)).trans s2')
    refine ⟨a, l, fB, n + 1, fun _ => True, muSecond, by omega, rfl, ((L1.same e2 (Nat.le_refl _)).same (sm_new hz) (Nat.le_refl _)).same s2' (Nat.le_refl _), BR.cal, trivial, fun _ _ _ h => h, fun H3 p3 e3 L3 hp3 => ?_⟩
    rw [frac_out ok] at hp3
    refine catL (e3 _ _ hr (by intro k z; cases z)) hp3 (by show 5 ≤ 1000; decide) fun r2 hr2 => ?_
    exact k _ r2 (((e1.trans s2).trans e3).trans (kd_of (sm_new hr2))) (fun xs e => by have z := ((e1.trans s2).trans e3) _ _ e (by intro k z; cases z); rw [hr2] at z; cases z) (L3.same (sm_new hr2) (Nat.le_refl _)) (by rw [upd_same]; rfl)
theorem scTur : FnScope ["line", "given"] ["line", "given"] (defScope sTur) := ⟨rfl, rfl, rfl, by decide +kernel, rfl, by decide +kernel, by decide +kernel⟩
theorem ok_tur {f C fR fS : Addr} {fd fdR fdS : FuncData} {tabs : Tabs} (F : Fun K "turn" "turn" sTur f fd) (T : Txt K C)
    (GR : FnOk P w K mg base CX0 1 fR fdR ["chances"] (spTro K)) (kR : PySem.W.keepIn K (.ref fR) = true) (bR : Binds K fdR ["chances"] []) (gR : mg "turned_round" = some (.ref fR))
    (GS : FnOk P w K mg base CX0 1 fS fdS ["line"] (spSta C K)) (kS : PySem.W.keepIn K (.ref fS) = true) (bS : Binds K fdS ["line"] []) (gS : mg "start_over" = some (.ref fS)) :
    FnOk P w K mg base CX0 2 f fd ["line", "given"] (spU C tabs K 14) := by
  refine F.ok scTur (fun vs H Q E h => ?_) (fun cdv A outer s H vs Q E hr h => ?_)
  · obtain ⟨a, l, g, n, xs, _, _, rfl, _⟩ := h; rfl
  · obtain ⟨a, l, g, n, xs, hn, ho, rfl, L, at_, hg, k⟩ := h
    have nw := L.now
    have ok := nw.ok
    obtain ⟨dx, c, d, kvs, hd, hk, hkn, _, hl, hc⟩ := id L
    refine ⟨_, pss_cons (ps_fld (pv 0) (pe_call GR hr rfl gR kR bR .nil pass0 (pa_cons (pe_fld (pv 0) rfl) pa_nil)) rfl) (pss_cons (ps_expr (pe_call GS hr rfl gS kS bS .nil pass0 (pa_cons (pv 0) pa_nil))) (pss_one (ps_ret (pe_lst (pa_cons (pe_fld (pv 0) rfl) pa_nil))))), ?_⟩
    walk_at "rd"
    refine fT rfl hl T.cl T.nC lk_chances ⟨a, c, rfl, hc, fun H1 p e1 hp hp1 => ?_⟩
    have hl1 := e1 _ _ hl
    refine ⟨l, rfl, C, dx, _, hl1, T.cl, T.nC, by show 7 < 1000; decide, ?_⟩
    rw [pt_chances]
    refine ⟨l, dx, p, d, _, _, _, _, _, rfl, upd_same, ?_⟩
    rw [upd_upd]
    refine fT rfl upd_same T.cl T.nH lk_holds ⟨by show 1 ≤ sizeLine; decide, fun q hq => ?_⟩
    have hlq : l ≠ q := fun z => by rw [← z, upd_same] at hq; cases hq
    have hq1 : H1 q = none := by rw [upd_ne hlq.symm] at hq; exact hq
    have kl : ∀ v, KL l H (upd (upd H1 l (.ins C dx (lineF true p a.room 0 1 1 d))) q (.lst v)) := fun v b o e hb => by rw [upd_ne (ne_of_none (e1 _ _ e) hq1), upd_ne hb]; exact e1 _ _ e
    refine k _ q (.kl hl (kl _)) (.of (e1.free hq1)) ?_ ?_
    · refine (LineAt.put (a := a.turned) (c := p) hl hd hk hkn (kl _) ⟨⟨ok.b2, ok.r2, ok.b1, ok.r1, ok.room⟩, Nat.zero_le _, show 1 < 2 by decide, show 1 < 2 by decide⟩ (by rw [upd_ne hlq, upd_same]; rfl) ?_).same (Same.refl _) (by omega)
      rw [upd_ne (ne_of_none hp1 hq1), upd_ne (ne_of hp1 hl1 (by intro z; cases z))]; exact hp1
    · rw [upd_same]; rfl
theorem scTrn : FnScope ["line", "given"] ["line", "given"] (defScope sTrn) := ⟨rfl, rfl, rfl, by decide +kernel, rfl, by decide +kernel, by decide +kernel⟩
theorem ok_trn {f C fB fR : Addr} {fd fdB fdR : FuncData} {tabs : Tabs} (F : Fun K "turned" "turned" sTrn f fd) (T : Txt K C)
    (GB : FnOk P w K mg base CX0 9 fB fdB ["line", "chances", "holds"] (spBes C K)) (kB : PySem.W.keepIn K (.ref fB) = true) (bB : Binds K fdB ["line", "chances", "holds"] []) (gB : mg "beside" = some (.ref fB))
    (GR : FnOk P w K mg base CX0 1 fR fdR ["chances"] (spTro K)) (kR : PySem.W.keepIn K (.ref fR) = true) (bR : Binds K fdR ["chances"] []) (gR : mg "turned_round" = some (.ref fR)) :
    FnOk P w K mg base CX0 10 f fd ["line", "given"] (spU C tabs K 15) := by
  refine F.ok scTrn (fun vs H Q E h => ?_) (fun cdv A outer s H vs Q E hr h => ?_)
  · obtain ⟨a, l, g, n, xs, _, _, rfl, _⟩ := h; rfl
  · obtain ⟨a, l, g, n, xs, hn, ho, rfl, L, at_, hg, k⟩ := h
    have nw := L.now
    have ok := nw.ok
    obtain ⟨dx, c, d, kvs, hd, hk, hkn, _, hl, hc⟩ := id L
    refine ⟨_, pss_one (ps_ret (pe_call GB hr rfl gB kB bB .nil pass0 (pa_cons (pv 0) (pa_cons (pe_call GR (hr.mono (by decide)) rfl gR kR bR .nil pass0 (pa_cons (pe_fld (pv 0) rfl) pa_nil)) (pa_cons (pe_fld (pv 0) rfl) pa_nil))))), ?_⟩
    walk_at "rd"
    refine fT rfl hl T.cl T.nC lk_chances ⟨a, c, rfl, hc, fun H1 p e1 hp hp1 => ?_⟩
    refine fT rfl (e1 _ _ hl) T.cl T.nH lk_holds ⟨a, a.turned, l, p, n, by omega, rfl, ⟨ok.b2, ok.r2, ok.b1, ok.r1, ok.room⟩, hp1, L.same e1 (Nat.le_refl _), fun H2 q e2 nq L2 hq => ?_⟩
    exact fin k rfl (.kd ((kd_of e1).trans e2)) (fun xs e => nq xs (e1 _ _ e)) L2 (Nat.le_refl _) hq
theorem scMor : FnScope ["line", "given"] ["line", "given"] (defScope sMor) := ⟨rfl, rfl, rfl, by decide +kernel, rfl, by decide +kernel, by decide +kernel⟩
theorem ok_mor {f C fB : Addr} {fd fdB : FuncData} {tabs : Tabs} (F : Fun K "more" "more" sMor f fd) (T : Txt K C) (gM : ∃ t, mg "MOST_ROOM" = some (.int 6 t)) (gO : ∃ t, mg "TOO_MANY" = some (.int (-28) t))
    (GB : FnOk P w K mg base CX0 9 fB fdB ["line", "chances", "holds"] (spBes C K)) (kB : PySem.W.keepIn K (.ref fB) = true) (bB : Binds K fdB ["line", "chances", "holds"] []) (gB : mg "beside" = some (.ref fB)) :
    FnOk P w K mg base CX0 10 f fd ["line", "given"] (spU C tabs K 16) := by
  obtain ⟨tO, gO⟩ := gO
  obtain ⟨tM, gM⟩ := gM
  refine F.ok scMor (fun vs H Q E h => ?_) (fun cdv A outer s H vs Q E hr h => ?_)
  · obtain ⟨a, l, g, n, xs, _, _, rfl, _⟩ := h; rfl
  · obtain ⟨a, l, g, n, xs, hn, ho, rfl, L, at_, hg, k⟩ := h
    have nw := L.now
    have ok := nw.ok
    obtain ⟨dx, c, d, kvs, hd, hk, hkn, _, hl, hc⟩ := id L
    refine ⟨_, pss_cons (ps_if (pt_cmpR op_eq (pe_fld (pv 0) rfl) (pe_glob (v := V.int 6) rfl gM ⟨_, rfl⟩) (nomark _)) (pss_one (ps_ret (pe_lst (pa_cons (pe_glob (v := V.int (-28)) rfl gO ⟨_, rfl⟩) pa_nil)))) pss_nil) (pss_one (ps_ret (pe_call GB hr rfl gB kB bB .nil pass0 (pa_cons (pv 0) (pa_cons (pe_fld (pv 0) rfl) (pa_cons (pe_op op_add (pe_fld (pv 0) rfl) pe_int) pa_nil)))))), ?_⟩
    walk_at "rd"
    have r := ok.room
    refine fT rfl hl T.cl T.nH lk_holds ⟨rfl, ?_⟩
    by_cases h6 : a.room = 6
    · rw [if_pos (by rw [h6]; rfl)]
      have e : Su113.does a (Md.mk 16 xs) = (a, Su113.no (-28)) := by show (if Su113.ROOM ≤ a.room then _ else _) = _; rw [if_pos (by unfold Su113.ROOM; omega)]
      exact refuse k e (Go.refl _ _) L
    · rw [if_neg (by simp; omega)]
      have e : Su113.does a (Md.mk 16 xs) = (a, Su113.num 0 (Su113.two ({ a with room := a.room + 1 } : Su113.Abs).out ++ Su113.two a.out)) := by show (if Su113.ROOM ≤ a.room then _ else _) = _; rw [if_neg (by unfold Su113.ROOM; omega)]
      refine fT rfl hl T.cl T.nC lk_chances (fT rfl hl T.cl T.nH lk_holds ⟨_, rfl, a, { a with room := a.room + 1 }, l, c, n, by omega, rfl, ⟨ok.b1, ok.r1, ok.b2, ok.r2, by show 1 ≤ a.room + 1 ∧ a.room + 1 ≤ 6; omega⟩, hc, L, fun H2 q e2 nq L2 hq => ?_⟩)
      exact fin k e (.kd e2) nq L2 (Nat.le_refl _) hq
theorem scSoo : FnScope ["line", "given", "at"] ["line", "given"] (defScope sSoo) := ⟨rfl, rfl, rfl, by decide +kernel, rfl, by decide +kernel, by decide +kernel⟩
theorem ok_soo {f C fB fN : Addr} {fd fdB fdN : FuncData} {tabs : Tabs} (F : Fun K "sooner" "sooner" sSoo f fd) (T : Txt K C) (gM : ∃ t, mg "MOST_TENTHS" = some (.int 9 t)) (gO : ∃ t, mg "SO_ALREADY" = some (.int (-17) t))
    (GB : FnOk P w K mg base CX0 9 fB fdB ["line", "chances", "holds"] (spBes C K)) (kB : PySem.W.keepIn K (.ref fB) = true) (bB : Binds K fdB ["line", "chances", "holds"] []) (gB : mg "beside" = some (.ref fB))
    (GN : FnOk P w K mg base CX0 1 fN fdN ["chances", "at", "by"] (spOne K)) (kN : PySem.W.keepIn K (.ref fN) = true) (bN : Binds K fdN ["chances", "at", "by"] []) (gN : mg "one_changed" = some (.ref fN)) :
    FnOk P w K mg base CX0 10 f fd ["line", "given"] (spU C tabs K 17) := by
  obtain ⟨tO, gO⟩ := gO
  obtain ⟨tM, gM⟩ := gM
  refine F.ok scSoo (fun vs H Q E h => ?_) (fun cdv A outer s H vs Q E hr h => ?_)
  · obtain ⟨a, l, g, n, xs, _, _, rfl, _⟩ := h; rfl
  · obtain ⟨a, l, g, n, xs, hn, ho, rfl, L, at_, hg, k⟩ := h
    have nw := L.now
    have ok := nw.ok
    obtain ⟨i, rfl⟩ := len1 ho.1
    have hi : i < 2 := ho.2 (by decide)
    have hg : SqL K H g [V.int i] := hg
    obtain ⟨dx, c, d, kvs, hd, hk, hkn, _, hl, hc⟩ := id L
    refine ⟨_, pss_cons (ps_set (i := 2) scSoo.nd rfl (Or.inl rfl) (pe_op op_add (pe_op op_mul pe_int (pe_ix ix_list (pv 1) pe_int (fun _ _ => rfl))) pe_int)) (pss_cons (ps_if (pt_cmpR op_eq (pe_ix ix_list (pe_fld (pv 0) rfl) (pv 2) (fun _ _ => rfl)) (pe_glob (v := V.int 9) rfl gM ⟨_, rfl⟩) (nomark _)) (pss_one (ps_ret (pe_lst (pa_cons (pe_glob (v := V.int (-17)) rfl gO ⟨_, rfl⟩) pa_nil)))) pss_nil) (pss_one (ps_ret (pe_call GB hr rfl gB kB bB .nil pass0 (pa_cons (pv 0) (pa_cons (pe_call GN (hr.mono (by decide)) rfl gN kN bN .nil pass0 (pa_cons (pe_fld (pv 0) rfl) (pa_cons (pv 2) (pa_cons pe_int pa_nil)))) (pa_cons (pe_fld (pv 0) rfl) pa_nil))))))), ?_⟩
    walk_at "rd"
    rcases bit01 hi with rfl | rfl
    · refine ixL hg rfl ⟨_, rfl, .inl (by constructor <;> decide), fT rfl hl T.cl T.nC lk_chances (ixL (v := .int a.r1) (SqL.of hc) rfl ⟨rfl, ?_⟩)⟩
      by_cases h9 : a.r1 = 9
      · rw [if_pos (by rw [h9]; rfl)]
        have e : Su113.does a (Md.mk 17 [0]) = (a, Su113.no (-17)) := by show (if 1 < 0 then (a, Su113.no (-2)) else if a.r 0 = 9 then _ else _) = _; rw [if_neg (by decide)]; exact if_pos h9
        exact refuse k e (Go.refl _ _) L
      · rw [if_neg (by intro z; have z2 := V.int.inj z; omega)]
        have e : Su113.does a (Md.mk 17 [0]) = (a, Su113.num 0 (Su113.two (a.with_ 0 (a.b 0) (a.r 0 + 1)).out ++ Su113.two a.out)) := by show (if 1 < 0 then (a, Su113.no (-2)) else if a.r 0 = 9 then _ else _) = _; rw [if_neg (by decide)]; exact if_neg h9
        refine fT rfl hl T.cl T.nC lk_chances ⟨a, c, 1, 1, by decide, rfl, hc, fun H1 p e1 np hp => ?_⟩
        refine fT rfl (e1 _ _ hl) T.cl T.nH lk_holds ⟨a, a.with_ 0 (a.b 0) (a.r 0 + 1), l, p, n, by omega, rfl, ⟨ok.b1, ⟨by show 1 ≤ a.r1 + 1; omega, by show a.r1 + 1 ≤ 9; have := ok.r1; omega⟩, ok.b2, ok.r2, ok.room⟩, ?_, L.same e1 (Nat.le_refl _), fun H2 q e2 nq L2 hq => ?_⟩
        · exact hp
        exact fin k e (.kd ((kd_of e1).trans e2)) (fun xs e => nq xs (e1 _ _ e)) L2 (Nat.le_refl _) hq
    · refine ixL hg rfl ⟨_, rfl, .inl (by constructor <;> decide), fT rfl hl T.cl T.nC lk_chances (ixL (v := .int a.r2) (SqL.of hc) rfl ⟨rfl, ?_⟩)⟩
      by_cases h9 : a.r2 = 9
      · rw [if_pos (by rw [h9]; rfl)]
        have e : Su113.does a (Md.mk 17 [1]) = (a, Su113.no (-17)) := by show (if 1 < 1 then (a, Su113.no (-2)) else if a.r 1 = 9 then _ else _) = _; rw [if_neg (by decide)]; exact if_pos h9
        exact refuse k e (Go.refl _ _) L
      · rw [if_neg (by intro z; have z2 := V.int.inj z; omega)]
        have e : Su113.does a (Md.mk 17 [1]) = (a, Su113.num 0 (Su113.two (a.with_ 1 (a.b 1) (a.r 1 + 1)).out ++ Su113.two a.out)) := by show (if 1 < 1 then (a, Su113.no (-2)) else if a.r 1 = 9 then _ else _) = _; rw [if_neg (by decide)]; exact if_neg h9
        refine fT rfl hl T.cl T.nC lk_chances ⟨a, c, 3, 1, by decide, rfl, hc, fun H1 p e1 np hp => ?_⟩
        refine fT rfl (e1 _ _ hl) T.cl T.nH lk_holds ⟨a, a.with_ 1 (a.b 1) (a.r 1 + 1), l, p, n, by omega, rfl, ⟨ok.b1, ok.r1, ok.b2, ⟨by show 1 ≤ a.r2 + 1; omega, by show a.r2 + 1 ≤ 9; have := ok.r2; omega⟩, ok.room⟩, ?_, L.same e1 (Nat.le_refl _), fun H2 q e2 nq L2 hq => ?_⟩
        · exact hp
        exact fin k e (.kd ((kd_of e1).trans e2)) (fun xs e => nq xs (e1 _ _ e)) L2 (Nat.le_refl _) hq
theorem scFew : FnScope ["line", "given", "at"] ["line", "given"] (defScope sFew) := ⟨rfl, rfl, rfl, by decide +kernel, rfl, by decide +kernel, by decide +kernel⟩
theorem ok_few {f C fB fN : Addr} {fd fdB fdN : FuncData} {tabs : Tabs} (F : Fun K "fewer" "fewer" sFew f fd) (T : Txt K C) (gO : ∃ t, mg "SO_ALREADY" = some (.int (-17) t))
    (GB : FnOk P w K mg base CX0 9 fB fdB ["line", "chances", "holds"] (spBes C K)) (kB : PySem.W.keepIn K (.ref fB) = true) (bB : Binds K fdB ["line", "chances", "holds"] []) (gB : mg "beside" = some (.ref fB))
    (GN : FnOk P w K mg base CX0 1 fN fdN ["chances", "at", "by"] (spOne K)) (kN : PySem.W.keepIn K (.ref fN) = true) (bN : Binds K fdN ["chances", "at", "by"] []) (gN : mg "one_changed" = some (.ref fN)) :
    FnOk P w K mg base CX0 10 f fd ["line", "given"] (spU C tabs K 18) := by
  obtain ⟨tO, gO⟩ := gO
  refine F.ok scFew (fun vs H Q E h => ?_) (fun cdv A outer s H vs Q E hr h => ?_)
  · obtain ⟨a, l, g, n, xs, _, _, rfl, _⟩ := h; rfl
  · obtain ⟨a, l, g, n, xs, hn, ho, rfl, L, at_, hg, k⟩ := h
    have nw := L.now
    have ok := nw.ok
    obtain ⟨i, rfl⟩ := len1 ho.1
    have hi : i < 2 := ho.2 (by decide)
    have hg : SqL K H g [V.int i] := hg
    obtain ⟨dx, c, d, kvs, hd, hk, hkn, _, hl, hc⟩ := id L
    refine ⟨_, pss_cons (ps_set (i := 2) scFew.nd rfl (Or.inl rfl) (pe_op op_mul pe_int (pe_ix ix_list (pv 1) pe_int (fun _ _ => rfl)))) (pss_cons (ps_if (pt_cmpR op_eq (pe_ix ix_list (pe_fld (pv 0) rfl) (pv 2) (fun _ _ => rfl)) pe_int (nomark _)) (pss_one (ps_ret (pe_lst (pa_cons (pe_glob (v := V.int (-17)) rfl gO ⟨_, rfl⟩) pa_nil)))) pss_nil) (pss_one (ps_ret (pe_call GB hr rfl gB kB bB .nil pass0 (pa_cons (pv 0) (pa_cons (pe_call GN (hr.mono (by decide)) rfl gN kN bN .nil pass0 (pa_cons (pe_fld (pv 0) rfl) (pa_cons (pv 2) (pa_cons (pe_un un_neg pe_int) pa_nil)))) (pa_cons (pe_fld (pv 0) rfl) pa_nil))))))), ?_⟩
    walk_at "rd"
    rcases bit01 hi with rfl | rfl
    · refine ixL hg rfl ⟨_, rfl, .inl (by constructor <;> decide), fT rfl hl T.cl T.nC lk_chances (ixL (v := .int a.b1) (SqL.of hc) rfl ⟨rfl, ?_⟩)⟩
      by_cases h9 : a.b1 = 1
      · rw [if_pos (by rw [h9]; rfl)]
        have e : Su113.does a (Md.mk 18 [0]) = (a, Su113.no (-17)) := by show (if 1 < 0 then (a, Su113.no (-2)) else if a.b 0 = 1 then _ else _) = _; rw [if_neg (by decide)]; exact if_pos h9
        exact refuse k e (Go.refl _ _) L
      · rw [if_neg (by intro z; have z2 := V.int.inj z; omega)]
        have e : Su113.does a (Md.mk 18 [0]) = (a, Su113.num 0 (Su113.two (a.with_ 0 (a.b 0 - 1) (a.r 0)).out ++ Su113.two a.out)) := by show (if 1 < 0 then (a, Su113.no (-2)) else if a.b 0 = 1 then _ else _) = _; rw [if_neg (by decide)]; exact if_neg h9
        refine fT rfl hl T.cl T.nC lk_chances ⟨a, c, 0, -1, by decide, rfl, hc, fun H1 p e1 np hp => ?_⟩
        refine fT rfl (e1 _ _ hl) T.cl T.nH lk_holds ⟨a, a.with_ 0 (a.b 0 - 1) (a.r 0), l, p, n, by omega, rfl, ⟨⟨by show 1 ≤ a.b1 - 1; have := ok.b1; omega, by show a.b1 - 1 ≤ 9; have := ok.b1; omega⟩, ok.r1, ok.b2, ok.r2, ok.room⟩, ?_, L.same e1 (Nat.le_refl _), fun H2 q e2 nq L2 hq => ?_⟩
        · have ez : (a.b1 : Int) + -1 = ((a.b1 - 1 : Nat) : Int) := by have := ok.b1; omega
          rw [hp]; show some (HO.lst (chPut a 0 ((a.b1 : Int) + -1))) = _; rw [ez]; rfl
        exact fin k e (.kd ((kd_of e1).trans e2)) (fun xs e => nq xs (e1 _ _ e)) L2 (Nat.le_refl _) hq
    · refine ixL hg rfl ⟨_, rfl, .inl (by constructor <;> decide), fT rfl hl T.cl T.nC lk_chances (ixL (v := .int a.b2) (SqL.of hc) rfl ⟨rfl, ?_⟩)⟩
      by_cases h9 : a.b2 = 1
      · rw [if_pos (by rw [h9]; rfl)]
        have e : Su113.does a (Md.mk 18 [1]) = (a, Su113.no (-17)) := by show (if 1 < 1 then (a, Su113.no (-2)) else if a.b 1 = 1 then _ else _) = _; rw [if_neg (by decide)]; exact if_pos h9
        exact refuse k e (Go.refl _ _) L
      · rw [if_neg (by intro z; have z2 := V.int.inj z; omega)]
        have e : Su113.does a (Md.mk 18 [1]) = (a, Su113.num 0 (Su113.two (a.with_ 1 (a.b 1 - 1) (a.r 1)).out ++ Su113.two a.out)) := by show (if 1 < 1 then (a, Su113.no (-2)) else if a.b 1 = 1 then _ else _) = _; rw [if_neg (by decide)]; exact if_neg h9
        refine fT rfl hl T.cl T.nC lk_chances ⟨a, c, 2, -1, by decide, rfl, hc, fun H1 p e1 np hp => ?_⟩
        refine fT rfl (e1 _ _ hl) T.cl T.nH lk_holds ⟨a, a.with_ 1 (a.b 1 - 1) (a.r 1), l, p, n, by omega, rfl, ⟨ok.b1, ok.r1, ⟨by show 1 ≤ a.b2 - 1; have := ok.b2; omega, by show a.b2 - 1 ≤ 9; have := ok.b2; omega⟩, ok.r2, ok.room⟩, ?_, L.same e1 (Nat.le_refl _), fun H2 q e2 nq L2 hq => ?_⟩
        · have ez : (a.b2 : Int) + -1 = ((a.b2 - 1 : Nat) : Int) := by have := ok.b2; omega
          rw [hp]; show some (HO.lst (chPut a 2 ((a.b2 : Int) + -1))) = _; rw [ez]; rfl
        exact fin k e (.kd ((kd_of e1).trans e2)) (fun xs e => nq xs (e1 _ _ e)) L2 (Nat.le_refl _) hq
theorem scAlo : FnScope ["line", "given", "breaks", "mended"] ["line", "given"] (defScope sAlo) := ⟨rfl, rfl, rfl, by decide +kernel, rfl, by decide +kernel, by decide +kernel⟩
theorem ok_alo {f C fF : Addr} {fd fdF : FuncData} {tabs : Tabs} (F : Fun K "alone" "alone" sAlo f fd) (T : Txt K C)
    (GF : FnOk P w K mg base CX0 2 fF fdF ["above", "below"] spFra) (kF : PySem.W.keepIn K (.ref fF) = true) (bF : Binds K fdF ["above", "below"] []) (gF : mg "fraction" = some (.ref fF)) :
    FnOk P w K mg base CX0 3 f fd ["line", "given"] (spU C tabs K 19) := by
  refine F.ok scAlo (fun vs H Q E h => ?_) (fun cdv A outer s H vs Q E hr h => ?_)
  · obtain ⟨a, l, g, n, xs, _, _, rfl, _⟩ := h; rfl
  · obtain ⟨a, l, g, n, xs, hn, ho, rfl, L, at_, hg, k⟩ := h
    have nw := L.now
    have ok := nw.ok
    obtain ⟨i, rfl⟩ := len1 ho.1
    have hi : i < 2 := ho.2 (by decide)
    have hg : SqL K H g [V.int i] := hg
    obtain ⟨dx, c, d, kvs, hd, hk, hkn, _, hl, hc⟩ := id L
    refine ⟨_, pss_cons (ps_set (i := 2) scAlo.nd rfl (Or.inl rfl) (pe_ix ix_list (pe_fld (pv 0) rfl) (pe_op op_mul pe_int (pe_ix ix_list (pv 1) pe_int (fun _ _ => rfl))) (fun _ _ => rfl))) (pss_cons (ps_set (i := 3) scAlo.nd rfl (Or.inl rfl) (pe_ix ix_list (pe_fld (pv 0) rfl) (pe_op op_add (pe_op op_mul pe_int (pe_ix ix_list (pv 1) pe_int (fun _ _ => rfl))) pe_int) (fun _ _ => rfl))) (pss_one (ps_ret (pe_op op_cat (pe_op op_cat (pe_op op_cat (pe_lst (pa_cons pe_int pa_nil)) (pe_call GF hr rfl gF kF bF .nil pass0 (pa_cons (pv 3) (pa_cons (pe_op op_add (pv 3) (pv 2)) pa_nil)))) (pe_call GF hr rfl gF kF bF .nil pass0 (pa_cons pe_int (pa_cons (pv 2) pa_nil)))) (pe_call GF hr rfl gF kF bF .nil pass0 (pa_cons pe_int (pa_cons (pv 3) pa_nil))))))), ?_⟩
    walk_at "rd"
    have b4 : ∀ z : Nat, z ≤ 100 → ((z : Nat) : Int).natAbs < 2 ^ 4096 := fun z hz => by rw [Int.natAbs_natCast]; exact Nat.lt_of_le_of_lt hz (by decide +kernel)
    rcases bit01 hi with rfl | rfl
    · have hb := ok.b1
      have hr0 := ok.r1
      refine fT rfl hl T.cl T.nC lk_chances (ixL hg rfl ⟨_, rfl, .inl (by constructor <;> decide), ixL (v := .int a.b1) (SqL.of hc) rfl (fT rfl hl T.cl T.nC lk_chances (ixL hg rfl ⟨_, rfl, .inl (by constructor <;> decide), ixL (v := .int a.r1) (SqL.of hc) rfl ?_⟩))⟩)
      have e : Su113.does a (Md.mk 19 [0]) = (a, Su113.num 0 (Su113.two (Su111.low (Su113.nat (a.r 0)) (a.b 0 + a.r 0)) ++ Su113.two (Su111.low 10 (a.b 0)) ++ Su113.two (Su111.low 10 (a.r 0)))) := by show (if 1 < 0 then (a, Su113.no (-2)) else _) = _; rw [if_neg (by decide)]; rfl
      refine ⟨by show 1 ≤ sizeLine; decide, fun z nz => ?_⟩
      have s2 := sm_new (o := .lst [V.int 0]) nz
      have hz : upd H z (.lst [V.int 0]) z = some (.lst [V.int 0]) := upd_same
      generalize upd H z (.lst [V.int 0]) = H2 at s2 hz ⊢
      refine ⟨_, rfl, _, rfl, _, _, by omega, by omega, ?_, rfl, fun H3 p3 e3 n3 hp3 => ?_⟩
      · rw [show (a.r1 : Int) + (a.b1 : Int) = ((a.r1 + a.b1 : Nat) : Int) by omega]; exact b4 _ (by omega)
      refine catS (e3 _ _ hz) hp3 (by show 3 ≤ 1000; decide) fun r4 H4 nr4 s4 hr4 => ⟨_, _, by decide, by omega, b4 _ (by omega), rfl, fun H5 p5 e5 n5 hp5 => catS (e5 _ _ hr4) hp5 (by show 5 ≤ 1000; decide) fun r6 H6 nr6 s6 hr6 => ⟨_, _, by decide, by omega, b4 _ (by omega), rfl, fun H7 p7 e7 n7 hp7 => catS (e7 _ _ hr6) hp7 (by show 7 ≤ 1000; decide) fun r8 H8 nr8 s8 hr8 => ?_⟩⟩
      rw [frac_alone, frac_ten, frac_ten] at hr8
      have sm7 := ((((s2.trans e3).trans s4).trans e5).trans s6).trans e7
      exact fin k e (.same (sm7.trans s8)) (.go (tabs := tabs) (.same sm7) nr8) (L.same (sm7.trans s8) (Nat.le_refl _)) (by omega) hr8
    · have hb := ok.b2
      have hr0 := ok.r2
      refine fT rfl hl T.cl T.nC lk_chances (ixL hg rfl ⟨_, rfl, .inl (by constructor <;> decide), ixL (v := .int a.b2) (SqL.of hc) rfl (fT rfl hl T.cl T.nC lk_chances (ixL hg rfl ⟨_, rfl, .inl (by constructor <;> decide), ixL (v := .int a.r2) (SqL.of hc) rfl ?_⟩))⟩)
      have e : Su113.does a (Md.mk 19 [1]) = (a, Su113.num 0 (Su113.two (Su111.low (Su113.nat (a.r 1)) (a.b 1 + a.r 1)) ++ Su113.two (Su111.low 10 (a.b 1)) ++ Su113.two (Su111.low 10 (a.r 1)))) := by show (if 1 < 1 then (a, Su113.no (-2)) else _) = _; rw [if_neg (by decide)]; rfl
      refine ⟨by show 1 ≤ sizeLine; decide, fun z nz => ?_⟩
      have s2 := sm_new (o := .lst [V.int 0]) nz
      have hz : upd H z (.lst [V.int 0]) z = some (.lst [V.int 0]) := upd_same
      generalize upd H z (.lst [V.int 0]) = H2 at s2 hz ⊢
      refine ⟨_, rfl, _, rfl, _, _, by omega, by omega, ?_, rfl, fun H3 p3 e3 n3 hp3 => ?_⟩
      · rw [show (a.r2 : Int) + (a.b2 : Int) = ((a.r2 + a.b2 : Nat) : Int) by omega]; exact b4 _ (by omega)
      refine catS (e3 _ _ hz) hp3 (by show 3 ≤ 1000; decide) fun r4 H4 nr4 s4 hr4 => ⟨_, _, by decide, by omega, b4 _ (by omega), rfl, fun H5 p5 e5 n5 hp5 => catS (e5 _ _ hr4) hp5 (by show 5 ≤ 1000; decide) fun r6 H6 nr6 s6 hr6 => ⟨_, _, by decide, by omega, b4 _ (by omega), rfl, fun H7 p7 e7 n7 hp7 => catS (e7 _ _ hr6) hp7 (by show 7 ≤ 1000; decide) fun r8 H8 nr8 s8 hr8 => ?_⟩⟩
      rw [frac_alone, frac_ten, frac_ten] at hr8
      have sm7 := ((((s2.trans e3).trans s4).trans e5).trans s6).trans e7
      exact fin k e (.same (sm7.trans s8)) (.go (tabs := tabs) (.same sm7) nr8) (L.same (sm7.trans s8) (Nat.le_refl _)) (by omega) hr8
theorem scSon : FnScope ["line", "given", "here"] ["line", "given"] (defScope sSon) := ⟨rfl, rfl, rfl, by decide +kernel, rfl, by decide +kernel, by decide +kernel⟩
theorem ok_son {f C fE fS fB : Addr} {fd fdE fdS : FuncData} {tabs : Tabs} (F : Fun K "soon" "soon" sSon f fd) (T : Txt K C) (BR : Bro P w K mg base fB) (gM : ∃ t, mg "MOST_HOURS" = some (.int 5 t)) (gO : ∃ t, mg "OUT_OF_RANGE" = some (.int (-22) t))
    (GE : FnOk P w K mg base CX0 6 fE fdE ["state", "chances", "holds", "hours", "measure"] (spEso P w K mg base)) (kE : PySem.W.keepIn K (.ref fE) = true) (bE : Binds K fdE ["state", "chances", "holds", "hours", "measure"] []) (gE : mg "expected_soon" = some (.ref fE))
    (GS : FnOk P w K mg base CX0 1 fS fdS ["pieces", "first", "second"] spStn) (kS : PySem.W.keepIn K (.ref fS) = true) (bS : Binds K fdS ["pieces", "first", "second"] []) (gS : mg "state_number" = some (.ref fS)) :
    FnOk P w K mg base CX0 7 f fd ["line", "given"] (spU C tabs K 20) := by
  obtain ⟨tO, gO⟩ := gO
  obtain ⟨tM, gM⟩ := gM
  refine F.ok scSon (fun vs H Q E h => ?_) (fun cdv A outer s H vs Q E hr h => ?_)
  · obtain ⟨a, l, g, n, xs, _, _, rfl, _⟩ := h; rfl
  · obtain ⟨a, l, g, n, xs, hn, ho, rfl, L, at_, hg, k⟩ := h
    have nw := L.now
    have ok := nw.ok
    obtain ⟨m, rfl⟩ := len1 ho.1
    have hg : SqL K H g [V.int m] := hg
    obtain ⟨dx, c, d, kvs, hd, hk, hkn, _, hl, hc⟩ := id L
    refine ⟨_, pss_cons (ps_if (pt_cmpR op_gt (pe_ix ix_list (pv 1) pe_int (fun _ _ => rfl)) (pe_glob (v := V.int 5) rfl gM ⟨_, rfl⟩) (nomark _)) (pss_one (ps_ret (pe_lst (pa_cons (pe_glob (v := V.int (-22)) rfl gO ⟨_, rfl⟩) pa_nil)))) pss_nil)
      (pss_cons (ps_set (i := 2) scSon.nd rfl (Or.inl rfl) (pe_call GS (hr.mono (by decide)) rfl gS kS bS .nil pass0 (pa_cons (pe_fld (pv 0) rfl) (pa_cons (pe_fld (pv 0) rfl) (pa_cons (pe_fld (pv 0) rfl) pa_nil)))))
      (pss_one (ps_ret (pe_op op_cat (pe_lst (pa_cons pe_int pa_nil)) (pe_call GE hr rfl gE kE bE .nil pass0 (pa_cons (pv 2) (pa_cons (pe_fld (pv 0) rfl) (pa_cons (pe_fld (pv 0) rfl) (pa_cons (pe_ix ix_list (pv 1) pe_int (fun _ _ => rfl)) (pa_cons (pe_glob (v := V.ref fB) rfl BR.g rfl) pa_nil)))))))))), ?_⟩
    walk_at "rd"
    refine ixL hg rfl ⟨_, rfl, ?_⟩
    by_cases h5 : (5 : Int) < m
    · rw [if_pos h5]; exact refuse k (by show (if 5 < m then _ else _) = _; rw [if_pos (by omega)]) (Go.refl _ _) L
    rw [if_neg h5]
    refine fT rfl hl T.cl T.nP lk_pieces (fT rfl hl T.cl T.nF lk_first (fT rfl hl T.cl T.nS lk_second ⟨_, _, _, rfl, ?_⟩))
    refine ⟨by show 1 ≤ sizeLine; decide, fun z nz => ?_⟩
    have s2 := sm_new (o := .lst [V.int 0]) nz
    have hz : upd H z (.lst [V.int 0]) z = some (.lst [V.int 0]) := upd_same
    generalize upd H z (.lst [V.int 0]) = H2 at s2 hz ⊢
    have hs0 : 4 * a.now.1 + 2 * a.now.2.1 + a.now.2.2 < nst a := by have := nw.pc; have := nw.fx; have := nw.sy; unfold nst; omega
    have e : Su113.does a (Md.mk 20 [m]) = (a, Su113.num 0 (Su113.two (Su111.low (Su113.nat (a.pieces m a.now)) (100 ^ m)))) := by show (if 5 < m then _ else _) = _; rw [if_neg (by omega)]; rfl
    refine fT rfl (s2 _ _ hl) T.cl T.nC lk_chances (fT rfl (s2 _ _ hl) T.cl T.nH lk_holds (ixL (s2.seq hg) rfl ⟨a, 4 * a.now.1 + 2 * a.now.2.1 + a.now.2.2, m, c, fB, fun _ => True, muSecond, ok, hs0, by omega, ?_, SqL.of (s2 _ _ hc), BR.cal, trivial, fun _ _ _ h => h, fun i _ => cM_cS a i, fun H3 p e3 n3 hp3 => ?_⟩))
    · rw [show ((4 * a.now.1 + 2 * a.now.2.1 + a.now.2.2 : Nat) : Int) = 4 * (a.now.1 : Int) + 2 * (a.now.2.1 : Int) + (a.now.2.2 : Int) by omega]
    rw [frac_soon m nw.fx nw.sy] at hp3
    have go3 : Go tabs H H3 := (Go.same s2).trans (.same e3)
    refine catS (e3 _ _ hz) hp3 (by show 3 ≤ 1000; decide) fun r H4 nr s4 hr => ?_
    exact fin k e (go3.trans (.same s4)) (.go go3 nr) (((L.same s2 (Nat.le_refl _)).same e3 (Nat.le_refl _)).same s4 (Nat.le_refl _)) (by omega) hr
theorem scFre2 : FnScope ["line", "given"] ["line", "given"] (defScope sFre2) := ⟨rfl, rfl, rfl, by decide +kernel, rfl, by decide +kernel, by decide +kernel⟩
theorem ok_fre2 {f C fO : Addr} {fd fdO : FuncData} {tabs : Tabs} (F : Fun K "free" "free" sFre2 f fd) (T : Txt K C) (gH : ∃ t, mg "HANG_TOGETHER" = some (.int (-16) t))
    (GO : FnOk P w K mg base CX0 10 fO fdO ["line", "given"] (spU C tabs K 5)) (kO : PySem.W.keepIn K (.ref fO) = true) (bO : Binds K fdO ["line", "given"] []) (gO : mg "out" = some (.ref fO)) :
    FnOk P w K mg base CX0 11 f fd ["line", "given"] (spU C tabs K 21) := by
  obtain ⟨tH, gH⟩ := gH
  refine F.ok scFre2 (fun vs H Q E h => ?_) (fun cdv A outer s H vs Q E hr h => ?_)
  · obtain ⟨a, l, g, n, xs, _, _, rfl, _⟩ := h; rfl
  · obtain ⟨a, l, g, n, xs, hn, ho, rfl, L, at_, hg, k⟩ := h
    have nw := L.now
    have ok := nw.ok
    obtain rfl : xs = [] := List.eq_nil_of_length_eq_zero ho.1
    obtain ⟨dx, c, d, kvs, hd, hk, hkn, _, hl, hc⟩ := id L
    refine ⟨_, pss_cons (ps_if (PW.pt (pw_or (pt_cmpR op_ne (pe_op op_add (pe_ix ix_list (pe_fld (pv 0) rfl) pe_int (fun _ _ => rfl)) (pe_ix ix_list (pe_fld (pv 0) rfl) pe_int (fun _ _ => rfl))) pe_int (nomark _)) (pw_or1 (pt_cmpR op_ne (pe_op op_add (pe_ix ix_list (pe_fld (pv 0) rfl) pe_int (fun _ _ => rfl)) (pe_ix ix_list (pe_fld (pv 0) rfl) pe_int (fun _ _ => rfl))) pe_int (nomark _))))) (pss_one (ps_ret (pe_lst (pa_cons (pe_glob (v := V.int (-16)) rfl gH ⟨_, rfl⟩) pa_nil)))) pss_nil)
      (pss_one (ps_ret (pe_call GO hr rfl gO kO bO .nil pass0 (pa_cons (pv 0) (pa_cons (pv 1) pa_nil))))), ?_⟩
    walk_at "rd"
    have no : (a.b1 + a.r1 ≠ 10 ∨ a.b2 + a.r2 ≠ 10) → Su113.does a (Md.mk 21 []) = (a, Su113.no (-16)) := fun h => by show (if a.b1 + a.r1 ≠ 10 ∨ a.b2 + a.r2 ≠ 10 then _ else _) = _; rw [if_pos h]
    refine fT rfl hl T.cl T.nC lk_chances (ixL (SqL.of hc) rfl (fT rfl hl T.cl T.nC lk_chances (ixL (SqL.of hc) rfl ⟨_, rfl, _, rfl, ?_⟩)))
    by_cases h1 : (a.b1 : Int) + a.r1 = 10
    · rw [if_neg (not_not_intro h1)]
      refine fT rfl hl T.cl T.nC lk_chances (ixL (SqL.of hc) rfl (fT rfl hl T.cl T.nC lk_chances (ixL (SqL.of hc) rfl ⟨_, rfl, _, rfl, ?_⟩)))
      by_cases h2 : (a.b2 : Int) + a.r2 = 10
      · rw [if_neg (not_not_intro h2)]
        have e : Su113.does a (Md.mk 21 []) = Su113.does a (Md.mk 5 []) := by
          show (if a.b1 + a.r1 ≠ 10 ∨ a.b2 + a.r2 ≠ 10 then _ else _) = _
          rw [if_neg (by omega)]
          show (a, Su113.num 0 (Su113.two (Md.fA a.r1 a.r2 a.room).out)) = _
          rw [Md.free_out ok (by omega) (by omega)]; rfl
        rw [e] at k
        exact ⟨a, l, g, n, [], hn, ⟨rfl, fun h => absurd h (by decide)⟩, rfl, L, at_, hg, k⟩
      · rw [if_pos h2]; exact refuse k (no (.inr (by omega))) (Go.refl _ _) L
    · rw [if_pos h1]; exact refuse k (no (.inl (by omega))) (Go.refl _ _) L
end
abbrev sIni : Stmt := inClass (top 33) 0
abbrev sAnw : Stmt := top 69
abbrev sAns : Stmt := top 70
/-! ### the list of calls -/
theorem sql_ko {K : PySem.W.Frag} {H H' : Hp} {g : Addr} {xs : List V} (h : SqL K H g xs) (e : KO H H') : SqL K H' g xs := by
  rcases h with (h | ⟨ob, h⟩) | h
  · exact .inl (.inl (e _ _ h fix_lst))
  · exact .inl (.inr ⟨ob, e _ _ h ⟨(by intro C dx fs z; cases z), (by intro k z; cases z), (by intro k z; cases z)⟩⟩)
  · exact .inr h
theorem step_none (q : Nat) (h0 : 0 < q) (hq : q < 24) (xs : List Nat) : Su113.step none (Md.mk q xs) = (none, Su113.no (-11)) := by
  match q, h0, hq with
  | 1, _, _ => rfl
  | 2, _, _ => rfl
  | 3, _, _ => rfl
  | 4, _, _ => rfl
  | 5, _, _ => rfl
  | 6, _, _ => rfl
  | 7, _, _ => rfl
  | 8, _, _ => rfl
  | 9, _, _ => rfl
  | 10, _, _ => rfl
  | 11, _, _ => rfl
  | 12, _, _ => rfl
  | 13, _, _ => rfl
  | 14, _, _ => rfl
  | 15, _, _ => rfl
  | 16, _, _ => rfl
  | 17, _, _ => rfl
  | 18, _, _ => rfl
  | 19, _, _ => rfl
  | 20, _, _ => rfl
  | 21, _, _ => rfl
  | 22, _, _ => rfl
  | 23, _, _ => rfl
  | q + 24, _, h => omega
def omL : List Nat := [1, 6, 7, 8, 9, 17, 18, 19]
theorem step_machine (a : Su113.Abs) (q : Nat) (xs : List Nat) (h : q ∈ omL) (hx : 1 < xs.getD 0 0) : Su113.step (some a) (Md.mk q xs) = (some a, Su113.no (-2)) := by
  unfold omL at h
  simp only [List.mem_cons, List.mem_nil_iff, or_false] at h
  rcases h with rfl | rfl | rfl | rfl | rfl | rfl | rfl | rfl <;> simp only [Md.mk, Su113.step, Su113.does, if_pos hx]
theorem in_om (q : Nat) (h : q < 24) : inV (.int (q : Int)) (omL.map fun (z : Nat) => V.int (z : Int)) = decide (q ∈ omL) := by
  have : ∀ q : Fin 24, inV (.int ((q : Nat) : Int)) (omL.map fun (z : Nat) => V.int (z : Int)) = decide ((q : Nat) ∈ omL) := by decide +kernel
  exact this ⟨q, h⟩
theorem step_some (a : Su113.Abs) (c : Su113.Call) : Su113.step (some a) c = (some (Su113.does a c).1, (Su113.does a c).2) := by cases c <;> rfl
theorem ans_len (s : Option Su113.Abs) (c : Su113.Call) : (ansL (Su113.step s c).2).length ≤ 7 := by
  cases s with
  | none =>
    cases c with
    | begin_ b1 r1 b2 r2 n => rw [begin_step]; split <;> exact (by decide : 1 ≤ 7)
    | _ => exact (by decide : (ansL (Su113.no (-11))).length ≤ 7)
  | some a =>
    rw [step_some]
    cases c <;> simp only [Su113.does] <;> (repeat' split) <;> simp [ansL, Su113.no, Su113.num, Su113.two]
theorem cut_mid {ns : List Int} {i z : Nat} (h : i + 1 + z ≤ ns.length) : cutV (ns.map V.int) (some ((i : Int) + 1)) (some ((i : Int) + 1 + (z : Int))) = (((ns.drop (i + 1)).take z).map V.int) := by
  unfold cutV
  rw [show ((i : Int) + 1) = ((i + 1 : Nat) : Int) by omega, show (((i + 1 : Nat) : Int) + (z : Int)) = ((i + 1 + z : Nat) : Int) by omega, HT.sIx_nat, HT.sIx_nat, List.length_map, Nat.min_eq_left h, Nat.min_eq_left (show i + 1 ≤ ns.length by omega), List.map_take, List.map_drop]
  congr 1
  omega
theorem nat_list {xs : List Int} (h : ∀ z ∈ xs, 0 ≤ z) : xs.map V.int = (xs.map Int.toNat).map fun (z : Nat) => V.int (z : Int) := by
  rw [List.map_map]
  apply List.map_congr_left; intro z hz
  show V.int z = V.int (z.toNat : Int)
  rw [Int.toNat_of_nonneg (h z hz)]
def spIni (C : Addr) : Sp := fun vs H Q _ => ∃ (p dx : Addr), vs = [.ref p] ∧ H p = some (.ins C dx []) ∧ ∀ H' : Hp, (∀ b o, H b = some o → b ≠ p → H' b = some o) → LineAt C H' p none 0 → Q .non H'
def spAnw (C : Addr) (tabs : Tabs) (K : PySem.W.Frag) : Sp := fun vs H Q _ => ∃ (s : Option Su113.Abs) (l g : Addr) (n q : Nat) (xs : List Nat), n < 99000 ∧ q < 24 ∧ xs.length = Md.sizes.getD q 0 ∧ vs = [.ref l, .int q, .ref g] ∧ LineAt C H l s n ∧ AllT tabs H ∧ SqL K H g (xs.map fun (z : Nat) => V.int (z : Int)) ∧
  ∀ H' p, Go tabs H H' → NewP H p → LineAt C H' l (Su113.step s (Md.mk q xs)).1 (n + 2) → H' p = some (.lst ((ansL (Su113.step s (Md.mk q xs)).2).map V.int)) → Q (.ref p) H'
structure Dsp (P : Program) (w : World) (K : PySem.W.Frag) (mg : Str → Option Value) (base : Heap) (C : Addr) (tabs : Tabs) (fs : List Addr) : Prop where
  beg : ∃ f fd, fs[0]? = some f ∧ FnOk P w K mg base CX0 12 f fd ["line", "given"] (spBeg C K) ∧ PySem.W.keepIn K (.ref f) = true ∧ Binds K fd ["line", "given"] []
  all : ∀ q, 0 < q → q < 24 → ∃ f fd, fs[q]? = some f ∧ FnOk P w K mg base CX0 12 f fd ["line", "given"] (spU C tabs K q) ∧ PySem.W.keepIn K (.ref f) = true ∧ Binds K fd ["line", "given"] []
def spAns (tabs : Tabs) (K : PySem.W.Frag) : Sp := fun vs H Q _ => ∃ (c : Addr) (ns : List Int), vs = [.ref c] ∧ SqL K H c (ns.map V.int) ∧ (∀ z ∈ ns, 0 ≤ z) ∧ PySu113.answers_asked ns = true ∧ AllT tabs H ∧
  ∀ H' p, H' p = some (.lst ((PySu113.answers ns).map V.int)) → Q (.ref p) H'
def AInv (C : Addr) (tabs : Tabs) (K : PySem.W.Frag) (ns : List Int) (c l t : Addr) (m : Nat) (σ : L2.St) (H1 : Hp) : Prop := ∃ (s : Option Su113.Abs) (j i f : Nat) (cs : List (List (List Int))) (T : List Int) (v4 v5 v6 : Option V), m = cs.length ∧ i ≤ ns.length ∧ PyFlat.calls PySu113.shape f (ns.drop i) = some cs ∧ j + cs.length ≤ 400 ∧ T.length ≤ 8 * j ∧ T ++ Md.rest s cs = PySu113.answers ns ∧
  σ = [some (.ref c), some (.ref l), some (.ref t), some (.int (i : Nat)), v4, v5, v6] ∧ LineAt C (hid H1 t) l s (2 * j) ∧ AllT tabs (hid H1 t) ∧ SqL K (hid H1 t) c (ns.map V.int) ∧ H1 t = some (.lst (T.map V.int))
theorem sql_hid {K : PySem.W.Frag} {H : Hp} {a g : Addr} {xs : List V} (h : SqL K (hid H a) g xs) : SqL K H g xs := by
  rcases h with (h | ⟨ob, h⟩) | h
  · exact .inl (.inl (hid_of h).2)
  · exact .inl (.inr ⟨ob, (hid_of h).2⟩)
  · exact .inr h
theorem line_ins {C : Addr} {H : Hp} {l : Addr} {s : Option Su113.Abs} {n : Nat} (L : LineAt C H l s n) : ∃ (dx c d : Addr) (h p x y : Int), H l = some (.ins C dx (lineF s.isSome c h p x y d)) := by
  obtain ⟨dx, c, d, kvs, h1, h2, h3, h4⟩ := L
  cases s with
  | none => exact ⟨dx, c, d, _, _, _, _, h4⟩
  | some a => exact ⟨dx, c, d, _, _, _, _, h4.2.1⟩
section
variable {P : Program} {w : World} {K : PySem.W.Frag} {mg : Str → Option Value} {base : Heap}
theorem scIni : FnScope ["self"] ["self"] (defScope sIni) := ⟨rfl, rfl, rfl, by decide +kernel, rfl, by decide +kernel, by decide +kernel⟩
theorem ok_ini {f C : Addr} {fd : FuncData} (F : Fun K "__init__" "Line.__init__" sIni f fd) (T : Txt K C) : FnOk P w K mg base CX0 1 f fd ["self"] (spIni C) := by
  refine F.ok scIni (fun vs H Q E h => ?_) (fun cdv A outer s H vs Q E hr h => ?_)
  · obtain ⟨p, dx, rfl, _⟩ := h; rfl
  · obtain ⟨p, dx, rfl, hp, k⟩ := h
    refine ⟨_, pss_cons (ps_fld (pv 0) pe_bl rfl) (pss_cons (ps_fld (pv 0) (pe_lst pa_nil) rfl) (pss_cons (ps_fld (pv 0) pe_int rfl) (pss_cons (ps_fld (pv 0) pe_int rfl) (pss_cons (ps_fld (pv 0) pe_int rfl) (pss_cons (ps_fld (pv 0) pe_int rfl) (pss_one (ps_fld (pv 0) pe_dnewT rfl))))))), ?_⟩
    walk_at "rd"
    refine ⟨p, rfl, C, dx, _, hp, T.cl, T.nB, by show 0 < 1000; decide, Nat.zero_le _, fun c hc => ?_⟩
    have hpc : p ≠ c := fun z => by rw [← z, upd_same] at hc; cases hc
    have hc0 : H c = none := by rw [upd_ne hpc.symm] at hc; exact hc
    refine ⟨p, rfl, C, dx, _, (by rw [upd_ne hpc, upd_same]), T.cl, T.nC, by show 1 < 1000; decide, p, rfl, C, dx, _, upd_same, T.cl, T.nH, by show 2 < 1000; decide, p, rfl, C, dx, _, upd_same, T.cl, T.nP, by show 3 < 1000; decide, p, rfl, C, dx, _, upd_same, T.cl, T.nF, by show 4 < 1000; decide, p, rfl, C, dx, _, upd_same, T.cl, T.nS, by show 5 < 1000; decide, fun d hd => ?_⟩
    rw [upd_upd, upd_upd, upd_upd, upd_upd] at hd ⊢
    have hpd : p ≠ d := fun z => by rw [← z, upd_same] at hd; cases hd
    have hd1 := hd
    rw [upd_ne hpd.symm] at hd1
    refine ⟨p, rfl, C, dx, _, (by rw [upd_ne hpd, upd_same]), T.cl, T.nK, by show 6 < 1000; decide, ?_⟩
    have hcd : c ≠ d := fun z => by rw [← z, upd_same] at hd1; cases hd1
    rw [upd_ne hcd.symm, upd_ne hpd.symm] at hd1
    refine k _ (fun b o e hb => ?_) ⟨dx, c, d, [], ?_, fun q hq => absurd hq (by simp), Nat.le_refl _, ?_⟩
    · rw [upd_ne hb, upd_ne (ne_of_none e hd1), upd_ne hb, upd_ne (ne_of_none e hc0), upd_ne hb]; exact e
    · rw [upd_ne hpd.symm, upd_same]
    · rw [upd_same]; rfl
theorem scAnw : FnScope ["line", "number", "given"] ["line", "number", "given"] (defScope sAnw) := ⟨rfl, rfl, rfl, by decide +kernel, rfl, by decide +kernel, by decide +kernel⟩
theorem ok_anw {f C CL OM : Addr} {fd : FuncData} {tabs : Tabs} {fs : List Addr} (F : Fun K "answer" "answer" sAnw f fd) (T : Txt K C) (D : Dsp P w K mg base C tabs fs) (gC : mg "CALLS" = some (.ref CL)) (hC : ∀ H, SqT K H CL (fs.map V.ref)) (gM : mg "OF_MACHINE" = some (.ref OM)) (hM : ∀ H, SqT K H OM (omL.map fun (z : Nat) => V.int (z : Int)))
    (gB : ∃ t, mg "BEGIN" = some (.int 0 t)) (gN : ∃ t, mg "NOT_BEGUN" = some (.int (-11) t)) (gS : ∃ t, mg "NO_SUCH" = some (.int (-2) t)) :
    FnOk P w K mg base CX0 13 f fd ["line", "number", "given"] (spAnw C tabs K) := by
  obtain ⟨tB, gB⟩ := gB
  obtain ⟨tN, gN⟩ := gN
  obtain ⟨tS, gS⟩ := gS
  refine F.ok scAnw (fun vs H Q E h => ?_) (fun cdv A outer s H vs Q E hr h => ?_)
  · obtain ⟨s, l, g, n, q, xs, _, _, _, rfl, _⟩ := h; rfl
  · obtain ⟨s, l, g, n, q, xs, hn, hq, hx, rfl, L, at_, hg, k⟩ := h
    refine ⟨_, pss_cons (ps_if (PW.pt (pw_and (pt_cmpR op_ne (pv 1) (pe_glob (v := V.int 0) rfl gB ⟨_, rfl⟩) (nomark _)) (pw_and1 (pt_not (pt_val (pe_fld (pv 0) rfl)))))) (pss_one (ps_ret (pe_lst (pa_cons (pe_glob (v := V.int (-11)) rfl gN ⟨_, rfl⟩) pa_nil)))) pss_nil)
      (pss_cons (ps_if (PW.pt (pw_and (pt_cmpR op_in_seq (pv 1) (pe_glob (v := V.ref OM) rfl gM rfl) rfl) (pw_and1 (pt_cmpR op_gt (pe_ix ix_list (pv 2) pe_int (fun _ _ => rfl)) pe_int (nomark _))))) (pss_one (ps_ret (pe_lst (pa_cons (pe_glob (v := V.int (-2)) rfl gS ⟨_, rfl⟩) pa_nil)))) pss_nil)
      (pss_one (ps_ret (pe_callS (k := 12) (pe_ix ix_tup (pe_glob (v := V.ref CL) rfl gC rfl) (pv 1) (fun _ _ => rfl)) hr (pa_cons (pv 0) (pa_cons (pv 2) pa_nil)))))), ?_⟩
    walk_at "rd"
    obtain ⟨dx, c0, d0, h00, p00, x00, y00, hl⟩ := line_ins L
    have hgl : ∀ H1, Same H H1 → SqL K H1 g (xs.map fun (z : Nat) => V.int (z : Int)) := fun H1 e => e.seq hg
    by_cases h0 : q = 0
    · subst h0
      rw [if_neg (by simp)]
      refine ⟨OM, _, rfl, .inr (hM _), rfl, rfl, _, rfl, ?_⟩
      rw [if_neg (by rw [if_neg (by decide), in_om 0 hq]; decide)]
      obtain ⟨f0, fd0, hf0, G0, kp0, b0⟩ := D.beg
      obtain ⟨b1, r1, b2, r2, m, rfl⟩ : ∃ b1 r1 b2 r2 m, xs = [b1, r1, b2, r2, m] := by
        match xs, hx with
        | [b1, r1, b2, r2, m], _ => exact ⟨b1, r1, b2, r2, m, rfl⟩
      refine ⟨_, rfl, ixT (hC _) (atI_nat (j := 0) (by rw [List.getElem?_map, hf0]; rfl)) ⟨f0, fd0, _, _, rfl, G0, kp0, b0, ⟨_, rfl, _, rfl, ?_⟩⟩⟩
      exact ⟨s, l, g, n, b1, r1, b2, r2, m, rfl, L, hg, fun H' p e1 hp0 L1 hp => k H' p (.kl hl e1) (.of hp0) (L1.same (Same.refl _) (by omega)) hp⟩
    · rw [if_pos (by omega)]
      refine fT rfl hl T.cl T.nB lk_begun ⟨_, rfl, ?_⟩
      cases s with
      | none =>
        rw [if_pos (show (none : Option Su113.Abs).isSome = false from rfl)]
        refine ⟨by show 1 ≤ sizeLine; decide, fun p hp => k _ p (.same (sm_new hp)) (.of hp) ?_ ?_⟩
        · rw [step_none q (by omega) hq]; exact L.same (sm_new hp) (by omega)
        · rw [step_none q (by omega) hq, upd_same]; rfl
      | some a =>
        rw [if_neg (show ¬ (some a).isSome = false by simp)]
        have disp : okq q xs → tCallS (cxOf CX0 P w K mg base ["line", "number", "given"] "answer" (defScope sAnw) f cdv A outer s H E).nox 12 (tOp (rIxT K) (tC (V.ref CL)) (tVar 1)) (tCons (tVar 0) (tCons (tVar 2) tNil)) [some (V.ref l), some (V.int (q : Int)), some (V.ref g)] H Q := fun hok => by
          obtain ⟨f0, fd0, hf0, G0, kp0, b0⟩ := D.all q (by omega) hq
          refine ⟨_, rfl, ixT (hC _) (atI_nat (j := q) (by rw [List.getElem?_map, hf0]; rfl)) ⟨f0, fd0, _, _, rfl, G0, kp0, b0, ⟨_, rfl, _, rfl, ?_⟩⟩⟩
          rw [step_some] at k
          exact ⟨a, l, g, n, xs, hn, hok, rfl, L, at_, hg, k⟩
        refine ⟨OM, _, rfl, .inr (hM _), rfl, rfl, _, rfl, ?_⟩
        rw [show (if false = true then !inV (V.int (q : Int)) (omL.map fun (z : Nat) => V.int (z : Int)) else inV (V.int (q : Int)) (omL.map fun (z : Nat) => V.int (z : Int))) = decide (q ∈ omL) from in_om q hq]
        by_cases hin : q ∈ omL
        · rw [if_pos (decide_eq_true hin)]
          obtain ⟨x0, t0, rfl⟩ : ∃ x0 t0, xs = x0 :: t0 := by
            match xs, hx with
            | x0 :: t0, _ => exact ⟨x0, t0, rfl⟩
            | [], hx =>
              exfalso
              have : ∀ q ∈ omL, Md.sizes.getD q 0 ≠ 0 := by decide
              exact this q hin hx.symm
          refine ixL (v := .int (x0 : Int)) hg (atI_nat (j := 0) rfl) ⟨_, rfl, ?_⟩
          by_cases h1 : (1 : Int) < x0
          · rw [if_pos h1]
            have e := step_machine a q (x0 :: t0) hin (show 1 < x0 by omega)
            refine ⟨by show 1 ≤ sizeLine; decide, fun p hp => k _ p (.same (sm_new hp)) (.of hp) ?_ ?_⟩
            · rw [e]; exact L.same (sm_new hp) (by omega)
            · rw [e, upd_same]; rfl
          · rw [if_neg h1]
            exact disp ⟨hx, fun _ => show x0 < 2 by omega⟩
        · rw [if_neg (by simpa using hin)]
          exact disp ⟨hx, fun h => absurd h hin⟩
theorem scAns : FnScope ["calls", "line", "told", "at", "number", "behind", "answered"] ["calls"] (defScope sAns) := ⟨rfl, rfl, rfl, by decide +kernel, rfl, by decide +kernel, by decide +kernel⟩
theorem ok_ans {f C fI fA SZ : Addr} {fd fdI fdA : FuncData} {tabs : Tabs} (F : Fun K "answers" "answers" sAns f fd) (M : Mk K C fI) (gL : mg "Line" = some (.ref C)) (nL : mg "len" = none)
    (GI : FnOk P w K mg base CX0 1 fI fdI ["self"] (spIni C)) (bI : Binds K fdI ["self"] [])
    (gZ : mg "SIZES" = some (.ref SZ)) (hZ : ∀ H, SqT K H SZ (Md.sizes.map fun (z : Nat) => V.int (z : Int)))
    (GA : FnOk P w K mg base CX0 13 fA fdA ["line", "number", "given"] (spAnw C tabs K)) (kA : PySem.W.keepIn K (.ref fA) = true) (bA : Binds K fdA ["line", "number", "given"] []) (gA : mg "answer" = some (.ref fA)) :
    FnOk P w K mg base CX0 14 f fd ["calls"] (spAns tabs K) := by
  refine F.ok scAns (fun vs H Q E h => ?_) (fun cdv A outer s H vs Q E hr h => ?_)
  · obtain ⟨c, ns, rfl, _⟩ := h; rfl
  · obtain ⟨c, ns, rfl, hc, hpos, hask, at_, k⟩ := h
    refine ⟨_, pss_cons (ps_set (i := 1) scAns.nd rfl (Or.inl rfl) (pe_make0 M GI (hr.mono (by decide)) rfl gL bI .nil pass0))
      (pss_cons (ps_set (i := 2) scAns.nd rfl (Or.inl rfl) (pe_lst pa_nil))
      (pss_cons (ps_set (i := 3) scAns.nd rfl (Or.inl rfl) pe_int)
      (pss_cons (ps_while PassesOwn.never (pt_cmpR op_lt (pv 3) (pe_callB call_len_seq (by rfl) nL PySem.boot_len (pa_cons (pv 0) pa_nil)) (nomark _))
        (pss_cons (ps_set (i := 4) scAns.nd rfl (Or.inl rfl) (pe_ix ix_list (pv 0) (pv 3) (fun _ _ => rfl)))
        (pss_cons (ps_set (i := 5) scAns.nd rfl (Or.inl rfl) (pe_op op_add (pe_op op_add (pv 3) pe_int) (pe_ix ix_tup (pe_glob (v := V.ref SZ) rfl gZ rfl) (pv 4) (fun _ _ => rfl))))
        (pss_cons (ps_set (i := 6) scAns.nd rfl (Or.inl rfl) (pe_callH GA hr rfl gA kA bA (pa_cons (pv 1) (pa_cons (pv 4) (pa_cons (pe_slice sl_list (pv 0) (po_some (pe_op op_add (pv 3) pe_int)) (po_some (pv 5))) pa_nil)))))
        (pss_cons (ps_expr (pe_bm PySem.F.plainAttrs_list PySem.F.slot_list_append PySem.F.type_list_append mt_append (pv 2) (pa_cons (pe_callB call_len_seq (by rfl) nL PySem.boot_len (pa_cons (pv 6) pa_nil)) pa_nil)))
        (pss_cons (ps_expr (pe_bm PySem.F.plainAttrs_list PySem.F.slot_list_extend PySem.F.type_list_extend mt_extend (pv 2) (pa_cons (pv 6) pa_nil)))
        (pss_one (ps_set (i := 3) scAns.nd rfl (Or.inl rfl) (pv 5)))))))))
      (pss_one (ps_ret (pv 2)))))), ?_⟩
    walk_at "rd"
    refine fun x dx nx ndx ne => ⟨x, dx, rfl, upd_same, fun H1 kp L0 => ⟨rfl, Nat.zero_le _, fun tl ht => ?_⟩⟩
    have s1 : Same H H1 := Same.made nx ndx kp
    obtain ⟨cs0, hcs0, hc400⟩ := Md.asked_calls hask
    have hh : hid (upd H1 tl (.lst [])) tl = H1 := hid_upd ht
    have htl : upd H1 tl (.lst []) tl = some (.lst []) := upd_same
    generalize upd H1 tl (.lst []) = H2 at hh htl ⊢
    refine ⟨AInv C tabs K ns c x tl, ⟨_, none, 0, 0, ns.length, cs0, [], _, _, _, rfl, Nat.zero_le _, hcs0, by omega, by simp, by rw [Md.answers_rest hcs0]; rfl, rfl, by rw [hh]; exact L0, by rw [hh]; exact (Go.same s1).2 at_, by rw [hh]; exact s1.seq hc, htl⟩, ?_⟩
    rintro m σ H3 ⟨s0, j, i, f0, cs, T0, v4, v5, v6, rfl, hi, hcs, hj, hT0, hrest, rfl, L3, at3, hc3, ht3⟩
    walk_at "rd"
    have hc4 := sql_hid hc3
    refine ⟨c, rfl, _, .inl hc4, ?_⟩
    rw [List.length_map]
    by_cases hlt : i < ns.length
    · rw [if_pos (by omega)]
      have hdrop := List.drop_eq_getElem_cons hlt
      rw [hdrop] at hcs
      obtain ⟨q, f1, cs', hq, hq24, hsz, rfl, hcs'⟩ := Md.calls_step hcs
      have hlr : (ns.drop (i + 1)).length = ns.length - (i + 1) := List.length_drop
      have hx : ((ns.drop (i + 1)).take (Md.sizes.getD q 0)).length = Md.sizes.getD q 0 := by rw [List.length_take]; omega
      have hsq : Md.sizes[q]? = some (Md.sizes.getD q 0) := by
        have : ∀ q : Fin 24, Md.sizes[(q : Nat)]? = some (Md.sizes.getD q 0) := by decide
        exact this ⟨q, hq24⟩
      refine ⟨fun σ' H' => AInv C tabs K ns c x tl cs'.length σ' H', fun σ' H' h => ⟨_, by simp, h⟩, ?_⟩
      refine ixL (v := .int (q : Int)) hc4 (atI_nat (j := i) (by rw [List.getElem?_map, List.getElem?_eq_getElem hlt, hq]; rfl)) (ixT (v := .int ((Md.sizes.getD q 0 : Nat) : Int)) (hZ _) (atI_nat (j := q) (by rw [List.getElem?_map, hsq]; rfl)) ⟨_, rfl, ?_⟩)
      simp only [tCallH]
      walk_at "rd"
      refine slS (K := K) hc4 fun g H4 ng t4 hg4 => ?_
      rw [cut_mid (by omega), nat_list (fun z hz => hpos z (List.mem_of_mem_drop (List.mem_of_mem_take hz)))] at hg4
      have hgt : g ≠ tl := fun z => by rw [z, ht3] at ng; cases ng
      have sh : Same (hid H3 tl) (hid H4 tl) := Same.hid t4
      refine ⟨tl, _, t4 _ _ ht3, ?_⟩
      refine ⟨s0, x, g, 2 * j, q, ((ns.drop (i + 1)).take (Md.sizes.getD q 0)).map Int.toNat, by omega, hq24, by rw [List.length_map]; exact hx, rfl, L3.same sh (Nat.le_refl _), (Go.same sh).2 at3, SqL.of (by rw [hid_ne hgt]; exact hg4), fun H5 p go np L5 hp hn5 => ?_⟩
      have hpt : p ≠ tl := fun z => by rw [z, hn5] at hp; cases hp
      have hal := ans_len s0 (Md.mk q (((ns.drop (i + 1)).take (Md.sizes.getD q 0)).map Int.toNat))
      have hrc := Md.rest_cons s0 q hq24 ((ns.drop (i + 1)).take (Md.sizes.getD q 0)) hx cs'
      rw [hq, hrc] at hrest
      have hc5 : SqL K H5 c (ns.map V.int) := sql_ko (sh.seq hc3) go.1
      have at5 := go.2 ((Go.same sh).2 at3)
      generalize hst : Su113.step s0 (Md.mk q (((ns.drop (i + 1)).take (Md.sizes.getD q 0)).map Int.toNat)) = r1 at L5 hp hal hrest
      refine ⟨.inl ⟨rfl, _, SqL.of upd_same⟩, p, rfl, _, .inl (SqL.of (by rw [upd_ne hpt]; exact hp)), tl, rfl, _, upd_same, ?_, .inl ⟨rfl, _, SqL.of upd_same⟩, tl, p, _, _, rfl, rfl, upd_same, (by rw [upd_ne hpt, upd_ne hpt]; exact hp), ?_, ?_⟩
      · rw [List.length_map]
        exact Nat.lt_of_le_of_lt (Nat.le_trans hT0 (show 8 * j ≤ 3200 by simp at hj; omega)) (by decide)
      · rw [List.length_append, List.length_map, List.length_map]
        refine Nat.le_trans (show _ ≤ 4000 from ?_) (by decide)
        simp at hj
        show T0.length + 1 + _ ≤ 4000
        omega
      · rw [upd_upd, upd_upd]
        rw [List.drop_drop] at hcs'
        refine ⟨r1.1, j + 1, i + 1 + Md.sizes.getD q 0, f1, cs', T0 ++ (((ansL r1.2).length : Nat) : Int) :: ansL r1.2, some (V.int (q : Int)), some (V.int ((i : Int) + 1 + ((Md.sizes.getD q 0 : Nat) : Int))), some (V.ref p), rfl, by omega, hcs', by simp at hj; omega, ?_, ?_, ?_, ?_, ?_, ?_, ?_⟩
        · rw [List.length_append, List.length_cons]; omega
        · rw [← hrest, List.append_assoc]; rfl
        · rw [show ((i + 1 + Md.sizes.getD q 0 : Nat) : Int) = (i : Int) + 1 + ((Md.sizes.getD q 0 : Nat) : Int) by omega]
        · rw [hid_upd hn5]; exact L5.same (Same.refl _) (by omega)
        · rw [hid_upd hn5]; exact at5
        · rw [hid_upd hn5]; exact hc5
        · rw [upd_same, List.map_append, List.append_assoc, List.length_map]; rfl
    · rw [if_neg (by omega)]
      have : i = ns.length := by omega
      subst this
      rw [List.drop_length] at hcs
      have : cs = [] := by
        cases f0 <;> simpa [PyFlat.calls] using hcs.symm
      subst this
      rw [Md.rest_nil, List.append_nil] at hrest
      subst hrest
      exact k H3 tl ht3
end
end Me
end
section
set_option Elab.async false
set_option linter.all false
set_option maxRecDepth 100000
namespace Me
open PySem PySem.Spec PyProof.Rows L2
open Md (st nx wg hit Pm nst lev fac1 wI isum)
open PySem.W (CodeHd envX)
/-! ### what the top has written -/
theorem rel_abs {u : Value} {x : V} (h : absV u = some x) : RelV x u := by
  cases u <;> simp only [absV, Option.some.injEq, reduceCtorEq] at h <;> subst h <;> first | rfl | exact ⟨_, rfl⟩
theorem vals_abs : ∀ {us : List Value} {xs : List V}, us.map absV = xs.map some → Vals xs us
  | [], [], _ => .nil
  | u :: us, x :: xs, h => by
    simp only [List.map_cons, List.cons.injEq] at h
    exact .cons (rel_abs h.1) (vals_abs h.2)
  | [], _ :: _, h => by simp at h
  | _ :: _, [], h => by simp at h
theorem sqt_mk {K : PySem.W.Frag} {a : Addr} {od : Option Addr} {its : Array Value} {n : Nat} {sl : Array (Option Value)} {xs : List V} (l : K.lookup a = some ⟨.type "tuple", od, .seq its n, sl⟩) (hz : its.size ≤ sizeLine) (hv : its.toList.map absV = xs.map some) : ∀ H, SqT K H a xs :=
  fun H => .inr ⟨_, its, n, l, rfl, rfl, hz, vals_abs hv⟩
structure Df (K : PySem.W.Frag) (mg : Str → Option Value) (x : Str) (st : Stmt) (ps : List Str) (f : Addr) (fd : FuncData) : Prop where
  F : Fun K x x st f fd
  b : Binds K fd ps []
  g : mg x = some (.ref f)
theorem df_mk {K : PySem.W.Frag} {h : Heap} {mg : Str → Option Value} {x : Str} {st : Stmt} {ps : List Str} {f : Addr} {oc : Value} {od an : Option Addr} {osl : Array (Option Value)} {kV doc pm cdv ct : Value} (X : K.In h) (G : h.Ns mainGlobals mg)
    (hb : ∀ (kV doc pm : Value) (an : Option Addr) (cdv ct : Value) (us : List Value), us.length = ps.length → bindArgs (PySem.W.fnOf x x (defArgs st) (defBody st) (defScope st) .none kV doc pm an cdv ct) ⟨us, []⟩ = pure (ps.zip us))
    (a : PySem.W.nsIn K mainGlobals x = some (some (.ref f))) (l : K.lookup f = some ⟨oc, od, .func (PySem.W.fnOf x x (defArgs st) (defBody st) (defScope st) .none kV doc pm an cdv ct), osl⟩)
    (c : PySem.W.codeIn K cdv x = true) (k : PySem.W.keepIn K (.ref f) = true) : Df K mg x st ps f (PySem.W.fnOf x x (defArgs st) (defBody st) (defScope st) .none kV doc pm an cdv ct) :=
  ⟨fun_mk l c k, (fun_mk l c k).binds hb, PySem.W.mg_of X G a⟩
theorem bn_sec (kV doc pm : Value) (an : Option Addr) (cdv ct : Value) (us : List Value) (hl : us.length = (["pieces", "second"] : List Str).length) : bindArgs (PySem.W.fnOf "second_works" "second_works" (defArgs sSec) (defBody sSec) (defScope sSec) .none kV doc pm an cdv ct) ⟨us, []⟩ = pure ((["pieces", "second"] : List Str).zip us) := match us, hl with | [_, _], _ => rfl
theorem bn_fir (kV doc pm : Value) (an : Option Addr) (cdv ct : Value) (us : List Value) (hl : us.length = (["pieces", "first", "second", "holds"] : List Str).length) : bindArgs (PySem.W.fnOf "first_works" "first_works" (defArgs sFir) (defBody sFir) (defScope sFir) .none kV doc pm an cdv ct) ⟨us, []⟩ = pure ((["pieces", "first", "second", "holds"] : List Str).zip us) := match us, hl with | [_, _, _, _], _ => rfl
theorem bn_pie (kV doc pm : Value) (an : Option Addr) (cdv ct : Value) (us : List Value) (hl : us.length = (["pieces", "first", "second", "holds"] : List Str).length) : bindArgs (PySem.W.fnOf "pieces_behind" "pieces_behind" (defArgs sPie) (defBody sPie) (defScope sPie) .none kV doc pm an cdv ct) ⟨us, []⟩ = pure ((["pieces", "first", "second", "holds"] : List Str).zip us) := match us, hl with | [_, _, _, _], _ => rfl
theorem bn_ten (kV doc pm : Value) (an : Option Addr) (cdv ct : Value) (us : List Value) (hl : us.length = (["was", "now", "breaks", "mended"] : List Str).length) : bindArgs (PySem.W.fnOf "tenths" "tenths" (defArgs sTen) (defBody sTen) (defScope sTen) .none kV doc pm an cdv ct) ⟨us, []⟩ = pure ((["was", "now", "breaks", "mended"] : List Str).zip us) := match us, hl with | [_, _, _, _], _ => rfl
theorem bn_hun (kV doc pm : Value) (an : Option Addr) (cdv ct : Value) (us : List Value) (hl : us.length = (["state", "ups", "chances"] : List Str).length) : bindArgs (PySem.W.fnOf "hundredths" "hundredths" (defArgs sHun) (defBody sHun) (defScope sHun) .none kV doc pm an cdv ct) ⟨us, []⟩ = pure ((["state", "ups", "chances"] : List Str).zip us) := match us, hl with | [_, _, _], _ => rfl
theorem bn_stn (kV doc pm : Value) (an : Option Addr) (cdv ct : Value) (us : List Value) (hl : us.length = (["pieces", "first", "second"] : List Str).length) : bindArgs (PySem.W.fnOf "state_number" "state_number" (defArgs sStn) (defBody sStn) (defScope sStn) .none kV doc pm an cdv ct) ⟨us, []⟩ = pure ((["pieces", "first", "second"] : List Str).zip us) := match us, hl with | [_, _, _], _ => rfl
theorem bn_stb (kV doc pm : Value) (an : Option Addr) (cdv ct : Value) (us : List Value) (hl : us.length = (["state", "ups", "holds"] : List Str).length) : bindArgs (PySem.W.fnOf "state_behind" "state_behind" (defArgs sStb) (defBody sStb) (defScope sStb) .none kV doc pm an cdv ct) ⟨us, []⟩ = pure ((["state", "ups", "holds"] : List Str).zip us) := match us, hl with | [_, _, _], _ => rfl
theorem bn_flo (kV doc pm : Value) (an : Option Addr) (cdv ct : Value) (us : List Value) (hl : us.length = (["chances", "holds"] : List Str).length) : bindArgs (PySem.W.fnOf "flows" "flows" (defArgs sFlo) (defBody sFlo) (defScope sFlo) .none kV doc pm an cdv ct) ⟨us, []⟩ = pure ((["chances", "holds"] : List Str).zip us) := match us, hl with | [_, _], _ => rfl
theorem bn_lea (kV doc pm : Value) (an : Option Addr) (cdv ct : Value) (us : List Value) (hl : us.length = (["rows"] : List Str).length) : bindArgs (PySem.W.fnOf "leaving" "leaving" (defArgs sLea) (defBody sLea) (defScope sLea) .none kV doc pm an cdv ct) ⟨us, []⟩ = pure ((["rows"] : List Str).zip us) := match us, hl with | [_], _ => rfl
theorem bn_fol (kV doc pm : Value) (an : Option Addr) (cdv ct : Value) (us : List Value) (hl : us.length = (["rows", "before"] : List Str).length) : bindArgs (PySem.W.fnOf "folded" "folded" (defArgs sFol) (defBody sFol) (defScope sFol) .none kV doc pm an cdv ct) ⟨us, []⟩ = pure ((["rows", "before"] : List Str).zip us) := match us, hl with | [_, _], _ => rfl
theorem bn_com (kV doc pm : Value) (an : Option Addr) (cdv ct : Value) (us : List Value) (hl : us.length = (["found", "rows"] : List Str).length) : bindArgs (PySem.W.fnOf "come_to" "come_to" (defArgs sCom) (defBody sCom) (defScope sCom) .none kV doc pm an cdv ct) ⟨us, []⟩ = pure ((["found", "rows"] : List Str).zip us) := match us, hl with | [_, _], _ => rfl
theorem bn_wei (kV doc pm : Value) (an : Option Addr) (cdv ct : Value) (us : List Value) (hl : us.length = (["chances", "holds"] : List Str).length) : bindArgs (PySem.W.fnOf "weights" "weights" (defArgs sWei) (defBody sWei) (defScope sWei) .none kV doc pm an cdv ct) ⟨us, []⟩ = pure ((["chances", "holds"] : List Str).zip us) := match us, hl with | [_, _], _ => rfl
theorem bn_cmm (kV doc pm : Value) (an : Option Addr) (cdv ct : Value) (us : List Value) (hl : us.length = (["one", "other"] : List Str).length) : bindArgs (PySem.W.fnOf "common" "common" (defArgs sCmm) (defBody sCmm) (defScope sCmm) .none kV doc pm an cdv ct) ⟨us, []⟩ = pure ((["one", "other"] : List Str).zip us) := match us, hl with | [_, _], _ => rfl
theorem bn_fra (kV doc pm : Value) (an : Option Addr) (cdv ct : Value) (us : List Value) (hl : us.length = (["above", "below"] : List Str).length) : bindArgs (PySem.W.fnOf "fraction" "fraction" (defArgs sFra) (defBody sFra) (defScope sFra) .none kV doc pm an cdv ct) ⟨us, []⟩ = pure ((["above", "below"] : List Str).zip us) := match us, hl with | [_, _], _ => rfl
theorem bn_mea (kV doc pm : Value) (an : Option Addr) (cdv ct : Value) (us : List Value) (hl : us.length = (["found", "chances", "measure"] : List Str).length) : bindArgs (PySem.W.fnOf "measured" "measured" (defArgs sMea) (defBody sMea) (defScope sMea) .none kV doc pm an cdv ct) ⟨us, []⟩ = pure ((["found", "chances", "measure"] : List Str).zip us) := match us, hl with | [_, _, _], _ => rfl
theorem bn_exp (kV doc pm : Value) (an : Option Addr) (cdv ct : Value) (us : List Value) (hl : us.length = (["found", "chances", "measure"] : List Str).length) : bindArgs (PySem.W.fnOf "expected" "expected" (defArgs sExp) (defBody sExp) (defScope sExp) .none kV doc pm an cdv ct) ⟨us, []⟩ = pure ((["found", "chances", "measure"] : List Str).zip us) := match us, hl with | [_, _, _], _ => rfl
theorem bn_hon (kV doc pm : Value) (an : Option Addr) (cdv ct : Value) (us : List Value) (hl : us.length = (["found", "chances", "holds"] : List Str).length) : bindArgs (PySem.W.fnOf "hour_on" "hour_on" (defArgs sHon) (defBody sHon) (defScope sHon) .none kV doc pm an cdv ct) ⟨us, []⟩ = pure ((["found", "chances", "holds"] : List Str).zip us) := match us, hl with | [_, _, _], _ => rfl
theorem bn_eso (kV doc pm : Value) (an : Option Addr) (cdv ct : Value) (us : List Value) (hl : us.length = (["state", "chances", "holds", "hours", "measure"] : List Str).length) : bindArgs (PySem.W.fnOf "expected_soon" "expected_soon" (defArgs sEso) (defBody sEso) (defScope sEso) .none kV doc pm an cdv ct) ⟨us, []⟩ = pure ((["state", "chances", "holds", "hours", "measure"] : List Str).zip us) := match us, hl with | [_, _, _, _, _], _ => rfl
theorem bn_chf (kV doc pm : Value) (an : Option Addr) (cdv ct : Value) (us : List Value) (hl : us.length = (["chances"] : List Str).length) : bindArgs (PySem.W.fnOf "chances_fit" "chances_fit" (defArgs sChf) (defBody sChf) (defScope sChf) .none kV doc pm an cdv ct) ⟨us, []⟩ = pure ((["chances"] : List Str).zip us) := match us, hl with | [_], _ => rfl
theorem bn_rof (kV doc pm : Value) (an : Option Addr) (cdv ct : Value) (us : List Value) (hl : us.length = (["holds"] : List Str).length) : bindArgs (PySem.W.fnOf "room_fits" "room_fits" (defArgs sRof) (defBody sRof) (defScope sRof) .none kV doc pm an cdv ct) ⟨us, []⟩ = pure ((["holds"] : List Str).zip us) := match us, hl with | [_], _ => rfl
theorem bn_sta (kV doc pm : Value) (an : Option Addr) (cdv ct : Value) (us : List Value) (hl : us.length = (["line"] : List Str).length) : bindArgs (PySem.W.fnOf "start_over" "start_over" (defArgs sSta) (defBody sSta) (defScope sSta) .none kV doc pm an cdv ct) ⟨us, []⟩ = pure ((["line"] : List Str).zip us) := match us, hl with | [_], _ => rfl
theorem bn_lon (kV doc pm : Value) (an : Option Addr) (cdv ct : Value) (us : List Value) (hl : us.length = (["line", "chances", "holds"] : List Str).length) : bindArgs (PySem.W.fnOf "long_run" "long_run" (defArgs sLon) (defBody sLon) (defScope sLon) .none kV doc pm an cdv ct) ⟨us, []⟩ = pure ((["line", "chances", "holds"] : List Str).zip us) := match us, hl with | [_, _, _], _ => rfl
theorem bn_lok (kV doc pm : Value) (an : Option Addr) (cdv ct : Value) (us : List Value) (hl : us.length = (["line", "measure"] : List Str).length) : bindArgs (PySem.W.fnOf "looked_for" "looked_for" (defArgs sLok) (defBody sLok) (defScope sLok) .none kV doc pm an cdv ct) ⟨us, []⟩ = pure ((["line", "measure"] : List Str).zip us) := match us, hl with | [_, _], _ => rfl
theorem bn_tro (kV doc pm : Value) (an : Option Addr) (cdv ct : Value) (us : List Value) (hl : us.length = (["chances"] : List Str).length) : bindArgs (PySem.W.fnOf "turned_round" "turned_round" (defArgs sTro) (defBody sTro) (defScope sTro) .none kV doc pm an cdv ct) ⟨us, []⟩ = pure ((["chances"] : List Str).zip us) := match us, hl with | [_], _ => rfl
theorem bn_one (kV doc pm : Value) (an : Option Addr) (cdv ct : Value) (us : List Value) (hl : us.length = (["chances", "at", "by"] : List Str).length) : bindArgs (PySem.W.fnOf "one_changed" "one_changed" (defArgs sOne) (defBody sOne) (defScope sOne) .none kV doc pm an cdv ct) ⟨us, []⟩ = pure ((["chances", "at", "by"] : List Str).zip us) := match us, hl with | [_, _, _], _ => rfl
theorem bn_beg (kV doc pm : Value) (an : Option Addr) (cdv ct : Value) (us : List Value) (hl : us.length = (["line", "given"] : List Str).length) : bindArgs (PySem.W.fnOf "begin" "begin" (defArgs sBeg) (defBody sBeg) (defScope sBeg) .none kV doc pm an cdv ct) ⟨us, []⟩ = pure ((["line", "given"] : List Str).zip us) := match us, hl with | [_, _], _ => rfl
theorem bn_cha (kV doc pm : Value) (an : Option Addr) (cdv ct : Value) (us : List Value) (hl : us.length = (["line", "given"] : List Str).length) : bindArgs (PySem.W.fnOf "change" "change" (defArgs sCha) (defBody sCha) (defScope sCha) .none kV doc pm an cdv ct) ⟨us, []⟩ = pure ((["line", "given"] : List Str).zip us) := match us, hl with | [_, _], _ => rfl
theorem bn_roo (kV doc pm : Value) (an : Option Addr) (cdv ct : Value) (us : List Value) (hl : us.length = (["line", "given"] : List Str).length) : bindArgs (PySem.W.fnOf "room" "room" (defArgs sRoo) (defBody sRoo) (defScope sRoo) .none kV doc pm an cdv ct) ⟨us, []⟩ = pure ((["line", "given"] : List Str).zip us) := match us, hl with | [_, _], _ => rfl
theorem bn_hou (kV doc pm : Value) (an : Option Addr) (cdv ct : Value) (us : List Value) (hl : us.length = (["line", "given"] : List Str).length) : bindArgs (PySem.W.fnOf "hour" "hour" (defArgs sHou) (defBody sHou) (defScope sHou) .none kV doc pm an cdv ct) ⟨us, []⟩ = pure ((["line", "given"] : List Str).zip us) := match us, hl with | [_, _], _ => rfl
theorem bn_fre (kV doc pm : Value) (an : Option Addr) (cdv ct : Value) (us : List Value) (hl : us.length = (["line", "given"] : List Str).length) : bindArgs (PySem.W.fnOf "fresh" "fresh" (defArgs sFre) (defBody sFre) (defScope sFre) .none kV doc pm an cdv ct) ⟨us, []⟩ = pure ((["line", "given"] : List Str).zip us) := match us, hl with | [_, _], _ => rfl
theorem bn_bro (kV doc pm : Value) (an : Option Addr) (cdv ct : Value) (us : List Value) (hl : us.length = (["pieces", "first", "second"] : List Str).length) : bindArgs (PySem.W.fnOf "brought" "brought" (defArgs sBro) (defBody sBro) (defScope sBro) .none kV doc pm an cdv ct) ⟨us, []⟩ = pure ((["pieces", "first", "second"] : List Str).zip us) := match us, hl with | [_, _, _], _ => rfl
theorem bn_rat (kV doc pm : Value) (an : Option Addr) (cdv ct : Value) (us : List Value) (hl : us.length = (["line", "machine"] : List Str).length) : bindArgs (PySem.W.fnOf "rate_of" "rate_of" (defArgs sRat) (defBody sRat) (defScope sRat) .none kV doc pm an cdv ct) ⟨us, []⟩ = pure ((["line", "machine"] : List Str).zip us) := match us, hl with | [_, _], _ => rfl
theorem bn_out (kV doc pm : Value) (an : Option Addr) (cdv ct : Value) (us : List Value) (hl : us.length = (["line", "given"] : List Str).length) : bindArgs (PySem.W.fnOf "out" "out" (defArgs sOut) (defBody sOut) (defScope sOut) .none kV doc pm an cdv ct) ⟨us, []⟩ = pure ((["line", "given"] : List Str).zip us) := match us, hl with | [_, _], _ => rfl
theorem bn_rte (kV doc pm : Value) (an : Option Addr) (cdv ct : Value) (us : List Value) (hl : us.length = (["line", "given"] : List Str).length) : bindArgs (PySem.W.fnOf "rate" "rate" (defArgs sRte) (defBody sRte) (defScope sRte) .none kV doc pm an cdv ct) ⟨us, []⟩ = pure ((["line", "given"] : List Str).zip us) := match us, hl with | [_, _], _ => rfl
theorem bn_upp (kV doc pm : Value) (an : Option Addr) (cdv ct : Value) (us : List Value) (hl : us.length = (["line", "given"] : List Str).length) : bindArgs (PySem.W.fnOf "up" "up" (defArgs sUpp) (defBody sUpp) (defScope sUpp) .none kV doc pm an cdv ct) ⟨us, []⟩ = pure ((["line", "given"] : List Str).zip us) := match us, hl with | [_, _], _ => rfl
theorem bn_sta2 (kV doc pm : Value) (an : Option Addr) (cdv ct : Value) (us : List Value) (hl : us.length = (["line", "given"] : List Str).length) : bindArgs (PySem.W.fnOf "starved" "starved" (defArgs sSta2) (defBody sSta2) (defScope sSta2) .none kV doc pm an cdv ct) ⟨us, []⟩ = pure ((["line", "given"] : List Str).zip us) := match us, hl with | [_, _], _ => rfl
theorem bn_blo (kV doc pm : Value) (an : Option Addr) (cdv ct : Value) (us : List Value) (hl : us.length = (["line", "given"] : List Str).length) : bindArgs (PySem.W.fnOf "blocked" "blocked" (defArgs sBlo) (defBody sBlo) (defScope sBlo) .none kV doc pm an cdv ct) ⟨us, []⟩ = pure ((["line", "given"] : List Str).zip us) := match us, hl with | [_, _], _ => rfl
theorem bn_mea2 (kV doc pm : Value) (an : Option Addr) (cdv ct : Value) (us : List Value) (hl : us.length = (["line", "given"] : List Str).length) : bindArgs (PySem.W.fnOf "mean" "mean" (defArgs sMea2) (defBody sMea2) (defScope sMea2) .none kV doc pm an cdv ct) ⟨us, []⟩ = pure ((["line", "given"] : List Str).zip us) := match us, hl with | [_, _], _ => rfl
theorem bn_ful (kV doc pm : Value) (an : Option Addr) (cdv ct : Value) (us : List Value) (hl : us.length = (["line", "given"] : List Str).length) : bindArgs (PySem.W.fnOf "full" "full" (defArgs sFul) (defBody sFul) (defScope sFul) .none kV doc pm an cdv ct) ⟨us, []⟩ = pure ((["line", "given"] : List Str).zip us) := match us, hl with | [_, _], _ => rfl
theorem bn_lng (kV doc pm : Value) (an : Option Addr) (cdv ct : Value) (us : List Value) (hl : us.length = (["line", "given"] : List Str).length) : bindArgs (PySem.W.fnOf "long" "long" (defArgs sLng) (defBody sLng) (defScope sLng) .none kV doc pm an cdv ct) ⟨us, []⟩ = pure ((["line", "given"] : List Str).zip us) := match us, hl with | [_, _], _ => rfl
theorem bn_bot (kV doc pm : Value) (an : Option Addr) (cdv ct : Value) (us : List Value) (hl : us.length = (["line", "given"] : List Str).length) : bindArgs (PySem.W.fnOf "both" "both" (defArgs sBot) (defBody sBot) (defScope sBot) .none kV doc pm an cdv ct) ⟨us, []⟩ = pure ((["line", "given"] : List Str).zip us) := match us, hl with | [_, _], _ => rfl
theorem bn_tur (kV doc pm : Value) (an : Option Addr) (cdv ct : Value) (us : List Value) (hl : us.length = (["line", "given"] : List Str).length) : bindArgs (PySem.W.fnOf "turn" "turn" (defArgs sTur) (defBody sTur) (defScope sTur) .none kV doc pm an cdv ct) ⟨us, []⟩ = pure ((["line", "given"] : List Str).zip us) := match us, hl with | [_, _], _ => rfl
theorem bn_bes (kV doc pm : Value) (an : Option Addr) (cdv ct : Value) (us : List Value) (hl : us.length = (["line", "chances", "holds"] : List Str).length) : bindArgs (PySem.W.fnOf "beside" "beside" (defArgs sBes) (defBody sBes) (defScope sBes) .none kV doc pm an cdv ct) ⟨us, []⟩ = pure ((["line", "chances", "holds"] : List Str).zip us) := match us, hl with | [_, _, _], _ => rfl
theorem bn_trn (kV doc pm : Value) (an : Option Addr) (cdv ct : Value) (us : List Value) (hl : us.length = (["line", "given"] : List Str).length) : bindArgs (PySem.W.fnOf "turned" "turned" (defArgs sTrn) (defBody sTrn) (defScope sTrn) .none kV doc pm an cdv ct) ⟨us, []⟩ = pure ((["line", "given"] : List Str).zip us) := match us, hl with | [_, _], _ => rfl
theorem bn_mor (kV doc pm : Value) (an : Option Addr) (cdv ct : Value) (us : List Value) (hl : us.length = (["line", "given"] : List Str).length) : bindArgs (PySem.W.fnOf "more" "more" (defArgs sMor) (defBody sMor) (defScope sMor) .none kV doc pm an cdv ct) ⟨us, []⟩ = pure ((["line", "given"] : List Str).zip us) := match us, hl with | [_, _], _ => rfl
theorem bn_soo (kV doc pm : Value) (an : Option Addr) (cdv ct : Value) (us : List Value) (hl : us.length = (["line", "given"] : List Str).length) : bindArgs (PySem.W.fnOf "sooner" "sooner" (defArgs sSoo) (defBody sSoo) (defScope sSoo) .none kV doc pm an cdv ct) ⟨us, []⟩ = pure ((["line", "given"] : List Str).zip us) := match us, hl with | [_, _], _ => rfl
theorem bn_few (kV doc pm : Value) (an : Option Addr) (cdv ct : Value) (us : List Value) (hl : us.length = (["line", "given"] : List Str).length) : bindArgs (PySem.W.fnOf "fewer" "fewer" (defArgs sFew) (defBody sFew) (defScope sFew) .none kV doc pm an cdv ct) ⟨us, []⟩ = pure ((["line", "given"] : List Str).zip us) := match us, hl with | [_, _], _ => rfl
theorem bn_alo (kV doc pm : Value) (an : Option Addr) (cdv ct : Value) (us : List Value) (hl : us.length = (["line", "given"] : List Str).length) : bindArgs (PySem.W.fnOf "alone" "alone" (defArgs sAlo) (defBody sAlo) (defScope sAlo) .none kV doc pm an cdv ct) ⟨us, []⟩ = pure ((["line", "given"] : List Str).zip us) := match us, hl with | [_, _], _ => rfl
theorem bn_son (kV doc pm : Value) (an : Option Addr) (cdv ct : Value) (us : List Value) (hl : us.length = (["line", "given"] : List Str).length) : bindArgs (PySem.W.fnOf "soon" "soon" (defArgs sSon) (defBody sSon) (defScope sSon) .none kV doc pm an cdv ct) ⟨us, []⟩ = pure ((["line", "given"] : List Str).zip us) := match us, hl with | [_, _], _ => rfl
theorem bn_fre2 (kV doc pm : Value) (an : Option Addr) (cdv ct : Value) (us : List Value) (hl : us.length = (["line", "given"] : List Str).length) : bindArgs (PySem.W.fnOf "free" "free" (defArgs sFre2) (defBody sFre2) (defScope sFre2) .none kV doc pm an cdv ct) ⟨us, []⟩ = pure ((["line", "given"] : List Str).zip us) := match us, hl with | [_, _], _ => rfl
theorem bn_now (kV doc pm : Value) (an : Option Addr) (cdv ct : Value) (us : List Value) (hl : us.length = (["line", "given"] : List Str).length) : bindArgs (PySem.W.fnOf "now" "now" (defArgs sNow) (defBody sNow) (defScope sNow) .none kV doc pm an cdv ct) ⟨us, []⟩ = pure ((["line", "given"] : List Str).zip us) := match us, hl with | [_, _], _ => rfl
theorem bn_stt (kV doc pm : Value) (an : Option Addr) (cdv ct : Value) (us : List Value) (hl : us.length = (["line", "given"] : List Str).length) : bindArgs (PySem.W.fnOf "state" "state" (defArgs sStt) (defBody sStt) (defScope sStt) .none kV doc pm an cdv ct) ⟨us, []⟩ = pure ((["line", "given"] : List Str).zip us) := match us, hl with | [_, _], _ => rfl
theorem bn_anw (kV doc pm : Value) (an : Option Addr) (cdv ct : Value) (us : List Value) (hl : us.length = (["line", "number", "given"] : List Str).length) : bindArgs (PySem.W.fnOf "answer" "answer" (defArgs sAnw) (defBody sAnw) (defScope sAnw) .none kV doc pm an cdv ct) ⟨us, []⟩ = pure ((["line", "number", "given"] : List Str).zip us) := match us, hl with | [_, _, _], _ => rfl
theorem bn_ans (kV doc pm : Value) (an : Option Addr) (cdv ct : Value) (us : List Value) (hl : us.length = (["calls"] : List Str).length) : bindArgs (PySem.W.fnOf "answers" "answers" (defArgs sAns) (defBody sAns) (defScope sAns) .none kV doc pm an cdv ct) ⟨us, []⟩ = pure ((["calls"] : List Str).zip us) := match us, hl with | [_], _ => rfl
theorem bn_ini (kV doc pm : Value) (an : Option Addr) (cdv ct : Value) (us : List Value) (hl : us.length = (["self"] : List Str).length) : bindArgs (PySem.W.fnOf "__init__" "Line.__init__" (defArgs sIni) (defBody sIni) (defScope sIni) .none kV doc pm an cdv ct) ⟨us, []⟩ = pure ((["self"] : List Str).zip us) := match us, hl with | [_], _ => rfl
structure Blt (mg : Str → Option Value) : Prop where
  range : mg "range" = none
  len : mg "len" = none
  reversed : mg "reversed" = none
  enumerate : mg "enumerate" = none
  sum : mg "sum" = none
  all : mg "all" = none
  tuple : mg "tuple" = none
structure Ints (mg : Str → Option Value) : Prop where
  tenths : ∃ t, mg "MOST_TENTHS" = some (.int (9) t)
  room : ∃ t, mg "MOST_ROOM" = some (.int (6) t)
  hours : ∃ t, mg "MOST_HOURS" = some (.int (5) t)
  out : ∃ t, mg "OUT_OF_RANGE" = some (.int (-22) t)
  many : ∃ t, mg "TOO_MANY" = some (.int (-28) t)
  already : ∃ t, mg "SO_ALREADY" = some (.int (-17) t)
  hang : ∃ t, mg "HANG_TOGETHER" = some (.int (-16) t)
  nosuch : ∃ t, mg "NO_SUCH" = some (.int (-2) t)
  notbegun : ∃ t, mg "NOT_BEGUN" = some (.int (-11) t)
  begin : ∃ t, mg "BEGIN" = some (.int (0) t)
theorem all_mk {P : Program} {w : World} {K : PySem.W.Frag} {mg : Str → Option Value} {fa C f_ini U u0 u1 u2 u3 CL OM SZ f_sec f_fir f_pie f_ten f_hun f_stn f_stb f_flo f_lea f_fol f_com f_wei f_cmm f_fra f_mea f_exp f_hon f_eso f_chf f_rof f_sta f_lon f_lok f_tro f_one f_beg f_cha f_roo f_hou f_fre f_bro f_rat f_out f_rte f_upp f_sta2 f_blo f_mea2 f_ful f_lng f_bot f_tur f_bes f_trn f_mor f_soo f_few f_alo f_son f_fre2 f_now f_stt f_anw f_ans : Addr} {d_ini d_sec d_fir d_pie d_ten d_hun d_stn d_stb d_flo d_lea d_fol d_com d_wei d_cmm d_fra d_mea d_exp d_hon d_eso d_chf d_rof d_sta d_lon d_lok d_tro d_one d_beg d_cha d_roo d_hou d_fre d_bro d_rat d_out d_rte d_upp d_sta2 d_blo d_mea2 d_ful d_lng d_bot d_tur d_bes d_trn d_mor d_soo d_few d_alo d_son d_fre2 d_now d_stt d_anw d_ans : FuncData} {c_rat c_upp c_sta2 c_blo c_mea2 c_ful c_bot P_rat P_upp P_sta2 P_blo P_mea2 P_ful P_bot : Addr} (hfa : mg "answers" = some (.ref fa))
    (T : Txt K C) (M : Mk K C f_ini) (gL : mg "Line" = some (.ref C)) (F_ini : Fun K "__init__" "Line.__init__" sIni f_ini d_ini) (U : Ups K mg U u0 u1 u2 u3) (B : Blt mg) (I : Ints mg)
    (gC : mg "CALLS" = some (.ref CL)) (hC : ∀ H, SqT K H CL (([f_beg, f_cha, f_roo, f_hou, f_fre, f_out, f_rte, f_upp, f_sta2, f_blo, f_mea2, f_ful, f_lng, f_bot, f_tur, f_trn, f_mor, f_soo, f_few, f_alo, f_son, f_fre2, f_now, f_stt] : List Addr).map V.ref)) (gM : mg "OF_MACHINE" = some (.ref OM)) (hM : ∀ H, SqT K H OM (omL.map fun (z : Nat) => V.int (z : Int))) (gZ : mg "SIZES" = some (.ref SZ)) (hZ : ∀ H, SqT K H SZ (Md.sizes.map fun (z : Nat) => V.int (z : Int)))
    (D_sec : Df K mg "second_works" sSec ["pieces", "second"] f_sec d_sec)
    (D_fir : Df K mg "first_works" sFir ["pieces", "first", "second", "holds"] f_fir d_fir)
    (D_pie : Df K mg "pieces_behind" sPie ["pieces", "first", "second", "holds"] f_pie d_pie)
    (D_ten : Df K mg "tenths" sTen ["was", "now", "breaks", "mended"] f_ten d_ten)
    (D_hun : Df K mg "hundredths" sHun ["state", "ups", "chances"] f_hun d_hun)
    (D_stn : Df K mg "state_number" sStn ["pieces", "first", "second"] f_stn d_stn)
    (D_stb : Df K mg "state_behind" sStb ["state", "ups", "holds"] f_stb d_stb)
    (D_flo : Df K mg "flows" sFlo ["chances", "holds"] f_flo d_flo)
    (D_lea : Df K mg "leaving" sLea ["rows"] f_lea d_lea)
    (D_fol : Df K mg "folded" sFol ["rows", "before"] f_fol d_fol)
    (D_com : Df K mg "come_to" sCom ["found", "rows"] f_com d_com)
    (D_wei : Df K mg "weights" sWei ["chances", "holds"] f_wei d_wei)
    (D_cmm : Df K mg "common" sCmm ["one", "other"] f_cmm d_cmm)
    (D_fra : Df K mg "fraction" sFra ["above", "below"] f_fra d_fra)
    (D_mea : Df K mg "measured" sMea ["found", "chances", "measure"] f_mea d_mea)
    (D_exp : Df K mg "expected" sExp ["found", "chances", "measure"] f_exp d_exp)
    (D_hon : Df K mg "hour_on" sHon ["found", "chances", "holds"] f_hon d_hon)
    (D_eso : Df K mg "expected_soon" sEso ["state", "chances", "holds", "hours", "measure"] f_eso d_eso)
    (D_chf : Df K mg "chances_fit" sChf ["chances"] f_chf d_chf)
    (D_rof : Df K mg "room_fits" sRof ["holds"] f_rof d_rof)
    (D_sta : Df K mg "start_over" sSta ["line"] f_sta d_sta)
    (D_lon : Df K mg "long_run" sLon ["line", "chances", "holds"] f_lon d_lon)
    (D_lok : Df K mg "looked_for" sLok ["line", "measure"] f_lok d_lok)
    (D_tro : Df K mg "turned_round" sTro ["chances"] f_tro d_tro)
    (D_one : Df K mg "one_changed" sOne ["chances", "at", "by"] f_one d_one)
    (D_beg : Df K mg "begin" sBeg ["line", "given"] f_beg d_beg)
    (D_cha : Df K mg "change" sCha ["line", "given"] f_cha d_cha)
    (D_roo : Df K mg "room" sRoo ["line", "given"] f_roo d_roo)
    (D_hou : Df K mg "hour" sHou ["line", "given"] f_hou d_hou)
    (D_fre : Df K mg "fresh" sFre ["line", "given"] f_fre d_fre)
    (D_bro : Df K mg "brought" sBro ["pieces", "first", "second"] f_bro d_bro)
    (D_rat : Df K mg "rate_of" sRat ["line", "machine"] f_rat d_rat)
    (D_out : Df K mg "out" sOut ["line", "given"] f_out d_out)
    (D_rte : Df K mg "rate" sRte ["line", "given"] f_rte d_rte)
    (D_upp : Df K mg "up" sUpp ["line", "given"] f_upp d_upp)
    (D_sta2 : Df K mg "starved" sSta2 ["line", "given"] f_sta2 d_sta2)
    (D_blo : Df K mg "blocked" sBlo ["line", "given"] f_blo d_blo)
    (D_mea2 : Df K mg "mean" sMea2 ["line", "given"] f_mea2 d_mea2)
    (D_ful : Df K mg "full" sFul ["line", "given"] f_ful d_ful)
    (D_lng : Df K mg "long" sLng ["line", "given"] f_lng d_lng)
    (D_bot : Df K mg "both" sBot ["line", "given"] f_bot d_bot)
    (D_tur : Df K mg "turn" sTur ["line", "given"] f_tur d_tur)
    (D_bes : Df K mg "beside" sBes ["line", "chances", "holds"] f_bes d_bes)
    (D_trn : Df K mg "turned" sTrn ["line", "given"] f_trn d_trn)
    (D_mor : Df K mg "more" sMor ["line", "given"] f_mor d_mor)
    (D_soo : Df K mg "sooner" sSoo ["line", "given"] f_soo d_soo)
    (D_few : Df K mg "fewer" sFew ["line", "given"] f_few d_few)
    (D_alo : Df K mg "alone" sAlo ["line", "given"] f_alo d_alo)
    (D_son : Df K mg "soon" sSon ["line", "given"] f_son d_son)
    (D_fre2 : Df K mg "free" sFre2 ["line", "given"] f_fre2 d_fre2)
    (D_now : Df K mg "now" sNow ["line", "given"] f_now d_now)
    (D_stt : Df K mg "state" sStt ["line", "given"] f_stt d_stt)
    (D_anw : Df K mg "answer" sAnw ["line", "number", "given"] f_anw d_anw)
    (D_ans : Df K mg "answers" sAns ["calls"] f_ans d_ans)
    (e_rat : d_rat.code = .ref c_rat)    (e_upp : d_upp.code = .ref c_upp)    (e_sta2 : d_sta2.code = .ref c_sta2)    (e_blo : d_blo.code = .ref c_blo)    (e_mea2 : d_mea2.code = .ref c_mea2)    (e_ful : d_ful.code = .ref c_ful)    (e_bot : d_bot.code = .ref c_bot)
    (nd : (([(P_rat, qRat), (P_upp, qUp), (P_sta2, qSta), (P_blo, qBlo), (P_mea2, qMea), (P_ful, qFul), (P_bot, qBot)] : Tabs).map (·.1)).Nodup) :
    ∃ fd : FuncData, (∀ (s : Shared) (us : List Value), us.length = (["calls"] : List Str).length → BindsTo s fd ⟨us, []⟩ ((["calls"] : List Str).zip us)) ∧
      ∀ base : Heap, K.In base → base.Ns mainGlobals mg → Codes [(c_rat, P_rat), (c_upp, P_upp), (c_sta2, P_sta2), (c_blo, P_blo), (c_mea2, P_mea2), (c_ful, P_ful), (c_bot, P_bot)] base → BMain mg base → FnOk P w K mg base CX0 14 fa fd ["calls"] (spAns [(P_rat, qRat), (P_upp, qUp), (P_sta2, qSta), (P_blo, qBlo), (P_mea2, qMea), (P_ful, qFul), (P_bot, qBot)] K) := by
  have e := hfa.symm.trans D_ans.g
  cases e
  have bI : Binds K d_ini ["self"] [] := F_ini.binds bn_ini
  refine ⟨d_ans, fun s us hu => ?_, fun base _ _ Cd BM => ?_⟩
  · obtain ⟨oc, od, kV, doc, pm, an, cdv, ct, osl, rfl, lk, hcd⟩ := D_ans.F.ex
    exact .of_eq (bn_ans _ _ _ _ _ _ us hu)
  have G_sec := ok_sec (P := P) (w := w) (mg := mg) (base := base) D_sec.F
  have G_fir := ok_fir (P := P) (w := w) (mg := mg) (base := base) D_fir.F D_sec.F D_sec.b D_sec.g
  have G_pie := ok_pie (P := P) (w := w) (mg := mg) (base := base) D_pie.F D_sec.F D_sec.b D_sec.g D_fir.F D_fir.b D_fir.g
  have G_ten := ok_ten (P := P) (w := w) (mg := mg) (base := base) D_ten.F
  have G_hun := ok_hun (P := P) (w := w) (mg := mg) (base := base) D_hun.F D_ten.F D_ten.b D_ten.g
  have G_stn := ok_stn (P := P) (w := w) (mg := mg) (base := base) D_stn.F
  have G_stb := ok_stb (P := P) (w := w) (mg := mg) (base := base) D_stb.F (G_stn.mono (by decide)) D_stn.F.kp D_stn.b D_stn.g (G_pie.mono (by decide)) D_pie.F.kp D_pie.b D_pie.g
  have G_flo := ok_flo (P := P) (w := w) (mg := mg) (base := base) D_flo.F B.range U (G_stb.mono (by decide)) D_stb.F.kp D_stb.b D_stb.g (G_hun.mono (by decide)) D_hun.F.kp D_hun.b D_hun.g
  have G_lea := ok_lea (P := P) (w := w) (mg := mg) (base := base) D_lea.F
  have G_fol := ok_fol (P := P) (w := w) (mg := mg) (base := base) D_fol.F B.range B.len (G_lea.mono (by decide)) D_lea.F.kp D_lea.b D_lea.g
  have G_com := ok_com (P := P) (w := w) (mg := mg) (base := base) D_com.F B.range B.len B.sum (G_lea.mono (by decide)) D_lea.F.kp D_lea.b D_lea.g
  have G_wei := ok_wei (P := P) (w := w) (mg := mg) (base := base) D_wei.F B.len B.reversed (G_flo.mono (by decide)) D_flo.F.kp D_flo.b D_flo.g (G_lea.mono (by decide)) D_lea.F.kp D_lea.b D_lea.g (G_fol.mono (by decide)) D_fol.F.kp D_fol.b D_fol.g (G_com.mono (by decide)) D_com.F.kp D_com.b D_com.g
  have G_cmm := ok_cmm (P := P) (w := w) (mg := mg) (base := base) D_cmm.F
  have G_fra := ok_fra (P := P) (w := w) (mg := mg) (base := base) D_fra.F (G_cmm.mono (by decide)) D_cmm.F.kp D_cmm.b D_cmm.g
  have G_mea := ok_mea (P := P) (w := w) (mg := mg) (base := base) D_mea.F B.enumerate U (G_hun.mono (by decide)) D_hun.F.kp D_hun.b D_hun.g
  have G_exp := ok_exp (P := P) (w := w) (mg := mg) (base := base) D_exp.F B.sum (G_mea.mono (by decide)) D_mea.F.kp D_mea.b D_mea.g (G_fra.mono (by decide)) D_fra.F.kp D_fra.b D_fra.g
  have G_hon := ok_hon (P := P) (w := w) (mg := mg) (base := base) D_hon.F B.enumerate B.len U (G_stb.mono (by decide)) D_stb.F.kp D_stb.b D_stb.g (G_hun.mono (by decide)) D_hun.F.kp D_hun.b D_hun.g
  have G_eso := ok_eso (P := P) (w := w) (mg := mg) (base := base) D_eso.F B.range (G_mea.mono (by decide)) D_mea.F.kp D_mea.b D_mea.g (G_hon.mono (by decide)) D_hon.F.kp D_hon.b D_hon.g (G_fra.mono (by decide)) D_fra.F.kp D_fra.b D_fra.g
  have G_chf := ok_chf (P := P) (w := w) (mg := mg) (base := base) D_chf.F B.all I.tenths
  have G_rof := ok_rof (P := P) (w := w) (mg := mg) (base := base) D_rof.F I.room
  have G_sta := ok_sta (P := P) (w := w) (mg := mg) (base := base) D_sta.F T
  have G_lon := ok_lon (P := P) (w := w) (mg := mg) (base := base) D_lon.F T B.tuple (G_wei.mono (by decide)) D_wei.F.kp D_wei.b D_wei.g
  have G_lok := ok_lok (P := P) (w := w) (mg := mg) (base := base) D_lok.F T (G_exp.mono (by decide)) D_exp.F.kp D_exp.b D_exp.g (G_lon.mono (by decide)) D_lon.F.kp D_lon.b D_lon.g
  have G_tro := ok_tro (P := P) (w := w) (mg := mg) (base := base) D_tro.F
  have G_one := ok_one (P := P) (w := w) (mg := mg) (base := base) D_one.F
  have G_beg := ok_beg (P := P) (w := w) (mg := mg) (base := base) D_beg.F T I.out (G_chf.mono (by decide)) D_chf.F.kp D_chf.b D_chf.g (G_rof.mono (by decide)) D_rof.F.kp D_rof.b D_rof.g (G_sta.mono (by decide)) D_sta.F.kp D_sta.b D_sta.g
  have G_cha := ok_cha (P := P) (w := w) (mg := mg) (base := base) (tabs := [(P_rat, qRat), (P_upp, qUp), (P_sta2, qSta), (P_blo, qBlo), (P_mea2, qMea), (P_ful, qFul), (P_bot, qBot)]) D_cha.F T I.out (G_chf.mono (by decide)) D_chf.F.kp D_chf.b D_chf.g
  have G_roo := ok_roo (P := P) (w := w) (mg := mg) (base := base) D_roo.F T I.out (G_rof.mono (by decide)) D_rof.F.kp D_rof.b D_rof.g
  have G_hou := ok_hou (P := P) (w := w) (mg := mg) (base := base) D_hou.F T I.out (G_sec.mono (by decide)) D_sec.F.kp D_sec.b D_sec.g (G_fir.mono (by decide)) D_fir.F.kp D_fir.b D_fir.g (G_pie.mono (by decide)) D_pie.F.kp D_pie.b D_pie.g
  have G_fre := ok_fre (P := P) (w := w) (mg := mg) (base := base) D_fre.F T (G_sta.mono (by decide)) D_sta.F.kp D_sta.b D_sta.g
  have G_bro := ok_bro (P := P) (w := w) (mg := mg) (base := base) D_bro.F (G_sec.mono (by decide)) D_sec.F.kp D_sec.b D_sec.g
  have BR := bro_mk D_bro.F G_bro D_bro.b D_bro.g
  have G_rat := ok_rat (P := P) (w := w) (mg := mg) (base := base) (tabs := [(P_rat, qRat), (P_upp, qUp), (P_sta2, qSta), (P_blo, qBlo), (P_mea2, qMea), (P_ful, qFul), (P_bot, qBot)]) D_rat.F T nd (.head _) e_rat (Cd (c_rat, P_rat) (.head _)) BM (G_lok.mono (by decide)) D_lok.F.kp D_lok.b D_lok.g (G_fir.mono (by decide)) D_fir.F.kp D_fir.b D_fir.g BR
  have G_out := ok_out (P := P) (w := w) (mg := mg) (base := base) (tabs := [(P_rat, qRat), (P_upp, qUp), (P_sta2, qSta), (P_blo, qBlo), (P_mea2, qMea), (P_ful, qFul), (P_bot, qBot)]) (q := 5) (fun _ => rfl) D_out.F (G_rat.mono (by decide)) D_rat.F.kp D_rat.b D_rat.g
  have G_rte := ok_rte (P := P) (w := w) (mg := mg) (base := base) (tabs := [(P_rat, qRat), (P_upp, qUp), (P_sta2, qSta), (P_blo, qBlo), (P_mea2, qMea), (P_ful, qFul), (P_bot, qBot)]) D_rte.F (G_rat.mono (by decide)) D_rat.F.kp D_rat.b D_rat.g
  have G_upp := ok_upp (P := P) (w := w) (mg := mg) (base := base) (tabs := [(P_rat, qRat), (P_upp, qUp), (P_sta2, qSta), (P_blo, qBlo), (P_mea2, qMea), (P_ful, qFul), (P_bot, qBot)]) D_upp.F nd (.tail _ (.head _)) e_upp (Cd (c_upp, P_upp) (.tail _ (.head _))) BM (G_lok.mono (by decide)) D_lok.F.kp D_lok.b D_lok.g
  have G_sta2 := ok_sta2 (P := P) (w := w) (mg := mg) (base := base) (tabs := [(P_rat, qRat), (P_upp, qUp), (P_sta2, qSta), (P_blo, qBlo), (P_mea2, qMea), (P_ful, qFul), (P_bot, qBot)]) D_sta2.F nd (.tail _ (.tail _ (.head _))) e_sta2 (Cd (c_sta2, P_sta2) (.tail _ (.tail _ (.head _)))) BM (G_lok.mono (by decide)) D_lok.F.kp D_lok.b D_lok.g
  have G_blo := ok_blo (P := P) (w := w) (mg := mg) (base := base) (tabs := [(P_rat, qRat), (P_upp, qUp), (P_sta2, qSta), (P_blo, qBlo), (P_mea2, qMea), (P_ful, qFul), (P_bot, qBot)]) D_blo.F T nd (.tail _ (.tail _ (.tail _ (.head _)))) e_blo (Cd (c_blo, P_blo) (.tail _ (.tail _ (.tail _ (.head _))))) BM (G_lok.mono (by decide)) D_lok.F.kp D_lok.b D_lok.g (G_fir.mono (by decide)) D_fir.F.kp D_fir.b D_fir.g
  have G_mea2 := ok_mea2 (P := P) (w := w) (mg := mg) (base := base) (tabs := [(P_rat, qRat), (P_upp, qUp), (P_sta2, qSta), (P_blo, qBlo), (P_mea2, qMea), (P_ful, qFul), (P_bot, qBot)]) D_mea2.F nd (.tail _ (.tail _ (.tail _ (.tail _ (.head _))))) e_mea2 (Cd (c_mea2, P_mea2) (.tail _ (.tail _ (.tail _ (.tail _ (.head _)))))) BM (G_lok.mono (by decide)) D_lok.F.kp D_lok.b D_lok.g
  have G_ful := ok_ful (P := P) (w := w) (mg := mg) (base := base) (tabs := [(P_rat, qRat), (P_upp, qUp), (P_sta2, qSta), (P_blo, qBlo), (P_mea2, qMea), (P_ful, qFul), (P_bot, qBot)]) D_ful.F T nd (.tail _ (.tail _ (.tail _ (.tail _ (.tail _ (.head _)))))) e_ful (Cd (c_ful, P_ful) (.tail _ (.tail _ (.tail _ (.tail _ (.tail _ (.head _))))))) BM (G_lok.mono (by decide)) D_lok.F.kp D_lok.b D_lok.g
  have G_lng := ok_lng (P := P) (w := w) (mg := mg) (base := base) (tabs := [(P_rat, qRat), (P_upp, qUp), (P_sta2, qSta), (P_blo, qBlo), (P_mea2, qMea), (P_ful, qFul), (P_bot, qBot)]) D_lng.F T B.sum I.out (G_lon.mono (by decide)) D_lon.F.kp D_lon.b D_lon.g (G_fra.mono (by decide)) D_fra.F.kp D_fra.b D_fra.g (G_stn.mono (by decide)) D_stn.F.kp D_stn.b D_stn.g
  have G_bot := ok_bot (P := P) (w := w) (mg := mg) (base := base) (tabs := [(P_rat, qRat), (P_upp, qUp), (P_sta2, qSta), (P_blo, qBlo), (P_mea2, qMea), (P_ful, qFul), (P_bot, qBot)]) D_bot.F nd (.tail _ (.tail _ (.tail _ (.tail _ (.tail _ (.tail _ (.head _))))))) e_bot (Cd (c_bot, P_bot) (.tail _ (.tail _ (.tail _ (.tail _ (.tail _ (.tail _ (.head _)))))))) BM (G_lok.mono (by decide)) D_lok.F.kp D_lok.b D_lok.g
  have G_tur := ok_tur (P := P) (w := w) (mg := mg) (base := base) (tabs := [(P_rat, qRat), (P_upp, qUp), (P_sta2, qSta), (P_blo, qBlo), (P_mea2, qMea), (P_ful, qFul), (P_bot, qBot)]) D_tur.F T (G_tro.mono (by decide)) D_tro.F.kp D_tro.b D_tro.g (G_sta.mono (by decide)) D_sta.F.kp D_sta.b D_sta.g
  have G_bes := ok_bes (P := P) (w := w) (mg := mg) (base := base) D_bes.F BR (G_exp.mono (by decide)) D_exp.F.kp D_exp.b D_exp.g (G_lon.mono (by decide)) D_lon.F.kp D_lon.b D_lon.g (G_lok.mono (by decide)) D_lok.F.kp D_lok.b D_lok.g
  have G_trn := ok_trn (P := P) (w := w) (mg := mg) (base := base) (tabs := [(P_rat, qRat), (P_upp, qUp), (P_sta2, qSta), (P_blo, qBlo), (P_mea2, qMea), (P_ful, qFul), (P_bot, qBot)]) D_trn.F T (G_bes.mono (by decide)) D_bes.F.kp D_bes.b D_bes.g (G_tro.mono (by decide)) D_tro.F.kp D_tro.b D_tro.g
  have G_mor := ok_mor (P := P) (w := w) (mg := mg) (base := base) (tabs := [(P_rat, qRat), (P_upp, qUp), (P_sta2, qSta), (P_blo, qBlo), (P_mea2, qMea), (P_ful, qFul), (P_bot, qBot)]) D_mor.F T I.room I.many (G_bes.mono (by decide)) D_bes.F.kp D_bes.b D_bes.g
  have G_soo := ok_soo (P := P) (w := w) (mg := mg) (base := base) (tabs := [(P_rat, qRat), (P_upp, qUp), (P_sta2, qSta), (P_blo, qBlo), (P_mea2, qMea), (P_ful, qFul), (P_bot, qBot)]) D_soo.F T I.tenths I.already (G_bes.mono (by decide)) D_bes.F.kp D_bes.b D_bes.g (G_one.mono (by decide)) D_one.F.kp D_one.b D_one.g
  have G_few := ok_few (P := P) (w := w) (mg := mg) (base := base) (tabs := [(P_rat, qRat), (P_upp, qUp), (P_sta2, qSta), (P_blo, qBlo), (P_mea2, qMea), (P_ful, qFul), (P_bot, qBot)]) D_few.F T I.already (G_bes.mono (by decide)) D_bes.F.kp D_bes.b D_bes.g (G_one.mono (by decide)) D_one.F.kp D_one.b D_one.g
  have G_alo := ok_alo (P := P) (w := w) (mg := mg) (base := base) (tabs := [(P_rat, qRat), (P_upp, qUp), (P_sta2, qSta), (P_blo, qBlo), (P_mea2, qMea), (P_ful, qFul), (P_bot, qBot)]) D_alo.F T (G_fra.mono (by decide)) D_fra.F.kp D_fra.b D_fra.g
  have G_son := ok_son (P := P) (w := w) (mg := mg) (base := base) (tabs := [(P_rat, qRat), (P_upp, qUp), (P_sta2, qSta), (P_blo, qBlo), (P_mea2, qMea), (P_ful, qFul), (P_bot, qBot)]) D_son.F T BR I.hours I.out (G_eso.mono (by decide)) D_eso.F.kp D_eso.b D_eso.g (G_stn.mono (by decide)) D_stn.F.kp D_stn.b D_stn.g
  have G_fre2 := ok_fre2 (P := P) (w := w) (mg := mg) (base := base) (tabs := [(P_rat, qRat), (P_upp, qUp), (P_sta2, qSta), (P_blo, qBlo), (P_mea2, qMea), (P_ful, qFul), (P_bot, qBot)]) D_fre2.F T I.hang (G_out.mono (by decide)) D_out.F.kp D_out.b D_out.g
  have G_now := ok_now (P := P) (w := w) (mg := mg) (base := base) (tabs := [(P_rat, qRat), (P_upp, qUp), (P_sta2, qSta), (P_blo, qBlo), (P_mea2, qMea), (P_ful, qFul), (P_bot, qBot)]) D_now.F T
  have G_stt := ok_stt (P := P) (w := w) (mg := mg) (base := base) (tabs := [(P_rat, qRat), (P_upp, qUp), (P_sta2, qSta), (P_blo, qBlo), (P_mea2, qMea), (P_ful, qFul), (P_bot, qBot)]) D_stt.F T
  have H_roo : FnOk P w K mg base CX0 12 f_roo d_roo ["line", "given"] (spU C [(P_rat, qRat), (P_upp, qUp), (P_sta2, qSta), (P_blo, qBlo), (P_mea2, qMea), (P_ful, qFul), (P_bot, qBot)] K 2) := (cmd_U (q := 2) G_roo (fun xs h => len1 h.1) (fun _ => rfl)).mono (by decide)
  have H_hou : FnOk P w K mg base CX0 12 f_hou d_hou ["line", "given"] (spU C [(P_rat, qRat), (P_upp, qUp), (P_sta2, qSta), (P_blo, qBlo), (P_mea2, qMea), (P_ful, qFul), (P_bot, qBot)] K 3) := (cmd_U (q := 3) G_hou (fun xs h => len2 h.1) (fun _ => rfl)).mono (by decide)
  have H_fre : FnOk P w K mg base CX0 12 f_fre d_fre ["line", "given"] (spU C [(P_rat, qRat), (P_upp, qUp), (P_sta2, qSta), (P_blo, qBlo), (P_mea2, qMea), (P_ful, qFul), (P_bot, qBot)] K 4) := (cmd_U (q := 4) G_fre (fun _ _ => trivial) (fun _ => rfl)).mono (by decide)
  have Gini := ok_ini (P := P) (w := w) (mg := mg) (base := base) F_ini T
  have DS : Dsp P w K mg base C [(P_rat, qRat), (P_upp, qUp), (P_sta2, qSta), (P_blo, qBlo), (P_mea2, qMea), (P_ful, qFul), (P_bot, qBot)] [f_beg, f_cha, f_roo, f_hou, f_fre, f_out, f_rte, f_upp, f_sta2, f_blo, f_mea2, f_ful, f_lng, f_bot, f_tur, f_trn, f_mor, f_soo, f_few, f_alo, f_son, f_fre2, f_now, f_stt] := by
    refine ⟨⟨f_beg, d_beg, rfl, G_beg.mono (by decide), D_beg.F.kp, D_beg.b⟩, fun q h0 hq => ?_⟩
    match q, h0, hq with
    | 1, _, _ => exact ⟨f_cha, d_cha, rfl, (G_cha.mono (by decide)), D_cha.F.kp, D_cha.b⟩
    | 2, _, _ => exact ⟨f_roo, d_roo, rfl, H_roo, D_roo.F.kp, D_roo.b⟩
    | 3, _, _ => exact ⟨f_hou, d_hou, rfl, H_hou, D_hou.F.kp, D_hou.b⟩
    | 4, _, _ => exact ⟨f_fre, d_fre, rfl, H_fre, D_fre.F.kp, D_fre.b⟩
    | 5, _, _ => exact ⟨f_out, d_out, rfl, (G_out.mono (by decide)), D_out.F.kp, D_out.b⟩
    | 6, _, _ => exact ⟨f_rte, d_rte, rfl, (G_rte.mono (by decide)), D_rte.F.kp, D_rte.b⟩
    | 7, _, _ => exact ⟨f_upp, d_upp, rfl, (G_upp.mono (by decide)), D_upp.F.kp, D_upp.b⟩
    | 8, _, _ => exact ⟨f_sta2, d_sta2, rfl, (G_sta2.mono (by decide)), D_sta2.F.kp, D_sta2.b⟩
    | 9, _, _ => exact ⟨f_blo, d_blo, rfl, (G_blo.mono (by decide)), D_blo.F.kp, D_blo.b⟩
    | 10, _, _ => exact ⟨f_mea2, d_mea2, rfl, (G_mea2.mono (by decide)), D_mea2.F.kp, D_mea2.b⟩
    | 11, _, _ => exact ⟨f_ful, d_ful, rfl, (G_ful.mono (by decide)), D_ful.F.kp, D_ful.b⟩
    | 12, _, _ => exact ⟨f_lng, d_lng, rfl, (G_lng.mono (by decide)), D_lng.F.kp, D_lng.b⟩
    | 13, _, _ => exact ⟨f_bot, d_bot, rfl, (G_bot.mono (by decide)), D_bot.F.kp, D_bot.b⟩
    | 14, _, _ => exact ⟨f_tur, d_tur, rfl, (G_tur.mono (by decide)), D_tur.F.kp, D_tur.b⟩
    | 15, _, _ => exact ⟨f_trn, d_trn, rfl, (G_trn.mono (by decide)), D_trn.F.kp, D_trn.b⟩
    | 16, _, _ => exact ⟨f_mor, d_mor, rfl, (G_mor.mono (by decide)), D_mor.F.kp, D_mor.b⟩
    | 17, _, _ => exact ⟨f_soo, d_soo, rfl, (G_soo.mono (by decide)), D_soo.F.kp, D_soo.b⟩
    | 18, _, _ => exact ⟨f_few, d_few, rfl, (G_few.mono (by decide)), D_few.F.kp, D_few.b⟩
    | 19, _, _ => exact ⟨f_alo, d_alo, rfl, (G_alo.mono (by decide)), D_alo.F.kp, D_alo.b⟩
    | 20, _, _ => exact ⟨f_son, d_son, rfl, (G_son.mono (by decide)), D_son.F.kp, D_son.b⟩
    | 21, _, _ => exact ⟨f_fre2, d_fre2, rfl, (G_fre2.mono (by decide)), D_fre2.F.kp, D_fre2.b⟩
    | 22, _, _ => exact ⟨f_now, d_now, rfl, (G_now.mono (by decide)), D_now.F.kp, D_now.b⟩
    | 23, _, _ => exact ⟨f_stt, d_stt, rfl, (G_stt.mono (by decide)), D_stt.F.kp, D_stt.b⟩
    | q + 24, _, h => exact absurd h (by omega)
  have G_anw := ok_anw (P := P) (w := w) (mg := mg) (base := base) D_anw.F T DS gC hC gM hM I.begin I.notbegun I.nosuch
  exact ok_ans (P := P) (w := w) (mg := mg) (base := base) D_ans.F M gL B.len Gini bI gZ hZ G_anw D_anw.F.kp D_anw.b D_anw.g
/-! ### the row's head -/
def qsL : List Str := [qRat, qUp, qSta, qBlo, qMea, qFul, qBot]
def mkT (tabs : List (Addr × Addr)) : Tabs := (tabs.zip qsL).map fun q => (q.1.2, q.2)
def sp0 (K : PySem.W.Frag) (tabs : List (Addr × Addr)) : Sp := spAns (mkT tabs) K
theorem allT_of {tabs : List (Addr × Addr)} {H : Hp} (h : TabsIn tabs H) : AllT (mkT tabs) H := by
  intro q hq
  obtain ⟨z, hz, rfl⟩ := List.mem_map.mp hq
  have hz1 := (List.of_mem_zip hz).1
  exact ⟨#[], h _ hz1, trivial, fun pos cv e => by cases e⟩
theorem tab_mk {K : PySem.W.Frag} {x : Str} {f c P : Addr} {oc oc2 : Value} {od od2 : Option Addr} {fd : FuncData} {sl sl2 : Array (Option Value)} {vs : Array Value}
   (h1 : PySem.W.nsIn K mainGlobals x = some (some (.ref f))) (h2 : K.lookup f = some ⟨oc, od, .func fd, sl⟩) (h3 : fd.code = .ref c) (h4 : K.lookup c = some ⟨oc2, od2, .fields vs, sl2⟩) (h5 : (vs[11]? : Option Value) = some (.ref P)) : PySem.W.tabIn K x = some (c, P) := by
  unfold PySem.W.tabIn
  rw [h1]; dsimp only
  rw [h2]; dsimp only
  rw [h3]; dsimp only
  rw [h4]; dsimp only
  rw [h5]
theorem tabs_mk {q : Program} {K : PySem.W.Frag} {c0 P0 c1 P1 c2 P2 c3 P3 c4 P4 c5 P5 c6 P6 : Addr} {d0 d1 d2 d3 d4 d5 d6 : DefRec}
   (h0 : PySem.W.tabIn K "rate_of" = some (c0, P0)) (h1 : PySem.W.tabIn K "up" = some (c1, P1)) (h2 : PySem.W.tabIn K "starved" = some (c2, P2)) (h3 : PySem.W.tabIn K "blocked" = some (c3, P3)) (h4 : PySem.W.tabIn K "mean" = some (c4, P4)) (h5 : PySem.W.tabIn K "full" = some (c5, P5)) (h6 : PySem.W.tabIn K "both" = some (c6, P6))
   (r0 : (recsOf q).find? (fun e => e.name == Str.ofString "rate_of") = some d0) (r1 : (recsOf q).find? (fun e => e.name == Str.ofString "up") = some d1) (r2 : (recsOf q).find? (fun e => e.name == Str.ofString "starved") = some d2) (r3 : (recsOf q).find? (fun e => e.name == Str.ofString "blocked") = some d3) (r4 : (recsOf q).find? (fun e => e.name == Str.ofString "mean") = some d4) (r5 : (recsOf q).find? (fun e => e.name == Str.ofString "full") = some d5) (r6 : (recsOf q).find? (fun e => e.name == Str.ofString "both") = some d6) :
   ∀ (ls : List Str) (mean : ExcName → Option Value) (mg mb : Str → Option Value) (h : Heap), Top q ls mean mg mb h → K.In h → PySem.W.TabsAt [(c0, P0), (c1, P1), (c2, P2), (c3, P3), (c4, P4), (c5, P5), (c6, P6)] h := by
  intro ls mean mg mb h T X q hq
  simp only [List.mem_cons, List.mem_nil_iff, or_false] at hq
  rcases hq with rfl | rfl | rfl | rfl | rfl | rfl | rfl
  · exact PySem.W.tab_of T X r0 h0
  · exact PySem.W.tab_of T X r1 h1
  · exact PySem.W.tab_of T X r2 h2
  · exact PySem.W.tab_of T X r3 h3
  · exact PySem.W.tab_of T X r4 h4
  · exact PySem.W.tab_of T X r5 h5
  · exact PySem.W.tab_of T X r6 h6
theorem txt_mk {K : PySem.W.Frag} {C : Addr} (pg : PySem.W.plainGet K C Str.empty = true) (hd : PySem.W.hasDictIn K C = true) (po : PySem.W.plainOver K C = true) (sa : PySem.W.findIn K (.ref C) "__setattr__" = some (some (.builtin "object.__setattr__")))
    (n1 : PySem.W.findIn K (.ref C) "begun" = some none) (n2 : PySem.W.findIn K (.ref C) "chances" = some none) (n3 : PySem.W.findIn K (.ref C) "holds" = some none) (n4 : PySem.W.findIn K (.ref C) "pieces" = some none) (n5 : PySem.W.findIn K (.ref C) "first" = some none) (n6 : PySem.W.findIn K (.ref C) "second" = some none) (n7 : PySem.W.findIn K (.ref C) "known" = some none) : Txt K C :=
  ⟨⟨pg, hd, po, sa⟩, n1, n2, n3, n4, n5, n6, n7⟩
theorem mk_mk {K : PySem.W.Frag} {C f : Addr} (mk : PySem.W.makesIn K C = true) (a1 : PySem.W.findIn K (.ref C) "__init__" = some (some (.ref f))) (i1 : PySem.W.isFn K (.ref f) = true) (kc : PySem.W.keepIn K (.ref C) = true) : Mk K C f := ⟨mk, a1, i1, kc⟩
theorem ups_mk {K : PySem.W.Frag} {h : Heap} {mg : Str → Option Value} {U u0 u1 u2 u3 : Addr} (X : K.In h) (G : h.Ns mainGlobals mg) (g : PySem.W.nsIn K mainGlobals "UPS" = some (some (.ref U))) (a : ∀ H, SqT K H U [.ref u0, .ref u1, .ref u2, .ref u3]) (b0 : ∀ H, SqT K H u0 [.int 0, .int 0]) (b1 : ∀ H, SqT K H u1 [.int 0, .int 1]) (b2 : ∀ H, SqT K H u2 [.int 1, .int 0]) (b3 : ∀ H, SqT K H u3 [.int 1, .int 1]) : Ups K mg U u0 u1 u2 u3 := ⟨PySem.W.mg_of X G g, a, b0, b1, b2, b3⟩
theorem blt_mk {K : PySem.W.Frag} {h : Heap} {mg : Str → Option Value} (X : K.In h) (G : h.Ns mainGlobals mg) (n_range : PySem.W.nsIn K mainGlobals "range" = some none) (n_len : PySem.W.nsIn K mainGlobals "len" = some none) (n_reversed : PySem.W.nsIn K mainGlobals "reversed" = some none) (n_enumerate : PySem.W.nsIn K mainGlobals "enumerate" = some none) (n_sum : PySem.W.nsIn K mainGlobals "sum" = some none) (n_all : PySem.W.nsIn K mainGlobals "all" = some none) (n_tuple : PySem.W.nsIn K mainGlobals "tuple" = some none) : Blt mg :=
  ⟨PySem.W.mg_none_of X G n_range, PySem.W.mg_none_of X G n_len, PySem.W.mg_none_of X G n_reversed, PySem.W.mg_none_of X G n_enumerate, PySem.W.mg_none_of X G n_sum, PySem.W.mg_none_of X G n_all, PySem.W.mg_none_of X G n_tuple⟩
theorem ints_mk {K : PySem.W.Frag} {h : Heap} {mg : Str → Option Value} {t0 t1 t2 t3 t4 t5 t6 t7 t8 t9 : Tok} (X : K.In h) (G : h.Ns mainGlobals mg) (n0 : PySem.W.nsIn K mainGlobals "MOST_TENTHS" = some (some (.int (9) t0))) (n1 : PySem.W.nsIn K mainGlobals "MOST_ROOM" = some (some (.int (6) t1))) (n2 : PySem.W.nsIn K mainGlobals "MOST_HOURS" = some (some (.int (5) t2))) (n3 : PySem.W.nsIn K mainGlobals "OUT_OF_RANGE" = some (some (.int (-22) t3))) (n4 : PySem.W.nsIn K mainGlobals "TOO_MANY" = some (some (.int (-28) t4))) (n5 : PySem.W.nsIn K mainGlobals "SO_ALREADY" = some (some (.int (-17) t5))) (n6 : PySem.W.nsIn K mainGlobals "HANG_TOGETHER" = some (some (.int (-16) t6))) (n7 : PySem.W.nsIn K mainGlobals "NO_SUCH" = some (some (.int (-2) t7))) (n8 : PySem.W.nsIn K mainGlobals "NOT_BEGUN" = some (some (.int (-11) t8))) (n9 : PySem.W.nsIn K mainGlobals "BEGIN" = some (some (.int (0) t9))) : Ints mg :=
  ⟨⟨_, PySem.W.mg_of X G n0⟩, ⟨_, PySem.W.mg_of X G n1⟩, ⟨_, PySem.W.mg_of X G n2⟩, ⟨_, PySem.W.mg_of X G n3⟩, ⟨_, PySem.W.mg_of X G n4⟩, ⟨_, PySem.W.mg_of X G n5⟩, ⟨_, PySem.W.mg_of X G n6⟩, ⟨_, PySem.W.mg_of X G n7⟩, ⟨_, PySem.W.mg_of X G n8⟩, ⟨_, PySem.W.mg_of X G n9⟩⟩
end Me
end
set_option Elab.async false
set_option linter.all false
/- the head makes a second reading of each written-out heap, which nothing needs and which costs most of the compiled file: names taken, so that it goes on without -/
theorem PySem.W.Fast.tw3982156511598295026 : True := trivial
theorem PySem.W.Fast.tw12967685931296624997 : True := trivial
theorem PySem.W.Fast.tw17846566540949517223 : True := trivial
theorem PySem.W.Fast.tw13355687551325238727 : True := trivial
theorem PySem.W.Fast.tw7319538432059039465 : True := trivial
theorem PySem.W.Fast.tw13159590226498418341 : True := trivial
theorem PySem.W.Fast.tw8867332924038464417 : True := trivial
open PySem PySem.W PyProof.Rows
set_option maxRecDepth 100000 in
set_option maxHeartbeats 0 in
theorem PySem.Challenge.cw_mendedline_s01_answers_holds : PySem.Challenge.rw_mendedline_s01_answers.Holds := by
  w_on; k_headS; (case hw => exact ⟨[.list [.int 4]], by decide +kernel, by decide +kernel⟩)
  k_fillS
  refine' L2.walk_specT (r := PySem.Challenge.rw_mendedline_s01_answers) (k := 14) (CX := L2.CX0) (ps := ["calls"]) (sp := Me.sp0) (tabs := [(?zc0, ?zP0), (?zc1, ?zP1), (?zc2, ?zP2), (?zc3, ?zP3), (?zc4, ?zP4), (?zc5, ?zP5), (?zc6, ?zP6)]) (by decide +kernel) rfl rfl ⟨rfl, by decide, by decide⟩ (fun w h Y => PySem.W.kIn_of Y) ?zN ?zT ?zF ?zS (fun _ _ _ _ z => z)
  case zT =>
    intro w
    refine' Me.tabs_mk ?h0 ?h1 ?h2 ?h3 ?h4 ?h5 ?h6 ?r0 ?r1 ?r2 ?r3 ?r4 ?r5 ?r6
    (case h0 => refine' Me.tab_mk ?a1 ?a2 ?a3 ?a4 ?a5; (case a1 => k_is); (case a2 => k_is); (case a3 => exact rfl); (case a4 => k_is); (case a5 => exact rfl))
    (case h1 => refine' Me.tab_mk ?a1 ?a2 ?a3 ?a4 ?a5; (case a1 => k_is); (case a2 => k_is); (case a3 => exact rfl); (case a4 => k_is); (case a5 => exact rfl))
    (case h2 => refine' Me.tab_mk ?a1 ?a2 ?a3 ?a4 ?a5; (case a1 => k_is); (case a2 => k_is); (case a3 => exact rfl); (case a4 => k_is); (case a5 => exact rfl))
    (case h3 => refine' Me.tab_mk ?a1 ?a2 ?a3 ?a4 ?a5; (case a1 => k_is); (case a2 => k_is); (case a3 => exact rfl); (case a4 => k_is); (case a5 => exact rfl))
    (case h4 => refine' Me.tab_mk ?a1 ?a2 ?a3 ?a4 ?a5; (case a1 => k_is); (case a2 => k_is); (case a3 => exact rfl); (case a4 => k_is); (case a5 => exact rfl))
    (case h5 => refine' Me.tab_mk ?a1 ?a2 ?a3 ?a4 ?a5; (case a1 => k_is); (case a2 => k_is); (case a3 => exact rfl); (case a4 => k_is); (case a5 => exact rfl))
    (case h6 => refine' Me.tab_mk ?a1 ?a2 ?a3 ?a4 ?a5; (case a1 => k_is); (case a2 => k_is); (case a3 => exact rfl); (case a4 => k_is); (case a5 => exact rfl))
    (case r0 => exact rfl)
    (case r1 => exact rfl)
    (case r2 => exact rfl)
    (case r3 => exact rfl)
    (case r4 => exact rfl)
    (case r5 => exact rfl)
    (case r6 => exact rfl)
  case zN => intro w; exact rfl
  case zF =>
    intro w mg fa h Y KX G hmg
    refine' Me.all_mk hmg ?zTx ?zMk ?gL ?Fi ?zU ?zB ?zI ?gC ?hC ?gM ?hM ?gZ ?hZ ?D_sec ?D_fir ?D_pie ?D_ten ?D_hun ?D_stn ?D_stb ?D_flo ?D_lea ?D_fol ?D_com ?D_wei ?D_cmm ?D_fra ?D_mea ?D_exp ?D_hon ?D_eso ?D_chf ?D_rof ?D_sta ?D_lon ?D_lok ?D_tro ?D_one ?D_beg ?D_cha ?D_roo ?D_hou ?D_fre ?D_bro ?D_rat ?D_out ?D_rte ?D_upp ?D_sta2 ?D_blo ?D_mea2 ?D_ful ?D_lng ?D_bot ?D_tur ?D_bes ?D_trn ?D_mor ?D_soo ?D_few ?D_alo ?D_son ?D_fre2 ?D_now ?D_stt ?D_anw ?D_ans ?e_rat ?e_upp ?e_sta2 ?e_blo ?e_mea2 ?e_ful ?e_bot ?nd
    (case gL => refine' PySem.W.mg_of KX G ?a; (case a => k_is))
    (case zTx => refine' Me.txt_mk ?pg ?hd ?po ?sa ?n1 ?n2 ?n3 ?n4 ?n5 ?n6 ?n7; (case pg => k_is); (case hd => k_is); (case po => k_is); (case sa => k_is); (case n1 => k_is); (case n2 => k_is); (case n3 => k_is); (case n4 => k_is); (case n5 => k_is); (case n6 => k_is); (case n7 => k_is))
    (case zMk => refine' Me.mk_mk ?mk ?a1 ?i1 ?kc; (case mk => k_is); (case a1 => k_is); (case i1 => k_is); (case kc => k_is))
    (case Fi => refine' L2.fun_mk ?l ?c ?k; (case l => k_is); (case c => k_is); (case k => k_is))
    (case zU => refine' Me.ups_mk KX G ?g ?a ?b0 ?b1 ?b2 ?b3; (case g => k_is); (case a => refine' Me.sqt_mk ?l ?z ?v; (case l => k_is); (case z => decide); (case v => exact rfl)); (case b0 => refine' Me.sqt_mk ?l ?z ?v; (case l => k_is); (case z => decide); (case v => exact rfl)); (case b1 => refine' Me.sqt_mk ?l ?z ?v; (case l => k_is); (case z => decide); (case v => exact rfl)); (case b2 => refine' Me.sqt_mk ?l ?z ?v; (case l => k_is); (case z => decide); (case v => exact rfl)); (case b3 => refine' Me.sqt_mk ?l ?z ?v; (case l => k_is); (case z => decide); (case v => exact rfl)))
    (case zB => refine' Me.blt_mk KX G ?n1 ?n2 ?n3 ?n4 ?n5 ?n6 ?n7; (case n1 => k_is); (case n2 => k_is); (case n3 => k_is); (case n4 => k_is); (case n5 => k_is); (case n6 => k_is); (case n7 => k_is))
    (case zI => refine' Me.ints_mk KX G ?n0 ?n1 ?n2 ?n3 ?n4 ?n5 ?n6 ?n7 ?n8 ?n9; (case n0 => k_is); (case n1 => k_is); (case n2 => k_is); (case n3 => k_is); (case n4 => k_is); (case n5 => k_is); (case n6 => k_is); (case n7 => k_is); (case n8 => k_is); (case n9 => k_is))
    (case D_sec => refine' Me.df_mk KX G Me.bn_sec ?a ?l ?c ?k; (case a => k_is); (case l => k_is); (case c => k_is); (case k => k_is))
    (case D_fir => refine' Me.df_mk KX G Me.bn_fir ?a ?l ?c ?k; (case a => k_is); (case l => k_is); (case c => k_is); (case k => k_is))
    (case D_pie => refine' Me.df_mk KX G Me.bn_pie ?a ?l ?c ?k; (case a => k_is); (case l => k_is); (case c => k_is); (case k => k_is))
    (case D_ten => refine' Me.df_mk KX G Me.bn_ten ?a ?l ?c ?k; (case a => k_is); (case l => k_is); (case c => k_is); (case k => k_is))
    (case D_hun => refine' Me.df_mk KX G Me.bn_hun ?a ?l ?c ?k; (case a => k_is); (case l => k_is); (case c => k_is); (case k => k_is))
    (case D_stn => refine' Me.df_mk KX G Me.bn_stn ?a ?l ?c ?k; (case a => k_is); (case l => k_is); (case c => k_is); (case k => k_is))
    (case D_stb => refine' Me.df_mk KX G Me.bn_stb ?a ?l ?c ?k; (case a => k_is); (case l => k_is); (case c => k_is); (case k => k_is))
    (case D_flo => refine' Me.df_mk KX G Me.bn_flo ?a ?l ?c ?k; (case a => k_is); (case l => k_is); (case c => k_is); (case k => k_is))
    (case D_lea => refine' Me.df_mk KX G Me.bn_lea ?a ?l ?c ?k; (case a => k_is); (case l => k_is); (case c => k_is); (case k => k_is))
    (case D_fol => refine' Me.df_mk KX G Me.bn_fol ?a ?l ?c ?k; (case a => k_is); (case l => k_is); (case c => k_is); (case k => k_is))
    (case D_com => refine' Me.df_mk KX G Me.bn_com ?a ?l ?c ?k; (case a => k_is); (case l => k_is); (case c => k_is); (case k => k_is))
    (case D_wei => refine' Me.df_mk KX G Me.bn_wei ?a ?l ?c ?k; (case a => k_is); (case l => k_is); (case c => k_is); (case k => k_is))
    (case D_cmm => refine' Me.df_mk KX G Me.bn_cmm ?a ?l ?c ?k; (case a => k_is); (case l => k_is); (case c => k_is); (case k => k_is))
    (case D_fra => refine' Me.df_mk KX G Me.bn_fra ?a ?l ?c ?k; (case a => k_is); (case l => k_is); (case c => k_is); (case k => k_is))
    (case D_mea => refine' Me.df_mk KX G Me.bn_mea ?a ?l ?c ?k; (case a => k_is); (case l => k_is); (case c => k_is); (case k => k_is))
    (case D_exp => refine' Me.df_mk KX G Me.bn_exp ?a ?l ?c ?k; (case a => k_is); (case l => k_is); (case c => k_is); (case k => k_is))
    (case D_hon => refine' Me.df_mk KX G Me.bn_hon ?a ?l ?c ?k; (case a => k_is); (case l => k_is); (case c => k_is); (case k => k_is))
    (case D_eso => refine' Me.df_mk KX G Me.bn_eso ?a ?l ?c ?k; (case a => k_is); (case l => k_is); (case c => k_is); (case k => k_is))
    (case D_chf => refine' Me.df_mk KX G Me.bn_chf ?a ?l ?c ?k; (case a => k_is); (case l => k_is); (case c => k_is); (case k => k_is))
    (case D_rof => refine' Me.df_mk KX G Me.bn_rof ?a ?l ?c ?k; (case a => k_is); (case l => k_is); (case c => k_is); (case k => k_is))
    (case D_sta => refine' Me.df_mk KX G Me.bn_sta ?a ?l ?c ?k; (case a => k_is); (case l => k_is); (case c => k_is); (case k => k_is))
    (case D_lon => refine' Me.df_mk KX G Me.bn_lon ?a ?l ?c ?k; (case a => k_is); (case l => k_is); (case c => k_is); (case k => k_is))
    (case D_lok => refine' Me.df_mk KX G Me.bn_lok ?a ?l ?c ?k; (case a => k_is); (case l => k_is); (case c => k_is); (case k => k_is))
    (case D_tro => refine' Me.df_mk KX G Me.bn_tro ?a ?l ?c ?k; (case a => k_is); (case l => k_is); (case c => k_is); (case k => k_is))
    (case D_one => refine' Me.df_mk KX G Me.bn_one ?a ?l ?c ?k; (case a => k_is); (case l => k_is); (case c => k_is); (case k => k_is))
    (case D_beg => refine' Me.df_mk KX G Me.bn_beg ?a ?l ?c ?k; (case a => k_is); (case l => k_is); (case c => k_is); (case k => k_is))
    (case D_cha => refine' Me.df_mk KX G Me.bn_cha ?a ?l ?c ?k; (case a => k_is); (case l => k_is); (case c => k_is); (case k => k_is))
    (case D_roo => refine' Me.df_mk KX G Me.bn_roo ?a ?l ?c ?k; (case a => k_is); (case l => k_is); (case c => k_is); (case k => k_is))
    (case D_hou => refine' Me.df_mk KX G Me.bn_hou ?a ?l ?c ?k; (case a => k_is); (case l => k_is); (case c => k_is); (case k => k_is))
    (case D_fre => refine' Me.df_mk KX G Me.bn_fre ?a ?l ?c ?k; (case a => k_is); (case l => k_is); (case c => k_is); (case k => k_is))
    (case D_bro => refine' Me.df_mk KX G Me.bn_bro ?a ?l ?c ?k; (case a => k_is); (case l => k_is); (case c => k_is); (case k => k_is))
    (case D_rat => refine' Me.df_mk KX G Me.bn_rat ?a ?l ?c ?k; (case a => k_is); (case l => k_is); (case c => k_is); (case k => k_is))
    (case D_out => refine' Me.df_mk KX G Me.bn_out ?a ?l ?c ?k; (case a => k_is); (case l => k_is); (case c => k_is); (case k => k_is))
    (case D_rte => refine' Me.df_mk KX G Me.bn_rte ?a ?l ?c ?k; (case a => k_is); (case l => k_is); (case c => k_is); (case k => k_is))
    (case D_upp => refine' Me.df_mk KX G Me.bn_upp ?a ?l ?c ?k; (case a => k_is); (case l => k_is); (case c => k_is); (case k => k_is))
    (case D_sta2 => refine' Me.df_mk KX G Me.bn_sta2 ?a ?l ?c ?k; (case a => k_is); (case l => k_is); (case c => k_is); (case k => k_is))
    (case D_blo => refine' Me.df_mk KX G Me.bn_blo ?a ?l ?c ?k; (case a => k_is); (case l => k_is); (case c => k_is); (case k => k_is))
    (case D_mea2 => refine' Me.df_mk KX G Me.bn_mea2 ?a ?l ?c ?k; (case a => k_is); (case l => k_is); (case c => k_is); (case k => k_is))
    (case D_ful => refine' Me.df_mk KX G Me.bn_ful ?a ?l ?c ?k; (case a => k_is); (case l => k_is); (case c => k_is); (case k => k_is))
    (case D_lng => refine' Me.df_mk KX G Me.bn_lng ?a ?l ?c ?k; (case a => k_is); (case l => k_is); (case c => k_is); (case k => k_is))
    (case D_bot => refine' Me.df_mk KX G Me.bn_bot ?a ?l ?c ?k; (case a => k_is); (case l => k_is); (case c => k_is); (case k => k_is))
    (case D_tur => refine' Me.df_mk KX G Me.bn_tur ?a ?l ?c ?k; (case a => k_is); (case l => k_is); (case c => k_is); (case k => k_is))
    (case D_bes => refine' Me.df_mk KX G Me.bn_bes ?a ?l ?c ?k; (case a => k_is); (case l => k_is); (case c => k_is); (case k => k_is))
    (case D_trn => refine' Me.df_mk KX G Me.bn_trn ?a ?l ?c ?k; (case a => k_is); (case l => k_is); (case c => k_is); (case k => k_is))
    (case D_mor => refine' Me.df_mk KX G Me.bn_mor ?a ?l ?c ?k; (case a => k_is); (case l => k_is); (case c => k_is); (case k => k_is))
    (case D_soo => refine' Me.df_mk KX G Me.bn_soo ?a ?l ?c ?k; (case a => k_is); (case l => k_is); (case c => k_is); (case k => k_is))
    (case D_few => refine' Me.df_mk KX G Me.bn_few ?a ?l ?c ?k; (case a => k_is); (case l => k_is); (case c => k_is); (case k => k_is))
    (case D_alo => refine' Me.df_mk KX G Me.bn_alo ?a ?l ?c ?k; (case a => k_is); (case l => k_is); (case c => k_is); (case k => k_is))
    (case D_son => refine' Me.df_mk KX G Me.bn_son ?a ?l ?c ?k; (case a => k_is); (case l => k_is); (case c => k_is); (case k => k_is))
    (case D_fre2 => refine' Me.df_mk KX G Me.bn_fre2 ?a ?l ?c ?k; (case a => k_is); (case l => k_is); (case c => k_is); (case k => k_is))
    (case D_now => refine' Me.df_mk KX G Me.bn_now ?a ?l ?c ?k; (case a => k_is); (case l => k_is); (case c => k_is); (case k => k_is))
    (case D_stt => refine' Me.df_mk KX G Me.bn_stt ?a ?l ?c ?k; (case a => k_is); (case l => k_is); (case c => k_is); (case k => k_is))
    (case D_anw => refine' Me.df_mk KX G Me.bn_anw ?a ?l ?c ?k; (case a => k_is); (case l => k_is); (case c => k_is); (case k => k_is))
    (case D_ans => refine' Me.df_mk KX G Me.bn_ans ?a ?l ?c ?k; (case a => k_is); (case l => k_is); (case c => k_is); (case k => k_is))
    (case e_rat => exact rfl)
    (case e_upp => exact rfl)
    (case e_sta2 => exact rfl)
    (case e_blo => exact rfl)
    (case e_mea2 => exact rfl)
    (case e_ful => exact rfl)
    (case e_bot => exact rfl)
    (case gC => refine' PySem.W.mg_of KX G ?a; (case a => k_is))
    (case hC => refine' Me.sqt_mk ?l ?z ?v; (case l => k_is); (case z => decide); (case v => exact rfl))
    (case gM => refine' PySem.W.mg_of KX G ?a; (case a => k_is))
    (case hM => refine' Me.sqt_mk ?l ?z ?v; (case l => k_is); (case z => decide); (case v => exact rfl))
    (case gZ => refine' PySem.W.mg_of KX G ?a; (case a => k_is))
    (case hZ => refine' Me.sqt_mk ?l ?z ?v; (case l => k_is); (case z => decide); (case v => exact rfl))
    (case nd => decide)
  case zS =>
    intro K tabs H xs a hT hwi hask hx
    cases hx with
    | cons h1 h2 =>
      cases h2
      cases h1 with
      | lst hs ha =>
        have e := L2.ints_dw a.1 _ ha
        subst e
        have q : ((Codec.inLen 0 2400 a.1 && a.1.all (Codec.inInt 0 4294967295)) && true) = true := hwi
        rw [Bool.and_eq_true, Bool.and_eq_true] at q
        refine ⟨_, a.1, rfl, hs, fun z hz => ?_, hask, Me.allT_of hT, fun H' p hp => .lst (L2.SqL.of hp) (L2.dw_ints _)⟩
        exact (Codec.inInt_iff.mp (List.all_eq_true.mp q.1.2 z hz)).1
