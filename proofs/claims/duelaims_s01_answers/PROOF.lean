import PyProof.Rows.All
import Wide.All
import OpenK.AllK
import Wide.FinOn
import PyProof.EqAt
import PyProof.EqKinds
import PyProof.TupleCall
import KE.BitLaws
import KE.RegMulBits
import Open.SpecLaws
import KE.OsHead
import KE.OsGo
import KE.KSortTupG
import KE.KDictSum
import PySem.Challenge.RW_duelaims_s01_answers
set_option Elab.async false
set_option linter.all false
set_option maxRecDepth 100000
namespace L2
open PySem PySem.Spec PyProof.Rows
abbrev Key := Sum Int Str
def keyIs : Key → Value → Bool
  | .inl k, v => Value.isInt k v
  | .inr x, v => Value.isStrOf x v
def keyH (w : World) : Key → Int
  | .inl k => hashInt k
  | .inr x => hashStr w x
theorem keyIs_shape : ∀ {k : Key} {v : Value}, keyIs k v = true → (∃ i t, k = Sum.inl i ∧ v = Value.int i t) ∨ (∃ x t, k = Sum.inr x ∧ v = Value.str x t)
  | .inl i, v, h => by
    obtain ⟨t, e⟩ := Value.isInt_shape (k := i) (v := v) h
    exact .inl ⟨i, t, rfl, e⟩
  | .inr x, v, h => by
    obtain ⟨t, e⟩ := Value.isStrOf_shape (x := x) (v := v) h
    exact .inr ⟨x, t, rfl, e⟩
theorem keyIs_int (i : Int) (t : Tok) : keyIs (.inl i) (.int i t) = true := by simp [keyIs, Value.isInt]
theorem keyIs_str (x : Str) (t : Tok) : keyIs (.inr x) (.str x t) = true := by simp [keyIs, Value.isStrOf]
theorem key_ll (a b : Int) : decide ((Sum.inl a : Key) = Sum.inl b) = (a == b) := by
  by_cases e : a = b
  · subst e; simp
  · have h : ¬ (Sum.inl a : Key) = Sum.inl b := fun q => e (Sum.inl.inj q)
    rw [decide_eq_false h]
    exact (beq_eq_false_iff_ne.mpr e).symm
theorem key_rr (a b : Str) : decide ((Sum.inr a : Key) = Sum.inr b) = decide (a = b) := by
  by_cases e : a = b
  · subst e; simp
  · have h : ¬ (Sum.inr a : Key) = Sum.inr b := fun q => e (Sum.inr.inj q)
    rw [decide_eq_false h, decide_eq_false e]
theorem key_lr (a : Int) (b : Str) : decide ((Sum.inl a : Key) = Sum.inr b) = false := decide_eq_false (fun q => nomatch q)
theorem key_rl (a : Str) (b : Int) : decide ((Sum.inr a : Key) = Sum.inl b) = false := decide_eq_false (fun q => nomatch q)
def mixKind (prog : Program) (w : World) : PySem.KeyKind prog w Key where
  is := keyIs
  hash := keyH w
  inj := fun v a b ha hb => by
    rcases keyIs_shape ha with ⟨i, t, rfl, rfl⟩ | ⟨x, t, rfl, rfl⟩
    · rcases keyIs_shape hb with ⟨j, u, rfl, e⟩ | ⟨y, u, rfl, e⟩
      · injection e with e1 _; rw [e1]
      · exact nomatch e
    · rcases keyIs_shape hb with ⟨j, u, rfl, e⟩ | ⟨y, u, rfl, e⟩
      · exact nomatch e
      · injection e with e1 _; rw [e1]
  byValue := fun k v h => by
    rcases keyIs_shape h with ⟨i, t, rfl, rfl⟩ | ⟨x, t, rfl, rfl⟩ <;> rfl
  pyHash := fun hv h => by
    rcases keyIs_shape hv with ⟨i, t, rfl, rfl⟩ | ⟨x, t, rfl, rfl⟩
    · exact wpAny_pyHash_int h
    · exact wpAny_pyHash_str h
  eqBool := fun hu hv h => by
    rcases keyIs_shape hu with ⟨i, t, rfl, rfl⟩ | ⟨x, t, rfl, rfl⟩
    · rcases keyIs_shape hv with ⟨j, u, rfl, rfl⟩ | ⟨y, u, rfl, rfl⟩
      · rw [key_ll] at h; exact wpAny_eqBool_int h
      · rw [key_lr] at h; exact SeqAt.EqAt.int_str i t y u _ _ _ _ h
    · rcases keyIs_shape hv with ⟨j, u, rfl, rfl⟩ | ⟨y, u, rfl, rfl⟩
      · rw [key_rl] at h; exact SeqAt.EqAt.str_int x t j u _ _ _ _ h
      · rw [key_rr] at h; exact wpAny_eqBool_str h
  «strs» := fun k x t v h => by
    rcases keyIs_shape h with ⟨i, u, rfl, e⟩ | ⟨y, u, rfl, e⟩
    · exact nomatch e
    · injection e with e1 _
      subst e1
      cases v <;> rfl
theorem mixKind_int (prog : Program) (w : World) (i : Int) (t : Tok) : (mixKind prog w).is (.inl i) (.int i t) = true := keyIs_int i t
theorem mixKind_str (prog : Program) (w : World) (x : Str) (t : Tok) : (mixKind prog w).is (.inr x) (.str x t) = true := keyIs_str x t
end L2
namespace L2
open PySem PySem.Spec PyProof.Rows
inductive V where
  | non | bl (b : Bool) | int (i : Int) | str (x : Str) | byt (b : Array UInt8) | flt (b : UInt64) | ref (a : Addr) | ty (n : String)
  deriving DecidableEq
def RelV : V → Value → Prop
  | .non, u => u = Value.none
  | .bl b, u => u = Value.bool b
  | .int i, u => ∃ t, u = Value.int i t
  | .str x, u => ∃ t, u = Value.str x t
  | .byt b, u => ∃ t, u = Value.bytes b t
  | .flt b, u => ∃ t, u = Value.float b t
  | .ref a, u => u = Value.ref a
  | .ty n, u => u = Value.type n
abbrev Vals : List V → List Value → Prop := Paired RelV
theorem Vals.length {xs : List V} {us : List Value} (r : Vals xs us) : xs.length = us.length := Paired.length r
theorem Vals.get : ∀ {xs : List V} {us : List Value} {i : Nat} {x : V}, Vals xs us → xs[i]? = some x → ∃ u, us[i]? = some u ∧ RelV x u
  | _, _, _, _, .nil, e => by simp at e
  | _, _, 0, _, .cons r _, e => by simp at e; subst e; exact ⟨_, rfl, r⟩
  | _, _, i + 1, x, .cons _ t, e => by
    obtain ⟨u, h1, h2⟩ := Vals.get (i := i) (x := x) t (by simpa using e)
    exact ⟨u, by simpa using h1, h2⟩
theorem Vals.set {x : V} {u : Value} (r : RelV x u) : ∀ {xs : List V} {us : List Value} (i : Nat), Vals xs us → Vals (xs.set i x) (us.set i u)
  | _, _, _, .nil => .nil
  | _, _, 0, .cons _ t => .cons r t
  | _, _, i + 1, .cons q t => .cons q (Vals.set r i t)
theorem Vals.append : ∀ {xs ys : List V} {us ws : List Value}, Vals xs us → Vals ys ws → Vals (xs ++ ys) (us ++ ws)
  | _, _, _, _, .nil, s => s
  | _, _, _, _, .cons r t, s => .cons r (Vals.append t s)
theorem Vals.take : ∀ {xs : List V} {us : List Value} (n : Nat), Vals xs us → Vals (xs.take n) (us.take n)
  | _, _, 0, _ => .nil
  | _, _, _ + 1, .nil => .nil
  | _, _, n + 1, .cons r t => .cons r (Vals.take n t)
theorem Vals.drop : ∀ {xs : List V} {us : List Value} (n : Nat), Vals xs us → Vals (xs.drop n) (us.drop n)
  | _, _, 0, r => r
  | _, _, _ + 1, .nil => .nil
  | _, _, n + 1, .cons _ t => Vals.drop n t
def RelO : Option V → Option Value → Prop
  | some v, some u => RelV v u
  | none, none => True
  | _, _ => False
def KV {κ : Type} : List (κ × V) → List (κ × Value) → Prop := Paired fun (p : κ × V) (q : κ × Value) => p.1 = q.1 ∧ RelV p.2 q.2
def kV : Key → V
  | .inl i => .int i
  | .inr x => .str x
inductive HO where
  /-- a list -/
  | lst (xs : List V)
  /-- a tuple (never changes) -/
  | tup (xs : List V)
  /-- a dict whose keys are ints and texts; one whose keys are tuples of ints and texts (the empty one is both) -/
  | dK (kvs : List (Key × V)) | dT (kvs : List (List Key × V))
  /-- a set of ints: its members, its size -/
  | set (S : Int → Bool) (n : Nat)
  /-- an instance of the class at C, its dict at dx, its attributes -/
  | ins (C dx : Addr) (fs : List (Str × V))
  /-- the dict of the instance at x -/
  | own (x : Addr)
  /-- the dict of an exception -/
  | xd (fs : List (Str × V))
  /-- a bound method, f of x -/
  | met (f x : Addr)
  /-- a range object lo, lo + 1, .. below hi -/
  | rng (lo hi : Int)
  /-- a thing that is known to the object (the script; a dict while a loop walks it): read, never written while it is so -/
  | frz (o : Obj) (u : HO)
  /-- a code object's table -/
  | tbl (ps : Array Value)
  /-- any other thing, by what is true of its one object (a def of one's own: SetO a S n := HO.ext fun h => ..) -/
  | ext (φ : Heap → Prop)
abbrev Hp := Addr → Option HO
def upd (H : Hp) (a : Addr) (o : HO) : Hp := fun b => if b = a then some o else H b
theorem upd_same {H : Hp} {a : Addr} {o : HO} : upd H a o a = some o := by unfold upd; rw [if_pos rfl]
theorem upd_ne {H : Hp} {a b : Addr} {o : HO} (h : b ≠ a) : upd H a o b = H b := by unfold upd; rw [if_neg h]
theorem ne_of {H : Hp} {a b : Addr} {o u : HO} (h : H a = some o) (h' : H b = some u) (d : o ≠ u) : a ≠ b := by
  intro e; subst e; rw [h] at h'; exact d (Option.some.inj h')
theorem ne_of_none {H : Hp} {a b : Addr} {o : HO} (h : H a = some o) (h' : H b = none) : a ≠ b := by
  intro e; subst e; rw [h] at h'; cases h'
section
variable (P : Program) (w : World)
def ObjOk (H : Hp) (h : Heap) (a : Addr) : HO → Prop
  | .lst xs => xs.length ≤ sizeLine ∧ ∃ (its : List Value) (n : Nat), Vals xs its ∧ h.get? a = some { cls := .type "list", data := .seq its.toArray n }
  | .tup xs => xs.length ≤ sizeLine ∧ ∃ its : List Value, Vals xs its ∧ IsTup h a its.toArray
  | .dK kvs => kvs.length ≤ sizeLine ∧ (a == sysModules) = false ∧ ∃ vs, KV kvs vs ∧ h.DictOf (mixKind P w) a vs
  | .dT kvs => kvs.length ≤ sizeLine ∧ (a == sysModules) = false ∧ ∃ xs : List (List Key × Addr × Value),
      Paired (fun (p : List Key × V) (q : List Key × Addr × Value) => p.1 = q.1 ∧ H q.2.1 = some (.tup (p.1.map kV)) ∧ RelV p.2 q.2.2) kvs xs ∧
      ∃ o es ep, h.get? a = some o ∧ o.ExactDict ∧ o.data = .dict es ep ∧ es.toList = xs.map (entryOfKey (tupleKind (mixKind P w))) ∧ (xs.map (·.1)).Nodup
  | .set S n => h.SetOf (intKind P w) a S n
  | .ins C dx fs => H dx = some (.own a) ∧ fs.length ≤ 1000 ∧ dx ≠ a ∧ h.get? a = some (PySem.W.instObj C dx) ∧
      ∃ mA, h.Ns1 dx mA ∧ (∀ f, RelO (fs.lookup f) (mA f)) ∧ PySem.Within mA (fs.map (·.1))
  | .own _ => ∃ o, h.get? a = some o
  | .xd fs => ∃ mA, h.Ns1 a mA ∧ ∀ f, RelO (fs.lookup f) (mA f)
  | .rng lo hi => ∃ t u v, h.get? a = some { cls := .type "range", data := .fields #[.int lo t, .int hi u, .int 1 v] }
  | .frz o u => h.get? a = some o ∧ ObjOk H h a u
  | .tbl ps => h.get? a = some { cls := .none, data := .fields ps }
  | .met f x => h.get? a = some (PySem.W.methodObj (.ref f) (.ref x))
  | .ext φ => φ h ∧ (∃ o, h.get? a = some o) ∧ ∀ h1 h2 : Heap, φ h1 → (∀ o, h1.get? a = some o → h2.get? a = some o) → φ h2
def HOk (H : Hp) (h : Heap) : Prop := ∀ a o, H a = some o → ObjOk P w H h a o
end
section
variable {P : Program} {w : World} {H H' : Hp} {h h' : Heap} {a : Addr} {o : HO}
theorem ObjOk.lt (x : ObjOk P w H h a o) : a < h.objs.size := by
  cases o with
  | lst xs => obtain ⟨_, _, _, _, e⟩ := x; exact Heap.lt_size e
  | tup xs => obtain ⟨_, _, _, p⟩ := x; exact p.lt
  | dK kvs => obtain ⟨_, _, _, _, o, _, _, e, _⟩ := x; exact Heap.lt_size e
  | dT kvs => obtain ⟨_, _, _, _, o, _, _, e, _⟩ := x; exact Heap.lt_size e
  | set S n => obtain ⟨o, _, _, _, e, _⟩ := x; exact Heap.lt_size e
  | ins C dx fs => obtain ⟨_, _, _, e, _⟩ := x; exact Heap.lt_size e
  | own y => obtain ⟨_, e⟩ := x; exact Heap.lt_size e
  | xd fs => obtain ⟨_, ⟨_, _, _, e, _⟩, _⟩ := x; exact Heap.lt_size e
  | rng lo hi => obtain ⟨_, _, _, e⟩ := x; exact Heap.lt_size e
  | frz ob u => obtain ⟨e, _⟩ := x; exact Heap.lt_size e
  | tbl ps => exact Heap.lt_size (show h.get? a = some _ from x)
  | met f y => exact Heap.lt_size (show h.get? a = some _ from x)
  | ext φ => obtain ⟨_, ⟨_, e⟩, _⟩ := x; exact Heap.lt_size e
theorem Paired.mapP {α β : Type} {F G : α → β → Prop} : ∀ {l₁ : List α} {l₂ : List β}, Paired F l₁ l₂ → (∀ a b, F a b → G a b) → Paired G l₁ l₂
  | _, _, .nil, _ => .nil
  | _, _, .cons r t, f => .cons (f _ _ r) (Paired.mapP t f)
theorem ObjOk.stay (x : ObjOk P w H h a o) (k : ∀ b u, (b = a ∨ H b = some (.own a)) → h.get? b = some u → h'.get? b = some u)
    (ho : ∀ b, H b = some (.own a) → H' b = some (.own a)) (ht : ∀ b xs, H b = some (.tup xs) → H' b = some (.tup xs)) : ObjOk P w H' h' a o := by
  induction o with
  | lst xs => obtain ⟨z, its, n, r, e⟩ := x; exact ⟨z, its, n, r, k _ _ (.inl rfl) e⟩
  | tup xs => obtain ⟨z, its, r, ob, e, c⟩ := x; exact ⟨z, its, r, ob, k _ _ (.inl rfl) e, c⟩
  | dK kvs => obtain ⟨z, y, vs, r, ob, es, ep, e, c⟩ := x; exact ⟨z, y, vs, r, ob, es, ep, k _ _ (.inl rfl) e, c⟩
  | dT kvs =>
    obtain ⟨z, y, xs, r, ob, es, ep, e, c⟩ := x
    exact ⟨z, y, xs, Paired.mapP r fun p q z => ⟨z.1, ht _ _ z.2.1, z.2.2⟩, ob, es, ep, k _ _ (.inl rfl) e, c⟩
  | set S n => obtain ⟨ob, es, ep, t, e, c⟩ := x; exact ⟨ob, es, ep, t, k _ _ (.inl rfl) e, c⟩
  | ins C dx fs =>
    obtain ⟨d, z, ne, e, mA, ⟨od, es, ep, e2, c⟩, r⟩ := x
    exact ⟨ho _ d, z, ne, k _ _ (.inl rfl) e, mA, ⟨od, es, ep, k _ _ (.inr d) e2, c⟩, r⟩
  | own y => obtain ⟨ob, e⟩ := x; exact ⟨ob, k _ _ (.inl rfl) e⟩
  | xd fs => obtain ⟨mA, ⟨od, es, ep, e, c⟩, r⟩ := x; exact ⟨mA, ⟨od, es, ep, k _ _ (.inl rfl) e, c⟩, r⟩
  | rng lo hi => obtain ⟨t, u, v, e⟩ := x; exact ⟨t, u, v, k _ _ (.inl rfl) e⟩
  | frz ob u ih => obtain ⟨e, q⟩ := x; exact ⟨k _ _ (.inl rfl) e, ih q⟩
  | tbl ps =>
    have e : h.get? a = some { cls := .none, data := .fields ps } := x
    show h'.get? a = some { cls := .none, data := .fields ps }
    exact k a _ (.inl rfl) e
  | met f y =>
    have e : h.get? a = some (PySem.W.methodObj (.ref f) (.ref y)) := x
    show h'.get? a = some (PySem.W.methodObj (.ref f) (.ref y))
    exact k a _ (.inl rfl) e
  | ext φ => obtain ⟨p, ⟨o, e⟩, st⟩ := x; exact ⟨st _ _ p fun o q => k _ _ (.inl rfl) q, ⟨o, k _ _ (.inl rfl) e⟩, st⟩
theorem HOk.lt (x : HOk P w H h) (e : H a = some o) : a < h.objs.size := (x a o e).lt
theorem HOk.fresh (x : HOk P w H h) (e : h.objs.size ≤ a) : H a = none := by
  cases q : H a with
  | none => rfl
  | some u => exact absurd (Nat.lt_of_lt_of_le (x.lt q) e) (Nat.lt_irrefl _)
theorem HOk.kept (x : HOk P w H h) (k : ∀ b u, h.get? b = some u → h'.get? b = some u) : HOk P w H h' := fun a o e =>
  (x a o e).stay (fun b u _ q => k b u q) (fun _ q => q) fun _ _ q => q
theorem HOk.laid (x : HOk P w H h) (k : ∀ b u, h.get? b = some u → h'.get? b = some u) (hp : h.objs.size ≤ a) (new : ObjOk P w (upd H a o) h' a o) : HOk P w (upd H a o) h' := fun b u e => by
  have hn := x.fresh hp
  by_cases hb : b = a
  · subst hb; rw [upd_same] at e; cases e; exact new
  · rw [upd_ne hb] at e
    exact (x b u e).stay (fun c v _ q => k c v q) (fun c q => by rw [upd_ne (ne_of_none q hn)]; exact q) fun c xs q => by rw [upd_ne (ne_of_none q hn)]; exact q
end
def Rd (H : Hp) (a : Addr) (u : HO) : Prop := H a = some u ∨ ∃ o, H a = some (.frz o u)
theorem Rd.of {H : Hp} {a : Addr} {u : HO} (h : H a = some u) : Rd H a u := .inl h
theorem Rd.ok {P : Program} {w : World} {H : Hp} {h : Heap} {a : Addr} {u : HO} (r : Rd H a u) (x : HOk P w H h) : ObjOk P w H h a u := by
  rcases r with r | ⟨o, r⟩
  · exact x a u r
  · obtain ⟨_, q⟩ := x a _ r
    exact q
def Mut : Option HO → Prop
  | some (.lst _) => True
  | some (.dK _) => True
  | some (.dT _) => True
  | some (.set _ _) => True
  | some (.ins _ _ _) => True
  | some (.ext _) => True
  | _ => False
section
variable {P : Program} {w : World} {H : Hp} {h h' : Heap} {x e : Addr} {o' : HO}
theorem HOk.write (ok : HOk P w H h) (mu : Mut (H x)) (he : e = x ∨ H e = some (.own x)) (k : ∀ b u, b ≠ e → h.get? b = some u → h'.get? b = some u) (heo : ∃ u, h'.get? e = some u)
    (new : ObjOk P w (upd H x o') h' x o') : HOk P w (upd H x o') h' := fun b u q => by
  have nown : ∀ c y, H c = some (.own y) → c ≠ x := fun c y r z => by subst z; rw [r] at mu; exact mu
  have ntup : ∀ c xs, H c = some (.tup xs) → c ≠ x := fun c xs r z => by subst z; rw [r] at mu; exact mu
  by_cases hb : b = x
  · subst hb; rw [upd_same] at q; cases q; exact new
  · rw [upd_ne hb] at q
    by_cases hbe : b = e
    · have q' : H b = some (.own x) := by
        rcases he with z | z
        · exact absurd (hbe.trans z) hb
        · rw [hbe]; exact z
      rw [q] at q'; cases q'
      obtain ⟨v, hv⟩ := heo
      exact ⟨v, by rw [hbe]; exact hv⟩
    · refine (ok b u q).stay (fun c v hc r => k c v ?_ r) (fun c r => by rw [upd_ne (nown c b r)]; exact r) fun c xs r => by rw [upd_ne (ntup c xs r)]; exact r
      rcases hc with rfl | hc
      · exact hbe
      · rintro rfl
        rcases he with z | z
        · exact nown c b hc z
        · rw [hc] at z; cases z; exact hb rfl
end
structure Un (fs ex : List Addr) (H H' : Hp) (h h' : Heap) : Prop where
  keep : ∀ b o, h.get? b = some o → H b = none → b ∉ fs → b ∉ ex → h'.get? b = some o
  slot : ∀ b o, h.get? b = some o → H b = none → b ∈ fs → b ∉ ex → ∃ sl, h'.get? b = some { o with slots := sl }
  free : ∀ b o, h.get? b = some o → H b = none → b ∉ ex → H' b = none
  there : ∀ b o, h.get? b = some o → b ∉ ex → ∃ o', h'.get? b = some o'
  tups : ∀ b xs, H b = some (.tup xs) → H' b = some (.tup xs)
  frzs : ∀ b o u, H b = some (.frz o u) → H' b = some (.frz o u)
  tbls : ∀ b ps, H b = some (.tbl ps) → ∃ more, H' b = some (.tbl (ps ++ more))
section
variable {fs fs' ex ex' : List Addr} {H H1 H2 : Hp} {h h1 h2 h' : Heap} {a x e : Addr} {o : HO}
theorem Un.any (u : Un fs ex H H1 h h1) {b : Addr} {ob : Obj} (q : h.get? b = some ob) (n : H b = none) (hx : b ∉ ex) : ∃ sl, h1.get? b = some { ob with slots := sl } := by
  by_cases hb : b ∈ fs
  · exact u.slot b ob q n hb hx
  · exact ⟨ob.slots, u.keep b ob q n hb hx⟩
theorem Un.trans (a : Un fs ex H H1 h h1) (b : Un fs ex H1 H2 h1 h2) : Un fs ex H H2 h h2 where
  keep := fun c ob q n hc hx => b.keep c ob (a.keep c ob q n hc hx) (a.free c ob q n hx) hc hx
  slot := fun c ob q n hc hx => by
    obtain ⟨sl, e1⟩ := a.slot c ob q n hc hx
    obtain ⟨sl', e2⟩ := b.slot c _ e1 (a.free c ob q n hx) hc hx
    exact ⟨sl', e2⟩
  free := fun c ob q n hx => by
    obtain ⟨o', e1⟩ := a.there c ob q hx
    exact b.free c o' e1 (a.free c ob q n hx) hx
  there := fun c ob q hx => by
    obtain ⟨o', e1⟩ := a.there c ob q hx
    exact b.there c o' e1 hx
  tups := fun c xs q => b.tups c xs (a.tups c xs q)
  frzs := fun c ob xs q => b.frzs c ob xs (a.frzs c ob xs q)
  tbls := fun c ps q => by
    obtain ⟨m1, e1⟩ := a.tbls c ps q
    obtain ⟨m2, e2⟩ := b.tbls c _ e1
    exact ⟨m1 ++ m2, by rw [e2, Array.append_assoc]⟩
theorem Un.kept (k : ∀ b u, h.get? b = some u → h'.get? b = some u) : Un fs ex H H h h' :=
  ⟨fun b ob q _ _ _ => k b ob q, fun b ob q _ _ _ => ⟨ob.slots, k b ob q⟩, fun _ _ _ n _ => n, fun b ob q _ => ⟨ob, k b ob q⟩, fun _ _ q => q, fun _ _ _ q => q, fun _ ps q => ⟨#[], by rw [q]; simp⟩⟩
theorem Un.refl : Un fs ex H H h h := Un.kept fun _ _ q => q
theorem Un.laid (k : ∀ b u, h.get? b = some u → h'.get? b = some u) (hp : h.objs.size ≤ a) (hn : H a = none) : Un fs ex H (upd H a o) h h' where
  keep := fun b u q _ _ _ => k b u q
  slot := fun b u q _ _ _ => ⟨u.slots, k b u q⟩
  free := fun b u q n _ => by rw [upd_ne (Nat.ne_of_lt (Nat.lt_of_lt_of_le (Heap.lt_size q) hp))]; exact n
  there := fun b u q _ => ⟨u, k b u q⟩
  tups := fun b xs q => by rw [upd_ne (ne_of_none q hn)]; exact q
  frzs := fun b u xs q => by rw [upd_ne (ne_of_none q hn)]; exact q
  tbls := fun b ps q => ⟨#[], by rw [upd_ne (ne_of_none q hn), q]; simp⟩
theorem Un.write (mu : Mut (H x)) (he : e = x ∨ H e = some (.own x)) (k : ∀ b u, b ≠ e → h.get? b = some u → h'.get? b = some u) (heo : ∃ u, h'.get? e = some u) : Un fs ex H (upd H x o) h h' := by
  have hx : ∀ b, H b = none → b ≠ x := fun b n z => by subst z; rw [n] at mu; exact mu
  have hb : ∀ b, H b = none → b ≠ e := fun b n z => by
    subst z
    rcases he with r | r
    · exact hx b n r
    · rw [n] at r; cases r
  have hm : ∀ b u, H b = some u → ¬ Mut (some u) → b ≠ x := fun b u q nm z => by subst z; rw [q] at mu; exact nm mu
  refine ⟨fun b u q n _ _ => k b u (hb b n) q, fun b u q n _ _ => ⟨u.slots, k b u (hb b n) q⟩, fun b u q n _ => by rw [upd_ne (hx b n)]; exact n, fun b u q _ => ?_,
    fun b xs q => by rw [upd_ne (hm b _ q fun z => z)]; exact q, fun b u xs q => by rw [upd_ne (hm b _ q fun z => z)]; exact q, fun b ps q => ⟨#[], by rw [upd_ne (hm b _ q fun z => z), q]; simp⟩⟩
  by_cases hbe : b = e
  · subst hbe; exact heo
  · exact ⟨u, k b u hbe q⟩
theorem Un.mono (u : Un fs ex H H1 h h1) (hs : ∀ b ∈ fs, b ∈ fs') (hx : ∀ b ∈ ex, b ∈ ex') : Un fs' ex' H H1 h h1 :=
  ⟨fun b ob q n hb he => u.keep b ob q n (fun z => hb (hs b z)) fun z => he (hx b z), fun _ _ q n _ he => u.any q n fun z => he (hx _ z), fun b ob q n he => u.free b ob q n fun z => he (hx b z), fun b ob q he => u.there b ob q fun z => he (hx b z), u.tups, u.frzs, u.tbls⟩
end
def trk (h : Heap) (H : Hp) : List Addr := (List.range h.objs.size).filter fun a => (H a).isSome
def hidT (h : Heap) (H : Hp) : Heap := PySem.W.hideAll h (trk h H)
theorem hidT_size (h : Heap) (H : Hp) : (hidT h H).objs.size = h.objs.size := PySem.W.hideAll_size _ _
theorem hidT_get {h : Heap} {H : Hp} {b : Addr} {o : Obj} (e : h.get? b = some o) (n : H b = none) : (hidT h H).get? b = some o :=
  PySem.W.hideAll_get _ e fun hm => by
    have q : (H b).isSome = true := (List.mem_filter.mp hm).2
    rw [n] at q; simp at q
theorem of_hidT {h : Heap} {H : Hp} {b : Addr} {o : Obj} (e : (hidT h H).get? b = some o) : h.get? b = some o ∧ H b = none := by
  have e' : h.get? b = some o := PySem.W.of_hideAll (trk h H) e
  refine ⟨e', ?_⟩
  cases q : H b with
  | none => rfl
  | some x =>
    have hm : b ∈ trk h H := List.mem_filter.mpr ⟨List.mem_range.mpr (Heap.lt_size e'), by simp [q]⟩
    have z : (hidT h H).get? b = none := PySem.W.hideAll_none (trk h H) hm
    rw [z] at e; cases e
def allNews (g h : Heap) (L : Addr) : List (Addr × Obj) := (List.range h.objs.size).filterMap fun a => if a = L ∨ (g.get? a).isSome = true then none else (h.get? a).map fun o => (a, o)
def rest (g h : Heap) (L d : Addr) : List (Addr × Obj) := (allNews g h L).filter fun p => decide (p.1 ≠ d)
end L2
namespace L2
open PySem PySem.Spec PyProof.Rows
structure Mod (K : PySem.W.Frag) (mg : Str → Option Value) (base : Heap) : Prop where
  kin : K.In base
  glob : base.Ns mainGlobals mg
  blt : ∃ mb, base.Ns builtinsNs mb ∧ ∀ x : Str, x ≠ "__name__" → mb x = bootBuiltins x
  nolimit : base.NoLimit
structure Cx where
  prog : Program
  w : World
  K : PySem.W.Frag
  mg : Str → Option Value
  base : Heap
  A : Around
  N : List Str
  s_0 : Shared
  H_0 : Hp
  env : Env
  outer : List Env
  stack : List Env
  ex : List Addr
  fn : Str → Bool
  calm : Bool
  pn : List (Addr × Obj)
  xe : Value → Shared → Prop
def frs (l : List Env) : List Addr := l.filterMap (·.frame)
abbrev Cx.fs (X : Cx) : List Addr := frs X.outer
def Vis (sc : Scope) (x : Str) : Prop := sc.names.lookup x = some .local ∨ sc.names.lookup x = some .cell ∨ sc.names.lookup x = some .free
def Loc (sc : Scope) (x : Str) : Prop := sc.names.lookup x = some .local ∨ sc.names.lookup x = some .cell
def Look (env : Env) (h : Heap) (m : Str → Option Value) (x : Str) (u : Value) : Prop :=
  (env.kindOf x = some .local ∧ m x = some u) ∨ ((env.kindOf x = some .cell ∨ env.kindOf x = some .free) ∧ ∃ c, env.cells.lookup x = some c ∧ h.IsCell c (some u))
structure Cx.Ok (X : Cx) : Prop where
  mod : Mod X.K X.mg X.base
  kind : X.env.scope.kind = .function
  glob : X.env.globals = mainGlobals
  blt : X.env.builtins = builtinsNs
  above : X.s_0.heap.objs.size ≤ X.env.locals
  inj : ∀ x y c, X.env.cells.lookup x = some c → X.env.cells.lookup y = some c → x = y
  has : ∀ x, (X.env.kindOf x = some .cell ∨ X.env.kindOf x = some .free) → ∃ c, X.env.cells.lookup x = some c
  cab : ∀ x c, X.fn x = true → X.env.cells.lookup x = some c → X.s_0.heap.objs.size ≤ c
  hd : X.calm = true → X.A.handled = none
  frames : X.A.frames = some X.stack
  stk : X.stack = X.outer ∨ (X.stack = X.env :: X.outer ∧ X.env.frame = some X.env.locals)
  exf : ∀ b ∈ X.ex, b ≠ X.env.locals ∧ ∀ x c, X.env.cells.lookup x = some c → c ≠ b
  bs : ∀ b o, X.base.get? b = some o → X.s_0.heap.get? b = some o ∧ X.H_0 b = none
  bsz : X.base.objs.size ≤ X.s_0.heap.objs.size
  noex : ∀ b o, X.base.get? b = some o → b ∉ X.ex
  exfs : ∀ b ∈ X.ex, b ∉ X.fs
  funs : X.s_0.heap.FunFrames X.base X.outer
  frf : ∀ b ∈ X.fs, X.H_0 b = none
structure Inv (X : Cx) (pins : List (Addr × Obj)) (σ : List (Option V)) (H : Hp) (s : Shared) : Prop where
  ok : X.Ok
  os : s.os = X.s_0.os
  bare : AllBare s.gens
  base : Un X.fs X.ex X.H_0 H X.s_0.heap s.heap
  loc : ∃ m, s.heap.Ns X.env.locals m ∧ ∀ (i : Nat) (x : Str) (v : V), X.N[i]? = some x → σ[i]? = some (some v) → Vis X.env.scope x → ∃ u, RelV v u ∧ Look X.env s.heap m x u
  cell : ∀ x c, X.env.cells.lookup x = some c → ∃ v, s.heap.IsCell c v
  free : H X.env.locals = none
  freeC : ∀ x c, X.env.cells.lookup x = some c → H c = none
  pin : ∀ p ∈ X.pn ++ pins, s.heap.get? p.1 = some p.2 ∧ H p.1 = none ∧ p.1 ≠ X.env.locals ∧ p.1 ∉ X.fs ∧ ∀ v, p.2.data ≠ .cell v
  hok : HOk X.prog X.w H s.heap
  len : σ.length = X.N.length
section
variable {X : Cx} {pins : List (Addr × Obj)} {σ : List (Option V)} {H H' : Hp} {s : Shared} {h' : Heap}
theorem Cx.Ok.nofr (ok : X.Ok) {b : Addr} {o : Obj} (e : X.base.get? b = some o) : b ∉ X.fs := fun hb => by
  have := (ok.funs.mem hb).1
  rw [e] at this; cases this
theorem Inv.bs (I : Inv X pins σ H s) : ∀ b o, X.base.get? b = some o → s.heap.get? b = some o ∧ H b = none := fun b o e =>
  ⟨I.base.keep b o (I.ok.bs b o e).1 (I.ok.bs b o e).2 (I.ok.nofr e) (I.ok.noex b o e), I.base.free b o (I.ok.bs b o e).1 (I.ok.bs b o e).2 (I.ok.noex b o e)⟩
theorem Inv.bk (I : Inv X pins σ H s) : ∀ b o, X.base.get? b = some o → s.heap.get? b = some o := fun b o e => (I.bs b o e).1
theorem Inv.mod (I : Inv X pins σ H s) : Mod X.K X.mg X.base := I.ok.mod
theorem Inv.kIn (I : Inv X pins σ H s) : X.K.In s.heap := I.ok.mod.kin.keeps I.bk
theorem Inv.nolimit (I : Inv X pins σ H s) : s.heap.NoLimit := I.ok.mod.nolimit.keeps I.bk
theorem Inv.fr (I : Inv X pins σ H s) : ∃ m, Fr X.base X.env.locals s.heap m :=
  let ⟨m, hn, _⟩ := I.loc
  ⟨m, hn, I.bk, Nat.le_trans I.ok.bsz I.ok.above⟩
theorem Inv.lt (I : Inv X pins σ H s) : X.env.locals < s.heap.objs.size := let ⟨_, hn, _⟩ := I.loc; hn.lt
theorem Inv.sz (I : Inv X pins σ H s) : X.s_0.heap.objs.size ≤ s.heap.objs.size := Nat.le_trans I.ok.above (Nat.le_of_lt I.lt)
theorem Inv.nofs (I : Inv X pins σ H s) {a : Addr} (h : s.heap.objs.size ≤ a) : a ∉ X.fs := fun hb => by
  obtain ⟨_, o, ho, _⟩ := I.ok.funs.mem hb
  exact absurd (Nat.lt_of_lt_of_le (Heap.lt_size ho) (Nat.le_trans I.sz h)) (Nat.lt_irrefl _)
theorem Inv.cne (I : Inv X pins σ H s) : ∀ x c, X.env.cells.lookup x = some c → c ≠ X.env.locals := fun x c e z => by
  obtain ⟨v, o, ho, hd⟩ := I.cell x c e
  obtain ⟨m, ⟨o', es, ep, ho', hd', _⟩, _⟩ := I.loc
  rw [z, ho'] at ho; cases ho; rw [hd'] at hd; cases hd
theorem Inv.funs (I : Inv X pins σ H s) : s.heap.FunFrames X.base X.outer := by
  have all : ∀ (l : List Env), (∀ b ∈ frs l, b ∈ X.fs) → X.s_0.heap.FunFrames X.base l → s.heap.FunFrames X.base l := by
    intro l
    induction l with
    | nil => intro _ _; trivial
    | cons env r ih =>
      intro hs hl
      obtain ⟨hk, ⟨L, o, hf, hn, ho, hd⟩, hr⟩ := hl
      have hL : L ∈ X.fs := hs L (by unfold frs; rw [List.filterMap_cons, hf]; exact List.mem_cons_self)
      obtain ⟨sl, e⟩ := I.base.slot L o ho (I.ok.frf L hL) hL fun z => I.ok.exfs L z hL
      exact ⟨hk, ⟨L, _, hf, hn, e, hd⟩, ih (fun b hb => hs b (by unfold frs; rw [List.filterMap_cons, hf]; exact List.mem_cons_of_mem _ hb)) hr⟩
  exact all X.outer (fun _ hb => hb) I.ok.funs
theorem Inv.stack (I : Inv X pins σ H s) : s.heap.FunFrames X.base X.stack := by
  rcases I.ok.stk with e | ⟨e, hf⟩
  · rw [e]; exact I.funs
  · rw [e]
    obtain ⟨m, hn, _⟩ := I.loc
    refine .cons (by rw [I.ok.kind]; decide) hf hn ?_ I.funs
    exact Heap.get?_none_of_le (Nat.le_trans I.ok.bsz I.ok.above)
theorem Inv.stkSub (I : Inv X pins σ H s) : ∀ b ∈ frs X.stack, b ∈ X.env.locals :: X.fs := fun b hb => by
  rcases I.ok.stk with e | ⟨e, hf⟩
  · rw [e] at hb; exact List.mem_cons_of_mem _ hb
  · rw [e] at hb
    unfold frs at hb
    rw [List.filterMap_cons, hf] at hb
    exact hb
theorem Inv.stkFree (I : Inv X pins σ H s) : ∀ b ∈ frs X.stack, H b = none := fun b hb => by
  rcases List.mem_cons.mp (I.stkSub b hb) with e | hb
  · rw [e]; exact I.free
  · obtain ⟨_, o, ho, _⟩ := I.ok.funs.mem hb
    exact I.base.free b o ho (I.ok.frf b hb) fun z => I.ok.exfs b z hb
theorem Inv.step {g' : Array GenState} {t' : Nat} {d' : Drawn} {ch : List Addr} (I : Inv X pins σ H s)
    (hch : ∀ b ∈ ch, (b ∈ X.ex ∨ X.s_0.heap.objs.size ≤ b) ∧ b ≠ X.env.locals ∧ (∀ x c, X.env.cells.lookup x = some c → c ≠ b) ∧ ∀ p ∈ X.pn ++ pins, p.1 ≠ b)
    (keep : ∀ b o, b ≠ X.env.locals → b ∉ X.fs → b ∉ ch → s.heap.get? b = some o → H b = none → h'.get? b = some o)
    (slot : ∀ b o, b ≠ X.env.locals → b ∈ X.fs → b ∉ ch → s.heap.get? b = some o → H b = none → ∃ sl, h'.get? b = some { o with slots := sl }) (free : ∀ b o, b ∉ ch → s.heap.get? b = some o → H b = none → H' b = none)
    (there : ∀ b o, b ∉ ch → s.heap.get? b = some o → ∃ o', h'.get? b = some o')
    (tups : ∀ b xs, H b = some (.tup xs) → H' b = some (.tup xs)) (frzs : ∀ b o u, H b = some (.frz o u) → H' b = some (.frz o u)) (tbls : ∀ b ps, H b = some (.tbl ps) → ∃ more, H' b = some (.tbl (ps ++ more)))
    (ns : ∀ m, s.heap.Ns X.env.locals m → h'.Ns X.env.locals m) (hok : HOk X.prog X.w H' h') (hg : AllBare g') :
    Inv X pins σ H' { s with heap := h', gens := g', drawn := d', toks := t' } := by
  have neL : ∀ b o, X.s_0.heap.get? b = some o → b ≠ X.env.locals := fun b o e => Nat.ne_of_lt (Nat.lt_of_lt_of_le (Heap.lt_size e) I.ok.above)
  have neC : ∀ b o, X.s_0.heap.get? b = some o → b ∉ X.ex → b ∉ ch := fun b o e hx hb => by
    rcases (hch b hb).1 with z | z
    · exact hx z
    · exact absurd (Nat.lt_of_lt_of_le (Heap.lt_size e) z) (Nat.lt_irrefl _)
  have cellK : ∀ x c, X.env.cells.lookup x = some c → ∀ v, s.heap.IsCell c v → h'.IsCell c v := fun x c e v ⟨o, ho, hd⟩ => by
    have nch : c ∉ ch := fun z => (hch c z).2.2.1 x c e rfl
    by_cases hc : c ∈ X.fs
    · obtain ⟨sl, q⟩ := slot c o (I.cne x c e) hc nch ho (I.freeC x c e)
      exact ⟨_, q, hd⟩
    · exact ⟨o, keep c o (I.cne x c e) hc nch ho (I.freeC x c e), hd⟩
  refine ⟨I.ok, I.os, hg, ⟨fun b o e n hb hx => ?_, fun b o e n hb hx => ?_, fun b o e n hx => ?_, fun b o e hx => ?_, fun b xs e => tups b xs (I.base.tups b xs e), fun b o xs e => frzs b o xs (I.base.frzs b o xs e), fun b ps e => ?_⟩, ?_, fun x c e => ?_, ?_, fun x c e => ?_, fun p hp => ?_, hok, I.len⟩
  · exact keep b o (neL b o e) hb (neC b o e hx) (I.base.keep b o e n hb hx) (I.base.free b o e n hx)
  · obtain ⟨sl, e1⟩ := I.base.slot b o e n hb hx
    obtain ⟨sl', e2⟩ := slot b _ (neL b o e) hb (neC b o e hx) e1 (I.base.free b o e n hx)
    exact ⟨sl', e2⟩
  · obtain ⟨o', e1⟩ := I.base.there b o e hx
    exact free b o' (neC b o e hx) e1 (I.base.free b o e n hx)
  · obtain ⟨o', e1⟩ := I.base.there b o e hx
    exact there b o' (neC b o e hx) e1
  · obtain ⟨m1, e1⟩ := I.base.tbls b ps e
    obtain ⟨m2, e2⟩ := tbls b _ e1
    exact ⟨m1 ++ m2, by rw [e2, Array.append_assoc]⟩
  · obtain ⟨m, hn, hl⟩ := I.loc
    refine ⟨m, ns m hn, fun i x v e1 e2 e3 => ?_⟩
    obtain ⟨u, r, l⟩ := hl i x v e1 e2 e3
    refine ⟨u, r, ?_⟩
    rcases l with l | ⟨k, c, e, z⟩
    · exact .inl l
    · exact .inr ⟨k, c, e, cellK x c e _ z⟩
  · obtain ⟨v, z⟩ := I.cell x c e
    exact ⟨v, cellK x c e v z⟩
  · obtain ⟨m, ⟨o, _, _, ho, _⟩, _⟩ := I.loc
    exact free _ o (fun z => (hch _ z).2.1 rfl) ho I.free
  · obtain ⟨v, o, ho, hd⟩ := I.cell x c e
    exact free c o (fun z => (hch c z).2.2.1 x c e rfl) ho (I.freeC x c e)
  · obtain ⟨e, n, ne, nf, d⟩ := I.pin p hp
    have nch : p.1 ∉ ch := fun z => (hch p.1 z).2.2.2 p hp rfl
    exact ⟨keep p.1 p.2 ne nf nch e n, free p.1 p.2 nch e n, ne, nf, d⟩
theorem Inv.un {t' : Nat} (I : Inv X pins σ H s) (u : Un X.fs [] H H' s.heap h') (hok : HOk X.prog X.w H' h') : Inv X pins σ H' { s with heap := h', toks := t' } := by
  obtain ⟨m, ⟨o, es, ep, ho, r⟩, _⟩ := id I.loc
  obtain ⟨sl, hL⟩ := u.any ho I.free (by simp)
  exact I.step (g' := s.gens) (d' := s.drawn) (ch := []) (fun _ z => nomatch z) (fun b o _ hb _ e n => u.keep b o e n hb (by simp)) (fun b o _ hb _ e n => u.slot b o e n hb (by simp)) (fun b o _ e n => u.free b o e n (by simp)) (fun b o _ e => u.there b o e (by simp)) u.tups u.frzs u.tbls (fun m' hm => by
    obtain ⟨o', es', ep', ho', r'⟩ := hm
    rw [ho] at ho'; cases ho'
    exact ⟨_, es', ep', hL, r'⟩) hok I.bare
theorem Inv.call {g' : Array GenState} {t' : Nat} {d' : Drawn} {ch : List Addr} (I : Inv X pins σ H s) (u : Un (frs X.stack) ch H H' s.heap h') (hok : HOk X.prog X.w H' h') (hg : AllBare g')
    (hch : ∀ b ∈ ch, (b ∈ X.ex ∨ X.s_0.heap.objs.size ≤ b) ∧ b ≠ X.env.locals ∧ (∀ x c, X.env.cells.lookup x = some c → c ≠ b) ∧ ∀ p ∈ X.pn ++ pins, p.1 ≠ b) :
    Inv X pins σ H' { s with heap := h', gens := g', drawn := d', toks := t' } := by
  obtain ⟨m, ⟨o, es, ep, ho, r⟩, _⟩ := id I.loc
  obtain ⟨sl, hL⟩ := u.any ho I.free fun z => (hch _ z).2.1 rfl
  exact I.step (ch := ch) hch (fun b o hL hb hc e n => u.keep b o e n (fun z => (List.mem_cons.mp (I.stkSub b z)).elim hL hb) hc) (fun b o _ _ hc e n => u.any e n hc) (fun b o hc e n => u.free b o e n hc) (fun b o hc e => u.there b o e hc) u.tups u.frzs u.tbls (fun m' hm => by
    obtain ⟨o', es', ep', ho', r'⟩ := hm
    rw [ho] at ho'; cases ho'
    exact ⟨_, es', ep', hL, r'⟩) hok hg
theorem Inv.turned {t' : Nat} {it : Addr} (I : Inv X pins σ H s) (k : ∀ b o, b ≠ it → s.heap.get? b = some o → h'.get? b = some o) (hn : H it = none) (hL : it ≠ X.env.locals)
    (h1 : it ∈ X.ex ∨ X.s_0.heap.objs.size ≤ it) (h2 : ∀ x c, X.env.cells.lookup x = some c → c ≠ it) (h3 : ∀ p ∈ X.pn ++ pins, p.1 ≠ it) : Inv X pins σ H { s with heap := h', toks := t' } := by
  have nit : ∀ b u, H b = some u → b ≠ it := fun b u e z => by rw [z, hn] at e; cases e
  refine I.step (g' := s.gens) (d' := s.drawn) (ch := [it]) (fun b hb => ?_) (fun b o _ _ hc e _ => k b o (fun z => hc (by simp [z])) e) (fun b o _ _ hc e _ => ⟨o.slots, k b o (fun z => hc (by simp [z])) e⟩) (fun _ _ _ _ n => n)
    (fun b o hc e => ⟨o, k b o (fun z => hc (by simp [z])) e⟩) (fun _ _ e => e) (fun _ _ _ e => e) (fun b ps e => ⟨#[], by rw [e]; simp⟩) (fun m hm => ?_) (fun b u e => ?_) I.bare
  · have e : b = it := by simpa using hb
    subst e
    exact ⟨h1, hL, h2, h3⟩
  · obtain ⟨o, es, ep, ho, r⟩ := hm
    exact ⟨o, es, ep, k _ o (Ne.symm hL) ho, r⟩
  · refine (I.hok b u e).stay (fun c v hc q => k c v ?_ q) (fun _ q => q) fun _ _ q => q
    rcases hc with z | z
    · rw [z]; exact nit b u e
    · exact nit c _ z
theorem Inv.tok (I : Inv X pins σ H s) (t : Nat) : Inv X pins σ H { s with toks := t } := I.un (h' := s.heap) (t' := t) Un.refl I.hok
theorem Inv.kept {t' : Nat} (I : Inv X pins σ H s) (k : ∀ b u, s.heap.get? b = some u → h'.get? b = some u) : Inv X pins σ H { s with heap := h', toks := t' } := I.un (Un.kept k) (I.hok.kept k)
theorem Inv.laid {a : Addr} {o : HO} {t' : Nat} (I : Inv X pins σ H s) (k : ∀ b u, s.heap.get? b = some u → h'.get? b = some u) (hp : s.heap.objs.size ≤ a) (new : ObjOk X.prog X.w (upd H a o) h' a o) :
    Inv X pins σ (upd H a o) { s with heap := h', toks := t' } := I.un (Un.laid k hp (I.hok.fresh hp)) (I.hok.laid k hp new)
theorem Inv.write {x e : Addr} {o : HO} {t' : Nat} (I : Inv X pins σ H s) (mu : Mut (H x)) (he : e = x ∨ H e = some (.own x)) (k : ∀ b u, b ≠ e → s.heap.get? b = some u → h'.get? b = some u) (heo : ∃ u, h'.get? e = some u)
    (new : ObjOk X.prog X.w (upd H x o) h' x o) : Inv X pins σ (upd H x o) { s with heap := h', toks := t' } := I.un (Un.write mu he k heo) (I.hok.write mu he k heo new)
theorem Inv.weak {σ' : List (Option V)} (I : Inv X pins σ H s) (hl : σ'.length = σ.length) (w : ∀ (i : Nat) v, σ'[i]? = some (some v) → σ[i]? = some (some v)) : Inv X pins σ' H s :=
  ⟨I.ok, I.os, I.bare, I.base, let ⟨m, hn, hl'⟩ := I.loc; ⟨m, hn, fun i x v e1 e2 e3 => hl' i x v e1 (w i v e2) e3⟩, I.cell, I.free, I.freeC, I.pin, I.hok, hl.trans I.len⟩
theorem Inv.pins_of {pins' : List (Addr × Obj)} (I : Inv X pins σ H s) (h : ∀ p ∈ pins', s.heap.get? p.1 = some p.2 ∧ H p.1 = none ∧ p.1 ≠ X.env.locals ∧ p.1 ∉ X.fs ∧ ∀ v, p.2.data ≠ .cell v) : Inv X pins' σ H s :=
  ⟨I.ok, I.os, I.bare, I.base, I.loc, I.cell, I.free, I.freeC, fun p hp => (List.mem_append.mp hp).elim (fun z => I.pin p (List.mem_append_left _ z)) (h p), I.hok, I.len⟩
theorem nodup_ix {N : List Str} (hN : N.Nodup) {i j : Nat} {x : Str} (a : N[i]? = some x) (b : N[j]? = some x) : i = j := by
  obtain ⟨h1, e1⟩ := List.getElem?_eq_some_iff.mp a
  obtain ⟨h2, e2⟩ := List.getElem?_eq_some_iff.mp b
  exact (List.getElem_inj hN).mp (e1.trans e2.symm)
theorem store_ok2 {M : Model} {A : Around} {E : Value → Shared → Prop} {i : Nat} {x : Str} {v : V} {u : Value} {Q : Unit → Shared → Prop} (I : Inv X pins σ H s) (hN : X.N.Nodup) (hi : X.N[i]? = some x) (hx : Loc X.env.scope x) (r : RelV v u)
    (h : ∀ s', Inv X pins (σ.set i (some v)) H s' → (∃ a, Heap.SameBut a s.heap s'.heap ∧ (a = X.env.locals ∨ X.env.cells.lookup x = some a)) → Q () s') (hf : X.fn x = true ∨ X.env.scope.names.lookup x = some .local := by first | exact .inl rfl | exact .inr rfl | assumption) : wpAny M A (storeName X.env x u) Q E s := by
  obtain ⟨m, hn, hl⟩ := id I.loc
  have hcls : (X.env.scope.kind == .class || (X.env.scope.kind == .module && X.env.locals != X.env.globals)) = false := by rw [I.ok.kind]; rfl
  have hiσ : i < σ.length := by rw [I.len]; exact (List.getElem?_eq_some_iff.mp hi).1
  have cne := I.cne
  have tracked : ∀ {a : Addr} {h' : Heap}, (∃ o, s.heap.get? a = some o ∧ H a = none) → Heap.SameBut a s.heap h' → HOk X.prog X.w H h' := fun {a h'} ha hs b ob e => by
    obtain ⟨_, _, hfree⟩ := ha
    refine (I.hok b ob e).stay (fun c w' hc q => (hs.2 c ?_).trans q) (fun _ q => q) fun _ _ q => q
    rintro rfl
    rcases hc with rfl | hc
    · rw [hfree] at e; cases e
    · rw [hfree] at hc; cases hc
  rcases hx with hk | hk
  · refine wpAny_storeName_local hk hn (fun h' hn' hs => ?_) hcls
    obtain ⟨oL, _, _, hoL, _⟩ := id hn
    refine h _ ⟨I.ok, I.os, I.bare, ⟨fun b o e n hb hx => ?_, fun b o e n hb hx => ?_, I.base.free, fun b o e hx => ?_, I.base.tups, I.base.frzs, I.base.tbls⟩, ⟨_, hn', fun j y v' e1 e2 e3 => ?_⟩, fun y c e => ?_, I.free, I.freeC, fun p hp => ?_, tracked ⟨oL, hoL, I.free⟩ hs, by simpa using I.len⟩ ⟨_, hs, .inl rfl⟩
    · exact (hs.2 b (Nat.ne_of_lt (Nat.lt_of_lt_of_le (Heap.lt_size e) I.ok.above))).trans (I.base.keep b o e n hb hx)
    · obtain ⟨sl, e1⟩ := I.base.slot b o e n hb hx
      exact ⟨sl, (hs.2 b (Nat.ne_of_lt (Nat.lt_of_lt_of_le (Heap.lt_size e) I.ok.above))).trans e1⟩
    · obtain ⟨o', e1⟩ := I.base.there b o e hx
      exact ⟨o', (hs.2 b (Nat.ne_of_lt (Nat.lt_of_lt_of_le (Heap.lt_size e) I.ok.above))).trans e1⟩
    · by_cases hj : j = i
      · subst hj
        rw [hi] at e1; cases e1
        rw [List.getElem?_set_self hiσ] at e2
        cases e2
        exact ⟨u, r, .inl ⟨hk, by simp⟩⟩
      · rw [List.getElem?_set_ne (Ne.symm hj)] at e2
        obtain ⟨u', r', q⟩ := hl j y v' e1 e2 e3
        refine ⟨u', r', ?_⟩
        rcases q with ⟨k, e⟩ | ⟨k, c, e, z⟩
        · refine .inl ⟨k, ?_⟩
          have : y ≠ x := fun e => hj (nodup_ix hN e1 (e ▸ hi))
          simp [this, e]
        · exact .inr ⟨k, c, e, z.sameBut hs (cne y c e)⟩
    · obtain ⟨w', z⟩ := I.cell y c e
      exact ⟨w', z.sameBut hs (cne y c e)⟩
    · obtain ⟨e, n, ne, nf, d⟩ := I.pin p hp
      exact ⟨(hs.2 p.1 ne).trans e, n, ne, nf, d⟩
  · have hfn : X.fn x = true := by
      rcases hf with z | z
      · exact z
      · rw [z] at hk; cases hk
    obtain ⟨c, hc⟩ := I.ok.has x (.inl hk)
    obtain ⟨w', z⟩ := I.cell x c hc
    refine wpAny_storeName_cell I.ok.kind hk hc z (fun h' hc' hs => ?_)
    obtain ⟨oc, hoc, hocd⟩ := id z
    refine h { s with heap := h' } ⟨I.ok, I.os, I.bare, ⟨fun b o e n hb hx => ?_, fun b o e n hb hx => ?_, I.base.free, fun b o e hx => ?_, I.base.tups, I.base.frzs, I.base.tbls⟩, ⟨m, hn.sameBut hs (Ne.symm (cne x c hc)), fun j y v' e1 e2 e3 => ?_⟩, fun y c' e => ?_, I.free, I.freeC, fun p hp => ?_, tracked ⟨oc, hoc, I.freeC x c hc⟩ hs, by simpa using I.len⟩ ⟨c, hs, .inr hc⟩
    · exact (hs.2 b (Nat.ne_of_lt (Nat.lt_of_lt_of_le (Heap.lt_size e) (I.ok.cab x c hfn hc)))).trans (I.base.keep b o e n hb hx)
    · obtain ⟨sl, e1⟩ := I.base.slot b o e n hb hx
      exact ⟨sl, (hs.2 b (Nat.ne_of_lt (Nat.lt_of_lt_of_le (Heap.lt_size e) (I.ok.cab x c hfn hc)))).trans e1⟩
    · obtain ⟨o', e1⟩ := I.base.there b o e hx
      exact ⟨o', (hs.2 b (Nat.ne_of_lt (Nat.lt_of_lt_of_le (Heap.lt_size e) (I.ok.cab x c hfn hc)))).trans e1⟩
    · by_cases hj : j = i
      · subst hj
        rw [hi] at e1; cases e1
        rw [List.getElem?_set_self hiσ] at e2
        cases e2
        exact ⟨u, r, .inr ⟨.inl hk, c, hc, hc'⟩⟩
      · rw [List.getElem?_set_ne (Ne.symm hj)] at e2
        obtain ⟨u', r', q⟩ := hl j y v' e1 e2 e3
        refine ⟨u', r', ?_⟩
        rcases q with q | ⟨k, c', e, z'⟩
        · exact .inl q
        · refine .inr ⟨k, c', e, z'.sameBut hs ?_⟩
          rintro rfl
          exact hj (nodup_ix hN e1 (I.ok.inj _ _ _ e hc ▸ hi))
    · by_cases hcc : c' = c
      · subst hcc; exact ⟨_, hc'⟩
      · obtain ⟨w2, z2⟩ := I.cell y c' e
        exact ⟨w2, z2.sameBut hs hcc⟩
    · obtain ⟨e, n, ne, nf, d⟩ := I.pin p hp
      refine ⟨(hs.2 p.1 ?_).trans e, n, ne, nf, d⟩
      intro q
      rw [q, hoc] at e
      have q' : oc = p.2 := Option.some.inj e
      exact d w' (by rw [← q']; exact hocd)
theorem store_ok {M : Model} {A : Around} {E : Value → Shared → Prop} {i : Nat} {x : Str} {v : V} {u : Value} {Q : Unit → Shared → Prop} (I : Inv X pins σ H s) (hN : X.N.Nodup) (hi : X.N[i]? = some x) (hx : Loc X.env.scope x) (r : RelV v u)
    (h : ∀ s', Inv X pins (σ.set i (some v)) H s' → Q () s') (hf : X.fn x = true ∨ X.env.scope.names.lookup x = some .local := by first | exact .inl rfl | exact .inr rfl | assumption) : wpAny M A (storeName X.env x u) Q E s :=
  store_ok2 I hN hi hx r (fun s' I' _ => h s' I') hf
theorem Inv.call' {s' : Shared} {ch : List Addr} (I : Inv X pins σ H s) (ho : s'.os = s.os) (u : Un (frs X.stack) ch H H' s.heap s'.heap) (hok : HOk X.prog X.w H' s'.heap) (hg : AllBare s'.gens)
    (hch : ∀ b ∈ ch, (b ∈ X.ex ∨ X.s_0.heap.objs.size ≤ b) ∧ b ≠ X.env.locals ∧ (∀ x c, X.env.cells.lookup x = some c → c ≠ b) ∧ ∀ p ∈ X.pn ++ pins, p.1 ≠ b) : Inv X pins σ H' s' := by
  obtain ⟨h', g', d', t', o'⟩ := s'
  have e : o' = s.os := ho
  subst e
  exact I.call (g' := g') (t' := t') (d' := d') u hok hg hch
end
abbrev XK := Value → Option Addr → Hp → Prop
abbrev St := List (Option V)
abbrev VK := V → Hp → Prop
abbrev TE := St → Hp → VK → Prop
abbrev TT := St → Hp → (Bool → Hp → Prop) → Prop
abbrev TA := St → Hp → (List V → Hp → Prop) → Prop
structure Ends where
  nx : St → Hp → Prop
  rt : VK
  bk : St → Hp → Prop := fun _ _ => False
  ct : St → Hp → Prop := fun _ _ => False
abbrev TS := Ends → St → Hp → Prop
def EP (X : Cx) (pins : List (Addr × Obj)) (σ : St) (Q : VK) (u : Value) (s' : Shared) : Prop := ∃ v H', Inv X pins σ H' s' ∧ RelV v u ∧ Q v H'
def TP (X : Cx) (pins : List (Addr × Obj)) (σ : St) (Q : Bool → Hp → Prop) (b : Bool) (s' : Shared) : Prop := ∃ H', Inv X pins σ H' s' ∧ Q b H'
def AP (X : Cx) (pins : List (Addr × Obj)) (σ : St) (Q : List V → Hp → Prop) (us : List Value) (s' : Shared) : Prop := ∃ vs H', Inv X pins σ H' s' ∧ Vals vs us ∧ Q vs H'
def SP (X : Cx) (pins : List (Addr × Obj)) (D : Ends) (f : Flow) (s' : Shared) : Prop :=
  match f with
  | .next => ∃ σ' H', Inv X pins σ' H' s' ∧ D.nx σ' H'
  | .brk => ∃ σ' H', Inv X pins σ' H' s' ∧ D.bk σ' H'
  | .cont => ∃ σ' H', Inv X pins σ' H' s' ∧ D.ct σ' H'
  | .ret u => ∃ v σ' H', Inv X pins σ' H' s' ∧ RelV v u ∧ D.rt v H'
def PE (X : Cx) (e : Expr) (t : TE) : Prop :=
  ∀ (pins : List (Addr × Obj)) (s : Shared) (σ : St) (H : Hp) (Q : VK), Inv X pins σ H s → t σ H Q → wpAny (model X.prog X.w) X.A (eval e X.env) (EP X pins σ Q) X.xe s
def PT (X : Cx) (e : Expr) (t : TT) : Prop :=
  ∀ (pins : List (Addr × Obj)) (s : Shared) (σ : St) (H : Hp) (Q : Bool → Hp → Prop), Inv X pins σ H s → t σ H Q → wpAny (model X.prog X.w) X.A (isTrue e X.env (eval e X.env)) (TP X pins σ Q) X.xe s
def PW (X : Cx) (e : Expr) (t : TT) : Prop :=
  ∀ (whole : Sem Value) (pins : List (Addr × Obj)) (s : Shared) (σ : St) (H : Hp) (Q : Bool → Hp → Prop), Inv X pins σ H s → t σ H Q → wpAny (model X.prog X.w) X.A (isTrue e X.env whole) (TP X pins σ Q) X.xe s
theorem PW.pt {X : Cx} {e : Expr} {t : TT} (h : PW X e t) : PT X e t := h _
def PA (X : Cx) (es : List Expr) (t : TA) : Prop :=
  ∀ (pos : Pos) (pins : List (Addr × Obj)) (s : Shared) (σ : St) (H : Hp) (Q : List V → Hp → Prop), Inv X pins σ H s → t σ H Q → wpAny (model X.prog X.w) X.A (spliced (backTo pos (starEach es X.env))) (AP X pins σ Q) X.xe s
def PS (X : Cx) (st : Stmt) (t : TS) : Prop :=
  ∀ (pins : List (Addr × Obj)) (s : Shared) (σ : St) (H : Hp) (D : Ends), Inv X pins σ H s → t D σ H → wpAny (model X.prog X.w) X.A (exec st X.env) (SP X pins D) X.xe s
def PSs (X : Cx) (st : List Stmt) (t : TS) : Prop :=
  ∀ (pins : List (Addr × Obj)) (s : Shared) (σ : St) (H : Hp) (D : Ends), Inv X pins σ H s → t D σ H → wpAny (model X.prog X.w) X.A (execs st X.env) (SP X pins D) X.xe s
theorem thn {α : Type} {t : Sem α} {Q Q' : α → Shared → Prop} {M : Model} {A : Around} {E : Value → Shared → Prop} {s : Shared} (h : wpAny M A t Q E s) (hQ : ∀ a s, Q a s → Q' a s) : wpAny M A t Q' E s := wpAny_mono h hQ fun _ _ x => x
end L2
namespace L2
open PySem PySem.Spec PyProof.Rows
section
variable {X : Cx}
theorem bin {a b : Expr} {ta tb : TE} (ha : PE X a ta) (hb : PE X b tb) {pins : List (Addr × Obj)} {s : Shared} {σ : St} {H : Hp} {R : V → V → Hp → Prop} (I : Inv X pins σ H s) (h : ta σ H fun x H1 => tb σ H1 fun y H2 => R x y H2)
    {α : Type} {Q : α → Shared → Prop} {f : Value → Value → Sem α}
    (hf : ∀ v u s2 x y H2, Inv X pins σ H2 s2 → RelV x v → RelV y u → R x y H2 → wpAny (model X.prog X.w) X.A (f v u) Q X.xe s2) :
    wpAny (model X.prog X.w) X.A (eval a X.env) (fun v s₁ => wpAny (model X.prog X.w) X.A (eval b X.env) (fun u s₂ => wpAny (model X.prog X.w) X.A (f v u) Q X.xe s₂) X.xe s₁) X.xe s := by
  refine thn (ha pins s σ H _ I h) fun v s1 ⟨x, H1, I1, r1, q1⟩ => ?_
  refine thn (hb pins s1 σ H1 _ I1 q1) fun u s2 ⟨y, H2, I2, r2, q2⟩ => ?_
  exact hf v u s2 x y H2 I2 r1 r2 q2
def tVar (i : Nat) : TE := fun σ H Q => ∃ v, σ[i]? = some (some v) ∧ Q v H
def tC (v : V) : TE := fun _ H Q => Q v H
theorem pe_var {i : Nat} {x : Str} {pos : Pos} (hN : X.N[i]? = some x) (hv : Vis X.env.scope x) (hd : (x == ("__debug__" : Str)) = false := by decide) (hcd : (x == ("__classdict__" : Str)) = false := by decide) : PE X (.Name x pos) (tVar i) := by
  intro pins s σ H Q I h
  obtain ⟨v, e, h⟩ := h
  obtain ⟨m, hn, hl⟩ := I.loc
  obtain ⟨u, r, l⟩ := hl i x v hN e hv
  have fin : EP X pins σ Q u s := ⟨v, H, I, r, h⟩
  rcases l with ⟨hk, hm⟩ | ⟨hk, c, hc, hcell⟩
  · exact wpAny_Name (wpAny_loadName_local I.ok.kind hk hn hm fin) hd
  · rcases hk with hk | hk
    · exact wpAny_Name (wpAny_loadName_cell I.ok.kind hk hc hcell fin) hd
    · exact wpAny_Name (wpAny_loadName_free I.ok.kind hk hc hcell fin hcd) hd
theorem pe_int {i j pos} : PE X (.Constant (.int i) j pos) (tC (.int i)) := fun _ _ _ H _ I h => wpAny_Constant_int ⟨.int i, H, I.tok _, ⟨_, rfl⟩, h⟩
theorem pe_bl {b j pos} : PE X (.Constant (.bool b) j pos) (tC (.bl b)) := fun _ _ _ H _ I h => Constant_bool ⟨.bl b, H, I, rfl, h⟩
def Gl (X : Cx) (x : Str) : Prop := X.env.kindOf x = some .globalImplicit
theorem ld_glob {E : Value → Shared → Prop} {pins : List (Addr × Obj)} {s : Shared} {σ : St} {H : Hp} {x : Str} {u : Value} {pos : Pos} {Q : Value → Shared → Prop} (I : Inv X pins σ H s) (hg : Gl X x) (hm : X.mg x = some u) (h : Q u s)
    (hd : (x == ("__debug__" : Str)) = false := by decide) : wpAny (model X.prog X.w) X.A (eval (.Name x pos) X.env) Q E s :=
  Calls.Name_function_global I.ok.kind hg (Calls.loadGlobal_global (by rw [I.ok.glob]; exact I.mod.glob.keeps I.bk) hm h) hd
theorem ld_blt {E : Value → Shared → Prop} {pins : List (Addr × Obj)} {s : Shared} {σ : St} {H : Hp} {x : Str} {u : Value} {pos : Pos} {Q : Value → Shared → Prop} (I : Inv X pins σ H s) (hg : Gl X x) (hm : X.mg x = none) (hv : bootBuiltins x = some u) (h : Q u s)
    (hn : x ≠ "__name__" := by decide) (hd : (x == ("__debug__" : Str)) = false := by decide) : wpAny (model X.prog X.w) X.A (eval (.Name x pos) X.env) Q E s := by
  obtain ⟨mb, h1, h2⟩ := I.mod.blt
  exact Calls.Name_function_global I.ok.kind hg (Calls.loadGlobal_builtin (by rw [I.ok.glob]; exact I.mod.glob.keeps I.bk) hm (by rw [I.ok.blt]; exact h1.keeps I.bk) ((h2 x hn).trans hv) h) hd
theorem pe_glob {x : Str} {v : V} {u : Value} {pos : Pos} (hg : Gl X x) (hm : X.mg x = some u) (r : RelV v u) (hd : (x == ("__debug__" : Str)) = false := by decide) : PE X (.Name x pos) (tC v) :=
  fun _ _ _ H _ I h => ld_glob I hg hm ⟨v, H, I, r, h⟩ hd
variable {a b : Expr} {ta tb : TE} {pos : Pos}
def PC (X : Cx) (op : CmpOp) (a b : Expr) (t : TE) : Prop :=
  ∀ (pins : List (Addr × Obj)) (s : Shared) (σ : St) (H : Hp) (Q : VK), Inv X pins σ H s → t σ H Q →
    wpAny (model X.prog X.w) X.A (eval a X.env) (fun v s₁ => wpAny (model X.prog X.w) X.A (eval b X.env) (fun u s₂ => wpAny (model X.prog X.w) X.A (compareOp op v u) (EP X pins σ Q) X.xe s₂) X.xe s₁) X.xe s
theorem nobehind (b : Expr) {op : CmpOp} (h : op ≠ .In) (h2 : op ≠ .NotIn) : behindInMarks op b = false := by
  have e1 : (op == CmpOp.In) = false := by cases op <;> first | rfl | exact absurd rfl h
  have e2 : (op == CmpOp.NotIn) = false := by cases op <;> first | rfl | exact absurd rfl h2
  cases b <;> simp [behindInMarks, e1, e2]
def tB (t : TE) : TT := fun σ H Q => t σ H fun x H1 => ∃ c, x = .bl c ∧ Q c H1
theorem pt_cmp {op : CmpOp} {t : TE} (h : PC X op a b t) (h1 : behindInMarks op b = false := by first | exact nobehind _ (by decide) (by decide) | rfl) : PT X (.Compare a [op] [b] pos) (tB t) := by
  intro pins s σ H Q I hw
  refine wpAny_isTrue_Compare1 (thn (h pins s σ H _ I hw) fun v s1 h1 => thn h1 fun u s2 h2 => thn h2 fun c s3 ⟨x, H1, I1, r1, q1⟩ => ?_) h1
  obtain ⟨d, rfl, q⟩ := q1
  cases r1
  exact wpAny_truthy_bool ⟨H1, I1, q⟩
theorem pt_val {e : Expr} {t : TE} (h : PE X e t) (he : ∀ whole, isTrue e X.env whole = (do let v ← whole; standAt e.pos; holding [v] (truthy v)) := by intro _; rfl) : PT X e (tB t) := by
  intro pins s σ H Q I hw
  refine isTrue_plain (thn (h pins s σ H _ I hw) fun v s1 ⟨x, H1, I1, r1, q1⟩ => ?_) (he _)
  obtain ⟨d, rfl, q⟩ := q1
  cases r1
  exact wpAny_truthy_bool ⟨H1, I1, q⟩
variable {tA tB' : TT} {rest : List Expr}
def tAnd (t u : TT) : TT := fun σ H Q => t σ H fun c H1 => if c = true then u σ H1 Q else Q false H1
def tOr (t u : TT) : TT := fun σ H Q => t σ H fun c H1 => if c = true then Q true H1 else u σ H1 Q
def tNot (t : TT) : TT := fun σ H Q => t σ H fun c H1 => Q (!c) H1
theorem pw_and1 (ha : PT X a tA) : PW X (.BoolOp .And [a] pos) tA := by
  intro wh pins s σ H Q I h
  refine isTrue_and (thn (ha pins s σ H Q I h) fun c s1 e => ?_)
  cases c with
  | true => exact isTrue_and_nil e
  | false => exact e
theorem pw_or1 (ha : PT X a tA) : PW X (.BoolOp .Or [a] pos) tA := by
  intro wh pins s σ H Q I h
  refine isTrue_or (thn (ha pins s σ H Q I h) fun c s1 e => ?_)
  cases c with
  | false => exact isTrue_or_nil e
  | true => exact e
theorem pw_and (ha : PT X a tA) (hb : PW X (.BoolOp .And (b :: rest) pos) tB') : PW X (.BoolOp .And (a :: b :: rest) pos) (tAnd tA tB') := by
  intro wh pins s σ H Q I h
  refine isTrue_and (thn (ha pins s σ H _ I h) fun c s1 ⟨H1, I1, q1⟩ => ?_)
  cases c with
  | true => exact hb wh pins s1 σ H1 Q I1 q1
  | false => exact ⟨H1, I1, q1⟩
theorem pw_or (ha : PT X a tA) (hb : PW X (.BoolOp .Or (b :: rest) pos) tB') : PW X (.BoolOp .Or (a :: b :: rest) pos) (tOr tA tB') := by
  intro wh pins s σ H Q I h
  refine isTrue_or (thn (ha pins s σ H _ I h) fun c s1 ⟨H1, I1, q1⟩ => ?_)
  cases c with
  | true => exact ⟨H1, I1, q1⟩
  | false => exact hb wh pins s1 σ H1 Q I1 q1
theorem pt_not (ha : PT X a tA) : PT X (.UnaryOp .Not a pos) (tNot tA) := by
  intro pins s σ H Q I h
  exact isTrue_not (ha pins s σ H (fun c H1 => Q (!c) H1) I h)
def tAndV (ta tb : TE) : TE := fun σ H Q => ta σ H fun x H1 => ∃ c, x = .bl c ∧ if c = true then tb σ H1 Q else Q (.bl false) H1
theorem pe_one {op} {t : TE} (h : PE X a t) : PE X (.BoolOp op [a] pos) t := fun pins s σ H Q I hw => BoolOp_one (h pins s σ H Q I hw)
theorem pe_and (ha : PE X a ta) (hb : PE X (.BoolOp .And (b :: rest) pos) tb) : PE X (.BoolOp .And (a :: b :: rest) pos) (tAndV ta tb) := by
  intro pins s σ H Q I h
  refine BoolOp_and (thn (ha pins s σ H _ I h) fun v s1 ⟨x, H1, I1, r1, q1⟩ => ?_)
  obtain ⟨c, rfl, q1⟩ := q1
  cases r1
  refine wpAny_truthy_bool ?_
  cases c with
  | true => exact hb pins s1 σ H1 Q I1 q1
  | false => exact ⟨.bl false, H1, I1, rfl, q1⟩
def tIf (t : TT) (ta tb : TE) : TE := fun σ H Q => t σ H fun c H1 => if c = true then ta σ H1 Q else tb σ H1 Q
theorem pe_ifExp {c : Expr} (hc : PT X c tA) (ha : PE X a ta) (hb : PE X b tb) : PE X (.IfExp c a b pos) (tIf tA ta tb) := by
  intro pins s σ H Q I h
  refine wpAny_IfExp (thn (hc pins s σ H _ I h) fun d s1 ⟨H1, I1, q1⟩ => ?_)
  cases d with
  | true => exact ha pins s1 σ H1 Q I1 q1
  | false => exact hb pins s1 σ H1 Q I1 q1
end
end L2
namespace L2
open PySem PySem.Spec PyProof.Rows
def SqL (K : PySem.W.Frag) (H : Hp) (a : Addr) (xs : List V) : Prop :=
  Rd H a (.lst xs) ∨
    ∃ (o : Obj) (its : Array Value) (n : Nat), K.lookup a = some o ∧ o.cls = .type "list" ∧ o.dict = none ∧ o.data = .seq its n ∧ its.size ≤ sizeLine ∧ Vals xs its.toList
def SqT (K : PySem.W.Frag) (H : Hp) (a : Addr) (xs : List V) : Prop :=
  Rd H a (.tup xs) ∨
    ∃ (o : Obj) (its : Array Value) (n : Nat), K.lookup a = some o ∧ o.cls = .type "tuple" ∧ o.data = .seq its n ∧ its.size ≤ sizeLine ∧ Vals xs its.toList
def absV : Value → Option V
  | .none => some .non
  | .bool b => some (.bl b)
  | .int i _ => some (.int i)
  | .str x _ => some (.str x)
  | .bytes b _ => some (.byt b)
  | .float b _ => some (.flt b)
  | .ref a => some (.ref a)
  | .type n => some (.ty n)
  | _ => none
theorem RelV.abs {x : V} {u : Value} (r : RelV x u) : absV u = some x := by
  cases x with
  | non => cases r; rfl
  | bl _ => cases r; rfl
  | int _ => obtain ⟨t, rfl⟩ := r; rfl
  | str _ => obtain ⟨t, rfl⟩ := r; rfl
  | byt _ => obtain ⟨t, rfl⟩ := r; rfl
  | flt _ => obtain ⟨t, rfl⟩ := r; rfl
  | ref _ => cases r; rfl
  | ty _ => cases r; rfl
theorem RelV.inj {x y : V} {u : Value} (r : RelV x u) (q : RelV y u) : x = y := Option.some.inj (r.abs.symm.trans q.abs)
theorem Vals.inj : ∀ {xs ys : List V} {us : List Value}, Vals xs us → Vals ys us → xs = ys
  | _, _, _, .nil, .nil => rfl
  | _, _, _, .cons r t, .cons r' t' => by rw [r.inj r', Vals.inj t t']
section
variable {X : Cx} {pins : List (Addr × Obj)} {σ : St} {H : Hp} {s : Shared} {a : Addr} {xs ys : List V}
theorem SqL.of {K : PySem.W.Frag} (h : H a = some (.lst xs)) : SqL K H a xs := .inl (.inl h)
theorem SqT.of {K : PySem.W.Frag} (h : H a = some (.tup xs)) : SqT K H a xs := .inl (.inl h)
theorem Inv.list (I : Inv X pins σ H s) (h : SqL X.K H a xs) : ∃ its : List Value, Vals xs its ∧ PlainL s.heap a its.toArray ∧ xs.length ≤ sizeLine := by
  rcases h with h | ⟨o, its, n, hk, hc, hd, hs, hz, r⟩
  · obtain ⟨z, its, n, r, e⟩ := h.ok I.hok
    exact ⟨its, r, ⟨_, n, e, rfl, rfl, rfl⟩, z⟩
  · refine ⟨its.toList, r, ⟨o, n, I.kIn a o hk, hc, hd, by simpa using hs⟩, ?_⟩
    have e := r.length
    simp only [Array.length_toList] at e
    omega
theorem Inv.tuple (I : Inv X pins σ H s) (h : SqT X.K H a xs) : ∃ its : List Value, Vals xs its ∧ IsTup s.heap a its.toArray ∧ xs.length ≤ sizeLine := by
  rcases h with h | ⟨o, its, n, hk, hc, hs, hz, r⟩
  · obtain ⟨z, its, r, p⟩ := h.ok I.hok
    exact ⟨its, r, p, z⟩
  · refine ⟨its.toList, r, ⟨o, I.kIn a o hk, hc, n, by simpa using hs⟩, ?_⟩
    have e := r.length
    simp only [Array.length_toList] at e
    omega
theorem Inv.list_inj (I : Inv X pins σ H s) (h : SqL X.K H a xs) (h' : SqL X.K H a ys) : xs = ys := by
  obtain ⟨its, r, ⟨o, n, e, _, _, d⟩, _⟩ := I.list h
  obtain ⟨its', r', ⟨o', n', e', _, _, d'⟩, _⟩ := I.list h'
  rw [e] at e'; cases e'
  rw [d] at d'
  injection d' with d1 _
  have : its = its' := by simpa using congrArg Array.toList d1
  subst this
  exact r.inj r'
end
abbrev Cx.wish (X : Cx) (E : Value → Shared → Prop) : Cx := { X with xe := E }
abbrev Cx.nox (X : Cx) : Cx := X.wish fun _ _ => False
theorem Cx.Ok.wish {X : Cx} (ok : X.Ok) (E : Value → Shared → Prop) : (X.wish E).Ok :=
  ⟨ok.mod, ok.kind, ok.glob, ok.blt, ok.above, ok.inj, ok.has, ok.cab, ok.hd, ok.frames, ok.stk, ok.exf, ok.bs, ok.bsz, ok.noex, ok.exfs, ok.funs, ok.frf⟩
theorem Cx.Ok.unwish {X : Cx} {E : Value → Shared → Prop} (ok : (X.wish E).Ok) : X.Ok :=
  ⟨ok.mod, ok.kind, ok.glob, ok.blt, ok.above, ok.inj, ok.has, ok.cab, ok.hd, ok.frames, ok.stk, ok.exf, ok.bs, ok.bsz, ok.noex, ok.exfs, ok.funs, ok.frf⟩
section
variable {X : Cx} {pins : List (Addr × Obj)} {σ : St} {H : Hp} {s : Shared} {E : Value → Shared → Prop}
theorem Inv.wish (I : Inv X pins σ H s) (E : Value → Shared → Prop) : Inv (X.wish E) pins σ H s := ⟨I.ok.wish E, I.os, I.bare, I.base, I.loc, I.cell, I.free, I.freeC, I.pin, I.hok, I.len⟩
theorem Inv.unwish (I : Inv (X.wish E) pins σ H s) : Inv X pins σ H s := ⟨I.ok.unwish, I.os, I.bare, I.base, I.loc, I.cell, I.free, I.freeC, I.pin, I.hok, I.len⟩
theorem SP.unwish {D : Ends} {f : Flow} {s' : Shared} (h : SP (X.wish E) pins D f s') : SP X pins D f s' := by
  cases f with
  | next => obtain ⟨σ', H', I, q⟩ := h; exact ⟨σ', H', I.unwish, q⟩
  | brk => obtain ⟨σ', H', I, q⟩ := h; exact ⟨σ', H', I.unwish, q⟩
  | cont => obtain ⟨σ', H', I, q⟩ := h; exact ⟨σ', H', I.unwish, q⟩
  | ret u => obtain ⟨v, σ', H', I, r, q⟩ := h; exact ⟨v, σ', H', I.unwish, r, q⟩
theorem PE.nox {e : Expr} {t : TE} (h : PE X.nox e t) : PE X e t := fun pins s σ H Q I hw =>
  wpAny_mono (h pins s σ H Q (I.wish _) hw) (fun _ _ ⟨v, H', I', r, q⟩ => ⟨v, H', I'.unwish, r, q⟩) fun _ _ z => False.elim z
theorem PT.nox {e : Expr} {t : TT} (h : PT X.nox e t) : PT X e t := fun pins s σ H Q I hw =>
  wpAny_mono (h pins s σ H Q (I.wish _) hw) (fun _ _ ⟨H', I', q⟩ => ⟨H', I'.unwish, q⟩) fun _ _ z => False.elim z
theorem PSs.nox {st : List Stmt} {t : TS} (h : PSs X.nox st t) : PSs X st t := fun pins s σ H D I hw =>
  wpAny_mono (h pins s σ H D (I.wish _) hw) (fun _ _ q => q.unwish) fun _ _ z => False.elim z
end
section
variable {X : Cx} {st : Stmt} {rest : List Stmt} {t u : TS} {e : Expr} {te : TE} {pos : Pos}
def tNext : TS := fun D σ H => D.nx σ H
def tSeq (t u : TS) : TS := fun D σ H => t { D with nx := u D } σ H
theorem pss_nil : PSs X [] tNext := fun _ _ σ H _ I h => wpAny_execs_nil ⟨σ, H, I, h⟩
theorem pss_cons (h1 : PS X st t) (h2 : PSs X rest u) : PSs X (st :: rest) (tSeq t u) := by
  intro pins s σ H D I h
  refine wpAny_execs_cons (thn (h1 pins s σ H { D with nx := u D } I h) fun f s1 q => ?_)
  cases f with
  | next =>
    obtain ⟨σ', H', I', q⟩ := q
    exact h2 pins s1 σ' H' D I' q
  | ret v => exact q
  | brk => exact q
  | cont => exact q
theorem pss_one (h1 : PS X st t) : PSs X [st] t := by
  intro pins s σ H D I h
  refine wpAny_execs_cons (thn (h1 pins s σ H D I h) fun f s1 q => ?_)
  cases f with
  | next => exact wpAny_execs_nil q
  | ret v => exact q
  | brk => exact q
  | cont => exact q
theorem Inv.quiet {pins : List (Addr × Obj)} {σ : St} {H : Hp} {s : Shared} (I : Inv X pins σ H s) : interactive X.env = false := by simp [interactive, I.ok.kind]
def tDrop (te : TE) : TS := fun D σ H => te σ H fun _ H1 => D.nx σ H1
theorem ps_expr (he : PE X e te) (hs : swapsWith e none pos.line X.env = pure false := by rfl) : PS X (.Expr e pos) (tDrop te) := by
  intro pins s σ H D I h
  exact wpAny_Expr_any (thn (he pins s σ H _ I h) fun v s1 ⟨x, H1, I1, r1, q1⟩ => ⟨σ, H1, I1, q1⟩) I.quiet hs
def tRet (te : TE) : TS := fun D σ H => te σ H D.rt
theorem ps_ret (he : PE X e te) : PS X (.Return (some e) pos) (tRet te) := by
  intro pins s σ H D I h
  exact wpAny_Return_some (thn (he pins s σ H _ I h) fun v s1 ⟨x, H1, I1, r1, q1⟩ => ⟨x, σ, H1, I1, r1, q1⟩)
def tIfS (c : TT) (t u : TS) : TS := fun D σ H => c σ H fun b H1 => if b = true then t D σ H1 else u D σ H1
theorem ps_if {c : Expr} {a b : List Stmt} {tc : TT} (hc : PT X c tc) (ha : PSs X a t) (hb : PSs X b u) : PS X (.If c a b pos) (tIfS tc t u) := by
  intro pins s σ H D I h
  refine wpAny_If (thn (hc pins s σ H _ I h) fun d s1 ⟨H1, I1, q1⟩ => ?_)
  cases d with
  | true => exact ha pins s1 σ H1 D I1 q1
  | false => exact hb pins s1 σ H1 D I1 q1
end
abbrev TG := V → St → Hp → (St → Hp → Prop) → Prop
abbrev TGs := List V → St → Hp → (St → Hp → Prop) → Prop
def PG (X : Cx) (target : Expr) (t : TG) : Prop :=
  ∀ (pins : List (Addr × Obj)) (s : Shared) (σ : St) (H : Hp) (v : V) (u : Value) (Q : St → Hp → Prop), Inv X pins σ H s → RelV v u → t v σ H Q →
    wpAny (model X.prog X.w) X.A (assign target X.env u) (fun _ s' => ∃ σ' H', Inv X pins σ' H' s' ∧ Q σ' H') X.xe s
def PGs (X : Cx) (ts : List Expr) (t : TGs) : Prop :=
  ∀ (pins : List (Addr × Obj)) (s : Shared) (σ : St) (H : Hp) (vs : List V) (us : List Value) (Q : St → Hp → Prop), Inv X pins σ H s → Vals vs us → t vs σ H Q →
    wpAny (model X.prog X.w) X.A (assignInOrder ((assignEach ts X.env).map (·.2)) us) (fun _ s' => ∃ σ' H', Inv X pins σ' H' s' ∧ Q σ' H') X.xe s
abbrev TSet := V → V → V → Hp → (Hp → Prop) → Prop
def PSet (X : Cx) (t : TSet) : Prop :=
  ∀ (pins : List (Addr × Obj)) (s : Shared) (σ : St) (H : Hp) (o i v : V) (ov iv u : Value) (Q : Hp → Prop), Inv X pins σ H s → RelV o ov → RelV i iv → RelV v u → t o i v H Q →
    wpAny (model X.prog X.w) X.A (setItem ov iv u) (fun _ s' => ∃ H', Inv X pins σ H' s' ∧ Q H') X.xe s
section
variable {X : Cx} {pos : Pos}
def gName (i : Nat) : TG := fun v σ H Q => Q (σ.set i (some v)) H
theorem pg_name {i : Nat} {x : Str} (hN : X.N.Nodup) (hi : X.N[i]? = some x) (hx : Loc X.env.scope x) (hf : X.fn x = true ∨ X.env.scope.names.lookup x = some .local := by first | exact .inl rfl | exact .inr rfl | assumption) : PG X (.Name x pos) (gName i) := by
  intro pins s σ H v u Q I r h
  exact wpAny_assign_Name (store_ok I hN hi hx r (fun s' I' => ⟨_, H, I', h⟩) hf)
def gNil : TGs := fun vs σ H Q => vs = [] ∧ Q σ H
def gCons (t : TG) (u : TGs) : TGs := fun vs σ H Q => ∃ v r, vs = v :: r ∧ t v σ H fun σ' H' => u r σ' H' Q
theorem pgs_nil : PGs X [] gNil := by
  intro pins s σ H vs us Q I r h
  obtain ⟨e, h⟩ := h
  subst e
  cases r
  exact assignInOrder_nil ⟨σ, H, I, h⟩
theorem pgs_cons {e : Expr} {es : List Expr} {t : TG} {u : TGs} (h1 : PG X e t) (h2 : PGs X es u)
    (hs : (assignEach (e :: es) X.env).map (·.2) = assign e X.env :: (assignEach es X.env).map (·.2) := by rfl) : PGs X (e :: es) (gCons t u) := by
  intro pins s σ H vs us Q I r h
  obtain ⟨v, vr, e1, h⟩ := h
  subst e1
  cases r with
  | cons r rr =>
    rw [hs]
    refine assignInOrder_cons (thn (h1 pins s σ H _ _ _ I r h) fun _ s1 ⟨σ1, H1, I1, q1⟩ => ?_)
    exact h2 pins s1 σ1 H1 _ _ Q I1 rr q1
def gTup (K : PySem.W.Frag) (n : Nat) (t : TGs) : TG := fun v σ H Q => ∃ a xs, v = .ref a ∧ SqT K H a xs ∧ xs.length = n ∧ t xs σ H Q
theorem pg_tup {es : List Expr} {k : Nat} {t : TGs} {n : Nat} (hc : X.calm = true) (h : PGs X es t)
    (hn : (assignEach es X.env).length = n := by rfl) (hst : (assignEach es X.env).findIdx? (·.1) = none := by rfl) : PG X (.Tuple es k pos) (gTup X.K n t) := by
  intro pins s σ H v u Q I r hw
  obtain ⟨a, xs, e1, hq, hl, hw⟩ := hw
  subst e1
  cases r
  obtain ⟨its, rv, ht, hz⟩ := I.tuple hq
  refine assign_Tuple_tuple (I.ok.hd hc) ht (by simp [hn, ← hl, rv.length]) hst fun h' hx => ?_
  have I1 : Inv X pins σ H { s with heap := h' } := I.kept (t' := s.toks) fun b o e => hx b o (Nat.ne_of_lt (Heap.lt_size e)) e
  exact h pins _ σ H xs _ Q I1 (by simpa using rv) hw
def gSub (to ti : TE) (t : TSet) : TG := fun v σ H Q => to σ H fun o H1 => ti σ H1 fun i H2 => t o i v H2 fun H3 => Q σ H3
theorem pg_sub {o i : Expr} {to ti : TE} {t : TSet} (ho : PE X o to) (hi : PE X i ti) (hs : PSet X t)
    (ha : ∀ v, assign (.Subscript o i pos) X.env v = (do
      let ov ← holding [v] (eval o X.env)
      let iv ← holding [v, ov] (eval i X.env)
      standAt pos
      holding [v, ov, iv] (setItem ov iv v)
      release [v, ov, iv] []) := by intro _; rfl) : PG X (.Subscript o i pos) (gSub to ti t) := by
  intro pins s σ H v u Q I r h
  rw [ha]
  refine wpAny_bind (wpAny_holding (thn (ho pins s σ H _ I h) fun ov s1 ⟨x, H1, I1, r1, q1⟩ => ?_))
  refine wpAny_bind (wpAny_holding (thn (hi pins s1 σ H1 _ I1 q1) fun iv s2 ⟨y, H2, I2, r2, q2⟩ => ?_))
  refine wpAny_bind (wpAny_standAt (wpAny_bind (wpAny_holding (thn (hs pins s2 σ H2 x y v ov iv u _ I2 r1 r2 r q2) fun _ s3 ⟨H3, I3, q3⟩ => ?_))))
  exact wpAny_release ⟨σ, H3, I3, q3⟩
def tAsg (te : TE) (g : TG) : TS := fun D σ H => te σ H fun x H1 => g x σ H1 D.nx
theorem ps_asg {tg e : Expr} {te : TE} {g : TG} (he : PE X e te) (hg : PG X tg g) (hs : swapsWithSole [tg] e pos.line X.env = pure false := by rfl) (hw : swappedStores [tg] e X.env = pure none := by rfl)
    (h1 : (assignEach [tg] X.env).map (·.2) = [assign tg X.env] := by rfl) : PS X (.Assign [tg] e pos) (tAsg te g) := by
  intro pins s σ H D I h
  refine wpAny_Assign_stores (thn (he pins s σ H _ I h) fun v s1 ⟨x, H1, I1, r1, q1⟩ => ?_) hs hw
  rw [h1]
  exact thn (hg pins s1 σ H1 x v _ I1 r1 q1) fun _ s2 q => q
theorem ps_set {i : Nat} {x : Str} {e : Expr} {te : TE} {pos' : Pos} (hN : X.N.Nodup) (hi : X.N[i]? = some x) (hx : Loc X.env.scope x) (he : PE X e te) (hs : swapsWith e (some (.Name x pos')) pos.line X.env = pure false := by rfl) (hf : X.fn x = true ∨ X.env.scope.names.lookup x = some .local := by first | exact .inl rfl | exact .inr rfl | assumption) :
    PS X (.Assign [.Name x pos'] e pos) (tAsg te (gName i)) := by
  intro pins s σ H D I h
  refine wpAny_Assign_Name (thn (he pins s σ H _ I h) fun v s1 ⟨y, H1, I1, r1, q1⟩ => ?_) hs
  exact store_ok I1 hN hi hx r1 (fun s2 I2 => ⟨_, H1, I2, q1⟩) hf
end
section
variable {X : Cx} {pos : Pos}
def tWhile (c : TT) (tb : TS) : TS := fun D σ H => ∃ W : Nat → St → Hp → Prop, (∃ m, W m σ H) ∧ ∀ m σ H, W m σ H →
  c σ H fun b H1 => if b = true then ∃ N : St → Hp → Prop, (∀ σ' H', N σ' H' → ∃ m', m' < m ∧ W m' σ' H') ∧ tb { D with nx := N, ct := N, bk := D.nx } σ H1 else D.nx σ H1
theorem ps_while {c : Expr} {body : List Stmt} {tc : TT} {tb : TS} (hp : PassesOwn (model X.prog X.w) X.A X.env X.xe) (hc : PT X c tc) (hb : PSs X body tb) : PS X (.While c body [] pos) (tWhile tc tb) := by
  intro pins s σ H D I h
  obtain ⟨W, ⟨m0, w0⟩, turn⟩ := h
  refine wpAny_While (codeAny_whileLoop (fun n s' => ∃ σ' H', Inv X pins σ' H' s' ∧ W n σ' H') ?_ m0 ⟨σ, H, I, w0⟩)
  rintro n s1 ⟨σ1, H1, I1, w1⟩
  refine wpAny_passesOwn hp (thn (hc pins s1 σ1 H1 _ I1 (turn n σ1 H1 w1)) fun b s2 ⟨H2, I2, q2⟩ => ?_)
  cases b with
  | true =>
    obtain ⟨N, hN, q2⟩ := q2
    rw [if_pos rfl]
    refine wpAny_passesOwn hp (thn (hb pins s2 σ1 H2 _ I2 q2) fun f s3 q3 => ?_)
    cases f with
    | next =>
      obtain ⟨σ3, H3, I3, n3⟩ := q3
      obtain ⟨m', hm, w3⟩ := hN σ3 H3 n3
      exact ⟨m', hm, σ3, H3, I3, w3⟩
    | cont =>
      obtain ⟨σ3, H3, I3, n3⟩ := q3
      obtain ⟨m', hm, w3⟩ := hN σ3 H3 n3
      exact ⟨m', hm, σ3, H3, I3, w3⟩
    | brk => exact q3
    | ret v => exact q3
  | false =>
    rw [if_neg Bool.false_ne_true]
    exact wpAny_execs_nil ⟨σ1, H2, I2, q2⟩
end
structure It where
  go : Nat → Hp → Prop
  yld : Nat → Hp → V → Hp → Prop
  stop : Nat → Hp → Prop
def FpOk (X : Cx) (pins : List (Addr × Obj)) (H : Hp) (b : Addr) : Prop :=
  H b = none ∧ b ≠ X.env.locals ∧ b ∉ X.fs ∧ (b ∈ X.ex ∨ X.s_0.heap.objs.size ≤ b) ∧ (∀ x c, X.env.cells.lookup x = some c → c ≠ b) ∧ ∀ p ∈ X.pn ++ pins, p.1 ≠ b
theorem Inv.fpOk {X : Cx} {pins : List (Addr × Obj)} {σ : St} {H H' : Hp} {s : Shared} {b : Addr} (I : Inv X pins σ H s) (hb : s.heap.objs.size ≤ b) (hn : H' b = none) : FpOk X pins H' b := by
  refine ⟨hn, Nat.ne_of_gt (Nat.lt_of_lt_of_le I.lt hb), I.nofs hb, .inr (Nat.le_trans I.sz hb), fun x c e z => ?_, fun p hp z => ?_⟩
  · obtain ⟨v, q⟩ := I.cell x c e
    exact absurd (Nat.lt_of_lt_of_le q.lt (by rw [z]; exact hb)) (Nat.lt_irrefl _)
  · exact absurd (Nat.lt_of_lt_of_le (Heap.lt_size (I.pin p hp).1) (by rw [z]; exact hb)) (Nat.lt_irrefl _)
structure Turn (P : Program) (w : World) (K : PySem.W.Frag) (tg : Expr) (J : It) (fp : List Addr) (it : Addr) (tn : Nat → Heap → Prop) : Prop where
  mem : it ∈ fp
  obj : ∀ i h, tn i h → ∀ b ∈ fp, ∃ o, h.get? b = some o ∧ ∀ v, o.data ≠ .cell v
  keep : ∀ i h h', tn i h → (∀ b ∈ fp, ∀ o, h.get? b = some o → h'.get? b = some o) → tn i h'
  item : ∀ (X : Cx), X.prog = P → X.w = w → X.K = K → X.calm = true → ∀ (i : Nat) (pins : List (Addr × Obj)) (s : Shared) (σ : St) (H : Hp) (E : Value → Shared → Prop), Inv X pins σ H s → (∀ b ∈ fp, FpOk X pins H b) → tn i s.heap → J.go i H →
    wpAny (model P w) X.A (pyNext (.ref it)) (fun r s1 => ∃ u, r = some u ∧
      wpAny (model P w) X.A (letOwnedTupleGo tg (.ref it) u) (fun _ s2 => ∃ x H', Inv X pins σ H' s2 ∧ RelV x u ∧ J.yld i H x H' ∧ tn (i + 1) s2.heap ∧ ∀ b ∈ fp, H' b = none) E s1) E s
  done : ∀ (X : Cx), X.prog = P → X.w = w → X.K = K → X.calm = true → ∀ (i : Nat) (pins : List (Addr × Obj)) (s : Shared) (σ : St) (H : Hp) (E : Value → Shared → Prop), Inv X pins σ H s → (∀ b ∈ fp, FpOk X pins H b) → tn i s.heap → J.stop i H →
    wpAny (model P w) X.A (pyNext (.ref it)) (fun r s1 => r = none ∧ Inv X pins σ H s1) E s
  self : ∀ (A : Around) (i : Nat) (s : Shared) (Q : Value → Shared → Prop) (E : Value → Shared → Prop), tn i s.heap → Q (.ref it) s → wpAny (model P w) A (pyIter (.ref it)) Q E s
abbrev TI := St → Hp → (It → Hp → Prop) → Prop
def PIE (X : Cx) (pins : List (Addr × Obj)) (σ : St) (tg : Expr) (R : It → Hp → Prop) (itv : Value) (s2 : Shared) : Prop :=
  ∃ (it : Addr) (fp : List Addr) (tn : Nat → Heap → Prop) (J : It) (H' : Hp), itv = .ref it ∧ Inv X pins σ H' s2 ∧ Turn X.prog X.w X.K tg J fp it tn ∧ tn 0 s2.heap ∧ (∀ b ∈ fp, FpOk X pins H' b) ∧ R J H'
def PI (X : Cx) (tg iter : Expr) (wi : TI) : Prop :=
  ∀ (pins : List (Addr × Obj)) (s : Shared) (σ : St) (H : Hp) (R : It → Hp → Prop), Inv X pins σ H s → wi σ H R →
    wpAny (model X.prog X.w) X.A (eval iter X.env) (fun v s1 => wpAny (model X.prog X.w) X.A (pyIter v) (PIE X pins σ tg R) X.xe s1) X.xe s
theorem go_of {M : Model} {A : Around} {E : Value → Shared → Prop} {s : Shared} {tg : Expr} {it : Addr} {u : Value} {o : Obj} {n : String} {vs : Array Value} {Q : Unit → Shared → Prop} (ho : s.heap.get? it = some o) (hc : o.cls = .type n) (hd : o.data = .fields vs)
    (hn : ["enumerate", "zip", "dict_itemiterator", "dict_reverseitemiterator", "odict_iterator", "itertools.zip_longest", "itertools.pairwise"].contains n = false) (hQ : Q () s) : wpAny M A (letOwnedTupleGo tg (.ref it) u) Q E s := by
  unfold letOwnedTupleGo
  cases tg <;> first
    | exact wpAny_pure hQ
    | (cases u <;> first
        | exact wpAny_pure hQ
        | (refine wpAny_bind (wpAny_load ho ?_)
           rw [hc, hd]
           show wpAny M A (if (["enumerate", "zip", "dict_itemiterator", "dict_reverseitemiterator", "odict_iterator", "itertools.zip_longest", "itertools.pairwise"].contains n && vs[0]? == some (rawInt _)) = true then _ else _) Q E s
           rw [if_neg (by intro h; rw [hn, Bool.false_and] at h; cases h)]
           exact wpAny_pure hQ))
def Itl (K : PySem.W.Frag) (a : Addr) : It :=
  ⟨fun i H => ∃ xs x, SqL K H a xs ∧ xs[i]? = some x, fun i H x H' => H' = H ∧ ∀ xs, SqL K H a xs → xs[i]? = some x, fun i H => ∃ xs, SqL K H a xs ∧ xs.length ≤ i⟩
def Itr (lo : Int) (n : Nat) : It := ⟨fun i _ => i < n, fun i H x H' => H' = H ∧ x = .int (lo + i), fun i _ => n ≤ i⟩
theorem turn_list {P : Program} {w : World} {K : PySem.W.Frag} {tg : Expr} (a it : Addr) : Turn P w K tg (Itl K a) [it] it (fun i h => h.IsListIter it a i) where
  mem := by simp
  obj := fun i h st b hb => by
    have e : b = it := by simpa using hb
    subst e
    obtain ⟨o, e, c, d⟩ := st
    exact ⟨o, e, fun v z => by rw [d] at z; cases z⟩
  keep := fun i h h' st k => st.at fun o e => k it (by simp) o e
  item := by
    intro X hP hw hK hc i pins s σ H E I hf st hg
    subst hP hw hK
    obtain ⟨xs, x, hq, hx⟩ := hg
    obtain ⟨its, rv, p, hz⟩ := I.list hq
    obtain ⟨u, hu, ru⟩ := rv.get hx
    obtain ⟨f0, f1, f2, f3, f4, f5⟩ := hf it (by simp)
    refine wpAny_pyNext_list_item st p.isList (x := u) (by simpa using hu) fun h' st' sb => ?_
    have I1 : Inv X pins σ H { s with heap := h' } := I.turned (t' := s.toks) (fun b o hb e => (sb.2 b hb).trans e) f0 f1 f3 f4 f5
    obtain ⟨o, e, c, d⟩ := id st'
    exact ⟨u, rfl, go_of (s := { s with heap := h' }) e c d (by decide) ⟨x, H, I1, ru, ⟨rfl, fun ys hy => by rw [I.list_inj hy hq]; exact hx⟩, st', fun b hb => (hf b hb).1⟩⟩
  done := by
    intro X hP hw hK hc i pins s σ H E I hf st hg
    subst hP hw hK
    obtain ⟨xs, hq, hx⟩ := hg
    obtain ⟨its, rv, p, hz⟩ := I.list hq
    obtain ⟨f0, f1, f2, f3, f4, f5⟩ := hf it (by simp)
    have hl := rv.length
    exact wpAny_pyNext_list_end (I.ok.hd hc) st p.isList (by simp; omega) fun h' eb => ⟨rfl, I.turned (t' := s.toks) (fun b o hb e => eb b o hb e) f0 f1 f3 f4 f5⟩
  self := fun _ _ _ _ _ st h => wpAny_pyIter_listiter st h
theorem turn_range {P : Program} {w : World} {K : PySem.W.Frag} {tg : Expr} (it : Addr) (lo : Int) (n : Nat) : Turn P w K tg (Itr lo n) [it] it (fun i h => IsRangeIter h it (lo + (i : Nat) * 1) ((n : Int) - (i : Nat)) 1) where
  mem := by simp
  obj := fun i h st b hb => by
    have e : b = it := by simpa using hb
    subst e
    exact ⟨_, st, fun v z => by
      have z' : Data.fields _ = Data.cell v := z
      cases z'⟩
  keep := fun i h h' st k => k it (by simp) _ st
  item := by
    intro X hP hw hK hc i pins s σ H E I hf st hg
    subst hP hw hK
    obtain ⟨f0, f1, f2, f3, f4, f5⟩ := hf it (by simp)
    have W := Walks.range (prog := X.prog) (w := X.w) (I.ok.hd hc) it lo 1 n
    refine W.item i s _ _ hg st fun v h' tk hv st' kk => ?_
    obtain ⟨t, rfl⟩ := hv
    have I1 : Inv X pins σ H { s with heap := h', toks := tk } := I.turned (fun b o hb e => kk b o (by simpa using hb) e) f0 f1 f3 f4 f5
    refine ⟨_, rfl, go_of (s := { s with heap := h', toks := tk }) (n := "range_iterator") st' rfl rfl (by decide) ⟨.int (lo + i), H, I1, ⟨t, ?_⟩, ⟨rfl, rfl⟩, st', fun b hb => (hf b hb).1⟩⟩
    rw [Int.mul_one]
  done := by
    intro X hP hw hK hc i pins s σ H E I hf st hg
    subst hP hw hK
    obtain ⟨f0, f1, f2, f3, f4, f5⟩ := hf it (by simp)
    exact wpAny_pyNext_range_end (I.ok.hd hc) st (by have : n ≤ i := hg; omega) fun h' eb => ⟨rfl, I.turned (t' := s.toks) (fun b o hb e => eb b o hb e) f0 f1 f3 f4 f5⟩
  self := fun _ _ _ _ _ st h => wpAny_pyIter_rangeiter st h
end L2
namespace L2
open PySem PySem.Spec PyProof.Rows
section
variable {X : Cx} {tg : Expr}
def iList (K : PySem.W.Frag) (tl : TE) : TI := fun σ H R => tl σ H fun x H1 => ∃ a, x = .ref a ∧ (∃ xs, SqL K H1 a xs) ∧ R (Itl K a) H1
theorem pi_list {l : Expr} {tl : TE} (hl : PE X l tl) : PI X tg l (iList X.K tl) := by
  intro pins s σ H R I h
  refine thn (hl pins s σ H _ I h) fun v s1 ⟨x, H1, I1, r1, q1⟩ => ?_
  obtain ⟨a, e, ⟨xs, hq⟩, q⟩ := q1
  subst e
  cases r1
  obtain ⟨its, rv, p, hz⟩ := I1.list hq
  refine wpAny_pyIter_list p.isList ?_
  refine ⟨s1.heap.objs.size, [s1.heap.objs.size], _, _, H1, rfl, I1.kept (t' := s1.toks) fun b o e => Heap.get?_push_of_some _ e, turn_list a _, ⟨_, Heap.get?_push_size _ rfl, rfl, rfl⟩, fun b hb => ?_, q⟩
  have e : b = s1.heap.objs.size := by simpa using hb
  subst e
  exact I1.fpOk (Nat.le_refl _) (I1.hok.fresh (Nat.le_refl _))
theorem range_it {pins : List (Addr × Obj)} {σ : St} {H : Hp} {s : Shared} {R : It → Hp → Prop} {E : Value → Shared → Prop} {lo hi : Int} {t u v : Tok} {tk : Nat} (I : Inv X pins σ H s) (h1 : -(2 ^ 62) ≤ lo) (h2 : lo < 2 ^ 62) (h3 : -(2 ^ 62) ≤ hi) (h4 : hi < 2 ^ 62)
    (q : R (Itr lo (hi - lo).toNat) H) : wpAny (model X.prog X.w) X.A (pyIter (.ref s.heap.objs.size)) (PIE X pins σ tg R) E { s with heap := s.heap.push { cls := .type "range", data := .fields #[.int lo t, .int hi u, .int 1 v] }, toks := tk } := by
  refine wpAny_pyIter_range (IsRange.new ..) (small_one h1 h2 h3 h4) ?_
  have I1 : Inv X pins σ H { s with heap := s.heap.push { cls := .type "range", data := .fields #[.int lo t, .int hi u, .int 1 v] }, toks := tk } := I.kept fun b o e => Heap.get?_push_of_some _ e
  refine ⟨(s.heap.push { cls := .type "range", data := .fields #[.int lo t, .int hi u, .int 1 v] }).objs.size, [(s.heap.push { cls := .type "range", data := .fields #[.int lo t, .int hi u, .int 1 v] }).objs.size], _, _, H, rfl,
    I1.kept (t' := tk) fun b o e => Heap.get?_push_of_some _ e, turn_range _ lo (hi - lo).toNat, ?_, fun b hb => ?_, q⟩
  · have e1 : lo + ((0 : Nat) : Int) * 1 = lo := by simp
    have e2 : (((hi - lo).toNat : Nat) : Int) - ((0 : Nat) : Int) = Builtin.Range.rangeSize lo hi 1 := by rw [rangeSize_one]; split <;> omega
    show IsRangeIter _ _ (lo + ((0 : Nat) : Int) * 1) ((((hi - lo).toNat : Nat) : Int) - ((0 : Nat) : Int)) 1
    rw [e1, e2]
    exact Heap.get?_push_size _ rfl
  · have e : b = (s.heap.push { cls := .type "range", data := .fields #[.int lo t, .int hi u, .int 1 v] }).objs.size := by simpa using hb
    subst e
    exact I1.fpOk (Nat.le_refl _) (I1.hok.fresh (Nat.le_refl _))
def iRng1 (ta : TA) : TI := fun σ H R => ta σ H fun vs H1 => ∃ j : Int, vs = [.int j] ∧ -(2 ^ 62) ≤ j ∧ j < 2 ^ 62 ∧ R (Itr 0 j.toNat) H1
def iRng2 (ta : TA) : TI := fun σ H R => ta σ H fun vs H1 => ∃ i j : Int, vs = [.int i, .int j] ∧ (-(2 ^ 62) ≤ i ∧ i < 2 ^ 62 ∧ -(2 ^ 62) ≤ j ∧ j < 2 ^ 62) ∧ R (Itr i (j - i).toNat) H1
theorem pi_range1 {a : Expr} {ta : TA} {p pos : Pos} (hg : Gl X "range") (hm : X.mg "range" = none) (ha : PA X [a] ta) (hs : starEach [a] X.env = [(false, eval a X.env)] := by rfl) : PI X tg (.Call (.Name "range" p) [a] [] pos) (iRng1 ta) := by
  intro pins s σ H R I h
  refine Call_ (ld_blt I hg hm boot_range (PyProof.Rows.callWith_type1 (thn (ha pos pins s σ H _ I h) fun us s1 ⟨vs, H1, I1, r1, q1⟩ => ?_) hs rfl))
  obtain ⟨j, e, q1, q2, q⟩ := q1
  subst e
  cases r1 with
  | cons r rr =>
    cases rr
    obtain ⟨t, rfl⟩ := r
    exact call_range_1 (range_it I1 (by omega) (by omega) q1 q2 (by simpa using q))
theorem pi_range2 {a b : Expr} {ta : TA} {p pos : Pos} (hg : Gl X "range") (hm : X.mg "range" = none) (ha : PA X [a, b] ta) (hs : starEach [a, b] X.env = [(false, eval a X.env), (false, eval b X.env)] := by rfl) (hs2 : starEach [b] X.env = [(false, eval b X.env)] := by rfl) :
    PI X tg (.Call (.Name "range" p) [a, b] [] pos) (iRng2 ta) := by
  intro pins s σ H R I h
  refine Call_ (ld_blt I hg hm boot_range (PyProof.Rows.callWith_type1 (thn (ha pos pins s σ H _ I h) fun us s1 ⟨vs, H1, I1, r1, q1⟩ => ?_) (by rw [hs, hs2]) (by rw [hs2]; rfl)))
  obtain ⟨i, j, e, ⟨q1, q2, q3, q4⟩, q⟩ := q1
  subst e
  cases r1 with
  | cons r rr =>
    cases rr with
    | cons r' rr =>
      cases rr
      obtain ⟨t, rfl⟩ := r
      obtain ⟨t', rfl⟩ := r'
      exact call_range_2 (range_it I1 q1 q2 q3 q4 q)
def tFor (wi : TI) (g : TG) (tb : TS) : TS := fun D σ H => wi σ H fun J H1 => ∃ W : Nat → Nat → St → Hp → Prop, (∃ m, W 0 m σ H1) ∧ ∀ i m σ H, W i m σ H →
  (J.stop i H ∧ D.nx σ H) ∨ (J.go i H ∧ ∃ N : St → Hp → Prop, (∀ σ' H', N σ' H' → ∃ m', m' < m ∧ W (i + 1) m' σ' H') ∧ ∀ x H', J.yld i H x H' → g x σ H' fun σ2 H2 => tb { D with nx := N, ct := N, bk := D.nx } σ2 H2)
def pinsAt (fp : List Addr) (h : Heap) : List (Addr × Obj) := fp.filterMap fun b => (h.get? b).map fun o => (b, o)
theorem mem_pinsAt {fp : List Addr} {h : Heap} {b : Addr} {o : Obj} (hb : b ∈ fp) (e : h.get? b = some o) : (b, o) ∈ pinsAt fp h := List.mem_filterMap.mpr ⟨b, hb, by rw [e]; rfl⟩
theorem of_pinsAt {fp : List Addr} {h : Heap} {p : Addr × Obj} (hp : p ∈ pinsAt fp h) : p.1 ∈ fp ∧ h.get? p.1 = some p.2 := by
  obtain ⟨b, hb, e⟩ := List.mem_filterMap.mp hp
  cases q : h.get? b with
  | none => rw [q] at e; cases e
  | some o =>
    rw [q] at e
    have e' : (b, o) = p := Option.some.inj e
    subst e'
    exact ⟨hb, q⟩
theorem Inv.pinned {pins : List (Addr × Obj)} {σ : St} {H : Hp} {s : Shared} {fp : List Addr} (I : Inv X pins σ H s) (hf : ∀ b ∈ fp, FpOk X pins H b) (ho : ∀ b ∈ fp, ∃ o, s.heap.get? b = some o ∧ ∀ v, o.data ≠ .cell v) : Inv X (pins ++ pinsAt fp s.heap) σ H s :=
  I.pins_of fun p hp => (List.mem_append.mp hp).elim (fun z => I.pin p (List.mem_append_right _ z)) fun z => by
    obtain ⟨hb, e⟩ := of_pinsAt z
    obtain ⟨f0, f1, f2, _⟩ := hf p.1 hb
    obtain ⟨o, e', d⟩ := ho p.1 hb
    rw [e] at e'; cases e'
    exact ⟨e, f0, f1, f2, d⟩
theorem Inv.unpinned {pins pl : List (Addr × Obj)} {σ : St} {H : Hp} {s : Shared} (I : Inv X (pins ++ pl) σ H s) : Inv X pins σ H s := I.pins_of fun p hp => I.pin p (List.mem_append_right _ (List.mem_append_left _ hp))
theorem ps_for {iter : Expr} {body : List Stmt} {wi : TI} {g : TG} {tb : TS} {pos : Pos} (hp : PassesOwn (model X.prog X.w) X.A X.env X.xe) (hc : X.calm = true) (hi : PI X tg iter wi) (hg : PG X tg g) (hb : PSs X body tb)
    (hs : ∀ x, foldedSetIterable iter X.env x = pure x := by intro _; rfl) : PS X (.For tg iter body [] pos) (tFor wi g tb) := by
  intro pins s σ H D I h
  refine wpAny_For (thn (hi pins s σ H _ I h) fun v s1 h1 => thn h1 fun itv s2 h2 => ?_) hs
  obtain ⟨it, fp, tn, J, H2, e, I2, T, st2, f2, W, ⟨m0, w0⟩, turn⟩ := h2
  subst e
  -- what stays true of the iterator's objects through the loop
  have stat : ∀ {H' : Hp}, (∀ b ∈ fp, H' b = none) → ∀ b ∈ fp, FpOk X pins H' b := fun hn b hb => ⟨hn b hb, (f2 b hb).2⟩
  refine codeAny_forLoop_any (fun n s' => ∃ i σ' H', Inv X pins σ' H' s' ∧ tn i s'.heap ∧ (∀ b ∈ fp, H' b = none) ∧ W i n σ' H') ?_ m0 ⟨0, σ, H2, I2, st2, fun b hb => (f2 b hb).1, w0⟩
  rintro n s3 ⟨i, σ3, H3, I3, st3, fr3, w3⟩
  rcases turn i n σ3 H3 w3 with ⟨stop, qn⟩ | ⟨go, N, hN, step⟩
  · refine wpAny_passesOwn hp (thn (T.done X rfl rfl rfl hc i pins s3 σ3 H3 X.xe I3 (stat fr3) st3 stop) fun r s4 ⟨hr, I4⟩ => ?_)
    subst hr
    exact wpAny_execs_nil ⟨σ3, H3, I4, qn⟩
  · refine wpAny_passesOwn hp (thn (T.item X rfl rfl rfl hc i pins s3 σ3 H3 X.xe I3 (stat fr3) st3 go) fun r s4 ⟨u, hr, h4⟩ => ?_)
    subst hr
    refine wpAny_passesOwn hp (thn h4 fun _ s5 ⟨x, H5, I5, r5, y5, st5, fr5⟩ => ?_)
    have I5' := I5.pinned (stat fr5) (T.obj _ _ st5)
    refine wpAny_passesOwn hp (thn (hg _ s5 σ3 H5 x u _ I5' r5 (step x H5 y5)) fun _ s6 ⟨σ6, H6, I6, q6⟩ => ?_)
    refine wpAny_passesOwn hp (thn (hb _ s6 σ6 H6 _ I6 q6) fun f s7 q7 => ?_)
    have again : ∀ {σ7 : St} {H7 : Hp}, Inv X (pins ++ pinsAt fp s5.heap) σ7 H7 s7 → N σ7 H7 → ∃ m, m < n ∧ ∃ i σ' H', Inv X pins σ' H' s7 ∧ tn i s7.heap ∧ (∀ b ∈ fp, H' b = none) ∧ W i m σ' H' := fun {σ7 H7} I7 n7 => by
      obtain ⟨m', hm, w7⟩ := hN σ7 H7 n7
      refine ⟨m', hm, i + 1, σ7, H7, I7.unpinned, T.keep _ _ _ st5 fun b hb o e => (I7.pin (b, o) (List.mem_append_right _ (List.mem_append_right _ (mem_pinsAt hb e)))).1, fun b hb => ?_, w7⟩
      obtain ⟨o, e, d⟩ := T.obj _ _ st5 b hb
      exact (I7.pin (b, o) (List.mem_append_right _ (List.mem_append_right _ (mem_pinsAt hb e)))).2.1
    cases f with
    | next => obtain ⟨σ7, H7, I7, n7⟩ := q7; exact again I7 n7
    | cont => obtain ⟨σ7, H7, I7, n7⟩ := q7; exact again I7 n7
    | brk => obtain ⟨σ7, H7, I7, q7⟩ := q7; exact ⟨σ7, H7, I7.unpinned, q7⟩
    | ret v => obtain ⟨x7, σ7, H7, I7, r7, q7⟩ := q7; exact ⟨x7, σ7, H7, I7.unpinned, r7, q7⟩
end
theorem for_list {K : PySem.W.Frag} {a : Addr} {xs : List V} {g : TG} {tb : TS} {D : Ends} {σ : St} {H : Hp} (Pv : Nat → St → Hp → Prop) (h0 : Pv 0 σ H) (hl : ∀ i σ H, i ≤ xs.length → Pv i σ H → SqL K H a xs)
    (hs : ∀ i x σ H, xs[i]? = some x → Pv i σ H → g x σ H fun σ2 H2 => tb { D with nx := Pv (i + 1), ct := Pv (i + 1), bk := D.nx } σ2 H2) (hd : ∀ σ H, Pv xs.length σ H → D.nx σ H) :
    ∃ W : Nat → Nat → St → Hp → Prop, (∃ m, W 0 m σ H) ∧ ∀ i m σ H, W i m σ H →
      ((Itl K a).stop i H ∧ D.nx σ H) ∨ ((Itl K a).go i H ∧ ∃ N : St → Hp → Prop, (∀ σ' H', N σ' H' → ∃ m', m' < m ∧ W (i + 1) m' σ' H') ∧ ∀ x H', (Itl K a).yld i H x H' → g x σ H' fun σ2 H2 => tb { D with nx := N, ct := N, bk := D.nx } σ2 H2) := by
  refine ⟨fun i m σ H => m = xs.length - i ∧ i ≤ xs.length ∧ Pv i σ H, ⟨xs.length, by simp, Nat.zero_le _, h0⟩, ?_⟩
  rintro i m σ H ⟨rfl, hi, p⟩
  have q := hl i σ H hi p
  by_cases hlt : i < xs.length
  · refine .inr ⟨⟨xs, xs[i], q, by simp [hlt]⟩, Pv (i + 1), fun σ' H' p' => ⟨xs.length - (i + 1), by omega, rfl, hlt, p'⟩, fun x H' y => ?_⟩
    obtain ⟨e, y⟩ := y
    subst e
    exact hs i x σ _ (y xs q) p
  · have e : i = xs.length := by omega
    subst e
    exact .inl ⟨⟨xs, q, Nat.le_refl _⟩, hd σ H p⟩
theorem for_range {lo : Int} {n : Nat} {g : TG} {tb : TS} {D : Ends} {σ : St} {H : Hp} (Pv : Nat → St → Hp → Prop) (h0 : Pv 0 σ H)
    (hs : ∀ i σ H, i < n → Pv i σ H → g (.int (lo + i)) σ H fun σ2 H2 => tb { D with nx := Pv (i + 1), ct := Pv (i + 1), bk := D.nx } σ2 H2) (hd : ∀ σ H, Pv n σ H → D.nx σ H) :
    ∃ W : Nat → Nat → St → Hp → Prop, (∃ m, W 0 m σ H) ∧ ∀ i m σ H, W i m σ H →
      ((Itr lo n).stop i H ∧ D.nx σ H) ∨ ((Itr lo n).go i H ∧ ∃ N : St → Hp → Prop, (∀ σ' H', N σ' H' → ∃ m', m' < m ∧ W (i + 1) m' σ' H') ∧ ∀ x H', (Itr lo n).yld i H x H' → g x σ H' fun σ2 H2 => tb { D with nx := N, ct := N, bk := D.nx } σ2 H2) := by
  refine ⟨fun i m σ H => m = n - i ∧ i ≤ n ∧ Pv i σ H, ⟨n, by simp, Nat.zero_le _, h0⟩, ?_⟩
  rintro i m σ H ⟨rfl, hi, p⟩
  by_cases hlt : i < n
  · refine .inr ⟨hlt, Pv (i + 1), fun σ' H' p' => ⟨n - (i + 1), by omega, rfl, hlt, p'⟩, fun x H' y => ?_⟩
    obtain ⟨e, y⟩ := y
    subst e y
    exact hs i σ _ hlt p
  · have e : i = n := by omega
    subst e
    exact .inl ⟨Nat.le_refl _, hd σ H p⟩
theorem while_by {c : TT} {tb : TS} {D : Ends} {σ : St} {H : Hp} (Pv : St → Hp → Prop) (μ : St → Hp → Nat) (h0 : Pv σ H)
    (hs : ∀ σ H, Pv σ H → c σ H fun b H1 => if b = true then tb { D with nx := fun σ' H' => Pv σ' H' ∧ μ σ' H' < μ σ H, ct := fun σ' H' => Pv σ' H' ∧ μ σ' H' < μ σ H, bk := D.nx } σ H1 else D.nx σ H1)
    (mono : ∀ σ H Q Q', (∀ b H1, Q b H1 → Q' b H1) → c σ H Q → c σ H Q') : tWhile c tb D σ H := by
  refine ⟨fun m σ H => m = μ σ H ∧ Pv σ H, ⟨_, rfl, h0⟩, ?_⟩
  rintro m σ H ⟨rfl, p⟩
  refine mono σ H _ _ (fun b H1 q => ?_) (hs σ H p)
  cases b with
  | true => exact ⟨_, fun σ' H' ⟨p', l⟩ => ⟨_, l, rfl, p'⟩, q⟩
  | false => exact q
end L2
namespace L2
open PySem PySem.Spec PyProof.Rows
abbrev R2 := V → V → Hp → VK → Prop
def OpR (X : Cx) (f : Value → Value → Sem Value) (r : R2) : Prop :=
  ∀ (pins : List (Addr × Obj)) (s : Shared) (σ : St) (H : Hp) (x y : V) (v u : Value) (Q : VK), Inv X pins σ H s → RelV x v → RelV y u → r x y H Q →
    wpAny (model X.prog X.w) X.A (f v u) (EP X pins σ Q) X.xe s
def UnR (X : Cx) (f : Value → Sem Value) (r : V → Hp → VK → Prop) : Prop :=
  ∀ (pins : List (Addr × Obj)) (s : Shared) (σ : St) (H : Hp) (x : V) (v : Value) (Q : VK), Inv X pins σ H s → RelV x v → r x H Q →
    wpAny (model X.prog X.w) X.A (f v) (EP X pins σ Q) X.xe s
def CallR (X : Cx) (f : Value) (r : List V → Hp → VK → Prop) : Prop :=
  ∀ (pins : List (Addr × Obj)) (s : Shared) (σ : St) (H : Hp) (xs : List V) (us : List Value) (Q : VK), Inv X pins σ H s → Vals xs us → r xs H Q →
    wpAny (model X.prog X.w) X.A (call f us) (EP X pins σ Q) X.xe s
def tOp (r : R2) (ta tb : TE) : TE := fun σ H Q => ta σ H fun x H1 => tb σ H1 fun y H2 => r x y H2 Q
def tUn (r : V → Hp → VK → Prop) (ta : TE) : TE := fun σ H Q => ta σ H fun x H1 => r x H1 Q
def rI (C : Int → Int → Prop) (g : Int → Int → V) : R2 := fun x y H Q => ∃ i j, x = .int i ∧ y = .int j ∧ C i j ∧ Q (g i j) H
def rI0 (g : Int → Int → V) : R2 := fun x y H Q => ∃ i j, x = .int i ∧ y = .int j ∧ Q (g i j) H
def rU (g : Int → V) : V → Hp → VK → Prop := fun x H Q => ∃ i, x = .int i ∧ Q (g i) H
section
variable {X : Cx} {a b c : Expr} {ta tb tc : TE} {pos : Pos}
theorem binT (ha : PE X a ta) (hb : PE X b tb) {pins : List (Addr × Obj)} {s : Shared} {σ : St} {H : Hp} {R : V → V → Hp → Prop} (I : Inv X pins σ H s)
    (h : ta σ H fun x H1 => tb σ H1 fun y H2 => R x y H2) {Q : Value → Shared → Prop} {f : Value → Value → Sem Value}
    (hf : ∀ v u s2 x y H2, Inv X pins σ H2 s2 → RelV x v → RelV y u → R x y H2 → wpAny (model X.prog X.w) X.A (f v u) Q X.xe s2) :
    wpAny (model X.prog X.w) X.A (eval a X.env) (fun v s₁ => wpAny (model X.prog X.w) X.A (eval b X.env) (fun u s₂ => wpAny (model X.prog X.w) X.A (f v u) Q X.xe s₂) X.xe s₁) X.xe s := by
  refine thn (ha pins s σ H _ I h) fun v s1 ⟨x, H1, I1, r1, q1⟩ => ?_
  refine thn (hb pins s1 σ H1 _ I1 q1) fun u s2 ⟨y, H2, I2, r2, q2⟩ => ?_
  exact hf v u s2 x y H2 I2 r1 r2 q2
theorem pe_op {op : Operator} {r : R2} (ho : OpR X (binaryOp op) r) (ha : PE X a ta) (hb : PE X b tb) : PE X (.BinOp a op b pos) (tOp r ta tb) := by
  intro pins s σ H Q I h
  exact wpAny_BinOp (binT ha hb I h fun v u s2 x y H2 I2 rx ry q => ho pins s2 σ H2 x y v u Q I2 rx ry q)
theorem pe_un {op : UnaryOp} {r : V → Hp → VK → Prop} (ho : UnR X (unaryOp op) r) (ha : PE X a ta) : PE X (.UnaryOp op a pos) (tUn r ta) := by
  intro pins s σ H Q I h
  exact UnaryOp_ (thn (ha pins s σ H _ I h) fun v s1 ⟨x, H1, I1, r1, q1⟩ => ho pins s1 σ H1 x v Q I1 r1 q1)
theorem opI {f : Value → Value → Sem Value} {C : Int → Int → Prop} {g : Int → Int → Int}
    (rule : ∀ (i j : Int) (t u : Tok) (s : Shared) (Q : Value → Shared → Prop) (E : Value → Shared → Prop), C i j → Q (.int (g i j) s.toks) { s with toks := s.toks + 1 } → wpAny (model X.prog X.w) X.A (f (.int i t) (.int j u)) Q E s) :
    OpR X f (rI C fun i j => .int (g i j)) := by
  intro pins s σ H x y v u Q I rx ry h
  obtain ⟨i, j, rfl, rfl, hc, q⟩ := h
  obtain ⟨t, rfl⟩ := rx
  obtain ⟨t', rfl⟩ := ry
  exact rule i j t t' s _ _ hc ⟨.int (g i j), H, I.tok _, ⟨_, rfl⟩, q⟩
theorem opI0 {f : Value → Value → Sem Value} {g : Int → Int → Int}
    (rule : ∀ (i j : Int) (t u : Tok) (s : Shared) (Q : Value → Shared → Prop) (E : Value → Shared → Prop), Q (.int (g i j) s.toks) { s with toks := s.toks + 1 } → wpAny (model X.prog X.w) X.A (f (.int i t) (.int j u)) Q E s) :
    OpR X f (rI0 fun i j => .int (g i j)) := by
  intro pins s σ H x y v u Q I rx ry h
  obtain ⟨i, j, rfl, rfl, q⟩ := h
  obtain ⟨t, rfl⟩ := rx
  obtain ⟨t', rfl⟩ := ry
  exact rule i j t t' s _ _ ⟨.int (g i j), H, I.tok _, ⟨_, rfl⟩, q⟩
theorem opB0 {f : Value → Value → Sem Value} {g : Int → Int → Bool}
    (rule : ∀ (i j : Int) (t u : Tok) (s : Shared) (Q : Value → Shared → Prop) (E : Value → Shared → Prop), Q (.bool (g i j)) s → wpAny (model X.prog X.w) X.A (f (.int i t) (.int j u)) Q E s) :
    OpR X f (rI0 fun i j => .bl (g i j)) := by
  intro pins s σ H x y v u Q I rx ry h
  obtain ⟨i, j, rfl, rfl, q⟩ := h
  obtain ⟨t, rfl⟩ := rx
  obtain ⟨t', rfl⟩ := ry
  exact rule i j t t' s _ _ ⟨.bl (g i j), H, I, rfl, q⟩
def CPow (i j : Int) : Prop := 0 ≤ j ∧ j ≤ 1000000 ∧ i.natAbs < 2 ^ 64
def CMul (i j : Int) : Prop := (-(2 ^ 64) < i ∧ i < 2 ^ 64) ∨ (-(2 ^ 64) < j ∧ j < 2 ^ 64)
theorem CMul.ok {i j : Int} (h : CMul i j) : IntMulOk i j := by
  rcases h with ⟨h1, h2⟩ | ⟨h1, h2⟩
  · exact .of_left (intBits_le_64 h1 h2)
  · exact .of_right (intBits_le_64 h1 h2)
theorem two_pow_nn (k : Nat) : (0 : Int) ≤ 2 ^ k := by
  rw [two_pow_cast]
  exact Int.natCast_nonneg _
theorem op_add : OpR X (binaryOp .Add) (rI0 fun i j => .int (i + j)) := opI0 fun _ _ _ _ _ _ _ q => add_int q
theorem op_sub : OpR X (binaryOp .Sub) (rI0 fun i j => .int (i - j)) := opI0 fun _ _ _ _ _ _ _ q => sub_int q
theorem op_mod : OpR X (binaryOp .Mod) (rI (fun _ j => 0 < j) fun i j => .int (i % j)) := opI fun i j _ _ _ _ _ hc q => by
  have h1 : (0 : Int) < j := hc
  exact mod_int' (by omega) (by rw [Int.fmod_eq_emod_of_nonneg i (by omega)]; exact q)
theorem op_pow : OpR X (binaryOp .Pow) (rI CPow fun i j => .int (i ^ j.toNat)) := opI fun _ _ _ _ _ _ _ hc q => pow_int_small hc.1 hc.2.1 hc.2.2 q
theorem op_shl : OpR X (binaryOp .LShift) (rI CPow fun i j => .int (i * 2 ^ j.toNat)) := opI fun _ _ _ _ _ _ _ hc q => lshift_int_small hc.1 hc.2.1 hc.2.2 q
theorem op_shr : OpR X (binaryOp .RShift) (rI (fun _ j => 0 ≤ j) fun i j => .int (i / 2 ^ j.toNat)) := opI fun i j _ _ _ _ _ hc q =>
  rshift_int hc (by rw [Int.fdiv_eq_ediv_of_nonneg i (two_pow_nn _)]; exact q)
theorem op_and : OpR X (binaryOp .BitAnd) (rI0 fun i j => .int (Builtin.bitAnd i j)) := opI0 fun _ _ _ _ _ _ _ q => and_int q
theorem unI {f : Value → Sem Value} {g : Int → Int}
    (rule : ∀ (i : Int) (t : Tok) (s : Shared) (Q : Value → Shared → Prop) (E : Value → Shared → Prop), Q (.int (g i) s.toks) { s with toks := s.toks + 1 } → wpAny (model X.prog X.w) X.A (f (.int i t)) Q E s) :
    UnR X f (rU fun i => .int (g i)) := by
  intro pins s σ H x v Q I rx h
  obtain ⟨i, rfl, q⟩ := h
  obtain ⟨t, rfl⟩ := rx
  exact rule i t s _ _ ⟨.int (g i), H, I.tok _, ⟨_, rfl⟩, q⟩
theorem un_neg : UnR X (unaryOp .USub) (rU fun i => .int (-i)) := unI fun _ _ _ _ _ q => neg_int q
end
def scal : V → V → Bool
  | .non, .non => true | .non, .int _ => true | .int _, .non => true | .non, .bl _ => true | .bl _, .non => true | .non, .str _ => true | .str _, .non => true
  | .int _, .int _ => true | .bl _, .bl _ => true | .str _, .str _ => true | .byt _, .byt _ => true
  | .int _, .str _ => true | .str _, .int _ => true | .bl _, .str _ => true | .str _, .bl _ => true
  | _, _ => false
def rEq : R2 := fun x y H Q => scal x y = true ∧ Q (.bl (decide (x = y))) H
def rNe : R2 := fun x y H Q => scal x y = true ∧ Q (.bl (!decide (x = y))) H
theorem dec_int {i j : Int} : decide (V.int i = V.int j) = (i == j) := by
  rw [Bool.eq_iff_iff]
  simp
theorem dec_bl {i j : Bool} : decide (V.bl i = V.bl j) = (i == j) := by
  rw [Bool.eq_iff_iff]
  simp
theorem dec_str {i j : Str} : decide (V.str i = V.str j) = (i == j) := by
  rw [Bool.eq_iff_iff]
  simp
theorem dec_byt {i j : Array UInt8} : decide (V.byt i = V.byt j) = (i.toList == j.toList) := by
  rw [Bool.eq_iff_iff]
  cases i
  cases j
  simp
section
variable {X : Cx} {a b c : Expr} {ta tb tc : TE} {pos : Pos}
theorem fin_bl {pins : List (Addr × Obj)} {σ : St} {H : Hp} {s : Shared} {Q : VK} {k k' : Bool} (I : Inv X pins σ H s) (q : Q (.bl k) H) (e : k = k') : EP X pins σ Q (.bool k') s := by
  subst e
  exact ⟨.bl k, H, I, rfl, q⟩
theorem op_eq : OpR X (compareOp .Eq) rEq := by
  intro pins s σ H x y v u Q I rx ry h
  obtain ⟨hs, q⟩ := h
  cases x with
  | non =>
    cases rx
    cases y with
    | non => cases ry; exact PySem.EqNone.eq_none_none (fin_bl I q (by simp))
    | bl j => cases ry; exact PySem.EqNone.eq_none_bool (fin_bl I q (by simp))
    | int j => obtain ⟨t', rfl⟩ := ry; exact PySem.EqNone.eq_none_int (fin_bl I q (by simp))
    | str j => obtain ⟨t', rfl⟩ := ry; exact PySem.EqNone.eq_none_str (fin_bl I q (by simp))
    | _ => exact absurd (show false = true from hs) Bool.false_ne_true
  | bl i =>
    cases rx
    cases y with
    | non => cases ry; exact PySem.EqNone.eq_bool_none (fin_bl I q (by simp))
    | bl j => cases ry; exact eq_bool (fin_bl I q dec_bl)
    | str j => obtain ⟨t', rfl⟩ := ry; exact PySem.EqMixed.eq_bool_str (fin_bl I q (by simp))
    | _ => exact absurd (show false = true from hs) Bool.false_ne_true
  | int i =>
    obtain ⟨t, rfl⟩ := rx
    cases y with
    | non => cases ry; exact PySem.EqNone.eq_int_none (fin_bl I q (by simp))
    | int j => obtain ⟨t', rfl⟩ := ry; exact eq_int (fin_bl I q dec_int)
    | str j => obtain ⟨t', rfl⟩ := ry; exact PySem.EqMixed.eq_int_str (fin_bl I q (by simp))
    | _ => exact absurd (show false = true from hs) Bool.false_ne_true
  | str i =>
    obtain ⟨t, rfl⟩ := rx
    cases y with
    | non => cases ry; exact PySem.EqNone.eq_str_none (fin_bl I q (by simp))
    | bl j => cases ry; exact PySem.EqMixed.eq_str_bool (fin_bl I q (by simp))
    | int j => obtain ⟨t', rfl⟩ := ry; exact PySem.EqMixed.eq_str_int (fin_bl I q (by simp))
    | str j => obtain ⟨t', rfl⟩ := ry; exact eq_str (fin_bl I q dec_str)
    | _ => exact absurd (show false = true from hs) Bool.false_ne_true
  | byt i =>
    obtain ⟨t, rfl⟩ := rx
    cases y with
    | byt j => obtain ⟨t', rfl⟩ := ry; exact PySem.W.eq_bytes (fin_bl I q dec_byt)
    | _ => exact absurd (show false = true from hs) Bool.false_ne_true
  | _ => cases y <;> exact absurd (show false = true from hs) Bool.false_ne_true
theorem op_ne : OpR X (compareOp .NotEq) rNe := by
  intro pins s σ H x y v u Q I rx ry h
  obtain ⟨hs, q⟩ := h
  cases x with
  | non =>
    cases rx
    cases y with
    | non => cases ry; exact PySem.EqNone.ne_none_none (fin_bl I q (by simp))
    | bl j => cases ry; exact PySem.EqNone.ne_none_bool (fin_bl I q (by simp))
    | int j => obtain ⟨t', rfl⟩ := ry; exact PySem.EqNone.ne_none_int (fin_bl I q (by simp))
    | str j => obtain ⟨t', rfl⟩ := ry; exact PySem.EqNone.ne_none_str (fin_bl I q (by simp))
    | _ => exact absurd (show false = true from hs) Bool.false_ne_true
  | bl i =>
    cases rx
    cases y with
    | non => cases ry; exact PySem.EqNone.ne_bool_none (fin_bl I q (by simp))
    | bl j => cases ry; exact ne_bool (fin_bl I q (congrArg not dec_bl))
    | str j => obtain ⟨t', rfl⟩ := ry; exact PySem.EqMixed.ne_bool_str (fin_bl I q (by simp))
    | _ => exact absurd (show false = true from hs) Bool.false_ne_true
  | int i =>
    obtain ⟨t, rfl⟩ := rx
    cases y with
    | non => cases ry; exact PySem.EqNone.ne_int_none (fin_bl I q (by simp))
    | int j => obtain ⟨t', rfl⟩ := ry; exact ne_int (fin_bl I q (congrArg not dec_int))
    | str j => obtain ⟨t', rfl⟩ := ry; exact PySem.EqMixed.ne_int_str (fin_bl I q (by simp))
    | _ => exact absurd (show false = true from hs) Bool.false_ne_true
  | str i =>
    obtain ⟨t, rfl⟩ := rx
    cases y with
    | non => cases ry; exact PySem.EqNone.ne_str_none (fin_bl I q (by simp))
    | bl j => cases ry; exact PySem.EqMixed.ne_str_bool (fin_bl I q (by simp))
    | int j => obtain ⟨t', rfl⟩ := ry; exact PySem.EqMixed.ne_str_int (fin_bl I q (by simp))
    | str j => obtain ⟨t', rfl⟩ := ry; exact ne_str (fin_bl I q (congrArg not dec_str))
    | _ => exact absurd (show false = true from hs) Bool.false_ne_true
  | byt i =>
    obtain ⟨t, rfl⟩ := rx
    cases y with
    | byt j => obtain ⟨t', rfl⟩ := ry; exact PySem.W.ne_bytes (fin_bl I q (congrArg not dec_byt))
    | _ => exact absurd (show false = true from hs) Bool.false_ne_true
  | _ => cases y <;> exact absurd (show false = true from hs) Bool.false_ne_true
theorem op_lt : OpR X (compareOp .Lt) (rI0 fun i j => .bl (decide (i < j))) := opB0 fun _ _ _ _ _ _ _ q => lt_int q
theorem op_le : OpR X (compareOp .LtE) (rI0 fun i j => .bl (decide (i ≤ j))) := opB0 fun _ _ _ _ _ _ _ q => le_int q
theorem op_gt : OpR X (compareOp .Gt) (rI0 fun i j => .bl (decide (j < i))) := opB0 fun _ _ _ _ _ _ _ q => gt_int q
theorem op_ge : OpR X (compareOp .GtE) (rI0 fun i j => .bl (decide (j ≤ i))) := opB0 fun _ _ _ _ _ _ _ q => ge_int q
theorem nomark (b : Expr) {op : CmpOp} (h : op ≠ .In := by decide) (h2 : op ≠ .NotIn := by decide) : behindInMarks op b = false := by
  have e1 : (op == CmpOp.In) = false := by cases op <;> first | rfl | exact absurd rfl h
  have e2 : (op == CmpOp.NotIn) = false := by cases op <;> first | rfl | exact absurd rfl h2
  cases b <;> simp [behindInMarks, e1, e2]
theorem pe_cmpR {op : CmpOp} {r : R2} (ho : OpR X (compareOp op) r) (ha : PE X a ta) (hb : PE X b tb) (hm : behindInMarks op b = false) : PE X (.Compare a [op] [b] pos) (tOp r ta tb) := by
  intro pins s σ H Q I h
  exact wpAny_Compare1 (binT ha hb I h fun v u s2 x y H2 I2 rx ry q => ho pins s2 σ H2 x y v u Q I2 rx ry q) hm
def tTest (t : TE) : TT := fun σ H Q => t σ H fun x H' => ∃ k, x = .bl k ∧ Q k H'
theorem pt_cmpR {op : CmpOp} {r : R2} (ho : OpR X (compareOp op) r) (ha : PE X a ta) (hb : PE X b tb) (hm : behindInMarks op b = false) : PT X (.Compare a [op] [b] pos) (tTest (tOp r ta tb)) := by
  intro pins s σ H Q I h
  refine wpAny_isTrue_Compare1 (thn (ha pins s σ H _ I h) fun v s1 ⟨x, H1, I1, r1, q1⟩ => thn (hb pins s1 σ H1 _ I1 q1) fun u s2 ⟨y, H2, I2, r2, q2⟩ =>
    thn (ho pins s2 σ H2 x y v u _ I2 r1 r2 q2) fun c s3 ⟨z, H3, I3, r3, k, e, q3⟩ => ?_) hm
  subst e
  cases r3
  exact wpAny_truthy_bool ⟨H3, I3, q3⟩
theorem line63 : (sizeLine : Nat) < 2 ^ 63 := by rw [sizeLine_eq]; decide
theorem vals1 {x : V} {us : List Value} (r : Vals [x] us) : ∃ u, us = [u] ∧ RelV x u := by
  cases r with
  | cons r1 r2 => cases r2; exact ⟨_, rfl, r1⟩
end
end L2
namespace L2
open PySem PySem.Spec PyProof.Rows
structure ObjM (h : Heap) (x dx C : Addr) (mA : Str → Option Value) : Prop where
  obj : h.get? x = some (PySem.W.instObj C dx)
  ns : h.Ns1 dx mA
  ne : dx ≠ x
theorem lookIn_ns {h : Heap} {dx : Addr} {mA : Str → Option Value} (n : h.Ns1 dx mA) : ∃ od, h.get? dx = some od ∧ ∀ name, PySem.W.lookIn name od = some (mA name) := by
  obtain ⟨o, es, ep, ho, hd, hk, _, hm⟩ := n
  refine ⟨o, ho, fun name => ?_⟩
  have e := hm name
  unfold nsFind findBy at e
  rw [← Array.find?_toList] at e
  unfold PySem.W.lookIn
  rw [hd]
  dsimp only
  split
  · rename_i y q
    rw [q] at e
    exact congrArg some e
  · rename_i q
    rw [q] at e
    have a : es.toList.any (·.refKey) = false := by
      rw [List.any_eq_false]
      intro y hy
      obtain ⟨z, t, hkey⟩ := hk y (Array.mem_toList_iff.mp hy)
      simp [DictEntry.refKey, hkey]
    have a' : ¬ es.toList.any (·.refKey) = true := by rw [a]; exact Bool.false_ne_true
    rw [if_neg a']
    exact congrArg some e
theorem ObjM.look {h : Heap} {x dx C : Addr} {mA : Str → Option Value} (I : ObjM h x dx C mA) : ∃ od, PySem.W.InstAt h x (PySem.W.instObj C dx) C (some od) ∧ ∀ name, PySem.W.lookIn name od = some (mA name) :=
  let ⟨od, ho, hl⟩ := lookIn_ns I.ns
  ⟨od, ⟨I.obj, rfl, rfl, ho⟩, hl⟩
section
variable {prog : Program} {w : World} {A : Around} {E : Value → Shared → Prop} {s : Shared} {K : PySem.W.Frag} {x dx C f : Addr} {mA : Str → Option Value} {name : Str} {v : Value}
theorem get_map {expr : Bool} {Q : Value → Shared → Prop} (X : K.In s.heap) (I : ObjM s.heap x dx C mA) (hg : PySem.W.plainGet K C name = true) (hh : PySem.W.hasDictIn K C = true)
    (ha : PySem.W.findIn K (.ref C) name = some none) (hv : mA name = some v) (hv' : PySem.W.handedIn v = true) (h : Q v { s with toks := s.toks + 1 }) :
    wpAny (model prog w) A (getAttr (.ref x) name expr) Q E s := by
  obtain ⟨od, J, hl⟩ := I.look
  exact PySem.W.get_value X J (PySem.W.plainGet_of hg).1 (PySem.W.findObj_own hh ha rfl (by rw [hl, hv])) hv' h
theorem set_map {ns : List Str} {Q : Unit → Shared → Prop} (X : K.In s.heap) (I : ObjM s.heap x dx C mA)
    (hs : PySem.W.findIn K (.ref C) "__setattr__" = some (some (.builtin "object.__setattr__"))) (hp : PySem.W.plainOver K C = true) (ht : PySem.W.takerIn K C name = some none) (hh : PySem.W.hasDictIn K C = true)
    (hw : PySem.Within mA ns) (hsz : ns.length ≤ sizeLine)
    (h : ∀ h', ObjM h' x dx C (fun y => if y = name then some v else mA y) → Heap.SameBut dx s.heap h' → Q () { s with heap := h', toks := s.toks + 2 }) :
    wpAny (model prog w) A (setAttr (.ref x) name v) Q E s := by
  obtain ⟨od, J, hl⟩ := I.look
  refine PySem.W.set_plain X J hs (PySem.W.osa_open (s := { s with toks := s.toks + 1 }) (r := none) X J hp ht fun b => ?_)
  obtain ⟨cd, hc, hd'⟩ := PySem.W.any_some hh
  have hx : s.heap.get? x = some ⟨.ref C, some dx, .plain, #[]⟩ := I.obj
  refine wpAny_bind (wpAny_pure (wpAny_bind (wpAny_bind (wpAny_loadPart hx (wpAny_bind (PySem.W.Looks.here (s := { s with toks := s.toks + 1 }) (PySem.W.looks_clsIn X hc) ?_))))))
  rw [hd']
  refine wpAny_pure (a := some dx) (wpAny_bind (wpAny_pure (wpAny_bind ?_)))
  refine wpAny_nsSet1 (s := { s with toks := s.toks + 1 }) I.ns fun h' hn2 hs2 => ?_
  obtain ⟨oD, esD, epD, hoD, hdD, hcD⟩ := hn2.count (PySem.Within.cons name v hw)
  refine wpAny_bind (wpAny_lookBehind hoD (by rw [hdD]; exact pastItsLine_dict (Nat.le_trans hcD (by rw [List.length_cons]; omega))) ?_)
  exact wpAny_pure (h _ ⟨(hs2.2 _ (Ne.symm I.ne)).trans I.obj, hn2, I.ne⟩ hs2)
theorem make_map {R : Result → Shared → Prop} {vs : List Value} {kw : List (Str × Value)} (X : K.In s.heap) (hm : PySem.W.makesIn K C = true)
    (hi : PySem.W.findIn K (.ref C) "__init__" = some (some (.ref f))) (hf : PySem.W.typeIn K (.ref f) = some (.type "function"))
    (h : codeAny (model prog w) (A.under (.builtin "type.__call__" ⟨.ref C :: vs, kw⟩)) (.call (.ref f) ⟨.ref (s.heap.objs.size + 1) :: vs, kw⟩) (PySem.W.InitBack (s.heap.objs.size + 1) R)
      { s with heap := (s.heap.push PySem.W.emptyDict).push (PySem.W.instObj C s.heap.objs.size) }) :
    codeAny (model prog w) A (.call (.ref C) ⟨vs, kw⟩) R s := by
  obtain ⟨hh, g, d, t, os⟩ := s
  exact PySem.W.make_core (PySem.W.makes_of X hm) (PySem.W.looks_findIn X hi) (fun self => PySem.W.bind_fn X self hf) (.inl rfl) h
end
def putF (f : Str) (v : V) : List (Str × V) → List (Str × V)
  | [] => [(f, v)]
  | (g, x) :: r => if g = f then (g, v) :: r else (g, x) :: putF f v r
theorem lookup_putF (f g : Str) (v : V) : ∀ fs : List (Str × V), (putF f v fs).lookup g = if g = f then some v else fs.lookup g
  | [] => by
    show List.lookup g [(f, v)] = _
    by_cases h : g = f
    · have hb : (g == f) = true := beq_iff_eq.mpr h
      simp only [List.lookup, hb, if_pos h]
    · have hb : (g == f) = false := beq_eq_false_iff_ne.mpr h
      simp only [List.lookup, hb, if_neg h]
  | (k, x) :: r => by
    have ih := lookup_putF f g v r
    rw [show putF f v ((k, x) :: r) = (if k = f then (k, v) :: r else (k, x) :: putF f v r) from rfl]
    by_cases hk : k = f
    · rw [if_pos hk]
      by_cases h : g = k
      · have hb : (g == k) = true := beq_iff_eq.mpr h
        simp only [List.lookup, hb, if_pos (h.trans hk)]
      · have hb : (g == k) = false := beq_eq_false_iff_ne.mpr h
        simp only [List.lookup, hb, if_neg (fun e : g = f => h (e.trans hk.symm))]
    · rw [if_neg hk]
      by_cases h : g = k
      · have hb : (g == k) = true := beq_iff_eq.mpr h
        simp only [List.lookup, hb, if_neg (fun e : g = f => hk (h.symm.trans e))]
      · have hb : (g == k) = false := beq_eq_false_iff_ne.mpr h
        simp only [List.lookup, hb]
        exact ih
theorem keys_putF (f : Str) (v : V) : ∀ fs : List (Str × V), f ∈ (putF f v fs).map (·.1) ∧ ∀ g, g ∈ fs.map (·.1) → g ∈ (putF f v fs).map (·.1)
  | [] => ⟨by simp [putF], fun g h => by simp at h⟩
  | (k, x) :: r => by
    obtain ⟨i1, i2⟩ := keys_putF f v r
    rw [show putF f v ((k, x) :: r) = (if k = f then (k, v) :: r else (k, x) :: putF f v r) from rfl]
    by_cases hk : k = f
    · rw [if_pos hk]
      subst hk
      exact ⟨by simp, fun g h => by simpa using h⟩
    · rw [if_neg hk]
      refine ⟨?_, fun g h => ?_⟩
      · rw [List.map_cons]
        exact List.mem_cons_of_mem _ i1
      · rw [List.map_cons] at h ⊢
        rcases List.mem_cons.mp h with e | e
        · exact List.mem_cons.mpr (.inl e)
        · exact List.mem_cons_of_mem _ (i2 g e)
theorem length_putF (f : Str) (v : V) : ∀ fs : List (Str × V), (putF f v fs).length ≤ fs.length + 1
  | [] => by simp [putF]
  | (k, x) :: r => by
    have ih := length_putF f v r
    rw [show putF f v ((k, x) :: r) = (if k = f then (k, v) :: r else (k, x) :: putF f v r) from rfl]
    by_cases hk : k = f
    · rw [if_pos hk, List.length_cons, List.length_cons]; omega
    · rw [if_neg hk, List.length_cons, List.length_cons]; omega
theorem RelO.some_of {v : V} {o : Option Value} (r : RelO (some v) o) : ∃ u, o = some u ∧ RelV v u := by
  cases o with
  | none => exact (show False from r).elim
  | some u => exact ⟨u, rfl, r⟩
theorem handed_of {v : V} {u : Value} (r : RelV v u) : PySem.W.handedIn u = true := by
  cases v with
  | non => cases (show u = Value.none from r); rfl
  | bl b => cases (show u = Value.bool b from r); rfl
  | int i => obtain ⟨t, e⟩ := (show ∃ t, u = Value.int i t from r); cases e; rfl
  | str x => obtain ⟨t, e⟩ := (show ∃ t, u = Value.str x t from r); cases e; rfl
  | byt b => obtain ⟨t, e⟩ := (show ∃ t, u = Value.bytes b t from r); cases e; rfl
  | flt b => obtain ⟨t, e⟩ := (show ∃ t, u = Value.float b t from r); cases e; rfl
  | ref a => cases (show u = Value.ref a from r); rfl
  | ty n => cases (show u = Value.type n from r); rfl
section
variable {P : Program} {w : World} {H H' : Hp} {h h' : Heap} {a C dx : Addr} {fs fs' : List (Str × V)}
theorem ins_get (hok : HOk P w H h) (e : H a = some (.ins C dx fs)) : ∃ mA, ObjM h a dx C mA ∧ (∀ f, RelO (fs.lookup f) (mA f)) ∧ PySem.Within mA (fs.map (·.1)) ∧ fs.length ≤ 1000 ∧ H dx = some (.own a) := by
  obtain ⟨d, z, ne, ob, mA, n, r, q⟩ := (show ObjOk P w H h a (.ins C dx fs) from hok a _ e)
  exact ⟨mA, ⟨ob, n, ne⟩, r, q, z, d⟩
end
structure Cls (K : PySem.W.Frag) (C : Addr) : Prop where
  pg : PySem.W.plainGet K C Str.empty = true
  hd : PySem.W.hasDictIn K C = true
  po : PySem.W.plainOver K C = true
  sa : PySem.W.findIn K (.ref C) "__setattr__" = some (some (.builtin "object.__setattr__"))
theorem Cls.get {K : PySem.W.Frag} {C : Addr} (c : Cls K C) (f : Str) : PySem.W.plainGet K C f = true := c.pg
def NoAttr (K : PySem.W.Frag) (C : Addr) (f : Str) : Prop := PySem.W.findIn K (.ref C) f = some none
theorem NoAttr.taker {K : PySem.W.Frag} {C : Addr} {f : Str} (n : NoAttr K C f) : PySem.W.takerIn K C f = some none := by
  unfold PySem.W.takerIn
  rw [show PySem.W.findIn K (.ref C) f = some none from n]
  rfl
section
variable {X : Cx} {pins : List (Addr × Obj)} {σ : St} {H : Hp} {s : Shared} {a C dx : Addr} {fs : List (Str × V)} {f : Str} {v : V} {A : Around} {E : Value → Shared → Prop}
theorem getattr_ok {b : Bool} {Q : Value → Shared → Prop} (I : Inv X pins σ H s) (e : H a = some (.ins C dx fs)) (c : Cls X.K C) (n : NoAttr X.K C f) (l : fs.lookup f = some v)
    (h : ∀ u s', Inv X pins σ H s' → RelV v u → Q u s') : wpAny (model X.prog X.w) A (getAttr (.ref a) f b) Q E s := by
  obtain ⟨mA, O, r, _, _, _⟩ := ins_get I.hok e
  obtain ⟨u, hu, ru⟩ := RelO.some_of (v := v) (o := mA f) (by rw [← l]; exact r f)
  exact get_map I.kIn O (c.get f) c.hd n hu (handed_of ru) (h u _ (I.tok _) ru)
theorem setattr_ok {y : V} {u : Value} {Q : Unit → Shared → Prop} (I : Inv X pins σ H s) (e : H a = some (.ins C dx fs)) (c : Cls X.K C) (n : NoAttr X.K C f) (hl : fs.length < 1000) (ry : RelV y u)
    (h : ∀ s', Inv X pins σ (upd H a (.ins C dx (putF f y fs))) s' → Q () s') : wpAny (model X.prog X.w) A (setAttr (.ref a) f u) Q E s := by
  obtain ⟨mA, O, r, wi, _, ho⟩ := ins_get I.hok e
  have hz : (fs.map (·.1)).length ≤ sizeLine := by rw [List.length_map, sizeLine_eq]; omega
  refine set_map I.kIn O c.sa c.po n.taker c.hd wi hz fun h' O' sb => h _ ?_
  have hd : ∃ o, h'.get? dx = some o := let ⟨o, _, _, e', _⟩ := O'.ns; ⟨o, e'⟩
  refine I.write (x := a) (e := dx) (by rw [e]; exact True.intro) (.inr ho) (fun b q hb z => (sb.2 b hb).trans z) hd ?_
  refine ⟨by rw [upd_ne O.ne]; exact ho, ?_, O.ne, O'.obj, _, O'.ns, fun g => ?_, fun g hg => ?_⟩
  · have := length_putF f y fs; omega
  · show RelO ((putF f y fs).lookup g) (if g = f then some u else mA g)
    rw [lookup_putF]
    by_cases q : g = f
    · rw [if_pos q, if_pos q]; exact ry
    · rw [if_neg q, if_neg q]; exact r g
  · by_cases q : g = f
    · rw [q]; exact (keys_putF f y fs).1
    · refine (keys_putF f y fs).2 g (wi g fun z => hg ?_)
      show (if g = f then some u else mA g) = none
      rw [if_neg q]; exact z
theorem Inv.made (I : Inv X pins σ H s) : Inv X pins σ (upd (upd H s.heap.objs.size (.own (s.heap.objs.size + 1))) (s.heap.objs.size + 1) (.ins C s.heap.objs.size []))
    { s with heap := (s.heap.push PySem.W.emptyDict).push (PySem.W.instObj C s.heap.objs.size) } := by
  have e1 : (s.heap.push PySem.W.emptyDict).get? s.heap.objs.size = some PySem.W.emptyDict := Heap.get?_push_size s.heap rfl
  have e2 : ((s.heap.push PySem.W.emptyDict).push (PySem.W.instObj C s.heap.objs.size)).get? (s.heap.objs.size + 1) = some (PySem.W.instObj C s.heap.objs.size) := by
    have := Heap.get?_push_size (s.heap.push PySem.W.emptyDict) (o := PySem.W.instObj C s.heap.objs.size) rfl
    rwa [Heap.size_push] at this
  have e3 : (s.heap.push PySem.W.emptyDict).Ns s.heap.objs.size (fun _ => none) := ⟨PySem.W.emptyDict, #[], _, e1, rfl, (fun e he => absurd he (by simp)), fun _ => rfl⟩
  have I1 := I.laid (a := s.heap.objs.size) (o := .own (s.heap.objs.size + 1)) (h' := s.heap.push PySem.W.emptyDict) (t' := s.toks) (fun b u q => Heap.get?_push_of_some _ q) (Nat.le_refl _) ⟨_, e1⟩
  refine I1.laid (a := s.heap.objs.size + 1) (o := .ins C s.heap.objs.size []) (t' := s.toks) (fun b u q => Heap.get?_push_of_some _ q) (Nat.le_of_eq (Heap.size_push _ _)) ?_
  have ne : s.heap.objs.size ≠ s.heap.objs.size + 1 := Nat.ne_of_lt (Nat.lt_succ_self _)
  refine ⟨by rw [upd_ne ne, upd_same], Nat.zero_le _, ne, e2, fun _ => none, (Heap.Ns1.of_empty e3).at fun o q => Heap.get?_push_of_some _ q, fun _ => True.intro, fun y hy => absurd rfl hy⟩
theorem attr_of {prog : Program} {w : World} {env : Env} {e : Expr} {f : Str} {pos : Pos} {s : Shared} {Q : Value → Shared → Prop} (hb : attributeBase e f env (eval e env) = eval e env)
    (h : wpAny (model prog w) A (eval e env) (fun o s₁ => wpAny (model prog w) A (getAttr o f true) Q E s₁) E s) : wpAny (model prog w) A (eval (.Attribute e f pos) env) Q E s :=
  Attribute_any_ h (by rw [arm_eval_Attribute, hb])
end
def tFld (K : PySem.W.Frag) (ta : TE) (f : Str) : TE := fun σ H Q => ta σ H fun x H1 => ∃ a C dx fs v, x = .ref a ∧ H1 a = some (.ins C dx fs) ∧ Cls K C ∧ NoAttr K C f ∧ fs.lookup f = some v ∧ Q v H1
def sFld (K : PySem.W.Frag) (ta tv : TE) (f : Str) : TS := fun D σ H => tv σ H fun y H1 => ta σ H1 fun x H2 => ∃ a C dx fs, x = .ref a ∧ H2 a = some (.ins C dx fs) ∧ Cls K C ∧ NoAttr K C f ∧ fs.length < 1000 ∧
  D.nx σ (upd H2 a (.ins C dx (putF f y fs)))
section
variable {X : Cx} {o e value : Expr} {f : Str} {pos pos' tpos : Pos} {ta tv : TE}
theorem pe_fld (he : PE X e ta) (hb : attributeBase e f X.env (eval e X.env) = eval e X.env) : PE X (.Attribute e f pos) (tFld X.K ta f) := by
  intro pins s σ H Q I h
  refine attr_of hb (thn (he pins s σ H _ I h) fun u s1 ⟨x, H1, I1, rx, a, C, dx, fs, v, ex, ea, c, n, l, q⟩ => ?_)
  subst ex
  obtain rfl : u = Value.ref a := rx
  exact getattr_ok I1 ea c n l fun u' s2 I2 ru => ⟨v, H1, I2, ru, q⟩
theorem ps_fld (ha : PE X o ta) (hv : PE X value tv) (hs : swapsWith value (some (.Attribute o f pos')) pos.line X.env = pure false) : PS X (.Assign [.Attribute o f pos'] value pos) (sFld X.K ta tv f) := by
  intro pins s σ H D I h
  refine plainObj_wpAny_Assign_Attribute (thn (hv pins s σ H _ I h) fun u s1 ⟨y, H1, I1, ry, q⟩ => thn (ha pins s1 σ H1 _ I1 q) fun ov s2 ⟨x, H2, I2, rx, a, C, dx, fs, ex, ea, c, n, l, q2⟩ => ?_) hs
  subst ex
  obtain rfl : ov = Value.ref a := rx
  exact setattr_ok I2 ea c n l ry fun s3 I3 => ⟨σ, _, I3, q2⟩
end
section
variable {X : Cx} {pins : List (Addr × Obj)} {σ : St} {H : Hp} {s : Shared} {A : Around} {E : Value → Shared → Prop} {Q : Value → Shared → Prop} {c : Value} {b : Bool}
end
end L2
namespace L2
open PySem PySem.Spec PyProof.Rows
structure Room (k : Nat) (A : Around) : Prop where
  hd : A.handled = none
  dp : A.depth + 3 * k + 5 < recursionLimit
  un : A.units + 16 * k + 200 < cLine
theorem Room.mono {j k : Nat} {A : Around} (r : Room k A) (h : j ≤ k) : Room j A := ⟨r.hd, by have := r.dp; omega, by have := r.un; omega⟩
theorem Room.deeper {k : Nat} {A : Around} (r : Room (k + 1) A) (env : Env) : Room k (A.deeper env) :=
  ⟨r.hd, by have := r.dp; show A.depth + 1 + 3 * k + 5 < _; omega, by have := r.un; show A.units + 3 + 16 * k + 200 < _; omega⟩
theorem Room.in1 {k : Nat} {A : Around} (r : Room (k + 1) A) : Room k A.in1 :=
  ⟨r.hd, by have := r.dp; show A.depth + 3 * k + 5 < _; omega, by have := r.un; show A.units + 1 + 16 * k + 200 < _; omega⟩
theorem make_depth {A : Around} {C : Addr} {us : List Value} {kw : List (Str × Value)} : (A.under (.builtin "type.__call__" ⟨.ref C :: us, kw⟩)).depth = A.depth + 1 := by
  first | rfl | simp [Around.under, Code.weight, Code.isCreation, Code.isGuard, Code.isCaller, Code.frames, Code.isFrame, guardIds]
theorem make_units {A : Around} {C : Addr} {us : List Value} {kw : List (Str × Value)} : (A.under (.builtin "type.__call__" ⟨.ref C :: us, kw⟩)).units = A.units + 1 := by
  first | rfl | simp [Around.under, Code.cUnits, Code.frames, Code.isFrame]
theorem Room.make {k : Nat} {A : Around} (r : Room (k + 1) A) (C : Addr) (us : List Value) (kw : List (Str × Value)) : Room k (A.under (.builtin "type.__call__" ⟨.ref C :: us, kw⟩)) :=
  ⟨r.hd, by have := r.dp; rw [make_depth]; omega, by have := r.un; rw [make_units]; omega⟩
theorem Room.depth {k : Nat} {A : Around} (r : Room k A) : A.depth < recursionLimit := by have := r.dp; omega
theorem Room.units {k : Nat} {A : Around} (r : Room k A) : A.units + 64 < cLine := by have := r.un; omega
def tNil : TA := fun _ H Q => Q [] H
def tCons (ta : TE) (tr : TA) : TA := fun σ H Q => ta σ H fun x H1 => tr σ H1 fun xs H2 => Q (x :: xs) H2
section
variable {X : Cx} {e : Expr} {es : List Expr} {te : TE} {t : TA} {pos : Pos}
theorem pa_nil : PA X [] tNil := fun _ _ _ _ H Q I h => Calls.spliced_nil ⟨[], H, I, .nil, h⟩
theorem pa_cons (ha : PE X e te) (hr : PA X es t) (hs : starEach (e :: es) X.env = (false, eval e X.env) :: starEach es X.env := by rfl) : PA X (e :: es) (tCons te t) := by
  intro pos pins s σ H Q I h
  rw [hs]
  show wpAny _ _ (spliced ((false, eval e X.env) :: backTo pos (starEach es X.env))) _ _ s
  refine Calls.spliced_cons (thn (ha pins s σ H _ I h) fun u s1 ⟨x, H1, I1, r1, q1⟩ => ?_)
  exact thn (hr pos pins s1 σ H1 _ I1 q1) fun us s2 ⟨xs, H2, I2, r2, q2⟩ => ⟨x :: xs, H2, I2, .cons r1 r2, q2⟩
def tTup (t : TA) : TE := fun σ H Q => t σ H fun xs H1 => xs.length ≤ sizeLine ∧ ∀ p, H1 p = none → Q (.ref p) (upd H1 p (.tup xs))
def tLst (t : TA) : TE := fun σ H Q => t σ H fun xs H1 => xs.length ≤ sizeLine ∧ ∀ p, H1 p = none → Q (.ref p) (upd H1 p (.lst xs))
theorem pe_tup {x1} (h : PA X es t) : PE X (.Tuple es x1 pos) (tTup t) := by
  intro pins s σ H Q I hq
  refine wpAny_Tuple_spliced (thn (h pos pins s σ H _ I hq) fun us s1 ⟨xs, H1, I1, r, z, q⟩ => ⟨by rw [← r.length]; exact z, ?_⟩)
  have hf : H1 s1.heap.objs.size = none := I1.hok.fresh (Nat.le_refl _)
  refine ⟨.ref s1.heap.objs.size, upd H1 s1.heap.objs.size (.tup xs), I1.laid (t' := s1.toks) (fun b u e => Heap.get?_push_of_some _ e) (Nat.le_refl _) ?_, rfl, q _ hf⟩
  exact ⟨z, us, r, ⟨_, Heap.get?_push_size _ rfl, rfl, _, rfl⟩⟩
theorem pe_lst (h : PA X es t) : PE X (.List es pos) (tLst t) := by
  intro pins s σ H Q I hq
  refine wpAny_List_spliced (thn (h pos pins s σ H _ I hq) fun us s1 ⟨xs, H1, I1, r, z, q⟩ => ⟨by rw [← r.length]; exact z, ?_⟩)
  have hf : H1 s1.heap.objs.size = none := I1.hok.fresh (Nat.le_refl _)
  refine ⟨.ref s1.heap.objs.size, upd H1 s1.heap.objs.size (.lst xs), I1.laid (t' := s1.toks) (fun b u e => Heap.get?_push_of_some _ e) (Nat.le_refl _) ?_, rfl, q _ hf⟩
  exact ⟨z, us, 0, r, Heap.get?_push_size _ rfl⟩
end
abbrev Sp := List V → Hp → VK → XK → Prop
abbrev CXT := List Env → Hp → Shared → XK → Value → Shared → Prop
structure Env0 (P : Program) (w : World) (K : PySem.W.Frag) (mg : Str → Option Value) (base : Heap) (A : Around) (outer : List Env) (s : Shared) (H : Hp) : Prop where
  frames : A.frames = some outer
  mod : Mod K mg base
  bs : ∀ b o, base.get? b = some o → s.heap.get? b = some o ∧ H b = none
  bsz : base.objs.size ≤ s.heap.objs.size
  funs : s.heap.FunFrames base outer
  frf : ∀ b ∈ frs outer, H b = none
  hok : HOk P w H s.heap
  bare : AllBare s.gens
def CE (outer : List Env) (P : Program) (w : World) (H : Hp) (s : Shared) (Q : VK) (u : Value) (s' : Shared) : Prop :=
  ∃ v H', s'.os = s.os ∧ AllBare s'.gens ∧ Un (frs outer) [] H H' s.heap s'.heap ∧ HOk P w H' s'.heap ∧ RelV v u ∧ Q v H'
def CR (CX : CXT) (outer : List Env) (P : Program) (w : World) (H : Hp) (s : Shared) (Q : VK) (E : XK) (r : Result) (s' : Shared) : Prop :=
  match r with
  | .ok (.ret u) => CE outer P w H s Q u s'
  | .ok _ => False
  | .error e => CX outer H s E e s'
structure FnOk (P : Program) (w : World) (K : PySem.W.Frag) (mg : Str → Option Value) (base : Heap) (CX : CXT) (k : Nat) (f : Addr) (fd : FuncData) (ps : List Str) (sp : Sp) : Prop where
  len : ∀ vs H Q E, sp vs H Q E → vs.length = ps.length
  run : ∀ (A : Around) (outer : List Env) (s : Shared) (H : Hp) (args : Args) (us : List Value) (vs : List V) (Q : VK) (E : XK), Room k A → Env0 P w K mg base A outer s H → BindsTo s fd args (ps.zip us) → Vals vs us → sp vs H Q E →
    codeAny (model P w) A (.call (.ref f) args) (CR CX outer P w H s Q E) s
theorem FnOk.mono {P : Program} {w : World} {K : PySem.W.Frag} {mg : Str → Option Value} {base : Heap} {CX : CXT} {j k : Nat} {f : Addr} {fd : FuncData} {ps : List Str} {sp : Sp} (F : FnOk P w K mg base CX j f fd ps sp) (h : j ≤ k) :
    FnOk P w K mg base CX k f fd ps sp := ⟨F.len, fun A outer s H args us vs Q E hr => F.run A outer s H args us vs Q E (hr.mono h)⟩
theorem FnOk.imp {P : Program} {w : World} {K : PySem.W.Frag} {mg : Str → Option Value} {base : Heap} {CX : CXT} {k : Nat} {f : Addr} {fd : FuncData} {ps : List Str} {sp sp' : Sp} (F : FnOk P w K mg base CX k f fd ps sp)
    (h : ∀ vs H Q E, sp' vs H Q E → sp vs H Q E) : FnOk P w K mg base CX k f fd ps sp' :=
  ⟨fun vs H Q E q => F.len vs H Q E (h _ _ _ _ q), fun A outer s H args us vs Q E hr he hb hv hs => F.run A outer s H args us vs Q E hr he hb hv (h _ _ _ _ hs)⟩
theorem Env0.make {P : Program} {w : World} {K : PySem.W.Frag} {mg : Str → Option Value} {base : Heap} {A : Around} {outer : List Env} {s : Shared} {H : Hp} (e : Env0 P w K mg base A outer s H) (C : Addr) (us : List Value) (kw : List (Str × Value)) :
    Env0 P w K mg base (A.under (.builtin "type.__call__" ⟨.ref C :: us, kw⟩)) outer s H := ⟨by first | exact e.frames | (simpa [Around.under, Code.envs, Code.isFrame, pushEnvs] using e.frames), e.mod, e.bs, e.bsz, e.funs, e.frf, e.hok, e.bare⟩
theorem Env0.in1 {P : Program} {w : World} {K : PySem.W.Frag} {mg : Str → Option Value} {base : Heap} {A : Around} {outer : List Env} {s : Shared} {H : Hp} (e : Env0 P w K mg base A outer s H) :
    Env0 P w K mg base A.in1 outer s H := ⟨e.frames, e.mod, e.bs, e.bsz, e.funs, e.frf, e.hok, e.bare⟩
section
variable {X : Cx} {pins : List (Addr × Obj)} {σ : St} {H : Hp} {s s' : Shared}
theorem Inv.env0 (I : Inv X pins σ H s) : Env0 X.prog X.w X.K X.mg X.base X.A X.stack s H :=
  ⟨I.ok.frames, I.ok.mod, I.bs, Nat.le_trans I.ok.bsz I.sz, I.stack, I.stkFree, I.hok, I.bare⟩
theorem Inv.after {Q : VK} {u : Value} (I : Inv X pins σ H s) (h : CE X.stack X.prog X.w H s Q u s') : EP X pins σ Q u s' := by
  obtain ⟨v, H', os, bare, un, hok, r, q⟩ := h
  obtain ⟨hh, g, d, t, os'⟩ := s'
  obtain rfl : os' = s.os := os
  exact ⟨v, H', I.call (h' := hh) (g' := g) (d' := d) (t' := t) (ch := []) un hok bare (fun b z => absurd z (by simp)), r, q⟩
end
def tCall (sp : Sp) (dvs : List V) (E : XK) (t : TA) : TE := fun σ H Q => t σ H fun vs H1 => sp (vs ++ dvs) H1 Q E
def tMake (C : Addr) (sp : Sp) (dvs : List V) (E : XK) (t : TA) : TE := fun σ H Q => t σ H fun vs H1 => ∀ x dx, H1 x = none → H1 dx = none → dx ≠ x →
  sp (.ref x :: (vs ++ dvs)) (upd (upd H1 dx (.own x)) x (.ins C dx [])) (fun v H2 => v = .non ∧ Q (.ref x) H2) E
def Binds (K : PySem.W.Frag) (fd : FuncData) (ps : List Str) (ds : List Value) : Prop :=
  ∀ (s : Shared) (us : List Value), K.In s.heap → (us ++ ds).length = ps.length → BindsTo s fd ⟨us, []⟩ (ps.zip (us ++ ds))
theorem Binds.all {K : PySem.W.Frag} {fd : FuncData} {ps : List Str} (h : ∀ us : List Value, us.length = ps.length → bindArgs fd ⟨us, []⟩ = pure (ps.zip us)) : Binds K fd ps [] := fun s us _ hl => by
  rw [List.append_nil] at hl ⊢
  exact .of_eq (h us hl)
def Passes (CX : CXT) (X : Cx) (E : XK) : Prop := ∀ (pins : List (Addr × Obj)) (σ : St) (H : Hp) (s : Shared) (e : Value) (s' : Shared), Inv X pins σ H s → CX X.stack H s E e s' → X.xe e s'
section
variable {X : Cx} {CX : CXT} {k : Nat} {f C : Addr} {fd : FuncData} {ps : List Str} {sp : Sp} {dvs : List V} {ds : List Value} {E : XK} {x m : Str} {p pos apos : Pos} {e o : Expr} {es : List Expr} {ta : TE} {t : TA}
theorem run_fn {pins : List (Addr × Obj)} {σ : St} {H : Hp} {s : Shared} {Q : VK} {us : List Value} {vs : List V} (F : FnOk X.prog X.w X.K X.mg X.base CX k f fd ps sp) (hr : Room k X.A) (hb : Binds X.K fd ps ds) (hd : Vals dvs ds) (hx : Passes CX X E)
    (I : Inv X pins σ H s) (r : Vals vs us) (h : sp (vs ++ dvs) H Q E) : wpAny (model X.prog X.w) X.A (call (.ref f) us) (EP X pins σ Q) X.xe s := by
  have r2 : Vals (vs ++ dvs) (us ++ ds) := r.append hd
  have hl : (us ++ ds).length = ps.length := by rw [← r2.length]; exact F.len _ _ _ _ h
  refine wpAny_call (codeAny_mono (F.run X.A X.stack s H ⟨us, []⟩ (us ++ ds) (vs ++ dvs) Q E hr I.env0 (hb s us I.kIn hl) r2 h) fun r s' hq => ?_)
  cases r with
  | error e => exact hx pins σ H s e s' I hq
  | ok fl =>
    cases fl with
    | ret u => exact I.after hq
    | next => exact False.elim hq
    | brk => exact False.elim hq
    | cont => exact False.elim hq
theorem pe_call (F : FnOk X.prog X.w X.K X.mg X.base CX k f fd ps sp) (hr : Room k X.A) (hg : Gl X x) (hm : X.mg x = some (.ref f)) (hk : PySem.W.keepIn X.K (.ref f) = true) (hb : Binds X.K fd ps ds) (hd : Vals dvs ds) (hx : Passes CX X E)
    (ha : PA X (e :: es) t) (hdb : (x == ("__debug__" : Str)) = false := by decide) (he : starEach (e :: es) X.env = (false, eval e X.env) :: starEach es X.env := by rfl) (hpl : (backTo pos (starEach es X.env)).any (·.1) = false := by rfl) :
    PE X (.Call (.Name x p) (e :: es) [] pos) (tCall sp dvs E t) := by
  intro pins s σ H Q I h
  refine wpAny_Call_Name_kw (ld_glob I hg hm ?_ hdb)
  refine PySem.W.callWith_K (h₀ := X.base) I.ok.mod.kin hk (thn (ha pos pins s σ H _ I h) fun us s1 ⟨vs, H1, I1, r, q⟩ => ⟨I1.kIn, ?_⟩) he hpl
  exact run_fn F hr hb hd hx I1 r q
structure Mk (K : PySem.W.Frag) (C f : Addr) : Prop where
  makes : PySem.W.makesIn K C = true
  init : PySem.W.findIn K (.ref C) "__init__" = some (some (.ref f))
  fn : PySem.W.isFn K (.ref f) = true
  kp : PySem.W.keepIn K (.ref C) = true
theorem run_make {pins : List (Addr × Obj)} {σ : St} {H : Hp} {s : Shared} {Q : VK} {us : List Value} {vs : List V} (M : Mk X.K C f) (F : FnOk X.prog X.w X.K X.mg X.base CX k f fd ps sp) (hr : Room (k + 1) X.A) (hb : Binds X.K fd ps ds) (hd : Vals dvs ds)
    (hx : Passes CX X E) (I : Inv X pins σ H s) (r : Vals vs us)
    (h : ∀ x dx, H x = none → H dx = none → dx ≠ x → sp (.ref x :: (vs ++ dvs)) (upd (upd H dx (.own x)) x (.ins C dx [])) (fun v H2 => v = .non ∧ Q (.ref x) H2) E) :
    wpAny (model X.prog X.w) X.A (call (.ref C) us) (EP X pins σ Q) X.xe s := by
  have hq := h (s.heap.objs.size + 1) s.heap.objs.size (I.hok.fresh (Nat.le_succ _)) (I.hok.fresh (Nat.le_refl _)) (Nat.ne_of_lt (Nat.lt_succ_self _))
  have I2 := Inv.made (C := C) I
  have r2 : Vals (V.ref (s.heap.objs.size + 1) :: (vs ++ dvs)) (Value.ref (s.heap.objs.size + 1) :: (us ++ ds)) := .cons rfl (r.append hd)
  have hl : (Value.ref (s.heap.objs.size + 1) :: us ++ ds).length = ps.length := by
    have e := r2.length
    rw [F.len _ _ _ _ hq] at e
    exact e.symm
  refine wpAny_call (make_map (f := f) I.kIn M.makes M.init (beq_iff_eq.mp M.fn) (codeAny_mono (F.run _ X.stack _ _ ⟨Value.ref (s.heap.objs.size + 1) :: us, []⟩ (Value.ref (s.heap.objs.size + 1) :: (us ++ ds)) _ _ E (hr.make C us [])
    (I2.env0.make C us []) (hb _ (Value.ref (s.heap.objs.size + 1) :: us) I2.kIn hl) r2 hq) fun r s' hq' => ?_))
  cases r with
  | error e => exact hx pins σ _ _ e s' I2 hq'
  | ok fl =>
    cases fl with
    | ret u =>
      obtain ⟨v, H', I3, rv, ev, q3⟩ := I2.after hq'
      subst ev
      exact ⟨rv, ⟨V.ref (s.heap.objs.size + 1), H', I3, rfl, q3⟩⟩
    | next => exact False.elim hq'
    | brk => exact False.elim hq'
    | cont => exact False.elim hq'
theorem pe_make0 (M : Mk X.K C f) (F : FnOk X.prog X.w X.K X.mg X.base CX k f fd ps sp) (hr : Room (k + 1) X.A) (hg : Gl X x) (hm : X.mg x = some (.ref C)) (hb : Binds X.K fd ps ds) (hd : Vals dvs ds) (hx : Passes CX X E)
    (hdb : (x == ("__debug__" : Str)) = false := by decide) : PE X (.Call (.Name x p) [] [] pos) (tMake C sp dvs E tNil) := by
  intro pins s σ H Q I h
  refine wpAny_Call_Name_kw (ld_glob I hg hm ?_ hdb)
  exact PySem.W.callWith_K0 I.kIn M.kp (run_make (us := []) M F hr hb hd hx I .nil h)
end
section
variable {X : Cx} {CX : CXT} {k : Nat} {f C : Addr} {fd : FuncData} {ps ks : List Str} {sp : Sp} {E : XK} {x m : Str} {p pos apos kpos : Pos} {e o : Expr} {es : List Expr} {kws : List Keyword} {te ta : TE} {t tk : TA} {nm : Option Str}
variable {g : List Value → List Value → List Value} {gV : List V → List V → List V}
end
structure FnScope (N P : List Str) (sc : Scope) : Prop where
  kind : sc.kind = .function
  co : sc.isCoroutine = false
  gen : sc.isGenerator = false
  nd : N.Nodup
  pre : N.take P.length = P
  par : ∀ x ∈ P, sc.names.lookup x = some .local ∨ sc.names.lookup x = some .cell
  nofree : ∀ y ∈ sc.names, y.2 ≠ .free
theorem bindL_out {kindOf : Str → Option NameKind} {x : Str} : ∀ {binds : List (Str × Value)} {m : Str → Option Value}, (∀ v, (x, v) ∉ binds) → bindL kindOf binds m x = m x
  | [], _, _ => rfl
  | (n, v) :: r, m, h => by
    unfold bindL
    rw [bindL_out fun w hw => h w (List.mem_cons_of_mem _ hw)]
    split
    · have : x ≠ n := by rintro rfl; exact h v List.mem_cons_self
      simp [this]
    · rfl
theorem bindC_out {kindOf : Str → Option NameKind} {x : Str} : ∀ {binds : List (Str × Value)} {m : Str → Option Value}, (∀ v, (x, v) ∉ binds) → bindC kindOf binds m x = m x
  | [], _, _ => rfl
  | (n, v) :: r, m, h => by
    unfold bindC
    rw [bindC_out fun w hw => h w (List.mem_cons_of_mem _ hw)]
    split
    · rfl
    · have : x ≠ n := by rintro rfl; exact h v List.mem_cons_self
      simp [this]
theorem bindL_get {kindOf : Str → Option NameKind} {x : Str} {v : Value} : ∀ {P : List Str} {vs : List Value} {i : Nat} {m : Str → Option Value}, P.Nodup → P[i]? = some x → vs[i]? = some v → kindOf x = some .local →
    bindL kindOf (P.zip vs) m x = some v
  | [], _, _, _, _, h, _, _ => by simp at h
  | _ :: _, [], _, _, _, _, h, _ => by simp at h
  | p :: P, w :: vs, 0, m, nd, h1, h2, hk => by
    simp at h1 h2; subst h1; subst h2
    show bindL kindOf ((p, w) :: P.zip vs) m p = _
    unfold bindL
    rw [bindL_out fun v hv => (List.nodup_cons.mp nd).1 (List.of_mem_zip hv).1, if_pos hk]
    simp
  | p :: P, w :: vs, i + 1, m, nd, h1, h2, hk => by
    show bindL kindOf ((p, w) :: P.zip vs) m x = _
    unfold bindL
    exact bindL_get (i := i) (List.nodup_cons.mp nd).2 (by simpa using h1) (by simpa using h2) hk
theorem bindC_get {kindOf : Str → Option NameKind} {x : Str} {v : Value} : ∀ {P : List Str} {vs : List Value} {i : Nat} {m : Str → Option Value}, P.Nodup → P[i]? = some x → vs[i]? = some v → kindOf x ≠ some .local →
    bindC kindOf (P.zip vs) m x = some v
  | [], _, _, _, _, h, _, _ => by simp at h
  | _ :: _, [], _, _, _, _, h, _ => by simp at h
  | p :: P, w :: vs, 0, m, nd, h1, h2, hk => by
    simp at h1 h2; subst h1; subst h2
    show bindC kindOf ((p, w) :: P.zip vs) m p = _
    unfold bindC
    rw [bindC_out fun v hv => (List.nodup_cons.mp nd).1 (List.of_mem_zip hv).1, if_neg hk]
    simp
  | p :: P, w :: vs, i + 1, m, nd, h1, h2, hk => by
    show bindC kindOf ((p, w) :: P.zip vs) m x = _
    unfold bindC
    exact bindC_get (i := i) (List.nodup_cons.mp nd).2 (by simpa using h1) (by simpa using h2) hk
def start (N : List Str) (vs : List V) : St := vs.map some ++ List.replicate (N.length - vs.length) none
def cxOf (CX : CXT) (P : Program) (w : World) (K : PySem.W.Frag) (mg : Str → Option Value) (base : Heap) (N : List Str) (qual : Str) (scope : Scope) (f : Addr) (cd : Value) (A : Around) (outer : List Env) (s : Shared) (H : Hp) (E : XK) : Cx where
  prog := P
  w := w
  K := K
  mg := mg
  base := base
  A := A.deeper (envOfC qual scope s.heap.objs.size f cd)
  N := N
  s_0 := s
  H_0 := H
  env := envOfC qual scope s.heap.objs.size f cd
  outer := outer
  stack := envOfC qual scope s.heap.objs.size f cd :: outer
  ex := []
  calm := true
  fn := fun _ => true
  pn := []
  xe := fun e s' => wpAny (model P w) (A.deeper (envOfC qual scope s.heap.objs.size f cd)) (leaving (envOfC qual scope s.heap.objs.size f cd) e) (fun _ s'' => CX outer H s E e s'') (fun e' s'' => CX outer H s E e' s'') s'
theorem cell_has {sc : Scope} {n : Nat} {x : Str} (h : sc.names.lookup x = some .cell) : ∃ c, (cellsFrom n sc.names []).lookup x = some c := by
  have q := PySem.W.cellsFrom_some sc.names n [] (.inl h)
  exact Option.isSome_iff_exists.mp q
theorem inv_start {CX : CXT} {P : Program} {w : World} {K : PySem.W.Frag} {mg : Str → Option Value} {base : Heap} {N ps : List Str} {qual : Str} {scope : Scope} {f : Addr} {cd : Value} {A : Around} {outer : List Env} {s s1 : Shared} {H : Hp} {E : XK} {us : List Value} {vs : List V}
    (S : FnScope N ps scope) (hd : A.handled = none) (e0 : Env0 P w K mg base A outer s H) (hl : vs.length = ps.length) (r : Vals vs us)
    (x : InCallC s s.heap.objs.size (bindL (envOfC qual scope s.heap.objs.size f cd).kindOf (ps.zip us) fun _ => none) (cellsFrom (s.heap.objs.size + 1) scope.names []) (bindC (envOfC qual scope s.heap.objs.size f cd).kindOf (ps.zip us) fun _ => none) s1) :
    Inv (cxOf CX P w K mg base N qual scope f cd A outer s H E) [] (start N vs) H s1 := by
  have hpl : ps.length ≤ N.length := by have := congrArg List.length S.pre; rw [List.length_take] at this; omega
  obtain ⟨h1, tk, rfl, hk⟩ := x.done
  have noA : ∀ b : Addr, b ∉ (cxOf CX P w K mg base N qual scope f cd A outer s H E).ex := fun b z => absurd (show b ∈ ([] : List Addr) from z) (by simp)
  refine ⟨⟨e0.mod, S.kind, rfl, rfl, Nat.le_refl _, fun y z c h1 h2 => ?_, fun y hy => ?_, fun y c _ h => ?_, fun _ => hd, Around.frames_deeper e0.frames, .inr ⟨rfl, rfl⟩, fun b z => absurd z (noA b), e0.bs, e0.bsz, fun b _ _ => noA b, fun b z => absurd z (noA b), e0.funs, e0.frf⟩,
    rfl, e0.bare, Un.kept hk, ⟨_, x.toInCall.ns, fun i y v h1 h2 h3 => ?_⟩, fun y c h => ⟨_, x.cell y c h⟩, e0.hok.fresh (Nat.le_refl _), fun y c h => ?_, fun p hp => absurd (show p ∈ ([] : List (Addr × Obj)) from hp) (by simp), e0.hok.kept hk, ?_⟩
  · exact name_of_addr x.apart (PySem.mem_of_lookup h1) (PySem.mem_of_lookup h2)
  · have hy : scope.names.lookup y = some .cell ∨ scope.names.lookup y = some .free := hy
    rcases hy with hy | hy
    · exact cell_has hy
    · exact absurd rfl (S.nofree _ (PySem.mem_of_lookup hy))
  · exact Nat.le_of_lt (x.above y c (PySem.mem_of_lookup h))
  · have hi : i < vs.length := by
      unfold start at h2
      by_cases hi : i < vs.length
      · exact hi
      · rw [List.getElem?_append_right (by simpa using hi)] at h2
        rw [List.getElem?_replicate] at h2
        split at h2 <;> cases h2
    have ha : vs[i]? = some v := by
      unfold start at h2
      rw [List.getElem?_append_left (by simpa using hi), List.getElem?_map] at h2
      cases e : vs[i]? with
      | none => rw [e] at h2; cases h2
      | some a => rw [e] at h2; cases h2; rfl
    obtain ⟨u, hu, rv⟩ := r.get ha
    have hp : ps[i]? = some y := by
      rw [← S.pre, List.getElem?_take_of_lt (by omega)]; exact h1
    have ndP : ps.Nodup := by rw [← S.pre]; exact S.nd.sublist (List.take_sublist _ _)
    refine ⟨u, rv, ?_⟩
    rcases S.par y (List.mem_of_getElem? hp) with k | k
    · exact .inl ⟨k, bindL_get ndP hp hu k⟩
    · obtain ⟨c, e⟩ := cell_has (n := s.heap.objs.size + 1) k
      refine .inr ⟨.inl k, c, e, ?_⟩
      have q := x.cell y c e
      rw [bindC_get ndP hp hu (by show scope.names.lookup y ≠ _; rw [k]; decide)] at q
      exact q
  · exact e0.hok.fresh (Nat.le_of_lt (x.above y c (PySem.mem_of_lookup h)))
  · unfold start
    show _ = N.length
    rw [List.length_append, List.length_map, List.length_replicate]
    omega
theorem fn_of {CX : CXT} {P : Program} {w : World} {K : PySem.W.Frag} {mg : Str → Option Value} {base : Heap} {k : Nat} {f : Addr} {name qual : Str} {params : Arguments} {body : List Stmt} {scope : Scope} {dV kV doc pm cdv ct oc : Value} {an od : Option Addr}
    {osl : Array (Option Value)} {N ps : List Str} {sp : Sp} (lk : K.lookup f = some ⟨oc, od, .func (PySem.W.fnOf name qual params body scope dV kV doc pm an cdv ct), osl⟩) (hcd : PySem.W.codeIn K cdv qual = true) (S : FnScope N ps scope)
    (len : ∀ vs H Q E, sp vs H Q E → vs.length = ps.length)
    (hbody : ∀ (A : Around) (outer : List Env) (s : Shared) (H : Hp) (vs : List V) (Q : VK) (E : XK), Room k (A.deeper (envOfC qual scope s.heap.objs.size f cdv)) → sp vs H Q E →
      ∃ t, PSs (cxOf CX P w K mg base N qual scope f cdv A outer s H E) body t ∧ t { nx := fun _ H' => Q .non H', rt := Q } (start N vs) H) :
    FnOk P w K mg base CX (k + 1) f (PySem.W.fnOf name qual params body scope dV kV doc pm an cdv ct) ps sp := by
  refine ⟨len, fun A outer s H args us vs Q E hr e0 hb r hsp => ?_⟩
  have hl := len _ _ _ _ hsp
  have KX : K.In s.heap := e0.mod.kin.keeps fun b o e => (e0.bs b o e).1
  have lim : s.heap.NoLimit := e0.mod.nolimit.keeps fun b o e => (e0.bs b o e).1
  have hkind : ∀ y ∈ ps.zip us, scope.names.lookup y.1 = some .local ∨ (scope.names.lookup y.1 = some .cell ∧ ((cellsFrom (s.heap.objs.size + 1) scope.names []).lookup y.1).isSome = true) := fun ⟨n, v⟩ hy => by
    rcases S.par n (List.of_mem_zip hy).1 with q | q
    · exact .inl q
    · exact .inr ⟨q, PySem.W.cellsFrom_some _ _ _ (.inl q)⟩
  refine codeAny_call_function hr.depth (KX _ _ lk) rfl S.co S.gen rfl (PySem.W.codeRec_of KX hcd) (hb _ _ _ _ ?_)
  refine wpAny_newFunctionEnv_cells S.kind hkind fun env he s1 x => ?_
  subst he
  refine ⟨lim.keeps x.toInCall.keep, codeAny_func ?_⟩
  obtain ⟨t, ht, hq⟩ := hbody A outer s H vs Q E (hr.deeper _) hsp
  have I : Inv (cxOf CX P w K mg base N qual scope f cdv A outer s H E) [] (start N vs) H s1 := inv_start S hr.hd e0 hl r x
  refine wpAny_mono (ht [] s1 (start N vs) H _ I hq) (fun fl s' hs => ?_) fun e s' hs => hs
  have fin : ∀ {σ' : St} {H' : Hp} {v : V} {u : Value}, Inv (cxOf CX P w K mg base N qual scope f cdv A outer s H E) [] σ' H' s' → RelV v u → Q v H' → CE outer P w H s Q u s' :=
    fun {σ' H' v u} J rv q => ⟨v, H', J.os, J.bare, J.base, J.hok, rv, q⟩
  cases fl with
  | ret u =>
    obtain ⟨v, σ', H', J, rv, q⟩ := hs
    exact fin J rv q
  | next =>
    obtain ⟨σ', H', J, q⟩ := hs
    exact fin (v := V.non) (u := Value.none) J rfl q
  | brk =>
    obtain ⟨_, _, _, q⟩ := hs
    exact False.elim q
  | cont =>
    obtain ⟨_, _, _, q⟩ := hs
    exact False.elim q
end L2
namespace L2
open PySem PySem.Spec PyProof.Rows
section
variable {X : Cx} {x : Str} {p pos : Pos} {e : Expr} {es : List Expr} {t : TA} {id T : String} {r : List V → Hp → VK → Prop}
def tCB (r : List V → Hp → VK → Prop) (t : TA) : TE := fun σ H Q => t σ H fun vs H1 => r vs H1 Q
theorem pe_callB (hc : CallR X (.builtin id) r) (hg : Gl X x) (hm : X.mg x = none) (hv : bootBuiltins x = some (.builtin id)) (ha : PA X (e :: es) t) (hn : x ≠ "__name__" := by decide) (hdb : (x == ("__debug__" : Str)) = false := by decide)
    (he : starEach (e :: es) X.env = (false, eval e X.env) :: starEach es X.env := by rfl) (hpl : (backTo pos (starEach es X.env)).any (·.1) = false := by rfl) : PE X (.Call (.Name x p) (e :: es) [] pos) (tCB r t) := by
  intro pins s σ H Q I h
  refine wpAny_Call_Name_kw (ld_blt I hg hm hv ?_ hn hdb)
  exact PyProof.Rows.callWith_builtin1 (thn (ha pos pins s σ H _ I h) fun us s1 ⟨vs, H1, I1, r1, q1⟩ => hc pins s1 σ H1 vs us Q I1 r1 q1) he hpl
theorem pe_callTy (hc : CallR X (.type T) r) (hg : Gl X x) (hm : X.mg x = none) (hv : bootBuiltins x = some (.type T)) (ha : PA X (e :: es) t) (hn : x ≠ "__name__" := by decide) (hdb : (x == ("__debug__" : Str)) = false := by decide)
    (he : starEach (e :: es) X.env = (false, eval e X.env) :: starEach es X.env := by rfl) (hpl : (backTo pos (starEach es X.env)).any (·.1) = false := by rfl) : PE X (.Call (.Name x p) (e :: es) [] pos) (tCB r t) := by
  intro pins s σ H Q I h
  refine wpAny_Call_Name_kw (ld_blt I hg hm hv ?_ hn hdb)
  exact PyProof.Rows.callWith_type1 (thn (ha pos pins s σ H _ I h) fun us s1 ⟨vs, H1, I1, r1, q1⟩ => hc pins s1 σ H1 vs us Q I1 r1 q1) he hpl
end
end L2
namespace HT
open PySem PyProof.Rows
def lexLt : List Int → List Int → Bool
  | [], [] => false
  | [], _ :: _ => true
  | _ :: _, [] => false
  | x :: xs, y :: ys => if x = y then lexLt xs ys else decide (x < y)
section
open PySem.SeqAt
open PySem.AutoSeq1 (wpAny_loadPart')
open PySem.MeetsSeq PySem.MeetsSeq2 PySem.MeetsSeq3
end
section
variable {prog : Program} {w : World} {A : Around} {E : Value → Shared → Prop} {s : Shared}
def sIx (n d : Nat) : Option Int → Nat
  | none => d
  | some v => if v < 0 then (v + (n : Int)).toNat else min v.toNat n
theorem sIx_nat (n d k : Nat) : sIx n d (some (k : Int)) = min k n := by
  show (if (k : Int) < 0 then ((k : Int) + (n : Int)).toNat else min (k : Int).toNat n) = min k n
  rw [if_neg (by omega), Int.toNat_natCast]
end
end HT
namespace L2
open PySem PySem.Spec PyProof.Rows
abbrev TO := St → Hp → (Option Int → Hp → Prop) → Prop
def PO (X : Cx) (e : Option Expr) (t : TO) : Prop :=
  ∀ (pins : List (Addr × Obj)) (s : Shared) (σ : St) (H : Hp) (Q : Option Int → Hp → Prop), Inv X pins σ H s → t σ H Q →
    wpAny (model X.prog X.w) X.A (evalPart e X.env) (fun u s' => ∃ o H', Inv X pins σ H' s' ∧ IsPart u o ∧ Q o H') X.xe s
def tNoPart : TO := fun _ H Q => Q none H
def tPart (t : TE) : TO := fun σ H Q => t σ H fun x H1 => ∃ i, x = .int i ∧ Q (some i) H1
section
variable {X : Cx} {e : Expr} {te : TE} {lo hi : Option Expr} {tl th : TO} {pos p2 : Pos}
theorem po_none : PO X none tNoPart := by
  intro pins s σ H Q I h
  rw [evalPart_none]
  exact wpAny_pure ⟨none, H, I, .none, h⟩
theorem po_some (h : PE X e te) : PO X (some e) (tPart te) := by
  intro pins s σ H Q I hw
  rw [evalPart_some]
  refine thn (h pins s σ H _ I hw) fun u s1 ⟨x, H1, I1, r1, q1⟩ => ?_
  obtain ⟨i, rfl, q⟩ := q1
  obtain ⟨t, rfl⟩ := r1
  exact ⟨some i, H1, I1, .int i t, q⟩
def SlR (X : Cx) (r : V → Option Int → Option Int → Hp → VK → Prop) : Prop :=
  ∀ (pins : List (Addr × Obj)) (s : Shared) (σ : St) (H : Hp) (x : V) (v vl vu : Value) (lo hi : Option Int) (sl : Addr) (Q : VK), Inv X pins σ H s → RelV x v → s.heap.IsSliceOf sl vl vu .none → IsPart vl lo → IsPart vu hi → r x lo hi H Q →
    ∃ T id, typeLookup (.type T) "__getitem__" = pure (some (.builtin id)) ∧ s.TypeIs v T ∧ wpAny (model X.prog X.w) X.A (getItem v (.ref sl)) (EP X pins σ Q) X.xe s
def tSl (r : V → Option Int → Option Int → Hp → VK → Prop) (te : TE) (tl th : TO) : TE := fun σ H Q => te σ H fun x H1 => tl σ H1 fun l H2 => th σ H2 fun u H3 => r x l u H3 Q
theorem pe_slice {r : V → Option Int → Option Int → Hp → VK → Prop} (hr : SlR X r) (he : PE X e te) (hl : PO X lo tl) (hu : PO X hi th) : PE X (.Subscript e (.Slice lo hi none p2) pos) (tSl r te tl th) := by
  intro pins s σ H Q I h
  refine Subscript_ (thn (he pins s σ H _ I h) fun v s1 ⟨x, H1, I1, r1, q1⟩ => ?_)
  refine wpAny_Slice (thn (hl pins s1 σ H1 _ I1 q1) fun vl s2 ⟨l, H2, I2, pl, q2⟩ => thn (hu pins s2 σ H2 _ I2 q2) fun vu s3 ⟨u, H3, I3, pu, q3⟩ => ?_)
  rw [evalPart_none]
  refine wpAny_pure ?_
  have I4 : Inv X pins σ H3 { s3 with heap := s3.heap.push { cls := .type "slice", data := .fields #[vl, vu, .none] } } := I3.kept (t' := s3.toks) fun b ob q => Heap.get?_push_of_some _ q
  obtain ⟨T, id, hT, ht, hg⟩ := hr pins { s3 with heap := s3.heap.push { cls := .type "slice", data := .fields #[vl, vu, .none] } } σ H3 x v vl vu l u s3.heap.objs.size Q I4 r1 (Heap.IsSliceOf.new ..) pl pu q3
  show wpAny (model X.prog X.w) X.A (subscriptTail e (.Slice lo hi none p2) v (.ref s3.heap.objs.size)) (EP X pins σ Q) X.xe { s3 with heap := s3.heap.push { cls := .type "slice", data := .fields #[vl, vu, .none] } }
  exact tail_any (ops := [.ref s3.heap.objs.size, v]) ht hT hg (by with_unfolding_all rfl)
def cutV (xs : List V) (lo hi : Option Int) : List V := (xs.drop (HT.sIx xs.length 0 lo)).take (HT.sIx xs.length xs.length hi - HT.sIx xs.length 0 lo)
theorem cutV_length (xs : List V) (lo hi : Option Int) : (cutV xs lo hi).length ≤ xs.length := by
  unfold cutV
  rw [List.length_take, List.length_drop]
  omega
end
end L2
namespace L2
open PySem PySem.Spec PyProof.Rows
def ixN (n : Nat) (i : Int) : Option Nat := if 0 ≤ i then (if i < n then some i.toNat else none) else if -(n : Int) ≤ i then some (i + n).toNat else none
def atI {α : Type} (xs : List α) (i : Int) : Option α := (ixN xs.length i).bind fun j => xs[j]?
theorem ixN_seq {n : Nat} {i : Int} {j : Nat} (h : ixN n i = some j) : seqIndex? i n = some j ∧ j < n ∧ -(n : Int) ≤ i ∧ i < n := by
  unfold ixN at h
  by_cases h0 : 0 ≤ i
  · rw [if_pos h0] at h
    by_cases h1 : i < n
    · rw [if_pos h1] at h
      have e : i.toNat = j := Option.some.inj h
      exact ⟨by rw [seqIndex_of h0 h1, e], by omega, by omega, h1⟩
    · rw [if_neg h1] at h; cases h
  · rw [if_neg h0] at h
    by_cases h1 : -(n : Int) ≤ i
    · rw [if_pos h1] at h
      have e : (i + n).toNat = j := Option.some.inj h
      exact ⟨by rw [seqIndex_neg (by omega) h1, e], by omega, h1, by omega⟩
    · rw [if_neg h1] at h; cases h
theorem atI_get {α : Type} {xs : List α} {i : Int} {v : α} (h : atI xs i = some v) : ∃ j, seqIndex? i xs.length = some j ∧ xs[j]? = some v ∧ j < xs.length ∧ -(xs.length : Int) ≤ i ∧ i < xs.length := by
  unfold atI at h
  cases e : ixN xs.length i with
  | none => rw [e] at h; cases h
  | some j =>
    rw [e] at h
    obtain ⟨h1, h2, h3, h4⟩ := ixN_seq e
    exact ⟨j, h1, h, h2, h3, h4⟩
theorem atI_nat {α : Type} {xs : List α} {j : Nat} {v : α} (h : xs[j]? = some v) : atI xs (j : Int) = some v := by
  have hj : j < xs.length := (List.getElem?_eq_some_iff.mp h).1
  have e : ixN xs.length (j : Int) = some j := by
    unfold ixN
    rw [if_pos (by omega), if_pos (by omega)]; simp
  unfold atI; rw [e]; exact h
def PlainIx (b : Expr) : Prop := ∀ o i, subscripted b false o i = operate [o, i] (getItem o i)
def IxR (X : Cx) (r : R2) : Prop :=
  ∀ (value slice : Expr) (pins : List (Addr × Obj)) (s : Shared) (σ : St) (H : Hp) (x y : V) (v u : Value) (Q : VK), Inv X pins σ H s → RelV x v → RelV y u → r x y H Q →
    subscripted slice false v u = operate [v, u] (getItem v u) → wpAny (model X.prog X.w) X.A (subscriptTail value slice v u) (EP X pins σ Q) X.xe s
def MtR (X : Cx) (id : String) (r : V → List V → Hp → VK → Prop) : Prop :=
  ∀ (pins : List (Addr × Obj)) (s : Shared) (σ : St) (H : Hp) (x : V) (xs : List V) (v : Value) (us : List Value) (Q : VK), Inv X pins σ H s → RelV x v → Vals xs us → r x xs H Q →
    wpAny (model X.prog X.w) X.A (call (.builtin id) (v :: us)) (EP X pins σ Q) X.xe s
section
variable {X : Cx} {a b : Expr} {ta tb : TE} {pos : Pos}
theorem pe_ix {r : R2} (hr : IxR X r) (ha : PE X a ta) (hb : PE X b tb) (hs : PlainIx b) : PE X (.Subscript a b pos) (tOp r ta tb) := by
  intro pins s σ H Q I h
  exact Subscript_ (binT ha hb I h fun v u s2 x y H2 I2 rx ry q => hr a b pins s2 σ H2 x y v u Q I2 rx ry q (hs _ _))
def rIxL (K : PySem.W.Frag) : R2 := fun x y H Q => ∃ p xs i v, x = .ref p ∧ y = .int i ∧ SqL K H p xs ∧ atI xs i = some v ∧ Q v H
def rIxT (K : PySem.W.Frag) : R2 := fun x y H Q => ∃ p xs i v, x = .ref p ∧ y = .int i ∧ SqT K H p xs ∧ atI xs i = some v ∧ Q v H
theorem ix_list : IxR X (rIxL X.K) := by
  intro value slice pins s σ H x y v u Q I rx ry h hs
  obtain ⟨p, xs, i, z, rfl, rfl, hq, he, q⟩ := h
  cases rx
  obtain ⟨t, rfl⟩ := ry
  obtain ⟨its, r, pl, hz⟩ := I.list hq
  obtain ⟨j, h1, h2, h3, h4, h5⟩ := atI_get he
  obtain ⟨w, ew, rw'⟩ := r.get h2
  have hl := r.length
  have hn := line63
  have fin : EP X pins σ Q w s := ⟨z, H, I, rw', q⟩
  by_cases h0 : 0 ≤ i
  · have hj : i.toNat = j := by
      rw [seqIndex_of h0 h5] at h1
      exact Option.some.inj h1
    exact item_listR pl.isList h0 (by omega) (by rw [hj]; simpa using ew) fin hs
  · have hj : (i + (its.toArray.size : Int)).toNat = j := by
      rw [seqIndex_neg (by omega) h4] at h1
      rw [List.size_toArray, ← hl]
      exact Option.some.inj h1
    exact subscriptTail_builtinR (x := w) pl.isList.typeIs slot_list_getitem.lookup
      (wpAny_getItem_list_neg (Q := fun r s' => r = w ∧ EP X pins σ Q r s') pl.isList (by omega) (by rw [List.size_toArray] <;> omega) (by omega) (by rw [hj]; simpa using ew) ⟨rfl, fin⟩) hs
theorem ix_tup : IxR X (rIxT X.K) := by
  intro value slice pins s σ H x y v u Q I rx ry h hs
  obtain ⟨p, xs, i, z, rfl, rfl, hq, he, q⟩ := h
  cases rx
  obtain ⟨t, rfl⟩ := ry
  obtain ⟨its, r, pl, hz⟩ := I.tuple hq
  obtain ⟨j, h1, h2, h3, h4, h5⟩ := atI_get he
  obtain ⟨w, ew, rw'⟩ := r.get h2
  have hl := r.length
  have hn := line63
  have fin : EP X pins σ Q w s := ⟨z, H, I, rw', q⟩
  exact subscriptTail_builtinR (x := w) pl.typeIs slot_tuple_getitem.lookup
    (getItem_tuple (j := j) (Q := fun r s' => r = w ∧ EP X pins σ Q r s') pl (by omega) (by omega) (by rw [List.size_toArray, ← hl]; exact h1) (by simpa using ew) ⟨rfl, fin⟩) hs
theorem mapSeq_set (its : List Value) (n j : Nat) (u : Value) : Obj.mapSeq (·.setIfInBounds j u) { cls := .type "list", data := .seq its.toArray n } = { cls := .type "list", data := .seq (its.set j u).toArray n } := by
  simp [Obj.mapSeq]
theorem Inv.lst {pins : List (Addr × Obj)} {σ : St} {H : Hp} {s : Shared} {p : Addr} {xs : List V} (I : Inv X pins σ H s) (h : H p = some (.lst xs)) :
    ∃ (its : List Value) (n : Nat), Vals xs its ∧ s.heap.get? p = some { cls := .type "list", data := .seq its.toArray n } ∧ xs.length ≤ sizeLine := by
  obtain ⟨z, its, n, r, e⟩ := I.hok p _ h
  exact ⟨its, n, r, e, z⟩
theorem Inv.lstUpd {pins : List (Addr × Obj)} {σ : St} {H : Hp} {s : Shared} {p : Addr} {xs ys : List V} {its its' : List Value} {n n' : Nat} {f : Obj → Obj} (I : Inv X pins σ H s) (h : H p = some (.lst xs))
    (ho : s.heap.get? p = some { cls := .type "list", data := .seq its.toArray n }) (hf : f { cls := .type "list", data := .seq its.toArray n } = { cls := .type "list", data := .seq its'.toArray n' }) (r : Vals ys its') (hz : ys.length ≤ sizeLine) (t : Nat) :
    Inv X pins σ (upd H p (.lst ys)) { s with heap := s.heap.update p f, toks := t } := by
  have e : (s.heap.update p f).get? p = some { cls := .type "list", data := .seq its'.toArray n' } := by
    rw [Heap.get?_update_self f ho (by rw [hf] <;> rfl), hf]
  refine I.write (x := p) (e := p) (by rw [h]; trivial) (.inl rfl) (fun b u hb q => (Heap.get?_update_other _ _ (Ne.symm hb)).trans q) ⟨_, e⟩ ?_
  exact ⟨hz, its', n', r, e⟩
def rSetL : V → V → V → Hp → (Hp → Prop) → Prop := fun o i v H Q => ∃ p xs k j, o = .ref p ∧ i = .int k ∧ H p = some (.lst xs) ∧ ixN xs.length k = some j ∧ Q (upd H p (.lst (xs.set j v)))
theorem set_list : PSet X rSetL := by
  intro pins s σ H o i v ov iv u Q I ro ri rv h
  obtain ⟨p, xs, k, j, rfl, rfl, hp, hj, q⟩ := h
  cases ro
  obtain ⟨t, rfl⟩ := ri
  obtain ⟨its, n, r, ho, hz⟩ := I.lst hp
  obtain ⟨h1, h2, h3, h4⟩ := ixN_seq hj
  have hl := r.length
  have hn := line63
  have I' : Inv X pins σ (upd H p (.lst (xs.set j v))) { s with heap := s.heap.update p (Obj.mapSeq (·.setIfInBounds j u)) } :=
    I.lstUpd hp ho (mapSeq_set its n j u) (r.set rv j) (by rw [List.length_set]; exact hz) s.toks
  by_cases h0 : 0 ≤ k
  · have hk : k.toNat = j := by
      rw [seqIndex_of h0 h4] at h1
      exact Option.some.inj h1
    exact PySem.W.ki_setAt ho h0 (by omega) (by rw [List.size_toArray, ← hl]; exact h4) (by rw [hk]; exact ⟨_, I', q⟩)
  · have hk : (k + (its.toArray.size : Int)).toNat = j := by
      rw [seqIndex_neg (by omega) h3] at h1
      rw [List.size_toArray, ← hl]
      exact Option.some.inj h1
    exact PySem.W.ki_setBack ho (by omega) (by rw [List.size_toArray, ← hl]; exact h3) (by omega) (by rw [hk]; exact ⟨_, I', q⟩)
theorem slice_bounds (lo hi : Option Int) (n : Nat) : (sliceBounds lo hi none n).1 = ((HT.sIx n 0 lo : Nat) : Int) ∧ (sliceBounds lo hi none n).2.1 = ((HT.sIx n n hi : Nat) : Int) ∧ (sliceBounds lo hi none n).2.2 = 1 := by
  refine ⟨?_, ?_, rfl⟩
  · cases lo with
    | none => simp [sliceBounds, HT.sIx]
    | some i =>
      simp only [sliceBounds, HT.sIx, Option.getD_none, show (1 : Int) > 0 by decide, if_true]
      by_cases h : i < 0
      · simp only [h, if_true] <;> omega
      · simp only [h, if_false] <;> omega
  · cases hi with
    | none => simp [sliceBounds, HT.sIx]
    | some i =>
      simp only [sliceBounds, HT.sIx, Option.getD_none, show (1 : Int) > 0 by decide, if_true]
      by_cases h : i < 0
      · simp only [h, if_true] <;> omega
      · simp only [h, if_false] <;> omega
theorem slicePick_cut (its : List Value) (lo hi : Option Int) : slicePick its.toArray lo hi none = ((its.drop (HT.sIx its.length 0 lo)).take (HT.sIx its.length its.length hi - HT.sIx its.length 0 lo)).toArray := by
  obtain ⟨h1, h2, h3⟩ := slice_bounds lo hi its.toArray.size
  unfold slicePick
  rw [h1, h2, h3]
  simp only [sliceRange_one, pick_run, List.size_toArray] <;> rfl
def rSlL (K : PySem.W.Frag) : V → Option Int → Option Int → Hp → VK → Prop := fun x lo hi H Q => ∃ a xs, x = .ref a ∧ SqL K H a xs ∧ ∀ p, H p = none → Q (.ref p) (upd H p (.lst (cutV xs lo hi)))
theorem sl_list : SlR X (rSlL X.K) := by
  intro pins s σ H x v vl vu lo hi sl Q I rx hs pl pu h
  obtain ⟨a, xs, rfl, hx, q⟩ := h
  cases rx
  obtain ⟨its, r, ht, hz⟩ := I.list hx
  have hlen := r.length
  refine ⟨"list", _, slot_list_getitem.lookup, ht.isList.typeIs, ?_⟩
  refine wpAny_getItem_list_slice ht.isList hs pl pu .none (by simp) ?_ (by rw [List.size_toArray] <;> omega)
  rw [slicePick_cut, ← hlen]
  refine ⟨.ref s.heap.objs.size, _, I.laid (t' := s.toks) (o := .lst (cutV xs lo hi)) (fun b ob q => Heap.get?_push_of_some _ q) (Nat.le_refl _) ?_, rfl, q _ (I.hok.fresh (Nat.le_refl _))⟩
  exact ⟨Nat.le_trans (cutV_length xs lo hi) hz, _, 0, (r.drop (HT.sIx xs.length 0 lo)).take (HT.sIx xs.length xs.length hi - HT.sIx xs.length 0 lo), Heap.get?_push_size _ rfl⟩
def flatV : V → Bool
  | .non => true
  | .bl _ => true
  | .int _ => true
  | .str _ => true
  | _ => false
def eqV : V → V → Bool
  | .non, .non => true
  | .bl a, .bl b => a == b
  | .bl a, .int b => (if a then 1 else 0) == b
  | .int a, .bl b => a == (if b then 1 else 0)
  | .int a, .int b => a == b
  | .str a, .str b => a == b
  | _, _ => false
theorem eqAt_V {A : Around} {s : Shared} {y x : V} {u v : Value} (ry : RelV y u) (rx : RelV x v) (fy : flatV y = true) (fx : flatV x = true) : SeqAt.EqAt A s u v (eqV y x) := by
  cases y with
  | non =>
    cases ry
    cases x with
    | non => cases rx; exact SeqAt.EqAt.same _
    | bl b => cases rx; exact SeqAt.EqAt.none_bool b
    | int b => obtain ⟨t, rfl⟩ := rx; exact SeqAt.EqAt.none_int b t
    | str b => obtain ⟨t, rfl⟩ := rx; exact SeqAt.EqAt.none_str b t
    | _ => exact absurd (show false = true from fx) Bool.false_ne_true
  | bl a =>
    cases ry
    cases x with
    | non => cases rx; exact SeqAt.EqAt.bool_none a
    | bl b => cases rx; exact SeqAt.EqAt.bool_bool a b
    | int b => obtain ⟨t, rfl⟩ := rx; exact SeqAt.EqAt.bool_int a b t
    | str b => obtain ⟨t, rfl⟩ := rx; exact SeqAt.EqAt.bool_str a b t
    | _ => exact absurd (show false = true from fx) Bool.false_ne_true
  | int a =>
    obtain ⟨t', rfl⟩ := ry
    cases x with
    | non => cases rx; exact SeqAt.EqAt.int_none a t'
    | bl b => cases rx; exact SeqAt.EqAt.int_bool a t' b
    | int b => obtain ⟨t, rfl⟩ := rx; exact SeqAt.EqAt.int_int a t' b t
    | str b => obtain ⟨t, rfl⟩ := rx; exact SeqAt.EqAt.int_str a t' b t
    | _ => exact absurd (show false = true from fx) Bool.false_ne_true
  | str a =>
    obtain ⟨t', rfl⟩ := ry
    cases x with
    | non => cases rx; exact SeqAt.EqAt.str_none a t'
    | bl b => cases rx; exact SeqAt.EqAt.str_bool a t' b
    | int b => obtain ⟨t, rfl⟩ := rx; exact SeqAt.EqAt.str_int a t' b t
    | str b => obtain ⟨t, rfl⟩ := rx; exact SeqAt.EqAt.str_str a t' b t
    | _ => exact absurd (show false = true from fx) Bool.false_ne_true
  | _ => exact absurd (show false = true from fy) Bool.false_ne_true
def eqU (x : V) (u : Value) : Bool := match u with
  | .none => eqV .non x
  | .bool b => eqV (.bl b) x
  | .int i _ => eqV (.int i) x
  | .str z _ => eqV (.str z) x
  | _ => false
theorem eqU_of {x y : V} {u : Value} (r : RelV y u) (f : flatV y = true) : eqU x u = eqV y x := by
  cases y with
  | non => cases r; rfl
  | bl b => cases r; rfl
  | int i => obtain ⟨t, rfl⟩ := r; rfl
  | str z => obtain ⟨t, rfl⟩ := r; rfl
  | _ => exact absurd (show false = true from f) Bool.false_ne_true
theorem any_eqU {x : V} : ∀ {xs : List V} {us : List Value}, Vals xs us → xs.all flatV = true → us.any (eqU x) = xs.any fun y => eqV y x
  | _, _, .nil, _ => rfl
  | y :: xs, u :: us, .cons r t, f => by
    rw [List.all_cons, Bool.and_eq_true] at f
    rw [List.any_cons, List.any_cons, eqU_of r f.1, any_eqU t f.2]
theorem mem_eqAt {A : Around} {s : Shared} {x : V} {v : Value} (rx : RelV x v) (fx : flatV x = true) : ∀ {xs : List V} {us : List Value}, Vals xs us → xs.all flatV = true → ∀ u ∈ us, SeqAt.EqAt A s u v (eqU x u)
  | _, _, .nil, _ => fun u hu => by cases hu
  | y :: xs, u :: us, .cons r t, f => fun u' hu => by
    rw [List.all_cons, Bool.and_eq_true] at f
    rcases List.mem_cons.mp hu with rfl | hu
    · rw [eqU_of r f.1]; exact eqAt_V r rx f.1 fx
    · exact mem_eqAt rx fx t f.2 u' hu
def inV (x : V) (xs : List V) : Bool := xs.any fun y => eqV y x
def rIn (K : PySem.W.Frag) (neg : Bool) : R2 := fun x y H Q => ∃ p xs, y = .ref p ∧ (SqL K H p xs ∨ SqT K H p xs) ∧ flatV x = true ∧ xs.all flatV = true ∧ Q (.bl (if neg then !inV x xs else inV x xs)) H
theorem op_notIn_seq : OpR X (compareOp .NotIn) (rIn X.K true) := by
  intro pins s σ H x y v u Q I rx ry h
  obtain ⟨p, xs, rfl, hq, fx, fs, q⟩ := h
  cases ry
  rcases hq with hq | hq
  · obtain ⟨its, r, pl, hz⟩ := I.list hq
    refine SeqAt.notIn_listAt (eqU x) pl.isList (fun w hw => mem_eqAt rx fx r fs w (by simpa using hw)) ⟨.bl _, H, I, rfl, ?_⟩
    rw [show its.toArray.any (eqU x) = its.any (eqU x) by simp, any_eqU r fs]
    exact q
  · obtain ⟨its, r, pl, hz⟩ := I.tuple hq
    refine SeqAt.notIn_tupleAt (eqU x) pl (fun w hw => mem_eqAt rx fx r fs w (by simpa using hw)) ⟨.bl _, H, I, rfl, ?_⟩
    rw [show its.toArray.any (eqU x) = its.any (eqU x) by simp, any_eqU r fs]
    exact q
theorem call_len_seq : CallR X (.builtin "len") (fun xs H Q => ∃ p ys, xs = [.ref p] ∧ (SqL X.K H p ys ∨ SqT X.K H p ys) ∧ Q (.int ys.length) H) := by
  intro pins s σ H xs us Q I r h
  obtain ⟨p, ys, rfl, hq, q⟩ := h
  obtain ⟨u, rfl, rx⟩ := vals1 r
  cases rx
  have hn := line63
  rcases hq with hq | hq
  · obtain ⟨its, r', pl, hz⟩ := I.list hq
    have hlen := r'.length
    exact Calls.call_len_list pl.isList (by simp only [List.size_toArray] <;> omega) ⟨.int ys.length, H, I.tok _, ⟨s.toks + 1, by rw [List.size_toArray, hlen]⟩, q⟩
  · obtain ⟨its, r', pl, hz⟩ := I.tuple hq
    have hlen := r'.length
    exact len_tuple pl (by simp only [List.size_toArray] <;> omega) ⟨.int ys.length, H, I.tok _, ⟨s.toks + 1, by rw [List.size_toArray, hlen]⟩, q⟩
theorem call_list_of : CallR X (.type "list") (fun xs H Q => ∃ p ys, xs = [.ref p] ∧ (SqL X.K H p ys ∨ SqT X.K H p ys) ∧ ∀ l, H l = none → Q (.ref l) (upd H l (.lst ys))) := by
  intro pins s σ H xs us Q I r h
  obtain ⟨p, ys, rfl, hq, q⟩ := h
  obtain ⟨u, rfl, rx⟩ := vals1 r
  cases rx
  have fin : ∀ (its : List Value), Vals ys its → ys.length ≤ sizeLine → ∀ (h' : Heap) (c' : Nat), (∀ b o', s.heap.get? b = some o' → h'.get? b = some o') →
      h'.get? s.heap.objs.size = some { cls := .type "list", dict := none, data := .seq its.toArray c', slots := #[] } → EP X pins σ Q (.ref s.heap.objs.size) { s with heap := h' } := fun its r' hz h' c' kp e =>
    ⟨.ref s.heap.objs.size, _, I.laid (t' := s.toks) kp (Nat.le_refl _) (show ObjOk X.prog X.w _ h' _ (.lst ys) from ⟨hz, its, c', r', e⟩), rfl, q _ (I.hok.fresh (Nat.le_refl _))⟩
  rcases hq with hq | hq
  · obtain ⟨its, r', pl, hz⟩ := I.list hq
    have hlen := r'.length
    obtain ⟨o, ho, hc, n, hd⟩ := pl.isList
    exact call_list_seq p (.inl rfl) ho hc hd (fun h' c' kp e => fin its r' hz h' c' kp e) (by simp only [List.size_toArray] <;> omega)
  · obtain ⟨its, r', pl, hz⟩ := I.tuple hq
    have hlen := r'.length
    obtain ⟨o, ho, hc, n, hd⟩ := pl
    exact call_list_seq p (.inr rfl) ho hc hd (fun h' c' kp e => fin its r' hz h' c' kp e) (by simp only [List.size_toArray] <;> omega)
def tyV (K : PySem.W.Frag) (T : String) (x : V) (H : Hp) : Prop := match x with
  | .str _ => T = "str"
  | .int _ => T = "int"
  | .ref p => (T = "list" ∧ ∃ xs, SqL K H p xs) ∨ (T = "tuple" ∧ ∃ o, K.lookup p = some o ∧ o.cls = .type "tuple" ∧ o.dict = none) ∨
      (T = "dict" ∧ ((∃ kvs, H p = some (.dK kvs)) ∨ ∃ kvs, H p = some (.dT kvs))) ∨ (T = "set" ∧ ∃ S n, H p = some (.set S n))
  | _ => False
theorem tyV_is {pins : List (Addr × Obj)} {σ : St} {H : Hp} {s : Shared} {T : String} {x : V} {v : Value} (I : Inv X pins σ H s) (r : RelV x v) (ty : tyV X.K T x H) :
    s.TypeIs v T ∧ ∀ a, v = .ref a → ∃ ob, s.heap.get? a = some ob ∧ ob.dict = none := by
  cases x with
  | str z =>
    obtain ⟨t, rfl⟩ := r
    cases (show T = "str" from ty)
    exact ⟨typeIs_str s z t, fun _ e => nomatch e⟩
  | int i =>
    obtain ⟨t, rfl⟩ := r
    cases (show T = "int" from ty)
    exact ⟨typeIs_int s i t, fun _ e => nomatch e⟩
  | ref p =>
    cases r
    rcases ty with ⟨rfl, xs, hq⟩ | ⟨rfl, o, hk, hc, hd⟩ | ⟨rfl, hk⟩ | ⟨rfl, S, n, hk⟩
    · obtain ⟨its, _, pl, _⟩ := I.list hq
      refine ⟨pl.isList.typeIs, fun a e => ?_⟩
      cases e
      obtain ⟨o, n, e, c, hd, _⟩ := pl
      exact ⟨o, e, hd⟩
    · refine ⟨⟨o, I.kIn p o hk, hc⟩, fun a e => ?_⟩
      cases e
      exact ⟨o, I.kIn _ o hk, hd⟩
    · have z : ∃ o, s.heap.get? p = some o ∧ o.ExactDict := by
        rcases hk with ⟨kvs, hk⟩ | ⟨kvs, hk⟩
        · obtain ⟨_, _, _, _, o, _, _, e, ex, _⟩ := I.hok p _ hk
          exact ⟨o, e, ex⟩
        · obtain ⟨_, _, _, _, o, _, _, e, ex, _⟩ := I.hok p _ hk
          exact ⟨o, e, ex⟩
      obtain ⟨o, e, ex⟩ := z
      refine ⟨⟨o, e, ex.1⟩, fun a e2 => ?_⟩
      cases e2
      exact ⟨o, e, ex.2.1⟩
    · obtain ⟨o, _, _, _, e, ex, _⟩ := I.hok p _ hk
      refine ⟨⟨o, e, ex.1⟩, fun a e2 => ?_⟩
      cases e2
      exact ⟨o, e, ex.2.1⟩
  | _ => exact False.elim ty
def tBM (K : PySem.W.Frag) (T : String) (r : V → List V → Hp → VK → Prop) (to : TE) (t : TA) : TE := fun σ H Q => to σ H fun x H1 => tyV K T x H1 ∧ t σ H1 fun xs H2 => r x xs H2 Q
variable {o e : Expr} {es : List Expr} {to : TE} {t : TA} {name : Str} {apos cpos : Pos} {T id : String} {r : V → List V → Hp → VK → Prop}
theorem pe_bm (pa : PlainAttrs T) (slot : Slot T name id) (hty : typeOf (.builtin id) = pure (.type "method_descriptor")) (hm : MtR X id r) (ho : PE X o to) (ha : PA X (e :: es) t)
    (hbase : attributeBase o name X.env (eval o X.env) = eval o X.env := by rfl)
    (hfew : ((backTo cpos (starEach (e :: es) X.env)).all (fun x => !x.1) && (backToKw cpos (keywordEach [] X.env)).all (fun x => x.1.isSome)
      && decide ((e :: es).length + ([] : List Keyword).length + (if ([] : List Keyword).isEmpty then 0 else 1) < 30)) = true := by rfl)
    (hline : (apos.endLine == cpos.line) = true := by rfl) (hs : starEach (e :: es) X.env = (false, eval e X.env) :: starEach es X.env := by rfl) (hplain : (backTo cpos (starEach es X.env)).any (·.1) = false := by rfl) :
    PE X (.Call (.Attribute o name apos) (e :: es) [] cpos) (tBM X.K T r to t) := by
  intro pins s σ H Q I h
  refine wpAny_Call_method_late hbase hfew hline rfl (thn (ho pins s σ H _ I h) fun v s1 ⟨x, H1, I1, r1, ty, q1⟩ => ?_)
  obtain ⟨h1, h2⟩ := tyV_is I1 r1 ty
  refine ⟨T, id, pa, slot, hty, h1, h2, ?_⟩
  have hA := ha cpos pins s1 σ H1 _ I1 q1
  rw [hs] at hA ⊢
  refine Calls.callWith_builtin (by show (false || (backTo cpos (starEach es X.env)).any (·.1)) = false; rw [hplain] <;> rfl) (Calls.evalArgs_plain ?_)
  exact thn hA fun us s2 ⟨vs, H2, I2, r2, q2⟩ => hm pins s2 σ H2 x vs v us Q I2 r1 r2 q2
/- xs.append(e), list.index on a module's tuple .. are MtR facts of 06m -/
end
end L2
namespace L2
open PySem PySem.Spec PyProof.Rows
def MtM (X : Cx) (id : String) (r : V → List V → Hp → VK → Prop) : Prop :=
  ∀ (pins : List (Addr × Obj)) (s : Shared) (σ : St) (H : Hp) (x : V) (xs : List V) (v : Value) (us : List Value) (Q : VK), Inv X pins σ H s → RelV x v → Vals xs us → r x xs H Q →
    wpAny (model X.prog X.w) X.A (call (.builtin id) (v :: us)) (EP X pins σ Q) X.xe s
theorem Vals.one : ∀ {x : V} {us : List Value}, Vals [x] us → ∃ u, us = [u] ∧ RelV x u
  | _, _, .cons r .nil => ⟨_, rfl, r⟩
theorem Vals.two : ∀ {x y : V} {us : List Value}, Vals [x, y] us → ∃ u v, us = [u, v] ∧ RelV x u ∧ RelV y v
  | _, _, _, .cons r (.cons q .nil) => ⟨_, _, rfl, r, q⟩
theorem Vals.zero : ∀ {us : List Value}, Vals [] us → us = []
  | _, .nil => rfl
theorem Vals.rep {xs : List V} {us : List Value} (h : Vals xs us) : ∀ k : Nat, Vals (List.replicate k xs).flatten (List.replicate k us).flatten
  | 0 => .nil
  | k + 1 => by
    rw [List.replicate_succ, List.replicate_succ, List.flatten_cons, List.flatten_cons]
    exact Vals.append h (Vals.rep h k)
theorem foldl_rep (its : List Value) : ∀ (k : Nat) (acc : List Value),
    List.foldl (fun x1 x2 => x1 ++ x2) acc.toArray (List.replicate k its.toArray) = (acc ++ (List.replicate k its).flatten).toArray
  | 0, acc => by simp
  | k + 1, acc => by
    have e : acc.toArray ++ its.toArray = (acc ++ its).toArray := by simp
    have e2 : (acc ++ its) ++ (List.replicate k its).flatten = acc ++ (List.replicate (k + 1) its).flatten := by
      rw [List.replicate_succ, List.flatten_cons, List.append_assoc]
    rw [← e2, ← foldl_rep its k (acc ++ its), ← e, List.replicate_succ, List.foldl_cons]
section
variable {X : Cx} {pins : List (Addr × Obj)} {σ : St} {H : Hp} {s : Shared} {l b : Addr} {xs ys zs : List V}
theorem Inv.lset {its its' : List Value} {n : Nat} {f : Array Value → Array Value} {t' : Nat} (I : Inv X pins σ H s) (hH : H l = some (.lst xs))
    (e : s.heap.get? l = some { cls := .type "list", data := .seq its.toArray n }) (hf : f its.toArray = its'.toArray) (hv : Vals ys its') (hz : ys.length ≤ sizeLine) :
    Inv X pins σ (upd H l (.lst ys)) { s with heap := s.heap.update l (Obj.mapSeq f), toks := t' } := by
  have q := PySem.IsL.update e f
  rw [hf] at q
  refine I.write (x := l) (e := l) (by rw [hH]; exact trivial) (.inl rfl) (fun b' u hb hu => (Heap.get?_update_other s.heap (Obj.mapSeq f) (Ne.symm hb)).trans hu) ⟨_, q⟩ ?_
  exact ⟨hz, its', _, hv, q⟩
theorem Inv.lnew {its : List Value} {t' : Nat} (I : Inv X pins σ H s) (hv : Vals ys its) (hz : ys.length ≤ sizeLine) :
    Inv X pins σ (upd H s.heap.objs.size (.lst ys)) { s with heap := s.heap.push { cls := .type "list", data := .seq its.toArray }, toks := t' } :=
  I.laid (fun _ _ q => Heap.get?_push_of_some _ q) (Nat.le_refl _) ⟨hz, its, 0, hv, Heap.get?_push_size _ rfl⟩
theorem Inv.fresh (I : Inv X pins σ H s) : H s.heap.objs.size = none := I.hok.fresh (Nat.le_refl _)
theorem Inv.lstM (I : Inv X pins σ H s) (hH : H l = some (.lst xs)) : xs.length ≤ sizeLine ∧ ∃ (its : List Value) (n : Nat), Vals xs its ∧ xs.length = its.length ∧ s.heap.get? l = some { cls := .type "list", data := .seq its.toArray n } := by
  obtain ⟨z, its, n, r, e⟩ := I.hok l _ hH
  exact ⟨z, its, n, r, r.length, e⟩
theorem notLongL {n : Nat} (h : n ≤ sizeLine) : Builtin.List.listTooLong n = false := by
  unfold Builtin.List.listTooLong
  exact decide_eq_false (by omega)
end
section
variable {X : Cx}
def rAppend : V → List V → Hp → VK → Prop := fun x vs H Q => ∃ l xs y, x = .ref l ∧ vs = [y] ∧ H l = some (.lst xs) ∧ xs.length < sizeLine ∧ Q .non (upd H l (.lst (xs ++ [y])))
theorem mt_append : MtM X "list.append" rAppend := by
  intro pins s σ H x vs v us Q I rx rv h
  obtain ⟨l, xs, y, rfl, rfl, hH, hz, q⟩ := h
  cases rx
  obtain ⟨u, rfl, ru⟩ := rv.one
  obtain ⟨z, its, n, r, hl, e⟩ := I.lstM hH
  refine call_meets F.slot_list_append ⟨_, e, rfl⟩ F.entry_list_append (F.args_list_append_2 _ _) (PySem.list_append l its.toArray n u (by rw [List.size_toArray]; omega)) ⟨e, ?_⟩
  refine ⟨.non, _, I.lset (its' := its ++ [u]) hH e (by simp) (r.append (.cons ru .nil)) ?_, rfl, q⟩
  rw [List.length_append, List.length_singleton]
  omega
def rExtend : V → List V → Hp → VK → Prop := fun x vs H Q => ∃ l b xs zs, x = .ref l ∧ vs = [.ref b] ∧ H l = some (.lst xs) ∧ H b = some (.lst zs) ∧ xs.length + zs.length ≤ sizeLine ∧ Q .non (upd H l (.lst (xs ++ zs)))
theorem mt_extend : MtM X "list.extend" rExtend := by
  intro pins s σ H x vs v us Q I rx rv h
  obtain ⟨l, b, xs, zs, rfl, rfl, hH, hB, hz, q⟩ := h
  cases rx
  obtain ⟨u, rfl, ru⟩ := rv.one
  cases ru
  obtain ⟨z, its, n, r, hl, e⟩ := I.lstM hH
  obtain ⟨z2, its2, n2, r2, hl2, e2⟩ := I.lstM hB
  have hsz : its.toArray.size + its2.toArray.size ≤ sizeLine := by rw [List.size_toArray, List.size_toArray]; omega
  have hlong : ¬ (!its.toArray.isEmpty && Builtin.List.listTooLong (its.toArray.size + its2.toArray.size)) = true := by
    rw [notLongL hsz, Bool.and_false]
    exact Bool.false_ne_true
  refine call_meets F.slot_list_extend ⟨_, e, rfl⟩ F.entry_list_extend (F.args_list_extend_2 _ _)
    (AutoSeq1.list_extend_list_list_0 l its.toArray n b its2.toArray n2 hlong (by rw [List.size_toArray]; omega) (by omega)) ⟨e, e2, ?_⟩
  refine ⟨.non, _, I.lset (its' := its ++ its2) hH e (by simp) (r.append r2) ?_, rfl, q⟩
  rw [List.length_append]
  omega
def rCat : R2 := fun x y H Q => ∃ l b xs zs, x = .ref l ∧ y = .ref b ∧ H l = some (.lst xs) ∧ H b = some (.lst zs) ∧ xs.length + zs.length ≤ sizeLine ∧ ∀ p, H p = none → Q (.ref p) (upd H p (.lst (xs ++ zs)))
theorem op_cat : OpR X (binaryOp .Add) rCat := by
  intro pins s σ H x y v u Q I rx ry h
  obtain ⟨l, b, xs, zs, rfl, rfl, hH, hB, hz, q⟩ := h
  cases rx
  cases ry
  obtain ⟨z, its, n, r, hl, e⟩ := I.lstM hH
  obtain ⟨z2, its2, n2, r2, hl2, e2⟩ := I.lstM hB
  refine PySem.P.add_list e e2 ?_ (by rw [List.size_toArray, List.size_toArray]; omega)
  have ea : its.toArray ++ its2.toArray = (its ++ its2).toArray := by simp
  rw [ea]
  exact ⟨.ref _, _, I.lnew (t' := s.toks) (r.append r2) (by rw [List.length_append]; omega), rfl, q _ I.fresh⟩
def rRep : R2 := fun x y H Q => ∃ l k xs, x = .ref l ∧ y = .int k ∧ H l = some (.lst xs) ∧ -(2 ^ 63) ≤ k ∧ k < 2 ^ 63 ∧ xs.length * k.toNat ≤ sizeLine ∧
  ∀ p, H p = none → Q (.ref p) (upd H p (.lst (List.replicate k.toNat xs).flatten))
theorem len_rep {α : Type} (xs : List α) (k : Nat) : (List.replicate k xs).flatten.length = k * xs.length := by
  induction k with
  | zero => simp
  | succ k ih => rw [List.replicate_succ, List.flatten_cons, List.length_append, ih, Nat.succ_mul, Nat.add_comm]
theorem op_rep : OpR X (binaryOp .Mult) rRep := by
  intro pins s σ H x y v u Q I rx ry h
  obtain ⟨l, k, xs, rfl, rfl, hH, h1, h2, hz, q⟩ := h
  cases rx
  obtain ⟨t, rfl⟩ := ry
  obtain ⟨z, its, n, r, hl, e⟩ := I.lstM hH
  have hlen : its.toArray.size * k.toNat ≤ sizeLine := by rw [List.size_toArray, ← hl]; exact hz
  have hcap : ¬ its.toArray.size * k.toNat > (2 ^ 63 - 1) / 8 := by
    have : (sizeLine : Nat) ≤ (2 ^ 63 - 1) / 8 := by decide
    omega
  have hfit : ¬ (!Builtin.List.listFitsIndex k) = true := by
    rw [fitsIndex_both h1 h2]
    exact Bool.false_ne_true
  have hlong : ¬ Builtin.List.listTooLong (its.toArray.size * k.toNat) = true := by
    rw [notLongL hlen]
    exact Bool.false_ne_true
  have hnew : List.foldl (fun x1 x2 => x1 ++ x2) #[] (List.replicate (if its.toArray.isEmpty = true then 0 else k.toNat) its.toArray) = (List.replicate k.toNat its).flatten.toArray := by
    have f0 : ∀ m : Nat, List.foldl (fun x1 x2 => x1 ++ x2) #[] (List.replicate m its.toArray) = (List.replicate m its).flatten.toArray := fun m => by
      have := foldl_rep its m []
      rw [List.nil_append] at this
      exact this
    rw [f0]
    cases its with
    | nil => simp
    | cons a r' => rw [if_neg (by simp)]
  refine wpAny_binaryOp_repeat_ref (T := "list") (U := "int") (by decide) ⟨_, e, rfl⟩ (fun s' => typeIs_int s' k t) noFill_list_mul F.fills_int_mul F.slot_int_rmul repeat_list F.slot_int_index.lookup
    (call_meets F.slot_int_rmul (typeIs_int s k t) F.entry_int_rmul (F.args_int_rmul_2 _ _) (int___rmul___int_list k t l its.toArray n)
      ⟨e, rfl, ⟨_, e, rfl⟩, call_meets F.slot_list_mul ⟨_, e, rfl⟩ F.entry_list_mul (F.args_list_mul_2 _ _) (AutoListH.list___mul___list_int_3 l its.toArray n k t hfit hcap hlong) ⟨e, ?_⟩⟩)
  rw [hnew]
  exact ⟨.ref _, _, I.lnew (t' := s.toks) (r.rep k.toNat) (by rw [len_rep, Nat.mul_comm]; exact hz), rfl, q _ I.fresh⟩
end
section
variable {prog : Program} {w : World} {A : Around} {E : Value → Shared → Prop} {s : Shared}
set_option maxRecDepth 100000 in
end
section
variable {X : Cx}
end
end L2
namespace L2
open PySem PySem.Spec PyProof.Rows
theorem Vals.ints : ∀ {ns : List Int} {us : List Value}, Vals (ns.map V.int) us → IntsAre us ns
  | [], us, h => by
    rw [List.map_nil] at h
    cases h
    exact IntsAre.nil
  | n :: ns, us, h => by
    rw [List.map_cons] at h
    cases h with
    | cons r t =>
      obtain ⟨k, rfl⟩ := r
      exact IntsAre.cons n k (Vals.ints t)
theorem Vals.strs : ∀ {xs : List Str} {us : List Value}, Vals (xs.map V.str) us → StrsAre us xs
  | [], us, h => by
    rw [List.map_nil] at h
    cases h
    exact StrsAre.nil
  | x :: xs, us, h => by
    rw [List.map_cons] at h
    cases h with
    | cons r t =>
      obtain ⟨k, rfl⟩ := r
      exact StrsAre.cons x k (Vals.strs t)
theorem Vals.ref1 {a : Addr} {us : List Value} (r : Vals [V.ref a] us) : us = [Value.ref a] := by
  cases r with
  | cons r t =>
    cases t
    cases r
    rfl
theorem Vals.int2 {i j : Int} {us : List Value} (r : Vals [V.int i, V.int j] us) : ∃ t u, us = [Value.int i t, Value.int j u] := by
  cases r with
  | cons r t =>
    cases t with
    | cons r2 t2 =>
      cases t2
      obtain ⟨t, rfl⟩ := r
      obtain ⟨u, rfl⟩ := r2
      exact ⟨t, u, rfl⟩
section
variable {prog : Program} {w : World} {A : Around} {E : Value → Shared → Prop} {s : Shared} {l : Addr} {its : List Value} {ns : List Int} {Q : Value → Shared → Prop}
theorem sum_raw (hh : A.handled = none) (hl : s.heap.IsList l its.toArray) (hi : IntsAre its ns)
    (h : ∀ h' tk t', (∀ b o, s.heap.get? b = some o → h'.get? b = some o) → Q (.int ns.sum t') { s with heap := h', toks := tk }) : wpAny (model prog w) A (call (.builtin "sum") [.ref l]) Q E s := by
  obtain ⟨xs, e⟩ := hi.allInts.items
  have hn : numsOf (intItems xs).toList = ns := by rw [← e]; exact hi.numsOf
  rw [nums_intItems] at hn
  rw [e] at hl
  refine PySem.sum_intListG hh hl fun h' tk t' hk => ?_
  have := h h' tk t' hk
  rw [preSum_eq, List.take_of_length_le (by simp), hn]; exact this
theorem max_raw (hh : A.handled = none) (hl : s.heap.IsList l its.toArray) (hi : IntsAre its ns) (hne : 0 < ns.length)
    (h : ∀ h' tk M t', (∀ b o, s.heap.get? b = some o → h'.get? b = some o) → M ∈ ns → (∀ a, a ∈ ns → a ≤ M) → Q (.int M t') { s with heap := h', toks := tk }) : wpAny (model prog w) A (call (.builtin "max") [.ref l]) Q E s := by
  obtain ⟨xs, e⟩ := hi.allInts.items
  have hn : numsOf (intItems xs).toList = ns := by rw [← e]; exact hi.numsOf
  rw [nums_intItems] at hn
  subst hn
  rw [e] at hl
  have hsz : 0 < xs.size := by simpa using hne
  refine PySem.max_intList hh hl hsz fun v h' tk hv hk => ?_
  obtain ⟨t, rfl⟩ := intItems_at hv
  obtain ⟨h1, h2⟩ := argBest_gt (numAt xs) (xs.size - 1)
  refine h h' tk _ t hk ?_ fun a ha => ?_
  · rw [numAt_eq]; exact PySem.getD_mem (by rw [List.length_map, Array.length_toList]; omega)
  · obtain ⟨j, hj, rfl⟩ := mem_getD ha
    rw [List.length_map, Array.length_toList] at hj
    rw [← numAt_eq]; exact h2 j (by omega)
end
section
variable {X : Cx}
def rSum (K : PySem.W.Frag) : List V → Hp → VK → Prop := fun vs H Q => ∃ (a : Addr) (ns : List Int), vs = [V.ref a] ∧ SqL K H a (ns.map V.int) ∧ Q (.int ns.sum) H
def rMax (K : PySem.W.Frag) : List V → Hp → VK → Prop := fun vs H Q => ∃ (a : Addr) (ns : List Int), vs = [V.ref a] ∧ SqL K H a (ns.map V.int) ∧ 0 < ns.length ∧ ∀ m, m ∈ ns → (∀ y, y ∈ ns → y ≤ m) → Q (.int m) H
theorem cr_sum (hc : X.calm = true) : CallR X (.builtin "sum") (rSum X.K) := by
  intro pins s σ H vs us Q I r h
  obtain ⟨a, ns, rfl, hs, q⟩ := h
  obtain ⟨its, rv, hl, _⟩ := I.list hs
  rw [Vals.ref1 r]
  exact sum_raw (I.ok.hd hc) hl.isList rv.ints fun h' tk t' hk => ⟨.int _, H, I.kept hk, ⟨_, rfl⟩, q⟩
theorem cr_max (hc : X.calm = true) : CallR X (.builtin "max") (rMax X.K) := by
  intro pins s σ H vs us Q I r h
  obtain ⟨a, ns, rfl, hs, hne, q⟩ := h
  obtain ⟨its, rv, hl, _⟩ := I.list hs
  rw [Vals.ref1 r]
  exact max_raw (I.ok.hd hc) hl.isList rv.ints hne fun h' tk m t' hk h1 h2 => ⟨.int _, H, I.kept hk, ⟨_, rfl⟩, q m h1 h2⟩
end
section
variable {X : Cx}
end
section
variable {X : Cx}
end
section
variable {X : Cx}
end
mutual
inductive Dp (K : PySem.W.Frag) (H : Hp) : V → PyData → Prop
  | non : Dp K H .non .none
  | bl (b : Bool) : Dp K H (.bl b) (.bool b)
  | int (i : Int) : Dp K H (.int i) (.int i)
  | str (x : Str) : Dp K H (.str x) (.str x)
  | lst {a : Addr} {xs : List V} {ds : List PyData} : SqL K H a xs → DpAll K H xs ds → Dp K H (.ref a) (.list ds)
  | tup {a : Addr} {xs : List V} {ds : List PyData} : SqT K H a xs → DpAll K H xs ds → Dp K H (.ref a) (.tuple ds)
inductive DpAll (K : PySem.W.Frag) (H : Hp) : List V → List PyData → Prop
  | nil : DpAll K H [] []
  | cons {v : V} {vs : List V} {d : PyData} {ds : List PyData} : Dp K H v d → DpAll K H vs ds → DpAll K H (v :: vs) (d :: ds)
end
section
variable {X : Cx} {pins : List (Addr × Obj)} {σ : St} {H : Hp} {s : Shared}
mutual
theorem Dp.reads (I : Inv X pins σ H s) : ∀ (d : PyData) (v : V) (u : Value), Dp X.K H v d → RelV v u → ∃ as, Reads s.heap u d as
  | .none, _, _, h, r => by
    cases h
    cases r
    exact ⟨_, Reads.none⟩
  | .bool b, _, _, h, r => by
    cases h
    cases r
    exact ⟨_, Reads.bool b⟩
  | .int i, _, _, h, r => by
    cases h
    obtain ⟨t, rfl⟩ := r
    exact ⟨_, Reads.int i t⟩
  | .str x, _, _, h, r => by
    cases h
    obtain ⟨t, rfl⟩ := r
    exact ⟨_, Reads.str x t⟩
  | .list ds, _, _, h, r => by
    cases h with
    | lst hs ha =>
      cases r
      obtain ⟨its, rv, ⟨o, n, ho, hc, _, hd⟩, _⟩ := I.list hs
      obtain ⟨as, hr⟩ := Dp.readsAll I ds _ its ha rv
      exact ⟨_, Reads.list ho hc hd hr⟩
  | .tuple ds, _, _, h, r => by
    cases h with
    | tup hs ha =>
      cases r
      obtain ⟨its, rv, ⟨o, ho, hc, n, hd⟩, _⟩ := I.tuple hs
      obtain ⟨as, hr⟩ := Dp.readsAll I ds _ its ha rv
      exact ⟨_, Reads.tuple ho hc hd hr⟩
  | .dict _, _, _, h, _ => by cases h
theorem Dp.readsAll (I : Inv X pins σ H s) : ∀ (ds : List PyData) (vs : List V) (us : List Value), DpAll X.K H vs ds → Vals vs us → ∃ as, ReadsAll s.heap us ds as
  | [], _, _, h, r => by
    cases h
    cases r
    exact ⟨_, ReadsAll.nil⟩
  | d :: ds, _, _, h, r => by
    cases h with
    | cons h1 h2 =>
      cases r with
      | cons r1 r2 =>
        obtain ⟨as, q1⟩ := Dp.reads I d _ _ h1 r1
        obtain ⟨bs, q2⟩ := Dp.readsAll I ds _ _ h2 r2
        exact ⟨_, ReadsAll.cons q1 q2⟩
end
end
section
variable {X : Cx}
end
end L2
namespace L2
open PySem PySem.Spec PyProof.Rows
abbrev CellAt (h : Heap) (c : Addr) (v : Option Value) : Prop := h.IsCell c v
def relS (scope sc : Scope) : Scope :=
  { scope with names := scope.names.map fun (n, k) => if (k == .free && sc.kind == .function && sc.names.lookup n == some .cell) then (n, .cell) else (n, k) }
def cloFrom (cells : List (Str × Addr)) : List (Str × NameKind) → List (Str × Addr) → List (Str × Addr)
  | [], acc => acc
  | (n, k) :: r, acc => if k == .free then cloFrom cells r ((n, (cells.lookup n).getD 0) :: acc) else cloFrom cells r acc
theorem closure_loop (env : Env) (f : Str × NameKind → List (Str × Addr) → Sem (ForInStep (List (Str × Addr))))
    (hf : ∀ n k c, f (n, k) c = if k == .free then (do let a ← cellOf env n; pure (.yield ((n, a) :: c))) else pure (.yield c)) :
    ∀ (names : List (Str × NameKind)) (acc : List (Str × Addr)), (∀ y ∈ names, y.2 = .free → ∃ c, env.cells.lookup y.1 = some c) → forIn names acc f = pure (cloFrom env.cells names acc)
  | [], acc, _ => by rw [List.forIn_nil]; rfl
  | (n, k) :: r, acc, h => by
    rw [List.forIn_cons, hf]
    have ih := fun acc => closure_loop env f hf r acc fun y hy => h y (List.mem_cons_of_mem _ hy)
    unfold cloFrom
    by_cases hk : (k == NameKind.free) = true
    · rw [if_pos hk, if_pos hk]
      obtain ⟨c, hc⟩ := h (n, k) List.mem_cons_self (by simpa using hk)
      have e : cellOf env n = pure c := by unfold cellOf; rw [hc]
      rw [e]
      have e2 : (env.cells.lookup n).getD 0 = c := by rw [hc]; rfl
      rw [e2]
      exact ih _
    · rw [if_neg hk, if_neg hk]
      exact ih _
theorem closure_ok {scope : Scope} {env : Env} (h : ∀ y ∈ scope.names, y.2 = .free → ∃ c, env.cells.lookup y.1 = some c) : closureFor scope env = pure (cloFrom env.cells scope.names []) := by
  simp only [closureFor]
  rw [closure_loop env _ (fun n k c => rfl) scope.names [] h]
  rfl
theorem mem_lookup {α : Type} : ∀ {l : List (Str × α)} {n : Str} {c : α}, (n, c) ∈ l → ∃ c', l.lookup n = some c'
  | (k, v) :: r, n, c, h => by
    rw [List.lookup_cons]
    cases hb : n == k with
    | true => exact ⟨_, rfl⟩
    | false =>
      rcases List.mem_cons.mp h with e | h
      · cases e; simp at hb
      · exact mem_lookup h
theorem cloFrom_mem {cells : List (Str × Addr)} : ∀ {names : List (Str × NameKind)} {acc : List (Str × Addr)} {n : Str} {c : Addr}, (n, c) ∈ cloFrom cells names acc → (n, c) ∈ acc ∨ ((n, .free) ∈ names ∧ c = (cells.lookup n).getD 0)
  | [], _, _, _, h => .inl h
  | (m, k) :: r, acc, n, c, h => by
    unfold cloFrom at h
    split at h
    · rename_i hk
      have hk : k = .free := by simpa using hk
      rcases cloFrom_mem h with h | ⟨h1, h2⟩
      · rcases List.mem_cons.mp h with e | h
        · cases e; exact .inr ⟨hk ▸ List.mem_cons_self, rfl⟩
        · exact .inl h
      · exact .inr ⟨List.mem_cons_of_mem _ h1, h2⟩
    · rcases cloFrom_mem h with h | ⟨h1, h2⟩
      · exact .inl h
      · exact .inr ⟨List.mem_cons_of_mem _ h1, h2⟩
theorem cloFrom_acc {cells : List (Str × Addr)} : ∀ {names : List (Str × NameKind)} {acc : List (Str × Addr)} {p : Str × Addr}, p ∈ acc → p ∈ cloFrom cells names acc
  | [], _, _, h => h
  | (m, k) :: r, acc, p, h => by
    unfold cloFrom
    split
    · exact cloFrom_acc (List.mem_cons_of_mem _ h)
    · exact cloFrom_acc h
theorem cloFrom_has {cells : List (Str × Addr)} : ∀ {names : List (Str × NameKind)} {acc : List (Str × Addr)} {n : Str}, (n, .free) ∈ names → (n, (cells.lookup n).getD 0) ∈ cloFrom cells names acc
  | (m, k) :: r, acc, n, h => by
    unfold cloFrom
    rcases List.mem_cons.mp h with e | h
    · cases e
      exact cloFrom_acc List.mem_cons_self
    · split
      · exact cloFrom_has h
      · exact cloFrom_has h
theorem cells_mem : ∀ {names : List (Str × NameKind)} {h : Heap} {acc : List (Str × Addr)} {x : Str} {c : Addr}, (x, c) ∈ cellsFrom h.objs.size names acc →
    (x, c) ∈ acc ∨ ((x, .cell) ∈ names ∧ h.objs.size ≤ c ∧ CellAt (pushCells h names) c none)
  | [], _, _, _, _, h => .inl h
  | (n, k) :: r, h, acc, x, c, hm => by
    unfold cellsFrom at hm
    unfold pushCells
    split at hm
    · rename_i hk
      rw [if_pos hk]
      have hk : k = .cell := by simpa using hk
      rw [← Heap.size_push h { cls := .type "cell", data := .cell none }] at hm
      rcases cells_mem hm with hm | ⟨h1, h2, h3⟩
      · rcases List.mem_cons.mp hm with e | hm
        · cases e
          exact .inr ⟨hk ▸ List.mem_cons_self, Nat.le_refl _, _, pushCells_keeps r _ _ _ (Heap.get?_push_size _ rfl), rfl⟩
        · exact .inl hm
      · rw [Heap.size_push] at h2
        exact .inr ⟨List.mem_cons_of_mem _ h1, Nat.le_of_succ_le h2, h3⟩
    · rename_i hk
      rw [if_neg hk]
      rcases cells_mem hm with hm | ⟨h1, h2, h3⟩
      · exact .inl hm
      · exact .inr ⟨List.mem_cons_of_mem _ h1, h2, h3⟩
theorem cells_acc : ∀ {names : List (Str × NameKind)} {n : Nat} {acc : List (Str × Addr)} {p : Str × Addr}, p ∈ acc → p ∈ cellsFrom n names acc
  | [], _, _, _, h => h
  | (m, k) :: r, n, acc, p, h => by
    unfold cellsFrom
    split
    · exact cells_acc (List.mem_cons_of_mem _ h)
    · exact cells_acc h
theorem cells_has : ∀ {names : List (Str × NameKind)} {n : Nat} {acc : List (Str × Addr)} {x : Str}, (x, .cell) ∈ names → ∃ c, (x, c) ∈ cellsFrom n names acc
  | (m, k) :: r, n, acc, x, h => by
    unfold cellsFrom
    rcases List.mem_cons.mp h with e | h
    · cases e
      exact ⟨n, cells_acc List.mem_cons_self⟩
    · split
      · exact cells_has h
      · exact cells_has h
theorem cells_inj : ∀ {names : List (Str × NameKind)} {h : Heap} {acc : List (Str × Addr)} {x y : Str} {c : Addr}, (∀ p ∈ acc, p.2 < h.objs.size) → (∀ x y c, (x, c) ∈ acc → (y, c) ∈ acc → x = y) →
    (x, c) ∈ cellsFrom h.objs.size names acc → (y, c) ∈ cellsFrom h.objs.size names acc → x = y
  | [], _, _, _, _, _, _, hi, h1, h2 => hi _ _ _ h1 h2
  | (n, k) :: r, h, acc, x, y, c, hl, hi, h1, h2 => by
    unfold cellsFrom at h1 h2
    split at h1
    · rename_i hk
      rw [if_pos hk] at h2
      rw [← Heap.size_push h { cls := .type "cell", data := .cell none }] at h1 h2
      refine cells_inj (h := h.push _) (fun p hp => ?_) (fun x y c a b => ?_) h1 h2
      · rw [Heap.size_push]
        rcases List.mem_cons.mp hp with rfl | hp
        · exact Nat.lt_succ_self _
        · exact Nat.lt_succ_of_lt (hl p hp)
      · rcases List.mem_cons.mp a with e | a <;> rcases List.mem_cons.mp b with e' | b
        · cases e; cases e'; rfl
        · cases e; exact absurd (hl _ b) (Nat.lt_irrefl _)
        · cases e'; exact absurd (hl _ a) (Nat.lt_irrefl _)
        · exact hi _ _ _ a b
    · rename_i hk
      rw [if_neg hk] at h2
      exact cells_inj hl hi h1 h2
theorem newEnv_comp {M : Model} {A : Around} {E : Value → Shared → Prop} {s : Shared} {scope : Scope} {globals : Addr} {closure : List (Str × Addr)} {qual : Str} {func : Option Addr} {code : Value} {around : Env} {builtins : Addr} {Q : Env → Shared → Prop}
    (h : Q (newEnv scope s.heap.objs.size globals (cellsFrom (s.heap.objs.size + 1) scope.names closure) qual func code (some around) builtins)
      { s with heap := pushCells (s.heap.push { cls := .type "dict", data := .dict #[] }) scope.names }) :
    wpAny M A (newFunctionEnv scope globals closure [] qual func code (some around) builtins) Q E s := by
  simp only [newFunctionEnv, Option.isSome_some, if_true]
  refine wpAny_bind (wpAny_alloc ?_)
  refine wpAny_bind (wpAny_layCells _ (fun n k c => rfl) scope.names closure _ _ ?_)
  rw [show ({ s with heap := s.heap.push { cls := .type "dict", data := .dict #[] } } : Shared).heap.objs.size = s.heap.objs.size + 1 from Heap.size_push ..]
  rw [List.forIn_nil]
  exact wpAny_bind (wpAny_pure (wpAny_pure h))
theorem lookup_relS {sc : Scope} : ∀ {names : List (Str × NameKind)} {x : Str} {k : NameKind},
    (names.map fun (n, k) => if (k == NameKind.free && sc.kind == .function && sc.names.lookup n == some .cell) then (n, NameKind.cell) else (n, k)).lookup x = some k →
    ∃ k', names.lookup x = some k' ∧ (k = k' ∨ (k' = .free ∧ k = .cell))
  | [], _, _, h => by simp at h
  | (n, k₀) :: r, x, k, h => by
    have ih := @lookup_relS sc r x k
    have h' : List.lookup x ((if (k₀ == NameKind.free && sc.kind == .function && sc.names.lookup n == some .cell) = true then (n, NameKind.cell) else (n, k₀)) :: (r.map _)) = some k := h
    cases hx : x == n with
    | true =>
      simp only [List.lookup_cons, hx]
      by_cases hc : (k₀ == NameKind.free && sc.kind == .function && sc.names.lookup n == some .cell) = true
      · rw [if_pos hc] at h'
        simp only [List.lookup_cons, hx] at h'
        cases h'
        simp only [Bool.and_eq_true, beq_iff_eq] at hc
        exact ⟨k₀, rfl, .inr ⟨hc.1.1, rfl⟩⟩
      · rw [if_neg hc] at h'
        simp only [List.lookup_cons, hx] at h'
        cases h'
        exact ⟨_, rfl, .inl rfl⟩
    | false =>
      simp only [List.lookup_cons, hx]
      by_cases hc : (k₀ == NameKind.free && sc.kind == .function && sc.names.lookup n == some .cell) = true
      · rw [if_pos hc] at h'
        simp only [List.lookup_cons, hx] at h'
        exact ih h'
      · rw [if_neg hc] at h'
        simp only [List.lookup_cons, hx] at h'
        exact ih h'
structure BlkOk (N : List Str) (sc scope : Scope) (own : List (Str × Nat)) : Prop where
  kind : scope.kind = .function
  uniq : ∀ y ∈ scope.names, scope.names.lookup y.1 = some y.2
  ix : ∀ p ∈ own, N[p.2]? = some p.1
  free : ∀ y ∈ scope.names, y.2 = .free → sc.names.lookup y.1 = some .cell ∨ sc.names.lookup y.1 = some .free
  own : ∀ y ∈ scope.names, y.2 = .local ∨ y.2 = .cell → y.1 ∈ own.map (·.1) ∨ y.1 ∉ N
def wipe (σ : St) : List Nat → St
  | [] => σ
  | v :: vs => (wipe σ vs).set v none
theorem wipe_length (σ : St) : ∀ vs : List Nat, (wipe σ vs).length = σ.length
  | [] => rfl
  | v :: vs => by unfold wipe; rw [List.length_set, wipe_length σ vs]
theorem wipe_some {σ : St} {i : Nat} {x : V} : ∀ {vs : List Nat}, (wipe σ vs)[i]? = some (some x) → σ[i]? = some (some x) ∧ i ∉ vs
  | [], h => ⟨h, by simp⟩
  | v :: vs, h => by
    unfold wipe at h
    by_cases hi : v = i
    · subst hi
      by_cases hv : v < (wipe σ vs).length
      · rw [List.getElem?_set_self hv] at h; cases h
      · rw [List.getElem?_eq_none (by simpa using hv)] at h; cases h
    · rw [List.getElem?_set_ne hi] at h
      obtain ⟨h1, h2⟩ := wipe_some h
      exact ⟨h1, by simp only [List.mem_cons, not_or]; exact ⟨fun e => hi e.symm, h2⟩⟩
abbrev Cx.blk (X : Cx) (s : Shared) (H : Hp) (scope : Scope) (cenv : Env) (fp : List Addr) : Cx := { X with s_0 := s, H_0 := H, env := cenv, outer := X.stack, ex := fp, fn := fun x => scope.names.lookup x == some .cell, pn := [], xe := fun _ _ => False }
section
variable {X : Cx} {pins : List (Addr × Obj)} {σ : St} {H : Hp} {s : Shared}
theorem block_start {scope : Scope} {own : List (Str × Nat)} {fp : List Addr} (I : Inv X pins σ H s) (ok : BlkOk X.N X.env.scope scope own) (hN : X.N.Nodup) (hfp : ∀ b ∈ fp, FpOk X pins H b ∧ b < s.heap.objs.size) :
    Inv (X.blk s H scope (compEnvC scope (cellsFrom (s.heap.objs.size + 1) scope.names (cloFrom X.env.cells scope.names [])) s.heap.objs.size X.env) fp) [] (wipe σ (own.map (·.2))) H { s with heap := pushCells (s.heap.push { cls := .type "dict", data := .dict #[] }) scope.names } := by
  have hfree : ∀ y ∈ scope.names, y.2 = .free → ∃ c, X.env.cells.lookup y.1 = some c := fun y hy e => by
    rcases ok.free y hy e with k | k
    · exact I.ok.has _ (.inl k)
    · exact I.ok.has _ (.inr k)
  generalize hcenv : compEnvC scope (cellsFrom (s.heap.objs.size + 1) scope.names (cloFrom X.env.cells scope.names [])) s.heap.objs.size X.env = cenv
  have kp : ∀ b o, s.heap.get? b = some o → (pushCells (s.heap.push { cls := .type "dict", data := .dict #[] }) scope.names).get? b = some o := fun b o e => pushCells_keeps _ _ _ _ (Heap.get?_push_of_some _ e)
  have hL : cenv.locals = s.heap.objs.size := by rw [← hcenv]; rfl
  have hcl : cenv.cells = cellsFrom (s.heap.objs.size + 1) scope.names (cloFrom X.env.cells scope.names []) := by rw [← hcenv]; rfl
  have hsc : cenv.scope = relS scope X.env.scope := by rw [← hcenv]; rfl
  rw [← Heap.size_push s.heap { cls := .type "dict", data := .dict #[] }] at hcl
  have cm : ∀ {y c}, (y, c) ∈ cloFrom X.env.cells scope.names [] → X.env.cells.lookup y = some c ∧ c < s.heap.objs.size := fun {y c} hm => by
    rcases cloFrom_mem hm with hm | ⟨h1, rfl⟩
    · cases hm
    · obtain ⟨c, hc⟩ := hfree _ h1 rfl
      rw [hc]
      obtain ⟨w, z⟩ := I.cell _ _ hc
      exact ⟨rfl, z.lt⟩
  have mem : ∀ {y c}, cenv.cells.lookup y = some c → (X.env.cells.lookup y = some c ∧ c < s.heap.objs.size) ∨ (s.heap.objs.size + 1 ≤ c ∧ CellAt (pushCells (s.heap.push { cls := .type "dict", data := .dict #[] }) scope.names) c none) := fun {y c} e => by
    rw [hcl] at e
    rcases cells_mem (PySem.mem_of_lookup e) with hm | ⟨_, h2, h3⟩
    · exact .inl (cm hm)
    · rw [Heap.size_push] at h2; exact .inr ⟨h2, h3⟩
  have look : ∀ {y}, scope.names.lookup y = some .free → ∃ c, cenv.cells.lookup y = some c ∧ X.env.cells.lookup y = some c := fun {y} hl => by
    have hy : (y, NameKind.free) ∈ scope.names := PySem.mem_of_lookup hl
    obtain ⟨c', e'⟩ := mem_lookup (cells_acc (names := scope.names) (n := (s.heap.push { cls := .type "dict", data := .dict #[] }).objs.size) (cloFrom_has (cells := X.env.cells) (acc := []) hy))
    rw [← hcl] at e'
    refine ⟨c', e', ?_⟩
    rw [hcl] at e'
    rcases cells_mem (PySem.mem_of_lookup e') with hm | ⟨h1, _, _⟩
    · exact (cm hm).1
    · have := ok.uniq _ h1
      rw [hl] at this; cases this
  have okB : (X.blk s H scope cenv fp).Ok := by
    refine ⟨I.ok.mod, by show cenv.scope.kind = _; rw [hsc]; exact ok.kind, by show cenv.globals = _; rw [← hcenv]; exact I.ok.glob, by show cenv.builtins = _; rw [← hcenv]; exact I.ok.blt, by show s.heap.objs.size ≤ cenv.locals; rw [hL]; exact Nat.le_refl _,
      fun y z c e1 e2 => ?_, fun y hy => ?_, fun y c z e => ?_, I.ok.hd, I.ok.frames, .inl rfl, fun b hb => ⟨?_, fun y c e z => ?_⟩, I.bs, Nat.le_trans I.ok.bsz I.sz, fun b o e hb => ?_, fun b hb z => ?_, I.stack, I.stkFree⟩
    · have e1 : cenv.cells.lookup y = some c := e1
      have e2 : cenv.cells.lookup z = some c := e2
      rw [hcl] at e1 e2
      refine cells_inj (fun p hp => ?_) (fun y z c a b => I.ok.inj y z c (cm a).1 (cm b).1) (PySem.mem_of_lookup e1) (PySem.mem_of_lookup e2)
      rw [Heap.size_push]
      exact Nat.lt_succ_of_lt (cm (y := p.1) (c := p.2) hp).2
    · show ∃ c, cenv.cells.lookup y = some c
      have key : ∀ k, cenv.kindOf y = some k → (k = .cell ∨ k = .free) → ∃ c, cenv.cells.lookup y = some c := fun k hk hk' => by
        unfold Env.kindOf at hk
        rw [hsc] at hk
        obtain ⟨k', e, r⟩ := lookup_relS hk
        have : k' = .cell ∨ k' = .free := by
          rcases r with rfl | ⟨rfl, _⟩
          · exact hk'
          · exact .inr rfl
        rcases this with rfl | rfl
        · obtain ⟨c, hm⟩ := cells_has (n := (s.heap.push { cls := .type "dict", data := .dict #[] }).objs.size) (acc := cloFrom X.env.cells scope.names []) (PySem.mem_of_lookup e)
          obtain ⟨c', e'⟩ := mem_lookup hm
          exact ⟨c', by rw [hcl]; exact e'⟩
        · obtain ⟨c, h1, _⟩ := look e
          exact ⟨c, h1⟩
      rcases hy with hy | hy
      · exact key _ hy (.inl rfl)
      · exact key _ hy (.inr rfl)
    · have z : (scope.names.lookup y == some NameKind.cell) = true := z
      have z : scope.names.lookup y = some .cell := by simpa using z
      have e : cenv.cells.lookup y = some c := e
      rw [hcl] at e
      rcases cells_mem (PySem.mem_of_lookup e) with hm | ⟨_, h2, _⟩
      · rcases cloFrom_mem hm with hm | ⟨h1, _⟩
        · cases hm
        · have q := ok.uniq _ h1
          rw [z] at q; cases q
      · rw [Heap.size_push] at h2
        exact Nat.le_of_succ_le h2
    · show b ≠ cenv.locals
      rw [hL]; exact Nat.ne_of_lt (hfp b hb).2
    · have e : cenv.cells.lookup y = some c := e
      rcases mem e with ⟨h1, _⟩ | ⟨h1, _⟩
      · exact (hfp b hb).1.2.2.2.2.1 y c h1 z
      · have h2 : s.heap.objs.size + 1 ≤ b := by rw [← z]; exact h1
        exact absurd (Nat.lt_of_lt_of_le (hfp b hb).2 (Nat.le_of_succ_le h2)) (Nat.lt_irrefl _)
    · rcases (hfp b hb).1.2.2.2.1 with z | z
      · exact I.ok.noex b o e z
      · exact absurd (Nat.lt_of_lt_of_le (Heap.lt_size e) (Nat.le_trans I.ok.bsz z)) (Nat.lt_irrefl _)
    · rcases List.mem_cons.mp (I.stkSub b z) with z | z
      · exact (hfp b hb).1.2.1 z
      · exact (hfp b hb).1.2.2.1 z
  refine ⟨okB, rfl, I.bare, Un.kept kp, ⟨fun _ => none, ?_, fun i y av e1 e2 e3 => ?_⟩, fun y c e => ?_, ?_, fun y c e => ?_, fun p hp => ?_, I.hok.kept kp, by rw [wipe_length]; exact I.len⟩
  · show Heap.Ns _ cenv.locals _
    rw [hL]
    exact Heap.Ns.keeps (Heap.Ns.new ..) fun b o e => pushCells_keeps _ _ _ _ e
  · obtain ⟨e2, hne⟩ := wipe_some e2
    have hfr : scope.names.lookup y = some .free ∧ (cenv.kindOf y = some .cell ∨ cenv.kindOf y = some .free) := by
      have key : ∀ k, cenv.scope.names.lookup y = some k → k = .local ∨ k = .cell ∨ k = .free → scope.names.lookup y = some .free ∧ (cenv.kindOf y = some .cell ∨ cenv.kindOf y = some .free) := fun k hk hk' => by
        have hk0 := hk
        rw [hsc] at hk
        obtain ⟨k', e, r⟩ := lookup_relS hk
        have no : ¬ (k' = .local ∨ k' = .cell) := fun hh => by
          rcases ok.own _ (PySem.mem_of_lookup e) hh with e' | e'
          · obtain ⟨p, hp, hpy⟩ := List.mem_map.mp e'
            have e3 := ok.ix p hp
            have : p.1 = y := hpy
            rw [this] at e3
            exact hne (List.mem_map.mpr ⟨p, hp, nodup_ix hN e3 e1⟩)
          · exact e' (List.mem_of_getElem? e1)
        rcases r with rfl | ⟨rfl, rfl⟩
        · rcases hk' with rfl | rfl | rfl
          · exact absurd (.inl rfl) no
          · exact absurd (.inr rfl) no
          · exact ⟨e, .inr hk0⟩
        · exact ⟨e, .inl hk0⟩
      have e3 : Vis cenv.scope y := e3
      rcases e3 with e3 | e3 | e3
      · exact key _ e3 (.inl rfl)
      · exact key _ e3 (.inr (.inl rfl))
      · exact key _ e3 (.inr (.inr rfl))
    obtain ⟨m, hn, hl⟩ := I.loc
    have hvis : Vis X.env.scope y := (ok.free _ (PySem.mem_of_lookup hfr.1) rfl).elim (fun k => .inr (.inl k)) (fun k => .inr (.inr k))
    obtain ⟨w, r, q⟩ := hl i y av e1 e2 hvis
    refine ⟨w, r, .inr ⟨hfr.2, ?_⟩⟩
    obtain ⟨c, h1, h2⟩ := look hfr.1
    rcases q with ⟨k, _⟩ | ⟨_, c', e', z⟩
    · have k : X.env.scope.names.lookup y = some .local := k
      rcases ok.free _ (PySem.mem_of_lookup hfr.1) rfl with k' | k' <;> rw [show X.env.scope.names.lookup y = _ from k'] at k <;> cases k
    · rw [h2] at e'; cases e'
      exact ⟨c, h1, z.keeps kp⟩
  · have e : cenv.cells.lookup y = some c := e
    rcases mem e with ⟨h1, _⟩ | ⟨_, z⟩
    · obtain ⟨w, z⟩ := I.cell y c h1
      exact ⟨w, z.keeps kp⟩
    · exact ⟨_, z⟩
  · show H cenv.locals = none
    rw [hL]; exact I.hok.fresh (Nat.le_refl _)
  · have e : cenv.cells.lookup y = some c := e
    rcases mem e with ⟨h1, _⟩ | ⟨h1, _⟩
    · exact I.freeC y c h1
    · exact I.hok.fresh (Nat.le_of_succ_le h1)
  · exact absurd (show p ∈ ([] : List (Addr × Obj)) ++ [] from hp) (by simp)
theorem app_ok {E : Value → Shared → Prop} {D : Addr} {xs : List V} {y : V} {v : Value} {Q : Value → Shared → Prop} (I : Inv X pins σ H s) (hD : H D = some (.lst xs)) (hz : xs.length < sizeLine) (r : RelV y v)
    (h : ∀ s', Inv X pins σ (upd H D (.lst (xs ++ [y]))) s' → Q .none s') : wpAny (model X.prog X.w) X.A (call (.builtin "list.append") [.ref D, v]) Q E s := by
  obtain ⟨hz', its, n, ri, e⟩ := I.hok D _ hD
  have hl := ri.length
  refine append_at (hsz := by rw [List.size_toArray]; omega) e fun h' sb ho' => ?_
  refine h { s with heap := h' } (I.write (t' := s.toks) (by rw [hD]; trivial) (.inl rfl) (fun b u hb q => (sb.2 b hb).trans q) ⟨_, ho'⟩ ⟨by rw [List.length_append]; exact hz, its ++ [v], n + 1, ri.append (.cons r .nil), ?_⟩)
  rw [ho']
  simp
def PTs (X : Cx) (ifs : List Expr) (t : TT) : Prop :=
  ∀ (pins : List (Addr × Obj)) (s : Shared) (σ : St) (H : Hp) (Q : Bool → Hp → Prop), Inv X pins σ H s → t σ H Q →
    wpAny (model X.prog X.w) X.A (forIn ifs true fun c r => if r = true then do let ok ← isTrue c X.env (eval c X.env); pure (ForInStep.yield ok) else pure (ForInStep.yield r)) (TP X pins σ Q) X.xe s
def tYes : TT := fun _ H Q => Q true H
theorem pts_nil : PTs X [] tYes := fun _ _ _ H _ I h => wpAny_tests_nil ⟨H, I, h⟩
theorem pts_one {c : Expr} {t : TT} (h : PT X c t) : PTs X [c] t := fun pins s σ H Q I hw => wpAny_tests_one (h pins s σ H Q I hw)
end
theorem thnF {α : Type} {t : Sem α} {Q Q' : α → Shared → Prop} {M : Model} {A : Around} {E : Value → Shared → Prop} {s : Shared} (h : wpAny M A t Q (fun _ _ => False) s) (hQ : ∀ a s, Q a s → Q' a s) : wpAny M A t Q' E s := wpAny_mono h hQ fun _ _ z => False.elim z
theorem compLoop_any {prog : Program} {w : World} {A : Around} {R : Result → Shared → Prop} {s : Shared} {elt target iter : Expr} {ifs : List Expr} {scope : Scope} {pos : Pos} {it acc : Value} {env : Env} (I : Nat → Shared → Prop)
    (turn : ∀ n s, I n s → wpAny (model prog w) A (pyNext it) (fun r s₁ => match r with
      | none => R (.ok .next) s₁
      | some v => wpAny (model prog w) A (letOwnedTupleGo target it v) (fun _ s₁' => wpAny (model prog w) A (assign target env v) (fun _ s₂ =>
          wpAny (model prog w) A (forIn ifs true fun c r => if r = true then do let ok ← isTrue c env (eval c env); pure (ForInStep.yield ok) else pure (ForInStep.yield r)) (fun ok s₃ =>
            if ok = true then wpAny (model prog w) A (eval elt env) (fun x s₄ =>
              wpAny (model prog w) A (call (.builtin "list.append") [acc, x]) (fun _ s₅ => ∃ m, m < n ∧ I m s₅) (notedBy (model prog w) A env fun e s' => R (.error e) s') s₄) (notedBy (model prog w) A env fun e s' => R (.error e) s') s₃
            else ∃ m, m < n ∧ I m s₃) (notedBy (model prog w) A env fun e s' => R (.error e) s') s₂) (notedBy (model prog w) A env fun e s' => R (.error e) s') s₁') (notedBy (model prog w) A env fun e s' => R (.error e) s') s₁) (notedBy (model prog w) A env fun e s' => R (.error e) s') s)
    (n : Nat) (h : I n s) :
    codeAny (model prog w) A (.compLoop (.ListComp elt [⟨target, iter, ifs, 0⟩] scope pos) 0 it acc env) R s := by
  refine codeAny_loop rfl I (fun n s hI => ?_) n h
  show wpAny _ A ((compTurn (.ListComp elt [⟨target, iter, ifs, 0⟩] scope pos) 0 it acc env).onRaise (fun x => do noteFrame x env; theTreesLotGoes x)) _ _ s
  refine wpAny_noted ?_
  rw [compTurn_list]
  refine wpAny_bind (wpAny_standAt (wpAny_bind (wpAny_mono (turn n s hI) (fun r s₁ h₁ => ?_) fun _ _ h' => h')))
  cases r with
  | none => exact wpAny_pure h₁
  | some v =>
    refine wpAny_bind (wpAny_mono h₁ (fun _ s₁' h₁' => ?_) fun _ _ h' => h')
    refine wpAny_bind (wpAny_mono h₁' (fun _ s₂ h₂ => wpAny_bind (wpAny_mono h₂ (fun ok s₃ h₃ => ?_) fun _ _ h' => h')) fun _ _ h' => h')
    cases ok with
    | false => exact wpAny_pure ⟨rfl, h₃⟩
    | true =>
      exact wpAny_bind (wpAny_bind (wpAny_mono h₃ (fun x s₄ h₄ => wpAny_bind (wpAny_mono h₄ (fun _ s₅ h₅ => wpAny_pure (wpAny_pure ⟨rfl, h₅⟩)) fun _ _ h' => h')) fun _ _ h' => h'))
section
variable {X : Cx}
def tLc (wi : TI) (g : TG) (tt : TT) (te : TE) (vs : List Nat) : TE := fun σ H Q => wi σ H fun J H1 => ∀ D, H1 D = none → ∃ W : Nat → Nat → Hp → Prop, (∃ m, W 0 m (upd H1 D (.lst []))) ∧ ∀ i m H, W i m H →
  (J.stop i H ∧ Q (.ref D) H) ∨ (J.go i H ∧ ∃ Nx : Hp → Prop, (∀ H', Nx H' → ∃ m', m' < m ∧ W (i + 1) m' H') ∧ ∀ x H', J.yld i H x H' → g x (wipe σ vs) H' fun σ2 H2 => wipe σ2 vs = wipe σ vs ∧ tt σ2 H2 fun b H3 =>
    if b = true then te σ2 H3 fun y H4 => ∃ acc, H4 D = some (.lst acc) ∧ acc.length < sizeLine ∧ Nx (upd H4 D (.lst (acc ++ [y]))) else Nx H3)
theorem lc_core {pins : List (Addr × Obj)} {s : Shared} {σ : St} {H : Hp} {Q : VK} {elt tg iter : Expr} {ifs : List Expr} {scope : Scope} {own : List (Str × Nat)} {pos pos' : Pos} {wi : TI} {g : TG} {tt : TT} {te : TE} {use : Option (Value → Sem Unit)} {Qf : Value → Shared → Prop}
    (hc : X.calm = true) (hN : X.N.Nodup) (I : Inv X pins σ H s) (hi : PI X tg iter wi) (ok : BlkOk X.N X.env.scope scope own)
    (hg : ∀ (s : Shared) (H : Hp) (C : Addr) (cl : List (Str × Addr)) (fp : List Addr), PG (X.blk s H scope (compEnvC scope cl C X.env) fp) tg g) (ht : ∀ (s : Shared) (H : Hp) (C : Addr) (cl : List (Str × Addr)) (fp : List Addr), PTs (X.blk s H scope (compEnvC scope cl C X.env) fp) ifs tt)
    (he : ∀ (s : Shared) (H : Hp) (C : Addr) (cl : List (Str × Addr)) (fp : List Addr), PE (X.blk s H scope (compEnvC scope cl C X.env) fp) elt te) (hs : ∀ x, foldedSetIterable iter X.env x = pure x)
    (h : tLc wi g tt te (own.map (·.2)) σ H Q)
    (hRR : ∀ D C s' m H', Inv X pins σ H' s' → Q (.ref D) H' → s'.heap.Ns C m → FpOk X pins H' C → compPost (model X.prog X.w) X.A X.xe use Qf (.ref D) C (.ok .next) s') :
    wpAny (model X.prog X.w) X.A (comprehension (.ListComp elt [⟨tg, iter, ifs, 0⟩] scope pos) scope X.env pos' (newList []) false (eval iter X.env) use) Qf X.xe s := by
  have hfree : ∀ y ∈ scope.names, y.2 = .free → ∃ c, X.env.cells.lookup y.1 = some c := fun y hy e => by
    rcases ok.free y hy e with k | k
    · exact I.ok.has _ (.inl k)
    · exact I.ok.has _ (.inr k)
  refine wpAny_comprehension_free (use := use) rfl hs (closure_ok hfree) ok.kind (fun y hy e => by rw [ok.uniq y hy, e])
    (thn (hi pins s σ H _ I h) fun xv s1 hx => thn hx fun itv s2 h2 => ?_)
  obtain ⟨it, fp, tn, J, H2, e, I2, T, st2, f2, q⟩ := h2
  subst e
  refine wpAny_newObj_type (newEnv_comp ?_) (by show 0 ≤ sizeLine; decide)
  generalize hD : s2.heap.objs.size = D
  have hDn : H2 D = none := I2.hok.fresh (Nat.le_of_eq hD)
  obtain ⟨W, ⟨m0, w0⟩, turn⟩ := q D hDn
  -- the new list
  generalize hs3 : ({ s2 with heap := s2.heap.push { cls := .type "list", data := .seq ([] : List Value).toArray } } : Shared) = s3
  have I3 : Inv X pins σ (upd H2 D (.lst [])) s3 := by
    rw [← hs3]
    refine I2.laid (t' := s2.toks) (fun b o e => Heap.get?_push_of_some _ e) (Nat.le_of_eq hD) ⟨Nat.zero_le _, [], 0, .nil, ?_⟩
    rw [← hD]
    exact Heap.get?_push_size _ rfl
  have h3 : s3.heap = s2.heap.push { cls := .type "list", data := .seq ([] : List Value).toArray } := by rw [← hs3]
  have sz : ∀ b ∈ fp, b < s2.heap.objs.size := fun b hb => by
    obtain ⟨o, e, _⟩ := T.obj _ _ st2 b hb
    exact Heap.lt_size e
  have f3 : ∀ b ∈ fp, FpOk X pins (upd H2 D (.lst [])) b ∧ b < s3.heap.objs.size := fun b hb => by
    have hlt := sz b hb
    refine ⟨⟨?_, (f2 b hb).2⟩, by rw [h3, Heap.size_push]; exact Nat.lt_succ_of_lt hlt⟩
    rw [upd_ne (by rw [← hD]; exact Nat.ne_of_lt hlt)]
    exact (f2 b hb).1
  have st3 : tn 0 s3.heap := T.keep _ _ _ st2 fun b _ o e => by rw [h3]; exact Heap.get?_push_of_some _ e
  have I4 := block_start I3 ok hN f3
  have pg := hg s3 (upd H2 D (.lst [])) s3.heap.objs.size (cellsFrom (s3.heap.objs.size + 1) scope.names (cloFrom X.env.cells scope.names [])) fp
  have pt := ht s3 (upd H2 D (.lst [])) s3.heap.objs.size (cellsFrom (s3.heap.objs.size + 1) scope.names (cloFrom X.env.cells scope.names [])) fp
  have pe := he s3 (upd H2 D (.lst [])) s3.heap.objs.size (cellsFrom (s3.heap.objs.size + 1) scope.names (cloFrom X.env.cells scope.names [])) fp
  show codeAny _ _ (.compStart (.ListComp elt [⟨tg, iter, ifs, 0⟩] scope pos) 0 (.ref it) (.ref D) (compEnvC scope (cellsFrom (s3.heap.objs.size + 1) scope.names (cloFrom X.env.cells scope.names [])) s3.heap.objs.size X.env)) (compPost (model X.prog X.w) X.A X.xe use Qf (.ref D) s3.heap.objs.size) { s3 with heap := pushCells (s3.heap.push { cls := .type "dict", data := .dict #[] }) scope.names }
  have nfp : ∀ b ∈ fp, (upd H2 D (.lst [])) b = none := fun b hb => (f3 b hb).1.1
  generalize hce : compEnvC scope (cellsFrom (s3.heap.objs.size + 1) scope.names (cloFrom X.env.cells scope.names [])) s3.heap.objs.size X.env = ce at I4 pg pt pe ⊢
  have cL : ce.locals = s3.heap.objs.size := by subst hce; rfl
  generalize hH3 : upd H2 D (.lst []) = H3 at I3 I4 pg pt pe w0 nfp f3
  generalize hs4 : ({ s3 with heap := pushCells (s3.heap.push { cls := .type "dict", data := .dict #[] }) scope.names } : Shared) = s4 at I4 ⊢
  have st4 : tn 0 s4.heap := T.keep _ _ _ st3 fun b _ o e => by rw [← hs4]; exact pushCells_keeps _ _ _ _ (Heap.get?_push_of_some _ e)
  have stat : ∀ {σ' : St} {H' : Hp} {s' : Shared}, Inv (X.blk s3 H3 scope ce fp) [] σ' H' s' → (∀ b ∈ fp, H' b = none) → ∀ b ∈ fp, FpOk (X.blk s3 H3 scope ce fp) [] H' b := fun {σ' H' s'} I' hn b hb =>
    ⟨hn b hb, (I'.ok.exf b hb).1, I'.ok.exfs b hb, .inl hb, fun x c e => (I'.ok.exf b hb).2 x c e, fun p hp => absurd (show p ∈ ([] : List (Addr × Obj)) ++ [] from hp) (by simp)⟩
  have loop : codeAny (model X.prog X.w) X.A (.compLoop (.ListComp elt [⟨tg, iter, ifs, 0⟩] scope pos) 0 (.ref it) (.ref D) ce) (compPost (model X.prog X.w) X.A X.xe use Qf (.ref D) s3.heap.objs.size) s4 := by
    refine compLoop_any (fun n s' => ∃ i H', Inv (X.blk s3 H3 scope ce fp) [] (wipe σ (own.map (·.2))) H' s' ∧ tn i s'.heap ∧ (∀ b ∈ fp, H' b = none) ∧ W i n H') ?_ m0 ⟨0, H3, I4, st4, nfp, w0⟩
    rintro n s5 ⟨i, H5, I5, st5, n5, w5⟩
    rcases turn i n H5 w5 with ⟨stop, qq⟩ | ⟨go, Nx, hNx, step⟩
    · have td := T.done (X.blk s3 H3 scope ce fp) rfl rfl rfl hc i [] s5 _ H5 (fun _ _ => False) I5 (stat I5 n5) st5 stop
      refine thnF td fun r s6 ⟨hr, I6⟩ => ?_
      subst hr
      -- back in the def's context
      have I7 : Inv X pins σ H5 s6 := I3.call' (ch := fp) I6.os I6.base I6.hok I6.bare fun b hb => ⟨(f3 b hb).1.2.2.2.1, (f3 b hb).1.2.1, (f3 b hb).1.2.2.2.2.1, (f3 b hb).1.2.2.2.2.2⟩
      have nC : H5 s3.heap.objs.size = none := by
        have z : H5 ce.locals = none := I6.free
        rw [cL] at z
        exact z
      obtain ⟨m, hn, _⟩ := I6.loc
      have hn : s6.heap.Ns ce.locals m := hn
      rw [cL] at hn
      exact hRR D s3.heap.objs.size s6 m H5 I7 qq hn (I3.fpOk (Nat.le_refl _) nC)
    · have ti := T.item (X.blk s3 H3 scope ce fp) rfl rfl rfl hc i [] s5 _ H5 (fun _ _ => False) I5 (stat I5 n5) st5 go
      refine thnF ti fun r s6 ⟨u, hr, h6⟩ => ?_
      subst hr
      refine thnF h6 fun _ s7 ⟨x, H7, I7, r7, y7, st7, n7⟩ => ?_
      have I7' := I7.pinned (stat I7 n7) (T.obj _ _ st7)
      refine thnF (pg _ s7 _ H7 x u _ I7' r7 (step x H7 y7)) fun _ s8 ⟨σ8, H8, I8, hw8, q8⟩ => ?_
      refine thnF (pt _ s8 σ8 H8 _ I8 q8) fun b s9 ⟨H9, I9, q9⟩ => ?_
      -- the turn's end
      have fin : ∀ {s' : Shared} {H' : Hp}, Inv (X.blk s3 H3 scope ce fp) ([] ++ pinsAt fp s7.heap) σ8 H' s' → Nx H' → ∃ m, m < n ∧ ∃ i H', Inv (X.blk s3 H3 scope ce fp) [] (wipe σ (own.map (·.2))) H' s' ∧ tn i s'.heap ∧ (∀ b ∈ fp, H' b = none) ∧ W i m H' := fun {s' H'} I' nx => by
        obtain ⟨m', hm, w'⟩ := hNx H' nx
        have pin' : ∀ b ∈ fp, ∀ o, s7.heap.get? b = some o → s'.heap.get? b = some o ∧ H' b = none := fun b hb o e =>
          let z := I'.pin (b, o) (List.mem_append_right _ (List.mem_append_right _ (mem_pinsAt hb e)))
          ⟨z.1, z.2.1⟩
        have hl : (wipe σ (own.map (·.2))).length = σ8.length := by rw [← hw8, wipe_length]
        refine ⟨m', hm, i + 1, H', (I'.unpinned (pins := [])).weak hl (fun j v e => ?_), T.keep _ _ _ st7 fun b hb o e => (pin' b hb o e).1, fun b hb => ?_, w'⟩
        · rw [← hw8] at e
          exact (wipe_some e).1
        · obtain ⟨o, e, _⟩ := T.obj _ _ st7 b hb
          exact (pin' b hb o e).2
      cases b with
      | false =>
        simp only [Bool.false_eq_true, if_false] at q9 ⊢
        exact fin I9 q9
      | true =>
        simp only [if_true] at q9 ⊢
        refine thnF (pe _ s9 σ8 H9 _ I9 q9) fun z s10 ⟨yv, H10, I10, r10, acc, hD10, hz10, nx⟩ => ?_
        exact app_ok (X := X.blk s3 H3 scope ce fp) I10 hD10 hz10 r10 fun s11 I11 => fin I11 nx
  exact codeAny_compStart_list loop (T.self X.A 0 _ _ _ st4 loop)
theorem pe_lc {elt tg iter : Expr} {ifs : List Expr} {scope : Scope} {own : List (Str × Nat)} {pos : Pos} {wi : TI} {g : TG} {tt : TT} {te : TE} (hc : X.calm = true) (hN : X.N.Nodup) (hi : PI X tg iter wi) (ok : BlkOk X.N X.env.scope scope own)
    (hg : ∀ (s : Shared) (H : Hp) (C : Addr) (cl : List (Str × Addr)) (fp : List Addr), PG (X.blk s H scope (compEnvC scope cl C X.env) fp) tg g) (ht : ∀ (s : Shared) (H : Hp) (C : Addr) (cl : List (Str × Addr)) (fp : List Addr), PTs (X.blk s H scope (compEnvC scope cl C X.env) fp) ifs tt)
    (he : ∀ (s : Shared) (H : Hp) (C : Addr) (cl : List (Str × Addr)) (fp : List Addr), PE (X.blk s H scope (compEnvC scope cl C X.env) fp) elt te) (hs : ∀ x, foldedSetIterable iter X.env x = pure x := by intro _; rfl) :
    PE X (.ListComp elt [⟨tg, iter, ifs, 0⟩] scope pos) (tLc wi g tt te (own.map (·.2))) := by
  intro pins s σ H Q I h
  rw [eval_ListComp]
  refine lc_core hc hN I hi ok hg ht he hs h fun D C s' m H' I' q hn f => ⟨m, hn, fun h'' sb => ?_⟩
  obtain ⟨f0, f1, f2, f3, f4, f5⟩ := f
  exact ⟨.ref D, H', I'.turned (t' := s'.toks) (fun b o hb e => (sb.2 b hb).trans e) f0 f1 f3 f4 f5, rfl, q⟩
theorem ps_setLc {i : Nat} {y : Str} {py : Pos} {elt tg iter : Expr} {ifs : List Expr} {scope : Scope} {own : List (Str × Nat)} {pos spos : Pos} {wi : TI} {g : TG} {tt : TT} {te : TE} (hc : X.calm = true) (hN : X.N.Nodup) (hy : X.N[i]? = some y) (hyl : X.env.scope.names.lookup y = some .local)
    (hsw : swapsWith (.ListComp elt [⟨tg, iter, ifs, 0⟩] scope pos) (some (.Name y py)) spos.line X.env = pure true) (hi : PI X tg iter wi) (ok : BlkOk X.N X.env.scope scope own)
    (hg : ∀ (s : Shared) (H : Hp) (C : Addr) (cl : List (Str × Addr)) (fp : List Addr), PG (X.blk s H scope (compEnvC scope cl C X.env) fp) tg g) (ht : ∀ (s : Shared) (H : Hp) (C : Addr) (cl : List (Str × Addr)) (fp : List Addr), PTs (X.blk s H scope (compEnvC scope cl C X.env) fp) ifs tt)
    (he : ∀ (s : Shared) (H : Hp) (C : Addr) (cl : List (Str × Addr)) (fp : List Addr), PE (X.blk s H scope (compEnvC scope cl C X.env) fp) elt te) (hs : ∀ x, foldedSetIterable iter X.env x = pure x := by intro _; rfl) :
    PS X (.Assign [.Name y py] (.ListComp elt [⟨tg, iter, ifs, 0⟩] scope pos) spos) (tAsg (tLc wi g tt te (own.map (·.2))) (gName i)) := by
  intro pins s σ H D I h
  rw [exec_Assign_Name_used _ _ _ _ hsw]
  refine wpAny_bind (wpAny_standAt (wpAny_bind ?_))
  show wpAny _ X.A (do let _ ← comprehension (.ListComp elt [⟨tg, iter, ifs, 0⟩] scope pos) scope X.env (firstIterPos [⟨tg, iter, ifs, 0⟩] pos) (newList []) false (eval iter X.env) (some (assign (.Name y py) X.env))) _ _ s
  have h : tLc wi g tt te (own.map (·.2)) σ H (fun x H1 => gName i x σ H1 D.nx) := h
  refine wpAny_bind (thn (lc_core (Qf := fun _ s' => SP X pins D .next s') hc hN I hi ok hg ht he hs h fun L C s' m H' I' q hn f => ?_) fun _ s' hq => wpAny_pure (wpAny_pure hq))
  show wpAny _ _ (assign (.Name y py) X.env (.ref L)) _ _ _
  refine wpAny_assign_Name (store_ok2 (v := V.ref L) I' hN hy (.inl hyl) rfl (fun s2 I2 ⟨a, sb, ha⟩ => ?_) (.inr hyl))
  obtain ⟨f0, f1, f2, f3, f4, f5⟩ := f
  have haC : C ≠ a := by
    rcases ha with z | z
    · rw [z]; exact f1
    · exact fun e => f4 y a z e.symm
  refine ⟨m, hn.sameBut sb haC, fun h3 sb3 => ?_⟩
  exact ⟨_, H', I2.turned (t' := s2.toks) (fun b o hb e => (sb3.2 b hb).trans e) f0 f1 f3 f4 f5, q⟩
end
theorem lc_range {lo : Int} {n : Nat} {g : TG} {tt : TT} {te : TE} {vs : List Nat} {σ : St} {H1 : Hp} {D : Addr} {Qd : Hp → Prop} (Pv : Nat → Hp → Prop) (h0 : Pv 0 (upd H1 D (.lst [])))
    (hs : ∀ i H, i < n → Pv i H → g (.int (lo + i)) (wipe σ vs) H fun σ2 H2 => wipe σ2 vs = wipe σ vs ∧ tt σ2 H2 fun b H3 =>
      if b = true then te σ2 H3 fun y H4 => ∃ acc, H4 D = some (.lst acc) ∧ acc.length < sizeLine ∧ Pv (i + 1) (upd H4 D (.lst (acc ++ [y]))) else Pv (i + 1) H3) (hd : ∀ H, Pv n H → Qd H) :
    ∃ W : Nat → Nat → Hp → Prop, (∃ m, W 0 m (upd H1 D (.lst []))) ∧ ∀ i m H, W i m H →
      ((Itr lo n).stop i H ∧ Qd H) ∨ ((Itr lo n).go i H ∧ ∃ Nx : Hp → Prop, (∀ H', Nx H' → ∃ m', m' < m ∧ W (i + 1) m' H') ∧ ∀ x H', (Itr lo n).yld i H x H' → g x (wipe σ vs) H' fun σ2 H2 => wipe σ2 vs = wipe σ vs ∧ tt σ2 H2 fun b H3 =>
        if b = true then te σ2 H3 fun y H4 => ∃ acc, H4 D = some (.lst acc) ∧ acc.length < sizeLine ∧ Nx (upd H4 D (.lst (acc ++ [y]))) else Nx H3) := by
  refine ⟨fun i m H => m = n - i ∧ i ≤ n ∧ Pv i H, ⟨n, by simp, Nat.zero_le _, h0⟩, ?_⟩
  rintro i m H ⟨rfl, hi, p⟩
  by_cases hlt : i < n
  · refine .inr ⟨hlt, Pv (i + 1), fun H' p' => ⟨n - (i + 1), by omega, rfl, hlt, p'⟩, fun x H' y => ?_⟩
    obtain ⟨e, y⟩ := y
    subst e y
    exact hs i _ hlt p
  · have e : i = n := by omega
    subst e
    exact .inl ⟨Nat.le_refl _, hd H p⟩
theorem lc_list {K : PySem.W.Frag} {a : Addr} {xs : List V} {g : TG} {tt : TT} {te : TE} {vs : List Nat} {σ : St} {H1 : Hp} {D : Addr} {Qd : Hp → Prop} (Pv : Nat → Hp → Prop) (h0 : Pv 0 (upd H1 D (.lst []))) (hl : ∀ i H, i ≤ xs.length → Pv i H → SqL K H a xs)
    (hs : ∀ i x H, xs[i]? = some x → Pv i H → g x (wipe σ vs) H fun σ2 H2 => wipe σ2 vs = wipe σ vs ∧ tt σ2 H2 fun b H3 =>
      if b = true then te σ2 H3 fun y H4 => ∃ acc, H4 D = some (.lst acc) ∧ acc.length < sizeLine ∧ Pv (i + 1) (upd H4 D (.lst (acc ++ [y]))) else Pv (i + 1) H3) (hd : ∀ H, Pv xs.length H → Qd H) :
    ∃ W : Nat → Nat → Hp → Prop, (∃ m, W 0 m (upd H1 D (.lst []))) ∧ ∀ i m H, W i m H →
      ((Itl K a).stop i H ∧ Qd H) ∨ ((Itl K a).go i H ∧ ∃ Nx : Hp → Prop, (∀ H', Nx H' → ∃ m', m' < m ∧ W (i + 1) m' H') ∧ ∀ x H', (Itl K a).yld i H x H' → g x (wipe σ vs) H' fun σ2 H2 => wipe σ2 vs = wipe σ vs ∧ tt σ2 H2 fun b H3 =>
        if b = true then te σ2 H3 fun y H4 => ∃ acc, H4 D = some (.lst acc) ∧ acc.length < sizeLine ∧ Nx (upd H4 D (.lst (acc ++ [y]))) else Nx H3) := by
  refine ⟨fun i m H => m = xs.length - i ∧ i ≤ xs.length ∧ Pv i H, ⟨xs.length, by simp, Nat.zero_le _, h0⟩, ?_⟩
  rintro i m H ⟨rfl, hi, p⟩
  have q := hl i H hi p
  by_cases hlt : i < xs.length
  · refine .inr ⟨⟨xs, xs[i], q, by simp [hlt]⟩, Pv (i + 1), fun H' p' => ⟨xs.length - (i + 1), by omega, rfl, hlt, p'⟩, fun x H' y => ?_⟩
    obtain ⟨e, y⟩ := y
    subst e
    exact hs i x _ (y xs q) p
  · have e : i = xs.length := by omega
    subst e
    exact .inl ⟨⟨xs, q, Nat.le_refl _⟩, hd H p⟩
def blkC (N : List Str) (sc scope : Scope) (own : List (Str × Nat)) : Bool :=
  (match scope.kind with | .function => true | _ => false) && (scope.names.all fun y => decide (scope.names.lookup y.1 = some y.2)) && (own.all fun p => decide (N[p.2]? = some p.1)) &&
    (scope.names.all fun y => match y.2 with
      | .free => (match sc.names.lookup y.1 with | some .cell => true | some .free => true | _ => false)
      | .local => decide (y.1 ∈ own.map (·.1)) || decide (y.1 ∉ N)
      | .cell => decide (y.1 ∈ own.map (·.1)) || decide (y.1 ∉ N)
      | _ => true)
theorem blkOk_by {N : List Str} {sc scope : Scope} {own : List (Str × Nat)} (h : blkC N sc scope own = true) : BlkOk N sc scope own := by
  unfold blkC at h
  simp only [Bool.and_eq_true, List.all_eq_true, decide_eq_true_eq] at h
  obtain ⟨⟨⟨h1, h2⟩, h3⟩, h4⟩ := h
  refine ⟨?_, h2, h3, fun y hy e => ?_, fun y hy e => ?_⟩
  · split at h1
    · assumption
    · cases h1
  · have q := h4 y hy
    simp only [e] at q
    split at q <;> first | exact .inl (by assumption) | exact .inr (by assumption) | cases q
  · have q := h4 y hy
    rcases e with e | e <;> (simp only [e, Bool.or_eq_true, decide_eq_true_eq] at q; exact q)
end L2
namespace L2
open PySem PySem.Spec PyProof.Rows
section
variable {prog : Program} {w : World} {A : Around} {R : Result → Shared → Prop} {s : Shared} {elt t0 i0 t1 i1 : Expr} {ifs0 ifs1 : List Expr} {scope : Scope} {pos : Pos} {it acc : Value} {env : Env}
end
section
variable {X : Cx}
end
end L2
namespace L2
open PySem PySem.Spec PyProof.Rows
section
variable {κ : Type} [DecidableEq κ]
def valV (kvs : List (κ × V)) (k : κ) : Option V := (kvs.find? fun kv => decide (kv.1 = k)).map (·.2)
def putK (kvs : List (κ × V)) (k : κ) (v : V) : List (κ × V) :=
  if (kvs.any fun kv => decide (kv.1 = k)) = true then kvs.map (fun kv => if kv.1 = k then (kv.1, v) else kv) else kvs ++ [(k, v)]
def dropK (kvs : List (κ × V)) (k : κ) : List (κ × V) := kvs.filter fun kv => decide (kv.1 ≠ k)
theorem valV_pos {p : κ × V} {r : List (κ × V)} {k : κ} (e : p.1 = k) : valV (p :: r) k = some p.2 := by simp [valV, List.find?_cons, e]
theorem valV_neg {p : κ × V} {r : List (κ × V)} {k : κ} (e : ¬ p.1 = k) : valV (p :: r) k = valV r k := by simp [valV, List.find?_cons, e]
theorem valV_any (k : κ) : ∀ kvs : List (κ × V), (kvs.any fun kv => decide (kv.1 = k)) = (valV kvs k).isSome
  | [] => rfl
  | p :: r => by
    rw [List.any_cons]
    by_cases e : p.1 = k
    · simp only [valV_pos e, decide_eq_true e, Bool.true_or, Option.isSome_some]
    · rw [valV_neg e, decide_eq_false e, Bool.false_or]; exact valV_any k r
theorem valV_map (k j : κ) (y : V) : ∀ kvs : List (κ × V), valV (kvs.map fun kv => if kv.1 = k then (kv.1, y) else kv) j = (valV kvs j).map fun x => if j = k then y else x
  | [] => rfl
  | p :: r => by
    have ih := valV_map k j y r
    rw [List.map_cons]
    by_cases h : p.1 = k
    · rw [if_pos h]
      by_cases e : p.1 = j
      · rw [valV_pos (p := (p.1, y)) e, valV_pos e, Option.map_some, if_pos (e.symm.trans h)]
      · rw [valV_neg (p := (p.1, y)) e, valV_neg e, ih]
    · rw [if_neg h]
      by_cases e : p.1 = j
      · rw [valV_pos (p := p) e, valV_pos e, Option.map_some, if_neg (fun z => h (e.trans z))]
      · rw [valV_neg (p := p) e, valV_neg e, ih]
theorem valV_snoc (k j : κ) (y : V) : ∀ kvs : List (κ × V), valV kvs k = none → valV (kvs ++ [(k, y)]) j = if j = k then some y else valV kvs j
  | [], _ => by
    by_cases e : k = j
    · rw [if_pos e.symm]; exact valV_pos (p := (k, y)) e
    · rw [if_neg (fun z => e z.symm)]; exact valV_neg (p := (k, y)) e
  | p :: r, hn => by
    rw [List.cons_append]
    have hk : ¬ p.1 = k := fun z => by rw [valV_pos z] at hn; cases hn
    rw [valV_neg hk] at hn
    have ih := valV_snoc k j y r hn
    by_cases e : p.1 = j
    · rw [valV_pos e, valV_pos e, if_neg (fun z => hk (e.trans z))]
    · rw [valV_neg e, valV_neg e, ih]
theorem valV_put (kvs : List (κ × V)) (k j : κ) (y : V) : valV (putK kvs k y) j = if j = k then some y else valV kvs j := by
  unfold putK
  by_cases a : (kvs.any fun kv => decide (kv.1 = k)) = true
  · rw [if_pos a, valV_map]
    rw [valV_any] at a
    by_cases e : j = k
    · obtain ⟨x, hx⟩ := Option.isSome_iff_exists.mp a
      rw [if_pos e, e, hx, Option.map_some, if_pos rfl]
    · rw [if_neg e]
      cases valV kvs j with
      | none => rfl
      | some x => rw [Option.map_some, if_neg e]
  · rw [if_neg a]
    refine valV_snoc k j y kvs ?_
    rw [valV_any] at a
    cases q : valV kvs k with
    | none => rfl
    | some x => rw [q] at a; exact (a rfl).elim
theorem length_putK (kvs : List (κ × V)) (k : κ) (v : V) : (putK kvs k v).length ≤ kvs.length + 1 := by
  unfold putK
  split
  · rw [List.length_map]; omega
  · rw [List.length_append, List.length_cons, List.length_nil]; omega
theorem RelO.isSome_eq {o : Option V} {u : Option Value} (r : RelO o u) : o.isSome = u.isSome := by
  cases o with
  | none => cases u with
    | none => rfl
    | some _ => exact (show False from r).elim
  | some _ => cases u with
    | none => exact (show False from r).elim
    | some _ => rfl
theorem RelO.getD {o : Option V} {u : Option Value} {d : V} {d' : Value} (r : RelO o u) (rd : RelV d d') : RelV (o.getD d) (u.getD d') := by
  cases o with
  | none => cases u with
    | none => exact rd
    | some _ => exact (show False from r).elim
  | some _ => cases u with
    | none => exact (show False from r).elim
    | some _ => exact r
theorem KV.val {kvs : List (κ × V)} {vs : List (κ × Value)} (r : KV kvs vs) (k : κ) : RelO (valV kvs k) (valueAt vs k) := by
  unfold KV at r
  induction r with
  | nil => exact True.intro
  | @cons p q ps qs h t ih =>
    obtain ⟨h1, h2⟩ := h
    by_cases e : p.1 = k
    · have e' : q.1 = k := h1.symm.trans e
      have b : valueAt (q :: qs) k = some q.2 := by simp [valueAt, List.find?_cons, e']
      rw [valV_pos e, b]; exact h2
    · have e' : ¬ q.1 = k := fun z => e (h1.trans z)
      have b : valueAt (q :: qs) k = valueAt qs k := by simp [valueAt, List.find?_cons, e']
      rw [valV_neg e, b]; exact ih
theorem KV.any {kvs : List (κ × V)} {vs : List (κ × Value)} (r : KV kvs vs) (k : κ) : (kvs.any fun kv => decide (kv.1 = k)) = vs.any fun kv => decide (kv.1 = k) := by
  unfold KV at r
  induction r with
  | nil => rfl
  | cons h t ih => rw [List.any_cons, List.any_cons, ih, h.1]
theorem KV.repl {kvs : List (κ × V)} {vs : List (κ × Value)} (r : KV kvs vs) (k : κ) {y : V} {u : Value} (ry : RelV y u) :
    KV (kvs.map fun kv => if kv.1 = k then (kv.1, y) else kv) (vs.map fun kv => if kv.1 = k then (kv.1, u) else kv) := by
  unfold KV at r ⊢
  induction r with
  | nil => exact .nil
  | @cons p q ps qs h t ih =>
    rw [List.map_cons, List.map_cons]
    refine .cons ?_ ih
    obtain ⟨h1, h2⟩ := h
    by_cases e : p.1 = k
    · rw [if_pos e, if_pos (h1.symm.trans e)]; exact ⟨h1, ry⟩
    · rw [if_neg e, if_neg (fun z => e (h1.trans z))]; exact ⟨h1, h2⟩
theorem KV.put {kvs : List (κ × V)} {vs : List (κ × Value)} (r : KV kvs vs) (k : κ) {y : V} {u : Value} (ry : RelV y u) : KV (putK kvs k y) (stored vs k u) := by
  unfold putK stored
  rw [r.any k]
  by_cases e : (vs.any fun kv => decide (kv.1 = k)) = true
  · rw [if_pos e, if_pos e]; exact r.repl k ry
  · rw [if_neg e, if_neg e]; exact Paired.snoc r ⟨rfl, ry⟩
theorem KV.drop {kvs : List (κ × V)} {vs : List (κ × Value)} (r : KV kvs vs) (k : κ) : KV (dropK kvs k) (without vs k) := by
  unfold KV at r ⊢
  unfold dropK without
  induction r with
  | nil => exact .nil
  | @cons p q ps qs h t ih =>
    obtain ⟨h1, h2⟩ := h
    rw [List.filter_cons, List.filter_cons]
    by_cases e : p.1 = k
    · have a : ¬ decide (p.1 ≠ k) = true := by simp [e]
      have b : ¬ decide (q.1 ≠ k) = true := by simp [h1.symm.trans e]
      rw [if_neg a, if_neg b]; exact ih
    · have e' : ¬ q.1 = k := fun z => e (h1.trans z)
      have a : decide (p.1 ≠ k) = true := by simp [e]
      have b : decide (q.1 ≠ k) = true := by simp [e']
      rw [if_pos a, if_pos b]; exact .cons ⟨h1, h2⟩ ih
theorem KV.keys {kvs : List (κ × V)} {vs : List (κ × Value)} (r : KV kvs vs) : kvs.map (·.1) = vs.map (·.1) := by
  unfold KV at r
  induction r with
  | nil => rfl
  | cons h t ih => rw [List.map_cons, List.map_cons, ih, h.1]
theorem KV.length {kvs : List (κ × V)} {vs : List (κ × Value)} (r : KV kvs vs) : kvs.length = vs.length := Paired.length r
end
theorem kV_is {P : Program} {w : World} {k : Key} {u : Value} (r : RelV (kV k) u) : (mixKind P w).is k u = true := by
  cases k with
  | inl i => obtain ⟨t, e⟩ := (show ∃ t, u = Value.int i t from r); subst e; exact mixKind_int P w i t
  | inr x => obtain ⟨t, e⟩ := (show ∃ t, u = Value.str x t from r); subst e; exact mixKind_str P w x t
theorem items_are {P : Program} {w : World} : ∀ {ks : List Key} {us : List Value}, Vals (ks.map kV) us → ItemsAre (mixKind P w) ks us
  | [], _, r => by rw [List.map_nil] at r; cases r; exact .nil
  | k :: ks, _, r => by
    rw [List.map_cons] at r
    cases r with
    | cons h t => exact .cons (kV_is h) (items_are t)
abbrev KT (H : Hp) : List (List Key × V) → List (List Key × Addr × Value) → Prop := Paired fun p q => p.1 = q.1 ∧ H q.2.1 = some (.tup (p.1.map kV)) ∧ RelV p.2 q.2.2
theorem KT.val {H : Hp} {kvs : List (List Key × V)} {xs : List (List Key × Addr × Value)} (r : KT H kvs xs) (k : List Key) : RelO (valV kvs k) ((atKey xs k).map (·.2)) := by
  induction r with
  | nil => exact True.intro
  | @cons p q ps qs h t ih =>
    obtain ⟨h1, _, h2⟩ := h
    by_cases e : p.1 = k
    · have e' : q.1 = k := h1.symm.trans e
      have b : atKey (q :: qs) k = some q.2 := by simp [atKey, List.find?_cons, e']
      rw [valV_pos e, b]; exact h2
    · have e' : ¬ q.1 = k := fun z => e (h1.trans z)
      have b : atKey (q :: qs) k = atKey qs k := by simp [atKey, List.find?_cons, e']
      rw [valV_neg e, b]; exact ih
theorem KT.repl {H : Hp} {kvs : List (List Key × V)} {xs : List (List Key × Addr × Value)} (r : KT H kvs xs) (k : List Key) {y : V} {u : Value} (ry : RelV y u) :
    KT H (kvs.map fun kv => if kv.1 = k then (kv.1, y) else kv) (xs.map (putAt k u)) := by
  induction r with
  | nil => exact .nil
  | @cons p q ps qs h t ih =>
    rw [List.map_cons, List.map_cons]
    refine .cons ?_ ih
    obtain ⟨h1, h2, h3⟩ := h
    unfold putAt
    by_cases e : p.1 = k
    · rw [if_pos e, if_pos (h1.symm.trans e)]; exact ⟨h1, h2, ry⟩
    · rw [if_neg e, if_neg (fun z => e (h1.trans z))]; exact ⟨h1, h2, h3⟩
theorem KT.put {H : Hp} {kvs : List (List Key × V)} {xs : List (List Key × Addr × Value)} (r : KT H kvs xs) (k : List Key) {b : Addr} {y : V} {u : Value} (hb : H b = some (.tup (k.map kV))) (ry : RelV y u) :
    KT H (putK kvs k y) (storedH xs k b u) := by
  have e : (kvs.any fun kv => decide (kv.1 = k)) = (atKey xs k).isSome := by
    rw [valV_any, (r.val k).isSome_eq, Option.isSome_map]
  unfold putK storedH
  rw [e]
  by_cases q : (atKey xs k).isSome = true
  · rw [if_pos q, if_pos q]; exact r.repl k ry
  · rw [if_neg q, if_neg q]; exact Paired.snoc r ⟨rfl, hb, ry⟩
theorem KT.keeps {H H' : Hp} {kvs : List (List Key × V)} {xs : List (List Key × Addr × Value)} (r : KT H kvs xs) (ht : ∀ b ys, H b = some (.tup ys) → H' b = some (.tup ys)) : KT H' kvs xs :=
  Paired.mapP r fun _ _ z => ⟨z.1, ht _ _ z.2.1, z.2.2⟩
section
variable {P : Program} {w : World} {H : Hp} {h : Heap} {a : Addr}
theorem rd_of {u : HO} (ok : HOk P w H h) (e : Rd H a u) : ObjOk P w H h a u := e.ok ok
theorem dk_rd {kvs : List (Key × V)} (ok : HOk P w H h) (e : Rd H a (.dK kvs)) : kvs.length ≤ sizeLine ∧ (a == sysModules) = false ∧ ∃ vs, KV kvs vs ∧ h.DictOf (mixKind P w) a vs :=
  show ObjOk P w H h a (.dK kvs) from rd_of ok e
theorem dk_of {kvs : List (Key × V)} (ok : HOk P w H h) (e : H a = some (.dK kvs)) : kvs.length ≤ sizeLine ∧ (a == sysModules) = false ∧ ∃ vs, KV kvs vs ∧ h.DictOf (mixKind P w) a vs := dk_rd ok (.inl e)
theorem key_of {ks : List Key} (ok : HOk P w H h) (e : H a = some (.tup (ks.map kV))) : (tupleKind (mixKind P w)).is h ks a := by
  obtain ⟨_, its, r, o, h1, h2, n, h3⟩ := (show ObjOk P w H h a (.tup (ks.map kV)) from ok a _ e)
  exact ⟨o, its.toArray, n, h1, h2, h3, by simpa using items_are r⟩
theorem dt_rd {kvs : List (List Key × V)} (ok : HOk P w H h) (e : Rd H a (.dT kvs)) : kvs.length ≤ sizeLine ∧ (a == sysModules) = false ∧
    ∃ xs, KT H kvs xs ∧ h.DictOfH (tupleKind (mixKind P w)) a xs := by
  obtain ⟨z, y, xs, r, o, es, ep, h1, h2, h3, h4, h5⟩ := (show ObjOk P w H h a (.dT kvs) from rd_of ok e)
  refine ⟨z, y, xs, r, o, es, ep, h1, h2, h3, h4, fun x hx => ?_, h5⟩
  have all : ∀ {l : List (List Key × V)} {m : List (List Key × Addr × Value)}, KT H l m → ∀ x ∈ m, (tupleKind (mixKind P w)).is h x.1 x.2.1 := by
    intro l m q
    induction q with
    | nil => intro x hx; exact nomatch hx
    | @cons p q ps qs hq t ih =>
      intro x hx
      rcases List.mem_cons.mp hx with e | hx
      · subst e
        exact key_of ok (by rw [← hq.1]; exact hq.2.1)
      · exact ih x hx
  exact all r x hx
theorem dt_of {kvs : List (List Key × V)} (ok : HOk P w H h) (e : H a = some (.dT kvs)) : kvs.length ≤ sizeLine ∧ (a == sysModules) = false ∧
    ∃ xs, KT H kvs xs ∧ h.DictOfH (tupleKind (mixKind P w)) a xs := dt_rd ok (.inl e)
end
def DGet (H : Hp) (a : Addr) (y : V) (r : Option V) : Prop :=
  (∃ kvs k, Rd H a (.dK kvs) ∧ y = kV k ∧ r = valV kvs k) ∨ ∃ kvs k b, Rd H a (.dT kvs) ∧ y = .ref b ∧ H b = some (.tup (k.map kV)) ∧ r = valV kvs k
def DPut (H : Hp) (a : Addr) (y v : V) (H' : Hp) : Prop :=
  (∃ kvs k, H a = some (.dK kvs) ∧ y = kV k ∧ kvs.length < sizeLine ∧ H' = upd H a (.dK (putK kvs k v))) ∨
  ∃ kvs k b, H a = some (.dT kvs) ∧ y = .ref b ∧ H b = some (.tup (k.map kV)) ∧ kvs.length < sizeLine ∧ H' = upd H a (.dT (putK kvs k v))
theorem DGet.k {H : Hp} {a : Addr} {kvs : List (Key × V)} {k : Key} (e : H a = some (.dK kvs)) : DGet H a (kV k) (valV kvs k) := .inl ⟨kvs, k, .inl e, rfl, rfl⟩
theorem DGet.t {H : Hp} {a b : Addr} {kvs : List (List Key × V)} {k : List Key} (e : H a = some (.dT kvs)) (eb : H b = some (.tup (k.map kV))) : DGet H a (.ref b) (valV kvs k) := .inr ⟨kvs, k, b, .inl e, rfl, eb, rfl⟩
theorem DPut.k {H : Hp} {a : Addr} {kvs : List (Key × V)} {k : Key} {v : V} (e : H a = some (.dK kvs)) (hl : kvs.length < sizeLine) : DPut H a (kV k) v (upd H a (.dK (putK kvs k v))) := .inl ⟨kvs, k, e, rfl, hl, rfl⟩
theorem DPut.t {H : Hp} {a b : Addr} {kvs : List (List Key × V)} {k : List Key} {v : V} (e : H a = some (.dT kvs)) (eb : H b = some (.tup (k.map kV))) (hl : kvs.length < sizeLine) :
    DPut H a (.ref b) v (upd H a (.dT (putK kvs k v))) := .inr ⟨kvs, k, b, e, rfl, eb, hl, rfl⟩
section
variable {X : Cx} {pins : List (Addr × Obj)} {σ : St} {H : Hp} {s : Shared} {a : Addr} {y v : V} {u r : Value} {o : Option V} {A : Around} {E : Value → Shared → Prop}
theorem Inv.big (I : Inv X pins σ H s) : sysModules < s.heap.objs.size := by
  have h : mainGlobals < s.heap.objs.size := (I.mod.glob.keeps I.bk).lt
  exact Nat.lt_trans (by decide) h
theorem d_getItem {Q : Value → Shared → Prop} (hu : A.units + 1 < cLine) (I : Inv X pins σ H s) (g : DGet H a y (some v)) (ry : RelV y u) (h : ∀ w' s', Inv X pins σ H s' → RelV v w' → Q w' s') :
    wpAny (model X.prog X.w) A (getItem (.ref a) u) Q E s := by
  rcases g with ⟨kvs, k, e, ey, l⟩ | ⟨kvs, k, b, e, ey, eb, l⟩
  · subst ey
    obtain ⟨z, hd, vs, rel, dd⟩ := dk_rd I.hok e
    obtain ⟨w', hw, rw'⟩ := RelO.some_of (v := v) (o := valueAt vs k) (by rw [l]; exact rel.val k)
    exact wpAny_getItem_of (kV_is ry) dd.mapOf hw (h w' _ (I.tok _) rw')
  · subst ey
    cases (show u = Value.ref b from ry)
    obtain ⟨z, hd, xs, rel, dd⟩ := dt_rd I.hok e
    obtain ⟨w', hw, rw'⟩ := RelO.some_of (v := v) (o := (atKey xs k).map (·.2)) (by rw [l]; exact rel.val k)
    obtain ⟨p, hp, hp2⟩ := Option.map_eq_some_iff.mp hw
    refine wpAny_getItem_heap (tupleKind_room_in1 hu) (key_of I.hok eb) dd hp ?_
    rw [hp2]
    exact h w' _ (I.tok _) rw'
theorem d_write {h' : Heap} {t' : Nat} {ob : HO} (I : Inv X pins σ H s) (mu : Mut (H a)) (hs : Heap.SameBut a s.heap h') (he : ∃ q, h'.get? a = some q) (new : ObjOk X.prog X.w (upd H a ob) h' a ob) :
    Inv X pins σ (upd H a ob) { s with heap := h', toks := t' } :=
  I.write (x := a) (e := a) mu (.inl rfl) (fun b q hb z => (hs.2 b hb).trans z) he new
theorem dk_new {P : Program} {w : World} {H' : Hp} {h' : Heap} {kvs : List (Key × V)} {vs : List (Key × Value)} (z : kvs.length ≤ sizeLine) (hd : (a == sysModules) = false) (rel : KV kvs vs) (dd : h'.DictOf (mixKind P w) a vs) :
    ObjOk P w H' h' a (.dK kvs) := ⟨z, hd, vs, rel, dd⟩
theorem d_setItem {H' : Hp} {Q : Unit → Shared → Prop} (hu : A.units + 1 < cLine) (I : Inv X pins σ H s) (g : DPut H a y v H') (ry : RelV y u) (rv : RelV v r) (h : ∀ s', Inv X pins σ H' s' → Q () s') :
    wpAny (model X.prog X.w) A (setItem (.ref a) u r) Q E s := by
  rcases g with ⟨kvs, k, e, ey, l, eH⟩ | ⟨kvs, k, b, e, ey, eb, l, eH⟩
  · subst ey eH
    obtain ⟨z, hd, vs, rel, dd⟩ := dk_of I.hok e
    have hz : vs.length ≤ sizeLine := by rw [← rel.length]; exact z
    have hl : (putK kvs k v).length ≤ sizeLine := by have := length_putK kvs k v; omega
    refine wpAny_setItem_pairs (hsz := hz) (kV_is ry) dd fun h' dd' hs => h _ ?_
    have he : ∃ q, h'.get? a = some q := let ⟨q, _, _, hq, _⟩ := dd'; ⟨q, hq⟩
    exact d_write I (by rw [e]; exact True.intro) hs he (dk_new hl hd (rel.put k rv) dd')
  · subst ey eH
    cases (show u = Value.ref b from ry)
    obtain ⟨z, hd, xs, rel, dd⟩ := dt_of I.hok e
    have hz : xs.length ≤ sizeLine := by rw [← Paired.length rel]; exact z
    have hl : (putK kvs k v).length ≤ sizeLine := by have := length_putK kvs k v; omega
    refine wpAny_setItem_heap (hsz := hz) (tupleKind_room_in1 hu) (key_of I.hok eb) dd fun h' dd' hs => h _ ?_
    obtain ⟨q, es, ep, hq, h2, h3, h4, _, h5⟩ := dd'
    refine d_write I (by rw [e]; exact True.intro) hs ⟨q, hq⟩ ⟨hl, hd, _, (rel.put k eb rv).keeps fun c ys ec => ?_, q, es, ep, hq, h2, h3, h4, h5⟩
    rw [upd_ne (ne_of ec e (fun z => nomatch z))]
    exact ec
end
section
variable {X : Cx} {pins : List (Addr × Obj)} {σ : St} {H : Hp} {s : Shared} {a : Addr} {kvs : List (Key × V)} {k : Key} {u : Value} {A : Around} {E : Value → Shared → Prop}
end
def NoSl (i : Expr) : Prop := ∀ ov iv, subscripted i false ov iv = operate [ov, iv] (getItem ov iv)
theorem subD_of {prog : Program} {w : World} {A : Around} {E : Value → Shared → Prop} {s : Shared} {env : Env} {value slice : Expr} {pos : Pos} {T id : String} {Q : Value → Shared → Prop}
    (hl : typeLookup (.type T) "__getitem__" = pure (some (.builtin id))) (hs : NoSl slice)
    (h : wpAny (model prog w) A (eval value env) (fun o s₁ => wpAny (model prog w) A (eval slice env) (fun i s₂ => s₂.TypeIs o T ∧ wpAny (model prog w) A (getItem o i) Q E s₂) E s₁) E s) :
    wpAny (model prog w) A (eval (.Subscript value slice pos) env) Q E s := by
  refine Subscript_ (wpAny_mono h (fun o s₁ h₁ => wpAny_mono h₁ (fun i s₂ h₂ => ?_) fun _ _ x => x) fun _ _ x => x)
  obtain ⟨hT, h₂⟩ := h₂
  unfold subscriptTail
  refine wpAny_bind ?_
  rw [getitemInPython_of_ne hT.not_modules]
  refine wpAny_bind (wpAny_specialOf hT hl ?_)
  have fin : wpAny (model prog w) A (subscripted slice false o i) (fun r s₃ => wpAny (model prog w) A (letTemporaryGo value o r >>= fun _ => pure r) Q E s₃) E s₂ := by
    rw [hs o i]
    exact wpAny_operating (wpAny_mono h₂ (fun r s₃ h₃ => wpAny_bind (wpAny_letTemporaryGo (wpAny_pure h₃))) fun _ _ x => x)
  first
    | exact wpAny_pure (wpAny_bind fin)
    | exact wpAny_bind (wpAny_pure (wpAny_bind fin))
    | exact wpAny_bind fin
theorem dict_typeIs {X : Cx} {pins : List (Addr × Obj)} {σ : St} {H : Hp} {s : Shared} {a : Addr} {y : V} {o : Option V} (I : Inv X pins σ H s) (g : DGet H a y o) : s.TypeIs (.ref a) "dict" := by
  rcases g with ⟨kvs, k, e, _, _⟩ | ⟨kvs, k, b, e, _, _, _⟩
  · obtain ⟨_, _, vs, _, dd⟩ := dk_rd I.hok e
    exact dd.typeIs
  · obtain ⟨_, _, xs, _, dd⟩ := dt_rd I.hok e
    exact dd.typeIs
def tDGet (td ty : TE) : TE := fun σ H Q => td σ H fun x H1 => ty σ H1 fun y H2 => ∃ a v, x = .ref a ∧ DGet H2 a y (some v) ∧ Q v H2
def sDPut (td ty tv : TE) : TS := fun D σ H => tv σ H fun v H1 => td σ H1 fun x H2 => ty σ H2 fun y H3 => ∃ a H4, x = .ref a ∧ DPut H3 a y v H4 ∧ D.nx σ H4
section
variable {X : Cx} {o i e value : Expr} {pos pos' tpos : Pos} {td ty tv : TE}
theorem pe_dget (hu : X.A.units + 1 < cLine) (ho : PE X o td) (hi : PE X i ty) (hs : NoSl i) : PE X (.Subscript o i pos) (tDGet td ty) := by
  intro pins s σ H Q I h
  refine subD_of PySem.F.slot_dict_getitem.lookup hs (thn (ho pins s σ H _ I h) fun u s1 ⟨x, H1, I1, rx, q1⟩ => thn (hi pins s1 σ H1 _ I1 q1) fun iv s2 ⟨y, H2, I2, ry, a, v, ex, g, q2⟩ => ?_)
  subst ex
  obtain rfl : u = Value.ref a := rx
  exact ⟨dict_typeIs I2 g, d_getItem hu I2 g ry fun w' s3 I3 rw' => ⟨v, H2, I3, rw', q2⟩⟩
theorem ps_dput (hu : X.A.units + 1 < cLine) (ho : PE X o td) (hi : PE X i ty) (hv : PE X value tv) (hs : swapsWith value (some (.Subscript o i pos')) pos.line X.env = pure false) :
    PS X (.Assign [.Subscript o i pos'] value pos) (sDPut td ty tv) := by
  intro pins s σ H D I h
  refine wpAny_Assign_Subscript (thn (hv pins s σ H _ I h) fun r s1 ⟨v, H1, I1, rv, q1⟩ => thn (ho pins s1 σ H1 _ I1 q1) fun u s2 ⟨x, H2, I2, rx, q2⟩ => thn (hi pins s2 σ H2 _ I2 q2) fun iv s3 ⟨y, H3, I3, ry, a, H4, ex, g, q3⟩ => ?_) hs
  subst ex
  obtain rfl : u = Value.ref a := rx
  exact d_setItem hu I3 g ry rv fun s4 I4 => ⟨σ, H4, I4, q3⟩
end
theorem dt_empty {P : Program} {w : World} {H : Hp} (h : Heap) (hb : sysModules < h.objs.size) : ObjOk P w H (h.push { cls := .type "dict", data := .dict #[] }) h.objs.size (.dT []) :=
  ⟨Nat.zero_le _, beq_eq_false_iff_ne.mpr (Ne.symm (Nat.ne_of_lt hb)), [], .nil, _, #[], 0, Heap.get?_push_size _ rfl, ⟨rfl, rfl, rfl⟩, rfl, rfl, List.nodup_nil⟩
def tDNewT : TE := fun _ H Q => ∀ p, H p = none → Q (.ref p) (upd H p (.dT []))
section
variable {X : Cx} {pos : Pos}
theorem pe_dnewT : PE X (.Dict [] [] pos) tDNewT := fun pins s σ H Q I h =>
  wpAny_Dict_empty ⟨.ref s.heap.objs.size, _, I.laid (a := s.heap.objs.size) (o := .dT []) (t' := s.toks) (fun _ _ q => Heap.get?_push_of_some _ q) (Nat.le_refl _) (dt_empty s.heap I.big), rfl, h _ (I.hok.fresh (Nat.le_refl _))⟩
end
section
variable {X : Cx} {pins : List (Addr × Obj)} {σ : St} {H : Hp} {s : Shared} {a : Addr} {y d : V} {u r : Value} {o : Option V} {A : Around} {E : Value → Shared → Prop}
end
section
variable {X : Cx} {o e f : Expr} {apos cpos : Pos} {td ty tx : TE}
end
section
variable {X : Cx} {pins : List (Addr × Obj)} {σ : St} {H : Hp} {s : Shared} {a : Addr} {kvs : List (Key × V)} {A : Around} {E : Value → Shared → Prop}
end
section
variable {X : Cx} {pins : List (Addr × Obj)} {σ : St} {H : Hp} {s : Shared} {a : Addr} {y : V} {u : Value} {A : Around} {E : Value → Shared → Prop}
end
end L2
namespace L2
open PySem PySem.Spec PyProof.Rows
section
variable {prog : Program} {w : World} {A : Around} {E : Value → Shared → Prop}
end
section
variable {X : Cx}
end
end L2
namespace L2
open PySem PySem.Spec PyProof.Rows
section
variable {X : Cx} {pins : List (Addr × Obj)} {σ : St} {H : Hp} {s : Shared} {h' : Heap}
theorem Inv.turnedL {t' : Nat} {ch : List Addr} (I : Inv X pins σ H s) (k : ∀ b o, b ∉ ch → s.heap.get? b = some o → h'.get? b = some o) (hf : ∀ b ∈ ch, FpOk X pins H b) : Inv X pins σ H { s with heap := h', toks := t' } := by
  have nit : ∀ b u, H b = some u → b ∉ ch := fun b u e z => by
    have q := (hf b z).1
    rw [q] at e; cases e
  refine I.step (g' := s.gens) (d' := s.drawn) (ch := ch) (fun b hb => ⟨(hf b hb).2.2.2.1, (hf b hb).2.1, (hf b hb).2.2.2.2.1, (hf b hb).2.2.2.2.2⟩) (fun b o _ _ hc e _ => k b o hc e) (fun b o _ _ hc e _ => ⟨o.slots, k b o hc e⟩)
    (fun _ _ _ _ n => n) (fun b o hc e => ⟨o, k b o hc e⟩) (fun _ _ e => e) (fun _ _ _ e => e) (fun b ps e => ⟨#[], by rw [e]; simp⟩) (fun m hm => ?_) (fun b u e => ?_) I.bare
  · obtain ⟨o, es, ep, ho, r⟩ := hm
    exact ⟨o, es, ep, k _ o (fun z => (hf _ z).2.1 rfl) ho, r⟩
  · refine (I.hok b u e).stay (fun c v hc q => k c v ?_ q) (fun _ q => q) fun _ _ q => q
    rcases hc with z | z
    · rw [z]; exact nit b u e
    · exact nit c _ z
theorem Inv.turnedNew {t' : Nat} {ch : List Addr} {T : Addr} {ob : HO} (I : Inv X pins σ H s) (k : ∀ b o, b ∉ ch → s.heap.get? b = some o → h'.get? b = some o) (hf : ∀ b ∈ ch, FpOk X pins H b) (hT : s.heap.objs.size ≤ T)
    (new : ObjOk X.prog X.w (upd H T ob) h' T ob) : Inv X pins σ (upd H T ob) { s with heap := h', toks := t' } := by
  have hn : H T = none := I.hok.fresh hT
  have nit : ∀ b u, H b = some u → b ∉ ch := fun b u e z => by
    have q := (hf b z).1
    rw [q] at e; cases e
  refine I.step (g' := s.gens) (d' := s.drawn) (ch := ch) (fun b hb => ⟨(hf b hb).2.2.2.1, (hf b hb).2.1, (hf b hb).2.2.2.2.1, (hf b hb).2.2.2.2.2⟩) (fun b o _ _ hc e _ => k b o hc e) (fun b o _ _ hc e _ => ⟨o.slots, k b o hc e⟩)
    (fun b o _ e n => ?_) (fun b o hc e => ⟨o, k b o hc e⟩) (fun b xs e => ?_) (fun b o u e => ?_) (fun b ps e => ⟨#[], ?_⟩) (fun m hm => ?_) (fun b u e => ?_) I.bare
  · rw [upd_ne (Nat.ne_of_lt (Nat.lt_of_lt_of_le (Heap.lt_size e) hT))]; exact n
  · rw [upd_ne (ne_of_none e hn)]; exact e
  · rw [upd_ne (ne_of_none e hn)]; exact e
  · rw [upd_ne (ne_of_none e hn), e]; simp
  · obtain ⟨o, es, ep, ho, r⟩ := hm
    exact ⟨o, es, ep, k _ o (fun z => (hf _ z).2.1 rfl) ho, r⟩
  · by_cases hb : b = T
    · subst hb
      rw [upd_same] at e
      cases e
      exact new
    · rw [upd_ne hb] at e
      refine (I.hok b u e).stay (fun c v hc q => k c v ?_ q) (fun c q => by rw [upd_ne (ne_of_none q hn)]; exact q) fun c xs q => by rw [upd_ne (ne_of_none q hn)]; exact q
      rcases hc with z | z
      · rw [z]; exact nit b u e
      · exact nit c _ z
theorem Inv.lock {d : Addr} {u : HO} (I : Inv X pins σ H s) (h : H d = some u) (mu : Mut (some u)) : ∃ od, Inv X pins σ (upd H d (.frz od u)) s := by
  have x := I.hok d u h
  have ex : ∃ od, s.heap.get? d = some od := by
    cases u with
    | lst xs => obtain ⟨_, _, _, _, e⟩ := x; exact ⟨_, e⟩
    | dK kvs => obtain ⟨_, _, _, _, o, _, _, e, _⟩ := x; exact ⟨o, e⟩
    | dT kvs => obtain ⟨_, _, _, _, o, _, _, e, _⟩ := x; exact ⟨o, e⟩
    | set S n => obtain ⟨o, _, _, _, e, _⟩ := x; exact ⟨o, e⟩
    | ins C dx fs => obtain ⟨_, _, _, e, _⟩ := x; exact ⟨_, e⟩
    | ext φ => obtain ⟨_, ⟨_, e⟩, _⟩ := x; exact ⟨_, e⟩
    | _ => exact False.elim mu
  obtain ⟨od, e⟩ := ex
  have new : ObjOk X.prog X.w (upd H d (.frz od u)) s.heap d (.frz od u) := by
    refine ⟨e, x.stay (fun b v _ q => q) (fun b q => ?_) fun b xs q => ?_⟩
    · rw [upd_ne (fun z => by rw [z, h] at q; cases q; exact mu)]; exact q
    · rw [upd_ne (fun z => by rw [z, h] at q; cases q; exact mu)]; exact q
  exact ⟨od, I.write (x := d) (e := d) (t' := s.toks) (h' := s.heap) (by rw [h]; exact mu) (.inl rfl) (fun b v _ q => q) ⟨od, e⟩ new⟩
theorem Inv.nofrz {d : Addr} {u : HO} (I : Inv X pins σ H s) (h : H d = some u) (mu : Mut (some u)) : ∀ o' u', X.H_0 d ≠ some (.frz o' u') := fun o' u' e => by
  have q := I.base.frzs d o' u' e
  rw [h] at q
  cases q
  exact mu
theorem Inv.unlock {d : Addr} {od : Obj} {u : HO} (I : Inv X pins σ H s) (h : H d = some (.frz od u)) (hn : ∀ o' u', X.H_0 d ≠ some (.frz o' u')) : Inv X pins σ (upd H d u) s := by
  have neH : ∀ b o, H b = some o → (∀ o' u', o ≠ .frz o' u') → b ≠ d := fun b o e hne z => by
    rw [z, h] at e
    cases e
    exact hne _ _ rfl
  have neN : ∀ b, H b = none → b ≠ d := fun b e z => by rw [z, h] at e; cases e
  refine ⟨I.ok, I.os, I.bare, ⟨I.base.keep, I.base.slot, fun b o e n hx => ?_, I.base.there, fun b xs e => ?_, fun b o x e => ?_, fun b ps e => ?_⟩, I.loc, I.cell, ?_, fun x c e => ?_, fun p hp => ?_, fun b o e => ?_, I.len⟩
  · rw [upd_ne (neN b (I.base.free b o e n hx))]; exact I.base.free b o e n hx
  · have q := I.base.tups b xs e
    rw [upd_ne (neH b _ q (fun _ _ z => nomatch z))]; exact q
  · have q := I.base.frzs b o x e
    rw [upd_ne (fun z => by rw [z] at e; exact hn _ _ e)]; exact q
  · obtain ⟨m, q⟩ := I.base.tbls b ps e
    exact ⟨m, by rw [upd_ne (neH b _ q (fun _ _ z => nomatch z))]; exact q⟩
  · rw [upd_ne (neN _ I.free)]; exact I.free
  · rw [upd_ne (neN c (I.freeC x c e))]; exact I.freeC x c e
  · obtain ⟨e, n, r⟩ := I.pin p hp
    exact ⟨e, by rw [upd_ne (neN _ n)]; exact n, r⟩
  · by_cases hb : b = d
    · rw [hb, upd_same] at e
      cases e
      rw [hb]
      obtain ⟨_, x⟩ := I.hok d _ h
      exact x.stay (fun c v _ q => q) (fun c q => by rw [upd_ne (neH c _ q (fun _ _ z => nomatch z))]; exact q) fun c xs q => by rw [upd_ne (neH c _ q (fun _ _ z => nomatch z))]; exact q
    · rw [upd_ne hb] at e
      exact (I.hok b o e).stay (fun c v _ q => q) (fun c q => by rw [upd_ne (neH c _ q (fun _ _ z => nomatch z))]; exact q) fun c xs q => by rw [upd_ne (neH c _ q (fun _ _ z => nomatch z))]; exact q
end
def tLockE (t : TE) : TE := fun σ H Q => ∃ d u, H d = some u ∧ Mut (some u) ∧ ∀ od, t σ (upd H d (.frz od u)) fun v H' => H' d = some (.frz od u) ∧ Q v (upd H' d u)
section
variable {X : Cx}
theorem pe_lock {e : Expr} {t : TE} (h : PE X e t) : PE X e (tLockE t) := by
  intro pins s σ H Q I hw
  obtain ⟨d, u, hd, mu, hw⟩ := hw
  obtain ⟨od, I1⟩ := I.lock hd mu
  refine thn (h pins s σ _ _ I1 (hw od)) fun v s1 ⟨x, H1, I2, r, e2, q⟩ => ?_
  exact ⟨x, _, I2.unlock e2 (I.nofrz hd mu), r, q⟩
theorem pi_one {tg : Expr} {pins : List (Addr × Obj)} {σ : St} {H : Hp} {s : Shared} {R : It → Hp → Prop} {J : It} {tn : Nat → Heap → Prop} {tk : Nat} (I : Inv X pins σ H s) (o : Obj)
    (T : Turn X.prog X.w X.K tg J [s.heap.objs.size] s.heap.objs.size tn) (st : tn 0 (s.heap.push o)) (q : R J H) : PIE X pins σ tg R (.ref s.heap.objs.size) { s with heap := s.heap.push o, toks := tk } := by
  refine ⟨s.heap.objs.size, [s.heap.objs.size], tn, J, H, rfl, I.kept fun b ob e => Heap.get?_push_of_some _ e, T, st, fun b hb => ?_, q⟩
  have e : b = s.heap.objs.size := by simpa using hb
  subst e
  exact I.fpOk (Nat.le_refl _) (I.hok.fresh (Nat.le_refl _))
end
def RgC (i j c : Int) (n : Nat) : Prop := c ≠ 0 ∧ c.natAbs < 1073741824 ∧ Builtin.Range.small i j c = true ∧ Builtin.Range.rangeSize i j c = n
theorem RgC.neg {i j : Int} (ha : -(2 ^ 62) ≤ i) (ha' : i < 2 ^ 62) (hb : -(2 ^ 62) ≤ j) (hb' : j < 2 ^ 62) : RgC i j (-1) (i - j).toNat :=
  ⟨by decide, by decide, PySem.W.small_down ha ha' hb hb', PySem.W.rangeSize_downNat i j⟩
section
variable {X : Cx} {tg : Expr}
end
section
variable {X : Cx} {tg : Expr}
end
section
variable {prog : Program} {w : World} {A : Around} {E : Value → Shared → Prop} {s : Shared}
theorem iter_keys {d : Addr} {o : Obj} {es : Array DictEntry} {ep : Nat} {Q : Value → Shared → Prop} (hd : (d == sysModules) = false) (ho : s.heap.get? d = some o) (hc : o.ExactDict) (hdat : o.data = .dict es ep)
    (hQ : Q (.ref s.heap.objs.size) { s with heap := s.heap.push { cls := .type "dict_keyiterator", data := .fields #[.ref d, .int 0 0, .int es.size 0, .int ep 0] } }) :
    wpAny (model prog w) A (pyIter (.ref d)) Q E s := by
  have hT : s.TypeIs (.ref d) "dict" := ⟨o, ho, hc.1⟩
  refine wpAny_pyIter_slot hT F.slot_dict_iter (wpAny_call_entry F.slot_dict_iter hT F.entry_dict_iter ?_ (F.args_dict_iter_1 _))
  unfold Builtin.«dict.__iter__»
  refine wpAny_bind ?_
  unfold Builtin.Dict.dictSlotNone
  refine wpAny_bind (wpAny_notOrdered_dict hT ?_)
  show wpAny _ _ (pure (Value.ref d)) _ _ s
  refine wpAny_pure ?_
  show wpAny _ _ (Builtin.Dict.showsAll d >>= _) _ _ s
  unfold Builtin.Dict.showsAll
  rw [if_neg (by rw [hd]; exact Bool.false_ne_true)]
  refine wpAny_bind (wpAny_pure ?_)
  refine wpAny_bind (wpAny_dictEntries ho hdat ?_)
  refine wpAny_bind (wpAny_dictEpoch ho hdat ?_)
  refine wpAny_bind (wpAny_newObj_type (wpAny_pure ⟨_, rfl, "dict_keyiterator", _, ⟨_, Heap.get?_push_size _ rfl, rfl⟩, F.slot_dict_keyiterator_next.lookup, ?_⟩))
  simpa [rawInt] using hQ
theorem next_key_item {it d : Addr} {i n ep : Nat} {od : Obj} {es : Array DictEntry} {en : DictEntry} {Q : Option Value → Shared → Prop} (hit : s.heap.IsKeyIter it d i n ep) (hod : s.heap.get? d = some od) (hdd : od.data = .dict es ep)
    (hsz : es.size = n) (hx : es[i]? = some en) (hQ : ∀ h', h'.IsKeyIter it d (i + 1) n ep → Heap.SameBut it s.heap h' → Q (some en.key) { s with heap := h' }) : wpAny (model prog w) A (pyNext (.ref it)) Q E s := by
  obtain ⟨o, ho, hc, hd⟩ := id hit
  unfold pyNext
  refine wpAny_bind (wpAny_attempt (wpAny_callSpecial?_slot (name := Str.ofString "__next__") hit.typeIs F.slot_dict_keyiterator_next
    (wpAny_call_entry F.slot_dict_keyiterator_next hit.typeIs F.entry_dict_keyiterator_next ?_ (F.args_dict_keyiterator_next_1 _))))
  refine wpAny_bind (wpAny_pure ?_)
  refine wpAny_bind ?_
  refine wpAny_bind ?_
  first | refine wpAny_bind (wpAny_typeNameOfWhole_keyiter hit.typeIs (wpAny_pure ?_)) | refine wpAny_bind (wpAny_typeNameOf_keyiter hit.typeIs (wpAny_pure ?_))
  refine wpAny_bind (wpAny_fieldsOf ho hd ?_)
  have hown : Builtin.Dict_items.ownsTuple "dict_keyiterator" = false := by decide
  simp only [hown, Bool.false_eq_true, if_false]
  show wpAny _ _ (if (Value.ref d == Value.none) = true then _ else _) _ _ s
  rw [if_neg (show ¬ ((Value.ref d == Value.none) = true) from Bool.false_ne_true)]
  refine wpAny_bind (wpAny_pure ?_)
  refine wpAny_bind (wpAny_dictEntries hod hdd ?_)
  rw [if_neg (by rw [hsz]; simp)]
  refine wpAny_bind (wpAny_pure ?_)
  refine wpAny_bind (wpAny_dictEpoch hod hdd ?_)
  rw [if_neg (by simp)]
  refine wpAny_pure ?_
  obtain ⟨hlt', hen⟩ := Array.getElem?_eq_some_iff.mp hx
  simp only [show ¬ ((i : Int) < 0) from by omega, if_false, Int.toNat_natCast, Array.getElem?_eq_getElem hlt']
  refine wpAny_bind ?_
  first | refine wpAny_bind (wpAny_typeNameOfWhole_keyiter hit.typeIs (wpAny_pure ?_)) | refine wpAny_bind (wpAny_typeNameOf_keyiter hit.typeIs (wpAny_pure ?_))
  refine wpAny_bind (wpAny_isOneOf_keyiter hit.typeIs ?_)
  show wpAny _ _ (setField (.ref it) 1 (rawInt ((i : Int) + 1)) >>= _) _ _ s
  refine wpAny_bind (wpAny_setField ho hd (by simp) ?_)
  have hit' : (s.heap.update it (Obj.mapFields (·.setIfInBounds 1 (rawInt ((i : Int) + 1))))).IsKeyIter it d (i + 1) n ep :=
    ⟨_, Heap.get?_update_self _ ho (Obj.isFreed_of_fields (Obj.data_mapFields hd _)), (Obj.cls_mapFields ..).trans hc, by rw [Obj.data_mapFields hd]; simp [rawInt]⟩
  refine wpAny_bind (wpAny_holding ?_)
  refine wpAny_bind (wpAny_isOneOf_keyiter (s := { s with heap := s.heap.update it (Obj.mapFields (·.setIfInBounds 1 (rawInt ((i : Int) + 1)))) }) hit'.typeIs ?_)
  show wpAny _ _ (pure es[i].key) _ _ _
  rw [hen]
  exact wpAny_pure (wpAny_pure ⟨_, rfl, wpAny_pure (hQ _ hit' (Heap.SameBut.update ..))⟩)
theorem next_key_end {it d : Addr} {i n ep : Nat} {od : Obj} {es : Array DictEntry} {Q : Option Value → Shared → Prop} (hh : A.handled = none) (hit : s.heap.IsKeyIter it d i n ep) (hod : s.heap.get? d = some od) (hdd : od.data = .dict es ep)
    (hsz : es.size = n) (hge : n ≤ i) (hQ : ∀ h', Heap.ExtBut it s.heap h' → Q none { s with heap := h' }) : wpAny (model prog w) A (pyNext (.ref it)) Q E s := by
  obtain ⟨o, ho, hc, hd⟩ := id hit
  unfold pyNext
  refine wpAny_bind (wpAny_attempt (wpAny_callSpecial?_slot (name := Str.ofString "__next__") hit.typeIs F.slot_dict_keyiterator_next
    (wpAny_call_entry F.slot_dict_keyiterator_next hit.typeIs F.entry_dict_keyiterator_next ?_ (F.args_dict_keyiterator_next_1 _))))
  refine wpAny_bind (wpAny_pure ?_)
  refine wpAny_bind ?_
  refine wpAny_bind ?_
  first | refine wpAny_bind (wpAny_typeNameOfWhole_keyiter hit.typeIs (wpAny_pure ?_)) | refine wpAny_bind (wpAny_typeNameOf_keyiter hit.typeIs (wpAny_pure ?_))
  refine wpAny_bind (wpAny_fieldsOf ho hd ?_)
  have hown : Builtin.Dict_items.ownsTuple "dict_keyiterator" = false := by decide
  simp only [hown, Bool.false_eq_true, if_false]
  show wpAny _ _ (if (Value.ref d == Value.none) = true then _ else _) _ _ s
  rw [if_neg (show ¬ ((Value.ref d == Value.none) = true) from Bool.false_ne_true)]
  refine wpAny_bind (wpAny_pure ?_)
  refine wpAny_bind (wpAny_dictEntries hod hdd ?_)
  rw [if_neg (by rw [hsz]; simp)]
  refine wpAny_bind (wpAny_pure ?_)
  refine wpAny_bind (wpAny_dictEpoch hod hdd ?_)
  rw [if_neg (by simp)]
  refine wpAny_pure ?_
  have hge' : es.size ≤ i := by rw [hsz]; exact hge
  simp only [show ¬ ((i : Int) < 0) from by omega, if_false, Int.toNat_natCast, Array.getElem?_eq_none hge']
  refine wpAny_bind ?_
  first | refine wpAny_bind (wpAny_typeNameOfWhole_keyiter hit.typeIs (wpAny_pure ?_)) | refine wpAny_bind (wpAny_typeNameOf_keyiter hit.typeIs (wpAny_pure ?_))
  show wpAny _ _ (setField (.ref it) 0 .none >>= _) _ _ s
  refine wpAny_bind (wpAny_setField ho hd (by simp) ?_)
  show wpAny _ _ (newExc (.type "StopIteration") [] >>= _) _ _ _
  refine wpAny_bind ?_
  simp only [newExc, newTuple]
  refine wpAny_bind (wpAny_newObj_type ?_ (by size_fits))
  refine wpAny_bind (m := firstArgMember _ _) (wpAny_of_eq (a := Value.none) (by first | rfl | (simp only [firstArgMember]; rfl)) ?_)
  refine wpAny_newObj_type ?_ (by size_fits)
  simp only [raiseNew]
  refine wpAny_bind (wpAny_handled ?_)
  rw [show A.in1.handled = none from hh]
  refine wpAny_bind (wpAny_pure (wpAny_throw ?_))
  refine wpAny_bind (wpAny_isInstance (T := "StopIteration") (b := true) ⟨_, Heap.get?_push_size _ rfl, rfl⟩ isSubtype_stop ?_)
  exact wpAny_pure (hQ _ (((Heap.SameBut.update ..).extBut.push _).push _))
end
theorem paired_get {α β : Type} {G : α → β → Prop} {l₁ : List α} {l₂ : List β} (h : Paired G l₁ l₂) : ∀ {i : Nat} {a : α}, l₁[i]? = some a → ∃ b, l₂[i]? = some b ∧ G a b := by
  induction h with
  | nil => intro i a e; simp at e
  | @cons a b l₁ l₂ r t ih =>
    intro i a' e
    cases i with
    | zero =>
      simp only [List.getElem?_cons_zero, Option.some.injEq] at e
      subst e
      exact ⟨b, rfl, r⟩
    | succ j =>
      simp only [List.getElem?_cons_succ] at e ⊢
      exact ih e
section
variable {X : Cx} {pins : List (Addr × Obj)} {σ : St} {H : Hp} {s : Shared} {d : Addr} {o : Obj}
end
theorem dict_ep {o : Obj} {es es' : Array DictEntry} {ep ep' : Nat} (h : o.data = .dict es ep) (h' : o.data = .dict es' ep') : es' = es ∧ ep' = ep := by
  rw [h] at h'
  cases h'
  exact ⟨rfl, rfl⟩
section
variable {P : Program} {w : World} {K : PySem.W.Frag} {tg : Expr} {d : Addr} {o : Obj} {es : Array DictEntry} {ep : Nat}
end
section
variable {X : Cx} {tg e : Expr} {td : TE} {apos cpos : Pos}
end
theorem boot_zip5 : bootBuiltins "zip" = some (.type "zip") := by decide +kernel
def Itz (K : PySem.W.Frag) (a b : Addr) : It :=
  ⟨fun i H => ∃ (xs ys : List V) (x y : V), SqL K H a xs ∧ SqL K H b ys ∧ xs[i]? = some x ∧ ys[i]? = some y,
    fun i H v H' => ∃ T x y, v = .ref T ∧ H T = none ∧ H' = upd H T (.tup [x, y]) ∧ (∀ xs, SqL K H a xs → xs[i]? = some x) ∧ ∀ ys, SqL K H b ys → ys[i]? = some y,
    fun i H => ∃ xs ys : List V, SqL K H a xs ∧ SqL K H b ys ∧ (xs.length ≤ i ∨ ys.length ≤ i)⟩
theorem turn_zip {P : Program} {w : World} {K : PySem.W.Frag} {elts : List Expr} {kk : Nat} {tpos : Pos} {a b z TI TO i1 i2 : Addr} (D : ZipApart z TI TO i1 i2 a b) :
    Turn P w K (.Tuple elts kk tpos) (Itz K a b) [z, TI, TO, i1, i2] z (fun i h => IsZip h z TI TO .none ∧ IsPair h TI (.ref i1) (.ref i2) ∧ (∃ x y, IsPair h TO x y) ∧ h.IsListIter i1 a i ∧ h.IsListIter i2 b i) where
  mem := by simp
  obj := fun i h st c hc => by
    obtain ⟨hz, hTI, ⟨x, y, hTO⟩, ⟨o1, e1, _, d1⟩, ⟨o2, e2, _, d2⟩⟩ := st
    have e' : c = z ∨ c = TI ∨ c = TO ∨ c = i1 ∨ c = i2 := by simpa using hc
    rcases e' with q | q | q | q | q
    · rw [q]; exact ⟨_, hz, fun v q => nomatch q⟩
    · rw [q]; exact ⟨_, hTI, fun v q => nomatch q⟩
    · rw [q]; exact ⟨_, hTO, fun v q => nomatch q⟩
    · rw [q]; exact ⟨o1, e1, fun v q => by rw [d1] at q; cases q⟩
    · rw [q]; exact ⟨o2, e2, fun v q => by rw [d2] at q; cases q⟩
  keep := fun i h h' st k => by
    obtain ⟨hz, hTI, ⟨x, y, hTO⟩, h1, h2⟩ := st
    exact ⟨k z (by simp) _ hz, k TI (by simp) _ hTI, ⟨x, y, k TO (by simp) _ hTO⟩, h1.at fun o q => k i1 (by simp) o q, h2.at fun o q => k i2 (by simp) o q⟩
  item := by
    intro X hP hw hK hc i pins s σ H E I hf st hg
    subst hP hw hK
    obtain ⟨hz, hTI, ⟨x0, y0, hTO⟩, h1, h2⟩ := st
    obtain ⟨xs, ys, x, y, hqx, hqy, hx, hy⟩ := hg
    obtain ⟨its, rv, p, _⟩ := I.list hqx
    obtain ⟨its2, rv2, p2, _⟩ := I.list hqy
    obtain ⟨u, hu, ru⟩ := rv.get hx
    obtain ⟨u2, hu2, ru2⟩ := rv2.get hy
    have hzl : z < s.heap.objs.size := Heap.lt_size hz
    refine wpAny_pyNext_zip_item D hz hTI hTO h1 h2 p.isList p2.isList (x := u) (y := u2) (by simpa using hu) (by simpa using hu2) fun h' z' TO' h1' h2' hT hsz hk => ?_
    refine ⟨_, rfl, wpAny_letOwnedTupleGo_zip (s := { s with heap := h' }) z' fun h'' z'' sb => ?_⟩
    have hT2 : h''.get? s.heap.objs.size = some { cls := .type "tuple", data := .seq #[u, u2] } := (sb.2 _ (Nat.ne_of_gt hzl)).trans hT
    have new : ObjOk X.prog X.w (upd H s.heap.objs.size (.tup [x, y])) h'' s.heap.objs.size (.tup [x, y]) :=
      ⟨by show 2 ≤ sizeLine; decide, [u, u2], .cons ru (.cons ru2 .nil), ⟨_, hT2, rfl, _, rfl⟩⟩
    have I1 : Inv X pins σ (upd H s.heap.objs.size (.tup [x, y])) { s with heap := h'' } :=
      I.turnedNew (t' := s.toks) (ch := [z, TI, TO, i1, i2]) (fun c o hb q => (sb.2 c (fun q' => hb (by simp [q']))).trans (hk c o (fun q' => hb (by simp [q'])) (fun q' => hb (by simp [q'])) (fun q' => hb (by simp [q'])) (fun q' => hb (by simp [q'])) q)) hf (Nat.le_refl _) new
    refine ⟨.ref s.heap.objs.size, _, I1, rfl, ⟨_, x, y, rfl, I.hok.fresh (Nat.le_refl _), rfl, fun l hl => by rw [I.list_inj hl hqx]; exact hx, fun l hl => by rw [I.list_inj hl hqy]; exact hy⟩, ⟨z'', ?_, ⟨u, u2, ?_⟩, ?_, ?_⟩, fun c hcm => ?_⟩
    · exact (sb.2 _ D.TIz).trans (hk _ _ D.TIz D.TITO D.TIi1 D.TIi2 hTI)
    · exact (sb.2 _ D.TOz).trans TO'
    · exact h1'.at fun o q => (sb.2 _ D.i1z).trans q
    · exact h2'.at fun o q => (sb.2 _ D.i2z).trans q
    · have hlt : c < s.heap.objs.size := by
        have e' : c = z ∨ c = TI ∨ c = TO ∨ c = i1 ∨ c = i2 := by simpa using hcm
        rcases e' with q | q | q | q | q
        · rw [q]; exact hzl
        · rw [q]; exact Heap.lt_size hTI
        · rw [q]; exact Heap.lt_size hTO
        · rw [q]; obtain ⟨_, e1, _⟩ := h1; exact Heap.lt_size e1
        · rw [q]; obtain ⟨_, e2, _⟩ := h2; exact Heap.lt_size e2
      rw [upd_ne (Nat.ne_of_lt hlt)]
      exact (hf c hcm).1
  done := by
    intro X hP hw hK hc i pins s σ H E I hf st hg
    subst hP hw hK
    obtain ⟨hz, hTI, ⟨x0, y0, hTO⟩, h1, h2⟩ := st
    obtain ⟨xs, ys, hqx, hqy, hend⟩ := hg
    obtain ⟨its, rv, p, _⟩ := I.list hqx
    obtain ⟨its2, rv2, p2, _⟩ := I.list hqy
    have l1 := rv.length
    have l2 := rv2.length
    have he : its.toArray[i]? = none ∨ its2.toArray[i]? = none := by
      rcases hend with q | q
      · exact .inl (by simp; omega)
      · exact .inr (by simp; omega)
    exact wpAny_pyNext_zip_end (I.ok.hd hc) D hz hTI hTO h1 h2 p.isList p2.isList he fun h' hk => ⟨rfl, I.turnedL (t' := s.toks) (ch := [z, TI, TO, i1, i2]) (fun c o hb q =>
      hk c o (fun q' => hb (by simp [q'])) (fun q' => hb (by simp [q'])) (fun q' => hb (by simp [q'])) (fun q' => hb (by simp [q'])) q) hf⟩
  self := fun A i s Q E st h => wpAny_pyIter_zip st.1 h
def iZip (K : PySem.W.Frag) (ta : TA) : TI := fun σ H R => ta σ H fun vs H1 => ∃ a b xs ys, vs = [.ref a, .ref b] ∧ SqL K H1 a xs ∧ SqL K H1 b ys ∧ R (Itz K a b) H1
theorem pi_zip {X : Cx} {e e2 : Expr} {ta : TA} {p pos tpos : Pos} {elts : List Expr} {kk : Nat} (hg : Gl X "zip") (hm : X.mg "zip" = none) (ha : PA X [e, e2] ta)
    (hs : starEach [e, e2] X.env = (false, eval e X.env) :: starEach [e2] X.env := by rfl) (hpl : (backTo pos (starEach [e2] X.env)).any (·.1) = false := by rfl) :
    PI X (.Tuple elts kk tpos) (.Call (.Name "zip" p) [e, e2] [] pos) (iZip X.K ta) := by
  intro pins s σ H R I h
  refine Call_ (ld_blt I hg hm boot_zip5 (PyProof.Rows.callWith_type1 (thn (ha pos pins s σ H _ I h) fun us s1 ⟨vs, H1, I1, r1, q1⟩ => ?_) hs hpl))
  obtain ⟨a, b, xs, ys, ex, hqx, hqy, q⟩ := q1
  subst ex
  cases r1 with
  | cons r rr =>
    cases rr with
    | cons r' rr =>
      cases rr
      cases r
      cases r'
      obtain ⟨its, rv, p1, _⟩ := I1.list hqx
      obtain ⟨its2, rv2, p2, _⟩ := I1.list hqy
      have la : a < s1.heap.objs.size := p1.lt
      have lb : b < s1.heap.objs.size := p2.lt
      refine call_zip_2 p1.isList p2.isList fun h' hz hTI hTO h1 h2 hsz hk => wpAny_pyIter_zip hz ?_
      have I2 : Inv X pins σ H1 { s1 with heap := h' } := I1.kept (t' := s1.toks) hk
      refine ⟨s1.heap.objs.size + 4, [s1.heap.objs.size + 4, s1.heap.objs.size + 2, s1.heap.objs.size + 3, s1.heap.objs.size, s1.heap.objs.size + 1], _, _, H1, rfl, I2, turn_zip (PySem.W.ktu_apart s1.heap.objs.size a b la lb), ⟨hz, hTI, ⟨_, _, hTO⟩, h1, h2⟩, fun c hcm => ?_, q⟩
      have e' : c = s1.heap.objs.size + 4 ∨ c = s1.heap.objs.size + 2 ∨ c = s1.heap.objs.size + 3 ∨ c = s1.heap.objs.size ∨ c = s1.heap.objs.size + 1 := by simpa using hcm
      have hle : s1.heap.objs.size ≤ c := by
        rcases e' with z | z | z | z | z
        · rw [z]; exact Nat.le_add_right _ _
        · rw [z]; exact Nat.le_add_right _ _
        · rw [z]; exact Nat.le_add_right _ _
        · rw [z]; exact Nat.le_refl _
        · rw [z]; exact Nat.le_add_right _ _
      exact I1.fpOk hle (I1.hok.fresh hle)
end L2
section
namespace Bits
open PySem PyProof.Rows
end Bits
end
section
namespace TL
open PySem PySem.Builtin PySem.Builtin.Str PySem.StrLaws
abbrev tl (x : Str) : List Nat := x.cps.toList
def pre (S l : List Nat) : Bool := l.take S.length == S
def par (S : List Nat) : List Nat → List Nat → Option (List Nat × List Nat)
  | _, [] => none
  | acc, c :: r => if pre S (c :: r) = true then some (acc, (c :: r).drop S.length) else par S (acc ++ [c]) r
end TL
end
namespace L2
open PySem PySem.Spec PyProof.Rows
section
variable {X : Cx} {pins : List (Addr × Obj)} {σ : St} {H : Hp} {s : Shared} {Q : VK}
end
section
variable {X : Cx}
end
section
variable {X : Cx} {o e : Expr} {to te : TE}
end
end L2
namespace L2
open PySem PySem.Spec PyProof.Rows
section
variable {X : Cx}
end
end L2
namespace Att
open PySem PySem.W PySem.Calls PyProof.Rows
theorem ints_of_wellAll {P : Params} {h : Heap} : ∀ (ns : List Int) (vs : List Value), WellAll P h vs (ns.map WData.int) → IntsAre vs ns := by
  intro ns
  induction ns with
  | nil =>
    intro vs w
    rw [List.map_nil] at w
    cases w
    exact .nil
  | cons n ns ih =>
    intro vs w
    rw [List.map_cons] at w
    cases w with
    | cons a b =>
      cases a
      exact .cons _ _ (ih _ b)
theorem script_of {l : OpenLaw} {n : Nat} (hn : l.most = some n) {P : Params} {h : Heap} {args : List WData} {vals : List Value}
    (hpre : l.row.toRowW.claim.pre args = true) (hwl : WellAll P h vals args) :
    ∃ a vs ns, vals = [Value.ref a] ∧ args = [WData.list (ns.map WData.int)] ∧ h.get? a = some { cls := .type "list", data := .seq vs.toArray } ∧ IntsAre vs ns ∧ ns.length ≤ n := by
  have hsh : WShape.hasAll [] args [.list .int] = true := (pre_splitW hpre).1
  have hc : l.pre.holds [] { args := args } = true := (pre_splitW hpre).2
  obtain ⟨d, r, rfl, h1, h2⟩ := hasAllW_cons hsh
  obtain rfl := hasAllW_nil h2
  obtain ⟨xs, rfl, h3⟩ := hasW_list h1
  obtain ⟨ns, rfl⟩ := items_int h3
  have hlen : ns.length ≤ n := by
    unfold OpenLaw.pre at hc
    have h4 : (WTm.not (.lt (.lit (.int (n : Int))) (.len (.arg 0)))).holds [] { args := [.list (ns.map .int)] } = true := by
      have h4 := (holds_andW hc).1
      rw [hn] at h4
      exact h4
    have h5 := condW_of h4 (w_not (w_lt w_lit (w_len_list (w_arg rfl))))
    rw [List.length_map] at h5
    refine Nat.le_of_not_lt fun q => ?_
    have q' : (n : Int) < ((ns.length : Nat) : Int) := by omega
    first
      | (rw [decide_eq_true q'] at h5; exact absurd h5 (by decide))
      | (simp at h5; omega)
  cases hwl with
  | cons w1 w2 =>
    cases w2
    cases w1 with
    | list ho hall => exact ⟨_, _, ns, rfl, rfl, ho, ints_of_wellAll ns _ hall, hlen⟩
theorem post_true (l : OpenLaw) (args : List WData) : l.row.toRowW.claim.post args (.bool true) args = true :=
  postW_of (r := l.row.toRowW) (X := (true == true))
    (show WShape.has [] (.bool true) .bool = true by first | rfl | decide | simp [WShape.has, WShape.arms, WShape.armsAll])
    (show (WTm.eq .res (.lit (.bool true))).value [] { args := args, res := some (.bool true), after := args } = some (.bool (true == true)) from w_eq_bool (w_res rfl) w_lit) rfl
theorem attach_call {l : OpenLaw} {n : Nat} {q : Program} {loose : List Str} {XP : (Str → Option Value) → Heap → Prop} {YP : World → Heap → Prop} {d : DefRec}
    (hn : l.most = some n) (hdf : d.params.defaults = [])
    (call : ∀ (w : World) (s₀ s₁ : Shared) (mg mb : Str → Option Value) (fa : Addr) (o : Obj) (pm cd doc : Value) (a : Addr) (vs : List Value) (ns : List Int),
      Ground q loose [] XP w s₀ mg mb s₁.heap → YP w s₁.heap →
      s₁.heap.get? fa = some o → o.data = .func (docDef d.name d.params d.body d.scope pm cd doc) → s₁.heap.CodeRec cd d.name → mg d.name = some (.ref fa) →
      s₁.heap.get? a = some { cls := .type "list", data := .seq vs.toArray } → IntsAre vs ns → ns.length ≤ n → s₁.gens = #[] →
      codeAny (model l.prog w) callerA (.call (.ref fa) ⟨[.ref a], []⟩) (fun r s' => r = .ok (.ret (.bool true)) ∧ OldK s₁.heap s'.heap ∧ s'.os = s₁.os ∧ AllBare s'.gens) s₁) :
    WalkO q loose XP YP l.row.toRowW d [] (fun f vs => PySem.call f vs) := by
  intro w s₀ s₁ mg mb G Y fa o pm cd doc dV kV ho hd hcd hD hmg hg args vals as hpre hlay hrd hwl hlo
  obtain rfl : dV = .none := Dflts.none hD hdf
  obtain rfl : kV = .none := Dflts.noKw hD
  obtain ⟨a, vs, ns, rfl, rfl, hobj, hints, hlen⟩ := script_of hn hpre hwl
  refine enter_call (codeAny_mono (call w s₀ s₁ mg mb fa o pm cd doc a vs ns G Y ho (fd_plain hd) hcd hmg hobj hints hlen hg) fun r s' hq => ?_)
  obtain ⟨rfl, h2, h3, h4⟩ := hq
  exact ⟨.inl ⟨.bool true, .bool true, [], rfl, fun _ => rfl, .bool true, post_true l _, fun _ => ⟨List.Pairwise.nil, fun _ hm => (nomatch hm)⟩⟩, h2, h3, h4⟩
section
variable {prog : Program} {w : World} {A : Around} {E : Value → Shared → Prop} {s : Shared} {K : Frag}
end
end Att
namespace L2
open PySem PySem.Spec PyProof.Rows
theorem vals_ints : ∀ {vs : List Value} {ns : List Int}, IntsAre vs ns → Vals (ns.map V.int) vs
  | _, _, .nil => .nil
  | _, _, .cons n t h => .cons ⟨t, rfl⟩ (vals_ints h)
def Only (H : Hp) : Prop := ∀ b, H b = none ∨ ∃ o xs, H b = some (.frz o (.lst xs))
theorem law_call {P : Program} {w : World} {K : PySem.W.Frag} {mg mb : Str → Option Value} {CX : CXT} {k : Nat} {fa a : Addr} {fd : FuncData} {x : Str} {sp : Sp} {s₁ : Shared} {vs : List Value} {ns : List Int}
    (KX : K.In s₁.heap) (hns : s₁.heap.Ns mainGlobals mg) (hb : s₁.heap.Ns builtinsNs mb) (hbb : ∀ x : Str, x ≠ "__name__" → mb x = bootBuiltins x) (hlim : s₁.heap.NoLimit) (hg : s₁.gens = #[])
    (ha : s₁.heap.get? a = some { cls := .type "list", data := .seq vs.toArray }) (hi : IntsAre vs ns) (hl : ns.length ≤ sizeLine) (hr : Room k callerA)
    (F : ∀ base : Heap, K.In base → base.Ns mainGlobals mg → FnOk P w K mg base CX k fa fd [x] sp) (hbind : ∀ (s : Shared) (u : Value), BindsTo s fd ⟨[u], []⟩ [(x, u)])
    (hsp : ∀ H : Hp, Only H → SqL K H a (ns.map V.int) → sp [.ref a] H (fun v _ => v = .bl true) fun _ _ _ => False)
    (hCX : ∀ H e s', CX [] H s₁ (fun _ _ _ => False) e s' → False) :
    codeAny (model P w) callerA (.call (.ref fa) ⟨[.ref a], []⟩) (fun r s' => r = .ok (.ret (.bool true)) ∧ OldK s₁.heap s'.heap ∧ s'.os = s₁.os ∧ AllBare s'.gens) s₁ := by
  have rv := vals_ints hi
  have lenV := hi.length
  -- from an abstract heap in which nothing but the script may be tracked
  have core : ∀ H : Hp, Only H → SqL K H a (ns.map V.int) → HOk P w H s₁.heap → (∀ b, H b ≠ none → b = a) → (H a ≠ none → K.lookup a = none) →
      codeAny (model P w) callerA (.call (.ref fa) ⟨[.ref a], []⟩) (fun r s' => r = .ok (.ret (.bool true)) ∧ OldK s₁.heap s'.heap ∧ s'.os = s₁.os ∧ AllBare s'.gens) s₁ := by
    intro H hO hS hok hA hK
    have base_of : ∀ {b : Addr} {o : Obj}, s₁.heap.get? b = some o → H b = none → (hidT s₁.heap H).get? b = some o := fun e n => hidT_get e n
    have noA : ∀ {b : Addr} {o : Obj} {es : Array DictEntry} {ep : Nat}, s₁.heap.get? b = some o → o.data = .dict es ep → H b = none := fun {b o es ep} e d => by
      cases q : H b with
      | none => rfl
      | some u =>
        have e' : b = a := hA b (by rw [q]; simp)
        subst e'
        rw [ha] at e; cases e
        have d' : Data.seq vs.toArray _ = Data.dict es ep := d
        cases d'
    have nsK : ∀ {b : Addr} {m : Str → Option Value}, s₁.heap.Ns b m → (hidT s₁.heap H).Ns b m := fun {b m} ⟨o, es, ep, e, d, r⟩ => ⟨o, es, ep, base_of e (noA e d), d, r⟩
    have hKb : K.In (hidT s₁.heap H) := fun b o e => base_of (KX b o e) (by
      cases q : H b with
      | none => rfl
      | some u =>
        have e' : b = a := hA b (by rw [q]; simp)
        subst e'
        rw [hK (by rw [q]; simp)] at e; cases e)
    have hM : Mod K mg (hidT s₁.heap H) := ⟨hKb, nsK hns, ⟨mb, nsK hb, hbb⟩, let ⟨mc, h1, h2⟩ := hlim; ⟨mc, nsK h1, h2⟩⟩
    have e0 : Env0 P w K mg (hidT s₁.heap H) callerA [] s₁ H := ⟨rfl, hM, fun b o e => of_hidT e, Nat.le_of_eq (hidT_size _ _), trivial, fun b hb => absurd (show b ∈ ([] : List Addr) from hb) (by simp), hok, .of_eq hg⟩
    refine codeAny_mono ((F _ hKb (nsK hns)).run callerA [] s₁ H ⟨[.ref a], []⟩ [.ref a] [.ref a] _ _ hr e0 (hbind s₁ (.ref a)) (.cons rfl .nil) (hsp H hO hS)) fun r s' h => ?_
    cases r with
    | error e => exact (hCX H e s' h).elim
    | ok fl =>
      cases fl with
      | next => exact False.elim h
      | brk => exact False.elim h
      | cont => exact False.elim h
      | ret u =>
        obtain ⟨v, H', os, bare, un, hok', r', q⟩ := h
        have q' : v = .bl true := q
        subst q'
        obtain rfl : u = Value.bool true := r'
        refine ⟨rfl, OldK.of_keep fun b o e => ?_, os, bare⟩
        cases q : H b with
        | none => exact un.keep b o e q (by intro z; exact absurd (show b ∈ ([] : List Addr) from z) (by simp)) (by simp)
        | some u =>
          rcases hO b with z | ⟨ob, xs, z⟩
          · rw [q] at z; cases z
          · have z2 := un.frzs b ob _ z
            obtain ⟨e1, _⟩ := hok b _ z
            obtain ⟨e2, _⟩ := hok' b _ z2
            rw [e] at e1; cases e1
            exact e2
  cases hk : K.lookup a with
  | some o =>
    -- the script is one of the module's own objects
    have e := KX a o hk
    rw [ha] at e
    cases e
    refine core (fun _ => none) (fun _ => .inl rfl) (.inr ⟨_, vs.toArray, _, hk, rfl, rfl, rfl, by rw [List.size_toArray, lenV]; exact hl, by simpa using rv⟩) (fun b u z => by have z' : (none : Option HO) = some u := z; cases z') (fun b z => absurd rfl z) fun z => absurd rfl z
  | none =>
    refine core (fun b => if b = a then some (.frz { cls := .type "list", data := .seq vs.toArray } (.lst (ns.map V.int))) else none) (fun b => ?_) (.inl (.inr ⟨{ cls := .type "list", data := .seq vs.toArray }, if_pos rfl⟩)) (fun b u z => ?_) (fun b z => ?_) fun _ => hk
    · by_cases hb : b = a
      · exact .inr ⟨_, _, if_pos hb⟩
      · exact .inl (if_neg hb)
    · by_cases hb : b = a
      · have z' := (if_pos hb).symm.trans z
        cases z'
        subst hb
        exact ⟨ha, by rw [List.length_map]; exact hl, vs, _, rv, ha⟩
      · have z' := (if_neg hb).symm.trans z
        cases z'
    · by_cases hb : b = a
      · exact hb
      · exact absurd (if_neg hb) z
end L2
namespace L2
open PySem PySem.Spec PyProof.Rows
abbrev KOf {K : PySem.W.Frag} {h : Heap} (_ : K.In h) : PySem.W.Frag := K
theorem walk_of {l : PySem.W.OpenLaw} {n k : Nat} {q : Program} {loose : List Str} {XP : (Str → Option Value) → Heap → Prop} {YP : World → Heap → Prop} {d : DefRec} {K : Params → PySem.W.Frag} {CX : World → CXT} {sp : World → Sp} {x : Str}
    (hn : l.most = some n) (hn2 : n ≤ sizeLine) (hdf : d.params.defaults = []) (hr : Room k callerA)
    (hY : ∀ (w : World) (h : Heap), YP w h → (K w.params).In h)
    (F : ∀ (w : World) (mg : Str → Option Value) (fa : Addr) (h : Heap), (K w.params).In h → h.Ns mainGlobals mg → mg d.name = some (.ref fa) →
      ∃ fd : FuncData, (∀ (s : Shared) (u : Value), BindsTo s fd ⟨[u], []⟩ [(x, u)]) ∧
        ∀ base : Heap, (K w.params).In base → base.Ns mainGlobals mg → FnOk l.prog w (K w.params) mg base (CX w) k fa fd [x] (sp w))
    (hsp : ∀ (w : World) (H : Hp) (a : Addr) (ns : List Int), ns.length ≤ n → Only H → SqL (K w.params) H a (ns.map V.int) → sp w [.ref a] H (fun v _ => v = .bl true) fun _ _ _ => False)
    (hCX : ∀ (w : World) (H : Hp) (s : Shared) (e : Value) (s' : Shared), CX w [] H s (fun _ _ _ => False) e s' → False) :
    PySem.W.WalkO q loose XP YP l.row.toRowW d [] (fun f vs => PySem.call f vs) := by
  refine Att.attach_call hn hdf fun w s₀ s₁ mg mb fa o pm cd doc a vs ns G Y ho hd hcd hmg hobj hints hlen hg => ?_
  have KX := hY w _ Y
  obtain ⟨fd, hb, hF⟩ := F w mg fa _ KX G.T.g hmg
  exact law_call KX G.T.g G.T.b G.T.builtins G.T.nolimit hg hobj hints (Nat.le_trans hlen hn2) hr hF hb (fun H hO hS => hsp w H a ns hlen hO hS) fun H e s' => hCX w H s₁ e s'
end L2

/- THE LAST THEOREM (shape; LID, My.* are yours):
   My.Adr: a structure of the addresses that your layer names (classes, functions); My.Txt K t: a structure (Prop) of the equations over K;
   My.txt_mk : {K} {implicit addresses ..} (e1 : nsIn K mainGlobals "law" = some (some (.ref f))) (e2 : K.lookup f = some ⟨oc, od, .func (fnOf "law" "law" params body scope dV kV doc pm an cdv ct), sl⟩) (e3 : codeIn K cdv "law" = true) .. : ∃ t, My.Txt K t

set_option maxRecDepth 100000 in
set_option maxHeartbeats 0 in
theorem PySem.Challenge.cw_LID_holds : PySem.Challenge.rw_LID.Holds := by
  w_on; o_law; k_head; (case hw => w_witness2)
  k_fill
  refine L2.walk_of (l := PySem.Challenge.rw_LID) (n := 63) (k := 40) (x := "script") (CX := fun w => ..) (sp := fun _ => My.sp_law) rfl (by decide) rfl ⟨rfl, by decide, by decide⟩ (fun w h Y => PySem.W.kIn_of Y) ?F ?S ?C
  case F =>
    intro w mg fa h KX G hmg
    have T : ∃ t, My.Txt (L2.KOf KX) t := by
      dsimp only [L2.KOf]                          -- K must stand as «<heap const> w.params» for k_is
      refine' My.txt_mk ?e1 ?e2 ?e3 ..
      (case e1 => PySem.W.k_is)                    -- in the order: a name -> its address -> its object -> its parts
      (case e2 => PySem.W.k_is)
      ..
    obtain ⟨t, T⟩ := T
    have e0 := hmg.symm.trans (PySem.W.mg_of KX G T.law)
    cases e0                                       -- fa is the law's own address
    exact ⟨_, fun s u => .of_eq rfl, fun base kb nb => My.law_fn T kb nb⟩     -- if «.of_eq rfl» comes too early: refine' ⟨_, ?b, fun base kb nb => My.law_fn T kb nb⟩; exact fun s u => .of_eq rfl
  case S => exact fun w H a ns hl hO hS => ..
  case C => exact ..
(the tactic k_is has no namespace: write k_is) -/
namespace L2
open PySem PySem.Spec PyProof.Rows
def inClass (s : Stmt) (j : Nat) : Stmt := match s with
  | .ClassDef _ _ _ body _ _ _ _ _ _ _ => body.getD j (.Pass ⟨0, 0, 0, 0⟩)
  | _ => .Pass ⟨0, 0, 0, 0⟩
def defArgs (s : Stmt) : Arguments := match s with
  | .FunctionDef _ a _ _ _ _ _ _ _ _ => a
  | _ => { posonlyargs := [], args := [], vararg := none, kwonlyargs := [], kw_defaults := [], kwarg := none, defaults := [] }
def defBody (s : Stmt) : List Stmt := match s with
  | .FunctionDef _ _ b _ _ _ _ _ _ _ => b
  | _ => []
def defScope (s : Stmt) : Scope := match s with
  | .FunctionDef _ _ _ _ _ _ sc _ _ _ => sc
  | _ => { kind := .function, names := [], isGenerator := false, isCoroutine := false }
abbrev CX0 : CXT := fun _ _ _ _ _ _ => False
abbrev E0 : XK := fun _ _ _ => False
theorem pass0 {X : Cx} : Passes CX0 X E0 := fun _ _ _ _ _ _ _ h => h.elim
structure Fun (K : PySem.W.Frag) (x qual : Str) (st : Stmt) (f : Addr) (fd : FuncData) : Prop where
  ex : ∃ (oc : Value) (od : Option Addr) (kV doc pm : Value) (an : Option Addr) (cdv ct : Value) (osl : Array (Option Value)),
    fd = PySem.W.fnOf x qual (defArgs st) (defBody st) (defScope st) .none kV doc pm an cdv ct ∧ K.lookup f = some ⟨oc, od, .func fd, osl⟩ ∧ PySem.W.codeIn K cdv qual = true
  kp : PySem.W.keepIn K (.ref f) = true
section
variable {P : Program} {w : World} {K : PySem.W.Frag} {mg : Str → Option Value} {base : Heap}
theorem Fun.ok {x qual : Str} {st : Stmt} {f : Addr} {fd : FuncData} {N ps : List Str} {k : Nat} {sp : Sp} (F : Fun K x qual st f fd) (S : FnScope N ps (defScope st)) (len : ∀ vs H Q E, sp vs H Q E → vs.length = ps.length)
    (hbody : ∀ (cdv : Value) (A : Around) (outer : List Env) (s : Shared) (H : Hp) (vs : List V) (Q : VK) (E : XK), Room k (A.deeper (envOfC qual (defScope st) s.heap.objs.size f cdv)) → sp vs H Q E →
      ∃ t, PSs (cxOf CX0 P w K mg base N qual (defScope st) f cdv A outer s H E).nox (defBody st) t ∧ t { nx := fun _ H' => Q .non H', rt := Q } (start N vs) H) : FnOk P w K mg base CX0 (k + 1) f fd ps sp := by
  obtain ⟨oc, od, kV, doc, pm, an, cdv, ct, osl, rfl, lk, hcd⟩ := F.ex
  refine fn_of lk hcd S len fun A outer s H vs Q E hr hsp => ?_
  obtain ⟨t, h, q⟩ := hbody cdv A outer s H vs Q E hr hsp
  exact ⟨t, h.nox, q⟩
theorem Fun.binds {x qual : Str} {st : Stmt} {f : Addr} {fd : FuncData} {ps : List Str} (F : Fun K x qual st f fd)
    (h : ∀ (kV doc pm : Value) (an : Option Addr) (cdv ct : Value) (us : List Value), us.length = ps.length → bindArgs (PySem.W.fnOf x qual (defArgs st) (defBody st) (defScope st) .none kV doc pm an cdv ct) ⟨us, []⟩ = pure (ps.zip us)) : Binds K fd ps [] := by
  obtain ⟨oc, od, kV, doc, pm, an, cdv, ct, osl, rfl, lk, hcd⟩ := F.ex
  exact .all (h kV doc pm an cdv ct)
theorem fun_mk {x qual : Str} {st : Stmt} {f : Addr} {oc : Value} {od an : Option Addr} {osl : Array (Option Value)} {kV doc pm cdv ct : Value} (l : K.lookup f = some ⟨oc, od, .func (PySem.W.fnOf x qual (defArgs st) (defBody st) (defScope st) .none kV doc pm an cdv ct), osl⟩)
    (c : PySem.W.codeIn K cdv qual = true) (k : PySem.W.keepIn K (.ref f) = true) : Fun K x qual st f (PySem.W.fnOf x qual (defArgs st) (defBody st) (defScope st) .none kV doc pm an cdv ct) := ⟨⟨oc, od, kV, doc, pm, an, cdv, ct, osl, rfl, l, c⟩, k⟩
end
theorem hu_of {A : Around} {k : Nat} (hr : Room k A) : A.units + 1 < cLine := Nat.lt_of_le_of_lt (Nat.add_le_add_left (by decide : 1 ≤ 64) _) hr.units
section
variable {X : Cx}
theorem pv (i : Nat) {x : Str} {pos : Pos} (hN : X.N[i]? = some x := by rfl) (hv : Vis X.env.scope x := by first | exact Or.inl rfl | exact Or.inr (Or.inl rfl) | exact Or.inr (Or.inr rfl)) (hd : (x == ("__debug__" : Str)) = false := by decide)
    (hcd : (x == ("__classdict__" : Str)) = false := by decide) : PE X (.Name x pos) (tVar i) := pe_var hN hv hd hcd
end
theorem iteF {A B : Prop} (h : B) : if false = true then A else B := by
  rw [if_neg Bool.false_ne_true]
  exact h
theorem iteT {A B : Prop} (h : A) : if true = true then A else B := by
  rw [if_pos rfl]
  exact h
theorem ite2 {c A B : Prop} [Decidable c] (h1 : c → A) (h2 : ¬ c → B) : if c then A else B := by
  by_cases h : c
  · rw [if_pos h]
    exact h1 h
  · rw [if_neg h]
    exact h2 h
def Same (H H' : Hp) : Prop := ∀ b o, H b = some o → H' b = some o
theorem Same.refl (H : Hp) : Same H H := fun _ _ h => h
theorem Same.trans {H H1 H2 : Hp} (a : Same H H1) (b : Same H1 H2) : Same H H2 := fun c o h => b c o (a c o h)
theorem Same.free {H H' : Hp} (e : Same H H') {l : Addr} (h : H' l = Option.none) : H l = Option.none := by
  cases q : H l with
  | none => rfl
  | some o =>
    rw [e l o q] at h
    cases h
theorem Same.seq {K : PySem.W.Frag} {H H' : Hp} {a : Addr} {xs : List V} (e : Same H H') (h : SqL K H a xs) : SqL K H' a xs := by
  rcases h with (h | ⟨o, h⟩) | h
  · exact .inl (.inl (e _ _ h))
  · exact .inl (.inr ⟨o, e _ _ h⟩)
  · exact .inr h
section
variable {κ : Type} [DecidableEq κ]
end
theorem nd_ix {α : Type} {l : List α} (hN : l.Nodup) {i j : Nat} {x : α} (a : l[i]? = some x) (b : l[j]? = some x) : i = j := by
  obtain ⟨h1, e1⟩ := List.getElem?_eq_some_iff.mp a
  obtain ⟨h2, e2⟩ := List.getElem?_eq_some_iff.mp b
  exact (List.getElem_inj hN).mp (e1.trans e2.symm)
theorem Same.made {H H1 : Hp} {x dx C : Addr} (nx : H x = Option.none) (nd : H dx = Option.none) (k : ∀ b o, (upd (upd H dx (.own x)) x (.ins C dx [])) b = some o → b ≠ x → H1 b = some o) : Same H H1 := fun b o e =>
  k b o (by rw [upd_ne (ne_of_none e nx), upd_ne (ne_of_none e nd)]; exact e) (ne_of_none e nx)
end L2
section
set_option Elab.async false
set_option linter.all false
set_option maxRecDepth 100000
set_option maxHeartbeats 2000000
namespace L2
open PySem PySem.Spec PyProof.Rows
open PySem.W (WData Codec OpenSpec Well WellAll ReadsW ReadsAllW)
mutual
inductive Dw (K : PySem.W.Frag) (H : Hp) : V → WData → Prop
  | non : Dw K H .non .none
  | bl (b : Bool) : Dw K H (.bl b) (.bool b)
  | int (i : Int) : Dw K H (.int i) (.int i)
  | str (x : Str) : Dw K H (.str x) (.str x)
  | byt (b : Array UInt8) : Dw K H (.byt b) (.bytes b.toList)
  | lst {a : Addr} {xs : List V} {ds : List WData} : SqL K H a xs → DwAll K H xs ds → Dw K H (.ref a) (.list ds)
  | tup {a : Addr} {xs : List V} {ds : List WData} : SqT K H a xs → DwAll K H xs ds → Dw K H (.ref a) (.tuple ds)
inductive DwAll (K : PySem.W.Frag) (H : Hp) : List V → List WData → Prop
  | nil : DwAll K H [] []
  | cons {v : V} {vs : List V} {d : WData} {ds : List WData} : Dw K H v d → DwAll K H vs ds → DwAll K H (v :: vs) (d :: ds)
end
theorem dw_ints {K : PySem.W.Frag} {H : Hp} : ∀ ns : List Int, DwAll K H (ns.map V.int) (ns.map WData.int)
  | [] => .nil
  | n :: r => .cons (.int n) (dw_ints r)
theorem ints_dw {K : PySem.W.Frag} {H : Hp} : ∀ (ns : List Int) (xs : List V), DwAll K H xs (ns.map WData.int) → xs = ns.map V.int
  | [], xs, h => by
    cases h
    rfl
  | n :: r, xs, h => by
    cases h with
    | cons h1 h2 =>
      cases h1
      rw [ints_dw r _ h2] <;> rfl
section
variable {P : Program} {w : World} {K : PySem.W.Frag} {H : Hp} {h : Heap} {R : PySem.W.WRecords} {cl : Str → Option Addr}
theorem sqL_at {a : Addr} {xs : List V} (hok : HOk P w H h) (KX : K.In h) (q : SqL K H a xs) : ∃ (its : List Value) (o : Obj) (n : Nat), Vals xs its ∧ h.get? a = some o ∧ o.cls = .type "list" ∧ o.data = .seq its.toArray n := by
  rcases q with q | ⟨o, its, n, e, hc, _, hd, _, hv⟩
  · obtain ⟨_, its, n, hv, e⟩ := (show ObjOk P w H h a (.lst xs) from q.ok hok)
    exact ⟨its, _, n, hv, e, rfl, rfl⟩
  · exact ⟨its.toList, o, n, hv, KX _ _ e, hc, by simp [hd]⟩
theorem sqT_at {a : Addr} {xs : List V} (hok : HOk P w H h) (KX : K.In h) (q : SqT K H a xs) : ∃ (its : List Value) (o : Obj) (n : Nat), Vals xs its ∧ h.get? a = some o ∧ o.cls = .type "tuple" ∧ o.data = .seq its.toArray n := by
  rcases q with q | ⟨o, its, n, e, hc, hd, _, hv⟩
  · obtain ⟨_, its, hv, o, e, hc, n, hd⟩ := (show ObjOk P w H h a (.tup xs) from q.ok hok)
    exact ⟨its, o, n, hv, e, hc, hd⟩
  · exact ⟨its.toList, o, n, hv, KX _ _ e, hc, by simp [hd]⟩
mutual
theorem Dw.reads (hok : HOk P w H h) (KX : K.In h) : ∀ (d : WData) (v : V) (u : Value), Dw K H v d → RelV v u → ∃ as, ReadsW R cl h u d as
  | .none, _, _, x, r => by
    cases x
    cases r
    exact ⟨_, ReadsW.none⟩
  | .bool b, _, _, x, r => by
    cases x
    cases r
    exact ⟨_, ReadsW.bool b⟩
  | .int i, _, _, x, r => by
    cases x
    obtain ⟨t, rfl⟩ := r
    exact ⟨_, ReadsW.int i t⟩
  | .str s, _, _, x, r => by
    cases x
    obtain ⟨t, rfl⟩ := r
    exact ⟨_, ReadsW.str s t⟩
  | .bytes b, _, _, x, r => by
    cases x
    obtain ⟨t, rfl⟩ := r
    exact ⟨_, ReadsW.bytes _ t⟩
  | .list ds, _, _, x, r => by
    cases x with
    | lst hs ha =>
      cases r
      obtain ⟨its, o, n, rv, ho, hc, hd⟩ := sqL_at hok KX hs
      obtain ⟨as, hr⟩ := Dw.readsAll hok KX ds _ its ha rv
      exact ⟨_, ReadsW.list ho hc hd hr⟩
  | .tuple ds, _, _, x, r => by
    cases x with
    | tup hs ha =>
      cases r
      obtain ⟨its, o, n, rv, ho, hc, hd⟩ := sqT_at hok KX hs
      obtain ⟨as, hr⟩ := Dw.readsAll hok KX ds _ its ha rv
      exact ⟨_, ReadsW.tuple ho hc hd hr⟩
  | .float _, _, _, x, _ => by cases x
  | .dict _, _, _, x, _ => by cases x
  | .bytearray _, _, _, x, _ => by cases x
  | .set _, _, _, x, _ => by cases x
  | .frozenset _, _, _, x, _ => by cases x
  | .obj _ _, _, _, x, _ => by cases x
theorem Dw.readsAll (hok : HOk P w H h) (KX : K.In h) : ∀ (ds : List WData) (vs : List V) (us : List Value), DwAll K H vs ds → Vals vs us → ∃ as, ReadsAllW R cl h us ds as
  | [], _, _, x, r => by
    cases x
    cases r
    exact ⟨_, ReadsAllW.nil⟩
  | d :: ds, _, _, x, r => by
    cases x with
    | cons h1 h2 =>
      cases r with
      | cons r1 r2 =>
        obtain ⟨as, q1⟩ := Dw.reads hok KX d _ _ h1 r1
        obtain ⟨bs, q2⟩ := Dw.readsAll hok KX ds _ _ h2 r2
        exact ⟨_, ReadsAllW.cons q1 q2⟩
end
end
mutual
def plW : WData → Bool
  | .none => true
  | .bool _ => true
  | .int _ => true
  | .str _ => true
  | .bytes _ => true
  | .list xs => plWs xs
  | .tuple xs => plWs xs
  | _ => false
def plWs : List WData → Bool
  | [] => true
  | x :: r => plW x && plWs r
end
theorem plWs_map {α : Type} {f : α → WData} (h : ∀ a, plW (f a) = true) : ∀ l : List α, plWs (l.map f) = true
  | [] => rfl
  | x :: r => by
    show (plW (f x) && plWs (r.map f)) = true
    rw [h x, plWs_map h r] <;> rfl
theorem pl_enc : ∀ (c : Codec) (a : c.denote), plW (c.enc a) = true
  | .unit, _ => rfl
  | .bool, _ => rfl
  | .int _ _, _ => rfl
  | .nat _ _, _ => rfl
  | .u8, _ => rfl
  | .bytes _ _, _ => rfl
  | .text _ _ _ _, _ => rfl
  | .list _ _ c, a => plWs_map (fun x => pl_enc c x) a
  | .pair c d, a => by
    show (plW (c.enc a.1) && (plW (d.enc a.2) && true)) = true
    rw [pl_enc c a.1, pl_enc d a.2] <;> rfl
  | .triple c d e, a => by
    show (plW (c.enc a.1) && (plW (d.enc a.2.1) && (plW (e.enc a.2.2) && true))) = true
    rw [pl_enc c a.1, pl_enc d a.2.1, pl_enc e a.2.2] <;> rfl
  | .option c, none => rfl
  | .option c, some x => pl_enc c x
theorem pl_encAll : ∀ (cs : List Codec) (a : Codec.denoteAll cs), plWs (Codec.encAll cs a) = true
  | [], _ => rfl
  | c :: cs, a => by
    show (plW (c.enc a.1) && plWs (Codec.encAll cs a.2)) = true
    rw [pl_enc c a.1, pl_encAll cs a.2] <;> rfl
theorem weight_mem : ∀ {xs : List WData} {d : WData}, d ∈ xs → d.weight ≤ WData.weightAll xs
  | [], d, h => absurd h (by simp)
  | x :: r, d, h => by
    show d.weight ≤ x.weight + 1 + WData.weightAll r
    rcases List.mem_cons.mp h with e | m
    · rw [e]
      omega
    · have z := weight_mem m
      omega
def toV : Value → V
  | .none => .non
  | .bool b => .bl b
  | .int i _ => .int i
  | .str x _ => .str x
  | .bytes b _ => .byt b
  | .ref a => .ref a
  | _ => .non
def OkU (A : List Addr) : Value → Prop
  | .none => True
  | .bool _ => True
  | .int _ _ => True
  | .str _ _ => True
  | .bytes _ _ => True
  | .ref a => a ∈ A
  | _ => False
theorem OkU.mono {A B : List Addr} (h : ∀ a ∈ A, a ∈ B) : ∀ {u : Value}, OkU A u → OkU B u := fun {u} x => by
  cases u with
  | ref a => exact h a x
  | none => trivial
  | bool b => trivial
  | int i t => trivial
  | str s t => trivial
  | bytes b t => trivial
  | _ => exact False.elim x
theorem relV_toV {A : List Addr} {u : Value} (x : OkU A u) : RelV (toV u) u := by
  cases u with
  | ref a => rfl
  | none => rfl
  | bool b => rfl
  | int i t => exact ⟨t, rfl⟩
  | str s t => exact ⟨t, rfl⟩
  | bytes b t => exact ⟨t, rfl⟩
  | _ => exact False.elim x
theorem vals_toV {A : List Addr} : ∀ {vs : List Value}, (∀ u ∈ vs, OkU A u) → Vals (vs.map toV) vs
  | [], _ => .nil
  | u :: r, h => .cons (relV_toV (h u (List.mem_cons_self ..))) (vals_toV fun x hx => h x (List.mem_cons_of_mem _ hx))
def ArgOb (h : Heap) (A : List Addr) (a : Addr) : Prop := ∃ vs : List Value, vs.length ≤ sizeLine ∧ (∀ u ∈ vs, OkU A u) ∧
  (h.get? a = some { cls := .type "list", data := .seq vs.toArray } ∨ h.get? a = some { cls := .type "tuple", data := .seq vs.toArray })
theorem ArgOb.mono {h : Heap} {A B : List Addr} {a : Addr} (k : ∀ a ∈ A, a ∈ B) (x : ArgOb h A a) : ArgOb h B a := by
  obtain ⟨vs, h1, h2, h3⟩ := x
  exact ⟨vs, h1, fun u hu => (h2 u hu).mono k, h3⟩
theorem wellAll_len {P : Params} {h : Heap} : ∀ {vs : List Value} {ds : List WData}, WellAll P h vs ds → vs.length = ds.length
  | _, _, .nil => rfl
  | _, _, .cons _ b => by
    show _ + 1 = _ + 1
    rw [wellAll_len b]
theorem well_list {P : Params} {h : Heap} {v : Value} {ds : List WData} (x : Well P h v (.list ds)) : ∃ (a : Addr) (vs : List Value), v = .ref a ∧ h.get? a = some { cls := .type "list", data := .seq vs.toArray } ∧ WellAll P h vs ds := by
  cases x with
  | list ho hall => exact ⟨_, _, rfl, ho, hall⟩
theorem well_tuple {P : Params} {h : Heap} {v : Value} {ds : List WData} (x : Well P h v (.tuple ds)) : ∃ (a : Addr) (vs : List Value), v = .ref a ∧ h.get? a = some { cls := .type "tuple", data := .seq vs.toArray } ∧ WellAll P h vs ds := by
  cases x with
  | tuple ho hall => exact ⟨_, _, rfl, ho, hall⟩
theorem well_cons {P : Params} {h : Heap} {us : List Value} {d : WData} {ds : List WData} (x : WellAll P h us (d :: ds)) : ∃ (v : Value) (vs : List Value), us = v :: vs ∧ Well P h v d ∧ WellAll P h vs ds := by
  cases x with
  | cons a b => exact ⟨_, _, rfl, a, b⟩
theorem line_of {n : Nat} (h : n ≤ 1048576) : n ≤ sizeLine := Nat.le_trans h (by decide)
section
variable {P : Params} {h : Heap}
mutual
theorem area_one : ∀ (d : WData) (v : Value), Well P h v d → plW d = true → d.weight ≤ 1048576 → ∃ A : List Addr, OkU A v ∧ ∀ a ∈ A, ArgOb h A a
  | .none, _, x, _, _ => by
    cases x
    exact ⟨[], trivial, fun a m => absurd m (by simp)⟩
  | .bool b, _, x, _, _ => by
    cases x
    exact ⟨[], trivial, fun a m => absurd m (by simp)⟩
  | .int i, _, x, _, _ => by
    cases x
    exact ⟨[], trivial, fun a m => absurd m (by simp)⟩
  | .str s, _, x, _, _ => by
    cases x
    exact ⟨[], trivial, fun a m => absurd m (by simp)⟩
  | .bytes b, _, x, _, _ => by
    cases x
    exact ⟨[], trivial, fun a m => absurd m (by simp)⟩
  | .list ds, _, x, p, z => by
    obtain ⟨a, vs, rfl, ho, hall⟩ := well_list x
    have z2 : WData.weightAll ds ≤ 1048576 := z
    obtain ⟨A, h1, h2⟩ := area_all ds _ hall p fun d hd => Nat.le_trans (weight_mem hd) z2
    have k : ∀ b ∈ A, b ∈ a :: A := fun b hb => List.mem_cons_of_mem _ hb
    refine ⟨a :: A, List.mem_cons_self .., fun b hb => ?_⟩
    rcases List.mem_cons.mp hb with e | m
    · rw [e]
      exact ⟨vs, line_of (by rw [wellAll_len hall]; exact Nat.le_trans (PySem.W.length_le_weightAllW ds) z2), fun u hu => (h1 u hu).mono k, .inl ho⟩
    · exact (h2 b m).mono k
  | .tuple ds, _, x, p, z => by
    obtain ⟨a, vs, rfl, ho, hall⟩ := well_tuple x
    have z2 : WData.weightAll ds ≤ 1048576 := z
    obtain ⟨A, h1, h2⟩ := area_all ds _ hall p fun d hd => Nat.le_trans (weight_mem hd) z2
    have k : ∀ b ∈ A, b ∈ a :: A := fun b hb => List.mem_cons_of_mem _ hb
    refine ⟨a :: A, List.mem_cons_self .., fun b hb => ?_⟩
    rcases List.mem_cons.mp hb with e | m
    · rw [e]
      exact ⟨vs, line_of (by rw [wellAll_len hall]; exact Nat.le_trans (PySem.W.length_le_weightAllW ds) z2), fun u hu => (h1 u hu).mono k, .inr ho⟩
    · exact (h2 b m).mono k
  | .float _, _, _, p, _ => Bool.noConfusion (show false = true from p)
  | .dict _, _, _, p, _ => Bool.noConfusion (show false = true from p)
  | .bytearray _, _, _, p, _ => Bool.noConfusion (show false = true from p)
  | .set _, _, _, p, _ => Bool.noConfusion (show false = true from p)
  | .frozenset _, _, _, p, _ => Bool.noConfusion (show false = true from p)
  | .obj _ _, _, _, p, _ => Bool.noConfusion (show false = true from p)
theorem area_all : ∀ (ds : List WData) (vs : List Value), WellAll P h vs ds → plWs ds = true → (∀ d ∈ ds, d.weight ≤ 1048576) → ∃ A : List Addr, (∀ u ∈ vs, OkU A u) ∧ ∀ a ∈ A, ArgOb h A a
  | [], _, x, _, _ => by
    cases x
    exact ⟨[], fun u m => absurd m (by simp), fun a m => absurd m (by simp)⟩
  | d :: ds, _, x, p, z => by
    obtain ⟨v, vs, rfl, x1, x2⟩ := well_cons x
    have q : plW d = true ∧ plWs ds = true := Bool.and_eq_true_iff.mp p
    obtain ⟨A, a1, a2⟩ := area_one d v x1 q.1 (z d (List.mem_cons_self ..))
    obtain ⟨B, b1, b2⟩ := area_all ds vs x2 q.2 fun e he => z e (List.mem_cons_of_mem _ he)
    have kA : ∀ b ∈ A, b ∈ A ++ B := fun b hb => List.mem_append.mpr (.inl hb)
    have kB : ∀ b ∈ B, b ∈ A ++ B := fun b hb => List.mem_append.mpr (.inr hb)
    refine ⟨A ++ B, fun u hu => ?_, fun b hb => ?_⟩
    · rcases List.mem_cons.mp hu with e | m
      · rw [e]
        exact a1.mono kA
      · exact (b1 u m).mono kB
    · rcases List.mem_append.mp hb with m | m
      · exact (a2 b m).mono kA
      · exact (b2 b m).mono kB
end
end
def hoOf (o : Obj) : Option HO := match o.data with
  | .seq vs _ => if (o.cls == Value.type "list") = true then some (.frz o (.lst (vs.toList.map toV))) else some (.frz o (.tup (vs.toList.map toV)))
  | _ => none
def argH (K : PySem.W.Frag) (h : Heap) (A : List Addr) : Hp := fun b => if b ∈ A then (if (K.lookup b).isNone = true then (h.get? b).bind hoOf else none) else none
def OnlyF (H : Hp) : Prop := ∀ b, H b = none ∨ ∃ o u, H b = some (.frz o u)
theorem hoOf_lst (vs : List Value) : hoOf { cls := .type "list", data := .seq vs.toArray } = some (.frz { cls := .type "list", data := .seq vs.toArray } (.lst (vs.map toV))) := by
  show (if (Value.type "list" == Value.type "list") = true then some (HO.frz { cls := .type "list", data := .seq vs.toArray } (.lst (vs.toArray.toList.map toV))) else some (HO.frz { cls := .type "list", data := .seq vs.toArray } (.tup (vs.toArray.toList.map toV)))) = _
  rw [if_pos (beq_self_eq_true _)]
theorem hoOf_tup (vs : List Value) : hoOf { cls := .type "tuple", data := .seq vs.toArray } = some (.frz { cls := .type "tuple", data := .seq vs.toArray } (.tup (vs.map toV))) := by
  show (if (Value.type "tuple" == Value.type "list") = true then some (HO.frz { cls := .type "tuple", data := .seq vs.toArray } (.lst (vs.toArray.toList.map toV))) else some (HO.frz { cls := .type "tuple", data := .seq vs.toArray } (.tup (vs.toArray.toList.map toV)))) = _
  rw [if_neg (by decide)]
section
variable {P : Program} {w : World} {K : PySem.W.Frag} {h : Heap} {A : List Addr}
theorem argH_at {b : Addr} {o : Obj} (hb : b ∈ A) (hk : K.lookup b = none) (e : h.get? b = some o) : argH K h A b = hoOf o := by
  unfold argH
  rw [if_pos hb, hk, if_pos (show (none : Option Obj).isNone = true from rfl), e] <;> rfl
theorem of_argH {b : Addr} {u : HO} (q : argH K h A b = some u) : b ∈ A ∧ K.lookup b = none := by
  unfold argH at q
  by_cases hb : b ∈ A
  · rw [if_pos hb] at q
    cases hk : K.lookup b with
    | none => exact ⟨hb, rfl⟩
    | some o =>
      rw [hk, if_neg (by simp)] at q
      cases q
  · rw [if_neg hb] at q
    cases q
theorem argH_is (ar : ∀ a ∈ A, ArgOb h A a) {b : Addr} {u : HO} (q : argH K h A b = some u) : K.lookup b = none ∧ ∃ vs : List Value, vs.length ≤ sizeLine ∧ (∀ u ∈ vs, OkU A u) ∧
    ((h.get? b = some { cls := .type "list", data := .seq vs.toArray } ∧ u = .frz { cls := .type "list", data := .seq vs.toArray } (.lst (vs.map toV))) ∨
     (h.get? b = some { cls := .type "tuple", data := .seq vs.toArray } ∧ u = .frz { cls := .type "tuple", data := .seq vs.toArray } (.tup (vs.map toV)))) := by
  obtain ⟨hb, hk⟩ := of_argH q
  obtain ⟨vs, h1, h2, h3⟩ := ar b hb
  refine ⟨hk, vs, h1, h2, ?_⟩
  rcases h3 with e | e
  · rw [argH_at hb hk e, hoOf_lst] at q
    exact .inl ⟨e, (Option.some.inj q).symm⟩
  · rw [argH_at hb hk e, hoOf_tup] at q
    exact .inr ⟨e, (Option.some.inj q).symm⟩
theorem argH_only (ar : ∀ a ∈ A, ArgOb h A a) : OnlyF (argH K h A) := fun b => by
  cases q : argH K h A b with
  | none => exact .inl rfl
  | some u =>
    obtain ⟨_, vs, _, _, ⟨_, e⟩ | ⟨_, e⟩⟩ := argH_is ar q
    · exact .inr ⟨_, _, by rw [e]⟩
    · exact .inr ⟨_, _, by rw [e]⟩
theorem argH_ok (ar : ∀ a ∈ A, ArgOb h A a) : HOk P w (argH K h A) h := fun b u q => by
  obtain ⟨_, vs, h1, h2, ⟨e, rfl⟩ | ⟨e, rfl⟩⟩ := argH_is ar q
  · exact ⟨e, by rw [List.length_map]; exact h1, vs, _, vals_toV h2, e⟩
  · exact ⟨e, by rw [List.length_map]; exact h1, vs, vals_toV h2, _, e, rfl, _, rfl⟩
theorem seq_inj {c c' : Value} {vs us : List Value} (e : (some { cls := c, data := .seq vs.toArray } : Option Obj) = some { cls := c', data := .seq us.toArray }) : c = c' ∧ vs = us := by
  have e1 := Option.some.inj e
  have e2 : c = c' := congrArg Obj.cls e1
  have e3 : Data.seq vs.toArray = Data.seq us.toArray := congrArg Obj.data e1
  injection e3 with e4
  refine ⟨e2, ?_⟩
  have e5 := congrArg Array.toList e4
  simpa using e5
theorem argL (KX : K.In h) (ar : ∀ a ∈ A, ArgOb h A a) {a : Addr} {vs : List Value} (ha : a ∈ A) (e : h.get? a = some { cls := .type "list", data := .seq vs.toArray }) : (∀ u ∈ vs, OkU A u) ∧ SqL K (argH K h A) a (vs.map toV) := by
  obtain ⟨us, h1, h2, h3⟩ := ar a ha
  have hu : us = vs := by
    rcases h3 with q | q
    · rw [e] at q
      exact (seq_inj q).2.symm
    · rw [e] at q
      exact absurd (Value.type.inj (seq_inj q).1) (by decide)
  subst hu
  refine ⟨h2, ?_⟩
  cases hk : K.lookup a with
  | none => exact .inl (.inr ⟨_, by rw [argH_at ha hk e, hoOf_lst]⟩)
  | some o =>
    have e2 := KX a o hk
    rw [e] at e2
    obtain rfl := Option.some.inj e2
    exact .inr ⟨_, us.toArray, _, hk, rfl, rfl, rfl, by rw [List.size_toArray]; exact h1, by simpa using vals_toV h2⟩
theorem argT (KX : K.In h) (ar : ∀ a ∈ A, ArgOb h A a) {a : Addr} {vs : List Value} (ha : a ∈ A) (e : h.get? a = some { cls := .type "tuple", data := .seq vs.toArray }) : (∀ u ∈ vs, OkU A u) ∧ SqT K (argH K h A) a (vs.map toV) := by
  obtain ⟨us, h1, h2, h3⟩ := ar a ha
  have hu : us = vs := by
    rcases h3 with q | q
    · rw [e] at q
      exact absurd (Value.type.inj (seq_inj q).1) (by decide)
    · rw [e] at q
      exact (seq_inj q).2.symm
  subst hu
  refine ⟨h2, ?_⟩
  cases hk : K.lookup a with
  | none => exact .inl (.inr ⟨_, by rw [argH_at ha hk e, hoOf_tup]⟩)
  | some o =>
    have e2 := KX a o hk
    rw [e] at e2
    obtain rfl := Option.some.inj e2
    exact .inr ⟨_, us.toArray, _, hk, rfl, rfl, by rw [List.size_toArray]; exact h1, by simpa using vals_toV h2⟩
mutual
theorem dw_one {Pm : Params} (KX : K.In h) (ar : ∀ a ∈ A, ArgOb h A a) : ∀ (d : WData) (v : Value), Well Pm h v d → plW d = true → OkU A v → Dw K (argH K h A) (toV v) d
  | .none, _, x, _, _ => by
    cases x
    exact .non
  | .bool b, _, x, _, _ => by
    cases x
    exact .bl b
  | .int i, _, x, _, _ => by
    cases x
    exact .int i
  | .str s, _, x, _, _ => by
    cases x
    exact .str s
  | .bytes b, _, x, _, _ => by
    cases x
    have z := Dw.byt (K := K) (H := argH K h A) b.toArray
    exact z
  | .list ds, _, x, p, hu => by
    obtain ⟨a, vs, rfl, ho, hall⟩ := well_list x
    obtain ⟨h2, hs⟩ := argL KX ar hu ho
    exact .lst hs (dw_all KX ar ds _ hall p h2)
  | .tuple ds, _, x, p, hu => by
    obtain ⟨a, vs, rfl, ho, hall⟩ := well_tuple x
    obtain ⟨h2, hs⟩ := argT KX ar hu ho
    exact .tup hs (dw_all KX ar ds _ hall p h2)
  | .float _, _, _, p, _ => Bool.noConfusion (show false = true from p)
  | .dict _, _, _, p, _ => Bool.noConfusion (show false = true from p)
  | .bytearray _, _, _, p, _ => Bool.noConfusion (show false = true from p)
  | .set _, _, _, p, _ => Bool.noConfusion (show false = true from p)
  | .frozenset _, _, _, p, _ => Bool.noConfusion (show false = true from p)
  | .obj _ _, _, _, p, _ => Bool.noConfusion (show false = true from p)
theorem dw_all {Pm : Params} (KX : K.In h) (ar : ∀ a ∈ A, ArgOb h A a) : ∀ (ds : List WData) (vs : List Value), WellAll Pm h vs ds → plWs ds = true → (∀ u ∈ vs, OkU A u) → DwAll K (argH K h A) (vs.map toV) ds
  | [], _, x, _, _ => by
    cases x
    exact .nil
  | d :: ds, _, x, p, hu => by
    obtain ⟨v, vs, rfl, x1, x2⟩ := well_cons x
    have q : plW d = true ∧ plWs ds = true := Bool.and_eq_true_iff.mp p
    exact .cons (dw_one KX ar d v x1 q.1 (hu _ (List.mem_cons_self ..))) (dw_all KX ar ds vs x2 q.2 fun u m => hu u (List.mem_cons_of_mem _ m))
end
end
theorem spec_call {P : Program} {w : World} {K : PySem.W.Frag} {mg mb : Str → Option Value} {CX : CXT} {k : Nat} {fa : Addr} {fd : FuncData} {ps : List Str} {sp : Sp} {s₁ : Shared} {vals : List Value} {ds : List WData} {R : PySem.W.WRecords} {cl : Str → Option Addr} {d0 : WData}
    (KX : K.In s₁.heap) (hns : s₁.heap.Ns mainGlobals mg) (hb : s₁.heap.Ns builtinsNs mb) (hbb : ∀ x : Str, x ≠ "__name__" → mb x = bootBuiltins x) (hlim : s₁.heap.NoLimit) (hg : s₁.gens = #[])
    (hwl : WellAll w.params s₁.heap vals ds) (hpl : plWs ds = true) (hwt : ∀ d ∈ ds, d.weight ≤ 1048576) (hr : Room k callerA)
    (F : ∀ base : Heap, K.In base → base.Ns mainGlobals mg → FnOk P w K mg base CX k fa fd ps sp) (hbind : ∀ (s : Shared) (us : List Value), us.length = ps.length → BindsTo s fd ⟨us, []⟩ (ps.zip us)) (hlen : ds.length = ps.length)
    (hsp : ∀ (H : Hp) (xs : List V), OnlyF H → DwAll K H xs ds → sp xs H (fun v H' => Dw K H' v d0) fun _ _ _ => False)
    (hCX : ∀ H e s', CX [] H s₁ (fun _ _ _ => False) e s' → False) :
    codeAny (model P w) callerA (.call (.ref fa) ⟨vals, []⟩) (fun r s' => ∃ u as, r = .ok (.ret u) ∧ ReadsW R cl s'.heap u d0 as ∧ OldK s₁.heap s'.heap ∧ s'.os = s₁.os ∧ AllBare s'.gens) s₁ := by
  obtain ⟨A, ho, ar⟩ := area_all ds vals hwl hpl hwt
  have hO : OnlyF (argH K s₁.heap A) := argH_only ar
  have hok : HOk P w (argH K s₁.heap A) s₁.heap := argH_ok ar
  have hS := dw_all KX ar ds vals hwl hpl ho
  have hV := vals_toV ho
  have hK : ∀ b u, argH K s₁.heap A b = some u → K.lookup b = none := fun b u q => (argH_is ar q).1
  have noA : ∀ {b : Addr} {o : Obj} {es : Array DictEntry} {ep : Nat}, s₁.heap.get? b = some o → o.data = .dict es ep → argH K s₁.heap A b = none := fun {b o es ep} e d => by
    cases q : argH K s₁.heap A b with
    | none => rfl
    | some u =>
      obtain ⟨_, vs, _, _, ⟨e2, _⟩ | ⟨e2, _⟩⟩ := argH_is ar q
      · rw [e2] at e
        cases e
        have d' : Data.seq vs.toArray _ = Data.dict es ep := d
        cases d'
      · rw [e2] at e
        cases e
        have d' : Data.seq vs.toArray _ = Data.dict es ep := d
        cases d'
  generalize argH K s₁.heap A = H at hO hok hS hK noA
  have base_of : ∀ {b : Addr} {o : Obj}, s₁.heap.get? b = some o → H b = none → (hidT s₁.heap H).get? b = some o := fun e n => hidT_get e n
  have nsK : ∀ {b : Addr} {m : Str → Option Value}, s₁.heap.Ns b m → (hidT s₁.heap H).Ns b m := fun {b m} ⟨o, es, ep, e, d, r⟩ => ⟨o, es, ep, base_of e (noA e d), d, r⟩
  have nK : ∀ b o, K.lookup b = some o → H b = none := fun b o e => by
    cases q : H b with
    | none => rfl
    | some u =>
      rw [hK b u q] at e
      cases e
  have hKb : K.In (hidT s₁.heap H) := fun b o e => base_of (KX b o e) (nK b o e)
  have hM : Mod K mg (hidT s₁.heap H) := ⟨hKb, nsK hns, ⟨mb, nsK hb, hbb⟩, let ⟨mc, h1, h2⟩ := hlim; ⟨mc, nsK h1, h2⟩⟩
  have e0 : Env0 P w K mg (hidT s₁.heap H) callerA [] s₁ H := ⟨rfl, hM, fun b o e => of_hidT e, Nat.le_of_eq (hidT_size _ _), trivial, fun b hb => absurd (show b ∈ ([] : List Addr) from hb) (by simp), hok, .of_eq hg⟩
  have hl : vals.length = ps.length := by rw [wellAll_len hwl]; exact hlen
  refine codeAny_mono ((F _ hKb (nsK hns)).run callerA [] s₁ H ⟨vals, []⟩ vals (vals.map toV) _ _ hr e0 (hbind s₁ vals hl) hV (hsp H _ hO hS)) fun r s' x => ?_
  cases r with
  | error e => exact (hCX H e s' x).elim
  | ok fl =>
    cases fl with
    | next => exact False.elim x
    | brk => exact False.elim x
    | cont => exact False.elim x
    | ret u =>
      obtain ⟨v, H', os, bare, un, hok', r', q⟩ := x
      have kept : ∀ b o, s₁.heap.get? b = some o → s'.heap.get? b = some o := fun b o e => by
        cases q2 : H b with
        | none => exact un.keep b o e q2 (by intro z; exact absurd (show b ∈ ([] : List Addr) from z) (by simp)) (by simp)
        | some u2 =>
          rcases hO b with z | ⟨ob, u3, z⟩
          · rw [q2] at z
            cases z
          · have z2 := un.frzs b ob _ z
            obtain ⟨e1, _⟩ := hok b _ z
            obtain ⟨e2, _⟩ := hok' b _ z2
            rw [e] at e1
            cases e1
            exact e2
      have KX' : K.In s'.heap := fun b o e => kept b o (KX b o e)
      obtain ⟨as, hrd⟩ := Dw.reads (R := R) (cl := cl) hok' KX' d0 v u q r'
      exact ⟨u, as, rfl, hrd, OldK.of_keep kept, os, bare⟩
theorem layable_weight {ds : List WData} (h : WData.layableAll ds = true) : ∀ d ∈ ds, d.weight ≤ 1048576 := fun d hd =>
  (PySem.W.layableW_iff.mp (List.all_eq_true.mp h d hd)).2.2
theorem encAll_len : ∀ (cs : List Codec) (a : Codec.denoteAll cs), (Codec.encAll cs a).length = cs.length
  | [], _ => rfl
  | c :: cs, a => by
    show (Codec.encAll cs a.2).length + 1 = cs.length + 1
    rw [encAll_len cs a.2]
theorem walk_spec {r : OpenSpec} {k : Nat} {q : Program} {loose : List Str} {XP : (Str → Option Value) → Heap → Prop} {YP : World → Heap → Prop} {d : DefRec} {K : Params → PySem.W.Frag} {CX : World → CXT} {ps : List Str} {sp : World → Sp}
    (hwell : r.wellSaid = true) (hdf : d.params.defaults = []) (hlen : r.args.length = ps.length) (hr : Room k callerA)
    (hY : ∀ (w : World) (h : Heap), YP w h → (K w.params).In h)
    (F : ∀ (w : World) (mg : Str → Option Value) (fa : Addr) (h : Heap), YP w h → (K w.params).In h → h.Ns mainGlobals mg → mg d.name = some (.ref fa) →
      ∃ fd : FuncData, (∀ (s : Shared) (us : List Value), us.length = ps.length → BindsTo s fd ⟨us, []⟩ (ps.zip us)) ∧
        ∀ base : Heap, (K w.params).In base → base.Ns mainGlobals mg → FnOk r.prog w (K w.params) mg base (CX w) k fa fd ps (sp w))
    (hsp : ∀ (w : World) (H : Hp) (xs : List V) (a : Codec.denoteAll r.args), OnlyF H → Codec.withinAll r.args a = true → Codec.app r.args r.asked a = true → DwAll (K w.params) H xs (Codec.encAll r.args a) →
      sp w xs H (fun v H' => Dw (K w.params) H' v (r.ret.enc (Codec.app r.args r.f a))) fun _ _ _ => False)
    (hCX : ∀ (w : World) (H : Hp) (s : Shared) (e : Value) (s' : Shared), CX w [] H s (fun _ _ _ => False) e s' → False) :
    PySem.W.WalkOS q loose XP YP r d [] (fun f vs => PySem.call f vs) := by
  intro w s_0 s₁ mg mb G Y fa o pm cd doc dV kV ho hd hcd hD hmg hg args vals as hpre hlay hrd hwl hlo
  obtain ⟨a, e1, e2⟩ := PySem.W.os_pre_some hpre
  obtain ⟨e3, hwi⟩ := Codec.encAll_of_decAll r.args args a e1
  subst e3
  have KX := hY w _ Y
  obtain ⟨fd, hb, hF⟩ := F w mg fa _ Y KX G.T.g hmg
  refine PySem.W.enter_call (codeAny_mono (spec_call (R := []) (cl := classAt s_0.heap) (d0 := r.ret.enc (Codec.app r.args r.f a)) KX G.T.g G.T.b G.T.builtins G.T.nolimit hg hwl (pl_encAll _ _) (layable_weight hlay) hr hF hb (by rw [encAll_len]; exact hlen)
    (fun H xs hO hS => hsp w H xs a hO hwi e2 hS) fun H e s' => hCX w H s₁ e s') fun r' s' hq => ?_)
  obtain ⟨u, as', rfl, h1, h2, h3, h4⟩ := hq
  exact ⟨.inl ⟨u, _, as', rfl, fun _ => rfl, h1, (OpenSpec.post_iff hwell hwi _ _).mpr rfl, fun z => Bool.noConfusion (show false = true from z)⟩, h2, h3, h4⟩
theorem walk_specK {r : OpenSpec} {k : Nat} {q : Program} {loose : List Str} {XP : (Str → Option Value) → Heap → Prop} {YP : World → Heap → Prop} {d : DefRec} {K : Params → PySem.W.Frag} {CX : CXT} {ps : List Str} {sp : PySem.W.Frag → Sp}
    (hwell : r.wellSaid = true) (hdf : d.params.defaults = []) (hlen : r.args.length = ps.length) (hr : Room k callerA)
    (hY : ∀ (w : World) (h : Heap), YP w h → (K w.params).In h)
    (F : ∀ (w : World) (mg : Str → Option Value) (fa : Addr) (h : Heap), YP w h → (K w.params).In h → h.Ns mainGlobals mg → mg d.name = some (.ref fa) →
      ∃ fd : FuncData, (∀ (s : Shared) (us : List Value), us.length = ps.length → BindsTo s fd ⟨us, []⟩ (ps.zip us)) ∧
        ∀ base : Heap, (K w.params).In base → base.Ns mainGlobals mg → FnOk r.prog w (K w.params) mg base CX k fa fd ps (sp (K w.params)))
    (hsp : ∀ (K : PySem.W.Frag) (H : Hp) (xs : List V) (a : Codec.denoteAll r.args), OnlyF H → Codec.withinAll r.args a = true → Codec.app r.args r.asked a = true → DwAll K H xs (Codec.encAll r.args a) →
      sp K xs H (fun v H' => Dw K H' v (r.ret.enc (Codec.app r.args r.f a))) fun _ _ _ => False)
    (hCX : ∀ (H : Hp) (s : Shared) (e : Value) (s' : Shared), CX [] H s (fun _ _ _ => False) e s' → False) :
    PySem.W.WalkOS q loose XP YP r d [] (fun f vs => PySem.call f vs) :=
  walk_spec (K := K) (CX := fun _ => CX) (sp := fun w => sp (K w.params)) hwell hdf hlen hr hY F (fun w H xs a h1 h2 h3 h4 => hsp (K w.params) H xs a h1 h2 h3 h4) fun _ H s e s' => hCX H s e s'
end L2
end
set_option Elab.async false
namespace DM
open Uw86
/-! fractions as rationals -/
def val (a : Frac) : Rat := (a.u : Rat) / (a.l : Rat)
structure Good (a : Frac) : Prop where
  pos : 0 < a.l
  cop : Nat.gcd a.u a.l = 1
theorem cast_pos {n : Nat} (h : 0 < n) : (0 : Rat) < (n : Rat) := by
  exact_mod_cast h
theorem cast_ne {n : Nat} (h : 0 < n) : (n : Rat) ≠ 0 := by
  have := cast_pos h
  grind
theorem div_eq_iff {a b c d : Nat} (hb : 0 < b) (hd : 0 < d) : (a : Rat) / b = (c : Rat) / d ↔ a * d = c * b := by
  have h1 := cast_ne hb
  have h2 := cast_ne hd
  constructor
  · intro h
    have : (a : Rat) * d = c * b := by grind
    exact_mod_cast this
  · intro h
    have : (a : Rat) * d = c * b := by exact_mod_cast h
    grind
theorem frac_good {u l : Nat} (h : 0 < l) : Good (frac u l) := by
  unfold frac
  split
  · exact ⟨Nat.one_pos, by simp⟩
  · have hg : 0 < Nat.gcd u l := Nat.gcd_pos_of_pos_right _ h
    refine ⟨Nat.div_pos (Nat.gcd_le_right _ h) hg, ?_⟩
    exact Nat.coprime_div_gcd_div_gcd hg
theorem val_frac {u l : Nat} (h : 0 < l) : val (frac u l) = (u : Rat) / l := by
  have G := frac_good (u := u) h
  unfold val
  rw [div_eq_iff G.pos h]
  unfold frac
  split
  · rename_i e
    subst e
    simp
  · show u / Nat.gcd u l * l = u * (l / Nat.gcd u l)
    obtain ⟨a, ha⟩ := Nat.gcd_dvd_left u l
    obtain ⟨c, hc⟩ := Nat.gcd_dvd_right u l
    have hg : 0 < Nat.gcd u l := Nat.gcd_pos_of_pos_right _ h
    generalize Nat.gcd u l = g at *
    subst ha hc
    rw [Nat.mul_div_cancel_left _ hg, Nat.mul_div_cancel_left _ hg]
    grind
theorem Good.ext {a b : Frac} (ha : Good a) (hb : Good b) (h : val a = val b) : a = b := by
  unfold val at h
  rw [div_eq_iff ha.pos hb.pos] at h
  obtain ⟨u, l⟩ := a
  obtain ⟨v, k⟩ := b
  have c1 : Nat.Coprime u l := ha.cop
  have c2 : Nat.Coprime v k := hb.cop
  have h' : u * k = v * l := h
  have p1 : 0 < l := ha.pos
  have p2 : 0 < k := hb.pos
  have d1 : l ∣ k := by
    have : l ∣ u * k := ⟨v, by rw [h', Nat.mul_comm]⟩
    exact (Nat.Coprime.symm c1).dvd_of_dvd_mul_left this
  have d2 : k ∣ l := by
    have : k ∣ v * l := ⟨u, by rw [← h', Nat.mul_comm]⟩
    exact (Nat.Coprime.symm c2).dvd_of_dvd_mul_left this
  have e : l = k := Nat.dvd_antisymm d1 d2
  subst e
  have : u = v := Nat.eq_of_mul_eq_mul_right p1 h'
  subst this
  rfl
theorem frac_eq {u l v k : Nat} (hl : 0 < l) (hk : 0 < k) : frac u l = frac v k ↔ u * k = v * l := by
  constructor
  · intro h
    have := congrArg val h
    rw [val_frac hl, val_frac hk, div_eq_iff hl hk] at this
    exact this
  · intro h
    refine (frac_good hl).ext (frac_good hk) ?_
    rw [val_frac hl, val_frac hk, div_eq_iff hl hk]
    exact h
theorem zero_good : Good zero := ⟨Nat.one_pos, rfl⟩
theorem one_good : Good one := ⟨Nat.one_pos, rfl⟩
theorem val_zero : val zero = 0 := by
  show ((0 : Nat) : Rat) / ((1 : Nat) : Rat) = 0
  grind
theorem val_one : val one = 1 := by
  show ((1 : Nat) : Rat) / ((1 : Nat) : Rat) = 1
  grind
theorem val_plus {a b : Frac} (ha : Good a) (hb : Good b) : val (plus a b) = val a + val b := by
  unfold plus
  rw [val_frac (Nat.mul_pos ha.pos hb.pos)]
  unfold val
  have h1 := cast_ne ha.pos
  have h2 := cast_ne hb.pos
  push_cast
  grind
theorem plus_good {a b : Frac} (ha : Good a) (hb : Good b) : Good (plus a b) := frac_good (Nat.mul_pos ha.pos hb.pos)
theorem val_times {a b : Frac} (ha : Good a) (hb : Good b) : val (times a b) = val a * val b := by
  unfold times
  rw [val_frac (Nat.mul_pos ha.pos hb.pos)]
  unfold val
  have h1 := cast_ne ha.pos
  have h2 := cast_ne hb.pos
  push_cast
  grind
theorem times_good {a b : Frac} (ha : Good a) (hb : Good b) : Good (times a b) := frac_good (Nat.mul_pos ha.pos hb.pos)
theorem inv_nn {a : Rat} (h : 0 < a) : 0 ≤ a⁻¹ := Rat.le_of_lt (Rat.inv_pos.mpr h)
theorem val_nonneg (a : Frac) : 0 ≤ val a := by
  unfold val
  have h1 : (0 : Rat) ≤ (a.u : Rat) := by exact_mod_cast Nat.zero_le _
  rw [Rat.div_def]
  rcases Nat.eq_zero_or_pos a.l with e | e
  · rw [e]
    have : ((0 : Nat) : Rat)⁻¹ = 0 := by simp
    rw [this]
    grind
  · exact Rat.mul_nonneg h1 (inv_nn (cast_pos e))
theorem val_le_one {a : Frac} (ha : Good a) : val a ≤ 1 ↔ a.u ≤ a.l := by
  unfold val
  have h1 := cast_pos ha.pos
  constructor
  · intro h
    have : (a.u : Rat) ≤ a.l := by
      have k := Rat.mul_le_mul_of_nonneg_right h (Rat.le_of_lt h1)
      have n1 := cast_ne ha.pos
      have e : (a.u : Rat) / a.l * a.l = a.u := by grind
      rw [e] at k
      grind
    exact_mod_cast this
  · intro h
    have : (a.u : Rat) ≤ a.l := by exact_mod_cast h
    have k := Rat.mul_le_mul_of_nonneg_right this (inv_nn h1)
    have n1 := cast_ne ha.pos
    have e : (a.l : Rat) * (a.l : Rat)⁻¹ = 1 := by grind
    rw [e] at k
    rw [Rat.div_def]
    exact k
theorem rest_good {a : Frac} (ha : Good a) : Good (rest a) := frac_good ha.pos
theorem val_rest {a : Frac} (ha : Good a) (h : val a ≤ 1) : val (rest a) = 1 - val a := by
  have h1 := cast_ne ha.pos
  have h2 := (val_le_one ha).mp h
  unfold rest
  rw [val_frac ha.pos]
  unfold val
  have : ((a.l - a.u : Nat) : Rat) = (a.l : Rat) - a.u := by
    have e : a.l - a.u + a.u = a.l := Nat.sub_add_cancel h2
    have := congrArg (Nat.cast : Nat → Rat) e
    push_cast at this
    grind
  rw [this]
  grind
theorem u_pos {a : Frac} (h : val a ≠ 0) : 0 < a.u := by
  rcases Nat.eq_zero_or_pos a.u with e | e
  · exfalso
    apply h
    unfold val
    rw [e]
    have : ((0 : Nat) : Rat) = 0 := by simp
    rw [this]
    grind
  · exact e
theorem over_good {a b : Frac} (ha : Good a) (h : val b ≠ 0) : Good (over a b) := frac_good (Nat.mul_pos ha.pos (u_pos h))
theorem val_over {a b : Frac} (ha : Good a) (hb : Good b) (h : val b ≠ 0) : val (over a b) = val a / val b := by
  unfold over
  rw [val_frac (Nat.mul_pos ha.pos (u_pos h))]
  unfold val
  have h1 := cast_ne ha.pos
  have h2 := cast_ne hb.pos
  have h3 := cast_ne (u_pos h)
  push_cast
  grind
theorem div_lt_iff {a b c d : Nat} (hb : 0 < b) (hd : 0 < d) : (a : Rat) / b < (c : Rat) / d ↔ a * d < c * b := by
  have h1 := cast_pos hb
  have h2 := cast_pos hd
  have n1 := cast_ne hb
  have n2 := cast_ne hd
  constructor
  · intro h
    have k1 := Rat.mul_lt_mul_of_pos_right h (Rat.mul_pos h1 h2)
    have e1 : (a : Rat) / b * (b * d) = a * d := by grind
    have e2 : (c : Rat) / d * (b * d) = c * b := by grind
    rw [e1, e2] at k1
    exact_mod_cast k1
  · intro h
    have k0 : (a : Rat) * d < c * b := by exact_mod_cast h
    have k1 := Rat.mul_lt_mul_of_pos_right k0 (Rat.inv_pos.mpr (Rat.mul_pos h1 h2))
    have e1 : (a : Rat) * d * ((b : Rat) * d)⁻¹ = a / b := by grind
    have e2 : (c : Rat) * b * ((b : Rat) * d)⁻¹ = c / d := by grind
    rw [e1, e2] at k1
    exact k1
theorem less_iff {a b : Frac} (ha : Good a) (hb : Good b) : less a b = true ↔ val a < val b := by
  unfold less val
  rw [div_lt_iff ha.pos hb.pos]
  simp
theorem val_eq_zero {a : Frac} (ha : Good a) : a = zero ↔ val a = 0 :=
  ⟨fun e => by rw [e, val_zero], fun e => ha.ext zero_good (by rw [e, val_zero])⟩
theorem val_eq_one {a : Frac} (ha : Good a) : a = one ↔ val a = 1 :=
  ⟨fun e => by rw [e, val_one], fun e => ha.ext one_good (by rw [e, val_one])⟩
end DM
set_option Elab.async false
namespace DM
open Uw86
/-! sums of rationals -/
def rs : List Rat → Rat
  | [] => 0
  | a :: l => a + rs l
theorem rs_mul (c : Rat) : ∀ l : List Rat, rs (l.map fun a => c * a) = c * rs l
  | [] => by simp [rs]
  | a :: l => by
    simp only [List.map_cons, rs, rs_mul c l]
    grind
theorem total_go : ∀ (l : List Frac) (a : Frac), Good a → (∀ x ∈ l, Good x) → Good (l.foldl plus a) ∧ val (l.foldl plus a) = val a + rs (l.map val)
  | [], a, ha, _ => ⟨ha, by simp [rs, Rat.add_zero]⟩
  | x :: l, a, ha, h => by
    have hx := h x (List.mem_cons_self)
    obtain ⟨h1, h2⟩ := total_go l (plus a x) (plus_good ha hx) fun y hy => h y (List.mem_cons_of_mem _ hy)
    refine ⟨h1, ?_⟩
    rw [List.foldl_cons, h2, val_plus ha hx]
    simp only [List.map_cons, rs]
    grind
theorem total_good {l : List Frac} (h : ∀ x ∈ l, Good x) : Good (total l) := (total_go l zero zero_good h).1
theorem val_total {l : List Frac} (h : ∀ x ∈ l, Good x) : val (total l) = rs (l.map val) := by
  have := (total_go l zero zero_good h).2
  rw [val_zero] at this
  unfold total
  rw [this]
  grind
/-! how often one hits under its aim -/
def hc (d : Duel) (m i : Nat) : Nat := if aimOf d m i < count d then d.hits.getD i 0 else 0
theorem hit_eq {d : Duel} (hb : 0 < d.b) (m i : Nat) : hit d m i = frac (hc d m i) d.b := by
  unfold hit hc
  split
  · rfl
  · show zero = frac 0 d.b
    rfl
/-- the parts of a round as whole numbers: how much, who, at whom -/
def pparts (d : Duel) (m : Nat) : Nat → List Nat → List (Nat × Nat × Nat)
  | _, [] => []
  | ms, i :: r => if 0 < ms / d.b * hc d m i then (ms / d.b * hc d m i, i, aimOf d m i) :: pparts d m (ms / d.b * (d.b - hc d m i)) r else pparts d m (ms / d.b * (d.b - hc d m i)) r
/-- what is left of a round without a hit -/
def pleft (d : Duel) (m : Nat) : Nat → List Nat → Nat
  | ms, [] => ms
  | ms, i :: r => pleft d m (ms / d.b * (d.b - hc d m i)) r
theorem frac_zero_iff {u l : Nat} (h : 0 < l) : frac u l = zero ↔ u = 0 := by
  have e : zero = frac 0 1 := rfl
  rw [e, frac_eq h Nat.one_pos]
  omega
theorem firsts_parts {d : Duel} {m B : Nat} (hb : 0 < d.b) (hB : 0 < B) (hh : ∀ i, hc d m i ≤ d.b) : ∀ (ord : List Nat) (ms : Nat), d.b ^ ord.length ∣ ms →
    (firsts d m (frac ms B) ord).filter (fun x => x.1 != zero) = (pparts d m ms ord).map fun c => (frac c.1 B, c.2.1, c.2.2)
  | [], ms, _ => rfl
  | i :: r, ms, hd => by
    obtain ⟨t, rfl⟩ : d.b ∣ ms := Nat.dvd_trans ⟨d.b ^ r.length, by rw [List.length_cons, Nat.pow_succ, Nat.mul_comm]⟩ hd
    have hd2 : d.b ^ r.length ∣ t := by
      rw [List.length_cons, Nat.pow_succ, Nat.mul_comm] at hd
      exact Nat.dvd_of_mul_dvd_mul_left hb hd
    have ed : d.b * t / d.b = t := Nat.mul_div_cancel_left _ hb
    have e1 : times (frac (d.b * t) B) (hit d m i) = frac (t * hc d m i) B := by
      rw [hit_eq hb]
      refine (times_good (frac_good hB) (frac_good hb)).ext (frac_good hB) ?_
      rw [val_times (frac_good hB) (frac_good hb), val_frac hB, val_frac hb, val_frac hB]
      have n1 := cast_ne hb
      have n2 := cast_ne hB
      push_cast
      grind
    have e2 : times (frac (d.b * t) B) (rest (hit d m i)) = frac (t * (d.b - hc d m i)) B := by
      have ev : val (rest (hit d m i)) = ((d.b - hc d m i : Nat) : Rat) / d.b := by
        rw [hit_eq hb]
        have g := frac_good (u := hc d m i) hb
        have le1 : val (frac (hc d m i) d.b) ≤ 1 := by
          rw [val_frac hb]
          have h1 : (hc d m i : Rat) ≤ d.b := by exact_mod_cast hh i
          have k := Rat.mul_le_mul_of_nonneg_right h1 (inv_nn (cast_pos hb))
          have n1 := cast_ne hb
          have e : (d.b : Rat) * (d.b : Rat)⁻¹ = 1 := by grind
          rw [e] at k
          rw [Rat.div_def]
          exact k
        rw [val_rest g le1, val_frac hb]
        have : ((d.b - hc d m i : Nat) : Rat) = (d.b : Rat) - hc d m i := by
          have e : d.b - hc d m i + hc d m i = d.b := Nat.sub_add_cancel (hh i)
          have := congrArg (Nat.cast : Nat → Rat) e
          push_cast at this
          grind
        rw [this]
        have n1 := cast_ne hb
        grind
      have gr : Good (rest (hit d m i)) := rest_good (by rw [hit_eq hb]; exact frac_good hb)
      refine (times_good (frac_good hB) gr).ext (frac_good hB) ?_
      rw [val_times (frac_good hB) gr, ev, val_frac hB, val_frac hB]
      have n1 := cast_ne hb
      have n2 := cast_ne hB
      push_cast
      grind
    have hd3 : d.b ^ r.length ∣ t * (d.b - hc d m i) := Nat.dvd_trans hd2 (Nat.dvd_mul_right _ _)
    have ih := firsts_parts hb hB hh r (t * (d.b - hc d m i)) hd3
    unfold firsts pparts
    rw [e1, e2, ed, List.filter_cons]
    by_cases hz : 0 < t * hc d m i
    · have hne : (frac (t * hc d m i) B != zero) = true := by
        rw [bne_iff_ne]
        intro e
        have := (frac_zero_iff hB).mp e
        omega
      rw [if_pos hne, if_pos hz, List.map_cons, ih]
    · have hne : ¬ (frac (t * hc d m i) B != zero) = true := by
        rw [bne_iff_ne]
        intro e
        exact e ((frac_zero_iff hB).mpr (by omega))
      rw [if_neg hne, if_neg hz, ih]
theorem parts_sum {d : Duel} {m : Nat} (hb : 0 < d.b) (hh : ∀ i, hc d m i ≤ d.b) : ∀ (ord : List Nat) (ms : Nat), d.b ^ ord.length ∣ ms → ((pparts d m ms ord).map (·.1)).sum + pleft d m ms ord = ms
  | [], ms, _ => by simp [pparts, pleft]
  | i :: r, ms, hd => by
    obtain ⟨t, rfl⟩ : d.b ∣ ms := Nat.dvd_trans ⟨d.b ^ r.length, by rw [List.length_cons, Nat.pow_succ, Nat.mul_comm]⟩ hd
    have hd2 : d.b ^ r.length ∣ t := by
      rw [List.length_cons, Nat.pow_succ, Nat.mul_comm] at hd
      exact Nat.dvd_of_mul_dvd_mul_left hb hd
    have ed : d.b * t / d.b = t := Nat.mul_div_cancel_left _ hb
    have ih := parts_sum hb hh r (t * (d.b - hc d m i)) (Nat.dvd_trans hd2 (Nat.dvd_mul_right _ _))
    have k : t * hc d m i + t * (d.b - hc d m i) = d.b * t := by
      rw [← Nat.mul_add, Nat.add_sub_cancel' (hh i), Nat.mul_comm]
    unfold pparts pleft
    rw [ed]
    split
    · rw [List.map_cons, List.sum_cons]
      omega
    · omega
theorem parts_pos {d : Duel} {m : Nat} : ∀ (ord : List Nat) (ms : Nat) (c : Nat × Nat × Nat), c ∈ pparts d m ms ord → 0 < c.1 ∧ c.2.1 ∈ ord ∧ c.2.2 = aimOf d m c.2.1 ∧ aimOf d m c.2.1 < count d
  | [], ms, c, h => by cases h
  | i :: r, ms, c, h => by
    unfold pparts at h
    split at h
    · rename_i hz
      rcases List.mem_cons.mp h with rfl | h
      · refine ⟨hz, List.mem_cons_self, rfl, ?_⟩
        show aimOf d m i < count d
        have : 0 < hc d m i := Nat.pos_of_mul_pos_left hz
        unfold hc at this
        split at this
        · assumption
        · omega
      · obtain ⟨a, b, e⟩ := parts_pos r _ c h
        exact ⟨a, List.mem_cons_of_mem _ b, e⟩
    · obtain ⟨a, b, e⟩ := parts_pos r _ c h
      exact ⟨a, List.mem_cons_of_mem _ b, e⟩
theorem parts_len {d : Duel} {m : Nat} : ∀ (ord : List Nat) (ms : Nat), (pparts d m ms ord).length ≤ ord.length
  | [], ms => by simp [pparts]
  | i :: r, ms => by
    have ih := parts_len (d := d) (m := m) r (ms / d.b * (d.b - hc d m i))
    unfold pparts
    split
    · simp only [List.length_cons]
      omega
    · simp only [List.length_cons]
      omega
/-! a round without a hit -/
theorem pleft_val {d : Duel} {m B : Nat} (hb : 0 < d.b) (hB : 0 < B) (hh : ∀ i, hc d m i ≤ d.b) : ∀ (ord : List Nat) (ms : Nat), d.b ^ ord.length ∣ ms → ord.foldl (fun q i => times q (rest (hit d m i))) (frac ms B) = frac (pleft d m ms ord) B
  | [], ms, _ => rfl
  | i :: r, ms, hd => by
    obtain ⟨t, rfl⟩ : d.b ∣ ms := Nat.dvd_trans ⟨d.b ^ r.length, by rw [List.length_cons, Nat.pow_succ, Nat.mul_comm]⟩ hd
    have hd2 : d.b ^ r.length ∣ t := by
      rw [List.length_cons, Nat.pow_succ, Nat.mul_comm] at hd
      exact Nat.dvd_of_mul_dvd_mul_left hb hd
    have ed : d.b * t / d.b = t := Nat.mul_div_cancel_left _ hb
    have ih := pleft_val hb hB hh r (t * (d.b - hc d m i)) (Nat.dvd_trans hd2 (Nat.dvd_mul_right _ _))
    unfold pleft
    rw [ed, ← ih, List.foldl_cons]
    congr 1
    have e : rest (hit d m i) = frac (d.b - hc d m i) d.b := by
      have h0 : hit d m i = frac (hc d m i) d.b := hit_eq hb m i
      have g := frac_good (u := hc d m i) hb
      rw [h0]
      refine (rest_good g).ext (frac_good hb) ?_
      have le1 : val (frac (hc d m i) d.b) ≤ 1 := by
        rw [val_frac hb]
        have h1 : (hc d m i : Rat) ≤ d.b := by exact_mod_cast hh i
        have k := Rat.mul_le_mul_of_nonneg_right h1 (inv_nn (cast_pos hb))
        have n1 := cast_ne hb
        have e : (d.b : Rat) * (d.b : Rat)⁻¹ = 1 := by grind
        rw [e] at k
        rw [Rat.div_def]
        exact k
      rw [val_rest g le1, val_frac hb, val_frac hb]
      have : ((d.b - hc d m i : Nat) : Rat) = (d.b : Rat) - hc d m i := by
        have e : d.b - hc d m i + hc d m i = d.b := Nat.sub_add_cancel (hh i)
        have := congrArg (Nat.cast : Nat → Rat) e
        push_cast at this
        grind
      rw [this]
      have n1 := cast_ne hb
      grind
    rw [e]
    refine (times_good (frac_good hB) (frac_good hb)).ext (frac_good hB) ?_
    rw [val_times (frac_good hB) (frac_good hb), val_frac hB, val_frac hb, val_frac hB]
    have n1 := cast_ne hb
    have n2 := cast_ne hB
    push_cast
    grind
end DM
set_option Elab.async false
namespace DM
open Uw86
/-! the order of a round doesn't matter for a round without a hit -/
theorem fold_good {d : Duel} {m : Nat} (hg : ∀ i, Good (hit d m i)) : ∀ (l : List Nat) (q : Frac), Good q → Good (l.foldl (fun q i => times q (rest (hit d m i))) q)
  | [], q, h => h
  | i :: l, q, h => fold_good hg l _ (times_good h (rest_good (hg i)))
theorem fold_val {d : Duel} {m : Nat} (hg : ∀ i, Good (hit d m i)) : ∀ (l : List Nat) (q : Frac), Good q → val (l.foldl (fun q i => times q (rest (hit d m i))) q) = val q * (l.foldr (fun i a => val (rest (hit d m i)) * a) 1)
  | [], q, h => by simp
  | i :: l, q, h => by
    rw [List.foldl_cons, fold_val hg l _ (times_good h (rest_good (hg i))), val_times h (rest_good (hg i)), List.foldr_cons]
    grind
theorem foldr_perm {f : Nat → Rat} {l k : List Nat} (h : l.Perm k) : l.foldr (fun i a => f i * a) 1 = k.foldr (fun i a => f i * a) 1 := by
  induction h with
  | nil => rfl
  | cons x _ ih => simp only [List.foldr_cons, ih]
  | swap x y l =>
    simp only [List.foldr_cons]
    grind
  | trans _ _ a b => exact a.trans b
theorem fold_perm {d : Duel} {m : Nat} (hg : ∀ i, Good (hit d m i)) {l k : List Nat} (h : l.Perm k) : l.foldl (fun q i => times q (rest (hit d m i))) one = k.foldl (fun q i => times q (rest (hit d m i))) one := by
  refine (fold_good hg l _ one_good).ext (fold_good hg k _ one_good) ?_
  rw [fold_val hg l _ one_good, fold_val hg k _ one_good, foldr_perm (f := fun i => val (rest (hit d m i))) h]
/-! finite facts -/
def Card (n m : Nat) : Nat := (members n m).length
theorem n_cases {n : Nat} (h2 : 2 ≤ n) (h4 : n ≤ 4) : n = 2 ∨ n = 3 ∨ n = 4 := by omega
theorem order_perm {n m i : Nat} (h2 : 2 ≤ n) (h4 : n ≤ 4) (hm : m < 2 ^ n) (hi : i < n) : (order n m i).Perm (members n m) := by
  rcases n_cases h2 h4 with rfl | rfl | rfl
  · have : ∀ m, m < 2 ^ 2 → ∀ i, i < 2 → (order 2 m i).Perm (members 2 m) := by decide
    exact this m hm i hi
  · have : ∀ m, m < 2 ^ 3 → ∀ i, i < 3 → (order 3 m i).Perm (members 3 m) := by decide
    exact this m hm i hi
  · have : ∀ m, m < 2 ^ 4 → ∀ i, i < 4 → (order 4 m i).Perm (members 4 m) := by decide
    exact this m hm i hi
theorem isIn_lt {n m i : Nat} (hm : m < 2 ^ n) (h : isIn m i = true) : i < n := by
  apply Classical.byContradiction
  intro hn
  have : m / 2 ^ i = 0 := Nat.div_eq_of_lt (Nat.lt_of_lt_of_le hm (Nat.pow_le_pow_right (by decide) (by omega)))
  unfold isIn at h
  rw [this] at h
  revert h
  decide
/-- what stands behind a hit -/
def nxt (n m i t : Nat) : Nat := ((order n m i).drop 1 |>.filter fun j => j != t).headD i

set_option synthInstance.maxSize 2000 in
set_option synthInstance.maxHeartbeats 2000000 in
theorem rest_facts {n m i t : Nat} (h2 : 2 ≤ n) (h4 : n ≤ 4) (hm : m < 2 ^ n) (hi : isIn m i = true) (ht : isIn m t = true) (hne : t ≠ i) :
    m - 2 ^ t < 2 ^ n ∧ m - 2 ^ t < m ∧ 0 < m - 2 ^ t ∧ Card n (m - 2 ^ t) + 1 = Card n m ∧ isIn (m - 2 ^ t) (nxt n m i t) = true ∧ isIn (m - 2 ^ t) i = true ∧
    nxt n m i t = (if 1 < (order n (m - 2 ^ t) i).length then (order n (m - 2 ^ t) i).getD 1 0 else i) := by
  have hi' := isIn_lt hm hi
  have ht' := isIn_lt hm ht
  rcases n_cases h2 h4 with rfl | rfl | rfl
  · have : ∀ m, m < 2 ^ 2 → ∀ i, i < 2 → ∀ t, t < 2 → isIn m i = true → isIn m t = true → t ≠ i → m - 2 ^ t < 2 ^ 2 ∧ m - 2 ^ t < m ∧ 0 < m - 2 ^ t ∧ Card 2 (m - 2 ^ t) + 1 = Card 2 m ∧ isIn (m - 2 ^ t) (nxt 2 m i t) = true ∧ isIn (m - 2 ^ t) i = true ∧
      nxt 2 m i t = (if 1 < (order 2 (m - 2 ^ t) i).length then (order 2 (m - 2 ^ t) i).getD 1 0 else i) := by decide
    exact this m hm i hi' t ht' hi ht hne
  · have : ∀ m, m < 2 ^ 3 → ∀ i, i < 3 → ∀ t, t < 3 → isIn m i = true → isIn m t = true → t ≠ i → m - 2 ^ t < 2 ^ 3 ∧ m - 2 ^ t < m ∧ 0 < m - 2 ^ t ∧ Card 3 (m - 2 ^ t) + 1 = Card 3 m ∧ isIn (m - 2 ^ t) (nxt 3 m i t) = true ∧ isIn (m - 2 ^ t) i = true ∧
      nxt 3 m i t = (if 1 < (order 3 (m - 2 ^ t) i).length then (order 3 (m - 2 ^ t) i).getD 1 0 else i) := by decide +kernel
    exact this m hm i hi' t ht' hi ht hne
  · have : ∀ m, m < 2 ^ 4 → ∀ i, i < 4 → ∀ t, t < 4 → isIn m i = true → isIn m t = true → t ≠ i → m - 2 ^ t < 2 ^ 4 ∧ m - 2 ^ t < m ∧ 0 < m - 2 ^ t ∧ Card 4 (m - 2 ^ t) + 1 = Card 4 m ∧ isIn (m - 2 ^ t) (nxt 4 m i t) = true ∧ isIn (m - 2 ^ t) i = true ∧
      nxt 4 m i t = (if 1 < (order 4 (m - 2 ^ t) i).length then (order 4 (m - 2 ^ t) i).getD 1 0 else i) := by decide +kernel
    exact this m hm i hi' t ht' hi ht hne
theorem card_le {n m : Nat} : Card n m ≤ n := by
  unfold Card members
  exact Nat.le_trans (List.length_filter_le _ _) (by simp)
theorem mem_order {n m i j : Nat} : j ∈ order n m i → isIn m j = true := by
  intro h
  unfold order at h
  exact (List.mem_filter.mp h).2
theorem mem_members {n m j : Nat} : j ∈ members n m ↔ j < n ∧ isIn m j = true := by
  unfold members
  rw [List.mem_filter, List.mem_range]
theorem order_len {n m i : Nat} (h2 : 2 ≤ n) (h4 : n ≤ 4) (hm : m < 2 ^ n) (hi : i < n) : (order n m i).length = Card n m := (order_perm h2 h4 hm hi).length_eq
/-! a duel as it may be -/
structure DOk (d : Duel) : Prop where
  n2 : 2 ≤ count d
  n4 : count d ≤ 4
  b1 : 1 ≤ d.b
  b60 : d.b ≤ 60
  hits : ∀ i, d.hits.getD i 0 ≤ d.b
  alen : d.aims.length = 2 ^ count d
  rlen : ∀ m, m < 2 ^ count d → (d.aims.getD m []).length = count d
  aims : ∀ m, m < 2 ^ count d → 2 ≤ Card (count d) m → ∀ i, isIn m i = true → aimOf d m i = count d ∨ (aimOf d m i ≠ i ∧ isIn m (aimOf d m i) = true)
theorem DOk.hc_le {d : Duel} (D : DOk d) (m i : Nat) : hc d m i ≤ d.b := by
  unfold hc
  split
  · exact D.hits i
  · omega
theorem DOk.hit_good {d : Duel} (D : DOk d) (m i : Nat) : Good (hit d m i) := by
  rw [hit_eq D.b1]
  exact frac_good D.b1
/-- the parts of a round of a set, one of it first -/
def round (d : Duel) (m i : Nat) : List (Nat × Nat × Nat) := pparts d m (d.b ^ 4) (order (count d) m i)
theorem pow_dvd {b k : Nat} (h : k ≤ 4) : b ^ k ∣ b ^ 4 := Nat.pow_dvd_pow b h
/-- what the specification does in a set of two or more -/
theorem chances_eq {d : Duel} (D : DOk d) {f m i : Nat} (hm : m < 2 ^ count d) (hi : isIn m i = true) (h2 : 2 ≤ Card (count d) m) :
    chances d (f + 1) m i = if round d m i = [] then (List.range (count d)).map (fun _ => zero) ++ [one] else
      (List.range (count d + 1)).map fun j => over (total ((round d m i).map fun c => times (frac c.1 (d.b ^ 4)) ((chances d f (m - 2 ^ c.2.2) (nxt (count d) m c.2.1 c.2.2)).getD j zero))) (frac ((round d m i).map (·.1)).sum (d.b ^ 4)) := by
  have hi' := isIn_lt hm hi
  have hB : 0 < d.b ^ 4 := Nat.pow_pos D.b1
  have hl : (order (count d) m i).length ≤ 4 := by
    rw [order_len D.n2 D.n4 hm hi']
    exact Nat.le_trans card_le D.n4
  have hdv := pow_dvd (b := d.b) hl
  have one_eq : one = frac (d.b ^ 4) (d.b ^ 4) := by
    refine one_good.ext (frac_good hB) ?_
    rw [val_one, val_frac hB]
    have := cast_ne hB
    grind
  have hq : quiet d m = frac (pleft d m (d.b ^ 4) (order (count d) m i)) (d.b ^ 4) := by
    unfold quiet
    rw [← fold_perm (D.hit_good m) (order_perm D.n2 D.n4 hm hi'), one_eq]
    exact pleft_val D.b1 hB (D.hc_le m) _ _ hdv
  have hs := parts_sum D.b1 (D.hc_le m) (order (count d) m i) (d.b ^ 4) hdv
  have hq1 : quiet d m = one ↔ round d m i = [] := by
    rw [hq, one_eq, frac_eq hB hB]
    constructor
    · intro e
      have e2 := Nat.eq_of_mul_eq_mul_right hB e
      have e3 : ((pparts d m (d.b ^ 4) (order (count d) m i)).map (·.1)).sum = 0 := by omega
      show pparts d m (d.b ^ 4) (order (count d) m i) = []
      cases hp : pparts d m (d.b ^ 4) (order (count d) m i) with
      | nil => rfl
      | cons c r =>
        have := (parts_pos _ _ c (by rw [hp]; exact List.mem_cons_self)).1
        rw [hp, List.map_cons, List.sum_cons] at e3
        omega
    · intro e
      have e' : pparts d m (d.b ^ 4) (order (count d) m i) = [] := e
      rw [e'] at hs
      simp at hs
      rw [hs]
  have hr : rest (quiet d m) = frac ((round d m i).map (·.1)).sum (d.b ^ 4) := by
    have g : Good (quiet d m) := by rw [hq]; exact frac_good hB
    have n1 := cast_ne hB
    have hs' : ((((round d m i).map (·.1)).sum : Nat) : Rat) + ((pleft d m (d.b ^ 4) (order (count d) m i) : Nat) : Rat) = ((d.b ^ 4 : Nat) : Rat) := by
      rw [← Rat.natCast_add]
      exact congrArg _ hs
    have le1 : val (quiet d m) ≤ 1 := by
      rw [hq, val_le_one (frac_good hB)]
      have hv := val_frac (u := pleft d m (d.b ^ 4) (order (count d) m i)) hB
      unfold frac
      split
      · exact Nat.zero_le _
      · exact Nat.div_le_div_right (by omega)
    refine (rest_good g).ext (frac_good hB) ?_
    rw [val_rest g le1, hq, val_frac hB, val_frac hB]
    generalize ((d.b ^ 4 : Nat) : Rat) = B at *
    grind
  have hm2 : ¬ (members (count d) m).length ≤ 1 := by
    have : (members (count d) m).length = Card (count d) m := rfl
    omega
  show (if (members (count d) m).length ≤ 1 then _ else _) = _
  rw [if_neg hm2]
  show (if quiet d m = one then _ else _) = _
  by_cases hp : round d m i = []
  · rw [if_pos (hq1.mpr hp), if_pos hp]
  · rw [if_neg (fun e => hp (hq1.mp e)), if_neg hp]
    have hf : (firsts d m one (order (count d) m i)).filter (fun x => x.1 != zero) = (round d m i).map fun c => (frac c.1 (d.b ^ 4), c.2.1, c.2.2) := by
      rw [one_eq]
      exact firsts_parts D.b1 hB (D.hc_le m) _ _ hdv
    apply List.map_congr_left
    intro j _
    rw [hr, hf, List.map_map, List.map_map]
    rfl
end DM
set_option Elab.async false
namespace DM
open Uw86
/-- whole weights that stand for chances -/
structure Rep (ws : List Nat) (c : List Frac) : Prop where
  pos : 0 < ws.sum
  eq : c = ws.map fun w => frac w ws.sum
theorem Rep.len {ws : List Nat} {c : List Frac} (R : Rep ws c) : c.length = ws.length := by rw [R.eq, List.length_map]
theorem frac_zero (l : Nat) : frac 0 l = zero := rfl
theorem Rep.getD {ws : List Nat} {c : List Frac} (R : Rep ws c) (j : Nat) : c.getD j zero = frac (ws.getD j 0) ws.sum := by
  rw [R.eq, List.getD_eq_getElem?_getD, List.getD_eq_getElem?_getD, List.getElem?_map]
  cases ws[j]? with
  | none => rfl
  | some x => rfl
theorem Rep.good {ws : List Nat} {c : List Frac} (R : Rep ws c) : ∀ x ∈ c, Good x := by
  intro x hx
  rw [R.eq] at hx
  obtain ⟨w, _, rfl⟩ := List.mem_map.mp hx
  exact frac_good R.pos
/-- one outcome is certain -/
def sure (n k : Nat) : List Nat := (List.replicate (n + 1) 0).set k 1
theorem sum_one : ∀ (n k : Nat), k < n → ((List.replicate n 0).set k 1).sum = 1
  | 0, k, h => by omega
  | n + 1, 0, _ => by simp [List.replicate_succ]
  | n + 1, k + 1, h => by
    rw [List.replicate_succ, List.set_cons_succ, List.sum_cons, sum_one n k (by omega)]
theorem rep_sure {n k : Nat} (h : k ≤ n) : Rep (sure n k) ((List.range (n + 1)).map fun j => if j = k then one else zero) := by
  have hs : (sure n k).sum = 1 := by
    exact sum_one (n + 1) k (by omega)
  refine ⟨by omega, ?_⟩
  rw [hs]
  apply List.ext_getElem
  · simp [sure]
  · intro j h1 h2
    simp only [List.getElem_map, List.getElem_range]
    unfold sure
    rw [List.getElem_set]
    by_cases e : j = k
    · subst e
      simp
      rfl
    · rw [if_neg e, if_neg (fun q => e q.symm)]
      simp
      rfl
/-! parts, mixed -/
abbrev Pt := Nat × List Nat
def psum (l : List Pt) : Nat := (l.map (·.1)).sum
def pbelow (l : List Pt) : Nat := l.foldl (fun a p => a * p.2.sum) 1
def madd (B : Nat) (t : List Nat) (p : Pt) : List Nat := (t.zip p.2).map fun x => x.1 + (p.1 * (B / p.2.sum)) * x.2
def mixd (L : Nat) (l : List Pt) : List Nat := l.foldl (madd (pbelow l)) (List.replicate L 0)
theorem pbelow_go : ∀ (l : List Pt) (a : Nat), l.foldl (fun a p => a * p.2.sum) a = a * l.foldl (fun a p => a * p.2.sum) 1
  | [], a => by simp
  | p :: l, a => by
    rw [List.foldl_cons, List.foldl_cons, pbelow_go l (a * p.2.sum), pbelow_go l (1 * p.2.sum)]
    grind
theorem pbelow_cons (p : Pt) (l : List Pt) : pbelow (p :: l) = p.2.sum * pbelow l := by
  unfold pbelow
  rw [List.foldl_cons, pbelow_go, Nat.one_mul]
theorem pbelow_dvd : ∀ (l : List Pt) (p : Pt), p ∈ l → p.2.sum ∣ pbelow l
  | [], p, h => by cases h
  | q :: l, p, h => by
    rw [pbelow_cons]
    rcases List.mem_cons.mp h with rfl | h
    · exact Nat.dvd_mul_right _ _
    · exact Nat.dvd_trans (pbelow_dvd l p h) (Nat.dvd_mul_left _ _)
theorem pbelow_pos : ∀ (l : List Pt), (∀ p ∈ l, 0 < p.2.sum) → 0 < pbelow l
  | [], _ => Nat.one_pos
  | p :: l, h => by
    rw [pbelow_cons]
    exact Nat.mul_pos (h p List.mem_cons_self) (pbelow_pos l fun q hq => h q (List.mem_cons_of_mem _ hq))
theorem pbelow_le {T : Nat} (hT : 1 ≤ T) : ∀ (l : List Pt), (∀ p ∈ l, p.2.sum ≤ T) → pbelow l ≤ T ^ l.length
  | [], _ => Nat.le_refl _
  | p :: l, h => by
    rw [pbelow_cons, List.length_cons, Nat.pow_succ, Nat.mul_comm]
    exact Nat.mul_le_mul (pbelow_le hT l fun q hq => h q (List.mem_cons_of_mem _ hq)) (h p List.mem_cons_self)
theorem madd_len {B : Nat} {t : List Nat} {p : Pt} (h : p.2.length = t.length) : (madd B t p).length = t.length := by
  unfold madd
  rw [List.length_map, List.length_zip, h, Nat.min_self]
theorem madd_get {B : Nat} {t : List Nat} {p : Pt} (h : p.2.length = t.length) (j : Nat) : (madd B t p).getD j 0 = t.getD j 0 + (p.1 * (B / p.2.sum)) * p.2.getD j 0 := by
  simp only [List.getD_eq_getElem?_getD]
  unfold madd
  rw [List.getElem?_map]
  by_cases hj : j < t.length
  · have hj2 : j < p.2.length := by omega
    rw [List.getElem?_eq_getElem (by rw [List.length_zip]; omega), List.getElem?_eq_getElem hj, List.getElem?_eq_getElem hj2, List.getElem_zip]
    rfl
  · have hj2 : ¬ j < p.2.length := by omega
    rw [List.getElem?_eq_none (by rw [List.length_zip]; omega), List.getElem?_eq_none (by omega), List.getElem?_eq_none (by omega)]
    rfl
theorem zip_sum (c : Nat) : ∀ (t w : List Nat), w.length = t.length → ((t.zip w).map fun x => x.1 + c * x.2).sum = t.sum + c * w.sum
  | [], [], _ => rfl
  | a :: t, x :: w, h => by
    have ih := zip_sum c t w (by simpa using h)
    simp only [List.zip_cons_cons, List.map_cons, List.sum_cons, ih]
    grind
theorem mix_go {L B : Nat} : ∀ (l : List Pt) (t : List Nat), t.length = L → (∀ p ∈ l, p.2.length = L ∧ 0 < p.2.sum ∧ p.2.sum ∣ B) →
    (l.foldl (madd B) t).length = L ∧ (l.foldl (madd B) t).sum = t.sum + B * psum l ∧
    ∀ j, ((l.foldl (madd B) t).getD j 0 : Rat) = (t.getD j 0 : Rat) + (B : Rat) * rs (l.map fun p => (p.1 : Rat) * ((p.2.getD j 0 : Rat) / (p.2.sum : Nat)))
  | [], t, h, _ => by
    refine ⟨h, by simp [psum], fun j => ?_⟩
    simp [rs]
    grind
  | p :: l, t, h, hl => by
    obtain ⟨h1, h2, h3⟩ := hl p List.mem_cons_self
    have e1 : (madd B t p).length = L := by rw [madd_len (by omega)]; exact h
    obtain ⟨i1, i2, i3⟩ := mix_go l (madd B t p) e1 fun q hq => hl q (List.mem_cons_of_mem _ hq)
    obtain ⟨c, rfl⟩ := h3
    have ec : p.2.sum * c / p.2.sum = c := Nat.mul_div_cancel_left _ h2
    refine ⟨i1, ?_, fun j => ?_⟩
    · rw [List.foldl_cons, i2]
      unfold madd
      rw [zip_sum _ _ _ (by omega), ec]
      unfold psum
      rw [List.map_cons, List.sum_cons]
      grind
    · rw [List.foldl_cons, i3 j, madd_get (by omega), ec]
      simp only [List.map_cons, rs]
      have n1 := cast_ne h2
      push_cast
      generalize rs (l.map fun p => (p.1 : Rat) * ((p.2.getD j 0 : Rat) / (p.2.sum : Nat))) = R
      grind
theorem rs_congr {α : Type} {f g : α → Rat} : ∀ (l : List α), (∀ x ∈ l, f x = g x) → rs (l.map f) = rs (l.map g)
  | [], _ => rfl
  | x :: l, h => by
    simp only [List.map_cons, rs]
    rw [h x List.mem_cons_self, rs_congr l fun y hy => h y (List.mem_cons_of_mem _ hy)]
/-- parts with weights, each standing for chances, mixed: they stand for what the specification reckons -/
theorem rep_mix {L B : Nat} {α : Type} (hB : 0 < B) (l : List α) (c : α → Nat) (W : α → List Nat) (C : α → List Frac) (h0 : l ≠ []) (hc : ∀ x ∈ l, 0 < c x) (hW : ∀ x ∈ l, (W x).length = L) (hR : ∀ x ∈ l, Rep (W x) (C x)) :
    Rep (mixd L (l.map fun x => (c x, W x))) ((List.range L).map fun j => over (total (l.map fun x => times (frac (c x) B) ((C x).getD j zero))) (frac (l.map c).sum B)) := by
  have hl : ∀ p ∈ (l.map fun x => (c x, W x)), p.2.length = L ∧ 0 < p.2.sum ∧ p.2.sum ∣ pbelow (l.map fun x => (c x, W x)) := by
    intro p hp
    have := pbelow_dvd _ p hp
    obtain ⟨x, hx, rfl⟩ := List.mem_map.mp hp
    exact ⟨hW x hx, (hR x hx).pos, this⟩
  have hpos : 0 < pbelow (l.map fun x => (c x, W x)) := pbelow_pos _ fun p hp => (hl p hp).2.1
  obtain ⟨m1, m2, m3⟩ := mix_go (L := L) (B := pbelow (l.map fun x => (c x, W x))) (l.map fun x => (c x, W x)) (List.replicate L 0) (by simp) hl
  have ep : psum (l.map fun x => (c x, W x)) = (l.map c).sum := by
    unfold psum
    rw [List.map_map]
    rfl
  have hsum : 0 < (l.map c).sum := by
    cases l with
    | nil => exact absurd rfl h0
    | cons x r =>
      have := hc x List.mem_cons_self
      rw [List.map_cons, List.sum_cons]
      omega
  change (mixd L (l.map fun x => (c x, W x))).length = L at m1
  change (mixd L (l.map fun x => (c x, W x))).sum = _ at m2
  have z : (List.replicate L 0).sum = 0 := by simp
  rw [z, Nat.zero_add, ep] at m2
  have sp : 0 < (mixd L (l.map fun x => (c x, W x))).sum := by
    rw [m2]
    exact Nat.mul_pos hpos hsum
  refine ⟨sp, ?_⟩
  apply List.ext_getElem
  · rw [List.length_map, List.length_map, List.length_range, m1]
  · intro j h1 h2
    simp only [List.getElem_map, List.getElem_range]
    have hj : j < (mixd L (l.map fun x => (c x, W x))).length := by
      rw [List.length_map] at h2
      exact h2
    have ej : (mixd L (l.map fun x => (c x, W x)))[j] = (mixd L (l.map fun x => (c x, W x))).getD j 0 := by
      rw [List.getD_eq_getElem?_getD, List.getElem?_eq_getElem hj]
      rfl
    have v := m3 j
    change ((mixd L (l.map fun x => (c x, W x))).getD j 0 : Rat) = _ at v
    rw [ej]
    have gt : ∀ y ∈ (l.map fun x => times (frac (c x) B) ((C x).getD j zero)), Good y := by
      intro y hy
      obtain ⟨x, hx, rfl⟩ := List.mem_map.mp hy
      rw [(hR x hx).getD j]
      exact times_good (frac_good hB) (frac_good (hR x hx).pos)
    have n1 := cast_ne hB
    have n2 := cast_ne hsum
    have n3 := cast_ne hpos
    have vr : val (frac (l.map c).sum B) ≠ 0 := by
      rw [val_frac hB]
      grind
    refine (over_good (total_good gt) vr).ext (frac_good sp) ?_
    rw [val_over (total_good gt) (frac_good hB) vr, val_frac hB, val_frac sp, val_total gt, v, m2, List.map_map, List.map_map]
    have e1 : rs (l.map (val ∘ fun x => times (frac (c x) B) ((C x).getD j zero))) = (B : Rat)⁻¹ * rs (l.map ((fun p : Pt => (p.1 : Rat) * ((p.2.getD j 0 : Rat) / (p.2.sum : Nat))) ∘ fun x => (c x, W x))) := by
      rw [← rs_mul, List.map_map]
      apply rs_congr
      intro x hx
      have gx := frac_good (u := (W x).getD j 0) (hR x hx).pos
      show val (times (frac (c x) B) ((C x).getD j zero)) = (B : Rat)⁻¹ * ((c x : Rat) * (((W x).getD j 0 : Rat) / ((W x).sum : Nat)))
      rw [(hR x hx).getD j, val_times (frac_good hB) gx, val_frac hB, val_frac (hR x hx).pos]
      grind
    rw [e1]
    have z2 : (((List.replicate L 0).getD j 0 : Nat) : Rat) = 0 := by
      have : (List.replicate L 0).getD j 0 = 0 := by
        simp [List.getD_eq_getElem?_getD, List.getElem?_replicate]
        split <;> rfl
      rw [this]
      simp
    rw [z2]
    push_cast
    generalize rs (l.map ((fun p : Pt => (p.1 : Rat) * ((p.2.getD j 0 : Rat) / (p.2.sum : Nat))) ∘ fun x => (c x, W x))) = R
    push_cast at n2
    generalize (((l.map c).sum : Nat) : Rat) = S at *
    grind
end DM
set_option Elab.async false
namespace DM
open Uw86
/-- what the parts of a round tell -/
theorem round_facts {d : Duel} (D : DOk d) {m i : Nat} (hm : m < 2 ^ count d) (h2 : 2 ≤ Card (count d) m) {c : Nat × Nat × Nat} (hc : c ∈ round d m i) :
    0 < c.1 ∧ isIn m c.2.1 = true ∧ c.2.2 = aimOf d m c.2.1 ∧ isIn m c.2.2 = true ∧ c.2.2 ≠ c.2.1 := by
  obtain ⟨a, b, e, f⟩ := parts_pos _ _ c hc
  have hi := mem_order b
  rcases D.aims m hm h2 c.2.1 hi with q | ⟨q1, q2⟩
  · omega
  · exact ⟨a, hi, e, by rw [e]; exact q2, by rw [e]; exact q1⟩
theorem chances_fuel {d : Duel} (D : DOk d) : ∀ (f g m i : Nat), m < 2 ^ count d → isIn m i = true → 1 ≤ Card (count d) m → Card (count d) m ≤ f → Card (count d) m ≤ g → chances d f m i = chances d g m i
  | 0, g, m, i, hm, hi, h1, hf, hg => by omega
  | f + 1, 0, m, i, hm, hi, h1, hf, hg => by omega
  | f + 1, g + 1, m, i, hm, hi, h1, hf, hg => by
    by_cases h2 : 2 ≤ Card (count d) m
    · rw [chances_eq D hm hi h2, chances_eq D hm hi h2]
      split
      · rfl
      · apply List.map_congr_left
        intro j _
        congr 2
        apply List.map_congr_left
        intro c hc
        obtain ⟨_, c1, _, c3, c4⟩ := round_facts D hm h2 hc
        obtain ⟨r1, r2, r3, r4, r5, _⟩ := rest_facts D.n2 D.n4 hm c1 c3 c4
        rw [chances_fuel D f g _ _ r1 r5 (by omega) (by omega) (by omega)]
    · have e : (members (count d) m).length ≤ 1 := by
        show Card (count d) m ≤ 1
        omega
      show (if (members (count d) m).length ≤ 1 then _ else _) = (if (members (count d) m).length ≤ 1 then _ else _)
      rw [if_pos e, if_pos e]
set_option synthInstance.maxSize 2000 in
set_option synthInstance.maxHeartbeats 2000000 in
theorem one_alone {n m i : Nat} (h2 : 2 ≤ n) (h4 : n ≤ 4) (hm : m < 2 ^ n) (hi : isIn m i = true) (h1 : Card n m ≤ 1) : ∀ j, j < n → (isIn m j = true ↔ j = i) := by
  have hi' := isIn_lt hm hi
  rcases n_cases h2 h4 with rfl | rfl | rfl
  · have : ∀ m, m < 2 ^ 2 → ∀ i, i < 2 → isIn m i = true → Card 2 m ≤ 1 → ∀ j, j < 2 → (isIn m j = true ↔ j = i) := by decide
    exact this m hm i hi' hi h1
  · have : ∀ m, m < 2 ^ 3 → ∀ i, i < 3 → isIn m i = true → Card 3 m ≤ 1 → ∀ j, j < 3 → (isIn m j = true ↔ j = i) := by decide
    exact this m hm i hi' hi h1
  · have : ∀ m, m < 2 ^ 4 → ∀ i, i < 4 → isIn m i = true → Card 4 m ≤ 1 → ∀ j, j < 4 → (isIn m j = true ↔ j = i) := by decide
    exact this m hm i hi' hi h1
theorem range_snoc {α : Type} (n : Nat) (f : Nat → α) : (List.range (n + 1)).map f = (List.range n).map f ++ [f n] := by
  rw [List.range_succ, List.map_append]
  rfl
theorem rep_one {d : Duel} (D : DOk d) {m i : Nat} (hm : m < 2 ^ count d) (hi : isIn m i = true) (h1 : Card (count d) m ≤ 1) : Rep (sure (count d) i) (chancesOf d m i) := by
  have hi' := isIn_lt hm hi
  have R := rep_sure (n := count d) (k := i) (by omega)
  have e : (members (count d) m).length ≤ 1 := h1
  have q : chancesOf d m i = (List.range (count d + 1)).map fun j => if j = i then one else zero := by
    unfold chancesOf
    show (if (members (count d) m).length ≤ 1 then _ else _) = _
    rw [if_pos e, range_snoc]
    have : ¬ count d = i := by omega
    rw [if_neg this]
    congr 1
    apply List.map_congr_left
    intro j hj
    have := one_alone D.n2 D.n4 hm hi h1 j (List.mem_range.mp hj)
    by_cases hji : j = i
    · rw [if_pos hji, if_pos (this.mpr hji)]
    · rw [if_neg hji, if_neg (fun z => hji (this.mp z))]
  rw [q]
  exact R
theorem rep_step {d : Duel} (D : DOk d) {m i : Nat} (hm : m < 2 ^ count d) (hi : isIn m i = true) (h2 : 2 ≤ Card (count d) m) (W : Nat × Nat × Nat → List Nat)
    (hW : ∀ c ∈ round d m i, (W c).length = count d + 1 ∧ Rep (W c) (chancesOf d (m - 2 ^ c.2.2) (nxt (count d) m c.2.1 c.2.2))) :
    Rep (if round d m i = [] then sure (count d) (count d) else mixd (count d + 1) ((round d m i).map fun c => (c.1, W c))) (chancesOf d m i) := by
  have hB : 0 < d.b ^ 4 := Nat.pow_pos D.b1
  unfold chancesOf
  rw [chances_eq D hm hi h2]
  by_cases hr : round d m i = []
  · rw [if_pos hr, if_pos hr]
    have R := rep_sure (n := count d) (k := count d) (Nat.le_refl _)
    rw [range_snoc, if_pos rfl] at R
    have : ((List.range (count d)).map fun j => if j = count d then one else zero) = (List.range (count d)).map fun _ => zero := by
      apply List.map_congr_left
      intro j hj
      have := List.mem_range.mp hj
      rw [if_neg (by omega)]
    rw [this] at R
    exact R
  · rw [if_neg hr, if_neg hr]
    refine rep_mix hB (round d m i) (·.1) W (fun c => chances d (count d) (m - 2 ^ c.2.2) (nxt (count d) m c.2.1 c.2.2)) hr (fun c hc => (round_facts D hm h2 hc).1) (fun c hc => (hW c hc).1) fun c hc => ?_
    have R := (hW c hc).2
    obtain ⟨_, c1, _, c3, c4⟩ := round_facts D hm h2 hc
    obtain ⟨r1, r2, r3, r4, r5, _⟩ := rest_facts D.n2 D.n4 hm c1 c3 c4
    unfold chancesOf at R
    have le := card_le (n := count d) (m := m)
    show Rep (W c) (chances d (count d) (m - 2 ^ c.2.2) (nxt (count d) m c.2.1 c.2.2))
    rw [chances_fuel D (count d) (count d + 1) _ _ r1 r5 (by omega) (by omega) (by omega)]
    exact R
/-! how great the weights get -/
def Bd : Nat → Nat
  | 0 => 1
  | 1 => 1
  | k + 2 => Bd (k + 1) ^ (k + 2) * 60 ^ 4
theorem Bd_pos : ∀ k, 1 ≤ Bd k
  | 0 => Nat.le_refl _
  | 1 => Nat.le_refl _
  | k + 2 => Nat.mul_pos (Nat.pow_pos (Bd_pos (k + 1))) (by decide)
theorem Bd_lt {k : Nat} (h : k ≤ 4) : Bd k < 2 ^ 410 := by
  have : ∀ k, k ≤ 4 → Bd k < 2 ^ 410 := by decide +kernel
  exact this k h
theorem round_sum {d : Duel} (D : DOk d) {m i : Nat} (hm : m < 2 ^ count d) (hi : isIn m i = true) : ((round d m i).map (·.1)).sum ≤ d.b ^ 4 := by
  have hl : (order (count d) m i).length ≤ 4 := by
    rw [order_len D.n2 D.n4 hm (isIn_lt hm hi)]
    exact Nat.le_trans card_le D.n4
  have hs := parts_sum D.b1 (D.hc_le m) (order (count d) m i) (d.b ^ 4) (pow_dvd hl)
  show ((pparts d m (d.b ^ 4) (order (count d) m i)).map (·.1)).sum ≤ _
  omega
theorem sum_sure {n k : Nat} (h : k ≤ n) : (sure n k).sum = 1 := sum_one (n + 1) k (by omega)
theorem len_sure {n k : Nat} : (sure n k).length = n + 1 := by simp [sure]
theorem step_bound {d : Duel} (D : DOk d) {m i : Nat} (hm : m < 2 ^ count d) (hi : isIn m i = true) (h2 : 2 ≤ Card (count d) m) (W : Nat × Nat × Nat → List Nat)
    (hW : ∀ c ∈ round d m i, (W c).length = count d + 1 ∧ 0 < (W c).sum ∧ (W c).sum ≤ Bd (Card (count d) m - 1)) :
    (mixd (count d + 1) ((round d m i).map fun c => (c.1, W c))).length = count d + 1 ∧ pbelow ((round d m i).map fun c => (c.1, W c)) ≤ Bd (Card (count d) m) ∧
    (mixd (count d + 1) ((round d m i).map fun c => (c.1, W c))).sum ≤ Bd (Card (count d) m) := by
  have hl : ∀ p ∈ ((round d m i).map fun c => (c.1, W c)), p.2.length = count d + 1 ∧ 0 < p.2.sum ∧ p.2.sum ∣ pbelow ((round d m i).map fun c => (c.1, W c)) := by
    intro p hp
    have := pbelow_dvd _ p hp
    obtain ⟨x, hx, rfl⟩ := List.mem_map.mp hp
    exact ⟨(hW x hx).1, (hW x hx).2.1, this⟩
  obtain ⟨m1, m2, _⟩ := mix_go (L := count d + 1) (B := pbelow ((round d m i).map fun c => (c.1, W c))) ((round d m i).map fun c => (c.1, W c)) (List.replicate (count d + 1) 0) (by simp) hl
  have ep : psum ((round d m i).map fun c => (c.1, W c)) = ((round d m i).map (·.1)).sum := by
    unfold psum
    rw [List.map_map]
    rfl
  have hle : ((round d m i).map fun c => (c.1, W c)).length ≤ Card (count d) m := by
    rw [List.length_map]
    have := parts_len (d := d) (m := m) (order (count d) m i) (d.b ^ 4)
    rw [order_len D.n2 D.n4 hm (isIn_lt hm hi)] at this
    exact this
  have hT := Bd_pos (Card (count d) m - 1)
  have p1 : pbelow ((round d m i).map fun c => (c.1, W c)) ≤ Bd (Card (count d) m - 1) ^ Card (count d) m := by
    refine Nat.le_trans (pbelow_le hT _ fun p hp => ?_) (Nat.pow_le_pow_right hT hle)
    obtain ⟨x, hx, rfl⟩ := List.mem_map.mp hp
    exact (hW x hx).2.2
  have eB : Bd (Card (count d) m) = Bd (Card (count d) m - 1) ^ Card (count d) m * 60 ^ 4 := by
    obtain ⟨k, hk⟩ : ∃ k, Card (count d) m = k + 2 := ⟨Card (count d) m - 2, by omega⟩
    rw [hk]
    rfl
  have hb : d.b ^ 4 ≤ 60 ^ 4 := Nat.pow_le_pow_left D.b60 4
  have hs := Nat.le_trans (round_sum D hm hi) hb
  refine ⟨m1, ?_, ?_⟩
  · rw [eB]
    refine Nat.le_trans p1 (Nat.le_mul_of_pos_right _ (by decide))
  · show (((round d m i).map fun c => (c.1, W c)).foldl (madd (pbelow ((round d m i).map fun c => (c.1, W c)))) (List.replicate (count d + 1) 0)).sum ≤ _
    rw [m2, ep, eB]
    have z : (List.replicate (count d + 1) 0).sum = 0 := by simp
    rw [z, Nat.zero_add]
    exact Nat.mul_le_mul p1 hs
end DM
set_option Elab.async false
namespace DM
open Uw86
/-! the aims as at first -/
theorem keen_go (hits : List Nat) : ∀ (l : List Nat) (k : Nat), l.foldl (fun k i => if hits.getD k 0 < hits.getD i 0 then i else k) k = k ∨ l.foldl (fun k i => if hits.getD k 0 < hits.getD i 0 then i else k) k ∈ l
  | [], k => .inl rfl
  | i :: l, k => by
    rw [List.foldl_cons]
    rcases keen_go hits l (if hits.getD k 0 < hits.getD i 0 then i else k) with e | e
    · rw [e]
      split
      · exact .inr List.mem_cons_self
      · exact .inl rfl
    · exact .inr (List.mem_cons_of_mem _ e)
theorem keen_mem (hits : List Nat) {l : List Nat} (h : l ≠ []) : keenest hits l ∈ l := by
  cases l with
  | nil => exact absurd rfl h
  | cons x l =>
    unfold keenest
    rcases keen_go hits (x :: l) ((x :: l).headD 0) with e | e
    · rw [e]
      exact List.mem_cons_self
    · exact e
theorem count_duel (b : Nat) (hits : List Nat) : count (duel b hits) = hits.length := rfl
theorem firstAims_len (hits : List Nat) : (firstAims hits).length = 2 ^ hits.length := by
  unfold firstAims
  rw [List.length_map, List.length_range]
theorem firstAims_row {hits : List Nat} {m : Nat} (hm : m < 2 ^ hits.length) : (firstAims hits).getD m [] = (List.range hits.length).map fun i => if isIn m i = true ∧ 2 ≤ (members hits.length m).length then keenest hits ((members hits.length m).filter fun j => j != i) else hits.length := by
  unfold firstAims
  rw [List.getD_eq_getElem?_getD, List.getElem?_map, List.getElem?_range hm]
  rfl
theorem aimOf_first {b : Nat} {hits : List Nat} {m i : Nat} (hm : m < 2 ^ hits.length) (hi : i < hits.length) :
    aimOf (duel b hits) m i = if isIn m i = true ∧ 2 ≤ (members hits.length m).length then keenest hits ((members hits.length m).filter fun j => j != i) else hits.length := by
  unfold aimOf
  show ((firstAims hits).getD m []).getD i (count (duel b hits)) = _
  rw [firstAims_row hm, List.getD_eq_getElem?_getD, List.getElem?_map, List.getElem?_range hi]
  rfl
theorem others_ne {n m i : Nat} (h2 : 2 ≤ Card n m) : ((members n m).filter fun j => j != i) ≠ [] := by
  intro e
  have hn : (members n m).Nodup := by
    unfold members
    exact List.Pairwise.filter _ List.nodup_range
  have : ∀ j ∈ members n m, j = i := by
    intro j hj
    have := List.filter_eq_nil_iff.mp e j hj
    simpa using this
  have h3 : (members n m).length = Card n m := rfl
  match hq : members n m with
  | [] => rw [hq] at h3; simp at h3; omega
  | [x] => rw [hq] at h3; simp at h3; omega
  | x :: y :: r =>
    rw [hq] at hn this
    have a := this x List.mem_cons_self
    have b := this y (List.mem_cons_of_mem _ List.mem_cons_self)
    rw [a, b] at hn
    simp at hn
theorem DOk_duel {b : Nat} {hits : List Nat} (h2 : 2 ≤ hits.length) (h4 : hits.length ≤ 4) (hb : 1 ≤ b) (hb2 : b ≤ 60) (hh : ∀ a ∈ hits, a ≤ b) : DOk (duel b hits) := by
  refine ⟨h2, h4, hb, hb2, fun i => ?_, firstAims_len hits, fun m hm => ?_, fun m hm hc i hi => ?_⟩
  · show hits.getD i 0 ≤ b
    rw [List.getD_eq_getElem?_getD]
    cases e : hits[i]? with
    | none => exact Nat.zero_le _
    | some x => exact hh x (List.mem_of_getElem? e)
  · show ((firstAims hits).getD m []).length = hits.length
    rw [firstAims_row (hits := hits) hm, List.length_map, List.length_range]
  · have hi' : i < hits.length := isIn_lt hm hi
    right
    rw [aimOf_first (hits := hits) hm hi', if_pos ⟨hi, hc⟩]
    have := keen_mem hits (others_ne (n := hits.length) (i := i) hc)
    obtain ⟨q1, q2⟩ := List.mem_filter.mp this
    refine ⟨by simpa using q2, (mem_members.mp q1).2⟩
theorem DOk_init : DOk init := DOk_duel (by decide) (by decide) (by decide) (by decide) (by decide)
/-! an aim changed -/
theorem count_with (d : Duel) (m i a : Nat) : count (withAim d m i a) = count d := rfl
theorem row_with {d : Duel} {m i a m' : Nat} : (withAim d m i a).aims.getD m' [] = if m' = m then (d.aims.getD m []).set i a else d.aims.getD m' [] := by
  unfold withAim
  simp only [List.getD_eq_getElem?_getD, List.getElem?_modify]
  by_cases e : m' = m
  · subst e
    rw [if_pos rfl]
    cases d.aims[m']? with
    | none => simp
    | some r => simp
  · rw [if_neg e]
    have : ¬ m = m' := fun q => e q.symm
    cases d.aims[m']? with
    | none => simp
    | some r => simp [this]
theorem aimOf_with {d : Duel} (D : DOk d) {m i a m' i' : Nat} (hm : m < 2 ^ count d) (hi : i < count d) :
    aimOf (withAim d m i a) m' i' = if m' = m ∧ i' = i then a else aimOf d m' i' := by
  unfold aimOf
  rw [row_with, count_with]
  by_cases e : m' = m
  · subst e
    rw [if_pos rfl]
    by_cases e2 : i' = i
    · subst e2
      rw [if_pos ⟨rfl, rfl⟩, List.getD_eq_getElem?_getD, List.getElem?_set_self (by rw [D.rlen _ hm]; exact hi)]
      rfl
    · rw [if_neg (fun q => e2 q.2), List.getD_eq_getElem?_getD, List.getElem?_set_ne (fun q => e2 q.symm), ← List.getD_eq_getElem?_getD]
  · rw [if_neg e, if_neg (fun q => e q.1)]
theorem mem_may {d : Duel} {m i a : Nat} : a ∈ mayAim d m i ↔ a = count d ∨ (a < count d ∧ isIn m a = true ∧ a ≠ i) := by
  unfold mayAim
  rw [List.mem_append, List.mem_filter, mem_members, List.mem_singleton]
  simp
  constructor
  · rintro (⟨⟨a, b⟩, c⟩ | h)
    · exact .inr ⟨a, b, c⟩
    · exact .inl h
  · rintro (h | ⟨a, b, c⟩)
    · exact .inr h
    · exact .inl ⟨⟨a, b⟩, c⟩
theorem DOk_with {d : Duel} (D : DOk d) {m i a : Nat} (hm : m < 2 ^ count d) (hi : isIn m i = true) (ha : a ∈ mayAim d m i) : DOk (withAim d m i a) := by
  have hi' := isIn_lt hm hi
  refine ⟨D.n2, D.n4, D.b1, D.b60, D.hits, ?_, fun m' hm' => ?_, fun m' hm' hc i' hj => ?_⟩
  · show (d.aims.modify m _).length = _
    rw [List.length_modify]
    exact D.alen
  · rw [row_with]
    split
    · rw [List.length_set]
      exact D.rlen m hm
    · exact D.rlen m' hm'
  · rw [aimOf_with D hm hi', count_with]
    split
    · rename_i e
      obtain ⟨rfl, rfl⟩ := e
      rcases mem_may.mp ha with q | ⟨_, q1, q2⟩
      · exact .inl q
      · exact .inr ⟨q2, q1⟩
    · exact D.aims m' hm' hc i' hj
/-! comparing chances -/
theorem less_frac {u l v k : Nat} (hl : 0 < l) (hk : 0 < k) : less (frac u l) (frac v k) = decide (u * k < v * l) := by
  have := less_iff (frac_good (u := u) hl) (frac_good (u := v) hk)
  rw [val_frac hl, val_frac hk, div_lt_iff hl hk] at this
  cases h : less (frac u l) (frac v k) with
  | true => exact (decide_eq_true (this.mp h)).symm
  | false =>
    refine (decide_eq_false fun q => ?_).symm
    rw [this.mpr q] at h
    cases h
end DM
set_option Elab.async false
namespace DM
open Uw86
/-! the calls, read off the list -/
def InB (z : Int) : Prop := 0 ≤ z ∧ z ≤ 4294967295
inductive CallAt : List Int → Uw86.Call → List Int → Prop
  | duel {b : Int} {hits t : List Int} (hb : InB b) (hh : ∀ z ∈ hits, InB z) (hl : hits.length ≤ 40) : CallAt (0 :: b :: (hits.length : Int) :: (hits ++ t)) (.duel b.toNat (hits.map Int.toNat)) t
  | aim {s i a : Int} {t : List Int} (hs : InB s) (hi : InB i) (ha : InB a) : CallAt (1 :: s :: i :: a :: t) (.aim s.toNat i.toNat a.toNat) t
  | aims {s : Int} {t : List Int} (hs : InB s) : CallAt (2 :: s :: t) (.aims s.toNat) t
  | all {i : Int} {t : List Int} (hi : InB i) : CallAt (3 :: i :: t) (.all i.toNat) t
  | set {s i : Int} {t : List Int} (hs : InB s) (hi : InB i) : CallAt (4 :: s :: i :: t) (.set s.toNat i.toNat) t
  | best {s i : Int} {t : List Int} (hs : InB s) (hi : InB i) : CallAt (5 :: s :: i :: t) (.best s.toNat i.toNat) t
  | better {t : List Int} : CallAt (6 :: t) .better t
  | improve {k : Int} {t : List Int} (hk : InB k) : CallAt (7 :: k :: t) (.improve k.toNat) t
  | air {t : List Int} : CallAt (8 :: t) .air t
inductive Parsed : List Int → List Uw86.Call → Prop
  | nil : Parsed [] []
  | cons {l t : List Int} {k : Uw86.Call} {ks : List Uw86.Call} : CallAt l k t → Parsed t ks → Parsed l (k :: ks)
def runs : Duel → List Uw86.Call → List Int
  | _, [] => []
  | d, k :: ks => ((Uw86.step d k).2.length : Int) :: ((Uw86.step d k).2 ++ runs (Uw86.step d k).1 ks)
theorem inB_of {z : Int} (h : PyInside.within 0 4294967295 z = true) : InB z := by
  unfold PyInside.within at h
  unfold InB
  simpa using h
theorem nat_of {z : Int} (h : InB z) : Uw86Neutral.nat z = true := by
  unfold Uw86Neutral.nat
  obtain ⟨a, b⟩ := h
  simp
  omega
/-- one call -/
theorem call_at {p : Int} {r t : List Int} {c : List (List Int)} (h : PyFlat.call PyUw86.shape (p :: r) = some (c, t)) (hi : PyInside.call PyUw86.bound c = true) :
    ∃ k, CallAt (p :: r) k t ∧ Uw86Neutral.callOf ((PyUw86.whole c).headD []) = some k := by
  unfold PyFlat.call at h
  unfold PyUw86.shape at h
  by_cases h0 : p = 0
  · subst h0
    simp only [if_true] at h
    match r, h with
    | [], h => simp at h
    | [b], h => simp [PyFlat.rows, PyFlat.row] at h
    | b :: n :: q, h =>
      simp only [List.length_cons, List.drop_succ_cons, List.drop_zero, List.take_succ_cons, List.take_zero, PyFlat.rows, PyFlat.row] at h
      have hn : ¬ (q.length + 1 + 1 < 1) := by omega
      rw [if_neg hn] at h
      by_cases hq : 0 ≤ n ∧ n.toNat ≤ q.length
      · rw [if_pos hq] at h
        simp only [Option.some.injEq, Prod.mk.injEq] at h
        obtain ⟨rfl, rfl⟩ := h
        simp only [PyInside.call, PyUw86.bound, if_true, PyInside.each, PyInside.lists, Bool.and_eq_true, Bool.and_true, List.all_eq_true, decide_eq_true_eq] at hi
        obtain ⟨hb, ⟨_, hl⟩, hh⟩ := hi
        have hb' := inB_of hb
        have hh' : ∀ z ∈ q.take n.toNat, InB z := fun z hz => inB_of (hh z hz)
        refine ⟨.duel b.toNat ((q.take n.toNat).map Int.toNat), ?_, ?_⟩
        · have e := CallAt.duel (t := q.drop n.toNat) hb' hh' hl
          rw [List.take_append_drop] at e
          have e2 : ((q.take n.toNat).length : Int) = n := by
            rw [List.length_take]
            omega
          rw [e2] at e
          exact e
        · show Uw86Neutral.callOf (0 :: b :: q.take n.toNat) = _
          unfold Uw86Neutral.callOf
          have : (0 :: b :: q.take n.toNat).all Uw86Neutral.nat = true := by
            rw [List.all_eq_true]
            intro z hz
            rcases List.mem_cons.mp hz with rfl | hz
            · decide
            · rcases List.mem_cons.mp hz with rfl | hz
              · exact nat_of hb'
              · exact nat_of (hh' z hz)
          rw [this]
          rfl
      · rw [if_neg hq] at h
        simp at h
  all_goals skip
  by_cases h1 : p = 1
  · subst h1
    simp only [show ¬ (1 : Int) = 0 by decide, if_false, if_true] at h
    match r, h with
    | [], h => simp at h
    | [_], h => simp at h
    | [_, _], h => simp at h
    | s :: i :: a :: q, h =>
      simp [PyFlat.rows] at h
      obtain ⟨rfl, rfl⟩ := h
      simp [PyInside.call, PyUw86.bound, PyInside.each, PyInside.lists] at hi
      obtain ⟨a1, a2, a3⟩ := hi
      refine ⟨_, .aim (inB_of a1) (inB_of a2) (inB_of a3), ?_⟩
      show Uw86Neutral.callOf [1, s, i, a] = _
      unfold Uw86Neutral.callOf
      have : [1, s, i, a].all Uw86Neutral.nat = true := by
        simp only [List.all_cons, List.all_nil, nat_of (inB_of a1), nat_of (inB_of a2), nat_of (inB_of a3)]
        decide
      rw [this]
      rfl
  by_cases h2 : p = 2
  · subst h2
    simp only [show ¬ (2 : Int) = 0 by decide, show ¬ (2 : Int) = 1 by decide, if_false, if_true] at h
    match r, h with
    | [], h => simp at h
    | s :: q, h =>
      simp [PyFlat.rows] at h
      obtain ⟨rfl, rfl⟩ := h
      simp [PyInside.call, PyUw86.bound, PyInside.each, PyInside.lists] at hi
      refine ⟨_, .aims (inB_of hi), ?_⟩
      show Uw86Neutral.callOf [2, s] = _
      unfold Uw86Neutral.callOf
      have : [2, s].all Uw86Neutral.nat = true := by
        simp only [List.all_cons, List.all_nil, nat_of (inB_of hi)]
        decide
      rw [this]
      rfl
  by_cases h3 : p = 3
  · subst h3
    simp only [show ¬ (3 : Int) = 0 by decide, show ¬ (3 : Int) = 1 by decide, show ¬ (3 : Int) = 2 by decide, if_false, if_true] at h
    match r, h with
    | [], h => simp at h
    | s :: q, h =>
      simp [PyFlat.rows] at h
      obtain ⟨rfl, rfl⟩ := h
      simp [PyInside.call, PyUw86.bound, PyInside.each, PyInside.lists] at hi
      refine ⟨_, .all (inB_of hi), ?_⟩
      show Uw86Neutral.callOf [3, s] = _
      unfold Uw86Neutral.callOf
      have : [3, s].all Uw86Neutral.nat = true := by
        simp only [List.all_cons, List.all_nil, nat_of (inB_of hi)]
        decide
      rw [this]
      rfl
  by_cases h4 : p = 4
  · subst h4
    simp only [show ¬ (4 : Int) = 0 by decide, show ¬ (4 : Int) = 1 by decide, show ¬ (4 : Int) = 2 by decide, show ¬ (4 : Int) = 3 by decide, if_false, if_true] at h
    match r, h with
    | [], h => simp at h
    | [_], h => simp at h
    | s :: i :: q, h =>
      simp [PyFlat.rows] at h
      obtain ⟨rfl, rfl⟩ := h
      simp [PyInside.call, PyUw86.bound, PyInside.each, PyInside.lists] at hi
      obtain ⟨a1, a2⟩ := hi
      refine ⟨_, .set (inB_of a1) (inB_of a2), ?_⟩
      show Uw86Neutral.callOf [4, s, i] = _
      unfold Uw86Neutral.callOf
      have : [4, s, i].all Uw86Neutral.nat = true := by
        simp only [List.all_cons, List.all_nil, nat_of (inB_of a1), nat_of (inB_of a2)]
        decide
      rw [this]
      rfl
  by_cases h5 : p = 5
  · subst h5
    simp only [show ¬ (5 : Int) = 0 by decide, show ¬ (5 : Int) = 1 by decide, show ¬ (5 : Int) = 2 by decide, show ¬ (5 : Int) = 3 by decide, show ¬ (5 : Int) = 4 by decide, if_false, if_true] at h
    match r, h with
    | [], h => simp at h
    | [_], h => simp at h
    | s :: i :: q, h =>
      simp [PyFlat.rows] at h
      obtain ⟨rfl, rfl⟩ := h
      simp [PyInside.call, PyUw86.bound, PyInside.each, PyInside.lists] at hi
      obtain ⟨a1, a2⟩ := hi
      refine ⟨_, .best (inB_of a1) (inB_of a2), ?_⟩
      show Uw86Neutral.callOf [5, s, i] = _
      unfold Uw86Neutral.callOf
      have : [5, s, i].all Uw86Neutral.nat = true := by
        simp only [List.all_cons, List.all_nil, nat_of (inB_of a1), nat_of (inB_of a2)]
        decide
      rw [this]
      rfl
  by_cases h6 : p = 6
  · subst h6
    simp [PyFlat.rows] at h
    obtain ⟨rfl, rfl⟩ := h
    exact ⟨_, .better, rfl⟩
  by_cases h7 : p = 7
  · subst h7
    simp only [show ¬ (7 : Int) = 0 by decide, show ¬ (7 : Int) = 1 by decide, show ¬ (7 : Int) = 2 by decide, show ¬ (7 : Int) = 3 by decide, show ¬ (7 : Int) = 4 by decide, show ¬ (7 : Int) = 5 by decide, show ¬ (7 : Int) = 6 by decide, if_false, if_true] at h
    match r, h with
    | [], h => simp at h
    | s :: q, h =>
      simp [PyFlat.rows] at h
      obtain ⟨rfl, rfl⟩ := h
      simp [PyInside.call, PyUw86.bound, PyInside.each, PyInside.lists] at hi
      refine ⟨_, .improve (inB_of hi), ?_⟩
      show Uw86Neutral.callOf [7, s] = _
      unfold Uw86Neutral.callOf
      have : [7, s].all Uw86Neutral.nat = true := by
        simp only [List.all_cons, List.all_nil, nat_of (inB_of hi)]
        decide
      rw [this]
      rfl
  by_cases h8 : p = 8
  · subst h8
    simp [PyFlat.rows] at h
    obtain ⟨rfl, rfl⟩ := h
    exact ⟨_, .air, rfl⟩
  · simp [h0, h1, h2, h3, h4, h5, h6, h7, h8] at h
theorem parsed_of : ∀ (f : Nat) (l : List Int) (cs : List (List (List Int))), PyFlat.calls PyUw86.shape f l = some cs → PyInside.calls PyUw86.bound cs = true →
    ∃ ks, Parsed l ks ∧ ks.length = cs.length ∧ ∀ d, PyFlat.told (PyFlat.played (fun s c => Uw86Neutral.step s (c.headD [])) d (cs.map PyUw86.whole)) = runs d ks
  | f, [], cs, h, _ => by
    unfold PyFlat.calls at h
    cases h
    exact ⟨[], .nil, rfl, fun d => rfl⟩
  | 0, p :: r, cs, h, _ => by
    unfold PyFlat.calls at h
    cases h
  | f + 1, p :: r, cs, h, hi => by
    unfold PyFlat.calls at h
    cases e : PyFlat.call PyUw86.shape (p :: r) with
    | none =>
      rw [e] at h
      cases h
    | some ct =>
      obtain ⟨c, t⟩ := ct
      rw [e] at h
      cases e2 : PyFlat.calls PyUw86.shape f t with
      | none =>
        simp only [e2] at h
        cases h
      | some cs' =>
        simp only [e2] at h
        cases h
        unfold PyInside.calls at hi
        rw [List.all_cons, Bool.and_eq_true] at hi
        obtain ⟨k, a1, a2⟩ := call_at e hi.1
        obtain ⟨ks, b1, b2, b3⟩ := parsed_of f t cs' e2 hi.2
        refine ⟨k :: ks, .cons a1 b1, by simp [b2], fun d => ?_⟩
        rw [List.map_cons]
        unfold PyFlat.played PyFlat.told
        rw [List.flatMap_cons]
        have es : Uw86Neutral.step d ((PyUw86.whole c).headD []) = Uw86.step d k := by
          unfold Uw86Neutral.step
          rw [a2]
          rfl
        rw [es]
        have := b3 (Uw86.step d k).1
        unfold PyFlat.told at this
        rw [this]
        rfl
theorem asked_runs {l : List Int} (h : PyUw86.answers_asked l = true) : ∃ ks, Parsed l ks ∧ ks.length ≤ 40 ∧ PyUw86.answers l = runs init ks := by
  unfold PyUw86.answers_asked at h
  unfold PyUw86.answers PyUw86.calls
  cases e : PyFlat.calls PyUw86.shape l.length l with
  | none =>
    rw [e] at h
    cases h
  | some cs =>
    simp only [e, Bool.and_eq_true] at h
    obtain ⟨⟨⟨⟨_, h1⟩, h2⟩, _⟩, _⟩ := h
    obtain ⟨ks, a, b, c⟩ := parsed_of _ _ _ e h2
    refine ⟨ks, a, ?_, c _⟩
    unfold PyFlat.atMost at h1
    rw [b]
    exact of_decide_eq_true h1
end DM
set_option Elab.async false
namespace DM
open Uw86
/-! the greatest of some chances -/
def top2 (x : Frac) (y : Nat × Frac) : Frac := if less x y.2 = true then y.2 else x
theorem top_go : ∀ (l : List (Nat × Frac)) (x : Frac), Good x → (∀ y ∈ l, Good y.2) →
    Good (l.foldl top2 x) ∧ val x ≤ val (l.foldl top2 x) ∧ (∀ y ∈ l, val y.2 ≤ val (l.foldl top2 x)) ∧ (l.foldl top2 x = x ∨ ∃ y ∈ l, l.foldl top2 x = y.2)
  | [], x, hx, _ => ⟨hx, Rat.le_refl, fun y h => by simp at h, .inl rfl⟩
  | y :: l, x, hx, h => by
    have hy := h y List.mem_cons_self
    have ht : Good (top2 x y) := by
      unfold top2
      split <;> assumption
    obtain ⟨a, b, c, e⟩ := top_go l (top2 x y) ht fun z hz => h z (List.mem_cons_of_mem _ hz)
    have h1 : val x ≤ val (top2 x y) ∧ val y.2 ≤ val (top2 x y) := by
      unfold top2
      by_cases hl : less x y.2 = true
      · rw [if_pos hl]
        exact ⟨Rat.le_of_lt ((less_iff hx hy).mp hl), Rat.le_refl⟩
      · rw [if_neg hl]
        refine ⟨Rat.le_refl, Rat.not_lt.mp fun z => hl ((less_iff hx hy).mpr z)⟩
    refine ⟨a, Rat.le_trans h1.1 b, fun z hz => ?_, ?_⟩
    · rcases List.mem_cons.mp hz with rfl | hz
      · exact Rat.le_trans h1.2 b
      · exact c z hz
    · show l.foldl top2 (top2 x y) = x ∨ ∃ z ∈ y :: l, l.foldl top2 (top2 x y) = z.2
      rcases e with e | ⟨z, hz, e⟩
      · by_cases hl : less x y.2 = true
        · right
          refine ⟨y, List.mem_cons_self, ?_⟩
          rw [e]
          unfold top2
          rw [if_pos hl]
        · left
          rw [e]
          unfold top2
          rw [if_neg hl]
      · exact .inr ⟨z, List.mem_cons_of_mem _ hz, e⟩
theorem div_le_iff {a b c d : Nat} (hb : 0 < b) (hd : 0 < d) : (a : Rat) / b ≤ (c : Rat) / d ↔ a * d ≤ c * b := by
  rw [← Rat.not_lt, div_lt_iff hd hb]
  omega
/-- best, told by whole numbers: those aims that no other beats -/
theorem best_char {d : Duel} {m i : Nat} (us ls : Nat → Nat) (hl : ∀ a ∈ mayAim d m i, 0 < ls a) (hg : ∀ a ∈ mayAim d m i, gain d m i a = frac (us a) (ls a)) :
    (best d m i).1 = (mayAim d m i).filter (fun a => (mayAim d m i).all fun b => decide (us b * ls a ≤ us a * ls b)) ∧ (best d m i).1 ≠ [] ∧ ∀ a ∈ (best d m i).1, (best d m i).2 = frac (us a) (ls a) := by
  have hne : mayAim d m i ≠ [] := by
    unfold mayAim
    simp
  have e1 : (mayAim d m i).map (fun a => (a, gain d m i a)) = (mayAim d m i).map fun a => (a, frac (us a) (ls a)) := List.map_congr_left fun a ha => by rw [hg a ha]
  have eb : best d m i = ((((mayAim d m i).map fun a => (a, frac (us a) (ls a))).filter fun x => x.2 == (((mayAim d m i).map fun a => (a, frac (us a) (ls a))).foldl top2 zero)).map (fun x => x.1), ((mayAim d m i).map fun a => (a, frac (us a) (ls a))).foldl top2 zero) := by
    unfold best
    rw [e1]
    rfl
  have hgood : ∀ y ∈ ((mayAim d m i).map fun a => (a, frac (us a) (ls a))), Good y.2 := fun y hy => by
    obtain ⟨a, ha, rfl⟩ := List.mem_map.mp hy
    exact frac_good (hl a ha)
  obtain ⟨t1, t2, t3, t4⟩ := top_go _ zero zero_good hgood
  rw [eb]
  generalize hG : ((mayAim d m i).map fun a => (a, frac (us a) (ls a))).foldl top2 zero = g at *
  have t3' : ∀ a ∈ mayAim d m i, val (frac (us a) (ls a)) ≤ val g := fun a ha => t3 (a, frac (us a) (ls a)) (List.mem_map.mpr ⟨a, ha, rfl⟩)
  -- some aim has it
  have hex : ∃ a ∈ mayAim d m i, frac (us a) (ls a) = g := by
    rcases t4 with t4 | ⟨y, hy, t4⟩
    · obtain ⟨a, ha⟩ := List.exists_mem_of_ne_nil _ hne
      refine ⟨a, ha, (frac_good (hl a ha)).ext t1 (Rat.le_antisymm (t3' a ha) ?_)⟩
      rw [t4, val_zero]
      exact val_nonneg _
    · obtain ⟨a, ha, rfl⟩ := List.mem_map.mp hy
      exact ⟨a, ha, t4.symm⟩
  obtain ⟨a0, ha0, hg0⟩ := hex
  have key : ∀ a ∈ mayAim d m i, (frac (us a) (ls a) == g) = ((mayAim d m i).all fun b => decide (us b * ls a ≤ us a * ls b)) := by
    intro a ha
    rw [Bool.eq_iff_iff, beq_iff_eq, List.all_eq_true]
    constructor
    · intro e b hb
      rw [decide_eq_true_eq, ← div_le_iff (hl b hb) (hl a ha), ← val_frac (hl b hb), ← val_frac (hl a ha), e]
      exact t3' b hb
    · intro h
      have h0 := of_decide_eq_true (h a0 ha0)
      rw [← div_le_iff (hl a0 ha0) (hl a ha), ← val_frac (hl a0 ha0), ← val_frac (hl a ha), hg0] at h0
      exact (frac_good (hl a ha)).ext t1 (Rat.le_antisymm (t3' a ha) h0)
  have ef : (((mayAim d m i).map fun a => (a, frac (us a) (ls a))).filter fun x => x.2 == g).map (fun x => x.1) = (mayAim d m i).filter fun a => (mayAim d m i).all fun b => decide (us b * ls a ≤ us a * ls b) := by
    rw [List.filter_map, List.map_map]
    have : ((fun x : Nat × Frac => x.1) ∘ fun a => (a, frac (us a) (ls a))) = id := by
      funext a
      rfl
    rw [this, List.map_id]
    exact List.filter_congr fun a ha => key a ha
  refine ⟨ef, ?_, fun a ha => ?_⟩
  · show (((mayAim d m i).map fun a => (a, frac (us a) (ls a))).filter fun x => x.2 == g).map (fun x => x.1) ≠ []
    rw [ef]
    intro z
    have : a0 ∈ (mayAim d m i).filter fun a => (mayAim d m i).all fun b => decide (us b * ls a ≤ us a * ls b) := List.mem_filter.mpr ⟨ha0, by rw [← key a0 ha0, hg0]; exact beq_self_eq_true _⟩
    rw [z] at this
    cases this
  · show g = frac (us a) (ls a)
    have ha : a ∈ (((mayAim d m i).map fun a => (a, frac (us a) (ls a))).filter fun x => x.2 == g).map (fun x => x.1) := ha
    rw [ef] at ha
    obtain ⟨h1, h2⟩ := List.mem_filter.mp ha
    rw [← key a h1] at h2
    exact (beq_iff_eq.mp h2).symm
/-- a gain by weights -/
theorem gain_rep {d : Duel} {m i a : Nat} {ws : List Nat} (R : Rep ws (chancesOf (withAim d m i a) m i)) : gain d m i a = frac (ws.getD i 0) ws.sum := R.getD i
end DM
set_option Elab.async false
namespace DM
open Uw86
/-! chances lean on the aims of the sets within alone -/
theorem firsts_congr {d d' : Duel} {m : Nat} (hh : ∀ i, hit d' m i = hit d m i) (ha : ∀ i, aimOf d' m i = aimOf d m i) : ∀ (l : List Nat) (q : Frac), firsts d' m q l = firsts d m q l
  | [], _ => rfl
  | i :: l, q => by
    unfold firsts
    rw [hh i, ha i, firsts_congr hh ha l]
theorem chances_congr {d d' : Duel} {M : Nat} (hc : d'.hits = d.hits) (hb : d'.b = d.b) (ha : ∀ m, m < M → ∀ i, aimOf d' m i = aimOf d m i) : ∀ (f m i : Nat), m < M → chances d' f m i = chances d f m i
  | 0, _, _, _ => rfl
  | f + 1, m, i, hm => by
    have hn : count d' = count d := by unfold count; rw [hc]
    have hh : ∀ j, hit d' m j = hit d m j := fun j => by
      unfold hit
      rw [ha m hm j, hn, hc, hb]
    have hq : quiet d' m = quiet d m := by
      unfold quiet
      rw [hn]
      congr 1
      funext q j
      rw [hh j]
    unfold chances
    rw [hn, hq]
    simp only [firsts_congr hh (ha m hm)]
    split
    · rfl
    · split
      · rfl
      · congr 1
        funext j
        congr 3
        refine List.map_congr_left fun x _ => ?_
        congr 1
        exact chances_congr hc hb ha f _ _ (Nat.lt_of_le_of_lt (Nat.sub_le _ _) hm)
theorem with_less {d : Duel} (D : DOk d) {M i a m j : Nat} (hM : M < 2 ^ count d) (hi : i < count d) (h : m < M) : chancesOf (withAim d M i a) m j = chancesOf d m j := by
  unfold chancesOf
  rw [count_with]
  refine chances_congr (d := d) (d' := withAim d M i a) (M := M) rfl rfl (fun m' hm' k => ?_) _ _ _ h
  rw [aimOf_with D hM hi, if_neg (fun z => by omega)]
theorem with_same {d : Duel} (D : DOk d) {M i m j : Nat} (hM : M < 2 ^ count d) (hi : i < count d) : chancesOf (withAim d M i (aimOf d M i)) m j = chancesOf d m j := by
  unfold chancesOf
  rw [count_with]
  refine chances_congr (d := d) (d' := withAim d M i (aimOf d M i)) (M := m + 1) rfl rfl (fun m' _ k => ?_) _ _ _ (Nat.lt_succ_self m)
  rw [aimOf_with D hM hi]
  split
  · next h => rw [h.1, h.2]
  · rfl
end DM
set_option Elab.async false
namespace DM
open Uw86
/-! the greatest so far, and who has it -/
structure Top (g : Nat → Frac) (l : List Nat) (G : Frac) (bs : List Nat) : Prop where
  good : Good G
  le : ∀ a ∈ l, val (g a) ≤ val G
  eq : G = (l.map fun a => (a, g a)).foldl top2 zero
  bs : bs = l.filter fun a => g a == G
theorem Top.nil (g : Nat → Frac) : Top g [] zero [] := ⟨zero_good, fun a h => absurd h List.not_mem_nil, rfl, rfl⟩
theorem beq_val {a b : Frac} (ha : Good a) (hb : Good b) : (a == b) = decide (val a = val b) := by
  rw [Bool.eq_iff_iff, beq_iff_eq, decide_eq_true_eq]
  exact ⟨fun h => by rw [h], fun h => ha.ext hb h⟩
theorem fold_snoc (g : Nat → Frac) (l : List Nat) (x : Nat) : ((l ++ [x]).map fun a => (a, g a)).foldl top2 zero = top2 ((l.map fun a => (a, g a)).foldl top2 zero) (x, g x) := by
  rw [List.map_append, List.foldl_append]
  rfl
theorem Top.more {g : Nat → Frac} {l : List Nat} {G : Frac} {bs : List Nat} {x : Nat} (T : Top g l G bs) (hl : ∀ a ∈ l, Good (g a)) (hx : Good (g x)) (h : less G (g x) = true) : Top g (l ++ [x]) (g x) [x] := by
  have hv := (less_iff T.good hx).mp h
  refine ⟨hx, fun a ha => ?_, ?_, ?_⟩
  · rcases List.mem_append.mp ha with q | q
    · exact Rat.le_trans (T.le a q) (Rat.le_of_lt hv)
    · rw [List.mem_singleton.mp q]
      exact Rat.le_refl
  · rw [fold_snoc, ← T.eq]
    unfold top2
    rw [if_pos h]
  · rw [List.filter_append, List.filter_eq_nil_iff.mpr, List.nil_append, List.filter_cons, if_pos (beq_self_eq_true _), List.filter_nil]
    intro a ha z
    rw [beq_val (hl a ha) hx] at z
    have z := of_decide_eq_true z
    have h2 := T.le a ha
    rw [z] at h2
    exact absurd hv (Rat.not_lt.mpr h2)
theorem Top.less {g : Nat → Frac} {l : List Nat} {G : Frac} {bs : List Nat} {x : Nat} (T : Top g l G bs) (hx : Good (g x)) (h : Uw86.less G (g x) = false) :
    Top g (l ++ [x]) G (if Uw86.less (g x) G = true then bs else bs ++ [x]) := by
  have hv : val (g x) ≤ val G := Rat.not_lt.mp fun z => by
    rw [(less_iff T.good hx).mpr z] at h
    cases h
  refine ⟨T.good, fun a ha => ?_, ?_, ?_⟩
  · rcases List.mem_append.mp ha with q | q
    · exact T.le a q
    · rw [List.mem_singleton.mp q]
      exact hv
  · rw [fold_snoc, ← T.eq]
    unfold top2
    rw [if_neg (by rw [h]; decide)]
  · rw [List.filter_append, ← T.bs, List.filter_cons, List.filter_nil, beq_val hx T.good]
    by_cases hl : Uw86.less (g x) G = true
    · rw [if_pos hl, if_neg, List.append_nil]
      intro z
      have z := of_decide_eq_true z
      have := (less_iff hx T.good).mp hl
      rw [z] at this
      exact Rat.lt_irrefl this
    · rw [if_neg hl, if_pos (decide_eq_true (Rat.le_antisymm hv (Rat.not_lt.mp fun z => hl ((less_iff hx T.good).mpr z))))]
theorem Top.best {d : Duel} {m i : Nat} {G : Frac} {bs : List Nat} (T : Top (gain d m i) (mayAim d m i) G bs) : Uw86.best d m i = (bs, G) := by
  have e : Uw86.best d m i = ((((mayAim d m i).map fun a => (a, gain d m i a)).filter fun x => x.2 == ((mayAim d m i).map fun a => (a, gain d m i a)).foldl top2 zero).map (fun x => x.1), ((mayAim d m i).map fun a => (a, gain d m i a)).foldl top2 zero) := rfl
  rw [e, ← T.eq, List.filter_map, List.map_map, T.bs]
  have : ((fun x : Nat × Frac => x.1) ∘ fun a => (a, gain d m i a)) = id := by
    funext a
    rfl
  rw [this, List.map_id]
  rfl
end DM
set_option Elab.async false
set_option linter.all false
set_option maxRecDepth 100000
set_option maxHeartbeats 2000000
namespace Du
open PySem PySem.Spec PyProof.Rows L2
/-! ### a dict's entries as they stand, whatever its keys are -/
section
variable {prog : Program} {w : World} {A : Around} {E : Value → Shared → Prop} {s : Shared}
def KeyAt (es : Array DictEntry) (i : Nat) (v : Value) : Prop := ∃ en, es[i]? = some en ∧ v = en.key
theorem walks_raw {d it : Addr} {o : Obj} {es : Array DictEntry} {ep : Nat} (hh : A.handled = none) (hne : d ≠ it) (hd : o.data = .dict es ep) :
    Walks prog w A it [it, d] [it] es.size (KeyAt es) (fun i h => h.IsKeyIter it d i es.size ep ∧ h.get? d = some o) where
  sub := fun b hb => by
    rw [List.mem_singleton.mp hb]
    exact List.mem_cons_self
  frame := fun i h h' st k => ⟨st.1.at fun oi e => k it (by simp) oi e, k d (by simp) o st.2⟩
  item := fun i s Q E hi st hQ => next_key_item st.1 st.2 hd rfl (Array.getElem?_eq_getElem hi) fun h' st' sb =>
    hQ _ h' s.toks ⟨_, Array.getElem?_eq_getElem hi, rfl⟩ ⟨st', (sb.2 d hne).trans st.2⟩ fun b ob hb e => (sb.2 b (by simpa using hb)).trans e
  done := fun s Q E st hQ => next_key_end hh st.1 st.2 hd rfl (Nat.le_refl _) fun h' eb => hQ h' s.toks fun b ob hb e => eb b ob (by simpa using hb) e
  self := fun i s Q E st hQ => wpAny_pyIter_keyiter st.1 hQ
theorem src_raw {d : Addr} {o : Obj} {es : Array DictEntry} {ep : Nat} (lo : (d == sysModules) = false) (hx : o.ExactDict) (hd : o.data = .dict es ep) :
    PySem.W.KdlSrc prog w "dict" d d es.size (KeyAt es) (fun h => h.get? d = some o) where
  type := fun s hm => ⟨o, hm, hx.1⟩
  there := fun h hm => ⟨Heap.lt_size hm, Heap.lt_size hm⟩
  keep := fun h h' hm hk => hk d (.inl rfl) o hm
  notList := rfl
  notTuple := rfl
  hint := fun A E s Q hm hq => PySem.W.kdl_hint_dict ⟨o, hm, hx.1⟩ hq
  iter := fun A s hh hm => ⟨_, _, fun E Q hq => iter_keys lo hm hx hd hq, walks_raw hh (Nat.ne_of_lt (Heap.lt_size hm)) hd,
    ⟨⟨_, Heap.get?_push_size _ rfl, rfl, rfl⟩, Heap.get?_push_of_some _ hm⟩⟩
/-- all of a source gathered, with room taken for it -/
theorem collect_src {T : String} {r d : Addr} {n : Nat} {P : Nat → Value → Prop} {OK : Heap → Prop} {R : List Value → Shared → Prop} (K : PySem.W.KdlSrc prog w T r d n P OK) (hh : A.handled = none) (hok : OK s.heap) (hn : n ≤ sizeLine)
    (h : ∀ (h' : Heap) (tk : Nat) (acc : Array Value), s.heap.objs.size < h'.objs.size → (∀ b o, s.heap.get? b = some o → h'.get? b = some o) → ItemsOf P acc n → R acc.toList { s with heap := h', toks := tk }) : wpAny (model prog w) A (collect (.ref r)) R E s := by
  have hlt := K.there _ hok
  unfold collect
  refine wpAny_bind (wpAny_runValue (codeAny_builtin PyProof.Rows.entry_proto_collect' ?_))
  rw [Around.under_plainId PySem.F.plain_proto_collect _]; show wpAny _ A.in1 (newList [] >>= fun x => again (.builtin "list.__iadd__" ⟨[x, .ref r], []⟩)) _ _ s
  refine wpAny_bind (wpAny_newObj_type (wpAny_pure ⟨plainId_quiet PySem.F.plain_list_iadd _, codeAny_builtin PyProof.Rows.entry_list_iadd' ?_⟩))
  rw [Around.under_plainId PySem.F.plain_list_iadd _]; have hS : (s.heap.push { cls := .type "list", data := .seq ([] : List Value).toArray }).get? s.heap.objs.size = some { cls := .type "list", data := .seq #[] } := Heap.get?_push_size _ rfl
  refine wpAny_mono (PySem.W.kdl_extend (A := A) (s := { s with heap := s.heap.push { cls := .type "list", data := .seq ([] : List Value).toArray } })
    (R := fun (q : Result) (s' : Shared) => ∃ (h' : Heap) (tk : Nat) (acc' : Array Value) (c' : Nat), q = .ok (.ret (.ref s.heap.objs.size)) ∧ s' = { s with heap := h', toks := tk } ∧ (∀ b o, s.heap.get? b = some o → h'.get? b = some o) ∧
      h'.get? s.heap.objs.size = some { cls := .type "list", dict := none, data := .seq acc' c', slots := #[] } ∧ ItemsOf P acc' n)
    K hh (K.keep _ _ hok fun b _ o e => Heap.get?_push_of_some _ e) s.heap.objs.size (Nat.ne_of_gt hlt.1) (Nat.ne_of_gt hlt.2) (.ref s.heap.objs.size) 0 hS
    (fun h' tk acc' c' hk hS' hacc => ⟨h', tk, acc', c', rfl, rfl, fun b o e => hk b o (Nat.ne_of_lt (Heap.lt_size e)) (Heap.get?_push_of_some _ e), hS', hacc⟩) hn) (fun fin s' x => ?_) fun e s' x => ?_
  · cases fin with
    | done f =>
      obtain ⟨h1, tk, ac, c1, e, rfl, k1, g1, i1⟩ := x
      cases e
      exact wpAny_bind (wpAny_load g1 (wpAny_pure (h h1 tk ac (Heap.lt_size g1) k1 i1)))
    | again c =>
      refine ⟨x.1, codeAny_mono x.2 fun q s2 y => ?_⟩
      obtain ⟨h1, tk, ac, c1, rfl, rfl, k1, g1, i1⟩ := y
      exact wpAny_bind (wpAny_load g1 (wpAny_pure (h h1 tk ac (Heap.lt_size g1) k1 i1)))
  · obtain ⟨_, _, _, _, z, _⟩ := x
    cases z
end
/-! ### tuples of two ints, sorted -/
def noStr : Nat → Bool := fun _ => false
theorem tup_key {h : Heap} {q : Addr} {a b : Int} {t u : Tok} (x : IsTup h q #[.int a t, .int b u]) : G.tupKeyC h noStr (.ref q) = some [Sum.inl a, Sum.inl b] := by
  obtain ⟨o, ho, hc, n, hd⟩ := x
  unfold G.tupKeyC
  have h1 : G.isTupObj h (.ref q) = true := by
    unfold G.isTupObj
    simp only [ho, hc]
    decide
  rw [if_pos h1]
  unfold tupKey
  simp only [ho, hd]
  rfl
theorem tups_all {h : Heap} {shape : Nat → Bool} : ∀ {vs : List Value}, (∀ v ∈ vs, ∃ f, TupOf h shape v f) → ∃ fs, TupsOf h shape vs fs
  | [], _ => ⟨[], .nil⟩
  | v :: vs, hv => by
    obtain ⟨f, hf⟩ := hv v List.mem_cons_self
    obtain ⟨fs, hfs⟩ := tups_all fun x hx => hv x (List.mem_cons_of_mem _ hx)
    exact ⟨f :: fs, .cons hf hfs⟩
def pairLe (p q : Int × Int) : Prop := p.1 < q.1 ∨ (p.1 = q.1 ∧ p.2 ≤ q.2)
theorem lex_pair {a b c d : Int} (h : pairLe (a, b) (c, d)) : lexLt itemOrd [Sum.inl c, Sum.inl d] [Sum.inl a, Sum.inl b] = false := by
  refine lex_false.mpr ?_
  have h' : a < c ∨ (a = c ∧ b ≤ d) := h
  have e1 : itemOrd.blt (Sum.inl c) (Sum.inl a) = decide (c < a) := rfl
  have e2 : itemOrd.blt (Sum.inl a) (Sum.inl c) = decide (a < c) := rfl
  rw [e1, e2]
  refine ⟨decide_eq_false (by omega), ?_⟩
  by_cases hac : a < c
  · exact .inl (decide_eq_true hac)
  · refine .inr (lex_false.mpr ⟨?_, .inr rfl⟩)
    show decide (d < b) = false
    exact decide_eq_false (by omega)
theorem vals_refs : ∀ qs : List Addr, Vals (qs.map V.ref) (qs.map Value.ref)
  | [] => .nil
  | q :: qs => .cons rfl (vals_refs qs)
theorem kk_pairs {κ : PyProof.Rows.KeyKind} {vs : List Value} {i : Nat} {v : Value} {k : κ.α} (hv : vs[i]? = some v) (hk : κ.keyOf v = some k) : KK κ (pairsOf vs) i = k := by
  unfold KK
  have e : (pairsOf vs)[i]? = some (v, v) := by
    rw [← Array.getElem?_toList, pairsOf_toList, List.getElem?_zip_eq_some]
    exact ⟨hv, hv⟩
  rw [e]
  simp only [hk]
  rfl
def rSortT : List V → Hp → VK → Prop := fun vs H Q => ∃ (d : Addr) (kvs : List (List Key × V)) (ks : List (Int × Int)), vs = [V.ref d] ∧ H d = some (.dT kvs) ∧ kvs.map (·.1) = ks.map (fun p => [Sum.inl p.1, Sum.inl p.2]) ∧ ks.Pairwise pairLe ∧
  ∀ (qs : List Addr) (p : Addr), qs.length = ks.length → (∀ (i : Nat) (q : Addr) (k : Int × Int), qs[i]? = some q → ks[i]? = some k → H q = some (.tup [.int k.1, .int k.2])) → H p = none → Q (.ref p) (upd H p (.lst (qs.map V.ref)))
section
variable {X : Cx}
theorem cr_sortedT (hc : X.calm = true) : CallR X (.builtin "sorted") rSortT := by
  intro pins s σ H vs us Q I r h
  obtain ⟨d, kvs, ks, rfl, hd, hks, hst, q⟩ := h
  rw [Vals.ref1 r]
  obtain ⟨hz, hs, xs, pr, o, es, ep, ho, hx, hdt, he, _⟩ := (show ObjOk X.prog X.w H s.heap d (.dT kvs) from I.hok d _ hd)
  have hsz : es.size = kvs.length := by
    have l1 : es.size = xs.length := size_of_entries he
    have l2 : kvs.length = xs.length := Paired.length pr
    omega
  have hlen : ks.length = kvs.length := by
    have := congrArg List.length hks
    rw [List.length_map, List.length_map] at this
    exact this.symm
  have ent : ∀ (i : Nat) (k : Int × Int), ks[i]? = some k → ∃ (en : DictEntry) (q : Addr), es[i]? = some en ∧ en.key = .ref q ∧ H q = some (.tup [.int k.1, .int k.2]) := fun i k hk => by
    have hi : i < kvs.length := by
      rw [← hlen]
      exact (List.getElem?_eq_some_iff.mp hk).1
    have e0 : kvs[i]? = some kvs[i] := List.getElem?_eq_getElem hi
    obtain ⟨b, hb, e1, e2, _⟩ := paired_get pr e0
    have q := entry_at he i
    rw [hb] at q
    refine ⟨_, b.2.1, q, rfl, ?_⟩
    have e3 := congrArg (fun l => l[i]?) hks
    rw [List.getElem?_map, List.getElem?_map, e0, hk] at e3
    have e4 : kvs[i].1 = [Sum.inl k.1, Sum.inl k.2] := Option.some.inj e3
    rw [e2, e4]
    rfl
  refine Calls.call_function_entry kind_sorted plain_sorted entry_sorted (args_sorted1 _) ?_; unfold Builtin.«sorted»
  refine wpAny_bind (m := checkCount "sorted" 1 1 _) (wpAny_pure (wpAny_bind (collect_src (A := X.A.in1) (src_raw hs hx hdt) (I.ok.hd hc) ho (by rw [hsz]; exact hz) fun h' tk acc hgr hk hacc => ?_)))
  -- the items are the keys' own tuples
  obtain ⟨qs, hqs⟩ : ∃ qs : List Addr, acc.toList = qs.map Value.ref := by
    have : ∀ v ∈ acc.toList, ∃ a, v = Value.ref a := fun v hv => by
      obtain ⟨i, hi⟩ := List.mem_iff_getElem?.mp hv
      obtain ⟨en, he1, he2⟩ := hacc.2 i v (by rw [← Array.getElem?_toList]; exact hi)
      have hi2 : i < ks.length := by
        rw [hlen, ← hsz]
        exact (Array.getElem?_eq_some_iff.mp he1).1
      obtain ⟨en2, q2, h1, h2, _⟩ := ent i _ (List.getElem?_eq_getElem hi2)
      rw [he1] at h1
      cases h1
      exact ⟨q2, he2.trans h2⟩
    refine ⟨acc.toList.map fun v => match v with | .ref a => a | _ => 0, ?_⟩
    rw [List.map_map]
    refine (List.map_id _).symm.trans (List.map_congr_left fun v hv => ?_)
    obtain ⟨a, rfl⟩ := this v hv
    rfl
  have hql : qs.length = ks.length := by
    have := congrArg List.length hqs
    rw [List.length_map, Array.length_toList, hacc.1, hsz] at this
    omega
  have hqt : ∀ (i : Nat) (q : Addr) (k : Int × Int), qs[i]? = some q → ks[i]? = some k → H q = some (.tup [.int k.1, .int k.2]) := fun i q k h1 h2 => by
    obtain ⟨en, q2, h3, h4, h5⟩ := ent i k h2
    have h6 : acc.toList[i]? = some (.ref q) := by
      rw [hqs, List.getElem?_map, h1]
      rfl
    obtain ⟨en2, h7, h8⟩ := hacc.2 i _ (by rw [← Array.getElem?_toList]; exact h6)
    rw [h3] at h7
    cases h7
    rw [h4] at h8
    cases h8
    exact h5
  rw [hqs]
  have hszl : (qs.map Value.ref).length ≤ sizeLine := by
    rw [List.length_map, hql, hlen]
    exact hz
  refine wpAny_bind (wpAny_newList ?_ hszl)
  show wpAny _ _ _ _ _ { s with heap := h'.push (seqObj "list" (qs.map Value.ref).toArray 0), toks := tk }
  have hoL : (h'.push (seqObj "list" (qs.map Value.ref).toArray 0)).get? h'.objs.size = some (seqObj "list" (qs.map Value.ref).toArray 0) := Heap.get?_push_size _ rfl
  have kp : ∀ b o, s.heap.get? b = some o → (h'.push (seqObj "list" (qs.map Value.ref).toArray 0)).get? b = some o := fun b o e => Heap.get?_push_of_some _ (hk b o e)
  -- each is a tuple of two ints there
  have htup : ∀ (i : Nat) (q : Addr) (k : Int × Int), qs[i]? = some q → ks[i]? = some k → ∃ t u, IsTup (h'.push (seqObj "list" (qs.map Value.ref).toArray 0)) q #[.int k.1 t, .int k.2 u] := fun i q k h1 h2 => by
    obtain ⟨_, its, rv, ht⟩ := (show ObjOk X.prog X.w H s.heap q (.tup [.int k.1, .int k.2]) from I.hok q _ (hqt i q k h1 h2))
    obtain ⟨t, u, rfl⟩ := Vals.int2 rv
    exact ⟨t, u, ht.keeps kp⟩
  have hkey : ∀ (i : Nat) (v : Value), (qs.map Value.ref)[i]? = some v → ∃ k, ks[i]? = some k ∧ G.tupKeyC (h'.push (seqObj "list" (qs.map Value.ref).toArray 0)) noStr v = some [Sum.inl k.1, Sum.inl k.2] ∧ ∃ f, TupOf (h'.push (seqObj "list" (qs.map Value.ref).toArray 0)) noStr v f := fun i v hv => by
    rw [List.getElem?_map] at hv
    cases e1 : qs[i]? with
    | none =>
      rw [e1] at hv
      cases hv
    | some q =>
      rw [e1] at hv
      cases hv
      have hi : i < ks.length := by
        rw [← hql]
        exact (List.getElem?_eq_some_iff.mp e1).1
      have e2 : ks[i]? = some ks[i] := List.getElem?_eq_getElem hi
      obtain ⟨t, u, ht⟩ := htup i q _ e1 e2
      refine ⟨_, e2, tup_key ht, ?_⟩
      obtain ⟨ob, h1, h2, n, h3⟩ := ht
      exact ⟨_, q, ob, _, n, rfl, h1, h2, h3, rfl, fun _ => ⟨_, _, rfl⟩, fun z => nomatch z⟩
  obtain ⟨fs, hfs⟩ := tups_all (h := h'.push (seqObj "list" (qs.map Value.ref).toArray 0)) (shape := noStr) (vs := qs.map Value.ref) fun v hv => by
    obtain ⟨i, hi⟩ := List.mem_iff_getElem?.mp hv
    obtain ⟨k, _, _, hf⟩ := hkey i v hi
    exact hf
  have hall : ∀ v, v ∈ qs.map Value.ref → ∃ l, G.tupKeyC (h'.push (seqObj "list" (qs.map Value.ref).toArray 0)) noStr v = some l := fun v hv => by
    obtain ⟨i, hi⟩ := List.mem_iff_getElem?.mp hv
    obtain ⟨k, _, h2, _⟩ := hkey i v hi
    exact ⟨_, h2⟩
  refine wpAny_bind (wpAny_holding (wpAny_call_entry slot_list_sort ⟨_, hoL, rfl⟩ entry_list_sort (G.list_sort_tups (shape := noStr) hoL hfs hall hszl fun st' a1 a2 a3 => ⟨_, rfl, wpAny_pure ⟨_, rfl, ?_⟩⟩) (args_list_sort _)))
  have hsrt : SortedToK (G.tupKindC (h'.push (seqObj "list" (qs.map Value.ref).toArray 0)) noStr) (pairsOf (qs.map Value.ref)) (pairsOf (qs.map Value.ref)).size := fun i j hij hj => by
    rw [pairsOf_size] at hj
    obtain ⟨ki, hi1, hi2, _⟩ := hkey i _ (List.getElem?_eq_getElem (Nat.lt_of_le_of_lt hij hj))
    obtain ⟨kj, hj1, hj2, _⟩ := hkey j _ (List.getElem?_eq_getElem hj)
    rw [kk_pairs (List.getElem?_eq_getElem (Nat.lt_of_le_of_lt hij hj)) hi2, kk_pairs (List.getElem?_eq_getElem hj) hj2]
    refine lex_pair ?_
    obtain ⟨l1, g1⟩ := List.getElem?_eq_some_iff.mp hi1
    obtain ⟨l2, g2⟩ := List.getElem?_eq_some_iff.mp hj1
    rcases Nat.lt_or_ge i j with z | z
    · have := List.pairwise_iff_getElem.mp hst i j l1 l2 z
      rw [g1, g2] at this
      exact this
    · have e : i = j := by omega
      subst e
      rw [hi1] at hj1
      cases hj1
      exact .inr ⟨rfl, Int.le_refl _⟩
  have eu := sorted_stable_unique (G.tupKeys hall) a1 (Array.Perm.refl _) a2 hsrt a3 (Stable.refl _)
  have eo : (arrOf st').map (·.2) = (qs.map Value.ref).toArray := by
    rw [eu]
    apply Array.toList_inj.mp
    rw [Array.toList_map, pairsOf_toList]
    refine List.ext_getElem? fun i => ?_
    rw [List.getElem?_map]
    cases e : (qs.map Value.ref)[i]? with
    | none => 
      have : ((qs.map Value.ref).zip (qs.map Value.ref))[i]? = none := by
        rw [List.getElem?_eq_none_iff, List.length_zip, Nat.min_self]
        exact List.getElem?_eq_none_iff.mp e
      rw [this]
      simpa using e
    | some v =>
      have : ((qs.map Value.ref).zip (qs.map Value.ref))[i]? = some (v, v) := List.getElem?_zip_eq_some.mpr ⟨e, e⟩
      rw [this]
      simpa using e.symm
  rw [eo]
  obtain ⟨ep2, he2⟩ := sortedHeap_at (vs := qs.map Value.ref) (out := (qs.map Value.ref).toArray) hoL
  have hlt : s.heap.objs.size ≤ h'.objs.size := Nat.le_of_lt hgr
  refine ⟨.ref h'.objs.size, upd H h'.objs.size (.lst (qs.map V.ref)), I.laid (t' := tk) (fun b u e => ?_) hlt ⟨by rw [List.length_map, hql, hlen]; exact hz, qs.map Value.ref, ep2, vals_refs qs, he2⟩, rfl, q qs _ hql hqt (I.hok.fresh hlt)⟩
  have hb := Heap.lt_size e
  rw [sortedHeap_old (Nat.ne_of_lt (Nat.lt_of_lt_of_le hb hlt)) (Heap.lt_size (kp b u e))]
  exact kp b u e
end
end Du
set_option Elab.async false
set_option linter.all false
set_option maxRecDepth 100000
set_option maxHeartbeats 2000000
namespace Du
open PySem PySem.Spec PyProof.Rows L2
/-! ### the values of a dict with tuple keys -/
section
variable {prog : Program} {w : World} {A : Around} {E : Value → Shared → Prop} {s : Shared}
theorem next_val_item {it d : Addr} {i n ep : Nat} {od : Obj} {es : Array DictEntry} {en : DictEntry} {Q : Option Value → Shared → Prop} (hit : s.heap.IsValIter it d i n ep) (hod : s.heap.get? d = some od) (hdd : od.data = .dict es ep)
    (hsz : es.size = n) (hx : es[i]? = some en) (hQ : ∀ h', h'.IsValIter it d (i + 1) n ep → Heap.SameBut it s.heap h' → Q (some en.val) { s with heap := h' }) : wpAny (model prog w) A (pyNext (.ref it)) Q E s := by
  obtain ⟨o, ho, hc, hd⟩ := id hit
  unfold pyNext
  refine wpAny_bind (wpAny_attempt (wpAny_callSpecial?_slot (name := Str.ofString "__next__") hit.typeIs F.slot_dict_valueiterator_next (wpAny_call_entry F.slot_dict_valueiterator_next hit.typeIs F.entry_dict_valueiterator_next ?_ (F.args_dict_valueiterator_next_1 _))))
  refine wpAny_bind (wpAny_pure (wpAny_bind (wpAny_bind ?_)))
  first | refine wpAny_bind (wpAny_typeNameOfWhole_valiter hit.typeIs (wpAny_pure (wpAny_bind (wpAny_fieldsOf ho hd ?_)))) | refine wpAny_bind (wpAny_typeNameOf_valiter hit.typeIs (wpAny_pure (wpAny_bind (wpAny_fieldsOf ho hd ?_))))
  have hown : Builtin.Dict_items.ownsTuple "dict_valueiterator" = false := rfl
  simp only [hown, Bool.false_eq_true, if_false]; show wpAny _ _ (if (Value.ref d == Value.none) = true then _ else _) _ _ s
  rw [if_neg (show ¬ ((Value.ref d == Value.none) = true) from Bool.false_ne_true)]; refine wpAny_bind (wpAny_pure (wpAny_bind (wpAny_dictEntries hod hdd ?_)))
  rw [if_neg (by rw [hsz]; simp)]; refine wpAny_bind (wpAny_pure (wpAny_bind (wpAny_dictEpoch hod hdd ?_)))
  rw [if_neg (by simp)]; refine wpAny_pure ?_
  obtain ⟨hlt', hen⟩ := Array.getElem?_eq_some_iff.mp hx
  simp only [show ¬ ((i : Int) < 0) from by omega, if_false, Int.toNat_natCast, Array.getElem?_eq_getElem hlt']; refine wpAny_bind ?_
  first | refine wpAny_bind (wpAny_typeNameOfWhole_valiter hit.typeIs (wpAny_pure (wpAny_bind (wpAny_isOneOf_valiter hit.typeIs ?_)))) | refine wpAny_bind (wpAny_typeNameOf_valiter hit.typeIs (wpAny_pure (wpAny_bind (wpAny_isOneOf_valiter hit.typeIs ?_))))
  show wpAny _ _ (setField (.ref it) 1 (rawInt ((i : Int) + 1)) >>= _) _ _ s
  refine wpAny_bind (wpAny_setField ho hd (by simp) ?_)
  have hit' : (s.heap.update it (Obj.mapFields (·.setIfInBounds 1 (rawInt ((i : Int) + 1))))).IsValIter it d (i + 1) n ep :=
    ⟨_, Heap.get?_update_self _ ho (Obj.isFreed_of_fields (Obj.data_mapFields hd _)), (Obj.cls_mapFields ..).trans hc, by rw [Obj.data_mapFields hd]; simp [rawInt]⟩
  refine wpAny_bind (wpAny_holding (wpAny_bind (wpAny_isOneOf_valiter (s := { s with heap := s.heap.update it (Obj.mapFields (·.setIfInBounds 1 (rawInt ((i : Int) + 1)))) }) hit'.typeIs
    (wpAny_bind (wpAny_isOneOf_valiter (s := { s with heap := s.heap.update it (Obj.mapFields (·.setIfInBounds 1 (rawInt ((i : Int) + 1)))) }) hit'.typeIs ?_)))))
  show wpAny _ _ (pure es[i].val) _ _ _; rw [hen]; exact wpAny_pure (wpAny_pure ⟨_, rfl, wpAny_pure (hQ _ hit' (Heap.SameBut.update ..))⟩)
theorem next_val_end {it d : Addr} {i n ep : Nat} {od : Obj} {es : Array DictEntry} {Q : Option Value → Shared → Prop} (hh : A.handled = none) (hit : s.heap.IsValIter it d i n ep) (hod : s.heap.get? d = some od) (hdd : od.data = .dict es ep)
    (hsz : es.size = n) (hge : n ≤ i) (hQ : ∀ h', Heap.ExtBut it s.heap h' → Q none { s with heap := h' }) : wpAny (model prog w) A (pyNext (.ref it)) Q E s := by
  obtain ⟨o, ho, hc, hd⟩ := id hit
  unfold pyNext
  refine wpAny_bind (wpAny_attempt (wpAny_callSpecial?_slot (name := Str.ofString "__next__") hit.typeIs F.slot_dict_valueiterator_next (wpAny_call_entry F.slot_dict_valueiterator_next hit.typeIs F.entry_dict_valueiterator_next ?_ (F.args_dict_valueiterator_next_1 _))))
  refine wpAny_bind (wpAny_pure (wpAny_bind (wpAny_bind ?_)))
  first | refine wpAny_bind (wpAny_typeNameOfWhole_valiter hit.typeIs (wpAny_pure (wpAny_bind (wpAny_fieldsOf ho hd ?_)))) | refine wpAny_bind (wpAny_typeNameOf_valiter hit.typeIs (wpAny_pure (wpAny_bind (wpAny_fieldsOf ho hd ?_))))
  have hown : Builtin.Dict_items.ownsTuple "dict_valueiterator" = false := rfl
  simp only [hown, Bool.false_eq_true, if_false]; show wpAny _ _ (if (Value.ref d == Value.none) = true then _ else _) _ _ s
  rw [if_neg (show ¬ ((Value.ref d == Value.none) = true) from Bool.false_ne_true)]; refine wpAny_bind (wpAny_pure (wpAny_bind (wpAny_dictEntries hod hdd ?_)))
  rw [if_neg (by rw [hsz]; simp)]; refine wpAny_bind (wpAny_pure (wpAny_bind (wpAny_dictEpoch hod hdd ?_)))
  rw [if_neg (by simp)]; refine wpAny_pure ?_
  have hge' : es.size ≤ i := hsz ▸ hge
  simp only [show ¬ ((i : Int) < 0) from by omega, if_false, Int.toNat_natCast, Array.getElem?_eq_none hge']; refine wpAny_bind ?_
  first | refine wpAny_bind (wpAny_typeNameOf_valiter hit.typeIs (wpAny_pure ?_)) | refine wpAny_bind (wpAny_typeNameOfWhole_valiter hit.typeIs (wpAny_pure ?_))
  show wpAny _ _ (setField (.ref it) 0 .none >>= _) _ _ s
  refine wpAny_bind (wpAny_setField ho hd (by simp) ?_)
  show wpAny _ _ (newExc (.type "StopIteration") [] >>= _) _ _ _
  refine wpAny_bind ?_
  simp only [newExc, newTuple]
  refine wpAny_bind (wpAny_newObj_type ?_ (by size_fits))
  refine wpAny_bind (m := firstArgMember _ _) (wpAny_of_eq (a := Value.none) (by first | rfl | (simp only [firstArgMember]; rfl)) ?_)
  refine wpAny_newObj_type ?_ (by size_fits)
  simp only [raiseNew]
  refine wpAny_bind (wpAny_handled ?_)
  rw [show A.in1.handled = none from hh]
  refine wpAny_bind (wpAny_pure (wpAny_throw ?_))
  refine wpAny_bind (wpAny_isInstance (T := "StopIteration") (b := true) ⟨_, Heap.get?_push_size _ rfl, rfl⟩ isSubtype_stop ?_)
  exact wpAny_pure (hQ _ (((Heap.SameBut.update ..).extBut.push _).push _))
theorem iter_vals {v d : Addr} {od : Obj} {es : Array DictEntry} {ep : Nat} {Q : Value → Shared → Prop} (hv : s.heap.IsValuesView v d) (hod : s.heap.get? d = some od) (hdd : od.data = .dict es ep)
    (hQ : Q (.ref s.heap.objs.size) { s with heap := s.heap.push { cls := .type "dict_valueiterator", data := .fields #[.ref d, .int 0 0, .int es.size 0, .int ep 0] } }) : wpAny (model prog w) A (pyIter (.ref v)) Q E s := by
  obtain ⟨ov, hov, hcv, hdv⟩ := id hv; refine wpAny_pyIter_slot hv.typeIs F.slot_dict_values_iter (wpAny_call_entry F.slot_dict_values_iter hv.typeIs F.entry_dict_values_iter ?_ (F.args_dict_values_iter_1 _))
  unfold Builtin.«dict_values.__iter__» Builtin.Dict_items.dictOf Builtin.Dict_items.newIterator
  refine wpAny_bind (wpAny_pure (wpAny_bind (wpAny_bind (wpAny_field hov hdv (x := .ref d) rfl (wpAny_pure (wpAny_bind (wpAny_bind (wpAny_dictEntries hod hdd (wpAny_bind (wpAny_dictEpoch hod hdd ?_)))))))))) 
  have hown : Builtin.Dict_items.ownsTuple "dict_valueiterator" = false := rfl
  simp only [hown, Bool.false_eq_true, if_false]; refine wpAny_newObj_type (wpAny_pure ⟨_, rfl, "dict_valueiterator", _, ⟨_, Heap.get?_push_size _ rfl, rfl⟩, F.slot_dict_valueiterator_next.lookup, ?_⟩)
  simpa [rawInt] using hQ
theorem meets_vals (prog : Program) (w : World) (d : Addr) (hd : (d == sysModules) = false) : MeetsIn prog w (Builtin.«dict.values» ⟨[.ref d], []⟩) (fun _ R s => s.TypeIs (.ref d) "dict" ∧ R (.ok (.ret (.ref s.heap.objs.size)))
    { s with heap := s.heap.push { cls := .type "dict_values", data := .fields #[.ref d] } }) :=
  .of_wp fun A R s ⟨ht, h⟩ => by
    refine wpAny_bind ?_
    unfold Builtin.Dict.noArgs
    refine wpAny_bind (wpAny_notOrdered_dict ht ?_); show wpAny _ _ (pure d) _ _ s
    refine wpAny_pure ?_
    show wpAny _ _ (Builtin.Dict.showsAll d >>= _) _ _ s
    unfold Builtin.Dict.showsAll
    rw [if_neg (by rw [hd]; exact Bool.false_ne_true)]; exact wpAny_bind (wpAny_pure (wpAny_bind (wpAny_newObj_type (wpAny_pure ⟨_, rfl, h⟩))))
end
def Itvt (d : Addr) (o : Obj) (kvs : List (List Key × V)) : It :=
  ⟨fun i H => H d = some (.frz o (.dT kvs)) ∧ i < kvs.length, fun i H x H' => H' = H ∧ ∃ k, kvs[i]? = some (k, x), fun i H => H d = some (.frz o (.dT kvs)) ∧ kvs.length ≤ i⟩
theorem frz_vals {X : Cx} {pins : List (Addr × Obj)} {σ : L2.St} {H : Hp} {s : Shared} {d : Addr} {o : Obj} {kvs : List (List Key × V)} (I : Inv X pins σ H s) (h : H d = some (.frz o (.dT kvs))) :
    (d == sysModules) = false ∧ s.heap.get? d = some o ∧ o.ExactDict ∧ ∃ (es : Array DictEntry) (ep : Nat), o.data = .dict es ep ∧ es.size = kvs.length ∧ ∀ (i : Nat) (k : List Key) (v : V), kvs[i]? = some (k, v) → ∃ en : DictEntry, es[i]? = some en ∧ RelV v en.val := by
  obtain ⟨hd, z, hs, xs, pr, o', es, ep, ho, hx, hdt, he, _⟩ := I.hok d _ h
  rw [hd] at ho
  cases ho
  have l1 : es.size = xs.length := size_of_entries he
  have l2 : kvs.length = xs.length := Paired.length pr
  refine ⟨hs, hd, hx, es, ep, hdt, by omega, fun i k v e => ?_⟩
  obtain ⟨b, hb, e1, e2, e3⟩ := paired_get pr e
  have q := entry_at he i
  rw [hb] at q
  exact ⟨_, q, e3⟩
theorem turn_valsT {P : Program} {w : World} {K : PySem.W.Frag} {tg : Expr} {d : Addr} {o : Obj} {es : Array DictEntry} {ep : Nat} {kvs : List (List Key × V)} (it : Addr) (hod : o.data = .dict es ep) :
    Turn P w K tg (Itvt d o kvs) [it] it (fun i h => h.IsValIter it d i kvs.length ep) where
  mem := by simp
  obj := fun i h st b hb => by
    obtain ⟨oi, e, c, dd⟩ := st
    rw [show b = it by simpa using hb]
    exact ⟨oi, e, fun v z => by rw [dd] at z; cases z⟩
  keep := fun i h h' st k => let ⟨oi, e, r⟩ := st; ⟨oi, k it (by simp) oi e, r⟩
  item := by
    intro X hP hw hK hc i pins s σ H E I hf st hg
    subst hP hw hK
    obtain ⟨hd, hi⟩ := hg
    obtain ⟨f0, f1, f2, f3, f4, f5⟩ := hf it (by simp)
    obtain ⟨hs, hgd, hx, es', ep', hdt, hsz, ent⟩ := frz_vals I hd
    obtain ⟨rfl, rfl⟩ := dict_ep hod hdt
    obtain ⟨⟨k, v⟩, hkv⟩ : ∃ p, kvs[i]? = some p := ⟨kvs[i], List.getElem?_eq_getElem hi⟩
    obtain ⟨en, hen, hv⟩ := ent i k v hkv
    refine next_val_item st hgd hdt hsz hen fun h' st' sb => ?_
    have I1 : Inv X pins σ H { s with heap := h' } := I.turned (t' := s.toks) (fun b ob hb e => (sb.2 b hb).trans e) f0 f1 f3 f4 f5
    obtain ⟨oi, e, c, dd⟩ := id st'
    exact ⟨en.val, rfl, go_of (s := { s with heap := h' }) e c dd (by decide) ⟨v, H, I1, hv, ⟨rfl, k, hkv⟩, st', fun b hb => (hf b hb).1⟩⟩
  done := by
    intro X hP hw hK hc i pins s σ H E I hf st hg
    subst hP hw hK
    obtain ⟨hd, hi⟩ := hg
    obtain ⟨f0, f1, f2, f3, f4, f5⟩ := hf it (by simp)
    obtain ⟨hs, hgd, hx, es', ep', hdt, hsz, ent⟩ := frz_vals I hd
    obtain ⟨rfl, rfl⟩ := dict_ep hod hdt
    exact next_val_end (I.ok.hd hc) st hgd hdt hsz hi fun h' eb => ⟨rfl, I.turned (t' := s.toks) (fun b ob hb e => eb b ob hb e) f0 f1 f3 f4 f5⟩
  self := fun A i s Q E st h => wpAny_pyIter_valiter st h
def iValsT (td : TE) : TI := fun σ H R => td σ H fun x H1 => ∃ d o kvs, x = .ref d ∧ H1 d = some (.frz o (.dT kvs)) ∧ R (Itvt d o kvs) H1
section
variable {X : Cx} {tg e : Expr} {td : TE} {apos cpos : Pos}
theorem pi_valsT (he : PE X e td) (hbase : attributeBase e "values" X.env (eval e X.env) = eval e X.env := by rfl) (hline : (apos.endLine == cpos.line) = true := by rfl) : PI X tg (.Call (.Attribute e "values" apos) [] [] cpos) (iValsT td) := by
  intro pins s σ H R I h
  refine wpAny_Call_method (T := "dict") (id := "dict.values") hbase rfl hline F.plainAttrs_dict F.slot_dict_values F.type_dict_values (thn (he pins s σ H _ I h) fun u s1 ⟨x, H1, I1, rx, d, o, kvs, ex, hd, q⟩ => ?_)
  subst ex
  obtain rfl : u = Value.ref d := rx
  obtain ⟨hs, hgd, hx, es, ep, hdt, hsz, ent⟩ := frz_vals I1 hd
  have ht : s1.TypeIs (.ref d) "dict" := ⟨o, hgd, hx.1⟩
  refine ⟨ht, fun b eb => ?_, ?_⟩
  · cases eb
    exact ⟨o, hgd, hx.2.1⟩
  have I2 : Inv X pins σ H1 { s1 with heap := s1.heap.push { cls := .type "dict_values", data := .fields #[.ref d] } } := I1.kept (t' := s1.toks) fun b ob q => Heap.get?_push_of_some _ q
  have fin : wpAny (model X.prog X.w) X.A (pyIter (.ref s1.heap.objs.size)) (PIE X pins σ tg R) X.xe { s1 with heap := s1.heap.push { cls := .type "dict_values", data := .fields #[.ref d] } } := by
    refine iter_vals (d := d) ⟨_, Heap.get?_push_size _ rfl, rfl, rfl⟩ (Heap.get?_push_of_some _ hgd) hdt (pi_one (tk := s1.toks) I2 _ (turn_valsT _ hdt) ⟨_, Heap.get?_push_size _ rfl, rfl, ?_⟩ q)
    rw [hsz] <;> rfl
  show wpAny _ _ (callWith cpos (.builtin "dict.values") [.ref d] [] []) _ X.xe s1
  exact method_meetsIn F.slot_dict_values F.entry_dict_values rfl (PySem.evalArgs_none ⟨rfl, ht, F.args_dict_values_1 _, _, meets_vals X.prog X.w d hs, ht, fin⟩)
end
end Du
set_option Elab.async false
set_option linter.all false
set_option maxRecDepth 100000
set_option maxHeartbeats 2000000
namespace Du
open PySem PySem.Spec PyProof.Rows L2
/-! ### words -/
def nv (n : Nat) : V := .int (n : Int)
theorem same_refl (H : Hp) : Same H H := fun _ _ h => h
theorem same_upd {H H' : Hp} {D : Addr} {o : HO} (s : Same H H') (n : H D = none) : Same H (upd H' D o) := fun b u e => by
  rw [upd_ne (ne_of_none e n)]
  exact s b u e
theorem same_new {H : Hp} {D : Addr} {o : HO} (n : H D = none) : Same H (upd H D o) := same_upd (same_refl H) n
/-- a module's constant -/
structure Glob (mg : Str → Option Value) (x : Str) (v : V) : Prop where
  ex : ∃ u, mg x = some u ∧ RelV v u
/-- a def of the module -/
structure Dfn (K : PySem.W.Frag) (mg : Str → Option Value) (x : Str) (st : Stmt) (ps : List Str) (f : Addr) (fd : FuncData) : Prop where
  F : Fun K x x st f fd
  mg : mg x = some (.ref f)
  b : Binds K fd ps []
section
variable {X : Cx}
theorem pe_g {x : Str} {v : V} {pos : Pos} (g : Glob X.mg x v) (hg : Gl X x := by rfl) (hd : (x == ("__debug__" : Str)) = false := by decide) : PE X (.Name x pos) (tC v) := by
  obtain ⟨u, a, b⟩ := g.ex
  exact pe_glob hg a b hd
theorem pe_f {k j : Nat} {f : Addr} {fd : FuncData} {ps : List Str} {sp : Sp} {x : Str} {st : Stmt} {p pos : Pos} {e : Expr} {es : List Expr} {t : TA} (A : Dfn X.K X.mg x st ps f fd) (G : FnOk X.prog X.w X.K X.mg X.base CX0 j f fd ps sp) (hr : Room k X.A)
    (ha : PA X (e :: es) t) (hjk : j ≤ k := by decide) (hg : Gl X x := by rfl) (hdb : (x == ("__debug__" : Str)) = false := by decide) (he : starEach (e :: es) X.env = (false, eval e X.env) :: starEach es X.env := by rfl) (hpl : (backTo pos (starEach es X.env)).any (·.1) = false := by rfl) :
    PE X (.Call (.Name x p) (e :: es) [] pos) (tCall sp [] E0 t) := pe_call G (hr.mono hjk) hg A.mg A.F.kp A.b .nil pass0 ha hdb he hpl
/-! ### big numbers -/
def CBig (i : Int) : Prop := i.natAbs < 2 ^ 4000
theorem bits_of {i : Int} (h : CBig i) : PySem.Builtin.Int.intBits i ≤ 4000 := intBits_le h
theorem mulB_ok {i j : Int} (h : CBig i) (k : CBig j) : IntMulOk i j := mulOk_of_bits (bits_of h) (bits_of k) (by decide)
theorem op_mulB : OpR X (binaryOp .Mult) (rI (fun i j => CBig i ∧ CBig j) fun i j => .int (i * j)) := opI fun _ _ _ _ _ _ _ hc q => mul_int q (mulB_ok hc.1 hc.2)
theorem op_fdivB : OpR X (binaryOp .FloorDiv) (rI (fun _ j => 0 < j ∧ CBig j) fun i j => .int (i / j)) := opI fun i j _ _ _ _ _ hc q => by
  have h1 : (0 : Int) < j := hc.1
  refine floordiv_int (by omega) (by rw [Int.fdiv_eq_ediv_of_nonneg i (by omega)]; exact q) (.inl (PyProof.noPylong_of_log2 ?_))
  have h2 : j.natAbs < 2 ^ 4000 := hc.2
  by_cases e : j.natAbs = 0
  · omega
  · have := (Nat.log2_lt e).mpr h2
    omega
end
/-! ### small numbers -/
theorem bit_in (m i : Nat) : decide (V.int (Builtin.bitAnd ((m : Int) / 2 ^ ((0 : Int) + (i : Int)).toNat) 1) = V.int 1) = Uw86.isIn m i := by
  have e1 : ((0 : Int) + (i : Int)).toNat = i := by omega
  have e2 : ((m : Int) / 2 ^ i) = ((m / 2 ^ i : Nat) : Int) := by
    rw [Int.natCast_ediv, Int.natCast_pow]
    rfl
  rw [e1, bitAnd_m1, e2]
  unfold Uw86.isIn
  by_cases h : m / 2 ^ i % 2 = 1
  · have h' : ((m / 2 ^ i : Nat) : Int) % 2 = 1 := by omega
    rw [h', h]
    simp
  · have h' : ¬ ((m / 2 ^ i : Nat) : Int) % 2 = 1 := by omega
    rw [decide_eq_false (fun q => h' (V.int.inj q))]
    symm
    rw [beq_eq_false_iff_ne]
    exact h
theorem filter_snoc (p : Nat → Bool) (i : Nat) : (List.range (i + 1)).filter p = (List.range i).filter p ++ (if p i = true then [i] else []) := by
  rw [List.range_succ, List.filter_append, List.filter_cons, List.filter_nil]
theorem small_len {n : Nat} (h : n ≤ 100) : n < sizeLine := Nat.lt_of_le_of_lt h (by decide)
theorem line2 {a b : V} : [a, b].length ≤ sizeLine := by
  show 2 ≤ sizeLine
  decide
theorem line1 {a : V} : [a].length ≤ sizeLine := by
  show 1 ≤ sizeLine
  decide
theorem rng_lo {n : Nat} : -(2 ^ 62) ≤ (n : Int) := by omega
theorem rng_hi {n : Nat} (h : n ≤ 100000) : (n : Int) < 2 ^ 62 := by omega
/-! ### the text by places -/
def top (i : Nat) : Stmt := PySem.Challenge.pw_duelaims_s01_answers.main.body.getD i (.Pass ⟨0, 0, 0, 0⟩)
abbrev sInit : Stmt := inClass (top 14) 0
abbrev sMembers : Stmt := top 15
abbrev sBest : Stmt := top 16
abbrev sFirstAims : Stmt := top 17
abbrev sInTurn : Stmt := top 18
abbrev sNext : Stmt := top 19
abbrev sSurely : Stmt := top 20
abbrev sMixed : Stmt := top 21
abbrev sFirstHits : Stmt := top 22
abbrev sChances : Stmt := top 23
abbrev sKnown : Stmt := top 24
abbrev sGcd : Stmt := top 25
abbrev sLow : Stmt := top 26
abbrev sTold : Stmt := top 27
abbrev sMay : Stmt := top 28
abbrev sDoes : Stmt := top 29
abbrev sBAims : Stmt := top 30
abbrev sFBetter : Stmt := top 31
abbrev sIsDuel : Stmt := top 32
abbrev sIsSet : Stmt := top 33
abbrev sRefusal : Stmt := top 34
abbrev sADuel : Stmt := top 35
abbrev sAAim : Stmt := top 36
abbrev sAAims : Stmt := top 37
abbrev sAAll : Stmt := top 38
abbrev sASet : Stmt := top 39
abbrev sABest : Stmt := top 40
abbrev sABetter : Stmt := top 41
abbrev sAImprove : Stmt := top 42
abbrev sAAir : Stmt := top 43
abbrev sCall : Stmt := top 44
abbrev sLen : Stmt := top 45
abbrev sAnswers : Stmt := top 46
/-! ### the module's names -/
structure Txt (K : PySem.W.Frag) (mg : Str → Option Value) : Prop where
  range : mg "range" = none
  len : mg "len" = none
  sum : mg "sum" = none
  zip : mg "zip" = none
  max : mg "max" = none
  list : mg "list" = none
  sorted : mg "sorted" = none
  most : Glob mg "MOST_SHOTS" (.int 4)
  few : Glob mg "FEWEST_SHOTS" (.int 2)
  below : Glob mg "MOST_BELOW" (.int 60)
  changes : Glob mg "MOST_CHANGES" (.int 30)
/-! ### promises -/
/-- a new list comes out, all else as it was -/
def NewL (H : Hp) (Q : VK) (xs : List V) : Prop := ∀ (H' : Hp) (p : Addr), Same H H' → H p = none → H' p = some (.lst xs) → Q (.ref p) H'
def spMembers : Sp := fun vs H Q _ => ∃ m : Nat, vs = [.int m] ∧ NewL H Q ((Uw86.members 4 m).map nv)
def spBest (K : PySem.W.Frag) : Sp := fun vs H Q _ => ∃ (a b : Addr) (hits l : List Nat), vs = [.ref a, .ref b] ∧ SqL K H a (hits.map nv) ∧ SqL K H b (l.map nv) ∧ l ≠ [] ∧ (∀ i ∈ l, i < hits.length) ∧ Q (nv (Uw86.keenest hits l)) H
section
variable {P : Program} {w : World} {K : PySem.W.Frag} {mg : Str → Option Value} {base : Heap}
theorem sc_members : FnScope ["group", "shot"] ["group"] (defScope sMembers) := ⟨rfl, rfl, rfl, by decide +kernel, rfl, by decide +kernel, by decide +kernel⟩
theorem ok_members {f : Addr} {fd : FuncData} (A : Dfn K mg "members" sMembers ["group"] f fd) (T : Txt K mg) : FnOk P w K mg base CX0 1 f fd ["group"] spMembers := by
  refine A.F.ok sc_members (fun vs H Q E h => ?_) (fun cdv A outer s H vs Q E hr h => ?_)
  · obtain ⟨m, rfl, _⟩ := h
    rfl
  · obtain ⟨m, rfl, k⟩ := h
    refine ⟨_, pss_one (ps_ret (pe_lc (own := [("shot", 1)]) rfl sc_members.nd (pi_range1 rfl T.range (pa_cons (pe_g T.most) pa_nil)) (blkOk_by (by rfl))
      (fun _ _ _ _ _ => pg_name (i := 1) sc_members.nd rfl (Or.inl rfl)) (fun _ _ _ _ _ => pts_one (pt_cmpR op_eq (pe_op op_and (pe_op op_shr (pv 0) (pv 1)) pe_int) pe_int (nomark _))) (fun _ _ _ _ _ => pv 1))), ?_⟩
    refine ⟨4, rfl, by decide, by decide, fun D hD => lc_range (lo := 0) (n := 4) (fun i H' => Same H H' ∧ H' D = some (.lst (((List.range i).filter (Uw86.isIn m)).map nv))) ⟨same_new hD, upd_same⟩ ?_ ?_⟩
    · rintro i H' hi ⟨sm, hD'⟩
      refine ⟨rfl, _, rfl, _, rfl, _, _, rfl, rfl, (by show (0 : Int) ≤ 0 + (i : Int); omega), _, _, rfl, rfl, rfl, _, rfl, ?_⟩
      rw [bit_in]
      cases hb : Uw86.isIn m i with
      | true =>
        refine iteT ⟨_, rfl, _, hD', ?_, same_upd sm hD, ?_⟩
        · rw [List.length_map]
          exact small_len (Nat.le_trans (List.length_filter_le _ _) (by rw [List.length_range]; omega))
        · rw [upd_same, filter_snoc, hb, if_pos rfl, List.map_append]
          have e : nv i = V.int (0 + (i : Int)) := by
            unfold nv
            rw [Int.zero_add]
          rw [List.map_cons, List.map_nil, e]
      | false =>
        refine iteF ⟨sm, ?_⟩
        rw [filter_snoc, hb, if_neg (by decide), List.append_nil]
        exact hD'
    · rintro H' ⟨sm, hD'⟩
      exact k H' D sm hD hD'
theorem sc_best : FnScope ["hits", "among", "best", "shot"] ["hits", "among"] (defScope sBest) := ⟨rfl, rfl, rfl, by decide +kernel, rfl, by decide +kernel, by decide +kernel⟩
theorem at_nv {l : List Nat} {j x : Nat} (h : l[j]? = some x) : atI (l.map nv) (j : Int) = some (nv x) := atI_nat (by rw [List.getElem?_map, h]; rfl)
theorem at_getD {l : List Nat} {j : Nat} (h : j < l.length) : atI (l.map nv) (j : Int) = some (nv (l.getD j 0)) := at_nv (by rw [List.getD_eq_getElem?_getD, List.getElem?_eq_getElem h]; rfl)
theorem of_nv {l : List Nat} {i : Nat} {x : V} (h : (l.map nv)[i]? = some x) : ∃ z, l[i]? = some z ∧ x = nv z := by
  rw [List.getElem?_map] at h
  cases e : l[i]? with
  | none =>
    rw [e] at h
    cases h
  | some z =>
    rw [e] at h
    exact ⟨z, rfl, (Option.some.inj h).symm⟩
def keenG (hits : List Nat) (k : Nat) (l : List Nat) : Nat := l.foldl (fun k i => if hits.getD k 0 < hits.getD i 0 then i else k) k
theorem keenG_snoc (hits : List Nat) (k : Nat) (l : List Nat) (i : Nat) : keenG hits k (l ++ [i]) = if hits.getD (keenG hits k l) 0 < hits.getD i 0 then i else keenG hits k l := by
  unfold keenG
  rw [List.foldl_append]
  rfl
theorem keenG_mem {hits l : List Nat} {k : Nat} : keenG hits k l = k ∨ keenG hits k l ∈ l := DM.keen_go hits l k
theorem take_snoc {α : Type} {l : List α} {i : Nat} {x : α} (h : l[i]? = some x) : l.take (i + 1) = l.take i ++ [x] := by
  rw [List.take_add_one, h]
  rfl
theorem ok_best {f : Addr} {fd : FuncData} (A : Dfn K mg "best_shot" sBest ["hits", "among"] f fd) (T : Txt K mg) : FnOk P w K mg base CX0 1 f fd ["hits", "among"] (spBest K) := by
  refine A.F.ok sc_best (fun vs H Q E h => ?_) (fun cdv A outer s H vs Q E hr h => ?_)
  · obtain ⟨a, b, hits, l, rfl, _⟩ := h
    rfl
  · obtain ⟨a, b, hits, l, rfl, ha, hb, hne, hlt, k⟩ := h
    refine ⟨_, pss_cons (ps_set (i := 2) sc_best.nd rfl (Or.inl rfl) (pe_ix ix_list (pv 1) pe_int (fun _ _ => rfl)))
      (pss_cons (ps_for PassesOwn.never rfl (pi_list (pv 1)) (pg_name (i := 3) sc_best.nd rfl (Or.inl rfl))
        (pss_one (ps_if (pt_cmpR op_gt (pe_ix ix_list (pv 0) (pv 3) (fun _ _ => rfl)) (pe_ix ix_list (pv 0) (pv 2) (fun _ _ => rfl)) (nomark _))
          (pss_one (ps_set (i := 2) sc_best.nd rfl (Or.inl rfl) (pv 3))) pss_nil)))
      (pss_one (ps_ret (pv 2)))), ?_⟩
    obtain ⟨x0, l', rfl⟩ : ∃ x l', l = x :: l' := by
      cases l with
      | nil => exact absurd rfl hne
      | cons x l' => exact ⟨x, l', rfl⟩
    have kl : ∀ i, keenG hits x0 ((x0 :: l').take i) < hits.length := by
      intro i
      rcases keenG_mem (hits := hits) (k := x0) (l := (x0 :: l').take i) with e | e
      · rw [e]
        exact hlt x0 List.mem_cons_self
      · exact hlt _ (List.mem_of_mem_take e)
    refine ⟨_, rfl, b, _, 0, nv x0, rfl, rfl, hb, at_nv (j := 0) rfl, ?_⟩
    refine ⟨_, rfl, b, rfl, ⟨_, hb⟩, for_list (K := K) (a := b) (xs := (x0 :: l').map nv) (fun i σ H' => H' = H ∧ ∃ v : Option V, σ = [some (.ref a), some (.ref b), some (nv (keenG hits x0 ((x0 :: l').take i))), v])
      ⟨rfl, none, rfl⟩ (fun i σ H' _ ⟨e, _⟩ => by rw [e]; exact hb) ?_ ?_⟩
    · rintro i y σ H' hi ⟨rfl, v, rfl⟩
      obtain ⟨z, hz, rfl⟩ := of_nv hi
      have hzl : z < hits.length := hlt z (List.mem_of_getElem? hz)
      refine ⟨_, rfl, _, rfl, a, _, _, _, rfl, rfl, ha, at_getD hzl, _, rfl, _, rfl, a, _, _, _, rfl, rfl, ha, at_getD (kl i), _, _, rfl, rfl, _, rfl, ?_⟩
      have es := take_snoc hz
      by_cases hc : hits.getD (keenG hits x0 ((x0 :: l').take i)) 0 < hits.getD z 0
      · refine ite2 (fun _ => ?_) (fun q => absurd (decide_eq_true (by omega)) q)
        refine ⟨_, rfl, rfl, some (nv z), ?_⟩
        rw [es, keenG_snoc, if_pos hc]
        rfl
      · refine ite2 (fun q => absurd (of_decide_eq_true q) (by omega)) (fun _ => ?_)
        refine ⟨rfl, some (nv z), ?_⟩
        rw [es, keenG_snoc, if_neg hc]
        rfl
    · rintro σ H' ⟨rfl, v, rfl⟩
      refine ⟨_, rfl, ?_⟩
      rw [List.length_map, List.take_length] at *
      exact k
end
end Du
set_option Elab.async false
set_option linter.all false
set_option maxRecDepth 100000
set_option maxHeartbeats 2000000
namespace Du
open PySem PySem.Spec PyProof.Rows L2
/-! ### the aims' table -/
def key (m i : Nat) : List Key := [Sum.inl (m : Int), Sum.inl (i : Int)]
theorem key_inj {m i m' i' : Nat} : key m i = key m' i' ↔ m = m' ∧ i = i' := by
  unfold key
  constructor
  · intro h
    injection h with h1 h2
    injection h2 with h2 _
    injection h1 with h1
    injection h2 with h2
    omega
  · rintro ⟨rfl, rfl⟩
    rfl
/-- the keys of all sets below g, in order -/
def keyL (n g : Nat) : List (List Key) := ((List.range g).filter fun m => decide (2 ≤ DM.Card n m)).flatMap fun m => (Uw86.members n m).map (key m)
theorem keyL_succ (n g : Nat) : keyL n (g + 1) = keyL n g ++ (if 2 ≤ DM.Card n g then (Uw86.members n g).map (key g) else []) := by
  unfold keyL
  rw [List.range_succ, List.filter_append, List.flatMap_append, List.filter_cons, List.filter_nil]
  by_cases h : 2 ≤ DM.Card n g
  · rw [if_pos h, if_pos (decide_eq_true h)]
    simp
  · rw [if_neg h, if_neg (by simp [h])]
    simp
theorem mem_keyL {n g : Nat} {k : List Key} : k ∈ keyL n g ↔ ∃ m i, m < g ∧ 2 ≤ DM.Card n m ∧ i ∈ Uw86.members n m ∧ k = key m i := by
  unfold keyL
  rw [List.mem_flatMap]
  constructor
  · rintro ⟨m, h1, h2⟩
    obtain ⟨h3, h4⟩ := List.mem_filter.mp h1
    obtain ⟨i, h5, rfl⟩ := List.mem_map.mp h2
    exact ⟨m, i, List.mem_range.mp h3, of_decide_eq_true h4, h5, rfl⟩
  · rintro ⟨m, i, h1, h2, h3, rfl⟩
    exact ⟨m, List.mem_filter.mpr ⟨List.mem_range.mpr h1, decide_eq_true h2⟩, List.mem_map.mpr ⟨i, h3, rfl⟩⟩
theorem any_keys {κ : Type} [DecidableEq κ] (k : κ) (kvs : List (κ × V)) : (kvs.any fun kv => decide (kv.1 = k)) = decide (k ∈ kvs.map (·.1)) := by
  rw [Bool.eq_iff_iff, List.any_eq_true, decide_eq_true_eq, List.mem_map]
  constructor
  · rintro ⟨x, h, e⟩
    exact ⟨x, h, of_decide_eq_true e⟩
  · rintro ⟨x, h, e⟩
    exact ⟨x, h, decide_eq_true e⟩
theorem keys_new {κ : Type} [DecidableEq κ] {kvs : List (κ × V)} {k : κ} (v : V) (h : k ∉ kvs.map (·.1)) : (putK kvs k v).map (·.1) = kvs.map (·.1) ++ [k] := by
  unfold putK
  rw [any_keys, if_neg (by simpa using h), List.map_append]
  rfl
theorem keys_in {κ : Type} [DecidableEq κ] {kvs : List (κ × V)} {k : κ} (v : V) (h : k ∈ kvs.map (·.1)) : (putK kvs k v).map (·.1) = kvs.map (·.1) := by
  unfold putK
  rw [any_keys, if_pos (decide_eq_true h), List.map_map]
  refine List.map_congr_left fun x _ => ?_
  show (if x.1 = k then (x.1, v) else x).1 = x.1
  split <;> rfl
theorem nd_memb (n m : Nat) : (Uw86.members n m).Nodup := List.Pairwise.filter _ List.nodup_range
structure AimsFor (kvs : List (List Key × V)) (n : Nat) (g : Nat → Nat → Nat) : Prop where
  len : kvs.length ≤ 64
  keys : kvs.map (·.1) = keyL n (2 ^ n)
  at_ : ∀ m i, m < 2 ^ n → 2 ≤ DM.Card n m → Uw86.isIn m i = true → valV kvs (key m i) = some (nv (g m i))
def spFirstAims (K : PySem.W.Frag) : Sp := fun vs H Q _ => ∃ (a : Addr) (hits : List Nat), vs = [.ref a] ∧ SqL K H a (hits.map nv) ∧ 2 ≤ hits.length ∧ hits.length ≤ 4 ∧
  ∀ (H' : Hp) (p : Addr) (kvs : List (List Key × V)), Same H H' → H p = none → H' p = some (.dT kvs) → AimsFor kvs hits.length (fun m i => Uw86.keenest hits ((Uw86.members hits.length m).filter fun j => j != i)) → Q (.ref p) H'
/-! finite facts -/
theorem members4 {n m : Nat} (h2 : 2 ≤ n) (h4 : n ≤ 4) (hm : m < 2 ^ n) : Uw86.members 4 m = Uw86.members n m := by
  rcases DM.n_cases h2 h4 with rfl | rfl | rfl
  · have : ∀ m, m < 2 ^ 2 → Uw86.members 4 m = Uw86.members 2 m := by decide
    exact this m hm
  · have : ∀ m, m < 2 ^ 3 → Uw86.members 4 m = Uw86.members 3 m := by decide
    exact this m hm
  · rfl
def turnL (m i : Nat) : List Nat := (Uw86.members 4 m).filter (fun j => decide (i ≤ j)) ++ (Uw86.members 4 m).filter (fun j => decide (j < i))
theorem turnL_eq {n m i : Nat} (h2 : 2 ≤ n) (h4 : n ≤ 4) (hm : m < 2 ^ n) (hi : i < n) : turnL m i = Uw86.order n m i := by
  rcases DM.n_cases h2 h4 with rfl | rfl | rfl
  · have : ∀ m, m < 2 ^ 2 → ∀ i, i < 2 → turnL m i = Uw86.order 2 m i := by decide
    exact this m hm i hi
  · have : ∀ m, m < 2 ^ 3 → ∀ i, i < 3 → turnL m i = Uw86.order 3 m i := by decide +kernel
    exact this m hm i hi
  · have : ∀ m, m < 2 ^ 4 → ∀ i, i < 4 → turnL m i = Uw86.order 4 m i := by decide +kernel
    exact this m hm i hi
theorem ne_nv (a b : Nat) : (!decide (nv a = nv b)) = (a != b) := by
  by_cases h : a = b
  · subst h
    simp
  · have : ¬ nv a = nv b := by
      unfold nv
      intro q
      injection q with q
      omega
    rw [decide_eq_false this]
    symm
    simp [h]
theorem eq_nv (a b : Nat) : decide (nv a = nv b) = decide (a = b) := by
  by_cases h : a = b
  · subst h
    simp
  · have : ¬ nv a = nv b := by
      unfold nv
      intro q
      injection q with q
      omega
    rw [decide_eq_false this, decide_eq_false h]
theorem filter_take {α : Type} {p : α → Bool} {l : List α} {i : Nat} {x : α} (h : l[i]? = some x) : (l.take (i + 1)).filter p = (l.take i).filter p ++ (if p x = true then [x] else []) := by
  rw [take_snoc h, List.filter_append, List.filter_cons, List.filter_nil]
theorem members_len4 (m : Nat) : (Uw86.members 4 m).length ≤ 4 := DM.card_le
section
variable {P : Program} {w : World} {K : PySem.W.Frag} {mg : Str → Option Value} {base : Heap}
theorem sc_first : FnScope ["hits", "aims", "group", "inside", "shot", "others", "other"] ["hits"] (defScope sFirstAims) := ⟨rfl, rfl, rfl, by decide +kernel, rfl, by decide +kernel, by decide +kernel⟩
theorem ok_first {f fM fB : Addr} {fd fdM fdB : FuncData} (A : Dfn K mg "first_aims" sFirstAims ["hits"] f fd) (T : Txt K mg) (AM : Dfn K mg "members" sMembers ["group"] fM fdM) (AB : Dfn K mg "best_shot" sBest ["hits", "among"] fB fdB) : FnOk P w K mg base CX0 2 f fd ["hits"] (spFirstAims K) := by
  have GM : FnOk P w K mg base CX0 1 fM fdM ["group"] spMembers := ok_members AM T
  have GB : FnOk P w K mg base CX0 1 fB fdB ["hits", "among"] (spBest K) := ok_best AB T
  refine A.F.ok sc_first (fun vs H Q E h => ?_) (fun cdv A outer s H vs Q E hr h => ?_)
  · obtain ⟨a, hits, rfl, _⟩ := h
    rfl
  · obtain ⟨a, hits, rfl, ha, h2, h4, k⟩ := h
    have hu := hu_of hr
    refine ⟨_, pss_cons (ps_set (i := 1) sc_first.nd rfl (Or.inl rfl) pe_dnewT)
      (pss_cons (ps_for PassesOwn.never rfl (pi_range1 rfl T.range (pa_cons (pe_op op_shl pe_int (pe_callB call_len_seq (by rfl) T.len PySem.boot_len (pa_cons (pv 0) pa_nil))) pa_nil)) (pg_name (i := 2) sc_first.nd rfl (Or.inl rfl))
        (pss_cons (ps_set (i := 3) sc_first.nd rfl (Or.inl rfl) (pe_f AM GM hr (pa_cons (pv 2) pa_nil)))
        (pss_one (ps_if (pt_cmpR op_ge (pe_callB call_len_seq (by rfl) T.len PySem.boot_len (pa_cons (pv 3) pa_nil)) pe_int (nomark _))
          (pss_one (ps_for PassesOwn.never rfl (pi_list (pv 3)) (pg_name (i := 4) sc_first.nd rfl (Or.inr rfl))
            (pss_cons (ps_setLc (i := 5) (own := [("other", 6)]) rfl sc_first.nd rfl rfl (by rfl) (pi_list (pv 3)) (blkOk_by (by rfl))
              (fun _ _ _ _ _ => pg_name (i := 6) sc_first.nd rfl (Or.inl rfl)) (fun _ _ _ _ _ => pts_one (pt_cmpR op_ne (pv 6) (pv 4) (nomark _))) (fun _ _ _ _ _ => pv 6))
            (pss_one (ps_dput hu (pv 1) (pe_tup (pa_cons (pv 2) (pa_cons (pv 4) pa_nil))) (pe_f AB GB hr (pa_cons (pv 0) (pa_cons (pv 5) pa_nil))) rfl)))))
          pss_nil))))
      (pss_one (ps_ret (pv 1)))), ?_⟩
    intro d hd
    have sd : Same H (upd H d (.dT [])) := same_new hd
    have e2 : (1 : Int) * 2 ^ ((hits.map nv).length : Int).toNat = ((2 ^ hits.length : Nat) : Int) := by
      rw [List.length_map, Int.one_mul, Int.toNat_natCast, Int.natCast_pow]
      rfl
    have p16 : 2 ^ hits.length ≤ 16 := Nat.pow_le_pow_right (by decide) h4
    refine ⟨_, rfl, a, _, rfl, .inl (sd.seq ha), _, _, rfl, rfl, ⟨by omega, by rw [List.length_map]; omega, by decide⟩, ((2 ^ hits.length : Nat) : Int), congrArg (fun z => [V.int z]) e2, rng_lo, rng_hi (Nat.le_trans p16 (by decide)),
      for_range (lo := 0) (n := 2 ^ hits.length) (fun g σ H' => ∃ (v2 v3 v4 v5 : Option V) (kvs : List (List Key × V)), σ = [some (.ref a), some (.ref d), v2, v3, v4, v5, none] ∧ Same H H' ∧ H' d = some (.dT kvs) ∧ kvs.length ≤ 4 * g ∧ kvs.map (·.1) = keyL hits.length g ∧
        ∀ m i, m < g → 2 ≤ DM.Card hits.length m → Uw86.isIn m i = true → valV kvs (key m i) = some (nv (Uw86.keenest hits ((Uw86.members hits.length m).filter fun j => j != i))))
      ⟨none, none, none, none, [], rfl, sd, upd_same, Nat.zero_le _, rfl, fun m i h => by omega⟩ ?_ ?_⟩
    · rintro g σ H1 hg ⟨v2, v3, v4, v5, kvs, rfl, s1, hk, hlen, hky, hall⟩
      rw [Int.zero_add]
      refine ⟨_, rfl, g, rfl, fun H2 q s2 hq hq2 => ?_⟩
      have em := members4 h2 h4 hg
      rw [em] at hq2
      refine ⟨_, rfl, q, _, rfl, .inl (SqL.of hq2), _, _, rfl, rfl, _, rfl, ?_⟩
      have hk2 := s2 _ _ hk
      by_cases hc : 2 ≤ DM.Card hits.length g
      · refine ite2 (fun _ => ?_) (fun z => absurd (decide_eq_true (by rw [List.length_map]; show (2 : Int) ≤ (DM.Card hits.length g : Nat); omega)) z)
        refine ⟨_, rfl, q, rfl, ⟨_, SqL.of hq2⟩, for_list (K := K) (a := q) (xs := (Uw86.members hits.length g).map nv) (fun j σ H' => ∃ (v4 v5 : Option V) (kvs : List (List Key × V)), σ = [some (.ref a), some (.ref d), some (nv g), some (.ref q), v4, v5, none] ∧ Same H H' ∧
            H' q = some (.lst ((Uw86.members hits.length g).map nv)) ∧ H' d = some (.dT kvs) ∧ kvs.length ≤ 4 * g + j ∧ kvs.map (·.1) = keyL hits.length g ++ ((Uw86.members hits.length g).take j).map (key g) ∧
            (∀ m i, m < g → 2 ≤ DM.Card hits.length m → Uw86.isIn m i = true → valV kvs (key m i) = some (nv (Uw86.keenest hits ((Uw86.members hits.length m).filter fun j => j != i)))) ∧
            ∀ i, i ∈ (Uw86.members hits.length g).take j → valV kvs (key g i) = some (nv (Uw86.keenest hits ((Uw86.members hits.length g).filter fun j => j != i))))
          ⟨v4, v5, kvs, rfl, s1.trans s2, hq2, hk2, by omega, by rw [hky, List.take_zero, List.map_nil, List.append_nil], hall, fun i h => by rw [List.take_zero] at h; cases h⟩ (fun j σ H' _ ⟨_, _, _, _, _, z, _⟩ => SqL.of z) ?_ ?_⟩
        · rintro j y σ H3 hj ⟨v4, v5, kvs, rfl, s3, hq3, hk3, hl3, hy3, ha3, hb3⟩
          obtain ⟨z, hz, rfl⟩ := of_nv hj
          have hzm : z ∈ Uw86.members hits.length g := List.mem_of_getElem? hz
          have hj4 : j < 4 := Nat.lt_of_lt_of_le (List.getElem?_eq_some_iff.mp hz).1 (Nat.le_trans DM.card_le h4)
          -- others
          refine ⟨_, rfl, q, rfl, ⟨_, SqL.of hq3⟩, fun D hD => lc_list (K := K) (a := q) (xs := (Uw86.members hits.length g).map nv) (fun i H' => Same H3 H' ∧ H' D = some (.lst ((((Uw86.members hits.length g).take i).filter fun j => j != z).map nv)))
            ⟨same_new hD, upd_same⟩ (fun i H' _ ⟨z, _⟩ => SqL.of (z _ _ hq3)) ?_ ?_⟩
          · rintro i y H4 hi ⟨s4, hD4⟩
            obtain ⟨x, hx, rfl⟩ := of_nv hi
            refine ⟨rfl, _, rfl, _, rfl, rfl, _, rfl, ?_⟩
            rw [ne_nv]
            cases hb : (x != z) with
            | true =>
              refine iteT ⟨_, rfl, _, hD4, ?_, same_upd s4 hD, ?_⟩
              · rw [List.length_map]
                refine small_len (Nat.le_trans (List.length_filter_le _ _) (Nat.le_trans (List.length_take_le' _ _) ?_))
                exact Nat.le_trans DM.card_le (by omega)
              · rw [upd_same, filter_take hx, hb, if_pos rfl, List.map_append]
                rfl
            | false =>
              refine iteF ⟨s4, ?_⟩
              rw [filter_take hx, hb, if_neg (by decide), List.append_nil]
              exact hD4
          · rintro H4 ⟨s4, hD4⟩
            rw [List.length_map, List.take_length] at hD4
            have hne := DM.others_ne (i := z) hc
            refine ⟨_, rfl, _, rfl, a, D, hits, _, rfl, (s3.trans s4).seq ha, SqL.of hD4, hne, (fun i hi => (DM.mem_members.mp (List.mem_filter.mp hi).1).1), _, rfl, _, rfl, _, rfl, line2, fun t ht => ?_⟩
            have hk4 := s4 _ _ hk3
            refine ⟨d, _, rfl, DPut.t (k := key g z) (by rw [upd_ne (ne_of_none hk4 ht)]; exact hk4) upd_same (small_len (by omega)), ?_⟩
            have hdt : d ≠ t := ne_of_none hk4 ht
            have hdq : q ≠ d := ne_of hq3 hk3 (by intro z; cases z)
            have hq4 := s4 _ _ hq3
            have hnk : key g z ∉ kvs.map (·.1) := by
              rw [hy3, List.mem_append]
              rintro (h | h)
              · obtain ⟨m, i, h1, _, _, h4⟩ := mem_keyL.mp h
                have := (key_inj.mp h4).1
                omega
              · obtain ⟨i, h1, h2⟩ := List.mem_map.mp h
                have e := (key_inj.mp h2).2
                subst e
                obtain ⟨j', hj'⟩ := List.mem_iff_getElem?.mp h1
                have hlt : j' < j := by
                  have := (List.getElem?_eq_some_iff.mp hj').1
                  rw [List.length_take] at this
                  omega
                rw [List.getElem?_take_of_lt hlt] at hj'
                have := nd_ix (nd_memb hits.length g) hj' hz
                omega
            refine ⟨_, _, _, rfl, fun b o e => ?_, ?_, upd_same, Nat.le_trans (length_putK _ _ _) (by omega), by rw [keys_new _ hnk, hy3, take_snoc hz, List.map_append, List.append_assoc]; rfl, fun m i h1 h2' h3 => ?_, fun i hi => ?_⟩
            · have e1 := s4 _ _ (s3 _ _ e)
              rw [upd_ne (ne_of_none e hd), upd_ne (ne_of_none e1 ht)]
              exact e1
            · rw [upd_ne hdq, upd_ne (ne_of_none hq4 ht)]
              exact hq4
            · rw [valV_put, if_neg (fun e => by have := (key_inj.mp e).1; omega)]
              exact ha3 m i h1 h2' h3
            · rw [take_snoc hz, List.mem_append, List.mem_singleton] at hi
              rw [valV_put]
              by_cases e : i = z
              · rw [if_pos (by rw [e]), e]
              · rw [if_neg (fun q => e (key_inj.mp q).2)]
                exact hb3 i (hi.resolve_right e)
        · rintro σ H3 ⟨v4, v5, kvs, rfl, s3, hq3, hk3, hl3, hy3, ha3, hb3⟩
          rw [List.length_map] at hl3 hb3 hy3
          rw [List.take_length] at hb3 hy3
          have : (Uw86.members hits.length g).length ≤ 4 := Nat.le_trans DM.card_le h4
          refine ⟨_, _, _, _, _, rfl, s3, hk3, by omega, by rw [hy3, keyL_succ, if_pos hc], fun m i h1 h2' h3 => ?_⟩
          by_cases e : m = g
          · subst e
            exact hb3 i (DM.mem_members.mpr ⟨DM.isIn_lt hg h3, h3⟩)
          · exact ha3 m i (by omega) h2' h3
      · refine ite2 (fun z => absurd (of_decide_eq_true z) (by rw [List.length_map]; show ¬ (2 : Int) ≤ (DM.Card hits.length g : Nat); omega)) (fun _ => ?_)
        refine ⟨_, _, _, _, _, rfl, s1.trans s2, hk2, by omega, by rw [hky, keyL_succ, if_neg hc, List.append_nil], fun m i h1 h2' h3 => ?_⟩
        by_cases e : m = g
        · subst e
          exact absurd h2' hc
        · exact hall m i (by omega) h2' h3
    · rintro σ H1 ⟨v2, v3, v4, v5, kvs, rfl, s1, hk, hlen, hky, hall⟩
      refine ⟨_, rfl, k H1 d kvs s1 hd hk ⟨by omega, hky, hall⟩⟩
end
end Du
set_option Elab.async false
set_option linter.all false
set_option maxRecDepth 100000
set_option maxHeartbeats 2000000
namespace Du
open PySem PySem.Spec PyProof.Rows L2
/-! ### the duel's object -/
def df (b : Nat) (ha aa : Addr) : List (Str × V) := [("below", nv b), ("hits", .ref ha), ("aims", .ref aa)]
structure TCls (K : PySem.W.Frag) (mg : Str → Option Value) (C : Addr) : Prop where
  cl : Cls K C
  nB : NoAttr K C "below"
  nH : NoAttr K C "hits"
  nA : NoAttr K C "aims"
  mgC : mg "Duel" = some (.ref C)
structure DuelIs (C : Addr) (H : Hp) (p ha aa : Addr) (d : Uw86.Duel) : Prop where
  ok : DM.DOk d
  obj : ∃ dx, H p = some (.ins C dx (df d.b ha aa))
  hits : H ha = some (.lst (d.hits.map nv))
  aims : ∃ kvs, H aa = some (.dT kvs) ∧ AimsFor kvs (Uw86.count d) (Uw86.aimOf d)
def DuelAt (C : Addr) (H : Hp) (p : Addr) (d : Uw86.Duel) : Prop := ∃ ha aa, DuelIs C H p ha aa d
theorem DuelIs.mono {C : Addr} {H H' : Hp} {p ha aa : Addr} {d : Uw86.Duel} (D : DuelIs C H p ha aa d) (s : Same H H') : DuelIs C H' p ha aa d := by
  obtain ⟨o, ⟨dx, h1⟩, h2, kvs, h3, h4⟩ := D
  exact ⟨o, ⟨dx, s _ _ h1⟩, s _ _ h2, kvs, s _ _ h3, h4⟩
theorem DuelAt.mono {C : Addr} {H H' : Hp} {p : Addr} {d : Uw86.Duel} (D : DuelAt C H p d) (s : Same H H') : DuelAt C H' p d := by
  obtain ⟨ha, aa, D⟩ := D
  exact ⟨ha, aa, D.mono s⟩
theorem df_b (b : Nat) (ha aa : Addr) : (df b ha aa).lookup ("below" : Str) = some (nv b) := rfl
theorem df_h (b : Nat) (ha aa : Addr) : (df b ha aa).lookup ("hits" : Str) = some (.ref ha) := by
  unfold df
  rw [List.lookup_cons, show (("hits" : Str) == "below") = false by decide]
  rfl
theorem df_a (b : Nat) (ha aa : Addr) : (df b ha aa).lookup ("aims" : Str) = some (.ref aa) := by
  unfold df
  rw [List.lookup_cons, show (("aims" : Str) == "below") = false by decide, List.lookup_cons, show (("aims" : Str) == "hits") = false by decide]
  rfl
/-! ### promises -/
def spInTurn : Sp := fun vs H Q _ => ∃ m i : Nat, vs = [nv m, nv i] ∧ NewL H Q ((turnL m i).map nv)
def nextL (m i : Nat) : Nat := if 1 < (turnL m i).length then (turnL m i).getD 1 0 else i
def spNext : Sp := fun vs H Q _ => ∃ m i : Nat, vs = [nv m, nv i] ∧ ∀ H' : Hp, Same H H' → Q (nv (nextL m i)) H'
def spSurely (C : Addr) : Sp := fun vs H Q _ => ∃ (p : Addr) (d : Uw86.Duel) (k : Nat), vs = [.ref p, nv k] ∧ DuelAt C H p d ∧ k ≤ Uw86.count d ∧ NewL H Q ((DM.sure (Uw86.count d) k).map nv)
section
variable {P : Program} {w : World} {K : PySem.W.Frag} {mg : Str → Option Value} {base : Heap} {C : Addr}
theorem sc_turn : FnScope ["group", "first", "inside", "shot"] ["group", "first"] (defScope sInTurn) := ⟨rfl, rfl, rfl, by decide +kernel, rfl, by decide +kernel, by decide +kernel⟩
theorem le_dec (a b : Nat) : decide ((a : Int) ≤ (b : Int)) = decide (a ≤ b) := by
  by_cases h : a ≤ b
  · rw [decide_eq_true h, decide_eq_true (by omega)]
  · rw [decide_eq_false h, decide_eq_false (by omega)]
theorem lt_dec (a b : Nat) : decide ((a : Int) < (b : Int)) = decide (a < b) := by
  by_cases h : a < b
  · rw [decide_eq_true h, decide_eq_true (by omega)]
  · rw [decide_eq_false h, decide_eq_false (by omega)]
theorem ok_turn {f fM : Addr} {fd fdM : FuncData} (A : Dfn K mg "in_turn" sInTurn ["group", "first"] f fd) (T : Txt K mg) (AM : Dfn K mg "members" sMembers ["group"] fM fdM) : FnOk P w K mg base CX0 2 f fd ["group", "first"] spInTurn := by
  have GM : FnOk P w K mg base CX0 1 fM fdM ["group"] spMembers := ok_members AM T
  refine A.F.ok sc_turn (fun vs H Q E h => ?_) (fun cdv A outer s H vs Q E hr h => ?_)
  · obtain ⟨m, i, rfl, _⟩ := h
    rfl
  · obtain ⟨m, i, rfl, k⟩ := h
    refine ⟨_, pss_cons (ps_set (i := 2) sc_turn.nd rfl (Or.inl rfl) (pe_f AM GM hr (pa_cons (pv 0) pa_nil)))
      (pss_one (ps_ret (pe_op op_cat
        (pe_lc (own := [("shot", 3)]) rfl sc_turn.nd (pi_list (pv 2)) (blkOk_by (by rfl)) (fun _ _ _ _ _ => pg_name (i := 3) sc_turn.nd rfl (Or.inl rfl)) (fun _ _ _ _ _ => pts_one (pt_cmpR op_ge (pv 3) (pv 1) (nomark _))) (fun _ _ _ _ _ => pv 3))
        (pe_lc (own := [("shot", 3)]) rfl sc_turn.nd (pi_list (pv 2)) (blkOk_by (by rfl)) (fun _ _ _ _ _ => pg_name (i := 3) sc_turn.nd rfl (Or.inl rfl)) (fun _ _ _ _ _ => pts_one (pt_cmpR op_lt (pv 3) (pv 1) (nomark _))) (fun _ _ _ _ _ => pv 3))))), ?_⟩
    refine ⟨_, rfl, m, rfl, fun H1 q s1 hq hq1 => ?_⟩
    refine ⟨_, rfl, q, rfl, ⟨_, SqL.of hq1⟩, fun D hD => lc_list (K := K) (a := q) (xs := (Uw86.members 4 m).map nv) (fun j H' => Same H1 H' ∧ H' D = some (.lst ((((Uw86.members 4 m).take j).filter fun j => decide (i ≤ j)).map nv)))
      ⟨same_new hD, upd_same⟩ (fun i H' _ ⟨z, _⟩ => SqL.of (z _ _ hq1)) ?_ ?_⟩
    · rintro j y H4 hj ⟨s4, hD4⟩
      obtain ⟨x, hx, rfl⟩ := of_nv hj
      refine ⟨rfl, _, rfl, _, rfl, _, _, rfl, rfl, _, rfl, ?_⟩
      rw [le_dec]
      cases hb : decide (i ≤ x) with
      | true =>
        refine iteT ⟨_, rfl, _, hD4, ?_, same_upd s4 hD, ?_⟩
        · rw [List.length_map]
          exact small_len (Nat.le_trans (List.length_filter_le _ _) (Nat.le_trans (List.length_take_le' _ _) (Nat.le_trans (members_len4 m) (by decide))))
        · rw [upd_same, filter_take hx, hb, if_pos rfl, List.map_append]
          rfl
      | false =>
        refine iteF ⟨s4, ?_⟩
        rw [filter_take hx, hb, if_neg (by decide), List.append_nil]
        exact hD4
    · rintro H2 ⟨s2, hD2⟩
      rw [List.length_map, List.take_length] at hD2
      refine ⟨_, rfl, q, rfl, ⟨_, SqL.of (s2 _ _ hq1)⟩, fun D2 hE => lc_list (K := K) (a := q) (xs := (Uw86.members 4 m).map nv) (fun j H' => Same H2 H' ∧ H' D2 = some (.lst ((((Uw86.members 4 m).take j).filter fun j => decide (j < i)).map nv)))
        ⟨same_new hE, upd_same⟩ (fun i H' _ ⟨z, _⟩ => SqL.of (z _ _ (s2 _ _ hq1))) ?_ ?_⟩
      · rintro j y H4 hj ⟨s4, hD4⟩
        obtain ⟨x, hx, rfl⟩ := of_nv hj
        refine ⟨rfl, _, rfl, _, rfl, _, _, rfl, rfl, _, rfl, ?_⟩
        rw [lt_dec]
        cases hb : decide (x < i) with
        | true =>
          refine iteT ⟨_, rfl, _, hD4, ?_, same_upd s4 hE, ?_⟩
          · rw [List.length_map]
            exact small_len (Nat.le_trans (List.length_filter_le _ _) (Nat.le_trans (List.length_take_le' _ _) (Nat.le_trans (members_len4 m) (by decide))))
          · rw [upd_same, filter_take hx, hb, if_pos rfl, List.map_append]
            rfl
        | false =>
          refine iteF ⟨s4, ?_⟩
          rw [filter_take hx, hb, if_neg (by decide), List.append_nil]
          exact hD4
      · rintro H3 ⟨s3, hD3⟩
        rw [List.length_map, List.take_length] at hD3
        refine ⟨D, D2, _, _, rfl, rfl, s3 _ _ hD2, hD3, ?_, fun r hr => ?_⟩
        · rw [List.length_map, List.length_map]
          have l1 := List.length_filter_le (fun j => decide (i ≤ j)) (Uw86.members 4 m)
          have l2 := List.length_filter_le (fun j => decide (j < i)) (Uw86.members 4 m)
          have l3 := members_len4 m
          exact Nat.le_of_lt (small_len (by omega))
        · have sm : Same H H3 := (s1.trans s2).trans s3
          refine k _ r (same_upd sm (sm.free hr)) (sm.free hr) ?_
          rw [upd_same, ← List.map_append]
          rfl
theorem sc_next : FnScope ["group", "shot", "order"] ["group", "shot"] (defScope sNext) := ⟨rfl, rfl, rfl, by decide +kernel, rfl, by decide +kernel, by decide +kernel⟩
theorem ok_next {f fM fT : Addr} {fd fdM fdT : FuncData} (A : Dfn K mg "next_at_turn" sNext ["group", "shot"] f fd) (T : Txt K mg) (AT : Dfn K mg "in_turn" sInTurn ["group", "first"] fT fdT) (AM : Dfn K mg "members" sMembers ["group"] fM fdM) : FnOk P w K mg base CX0 3 f fd ["group", "shot"] spNext := by
  have GT : FnOk P w K mg base CX0 2 fT fdT ["group", "first"] spInTurn := ok_turn AT T AM
  refine A.F.ok sc_next (fun vs H Q E h => ?_) (fun cdv A outer s H vs Q E hr h => ?_)
  · obtain ⟨m, i, rfl, _⟩ := h
    rfl
  · obtain ⟨m, i, rfl, k⟩ := h
    refine ⟨_, pss_cons (ps_set (i := 2) sc_next.nd rfl (Or.inl rfl) (pe_f AT GT hr (pa_cons (pv 0) (pa_cons (pv 1) pa_nil))))
      (pss_one (ps_ret (pe_ifExp (pt_cmpR op_gt (pe_callB call_len_seq (by rfl) T.len PySem.boot_len (pa_cons (pv 2) pa_nil)) pe_int (nomark _)) (pe_ix ix_list (pv 2) pe_int (fun _ _ => rfl)) (pv 1)))), ?_⟩
    refine ⟨_, rfl, _, rfl, m, i, rfl, fun H1 q s1 hq hq1 => ?_⟩
    refine ⟨_, rfl, q, _, rfl, .inl (SqL.of hq1), _, _, rfl, rfl, _, rfl, ?_⟩
    by_cases hc : 1 < (turnL m i).length
    · refine ite2 (fun _ => ?_) (fun z => absurd (decide_eq_true (by rw [List.length_map]; omega)) z)
      refine ⟨_, rfl, q, _, 1, _, rfl, rfl, SqL.of hq1, at_getD (j := 1) hc, ?_⟩
      have := k H1 s1
      unfold nextL at this
      rw [if_pos hc] at this
      exact this
    · refine ite2 (fun z => absurd (of_decide_eq_true z) (by rw [List.length_map]; omega)) (fun _ => ?_)
      refine ⟨_, rfl, ?_⟩
      have := k H1 s1
      unfold nextL at this
      rw [if_neg hc] at this
      exact this
theorem sc_surely : FnScope ["duel", "place", "weights"] ["duel", "place"] (defScope sSurely) := ⟨rfl, rfl, rfl, by decide +kernel, rfl, by decide +kernel, by decide +kernel⟩
theorem rep_one (n : Nat) : (List.replicate n [nv 0]).flatten = (List.replicate n 0).map nv := by
  induction n with
  | zero => rfl
  | succ n ih => rw [List.replicate_succ, List.flatten_cons, ih, List.replicate_succ]; rfl
theorem ixN_nat {n k : Nat} (h : k < n) : ixN n (k : Int) = some k := by
  unfold ixN
  rw [if_pos (by omega), if_pos (by omega)]
  rfl
theorem ok_surely {f : Addr} {fd : FuncData} (A : Dfn K mg "surely" sSurely ["duel", "place"] f fd) (T : Txt K mg) (TC : TCls K mg C) : FnOk P w K mg base CX0 1 f fd ["duel", "place"] (spSurely C) := by
  refine A.F.ok sc_surely (fun vs H Q E h => ?_) (fun cdv A outer s H vs Q E hr h => ?_)
  · obtain ⟨p, d, kk, rfl, _⟩ := h
    rfl
  · obtain ⟨p, d, kk, rfl, ⟨ha, aa, D⟩, hk, k⟩ := h
    obtain ⟨dx, hp⟩ := D.obj
    refine ⟨_, pss_cons (ps_set (i := 2) sc_surely.nd rfl (Or.inl rfl) (pe_op op_rep (pe_lst (pa_cons pe_int pa_nil)) (pe_op op_add (pe_callB call_len_seq (by rfl) T.len PySem.boot_len (pa_cons (pe_fld (pv 0) rfl) pa_nil)) pe_int)))
      (pss_cons (ps_asg pe_int (pg_sub (pv 2) (pv 1) set_list))
      (pss_one (ps_ret (pv 2)))), ?_⟩
    refine ⟨by decide, fun l hl => ?_⟩
    have s1 := same_new (o := .lst [.int 0]) hl
    refine ⟨_, rfl, p, C, dx, _, _, rfl, s1 _ _ hp, TC.cl, TC.nH, df_h _ _ _, ha, _, rfl, .inl (SqL.of (s1 _ _ D.hits)), _, _, rfl, rfl, l, _, _, rfl, rfl, upd_same, ?_⟩
    have el : ((List.map nv d.hits).length : Int) + 1 = ((Uw86.count d + 1 : Nat) : Int) := by
      rw [List.length_map]
      rfl
    have hn := D.ok.n4
    rw [el]
    refine ⟨by omega, by omega, ?_, fun q hq => ?_⟩
    · show 1 * _ ≤ sizeLine
      rw [Int.toNat_natCast, Nat.one_mul]
      exact Nat.le_of_lt (small_len (by omega))
    · rw [Int.toNat_natCast]
      have e0 : (List.replicate (Uw86.count d + 1) [V.int 0]).flatten = (List.replicate (Uw86.count d + 1) 0).map nv := rep_one _
      rw [e0]
      refine ⟨_, rfl, _, rfl, q, _, _, kk, rfl, rfl, upd_same, ixN_nat (by rw [List.length_map, List.length_replicate]; omega), ?_⟩
      refine ⟨_, rfl, ?_⟩
      have hq0 := s1.free hq
      refine k _ q (same_upd (same_upd s1 hq0) hq0) hq0 ?_
      rw [upd_same]
      unfold DM.sure
      rw [List.map_set]
      rfl
end
end Du
set_option Elab.async false
set_option linter.all false
set_option maxRecDepth 100000
set_option maxHeartbeats 2000000
set_option exponentiation.threshold 5000
namespace Du
open PySem PySem.Spec PyProof.Rows L2
/-! ### a list made over two lists, abreast -/
theorem lc_zip {K : PySem.W.Frag} {a b : Addr} {xs ys : List V} {g : TG} {tt : TT} {te : TE} {vs : List Nat} {σ : L2.St} {H1 : Hp} {D : Addr} {Qd : Hp → Prop} (Pv : Nat → Hp → Prop) (h0 : Pv 0 (upd H1 D (.lst []))) (hlen : ys.length = xs.length) (hl : ∀ i H, i ≤ xs.length → Pv i H → SqL K H a xs ∧ SqL K H b ys)
    (hs : ∀ i x y H T, xs[i]? = some x → ys[i]? = some y → Pv i H → H T = none → g (.ref T) (wipe σ vs) (upd H T (.tup [x, y])) fun σ2 H2 => wipe σ2 vs = wipe σ vs ∧ tt σ2 H2 fun b H3 =>
      if b = true then te σ2 H3 fun y H4 => ∃ acc, H4 D = some (.lst acc) ∧ acc.length < sizeLine ∧ Pv (i + 1) (upd H4 D (.lst (acc ++ [y]))) else Pv (i + 1) H3) (hd : ∀ H, Pv xs.length H → Qd H) :
    ∃ W : Nat → Nat → Hp → Prop, (∃ m, W 0 m (upd H1 D (.lst []))) ∧ ∀ i m H, W i m H →
      ((Itz K a b).stop i H ∧ Qd H) ∨ ((Itz K a b).go i H ∧ ∃ Nx : Hp → Prop, (∀ H', Nx H' → ∃ m', m' < m ∧ W (i + 1) m' H') ∧ ∀ x H', (Itz K a b).yld i H x H' → g x (wipe σ vs) H' fun σ2 H2 => wipe σ2 vs = wipe σ vs ∧ tt σ2 H2 fun b H3 =>
        if b = true then te σ2 H3 fun y H4 => ∃ acc, H4 D = some (.lst acc) ∧ acc.length < sizeLine ∧ Nx (upd H4 D (.lst (acc ++ [y]))) else Nx H3) := by
  refine ⟨fun i m H => m = xs.length - i ∧ i ≤ xs.length ∧ Pv i H, ⟨xs.length, by simp, Nat.zero_le _, h0⟩, ?_⟩
  rintro i m H ⟨rfl, hi, p⟩
  obtain ⟨qa, qb⟩ := hl i H hi p
  by_cases hlt : i < xs.length
  · refine .inr ⟨⟨xs, ys, xs[i], ys[i], qa, qb, by simp [hlt], by simp [hlen, hlt]⟩, Pv (i + 1), fun H' p' => ⟨xs.length - (i + 1), by omega, rfl, hlt, p'⟩, fun v H' y => ?_⟩
    obtain ⟨T, x, y, rfl, hT, rfl, hx, hy⟩ := y
    exact hs i x y H T (hx xs qa) (hy ys qb) p hT
  · have e : i = xs.length := by omega
    subst e
    exact .inl ⟨⟨xs, ys, qa, qb, .inl (Nat.le_refl _)⟩, hd H p⟩
theorem boot_sum : bootBuiltins "sum" = some (.builtin "sum") := by decide +kernel
theorem map_cast (l : List Nat) : (l.map fun (n : Nat) => (n : Int)).map V.int = l.map nv := by
  rw [List.map_map]
  rfl
theorem sum_cast : ∀ l : List Nat, (l.map fun (n : Nat) => (n : Int)).sum = (l.sum : Int)
  | [] => rfl
  | a :: l => by
    rw [List.map_cons, List.sum_cons, List.sum_cons, sum_cast l]
    omega
/-! ### parts -/
structure PartsAt (H : Hp) (a : Addr) (l : List DM.Pt) : Prop where
  ex : ∃ ps : List Addr, H a = some (.lst (ps.map V.ref)) ∧ ps.length = l.length ∧ ∀ (k : Nat) (q : Addr) (pt : DM.Pt), ps[k]? = some q → l[k]? = some pt → ∃ wa, H q = some (.tup [nv pt.1, .ref wa]) ∧ H wa = some (.lst (pt.2.map nv))
theorem PartsAt.mono {H H' : Hp} {a : Addr} {l : List DM.Pt} (p : PartsAt H a l) (s : Same H H') : PartsAt H' a l := by
  obtain ⟨ps, h1, h2, h3⟩ := p.ex
  refine ⟨ps, s _ _ h1, h2, fun k q pt e1 e2 => ?_⟩
  obtain ⟨wa, a1, a2⟩ := h3 k q pt e1 e2
  exact ⟨wa, s _ _ a1, s _ _ a2⟩
theorem pbelow_app (l k : List DM.Pt) : DM.pbelow (l ++ k) = DM.pbelow l * DM.pbelow k := by
  unfold DM.pbelow
  rw [List.foldl_append, DM.pbelow_go]
theorem pbelow_take {l : List DM.Pt} (i : Nat) (hp : 0 < DM.pbelow l) : DM.pbelow (l.take i) ≤ DM.pbelow l := by
  have e := pbelow_app (l.take i) (l.drop i)
  rw [List.take_append_drop] at e
  exact Nat.le_of_dvd hp ⟨_, e⟩
theorem big_of {n : Nat} (h : n < 2 ^ 4000) : CBig (n : Int) := h
structure MixOk (L : Nat) (l : List DM.Pt) : Prop where
  ne : l ≠ []
  len : ∀ p ∈ l, p.2.length = L
  pos : ∀ p ∈ l, 0 < p.2.sum
  few : L ≤ 50
  b1 : ∀ p ∈ l, p.1 < 2 ^ 100
  b2 : ∀ p ∈ l, p.2.sum < 2 ^ 1000
  b3 : DM.pbelow l < 2 ^ 1000
def spMixed : Sp := fun vs H Q _ => ∃ (a : Addr) (l : List DM.Pt) (L : Nat), vs = [.ref a] ∧ PartsAt H a l ∧ MixOk L l ∧ NewL H Q ((DM.mixd L l).map nv)
theorem mul_lt {a b m n : Nat} (ha : a < 2 ^ m) (hb : b < 2 ^ n) (h : m + n ≤ 4000) : a * b < 2 ^ 4000 := by
  have h1 : a * b ≤ 2 ^ m * 2 ^ n := Nat.mul_le_mul (Nat.le_of_lt ha) (Nat.le_of_lt hb)
  rcases Nat.eq_zero_or_pos b with e | e
  · subst e
    rw [Nat.mul_zero]
    exact Nat.pow_pos (by decide)
  · have h2 : a * b < 2 ^ m * 2 ^ n := Nat.lt_of_lt_of_le (Nat.mul_lt_mul_of_pos_right ha e) (Nat.mul_le_mul_left _ (Nat.le_of_lt hb))
    rw [← Nat.pow_add] at h2
    exact Nat.lt_of_lt_of_le h2 (Nat.pow_le_pow_right (by decide) h)
theorem pow_mono {a m : Nat} (h : a < 2 ^ m) (hm : m ≤ 4000) : a < 2 ^ 4000 := Nat.lt_of_lt_of_le h (Nat.pow_le_pow_right (by decide) hm)
theorem fold_take {α : Type} {f : List Nat → α → List Nat} {z : List Nat} {l : List α} {i : Nat} {x : α} (h : l[i]? = some x) : (l.take (i + 1)).foldl f z = f ((l.take i).foldl f z) x := by
  rw [take_snoc h, List.foldl_append]
  rfl
theorem mem_le_sum : ∀ {l : List Nat} {x : Nat}, x ∈ l → x ≤ l.sum
  | a :: l, x, h => by
    rw [List.sum_cons]
    rcases List.mem_cons.mp h with rfl | h
    · omega
    · have := mem_le_sum h
      omega
section
variable {P : Program} {w : World} {K : PySem.W.Frag} {mg : Str → Option Value} {base : Heap} {C : Addr}
theorem sc_mixed : FnScope ["parts", "below", "part", "total", "times", "one", "more"] ["parts"] (defScope sMixed) := ⟨rfl, rfl, rfl, by decide +kernel, rfl, by decide +kernel, by decide +kernel⟩
theorem ok_mixed {f : Addr} {fd : FuncData} (A : Dfn K mg "mixed" sMixed ["parts"] f fd) (T : Txt K mg) : FnOk P w K mg base CX0 1 f fd ["parts"] spMixed := by
  refine A.F.ok sc_mixed (fun vs H Q E h => ?_) (fun cdv A outer s H vs Q E hr h => ?_)
  · obtain ⟨a, l, L, rfl, _⟩ := h
    rfl
  · obtain ⟨a, l, L, rfl, hP, M, k⟩ := h
    obtain ⟨ps, hps, hpl, hpt⟩ := hP.ex
    have hpos : 0 < DM.pbelow l := DM.pbelow_pos l M.pos
    have part_of : ∀ {i : Nat} {q : Addr}, ps[i]? = some q → ∃ pt wa, l[i]? = some pt ∧ pt ∈ l ∧ H q = some (.tup [nv pt.1, .ref wa]) ∧ H wa = some (.lst (pt.2.map nv)) := by
      intro i q hq
      have hi : i < l.length := by
        rw [← hpl]
        exact (List.getElem?_eq_some_iff.mp hq).1
      obtain ⟨wa, a1, a2⟩ := hpt i q l[i] hq (List.getElem?_eq_getElem hi)
      exact ⟨l[i], wa, List.getElem?_eq_getElem hi, List.getElem_mem hi, a1, a2⟩
    have of_ref : ∀ {i : Nat} {y : V}, (ps.map V.ref)[i]? = some y → ∃ q, ps[i]? = some q ∧ y = .ref q := by
      intro i y h
      rw [List.getElem?_map] at h
      cases e : ps[i]? with
      | none =>
        rw [e] at h
        cases h
      | some q =>
        rw [e] at h
        exact ⟨q, rfl, (Option.some.inj h).symm⟩
    refine ⟨_, pss_cons (ps_set (i := 1) sc_mixed.nd rfl (Or.inl rfl) pe_int)
      (pss_cons (ps_for PassesOwn.never rfl (pi_list (pv 0)) (pg_name (i := 2) sc_mixed.nd rfl (Or.inl rfl))
        (pss_one (ps_set (i := 1) sc_mixed.nd rfl (Or.inl rfl) (pe_op op_mulB (pv 1) (pe_callB (cr_sum rfl) (by rfl) T.sum boot_sum (pa_cons (pe_ix ix_tup (pv 2) pe_int (fun _ _ => rfl)) pa_nil))))))
      (pss_cons (ps_set (i := 3) sc_mixed.nd rfl (Or.inl rfl) (pe_op op_rep (pe_lst (pa_cons pe_int pa_nil)) (pe_callB call_len_seq (by rfl) T.len PySem.boot_len (pa_cons (pe_ix ix_tup (pe_ix ix_list (pv 0) pe_int (fun _ _ => rfl)) pe_int (fun _ _ => rfl)) pa_nil))))
      (pss_cons (ps_for PassesOwn.never rfl (pi_list (pv 0)) (pg_name (i := 2) sc_mixed.nd rfl (Or.inl rfl))
        (pss_cons (ps_set (i := 4) sc_mixed.nd rfl (Or.inr rfl) (pe_op op_mulB (pe_ix ix_tup (pv 2) pe_int (fun _ _ => rfl)) (pe_op op_fdivB (pv 1) (pe_callB (cr_sum rfl) (by rfl) T.sum boot_sum (pa_cons (pe_ix ix_tup (pv 2) pe_int (fun _ _ => rfl)) pa_nil)))))
        (pss_one (ps_setLc (i := 3) (own := [("one", 5), ("more", 6)]) (g := gTup K 2 (gCons (gName 5) (gCons (gName 6) gNil))) rfl sc_mixed.nd rfl rfl (by rfl) (pi_zip (by rfl) T.zip (pa_cons (pv 3) (pa_cons (pe_ix ix_tup (pv 2) pe_int (fun _ _ => rfl)) pa_nil))) (blkOk_by (by rfl))
          (fun _ _ _ _ _ => pg_tup (t := gCons (gName 5) (gCons (gName 6) gNil)) (n := 2) rfl (pgs_cons (pg_name sc_mixed.nd rfl (Or.inl rfl) (Or.inr rfl)) (pgs_cons (pg_name sc_mixed.nd rfl (Or.inl rfl) (Or.inr rfl)) pgs_nil rfl) rfl) rfl rfl) (fun _ _ _ _ _ => pts_nil)
          (fun _ _ _ _ _ => pe_op op_add (pv 5) (pe_op op_mulB (pv 4) (pv 6)))))))
      (pss_one (ps_ret (pv 3)))))), ?_⟩
    refine ⟨_, rfl, a, rfl, ⟨_, SqL.of hps⟩, for_list (K := K) (a := a) (xs := ps.map V.ref) (fun i σ H' => H' = H ∧ ∃ v2 : Option V, σ = [some (.ref a), some (nv (DM.pbelow (l.take i))), v2, none, none, none, none])
      ⟨rfl, none, rfl⟩ (fun i σ H' _ ⟨e, _⟩ => by rw [e]; exact SqL.of hps) ?_ ?_⟩
    · rintro i y σ H' hi ⟨rfl, v2, rfl⟩
      obtain ⟨q, hq, rfl⟩ := of_ref hi
      obtain ⟨pt, wa, hpt', hmem, hq1, hq2⟩ := part_of hq
      refine ⟨_, rfl, _, rfl, q, _, _, _, rfl, rfl, SqT.of hq1, rfl, wa, pt.2.map (fun (n : Nat) => (n : Int)), rfl, by rw [map_cast]; exact SqL.of hq2, _, _, rfl, rfl, ?_⟩
      rw [sum_cast]
      refine ⟨⟨big_of (pow_mono (Nat.lt_of_le_of_lt (pbelow_take i hpos) M.b3) (by decide)), big_of (pow_mono (M.b2 pt hmem) (by decide))⟩, rfl, some (.ref q), ?_⟩
      have e : DM.pbelow (l.take (i + 1)) = DM.pbelow (l.take i) * pt.2.sum := by
        rw [take_snoc hpt', pbelow_app]
        have : DM.pbelow [pt] = pt.2.sum := by
          unfold DM.pbelow
          simp
        rw [this]
      rw [e]
      unfold nv
      rw [Int.natCast_mul]
      rfl
    · rintro σ H' ⟨rfl, v2, rfl⟩
      rw [List.length_map, hpl, List.take_length]
      obtain ⟨q0, hq0⟩ : ∃ q, ps[0]? = some q := by
        cases ps with
        | nil =>
          have : l.length = 0 := hpl.symm
          exact absurd (List.length_eq_zero_iff.mp this) M.ne
        | cons q _ => exact ⟨q, rfl⟩
      obtain ⟨pt0, wa0, hpt0, hmem0, hq01, hq02⟩ := part_of hq0
      refine ⟨by decide, fun z hz => ?_⟩
      have s1 := same_new (o := .lst [.int 0]) hz
      refine ⟨_, rfl, a, _, 0, _, rfl, rfl, SqL.of (s1 _ _ hps), atI_nat (j := 0) (v := V.ref q0) (by rw [List.getElem?_map, hq0]; rfl), q0, _, _, _, rfl, rfl, SqT.of (s1 _ _ hq01), rfl, wa0, _, rfl, .inl (SqL.of (s1 _ _ hq02)), z, _, _, rfl, rfl, upd_same, ?_⟩
      have hf := M.few
      rw [List.length_map, M.len pt0 hmem0]
      refine ⟨by omega, by omega, ?_, fun t ht => ?_⟩
      · show 1 * _ ≤ sizeLine
        rw [Int.toNat_natCast, Nat.one_mul]
        exact Nat.le_of_lt (small_len (by omega))
      rw [Int.toNat_natCast]
      have e0 : (List.replicate L [V.int 0]).flatten = (List.replicate L 0).map nv := rep_one _
      rw [e0]
      have ht0 := s1.free ht
      have s2 : Same H' (upd (upd H' z (.lst [.int 0])) t (.lst ((List.replicate L 0).map nv))) := same_upd s1 ht0
      refine ⟨_, rfl, a, rfl, ⟨_, SqL.of (s2 _ _ hps)⟩, for_list (K := K) (a := a) (xs := ps.map V.ref) (fun i σ H'' => Same H' H'' ∧ ∃ (v2 v4 : Option V) (t : Addr), H' t = none ∧ H'' t = some (.lst (((l.take i).foldl (DM.madd (DM.pbelow l)) (List.replicate L 0)).map nv)) ∧
          σ = [some (.ref a), some (nv (DM.pbelow l)), v2, some (.ref t), v4, none, none])
        ⟨s2, v2, none, t, ht0, upd_same, rfl⟩ (fun i σ H' _ ⟨e, _⟩ => SqL.of (e _ _ hps)) ?_ ?_⟩
      · rintro i y σ H3 hi ⟨s3, v2, v4, t, ht, ht3, rfl⟩
        obtain ⟨q, hq, rfl⟩ := of_ref hi
        obtain ⟨pt, wa, hpt', hmem, hq1, hq2⟩ := part_of hq
        have hsum := M.pos pt hmem
        have hq1' := s3 _ _ hq1
        have hq2' := s3 _ _ hq2
        refine ⟨_, rfl, q, _, _, _, rfl, rfl, SqT.of hq1', rfl, _, rfl, _, rfl, q, _, _, _, rfl, rfl, SqT.of hq1', rfl, wa, pt.2.map (fun (n : Nat) => (n : Int)), rfl, by rw [map_cast]; exact SqL.of hq2', _, _, rfl, rfl, ?_⟩
        rw [sum_cast]
        have hdl : DM.pbelow l / pt.2.sum ≤ DM.pbelow l := Nat.div_le_self _ _
        have hdb := Nat.lt_of_le_of_lt hdl M.b3
        have ed : ((DM.pbelow l : Nat) : Int) / ((pt.2.sum : Nat) : Int) = ((DM.pbelow l / pt.2.sum : Nat) : Int) := (Int.natCast_ediv _ _).symm
        refine ⟨⟨by omega, big_of (pow_mono (M.b2 pt hmem) (by decide))⟩, ?_⟩
        dsimp only
        rw [ed]
        refine ⟨_, _, rfl, rfl, ⟨big_of (pow_mono (M.b1 pt hmem) (by decide)), big_of (pow_mono hdb (by decide))⟩, ?_⟩
        have em : ((pt.1 : Nat) : Int) * ((DM.pbelow l / pt.2.sum : Nat) : Int) = ((pt.1 * (DM.pbelow l / pt.2.sum) : Nat) : Int) := (Int.natCast_mul _ _).symm
        dsimp only
        rw [em]
        -- the lists abreast
        have hl3 : ((l.take i).foldl (DM.madd (DM.pbelow l)) (List.replicate L 0)).length = L := by
          refine (DM.mix_go (L := L) (B := DM.pbelow l) (l.take i) (List.replicate L 0) (by simp) fun p hp => ?_).1
          have hp' := List.mem_of_mem_take hp
          exact ⟨M.len p hp', M.pos p hp', DM.pbelow_dvd l p hp'⟩
        have hlw := M.len pt hmem
        generalize htt : (l.take i).foldl (DM.madd (DM.pbelow l)) (List.replicate L 0) = tt at *
        have htb : pt.1 * (DM.pbelow l / pt.2.sum) < 2 ^ 1100 := by
          have h1 := M.b1 pt hmem
          have := Nat.mul_le_mul (Nat.le_of_lt h1) (Nat.le_of_lt hdb)
          rw [← Nat.pow_add] at this
          rcases Nat.eq_zero_or_pos (DM.pbelow l / pt.2.sum) with e | e
          · rw [e, Nat.mul_zero]
            exact Nat.pow_pos (by decide)
          · exact Nat.lt_of_lt_of_le (Nat.mul_lt_mul_of_pos_right h1 e) (by
              have := Nat.mul_le_mul_left (2 ^ 100) (Nat.le_of_lt hdb)
              rw [← Nat.pow_add] at this
              exact this)
        refine ⟨_, rfl, _, rfl, q, _, _, _, rfl, rfl, SqT.of hq1', rfl, t, wa, _, _, rfl, SqL.of ht3, SqL.of hq2', fun D hD => lc_zip (K := K) (a := t) (b := wa) (xs := tt.map nv) (ys := pt.2.map nv) (fun j H'' => Same H3 H'' ∧ H'' D = some (.lst ((((tt.zip pt.2).take j).map fun x => x.1 + (pt.1 * (DM.pbelow l / pt.2.sum)) * x.2).map nv)))
          ⟨same_new hD, upd_same⟩ (by rw [List.length_map, List.length_map]; omega) (fun j H'' _ ⟨e, _⟩ => ⟨SqL.of (e _ _ ht3), SqL.of (e _ _ hq2')⟩) ?_ ?_⟩
        · rintro j x' y' H4 TT hx' hy' ⟨s4, hD4⟩ hTT
          obtain ⟨x, hx, rfl⟩ := of_nv hx'
          obtain ⟨y, hy, rfl⟩ := of_nv hy'
          have hyb : y < 2 ^ 1000 := Nat.lt_of_le_of_lt (mem_le_sum (List.mem_of_getElem? hy)) (M.b2 pt hmem)
          have hDT : D ≠ TT := ne_of_none hD4 hTT
          have hz : (tt.zip pt.2)[j]? = some (x, y) := by
            rw [List.getElem?_zip_eq_some]
            exact ⟨hx, hy⟩
          refine ⟨TT, _, rfl, SqT.of upd_same, rfl, _, _, rfl, _, _, rfl, rfl, rfl, ?_⟩
          dsimp only [tYes]
          rw [if_pos rfl]
          refine ⟨_, rfl, _, rfl, _, rfl, _, _, rfl, rfl, ⟨big_of (pow_mono htb (by decide)), big_of (pow_mono hyb (by decide))⟩, _, _, rfl, rfl, _, by rw [upd_ne hDT]; exact hD4, ?_, ?_, ?_⟩
          · rw [List.length_map, List.length_map]
            refine small_len (Nat.le_trans (List.length_take_le' _ _) ?_)
            rw [List.length_zip]
            omega
          · exact same_upd (same_upd s4 (s4.free hTT)) hD
          · rw [upd_same, take_snoc hz, List.map_append, List.map_append]
            have : V.int ((x : Int) + ((pt.1 * (DM.pbelow l / pt.2.sum) : Nat) : Int) * (y : Int)) = nv (x + pt.1 * (DM.pbelow l / pt.2.sum) * y) := by
              unfold nv
              rw [Int.natCast_add, Int.natCast_mul _ y]
            dsimp only
            rw [this]
            rfl
        · rintro H4 ⟨s4, hD4⟩
          rw [List.length_map] at hD4
          refine ⟨s3.trans s4, some (.ref q), some (nv (pt.1 * (DM.pbelow l / pt.2.sum))), D, s3.free hD, ?_, rfl⟩
          have e1 : tt.length = (tt.zip pt.2).length := by
            rw [List.length_zip]
            omega
          rw [e1, List.take_length] at hD4
          rw [fold_take hpt', htt]
          exact hD4
      · rintro σ H3 ⟨s3, v2, v4, t, ht, ht3, rfl⟩
        rw [List.length_map, hpl, List.take_length] at ht3
        exact ⟨_, rfl, k H3 t s3 ht ht3⟩
end
end Du
set_option Elab.async false
set_option linter.all false
set_option maxRecDepth 100000
set_option maxHeartbeats 2000000
set_option exponentiation.threshold 5000
namespace Du
open PySem PySem.Spec PyProof.Rows L2
/-! ### what is known of smaller sets -/
structure WOk (d : Uw86.Duel) (m i : Nat) (ws : List Nat) : Prop where
  len : ws.length = Uw86.count d + 1
  rep : DM.Rep ws (Uw86.chancesOf d m i)
  le : ws.sum ≤ DM.Bd (DM.Card (Uw86.count d) m)
structure KnownIs (H : Hp) (a : Addr) (d : Uw86.Duel) (Pm : Nat → Nat → Prop) (N : Nat) (kvs : List (List Key × V)) (wa : Nat → Nat → Addr) (ws : Nat → Nat → List Nat) : Prop where
  obj : H a = some (.dT kvs)
  len : kvs.length ≤ N
  at_ : ∀ m i, Pm m i → valV kvs (key m i) = some (.ref (wa m i)) ∧ H (wa m i) = some (.lst ((ws m i).map nv)) ∧ WOk d m i (ws m i)
def KnownAt (H : Hp) (a : Addr) (d : Uw86.Duel) (Pm : Nat → Nat → Prop) (N : Nat) : Prop := ∃ kvs wa ws, KnownIs H a d Pm N kvs wa ws
theorem KnownIs.mono {H H' : Hp} {a : Addr} {d : Uw86.Duel} {Pm : Nat → Nat → Prop} {N : Nat} {kvs wa ws} (k : KnownIs H a d Pm N kvs wa ws) (s : Same H H') : KnownIs H' a d Pm N kvs wa ws :=
  ⟨s _ _ k.obj, k.len, fun m i h => ⟨(k.at_ m i h).1, s _ _ (k.at_ m i h).2.1, (k.at_ m i h).2.2⟩⟩
/-- those of sets below g -/
def Below (g m i : Nat) : Prop := 0 < m ∧ m < g ∧ Uw86.isIn m i = true
/-! ### a round, grown by one -/
theorem pleft_snoc {d : Uw86.Duel} {m : Nat} : ∀ (l : List Nat) (ms x : Nat), DM.pleft d m ms (l ++ [x]) = DM.pleft d m ms l / d.b * (d.b - DM.hc d m x)
  | [], ms, x => rfl
  | y :: l, ms, x => by
    show DM.pleft d m _ (l ++ [x]) = _
    rw [pleft_snoc l]
    rfl
theorem pparts_snoc {d : Uw86.Duel} {m : Nat} : ∀ (l : List Nat) (ms x : Nat), DM.pparts d m ms (l ++ [x]) = DM.pparts d m ms l ++ (if 0 < DM.pleft d m ms l / d.b * DM.hc d m x then [(DM.pleft d m ms l / d.b * DM.hc d m x, x, Uw86.aimOf d m x)] else [])
  | [], ms, x => rfl
  | y :: l, ms, x => by
    show DM.pparts d m ms (y :: (l ++ [x])) = _
    unfold DM.pparts
    rw [pparts_snoc l]
    split
    · rfl
    · rfl
theorem pleft_le {d : Uw86.Duel} {m : Nat} : ∀ (l : List Nat) (ms : Nat), DM.pleft d m ms l ≤ ms
  | [], ms => Nat.le_refl _
  | y :: l, ms => by
    refine Nat.le_trans (pleft_le l _) ?_
    exact Nat.le_trans (Nat.mul_le_mul_left _ (Nat.sub_le _ _)) (Nat.div_mul_le_self _ _)
/-- what is known of smaller sets stays when one aim of a set is another -/
theorem KnownIs.with_ {H : Hp} {a : Addr} {d : Uw86.Duel} {m i to N : Nat} {kvs wa ws} (k : KnownIs H a d (Below m) N kvs wa ws) (D : DM.DOk d) (hm : m < 2 ^ Uw86.count d) (hi : i < Uw86.count d) : KnownIs H a (Uw86.withAim d m i to) (Below m) N kvs wa ws :=
  ⟨k.obj, k.len, fun m' i' h => by
    obtain ⟨h1, h2, h3⟩ := k.at_ m' i' h
    exact ⟨h1, h2, h3.len, by rw [DM.with_less D hm hi h.2.1]; exact h3.rep, h3.le⟩⟩
def spFirstHits (C : Addr) : Sp := fun vs H Q _ => ∃ (p a : Addr) (d : Uw86.Duel) (m i to N : Nat), vs = [.ref p, .ref a, nv m, nv i, nv to] ∧ DuelAt C H p d ∧ KnownAt H a d (Below m) N ∧ m < 2 ^ Uw86.count d ∧ Uw86.isIn m i = true ∧ 2 ≤ DM.Card (Uw86.count d) m ∧ to ∈ Uw86.mayAim d m i ∧
  ∀ (H' : Hp) (q : Addr) (W : Nat × Nat × Nat → List Nat), Same H H' → H q = none → PartsAt H' q ((DM.round (Uw86.withAim d m i to) m i).map fun c => (c.1, W c)) →
    (∀ c ∈ DM.round (Uw86.withAim d m i to) m i, WOk (Uw86.withAim d m i to) (m - 2 ^ c.2.2) (DM.nxt (Uw86.count d) m c.2.1 c.2.2) (W c)) → Q (.ref q) H'
/-- the parts while they are gathered -/
structure Gath (H : Hp) (q : Addr) (wa : Nat → Nat → Addr) (n m : Nat) (l : List (Nat × Nat × Nat)) : Prop where
  ex : ∃ ps : List Addr, H q = some (.lst (ps.map V.ref)) ∧ ps.length = l.length ∧ ∀ (k : Nat) (t : Addr) (c : Nat × Nat × Nat), ps[k]? = some t → l[k]? = some c → H t = some (.tup [nv c.1, .ref (wa (m - 2 ^ c.2.2) (DM.nxt n m c.2.1 c.2.2))])
theorem Gath.mono {H H' : Hp} {q : Addr} {wa : Nat → Nat → Addr} {n m : Nat} {l : List (Nat × Nat × Nat)} (g : Gath H q wa n m l) (s : Same H H') : Gath H' q wa n m l := by
  obtain ⟨ps, h1, h2, h3⟩ := g.ex
  exact ⟨ps, s _ _ h1, h2, fun k t c e1 e2 => s _ _ (h3 k t c e1 e2)⟩
theorem Gath.snoc {H : Hp} {q t : Addr} {wa : Nat → Nat → Addr} {n m : Nat} {l : List (Nat × Nat × Nat)} {ps : List Addr} (h1 : H q = some (.lst (ps.map V.ref))) (h2 : ps.length = l.length)
    (h3 : ∀ (k : Nat) (t : Addr) (c : Nat × Nat × Nat), ps[k]? = some t → l[k]? = some c → H t = some (.tup [nv c.1, .ref (wa (m - 2 ^ c.2.2) (DM.nxt n m c.2.1 c.2.2))])) (c : Nat × Nat × Nat) (ht : H t = some (.tup [nv c.1, .ref (wa (m - 2 ^ c.2.2) (DM.nxt n m c.2.1 c.2.2))])) :
    Gath (upd H q (.lst (ps.map V.ref ++ [V.ref t]))) q wa n m (l ++ [c]) := by
  refine ⟨ps ++ [t], by rw [upd_same, List.map_append]; rfl, by rw [List.length_append, List.length_append, h2]; rfl, fun k t' c' e1 e2 => ?_⟩
  have tn : ∀ {b : Addr} {xs : List V}, H b = some (.tup xs) → b ≠ q := fun h => ne_of h h1 (by intro z; cases z)
  by_cases hk : k < ps.length
  · rw [List.getElem?_append_left hk] at e1
    rw [List.getElem?_append_left (by rw [← h2]; exact hk)] at e2
    have := h3 k t' c' e1 e2
    rw [upd_ne (tn this)]
    exact this
  · rw [List.getElem?_append_right (by omega)] at e1
    rw [List.getElem?_append_right (by omega)] at e2
    have hk0 : k = ps.length := by
      have := (List.getElem?_eq_some_iff.mp e1).1
      simp at this
      omega
    subst hk0
    rw [Nat.sub_self] at e1
    rw [h2, Nat.sub_self] at e2
    cases e1
    cases e2
    rw [upd_ne (tn ht)]
    exact ht
/-- a choice of values that ends in one way -/
theorem ite_val {b : Bool} {H : Hp} {Q : VK} {ta tb : TE} {σ : L2.St} (v : V) (hq : Q v H) (h1 : b = true → ∀ Q' : VK, Q' v H → ta σ H Q') (h2 : b = false → ∀ Q' : VK, Q' v H → tb σ H Q') : if b = true then ta σ H Q else tb σ H Q := by
  cases b with
  | true => exact iteT (h1 rfl Q hq)
  | false => exact iteF (h2 rfl Q hq)
/-- what follows a statement, shown ahead of it -/
theorem seq_join {t u : TS} {D : Ends} {σ : L2.St} {H : Hp} (R : L2.St → Hp → Prop) (fin : ∀ σ' H', R σ' H' → u D σ' H') (main : (∀ σ' H', R σ' H' → u D σ' H') → t { D with nx := u D } σ H) : tSeq t u D σ H := main fin
/-- a choice of values, each of which may lay new things -/
theorem ite_some {b : Bool} {H : Hp} {Q : VK} {ta tb : TE} {σ : L2.St} {v : V} (hq : ∀ H', Same H H' → Q v H') (h1 : b = true → ∀ Q' : VK, (∀ H', Same H H' → Q' v H') → ta σ H Q') (h2 : b = false → ∀ Q' : VK, (∀ H', Same H H' → Q' v H') → tb σ H Q') : if b = true then ta σ H Q else tb σ H Q := by
  cases b with
  | true => exact iteT (h1 rfl Q hq)
  | false => exact iteF (h2 rfl Q hq)
section
variable {P : Program} {w : World} {K : PySem.W.Frag} {mg : Str → Option Value} {base : Heap} {C : Addr}
theorem sc_fh : FnScope ["duel", "known", "group", "first", "own", "nobody", "parts", "missed", "shot", "to", "hit", "each", "rest"] ["duel", "known", "group", "first", "own"] (defScope sFirstHits) := ⟨rfl, rfl, rfl, by decide +kernel, rfl, by decide +kernel, by decide +kernel⟩
theorem ok_fh {f fM fT fN : Addr} {fd fdM fdT fdN : FuncData} (A : Dfn K mg "first_hits" sFirstHits ["duel", "known", "group", "first", "own"] f fd) (T : Txt K mg) (TC : TCls K mg C) (AM : Dfn K mg "members" sMembers ["group"] fM fdM) (AT : Dfn K mg "in_turn" sInTurn ["group", "first"] fT fdT)
    (AN : Dfn K mg "next_at_turn" sNext ["group", "shot"] fN fdN) : FnOk P w K mg base CX0 4 f fd ["duel", "known", "group", "first", "own"] (spFirstHits C) := by
  have GT : FnOk P w K mg base CX0 2 fT fdT ["group", "first"] spInTurn := ok_turn AT T AM
  have GN : FnOk P w K mg base CX0 3 fN fdN ["group", "shot"] spNext := ok_next AN T AT AM
  refine A.F.ok sc_fh (fun vs H Q E h => ?_) (fun cdv A outer s H vs Q E hr h => ?_)
  · obtain ⟨p, a, d, m, i, to, N, rfl, _⟩ := h
    rfl
  · obtain ⟨p, a, d0, m, i, to, N, rfl, ⟨ha, aa, D0⟩, ⟨kvs, wa, ws, hK0⟩, hm, hi, hc, hto, k⟩ := h
    have hu := hu_of hr
    have hK1 := hK0.with_ (to := to) D0.ok hm (DM.isIn_lt hm hi)
    have dok1 := DM.DOk_with D0.ok hm hi hto
    have haim1 : ∀ x, Uw86.aimOf (Uw86.withAim d0 m i to) m x = if x = i then to else Uw86.aimOf d0 m x := fun x => by
      rw [DM.aimOf_with D0.ok hm (DM.isIn_lt hm hi)]
      by_cases e : x = i
      · rw [if_pos ⟨rfl, e⟩, if_pos e]
      · rw [if_neg (fun z => e z.2), if_neg e]
    have hobj1 : ∃ dx, H p = some (.ins C dx (df (Uw86.withAim d0 m i to).b ha aa)) := D0.obj
    have hhits1 : H ha = some (.lst ((Uw86.withAim d0 m i to).hits.map nv)) := D0.hits
    obtain ⟨akv, haa, hA⟩ := D0.aims
    have hA1 : ∀ x, Uw86.isIn m x = true → valV akv (key m x) = some (nv (Uw86.aimOf d0 m x)) := fun x hx => hA.at_ m x hm hc hx
    rw [← DM.count_with d0 m i to] at hm hc k
    generalize hdd : Uw86.withAim d0 m i to = d at *
    obtain ⟨dx, hp⟩ := hobj1
    have n2 := dok1.n2
    have n4 := dok1.n4
    have b1 := dok1.b1
    have b60 := dok1.b60
    have hK := hK1
    have hb4 : d.b ^ 4 ≤ 60 ^ 4 := Nat.pow_le_pow_left b60 4
    have hi' := DM.isIn_lt hm hi
    have eT := turnL_eq n2 n4 hm hi'
    refine ⟨_, pss_cons (ps_set (i := 5) sc_fh.nd rfl (Or.inl rfl) (pe_callB call_len_seq (by rfl) T.len PySem.boot_len (pa_cons (pe_fld (pv 0) rfl) pa_nil)))
      (pss_cons (ps_set (i := 6) sc_fh.nd rfl (Or.inl rfl) (pe_lst pa_nil))
      (pss_cons (ps_set (i := 7) sc_fh.nd rfl (Or.inl rfl) (pe_op op_pow (pe_fld (pv 0) rfl) pe_int))
      (pss_cons (ps_for PassesOwn.never rfl (pi_list (pe_f AT GT hr (pa_cons (pv 2) (pa_cons (pv 3) pa_nil)))) (pg_name (i := 8) sc_fh.nd rfl (Or.inl rfl))
        (pss_cons (ps_set (i := 9) sc_fh.nd rfl (Or.inl rfl) (pe_ifExp (pt_cmpR op_eq (pv 8) (pv 3) (nomark _)) (pv 4) (pe_dget hu (pe_fld (pv 0) rfl) (pe_tup (pa_cons (pv 2) (pa_cons (pv 8) pa_nil))) (fun _ _ => rfl))))
        (pss_cons (ps_set (i := 10) sc_fh.nd rfl (Or.inl rfl) (pe_ifExp (pt_cmpR op_eq (pv 9) (pv 5) (nomark _)) pe_int (pe_ix ix_list (pe_fld (pv 0) rfl) (pv 8) (fun _ _ => rfl))))
        (pss_cons (ps_set (i := 11) sc_fh.nd rfl (Or.inl rfl) (pe_op op_fdivB (pv 7) (pe_fld (pv 0) rfl)))
        (pss_cons (ps_if (pt_cmpR op_gt (pe_op op_mulB (pv 11) (pv 10)) pe_int (nomark _))
          (pss_cons (ps_set (i := 12) sc_fh.nd rfl (Or.inl rfl) (pe_op op_sub (pv 2) (pe_op op_shl pe_int (pv 9))))
          (pss_one (ps_expr (pe_bm PySem.F.plainAttrs_list PySem.F.slot_list_append PySem.F.type_list_append mt_append (pv 6)
            (pa_cons (pe_tup (pa_cons (pe_op op_mulB (pv 11) (pv 10)) (pa_cons (pe_dget hu (pv 1) (pe_tup (pa_cons (pv 12) (pa_cons (pe_f AN GN hr (pa_cons (pv 12) (pa_cons (pv 8) pa_nil))) pa_nil))) (fun _ _ => rfl)) pa_nil))) pa_nil)))))
          pss_nil)
        (pss_one (ps_set (i := 7) sc_fh.nd rfl (Or.inl rfl) (pe_op op_mulB (pv 11) (pe_op op_sub (pe_fld (pv 0) rfl) (pv 10))))))))))
      (pss_one (ps_ret (pv 6)))))), ?_⟩
    refine ⟨_, rfl, p, C, dx, _, _, rfl, hp, TC.cl, TC.nH, df_h _ _ _, ha, _, rfl, .inl (SqL.of hhits1), ?_⟩
    refine ⟨Nat.zero_le _, fun q hq => ?_⟩
    have s1 := same_new (o := .lst []) hq
    refine ⟨_, rfl, p, C, dx, _, _, rfl, s1 _ _ hp, TC.cl, TC.nB, df_b _ _ _, _, _, rfl, rfl, ⟨by decide, by decide, by show d.b < 2 ^ 64; omega⟩, ?_⟩
    refine ⟨_, rfl, _, rfl, m, i, rfl, fun H1 o s2 ho ho1 => ?_⟩
    rw [eT] at ho1
    have sH1 : Same H H1 := s1.trans s2
    have el : V.int ((d.hits.map nv).length : Int) = nv (Uw86.count d) := by
      rw [List.length_map]
      rfl
    have e4 : V.int ((d.b : Int) ^ (4 : Int).toNat) = nv (d.b ^ 4) := by
      unfold nv
      rw [Int.natCast_pow]
      rfl
    refine ⟨o, rfl, ⟨_, SqL.of ho1⟩, for_list (K := K) (a := o) (xs := (Uw86.order (Uw86.count d) m i).map nv) (fun j σ H' => Same H H' ∧ H' o = some (.lst ((Uw86.order (Uw86.count d) m i).map nv)) ∧
        Gath H' q wa (Uw86.count d) m (DM.pparts d m (d.b ^ 4) ((Uw86.order (Uw86.count d) m i).take j)) ∧
        ∃ v7 v8 v9 v10 v11 : Option V, σ = [some (.ref p), some (.ref a), some (nv m), some (nv i), some (nv to), some (nv (Uw86.count d)), some (.ref q), some (nv (DM.pleft d m (d.b ^ 4) ((Uw86.order (Uw86.count d) m i).take j))), v7, v8, v9, v10, v11])
      ⟨sH1, ho1, ⟨[], s2 _ _ upd_same, rfl, fun k t c e => by simp at e⟩, none, none, none, none, none, by dsimp only; rw [el, e4]; rfl⟩ (fun j σ H' _ ⟨_, z, _⟩ => SqL.of z) ?_ ?_⟩
    · rintro j y σ H2 hj ⟨sm, hord, hP, v7, v8, v9, v10, v11, rfl⟩
      obtain ⟨x, hx, rfl⟩ := of_nv hj
      have hxm : Uw86.isIn m x = true := DM.mem_order (List.mem_of_getElem? hx)
      have hxn := DM.isIn_lt hm hxm
      have hav := hA1 x hxm
      -- to
      refine ⟨_, rfl, _, rfl, rfl, _, rfl, ?_⟩
      refine ite_some (v := nv (Uw86.aimOf d m x)) (H := H2) (fun H3 sm32 => ?_) (fun hb Q' hq' => ?_) (fun hb Q' hq' => ?_)
      rotate_left
      · have e : x = i := by
          rw [eq_nv] at hb
          exact of_decide_eq_true hb
        rw [haim1, if_pos e] at hq'
        exact ⟨_, rfl, hq' H2 (same_refl _)⟩
      · have e : ¬ x = i := by
          rw [eq_nv] at hb
          exact of_decide_eq_false hb
        refine ⟨_, rfl, p, C, dx, _, _, rfl, sm _ _ hp, TC.cl, TC.nA, df_a _ _ _, _, rfl, _, rfl, line2, fun t ht => ?_⟩
        have s3 := same_new (o := .tup [nv m, nv x]) ht
        rw [haim1, if_neg e] at hq'
        exact ⟨aa, _, rfl, by rw [← hav]; exact DGet.t (k := key m x) ((sm.trans s3) _ _ haa) upd_same, hq' _ s3⟩
      have sm3 : Same H H3 := sm.trans sm32
      -- hit
      have hh3 := sm3 _ _ hhits1
      have hP3 := hP.mono sm32
      have hord3 := sm32 _ _ hord
      have hp3 := sm3 _ _ hp
      generalize hms : DM.pleft d m (d.b ^ 4) ((Uw86.order (Uw86.count d) m i).take j) = ms at *
      have hmsle : ms ≤ d.b ^ 4 := by rw [← hms]; exact pleft_le _ _
      refine ⟨_, rfl, _, rfl, rfl, _, rfl, ?_⟩
      refine ite_val (nv (DM.hc d m x)) ?_ (fun hb Q' hq' => ?_) (fun hb Q' hq' => ?_)
      rotate_left
      · have e : Uw86.aimOf d m x = Uw86.count d := by
          rw [eq_nv] at hb
          exact of_decide_eq_true hb
        have e0 : DM.hc d m x = 0 := by
          unfold DM.hc
          rw [if_neg (by omega)]
        rw [e0] at hq'
        exact hq'
      · have e : ¬ Uw86.aimOf d m x = Uw86.count d := by
          rw [eq_nv] at hb
          exact of_decide_eq_false hb
        have e1 : Uw86.aimOf d m x < Uw86.count d := by
          rcases dok1.aims m hm hc x hxm with z | ⟨_, z⟩
          · exact absurd z e
          · exact DM.isIn_lt hm z
        have e0 : DM.hc d m x = d.hits.getD x 0 := by
          unfold DM.hc
          rw [if_pos e1]
        rw [e0] at hq'
        exact ⟨_, rfl, p, C, dx, _, _, rfl, hp3, TC.cl, TC.nH, df_h _ _ _, _, rfl, ha, _, _, _, rfl, rfl, SqL.of hh3, at_getD hxn, hq'⟩
      have hle := dok1.hc_le m x
      have ed : ((ms : Nat) : Int) / ((d.b : Nat) : Int) = ((ms / d.b : Nat) : Int) := (Int.natCast_ediv _ _).symm
      have hdm : ms / d.b ≤ 60 ^ 4 := Nat.le_trans (Nat.div_le_self _ _) (Nat.le_trans hmsle hb4)
      -- each
      refine ⟨_, rfl, _, rfl, p, C, dx, _, _, rfl, hp3, TC.cl, TC.nB, df_b _ _ _, _, _, rfl, rfl, ⟨by omega, big_of (Nat.lt_of_le_of_lt b60 (by decide +kernel))⟩, ?_⟩
      dsimp only
      rw [ed]
      have big1 : CBig ((ms / d.b : Nat) : Int) := big_of (Nat.lt_of_le_of_lt hdm (by decide +kernel))
      have big2 : CBig ((DM.hc d m x : Nat) : Int) := big_of (Nat.lt_of_le_of_lt (Nat.le_trans hle b60) (by decide +kernel))
      refine seq_join (fun σ' H' => Same H H' ∧ H' o = some (.lst ((Uw86.order (Uw86.count d) m i).map nv)) ∧ Gath H' q wa (Uw86.count d) m (DM.pparts d m (d.b ^ 4) ((Uw86.order (Uw86.count d) m i).take (j + 1))) ∧
        ∃ v11 : Option V, σ' = [some (.ref p), some (.ref a), some (nv m), some (nv i), some (nv to), some (nv (Uw86.count d)), some (.ref q), some (nv ms), some (nv x), some (nv (Uw86.aimOf d m x)), some (nv (DM.hc d m x)), some (nv (ms / d.b)), v11]) ?_ (fun fin => ?_)
      · rintro σ' H4 ⟨s4, ho4, hP4, v11, rfl⟩
        refine ⟨_, rfl, _, rfl, p, C, dx, _, _, rfl, s4 _ _ hp, TC.cl, TC.nB, df_b _ _ _, _, rfl, _, _, rfl, rfl, _, _, rfl, rfl, ?_⟩
        have es : ((d.b : Nat) : Int) - ((DM.hc d m x : Nat) : Int) = ((d.b - DM.hc d m x : Nat) : Int) := by omega
        dsimp only
        rw [es]
        refine ⟨⟨big1, big_of (Nat.lt_of_le_of_lt (Nat.le_trans (Nat.sub_le _ _) b60) (by decide +kernel))⟩, s4, ho4, hP4, some (nv x), some (nv (Uw86.aimOf d m x)), some (nv (DM.hc d m x)), some (nv (ms / d.b)), v11, ?_⟩
        rw [take_snoc hx, pleft_snoc, hms]
        have em : ((ms / d.b : Nat) : Int) * ((d.b - DM.hc d m x : Nat) : Int) = ((ms / d.b * (d.b - DM.hc d m x) : Nat) : Int) := (Int.natCast_mul _ _).symm
        rw [em]
        rfl
      · refine ⟨_, rfl, _, rfl, _, _, rfl, rfl, ⟨big1, big2⟩, _, _, rfl, rfl, _, rfl, ?_⟩
        have em : ((ms / d.b : Nat) : Int) * ((DM.hc d m x : Nat) : Int) = ((ms / d.b * DM.hc d m x : Nat) : Int) := (Int.natCast_mul _ _).symm
        dsimp only
        rw [em]
        by_cases hz : 0 < ms / d.b * DM.hc d m x
        · refine ite2 (fun _ => ?_) (fun z => absurd (decide_eq_true (by omega)) z)
          have hcp : 0 < DM.hc d m x := Nat.pos_of_mul_pos_left hz
          have hal : Uw86.aimOf d m x < Uw86.count d := by
            unfold DM.hc at hcp
            split at hcp
            · assumption
            · omega
          obtain ⟨hne, hai⟩ : Uw86.aimOf d m x ≠ x ∧ Uw86.isIn m (Uw86.aimOf d m x) = true := by
            rcases dok1.aims m hm hc x hxm with z | z
            · omega
            · exact z
          obtain ⟨r1, r2, r3, r4, r5, r6, r7⟩ := DM.rest_facts n2 n4 hm hxm hai hne
          -- rest
          refine ⟨_, rfl, _, rfl, _, _, rfl, rfl, ⟨by omega, by omega, by decide⟩, _, _, rfl, rfl, ?_⟩
          have er : ((m : Nat) : Int) - 1 * 2 ^ ((Uw86.aimOf d m x : Nat) : Int).toNat = ((m - 2 ^ Uw86.aimOf d m x : Nat) : Int) := by
            rw [Int.one_mul, Int.toNat_natCast]
            have : ((2 ^ Uw86.aimOf d m x : Nat) : Int) = (2 : Int) ^ Uw86.aimOf d m x := by
              rw [Int.natCast_pow]
              rfl
            rw [← this]
            omega
          dsimp only
          rw [er]
          obtain ⟨ps, hps, hpl, hpt⟩ := hP3.ex
          refine ⟨_, rfl, .inl ⟨rfl, _, SqL.of hps⟩, _, rfl, _, rfl, _, _, rfl, rfl, ⟨big1, big2⟩, _, rfl, _, rfl, _, rfl, _, rfl, m - 2 ^ Uw86.aimOf d m x, x, rfl, fun H4 s4 => ?_⟩
          dsimp only
          rw [em]
          refine ⟨line2, fun t2 ht2 => ?_⟩
          have en : nextL (m - 2 ^ Uw86.aimOf d m x) x = DM.nxt (Uw86.count d) m x (Uw86.aimOf d m x) := by
            rw [r7]
            unfold nextL
            rw [turnL_eq n2 n4 r1 hxn]
          rw [en] at *
          obtain ⟨k1, k2, k3⟩ := hK.at_ _ _ ⟨r3, r2, r5⟩
          have s5 := same_new (o := .tup [nv (m - 2 ^ Uw86.aimOf d m x), nv (DM.nxt (Uw86.count d) m x (Uw86.aimOf d m x))]) ht2
          have s35 := s4.trans s5
          have s05 := sm3.trans s35
          refine ⟨a, _, rfl, by rw [← k1]; exact DGet.t (k := key _ _) (s05 _ _ hK.obj) upd_same, line2, fun t3 ht3 => ?_⟩
          have s6 := same_new (o := .tup [nv (ms / d.b * DM.hc d m x), .ref (wa (m - 2 ^ Uw86.aimOf d m x) (DM.nxt (Uw86.count d) m x (Uw86.aimOf d m x)))]) ht3
          have s36 := s35.trans s6
          have s06 := sm3.trans s36
          have hps6 := s36 _ _ hps
          have hpl4 : ps.length ≤ 4 := by
            rw [hpl]
            refine Nat.le_trans (DM.parts_len _ _) (Nat.le_trans (List.length_take_le' _ _) ?_)
            rw [DM.order_len n2 n4 hm hi']
            exact Nat.le_trans DM.card_le n4
          have hG := Gath.snoc (n := Uw86.count d) (m := m) (wa := wa) hps6 hpl (fun kk t c e1 e2 => s36 _ _ (hpt kk t c e1 e2)) (ms / d.b * DM.hc d m x, x, Uw86.aimOf d m x) upd_same
          refine ⟨q, _, _, rfl, rfl, hps6, small_len (by rw [List.length_map]; omega), fin _ _ ⟨same_upd s06 hq, ?_, ?_, _, rfl⟩⟩
          · have hqo : o ≠ q := by
              intro z
              rw [z, upd_same] at ho
              cases ho
            rw [upd_ne hqo]
            exact s36 _ _ hord3
          · rw [take_snoc hx, pparts_snoc, hms, if_pos hz]
            exact hG
        · refine ite2 (fun z => absurd (of_decide_eq_true z) (by omega)) (fun _ => ?_)
          refine fin _ _ ⟨sm3, hord3, ?_, _, rfl⟩
          rw [take_snoc hx, pparts_snoc, hms, if_neg hz, List.append_nil]
          exact hP3
    · rintro σ H2 ⟨sm, hord, hP, v7, v8, v9, v10, v11, rfl⟩
      rw [List.length_map, List.take_length] at hP
      obtain ⟨ps, g1, g2, g3⟩ := hP.ex
      have kn : ∀ c ∈ DM.round d m i, Below m (m - 2 ^ c.2.2) (DM.nxt (Uw86.count d) m c.2.1 c.2.2) := fun c hc' => by
        obtain ⟨_, c1, _, c3, c4⟩ := DM.round_facts dok1 hm hc hc'
        obtain ⟨r1, r2, r3, r4, r5, _⟩ := DM.rest_facts n2 n4 hm c1 c3 c4
        exact ⟨r3, r2, r5⟩
      refine ⟨_, rfl, k H2 q (fun c => ws (m - 2 ^ c.2.2) (DM.nxt (Uw86.count d) m c.2.1 c.2.2)) sm hq ⟨ps, g1, by rw [g2, List.length_map]; rfl, fun kk t pt e1 e2 => ?_⟩ fun c hc' => (hK.at_ _ _ (kn c hc')).2.2⟩
      rw [List.getElem?_map] at e2
      cases e : (DM.round d m i)[kk]? with
      | none =>
        rw [e] at e2
        cases e2
      | some c =>
        rw [e] at e2
        cases e2
        exact ⟨_, g3 kk t c e1 e, sm _ _ (hK.at_ _ _ (kn c (List.mem_of_getElem? e))).2.1⟩
end
end Du
set_option Elab.async false
set_option linter.all false
set_option maxRecDepth 100000
set_option maxHeartbeats 2000000
set_option exponentiation.threshold 5000
namespace Du
open PySem PySem.Spec PyProof.Rows L2
def spChances (C : Addr) : Sp := fun vs H Q _ => ∃ (p a : Addr) (d : Uw86.Duel) (m i to N : Nat), vs = [.ref p, .ref a, nv m, nv i, nv to] ∧ DuelAt C H p d ∧ KnownAt H a d (Below m) N ∧ m < 2 ^ Uw86.count d ∧ Uw86.isIn m i = true ∧ 2 ≤ DM.Card (Uw86.count d) m ∧ to ∈ Uw86.mayAim d m i ∧
  ∀ (H' : Hp) (q : Addr) (ws : List Nat), Same H H' → H q = none → H' q = some (.lst (ws.map nv)) → WOk (Uw86.withAim d m i to) m i ws → Q (.ref q) H'
def spKnown (C : Addr) : Sp := fun vs H Q _ => ∃ (p : Addr) (d : Uw86.Duel) (m : Nat), vs = [.ref p, nv m] ∧ DuelAt C H p d ∧ m < 2 ^ Uw86.count d ∧ ∀ (H' : Hp) (q : Addr), Same H H' → H q = none → KnownAt H' q d (Below (m + 1)) 100 → Q (.ref q) H'
def spGcd : Sp := fun vs H Q _ => ∃ x y : Nat, vs = [nv x, nv y] ∧ Q (nv (Nat.gcd x y)) H
def spTold (C : Addr) : Sp := fun vs H Q _ => ∃ (p : Addr) (d : Uw86.Duel) (m i : Nat), vs = [.ref p, nv m, nv i] ∧ DuelAt C H p d ∧ m < 2 ^ Uw86.count d ∧ Uw86.isIn m i = true ∧ NewL H Q ((0 :: Uw86.told (Uw86.chancesOf d m i)).map V.int)
theorem card_pos {n m i : Nat} (hm : m < 2 ^ n) (h : Uw86.isIn m i = true) : 1 ≤ DM.Card n m := by
  have : i ∈ Uw86.members n m := DM.mem_members.mpr ⟨DM.isIn_lt hm h, h⟩
  unfold DM.Card
  cases e : Uw86.members n m with
  | nil =>
    rw [e] at this
    cases this
  | cons _ _ => simp
theorem mixOk {d : Uw86.Duel} (D : DM.DOk d) {m i : Nat} (hm : m < 2 ^ Uw86.count d) (hi : Uw86.isIn m i = true) (hc : 2 ≤ DM.Card (Uw86.count d) m) {W : Nat × Nat × Nat → List Nat} (hne : DM.round d m i ≠ [])
    (hW : ∀ c ∈ DM.round d m i, WOk d (m - 2 ^ c.2.2) (DM.nxt (Uw86.count d) m c.2.1 c.2.2) (W c)) :
    MixOk (Uw86.count d + 1) ((DM.round d m i).map fun c => (c.1, W c)) ∧ WOk d m i (DM.mixd (Uw86.count d + 1) ((DM.round d m i).map fun c => (c.1, W c))) := by
  have n4 := D.n4
  have cl : DM.Card (Uw86.count d) m ≤ 4 := Nat.le_trans DM.card_le n4
  have hb : ∀ c ∈ DM.round d m i, (W c).length = Uw86.count d + 1 ∧ 0 < (W c).sum ∧ (W c).sum ≤ DM.Bd (DM.Card (Uw86.count d) m - 1) := by
    intro c hcc
    obtain ⟨_, c1, _, c3, c4⟩ := DM.round_facts D hm hc hcc
    obtain ⟨r1, r2, r3, r4, r5, _⟩ := DM.rest_facts D.n2 D.n4 hm c1 c3 c4
    have w := hW c hcc
    refine ⟨w.len, w.rep.pos, ?_⟩
    have e : DM.Card (Uw86.count d) m - 1 = DM.Card (Uw86.count d) (m - 2 ^ c.2.2) := by omega
    rw [e]
    exact w.le
  obtain ⟨q1, q2, q3⟩ := DM.step_bound D hm hi hc W hb
  have R := DM.rep_step D hm hi hc W fun c hcc => ⟨(hW c hcc).len, (hW c hcc).rep⟩
  rw [if_neg hne] at R
  have p1000 : (2 : Nat) ^ 410 < 2 ^ 1000 := Nat.pow_lt_pow_right (by decide) (by decide)
  refine ⟨⟨fun e => hne (List.map_eq_nil_iff.mp e), fun p hp => ?_, fun p hp => ?_, by omega, fun p hp => ?_, fun p hp => ?_, ?_⟩, ⟨q1, R, q3⟩⟩
  · obtain ⟨c, hcc, rfl⟩ := List.mem_map.mp hp
    exact (hb c hcc).1
  · obtain ⟨c, hcc, rfl⟩ := List.mem_map.mp hp
    exact (hb c hcc).2.1
  · obtain ⟨c, hcc, rfl⟩ := List.mem_map.mp hp
    have h1 : c.1 ≤ ((DM.round d m i).map (·.1)).sum := mem_le_sum (List.mem_map.mpr ⟨c, hcc, rfl⟩)
    have h2 := DM.round_sum D hm hi
    have h3 : d.b ^ 4 ≤ 60 ^ 4 := Nat.pow_le_pow_left D.b60 4
    exact Nat.lt_of_le_of_lt (Nat.le_trans h1 (Nat.le_trans h2 h3)) (by decide +kernel)
  · obtain ⟨c, hcc, rfl⟩ := List.mem_map.mp hp
    exact Nat.lt_trans (Nat.lt_of_le_of_lt (hb c hcc).2.2 (DM.Bd_lt (by omega))) p1000
  · exact Nat.lt_trans (Nat.lt_of_le_of_lt q2 (DM.Bd_lt cl)) p1000
section
variable {P : Program} {w : World} {K : PySem.W.Frag} {mg : Str → Option Value} {base : Heap} {C : Addr}
theorem sc_ch : FnScope ["duel", "known", "group", "first", "own", "parts"] ["duel", "known", "group", "first", "own"] (defScope sChances) := ⟨rfl, rfl, rfl, by decide +kernel, rfl, by decide +kernel, by decide +kernel⟩
theorem ok_ch {f fS fF fX : Addr} {fd fdS fdF fdX : FuncData} (A : Dfn K mg "chances" sChances ["duel", "known", "group", "first", "own"] f fd) (T : Txt K mg) (TC : TCls K mg C)
    (AS : Dfn K mg "surely" sSurely ["duel", "place"] fS fdS) (AF : Dfn K mg "first_hits" sFirstHits ["duel", "known", "group", "first", "own"] fF fdF) (GF : FnOk P w K mg base CX0 4 fF fdF ["duel", "known", "group", "first", "own"] (spFirstHits C)) (AX : Dfn K mg "mixed" sMixed ["parts"] fX fdX) :
    FnOk P w K mg base CX0 5 f fd ["duel", "known", "group", "first", "own"] (spChances C) := by
  have GS : FnOk P w K mg base CX0 1 fS fdS ["duel", "place"] (spSurely C) := ok_surely AS T TC
  have GX : FnOk P w K mg base CX0 1 fX fdX ["parts"] spMixed := ok_mixed AX T
  refine A.F.ok sc_ch (fun vs H Q E h => ?_) (fun cdv A outer s H vs Q E hr h => ?_)
  · obtain ⟨p, a, d, m, i, to, N, rfl, _⟩ := h
    rfl
  · obtain ⟨p, a, d0, m, i, to, N, rfl, hD, hK, hm, hi, hc, hto, k⟩ := h
    obtain ⟨ha, aa, D⟩ := hD
    obtain ⟨kvs, wa, ws, hK⟩ := hK
    obtain ⟨dx, hp⟩ := D.obj
    refine ⟨_, pss_cons (ps_set (i := 5) sc_ch.nd rfl (Or.inl rfl) (pe_f AF GF hr (pa_cons (pv 0) (pa_cons (pv 1) (pa_cons (pv 2) (pa_cons (pv 3) (pa_cons (pv 4) pa_nil)))))))
      (pss_cons (ps_if (pt_cmpR op_eq (pe_callB call_len_seq (by rfl) T.len PySem.boot_len (pa_cons (pv 5) pa_nil)) pe_int (nomark _)) (pss_one (ps_ret (pe_f AS GS hr (pa_cons (pv 0) (pa_cons (pe_callB call_len_seq (by rfl) T.len PySem.boot_len (pa_cons (pe_fld (pv 0) rfl) pa_nil)) pa_nil))))) pss_nil)
      (pss_one (ps_ret (pe_f AX GX hr (pa_cons (pv 5) pa_nil))))), ?_⟩
    refine ⟨_, rfl, _, rfl, _, rfl, _, rfl, _, rfl, p, a, d0, m, i, to, N, rfl, ⟨ha, aa, D⟩, ⟨kvs, wa, ws, hK⟩, hm, hi, hc, hto, fun H2 q W s02 hq hP hW => ?_⟩
    have dok := DM.DOk_with D.ok hm hi hto
    have hh := D.hits
    have hm0 := hm
    rw [← DM.count_with d0 m i to] at hm hc hW
    obtain ⟨ps, g1, g2, g3⟩ := hP.ex
    refine ⟨_, rfl, q, _, rfl, .inl (SqL.of g1), rfl, _, rfl, ?_⟩
    rw [List.length_map, g2, List.length_map]
    by_cases hr0 : DM.round (Uw86.withAim d0 m i to) m i = []
    · refine ite2 (fun _ => ?_) (fun z => absurd (decide_eq_true (by rw [hr0]; rfl)) z)
      refine ⟨_, rfl, _, rfl, p, C, dx, _, _, rfl, s02 _ _ hp, TC.cl, TC.nH, df_h _ _ _, ha, _, rfl, .inl (SqL.of (s02 _ _ D.hits)), p, d0, Uw86.count d0, by rw [List.length_map]; rfl, ⟨ha, aa, D.mono s02⟩, Nat.le_refl _, fun H3 q3 s3 hq3 hq33 => ?_⟩
      have R := DM.rep_step dok hm hi hc W fun c hcc => by rw [hr0] at hcc; cases hcc
      rw [if_pos hr0] at R
      refine k H3 q3 _ (s02.trans s3) (s02.free hq3) hq33 ⟨DM.len_sure, R, ?_⟩
      rw [DM.sum_sure (Nat.le_refl _)]
      exact DM.Bd_pos _
    · refine ite2 (fun z => absurd (of_decide_eq_true z) (fun e => hr0 (by
        have e2 : ((DM.round (Uw86.withAim d0 m i to) m i).length : Int) = 0 := V.int.inj e
        exact List.length_eq_zero_iff.mp (by omega)))) (fun _ => ?_)
      obtain ⟨m1, m2⟩ := mixOk dok hm hi hc hr0 hW
      exact ⟨_, rfl, q, _, Uw86.count d0 + 1, rfl, hP, m1, fun H3 q3 s3 hq3 hq33 => k H3 q3 _ (s02.trans s3) (s02.free hq3) hq33 m2⟩
theorem sc_kn : FnScope ["duel", "top", "known", "group", "inside", "shot"] ["duel", "top"] (defScope sKnown) := ⟨rfl, rfl, rfl, by decide +kernel, rfl, by decide +kernel, by decide +kernel⟩
theorem KnownIs.imp {H : Hp} {a : Addr} {d : Uw86.Duel} {Pm Pn : Nat → Nat → Prop} {N M : Nat} {kvs wa ws} (k : KnownIs H a d Pm N kvs wa ws) (h : ∀ m i, Pn m i → Pm m i) (hN : N ≤ M) : KnownIs H a d Pn M kvs wa ws :=
  ⟨k.obj, Nat.le_trans k.len hN, fun m i q => k.at_ m i (h m i q)⟩
theorem KnownIs.put {H H' : Hp} {a q : Addr} {d : Uw86.Duel} {Pm : Nat → Nat → Prop} {N g x : Nat} {kvs wa ws} {w0 : List Nat} (k : KnownIs H a d Pm N kvs wa ws) (hx : ¬ Pm g x) (keep : ∀ b xs, H b = some (.lst xs) → H' b = some (.lst xs)) (hq : H' q = some (.lst (w0.map nv))) (hw : WOk d g x w0)
    (hd : H' a = some (.dT (putK kvs (key g x) (.ref q)))) : KnownAt H' a d (fun m i => Pm m i ∨ (m = g ∧ i = x)) (N + 1) := by
  refine ⟨_, fun m i => if m = g ∧ i = x then q else wa m i, fun m i => if m = g ∧ i = x then w0 else ws m i, hd, Nat.le_trans (length_putK _ _ _) (Nat.add_le_add_right k.len 1), fun m i h => ?_⟩
  by_cases e : m = g ∧ i = x
  · rw [if_pos e, if_pos e, valV_put, if_pos (key_inj.mpr e), e.1, e.2]
    exact ⟨rfl, hq, hw⟩
  · rw [if_neg e, if_neg e, valV_put, if_neg (fun z => e (key_inj.mp z))]
    obtain ⟨k1, k2, k3⟩ := k.at_ m i (h.resolve_right e)
    exact ⟨k1, keep _ _ k2, k3⟩
theorem ok_kn {f fM fS fC : Addr} {fd fdM fdS fdC : FuncData} (A : Dfn K mg "known_chances" sKnown ["duel", "top"] f fd) (T : Txt K mg) (TC : TCls K mg C) (AM : Dfn K mg "members" sMembers ["group"] fM fdM) (AS : Dfn K mg "surely" sSurely ["duel", "place"] fS fdS)
    (AC : Dfn K mg "chances" sChances ["duel", "known", "group", "first", "own"] fC fdC) (GC : FnOk P w K mg base CX0 5 fC fdC ["duel", "known", "group", "first", "own"] (spChances C)) : FnOk P w K mg base CX0 6 f fd ["duel", "top"] (spKnown C) := by
  have GM : FnOk P w K mg base CX0 1 fM fdM ["group"] spMembers := ok_members AM T
  have GS : FnOk P w K mg base CX0 1 fS fdS ["duel", "place"] (spSurely C) := ok_surely AS T TC
  refine A.F.ok sc_kn (fun vs H Q E h => ?_) (fun cdv A outer s H vs Q E hr h => ?_)
  · obtain ⟨p, d, m, rfl, _⟩ := h
    rfl
  · obtain ⟨p, d, m, rfl, ⟨ha, aa, D⟩, hm, k⟩ := h
    have hu := hu_of hr
    have n4 := D.ok.n4
    have p16 : 2 ^ Uw86.count d ≤ 16 := Nat.pow_le_pow_right (by decide) n4
    obtain ⟨dx, hp⟩ := D.obj
    obtain ⟨akv, haa, hA⟩ := D.aims
    refine ⟨_, pss_cons (ps_set (i := 2) sc_kn.nd rfl (Or.inl rfl) pe_dnewT)
      (pss_cons (ps_for PassesOwn.never rfl (pi_range2 (by rfl) T.range (pa_cons pe_int (pa_cons (pe_op op_add (pv 1) pe_int) pa_nil))) (pg_name (i := 3) sc_kn.nd rfl (Or.inl rfl))
        (pss_cons (ps_set (i := 4) sc_kn.nd rfl (Or.inl rfl) (pe_f AM GM hr (pa_cons (pv 3) pa_nil)))
        (pss_one (ps_for PassesOwn.never rfl (pi_list (pv 4)) (pg_name (i := 5) sc_kn.nd rfl (Or.inl rfl))
          (pss_one (ps_if (pt_cmpR op_eq (pe_callB call_len_seq (by rfl) T.len PySem.boot_len (pa_cons (pv 4) pa_nil)) pe_int (nomark _))
            (pss_one (ps_dput hu (pv 2) (pe_tup (pa_cons (pv 3) (pa_cons (pv 5) pa_nil))) (pe_f AS GS hr (pa_cons (pv 0) (pa_cons (pv 5) pa_nil))) rfl))
            (pss_one (ps_dput hu (pv 2) (pe_tup (pa_cons (pv 3) (pa_cons (pv 5) pa_nil))) (pe_f AC GC hr (pa_cons (pv 0) (pa_cons (pv 2) (pa_cons (pv 3) (pa_cons (pv 5) (pa_cons (pe_dget hu (pe_fld (pv 0) rfl) (pe_tup (pa_cons (pv 3) (pa_cons (pv 5) pa_nil))) (fun _ _ => rfl)) pa_nil)))))) rfl))))))))
      (pss_one (ps_ret (pv 2)))), ?_⟩
    intro q hq
    have s1 := same_new (o := .dT []) hq
    refine ⟨_, rfl, _, _, rfl, rfl, 1, (m : Int) + 1, rfl, ⟨by decide, by decide, by omega, by omega⟩, ?_⟩
    have en : ((m : Int) + 1 - 1).toNat = m := by omega
    rw [en]
    refine for_range (lo := 1) (n := m) (fun g σ H' => ∃ v3 v4 v5 : Option V, σ = [some (.ref p), some (nv m), some (.ref q), v3, v4, v5] ∧ Same H H' ∧ KnownAt H' q d (Below (g + 1)) (4 * g))
      ⟨none, none, none, rfl, s1, [], fun _ _ => 0, fun _ _ => [], upd_same, Nat.le_refl _, fun m i ⟨h1, h2, _⟩ => by omega⟩ ?_ ?_
    · rintro g σ H1 hg ⟨v3, v4, v5, rfl, sm1, hK1⟩
      have e1 : (1 : Int) + (g : Int) = ((g + 1 : Nat) : Int) := by omega
      rw [e1]
      have hg2 : g + 1 < 2 ^ Uw86.count d := by omega
      refine ⟨_, rfl, g + 1, rfl, fun H2 o s2 ho ho2 => ?_⟩
      rw [members4 D.ok.n2 D.ok.n4 hg2] at ho2
      obtain ⟨kvs, wa, ws, hK1⟩ := hK1
      refine ⟨_, rfl, o, rfl, ⟨_, SqL.of ho2⟩, for_list (K := K) (a := o) (xs := (Uw86.members (Uw86.count d) (g + 1)).map nv) (fun j σ H' => ∃ v5 : Option V, σ = [some (.ref p), some (nv m), some (.ref q), some (nv (g + 1)), some (.ref o), v5] ∧ Same H H' ∧ H' o = some (.lst ((Uw86.members (Uw86.count d) (g + 1)).map nv)) ∧
          KnownAt H' q d (fun m' i => Below (g + 1) m' i ∨ (m' = g + 1 ∧ i ∈ (Uw86.members (Uw86.count d) (g + 1)).take j)) (4 * g + j))
        ⟨v5, rfl, sm1.trans s2, ho2, kvs, wa, ws, (hK1.mono s2).imp (fun m' i h => h.resolve_right fun ⟨_, z⟩ => by rw [List.take_zero] at z; cases z) (Nat.le_refl _)⟩ (fun j σ H' _ ⟨_, _, _, z, _⟩ => SqL.of z) ?_ ?_⟩
      · rintro j y σ H3 hj ⟨v5, rfl, sm3, ho3, kvs, wa, ws, hK3⟩
        obtain ⟨x, hx, rfl⟩ := of_nv hj
        have hxm := List.mem_of_getElem? hx
        have hxi := (DM.mem_members.mp hxm).2
        have hxn := (DM.mem_members.mp hxm).1
        -- what is put
        have fin : ∀ (H4 : Hp) (r : Addr) (w0 : List Nat), Same H3 H4 → H4 r = some (.lst (w0.map nv)) → WOk d (g + 1) x w0 → ∀ t, H4 t = none → ∃ H5, DPut (upd H4 t (.tup [nv (g + 1), nv x])) q (.ref t) (.ref r) H5 ∧
            Same H H5 ∧ H5 o = some (.lst ((Uw86.members (Uw86.count d) (g + 1)).map nv)) ∧ KnownAt H5 q d (fun m' i => Below (g + 1) m' i ∨ (m' = g + 1 ∧ i ∈ (Uw86.members (Uw86.count d) (g + 1)).take (j + 1))) (4 * g + (j + 1)) := by
          intro H4 r w0 s4 hr4 hw t ht
          have s5 := same_new (o := .tup [nv (g + 1), nv x]) ht
          have hK4 := hK3.mono s4
          have jl : j < (Uw86.members (Uw86.count d) (g + 1)).length := (List.getElem?_eq_some_iff.mp hx).1
          have ml : (Uw86.members (Uw86.count d) (g + 1)).length ≤ 4 := Nat.le_trans DM.card_le n4
          refine ⟨_, DPut.t (k := key (g + 1) x) (s5 _ _ hK4.obj) upd_same (small_len (Nat.le_trans hK4.len (by omega))), ?_⟩
          have keep : ∀ b xs, H4 b = some (.lst xs) → (upd (upd H4 t (.tup [nv (g + 1), nv x])) q (.dT (putK kvs (key (g + 1) x) (.ref r)))) b = some (.lst xs) := fun b xs e => by
            rw [upd_ne (ne_of e hK4.obj (by intro z; cases z)), upd_ne (ne_of_none e ht)]
            exact e
          have hx0 : ¬ (Below (g + 1) (g + 1) x ∨ (g + 1 = g + 1 ∧ x ∈ (Uw86.members (Uw86.count d) (g + 1)).take j)) := by
            rintro (⟨_, z, _⟩ | ⟨_, z⟩)
            · omega
            · obtain ⟨j', hj', hz⟩ := List.mem_iff_getElem?.mp z |>.imp fun j' h => (show j' < j ∧ _ from ⟨by
                  have := (List.getElem?_eq_some_iff.mp h).1
                  rw [List.length_take] at this
                  omega, h⟩)
              rw [List.getElem?_take_of_lt hj'] at hz
              have := nd_ix (nd_memb _ _) hz hx
              omega
          obtain ⟨kvs', wa', ws', hK5⟩ := hK4.put hx0 keep (keep _ _ hr4) hw upd_same
          refine ⟨fun b o e => ?_, keep _ _ (s4 _ _ ho3), kvs', wa', ws', hK5.imp (fun m' i h => ?_) (Nat.le_refl _)⟩
          · have e4 := s4 _ _ (sm3 _ _ e)
            rw [upd_ne (ne_of_none e hq), upd_ne (ne_of_none e4 ht)]
            exact e4
          · rw [take_snoc hx, List.mem_append, List.mem_singleton] at h
            rcases h with h | ⟨h1, h2 | h2⟩
            · exact .inl (.inl h)
            · exact .inl (.inr ⟨h1, h2⟩)
            · exact .inr ⟨h1, h2⟩
        refine ⟨_, rfl, o, _, rfl, .inl (SqL.of ho3), rfl, _, rfl, ?_⟩
        have el : V.int (((Uw86.members (Uw86.count d) (g + 1)).map nv).length : Int) = nv (DM.Card (Uw86.count d) (g + 1)) := by
          rw [List.length_map]
          rfl
        rw [el]
        have e1 : V.int 1 = nv 1 := rfl
        rw [e1, eq_nv]
        have cp := card_pos hg2 hxi
        by_cases hc1 : DM.Card (Uw86.count d) (g + 1) = 1
        · refine ite2 (fun _ => ?_) (fun z => absurd (decide_eq_true hc1) z)
          refine ⟨_, rfl, _, rfl, p, d, x, rfl, ⟨ha, aa, D.mono sm3⟩, by omega, fun H4 r s4 hr4 hr44 => ?_⟩
          have hw : WOk d (g + 1) x (DM.sure (Uw86.count d) x) := ⟨DM.len_sure, DM.rep_one D.ok hg2 hxi (by omega), by
            rw [DM.sum_sure (by omega)]
            exact DM.Bd_pos _⟩
          refine ⟨_, rfl, _, rfl, _, rfl, line2, fun t ht => ?_⟩
          obtain ⟨H5, f1, f2, f3, f4⟩ := fin H4 r _ s4 hr44 hw t ht
          exact ⟨q, H5, rfl, f1, _, rfl, f2, f3, f4⟩
        · refine ite2 (fun z => absurd (of_decide_eq_true z) hc1) (fun _ => ?_)
          have hc : 2 ≤ DM.Card (Uw86.count d) (g + 1) := by omega
          refine ⟨_, rfl, _, rfl, _, rfl, _, rfl, _, rfl, p, C, dx, _, _, rfl, sm3 _ _ hp, TC.cl, TC.nA, df_a _ _ _, _, rfl, _, rfl, line2, fun t ht => ?_⟩
          have s4 := same_new (o := .tup [nv (g + 1), nv x]) ht
          have s04 := sm3.trans s4
          have hav := hA.at_ (g + 1) x hg2 hc hxi
          have hmay : Uw86.aimOf d (g + 1) x ∈ Uw86.mayAim d (g + 1) x := DM.mem_may.mpr (by
            rcases D.ok.aims (g + 1) hg2 hc x hxi with z | ⟨z1, z2⟩
            · exact .inl z
            · exact .inr ⟨DM.isIn_lt hg2 z2, z2, z1⟩)
          refine ⟨aa, _, rfl, by rw [← hav]; exact DGet.t (k := key (g + 1) x) (s04 _ _ haa) upd_same, p, q, d, g + 1, x, _, _, rfl, ⟨ha, aa, D.mono s04⟩, ⟨kvs, wa, ws, (hK3.mono s4).imp (fun _ _ h => .inl h) (Nat.le_refl _)⟩, hg2, hxi, hc, hmay, fun H5 r w0 s5 hr5 hr55 hw => ?_⟩
          have hw2 : WOk d (g + 1) x w0 := ⟨hw.len, by rw [← DM.with_same D.ok hg2 hxn]; exact hw.rep, hw.le⟩
          refine ⟨_, rfl, _, rfl, _, rfl, line2, fun t2 ht2 => ?_⟩
          obtain ⟨H6, f1, f2, f3, f4⟩ := fin H5 r _ (s4.trans s5) hr55 hw2 t2 ht2
          exact ⟨q, H6, rfl, f1, _, rfl, f2, f3, f4⟩
      · rintro σ H3 ⟨v5, rfl, sm3, ho3, kvs, wa, ws, hK3⟩
        rw [List.length_map] at hK3
        rw [List.take_length] at hK3
        have ml : (Uw86.members (Uw86.count d) (g + 1)).length ≤ 4 := Nat.le_trans DM.card_le n4
        refine ⟨_, _, _, rfl, sm3, kvs, wa, ws, hK3.imp (fun m' i ⟨h1, h2, h3⟩ => ?_) (by omega)⟩
        by_cases e : m' = g + 1
        · subst e
          exact .inr ⟨rfl, DM.mem_members.mpr ⟨DM.isIn_lt hg2 h3, h3⟩⟩
        · exact .inl ⟨h1, by omega, h3⟩
    · rintro σ H1 ⟨v3, v4, v5, rfl, sm1, kvs, wa, ws, hK1⟩
      exact ⟨_, rfl, k H1 q sm1 hq ⟨kvs, wa, ws, hK1.imp (fun _ _ h => h) (by omega)⟩⟩
theorem sc_gcd : FnScope ["one", "other", "rest"] ["one", "other"] (defScope sGcd) := ⟨rfl, rfl, rfl, by decide +kernel, rfl, by decide +kernel, by decide +kernel⟩
def intAt (v : Option (Option V)) : Nat := match v with
  | some (some (V.int i)) => i.toNat
  | _ => 0
def muGcd (σ : List (Option V)) (_ : Hp) : Nat := intAt (σ[1]?)
theorem ok_gcd {f : Addr} {fd : FuncData} (A : Dfn K mg "common_divisor" sGcd ["one", "other"] f fd) : FnOk P w K mg base CX0 1 f fd ["one", "other"] spGcd := by
  refine A.F.ok sc_gcd (fun vs H Q E h => ?_) (fun cdv A outer s H vs Q E hr h => ?_)
  · obtain ⟨x, y, rfl, _⟩ := h
    rfl
  · obtain ⟨x, y, rfl, k⟩ := h
    refine ⟨_, pss_cons (ps_while PassesOwn.never (pt_cmpR op_gt (pv 1) pe_int (nomark _))
        (pss_cons (ps_set (i := 2) sc_gcd.nd rfl (Or.inl rfl) (pe_op op_mod (pv 0) (pv 1)))
        (pss_cons (ps_set (i := 0) sc_gcd.nd rfl (Or.inl rfl) (pv 1))
        (pss_one (ps_set (i := 1) sc_gcd.nd rfl (Or.inl rfl) (pv 2))))))
      (pss_one (ps_ret (pv 0))), ?_⟩
    refine while_by (fun σ H' => H' = H ∧ ∃ (x' y' : Nat) (v : Option V), σ = [some (nv x'), some (nv y'), v] ∧ Nat.gcd x' y' = Nat.gcd x y) muGcd ⟨rfl, x, y, none, rfl, rfl⟩ ?_ ?_
    · rintro σ H' ⟨rfl, x', y', v, rfl, hg⟩
      refine ⟨_, rfl, _, _, rfl, rfl, _, rfl, ?_⟩
      by_cases hy : 0 < y'
      · refine ite2 (fun _ => ?_) (fun z => absurd (decide_eq_true (by omega)) z)
        refine ⟨_, rfl, _, rfl, _, _, rfl, rfl, (by show (0 : Int) < (y' : Int); omega), _, rfl, _, rfl, ⟨rfl, y', x' % y', some (nv (x' % y')), rfl, ?_⟩, ?_⟩
        · rw [← hg, Nat.gcd_comm x' y', Nat.gcd_rec y' x', Nat.gcd_comm]
        · show ((x' : Int) % (y' : Int)).toNat < ((y' : Nat) : Int).toNat
          have h1 := Int.emod_lt_of_pos (x' : Int) (show (0 : Int) < (y' : Int) by omega)
          have h2 := Int.emod_nonneg (x' : Int) (show (y' : Int) ≠ 0 by omega)
          omega
      · refine ite2 (fun z => absurd (of_decide_eq_true z) (by omega)) (fun _ => ?_)
        have e0 : y' = 0 := by omega
        subst e0
        rw [Nat.gcd_zero_right] at hg
        refine ⟨_, rfl, ?_⟩
        rw [hg]
        exact k
    · rintro σ H' R R' mono ⟨v, e, i, j, e1, e2, kk, e3, q⟩
      exact ⟨v, e, i, j, e1, e2, kk, e3, mono _ _ q⟩
def toldW (S : Nat) (l : List Nat) : List V := l.flatMap fun w => [nv (w / Nat.gcd w S), nv (S / Nat.gcd w S)]
theorem toldW_eq {ws : List Nat} (hp : 0 < ws.sum) (l : List Nat) : toldW ws.sum l = (Uw86.told (l.map fun w => Uw86.frac w ws.sum)).map V.int := by
  unfold toldW Uw86.told
  induction l with
  | nil => rfl
  | cons w l ih =>
    rw [List.flatMap_cons, List.map_cons, List.flatMap_cons, List.map_append, ih]
    congr 1
    unfold Uw86.frac
    by_cases e : w = 0
    · subst e
      rw [if_pos rfl, Nat.gcd_zero_left, Nat.zero_div, Nat.div_self hp]
      rfl
    · rw [if_neg e]
      rfl
theorem toldW_snoc (S : Nat) (l : List Nat) (x : Nat) : toldW S (l ++ [x]) = toldW S l ++ [nv (x / Nat.gcd x S), nv (S / Nat.gcd x S)] := by
  unfold toldW
  rw [List.flatMap_append]
  rfl
theorem toldW_len (S : Nat) : ∀ l : List Nat, (toldW S l).length = 2 * l.length
  | [] => rfl
  | x :: l => by
    have := toldW_len S l
    unfold toldW at this ⊢
    rw [List.flatMap_cons, List.length_append, this]
    simp
    omega
end
end Du
set_option Elab.async false
set_option linter.all false
set_option maxRecDepth 100000
set_option maxHeartbeats 2000000
set_option exponentiation.threshold 5000
namespace Du
open PySem PySem.Spec PyProof.Rows L2
def spLow : Sp := fun vs H Q _ => ∃ x y : Nat, vs = [nv x, nv y] ∧ 0 < y ∧ y < 2 ^ 4000 ∧ NewL H Q [nv (x / Nat.gcd x y), nv (y / Nat.gcd x y)]
section
variable {P : Program} {w : World} {K : PySem.W.Frag} {mg : Str → Option Value} {base : Heap} {C : Addr}
theorem sc_low : FnScope ["above", "below", "divisor"] ["above", "below"] (defScope sLow) := ⟨rfl, rfl, rfl, by decide +kernel, rfl, by decide +kernel, by decide +kernel⟩
theorem ok_low {f fG : Addr} {fd fdG : FuncData} (A : Dfn K mg "lowest_terms" sLow ["above", "below"] f fd) (AG : Dfn K mg "common_divisor" sGcd ["one", "other"] fG fdG) : FnOk P w K mg base CX0 2 f fd ["above", "below"] spLow := by
  have GG : FnOk P w K mg base CX0 1 fG fdG ["one", "other"] spGcd := ok_gcd AG
  refine A.F.ok sc_low (fun vs H Q E h => ?_) (fun cdv A outer s H vs Q E hr h => ?_)
  · obtain ⟨x, y, rfl, _⟩ := h
    rfl
  · obtain ⟨x, y, rfl, hy, hb, k⟩ := h
    refine ⟨_, pss_cons (ps_set (i := 2) sc_low.nd rfl (Or.inl rfl) (pe_f AG GG hr (pa_cons (pv 0) (pa_cons (pv 1) pa_nil))))
      (pss_one (ps_ret (pe_lst (pa_cons (pe_op op_fdivB (pv 0) (pv 2)) (pa_cons (pe_op op_fdivB (pv 1) (pv 2)) pa_nil))))), ?_⟩
    have gp : 0 < Nat.gcd x y := Nat.gcd_pos_of_pos_right _ hy
    have gb : CBig ((Nat.gcd x y : Nat) : Int) := big_of (Nat.lt_of_le_of_lt (Nat.gcd_le_right _ hy) hb)
    have e1 : ((x : Nat) : Int) / ((Nat.gcd x y : Nat) : Int) = ((x / Nat.gcd x y : Nat) : Int) := (Int.natCast_ediv _ _).symm
    have e2 : ((y : Nat) : Int) / ((Nat.gcd x y : Nat) : Int) = ((y / Nat.gcd x y : Nat) : Int) := (Int.natCast_ediv _ _).symm
    refine ⟨_, rfl, _, rfl, x, y, rfl, _, rfl, _, rfl, _, _, rfl, rfl, ⟨by omega, gb⟩, _, rfl, _, rfl, _, _, rfl, rfl, ⟨by omega, gb⟩, ?_⟩
    refine ⟨line2, fun p hp => ?_⟩
    dsimp only
    rw [e1, e2]
    exact k _ p (same_new hp) hp upd_same
theorem sc_told : FnScope ["duel", "group", "first", "weights", "told", "weight"] ["duel", "group", "first"] (defScope sTold) := ⟨rfl, rfl, rfl, by decide +kernel, rfl, by decide +kernel, by decide +kernel⟩
theorem ok_told {f fN fL fG : Addr} {fd fdN fdL fdG : FuncData} (A : Dfn K mg "told_chances" sTold ["duel", "group", "first"] f fd) (T : Txt K mg) (AN : Dfn K mg "known_chances" sKnown ["duel", "top"] fN fdN) (GN : FnOk P w K mg base CX0 6 fN fdN ["duel", "top"] (spKnown C))
    (AL : Dfn K mg "lowest_terms" sLow ["above", "below"] fL fdL) (AG : Dfn K mg "common_divisor" sGcd ["one", "other"] fG fdG) : FnOk P w K mg base CX0 7 f fd ["duel", "group", "first"] (spTold C) := by
  have GL : FnOk P w K mg base CX0 2 fL fdL ["above", "below"] spLow := ok_low AL AG
  refine A.F.ok sc_told (fun vs H Q E h => ?_) (fun cdv A outer s H vs Q E hr h => ?_)
  · obtain ⟨p, d, m, i, rfl, _⟩ := h
    rfl
  · obtain ⟨p, d, m, i, rfl, ⟨ha, aa, D⟩, hm, hi, k⟩ := h
    have hu := hu_of hr
    have n4 := D.ok.n4
    refine ⟨_, pss_cons (ps_set (i := 3) sc_told.nd rfl (Or.inl rfl) (pe_dget hu (pe_f AN GN hr (pa_cons (pv 0) (pa_cons (pv 1) pa_nil))) (pe_tup (pa_cons (pv 1) (pa_cons (pv 2) pa_nil))) (fun _ _ => rfl)))
      (pss_cons (ps_set (i := 4) sc_told.nd rfl (Or.inl rfl) (pe_lst (pa_cons pe_int pa_nil)))
      (pss_cons (ps_for PassesOwn.never rfl (pi_list (pv 3)) (pg_name (i := 5) sc_told.nd rfl (Or.inl rfl))
        (pss_one (ps_expr (pe_bm PySem.F.plainAttrs_list PySem.F.slot_list_extend PySem.F.type_list_extend mt_extend (pv 4)
          (pa_cons (pe_f AL GL hr (pa_cons (pv 5) (pa_cons (pe_callB (cr_sum rfl) (by rfl) T.sum boot_sum (pa_cons (pv 3) pa_nil)) pa_nil))) pa_nil)))))
      (pss_one (ps_ret (pv 4))))), ?_⟩
    have hm0 : 0 < m := by
      rcases Nat.eq_zero_or_pos m with e | e
      · subst e
        have : Uw86.isIn 0 i = false := by
          unfold Uw86.isIn
          rw [Nat.zero_div]
          rfl
        rw [this] at hi
        cases hi
      · exact e
    refine ⟨_, rfl, _, rfl, p, d, m, rfl, ⟨ha, aa, D⟩, hm, fun H1 a s1 ha1 ⟨kvs, wa, ws, hK⟩ => ?_⟩
    obtain ⟨k1, k2, k3⟩ := hK.at_ m i ⟨hm0, by omega, hi⟩
    refine ⟨_, rfl, _, rfl, line2, fun t ht => ?_⟩
    have s2 := same_new (o := .tup [nv m, nv i]) ht
    have s02 := s1.trans s2
    generalize hH2 : upd H1 t (.tup [nv m, nv i]) = H2 at *
    refine ⟨a, _, rfl, by rw [← k1]; exact DGet.t (k := key m i) (s2 _ _ hK.obj) (by rw [← hH2]; exact upd_same), ?_⟩
    have hw := s2 _ _ k2
    generalize wa m i = wv at *
    generalize ws m i = wl at *
    refine ⟨by decide, fun o ho => ?_⟩
    have s3 := same_new (o := .lst [.int 0]) ho
    have hwl := k3.len
    have hsb : wl.sum < 2 ^ 4000 := pow_mono (Nat.lt_of_le_of_lt k3.le (DM.Bd_lt (Nat.le_trans DM.card_le n4))) (by decide)
    have ho0 := s02.free ho
    refine ⟨_, rfl, wv, rfl, ⟨_, SqL.of (s3 _ _ hw)⟩, for_list (K := K) (a := wv) (xs := wl.map nv) (fun j σ H' => ∃ v5 : Option V, σ = [some (.ref p), some (nv m), some (nv i), some (.ref wv), some (.ref o), v5] ∧ Same H H' ∧ H' wv = some (.lst (wl.map nv)) ∧ H' o = some (.lst (nv 0 :: toldW wl.sum (wl.take j))))
      ⟨none, rfl, same_upd s02 ho0, s3 _ _ hw, upd_same⟩ (fun j σ H' _ ⟨_, _, _, z, _⟩ => SqL.of z) ?_ ?_⟩
    · rintro j y σ H3 hj ⟨v5, rfl, s4, hw4, ho4⟩
      obtain ⟨x, hx, rfl⟩ := of_nv hj
      have how : wv ≠ o := ne_of_none hw ho
      have jl : j < wl.length := (List.getElem?_eq_some_iff.mp hx).1
      have tl := toldW_len wl.sum (wl.take j)
      rw [List.length_take] at tl
      refine ⟨_, rfl, .inl ⟨rfl, _, SqL.of ho4⟩, _, rfl, _, rfl, wv, wl.map (fun (n : Nat) => (n : Int)), rfl, by rw [map_cast]; exact SqL.of hw4, ?_⟩
      rw [sum_cast]
      refine ⟨x, wl.sum, rfl, k3.rep.pos, hsb, fun H4 r s5 hr5 hr55 => ?_⟩
      refine ⟨o, r, _, _, rfl, rfl, s5 _ _ ho4, hr55, Nat.le_of_lt (small_len (by rw [List.length_cons]; simp; omega)), ?_⟩
      refine ⟨_, rfl, same_upd (s4.trans s5) ho0, ?_, ?_⟩
      · rw [upd_ne how]
        exact s5 _ _ hw4
      · rw [upd_same, take_snoc hx, toldW_snoc]
        rfl
    · rintro σ H3 ⟨v5, rfl, s4, hw4, ho4⟩
      rw [List.length_map, List.take_length] at ho4
      refine ⟨_, rfl, k H3 o s4 ho0 ?_⟩
      rw [ho4, toldW_eq k3.rep.pos, ← k3.rep.eq]
      rfl
end
end Du
set_option Elab.async false
set_option linter.all false
set_option maxRecDepth 100000
set_option maxHeartbeats 2000000
set_option exponentiation.threshold 5000
namespace Du
open PySem PySem.Spec PyProof.Rows L2
theorem boot_max : bootBuiltins "max" = some (.builtin "max") := by decide +kernel
theorem boot_list : bootBuiltins "list" = some (.type "list") := by decide +kernel
def okDuel (b : Nat) (l : List Nat) : Bool := !decide (l.length < 2 ∨ 4 < l.length ∨ b < 1 ∨ 60 < b ∨ l.any (fun a => decide (b < a)) = true)
def spIsDuel (K : PySem.W.Frag) : Sp := fun vs H Q _ => ∃ (a : Addr) (b : Nat) (hits : List Nat), vs = [nv b, .ref a] ∧ SqL K H a (hits.map nv) ∧ Q (.bl (okDuel b hits)) H
def spIsSet (C : Addr) : Sp := fun vs H Q _ => ∃ (p : Addr) (d : Uw86.Duel) (m : Nat), vs = [.ref p, nv m] ∧ DuelAt C H p d ∧ ∀ H' : Hp, Same H H' → Q (.bl (Uw86.isSet d m)) H'
def refN (d : Uw86.Duel) (m i : Nat) : Int := if Uw86.isSet d m = false then -1 else if Uw86.isIn m i = false then -2 else 0
def spRefusal (C : Addr) : Sp := fun vs H Q _ => ∃ (p : Addr) (d : Uw86.Duel) (m i : Nat), vs = [.ref p, nv m, nv i] ∧ DuelAt C H p d ∧ ∀ H' : Hp, Same H H' → Q (.int (refN d m i)) H'
theorem isSet_iff {d : Uw86.Duel} {m : Nat} : Uw86.isSet d m = true ↔ m < 2 ^ Uw86.count d ∧ 2 ≤ DM.Card (Uw86.count d) m := by
  unfold Uw86.isSet
  rw [Bool.and_eq_true, decide_eq_true_eq, decide_eq_true_eq]
  rfl
theorem inV_nv (x : Nat) (l : List Nat) : inV (nv x) (l.map nv) = decide (x ∈ l) := by
  unfold inV
  rw [List.any_map]
  have e : ∀ y : Nat, ((fun y => eqV y (nv x)) ∘ nv) y = decide (y = x) := by
    intro y
    show ((y : Int) == (x : Int)) = decide (y = x)
    by_cases h : y = x
    · subst h
      simp
    · rw [decide_eq_false h]
      simp
      omega
  rw [Bool.eq_iff_iff, List.any_eq_true, decide_eq_true_iff]
  constructor
  · rintro ⟨y, hy, h⟩
    rw [e] at h
    rw [← of_decide_eq_true h]
    exact hy
  · intro h
    exact ⟨x, h, by rw [e]; exact decide_eq_true rfl⟩
theorem flat_nv (l : List Nat) : (l.map nv).all flatV = true := by
  rw [List.all_eq_true]
  intro y hy
  obtain ⟨x, _, rfl⟩ := List.mem_map.mp hy
  rfl
section
variable {P : Program} {w : World} {K : PySem.W.Frag} {mg : Str → Option Value} {base : Heap} {C : Addr}
theorem sc_isDuel : FnScope ["below", "hits"] ["below", "hits"] (defScope sIsDuel) := ⟨rfl, rfl, rfl, by decide +kernel, rfl, by decide +kernel, by decide +kernel⟩
theorem ok_isDuel {f : Addr} {fd : FuncData} (A : Dfn K mg "is_duel" sIsDuel ["below", "hits"] f fd) (T : Txt K mg) : FnOk P w K mg base CX0 1 f fd ["below", "hits"] (spIsDuel K) := by
  refine A.F.ok sc_isDuel (fun vs H Q E h => ?_) (fun cdv A outer s H vs Q E hr h => ?_)
  · obtain ⟨a, b, hits, rfl, _⟩ := h
    rfl
  · obtain ⟨a, b, hits, rfl, ha, k⟩ := h
    refine ⟨_, pss_cons (ps_if (PW.pt (pw_or (pt_cmpR op_lt (pe_callB call_len_seq (by rfl) T.len PySem.boot_len (pa_cons (pv 1) pa_nil)) (pe_g T.few) (nomark _)) (pw_or1 (pt_cmpR op_gt (pe_callB call_len_seq (by rfl) T.len PySem.boot_len (pa_cons (pv 1) pa_nil)) (pe_g T.most) (nomark _)))))
        (pss_one (ps_ret pe_bl)) pss_nil)
      (pss_cons (ps_if (PW.pt (pw_or (pt_cmpR op_lt (pv 0) pe_int (nomark _)) (pw_or1 (pt_cmpR op_gt (pv 0) (pe_g T.below) (nomark _))))) (pss_one (ps_ret pe_bl)) pss_nil)
      (pss_one (ps_ret (pe_cmpR op_le (pe_callB (cr_max rfl) (by rfl) T.max boot_max (pa_cons (pv 1) pa_nil)) (pv 0) (nomark _))))), ?_⟩
    have hl : (hits.map nv).length = hits.length := List.length_map _
    have bad : (hits.length < 2 ∨ 4 < hits.length ∨ b < 1 ∨ 60 < b) → Q (.bl false) H := fun h => by
      have e : okDuel b hits = false := by
        unfold okDuel
        rw [decide_eq_true (by rcases h with h | h | h | h <;> simp [h])]
        rfl
      rw [← e]
      exact k
    refine ⟨_, rfl, a, _, rfl, .inl ha, _, _, rfl, rfl, _, rfl, ?_⟩
    rw [hl]
    by_cases h1 : hits.length < 2
    · refine ite2 (fun _ => iteT (bad (.inl h1))) (fun z => absurd (decide_eq_true (by omega)) z)
    refine ite2 (fun z => absurd (of_decide_eq_true z) (by omega)) (fun _ => ?_)
    refine ⟨_, rfl, a, _, rfl, .inl ha, _, _, rfl, rfl, _, rfl, ?_⟩
    rw [hl]
    by_cases h2 : 4 < hits.length
    · refine ite2 (fun _ => bad (.inr (.inl h2))) (fun z => absurd (decide_eq_true (by omega)) z)
    refine ite2 (fun z => absurd (of_decide_eq_true z) (by omega)) (fun _ => ?_)
    refine ⟨_, rfl, _, _, rfl, rfl, _, rfl, ?_⟩
    by_cases h3 : b < 1
    · refine ite2 (fun _ => iteT (bad (.inr (.inr (.inl h3))))) (fun z => absurd (decide_eq_true (by omega)) z)
    refine ite2 (fun z => absurd (of_decide_eq_true z) (by omega)) (fun _ => ?_)
    refine ⟨_, rfl, _, _, rfl, rfl, _, rfl, ?_⟩
    by_cases h4 : 60 < b
    · refine ite2 (fun _ => bad (.inr (.inr (.inr h4)))) (fun z => absurd (decide_eq_true (by omega)) z)
    refine ite2 (fun z => absurd (of_decide_eq_true z) (by omega)) (fun _ => ?_)
    refine ⟨_, rfl, a, hits.map (fun (n : Nat) => (n : Int)), rfl, by rw [map_cast]; exact ha, by rw [List.length_map]; omega, fun m hm hmax => ⟨_, rfl, _, _, rfl, rfl, ?_⟩⟩
    have e : okDuel b hits = decide (m ≤ (b : Int)) := by
      unfold okDuel
      by_cases hmb : m ≤ (b : Int)
      · rw [decide_eq_true hmb]
        have : ¬ (hits.length < 2 ∨ 4 < hits.length ∨ b < 1 ∨ 60 < b ∨ hits.any (fun a => decide (b < a)) = true) := by
          rintro (h | h | h | h | h)
          · omega
          · omega
          · omega
          · omega
          · obtain ⟨x, hx, hx2⟩ := List.any_eq_true.mp h
            have := hmax (x : Int) (List.mem_map.mpr ⟨x, hx, rfl⟩)
            have := of_decide_eq_true hx2
            omega
        rw [decide_eq_false this]
        rfl
      · rw [decide_eq_false hmb]
        obtain ⟨x, hx, rfl⟩ := List.mem_map.mp hm
        rw [decide_eq_true (.inr (.inr (.inr (.inr (List.any_eq_true.mpr ⟨x, hx, decide_eq_true (by omega)⟩)))))]
        rfl
    dsimp only
    rw [← e]
    exact k
theorem sc_isSet : FnScope ["duel", "group"] ["duel", "group"] (defScope sIsSet) := ⟨rfl, rfl, rfl, by decide +kernel, rfl, by decide +kernel, by decide +kernel⟩
theorem ok_isSet {f fM : Addr} {fd fdM : FuncData} (A : Dfn K mg "is_set" sIsSet ["duel", "group"] f fd) (T : Txt K mg) (TC : TCls K mg C) (AM : Dfn K mg "members" sMembers ["group"] fM fdM) : FnOk P w K mg base CX0 2 f fd ["duel", "group"] (spIsSet C) := by
  have GM : FnOk P w K mg base CX0 1 fM fdM ["group"] spMembers := ok_members AM T
  refine A.F.ok sc_isSet (fun vs H Q E h => ?_) (fun cdv A outer s H vs Q E hr h => ?_)
  · obtain ⟨p, d, m, rfl, _⟩ := h
    rfl
  · obtain ⟨p, d, m, rfl, ⟨ha, aa, D⟩, k⟩ := h
    obtain ⟨dx, hp⟩ := D.obj
    refine ⟨_, pss_one (ps_ret (pe_and (pe_cmpR op_lt (pv 1) (pe_op op_shl pe_int (pe_callB call_len_seq (by rfl) T.len PySem.boot_len (pa_cons (pe_fld (pv 0) rfl) pa_nil))) (nomark _))
      (pe_one (pe_cmpR op_ge (pe_callB call_len_seq (by rfl) T.len PySem.boot_len (pa_cons (pe_f AM GM hr (pa_cons (pv 1) pa_nil)) pa_nil)) pe_int (nomark _))))), ?_⟩
    have n4 := D.ok.n4
    have hl : (d.hits.map nv).length = Uw86.count d := List.length_map _
    refine ⟨_, rfl, _, rfl, p, C, dx, _, _, rfl, hp, TC.cl, TC.nH, df_h _ _ _, ha, _, rfl, .inl (SqL.of D.hits), _, _, rfl, rfl, ⟨by omega, by rw [hl]; omega, by decide⟩, _, _, rfl, rfl, _, rfl, ?_⟩
    have e2 : (1 : Int) * 2 ^ ((d.hits.map nv).length : Int).toNat = ((2 ^ Uw86.count d : Nat) : Int) := by
      rw [hl, Int.one_mul, Int.toNat_natCast, Int.natCast_pow]
      rfl
    rw [e2, lt_dec]
    by_cases hm : m < 2 ^ Uw86.count d
    · refine ite2 (fun _ => ?_) (fun z => absurd (decide_eq_true hm) z)
      refine ⟨_, rfl, m, rfl, fun H1 o s1 ho ho1 => ?_⟩
      rw [members4 D.ok.n2 D.ok.n4 hm] at ho1
      refine ⟨o, _, rfl, .inl (SqL.of ho1), _, _, rfl, rfl, ?_⟩
      have := k H1 s1
      unfold Uw86.isSet at this
      rw [decide_eq_true hm, Bool.true_and] at this
      have e3 : decide ((2 : Int) ≤ (((Uw86.members (Uw86.count d) m).map nv).length : Int)) = decide (2 ≤ (Uw86.members (Uw86.count d) m).length) := by
        rw [List.length_map]
        exact le_dec 2 _
      dsimp only
      rw [e3]
      exact this
    · refine ite2 (fun z => absurd (of_decide_eq_true z) hm) (fun _ => ?_)
      have := k H (same_refl H)
      unfold Uw86.isSet at this
      rw [decide_eq_false hm, Bool.false_and] at this
      exact this
theorem sc_refusal : FnScope ["duel", "group", "shot"] ["duel", "group", "shot"] (defScope sRefusal) := ⟨rfl, rfl, rfl, by decide +kernel, rfl, by decide +kernel, by decide +kernel⟩
theorem ok_refusal {f fM fS : Addr} {fd fdM fdS : FuncData} (A : Dfn K mg "refusal" sRefusal ["duel", "group", "shot"] f fd) (T : Txt K mg) (TC : TCls K mg C) (AM : Dfn K mg "members" sMembers ["group"] fM fdM) (AS : Dfn K mg "is_set" sIsSet ["duel", "group"] fS fdS) :
    FnOk P w K mg base CX0 3 f fd ["duel", "group", "shot"] (spRefusal C) := by
  have GM : FnOk P w K mg base CX0 1 fM fdM ["group"] spMembers := ok_members AM T
  have GS : FnOk P w K mg base CX0 2 fS fdS ["duel", "group"] (spIsSet C) := ok_isSet AS T TC AM
  refine A.F.ok sc_refusal (fun vs H Q E h => ?_) (fun cdv A outer s H vs Q E hr h => ?_)
  · obtain ⟨p, d, m, i, rfl, _⟩ := h
    rfl
  · obtain ⟨p, d, m, i, rfl, ⟨ha, aa, D⟩, k⟩ := h
    refine ⟨_, pss_cons (ps_if (pt_not (pt_val (pe_f AS GS hr (pa_cons (pv 0) (pa_cons (pv 1) pa_nil))))) (pss_one (ps_ret (pe_un un_neg pe_int))) pss_nil)
      (pss_cons (ps_if (pt_cmpR op_notIn_seq (pv 2) (pe_f AM GM hr (pa_cons (pv 1) pa_nil)) (by rfl)) (pss_one (ps_ret (pe_un un_neg pe_int))) pss_nil)
      (pss_one (ps_ret pe_int))), ?_⟩
    refine ⟨_, rfl, _, rfl, p, d, m, rfl, ⟨ha, aa, D⟩, fun H1 s1 => ⟨_, rfl, ?_⟩⟩
    have k1 := k H1 s1
    unfold refN at k1
    cases hs : Uw86.isSet d m with
    | false =>
      rw [if_pos hs] at k1
      exact iteT ⟨_, rfl, k1⟩
    | true =>
      refine iteF ?_
      obtain ⟨hm, hc⟩ := isSet_iff.mp hs
      refine ⟨_, rfl, _, rfl, m, rfl, fun H2 o s2 ho ho2 => ?_⟩
      rw [members4 D.ok.n2 D.ok.n4 hm] at ho2
      refine ⟨o, _, rfl, .inl (SqL.of ho2), rfl, flat_nv _, _, rfl, ?_⟩
      have k2 := k H2 (s1.trans s2)
      unfold refN at k2
      rw [if_neg (by rw [hs]; decide)] at k2
      rw [if_pos rfl, inV_nv]
      cases hi : Uw86.isIn m i with
      | false =>
        rw [if_pos hi] at k2
        have : decide (i ∈ Uw86.members (Uw86.count d) m) = false := decide_eq_false fun z => by
          rw [(DM.mem_members.mp z).2] at hi
          cases hi
        rw [this]
        exact iteT ⟨_, rfl, k2⟩
      | true =>
        rw [if_neg (by rw [hi]; decide)] at k2
        have : decide (i ∈ Uw86.members (Uw86.count d) m) = true := decide_eq_true (DM.mem_members.mpr ⟨DM.isIn_lt hm hi, hi⟩)
        rw [this]
        exact iteF k2
end
end Du
set_option Elab.async false
set_option linter.all false
set_option maxRecDepth 100000
set_option maxHeartbeats 2000000
set_option exponentiation.threshold 5000
namespace Du
open PySem PySem.Spec PyProof.Rows L2
/-! ### what an answer leaves -/
def lstLike : HO → Prop
  | .lst _ => True
  | .frz _ _ => True
  | _ => False
def KeepL (H H' : Hp) : Prop := ∀ b o, H b = some o → lstLike o → H' b = some o
theorem KeepL.of {H H' : Hp} (s : Same H H') : KeepL H H' := fun b o h _ => s b o h
theorem KeepL.trans {H H1 H2 : Hp} (a : KeepL H H1) (b : KeepL H1 H2) : KeepL H H2 := fun c o h l => b c o (a c o h l) l
theorem KeepL.seq {K : PySem.W.Frag} {H H' : Hp} {a : Addr} {xs : List V} (e : KeepL H H') (h : SqL K H a xs) : SqL K H' a xs := by
  rcases h with (h | ⟨o, h⟩) | h
  · exact .inl (.inl (e _ _ h trivial))
  · exact .inl (.inr ⟨o, e _ _ h trivial⟩)
  · exact .inr h
/-- the answer r of a call, from the duel at p whose hits stand at ha -/
def Ans (C : Addr) (H : Hp) (p ha : Addr) (r : Uw86.St × List Int) (Q : VK) : Prop := ∀ (H' : Hp) (q ha' aa' : Addr), KeepL H H' → DuelIs C H' p ha' aa' r.1 → (ha' = ha ∨ H ha' = none) → H q = none → H' q = some (.lst (r.2.map V.int)) → Q (.ref q) H'
def spADuel (C : Addr) : Sp := fun vs H Q _ => ∃ (p ha aa a : Addr) (d : Uw86.Duel) (b : Nat) (hits : List Nat), vs = [.ref p, nv b, .ref a] ∧ DuelIs C H p ha aa d ∧ H a = some (.lst (hits.map nv)) ∧ Ans C H p ha (Uw86.step d (.duel b hits)) Q
def spAAim (C : Addr) : Sp := fun vs H Q _ => ∃ (p ha aa : Addr) (d : Uw86.Duel) (m i t : Nat), vs = [.ref p, nv m, nv i, nv t] ∧ DuelIs C H p ha aa d ∧ Ans C H p ha (Uw86.step d (.aim m i t)) Q
def spAAims (C : Addr) : Sp := fun vs H Q _ => ∃ (p ha aa : Addr) (d : Uw86.Duel) (m : Nat), vs = [.ref p, nv m] ∧ DuelIs C H p ha aa d ∧ Ans C H p ha (Uw86.step d (.aims m)) Q
def spAAll (C : Addr) : Sp := fun vs H Q _ => ∃ (p ha aa : Addr) (d : Uw86.Duel) (i : Nat), vs = [.ref p, nv i] ∧ DuelIs C H p ha aa d ∧ Ans C H p ha (Uw86.step d (.all i)) Q
def spASet (C : Addr) : Sp := fun vs H Q _ => ∃ (p ha aa : Addr) (d : Uw86.Duel) (m i : Nat), vs = [.ref p, nv m, nv i] ∧ DuelIs C H p ha aa d ∧ Ans C H p ha (Uw86.step d (.set m i)) Q
def spInit (C : Addr) : Sp := fun vs H Q _ => ∃ (p dx : Addr), vs = [.ref p] ∧ H p = some (.ins C dx []) ∧ ∀ (H' : Hp) (ha aa : Addr), DuelIs C H' p ha aa Uw86.init → (∀ b o, H b = some o → b ≠ p → H' b = some o) → H ha = none → Q .non H'
theorem put_b (b b' : Nat) (ha aa : Addr) : putF "below" (nv b') (df b ha aa) = df b' ha aa := by
  unfold df putF
  rw [if_pos rfl]
theorem put_h (b : Nat) (ha aa ha' : Addr) : putF "hits" (.ref ha') (df b ha aa) = df b ha' aa := by
  unfold df
  rw [putF, if_neg (by decide +kernel), putF, if_pos rfl]
theorem put_a (b : Nat) (ha aa aa' : Addr) : putF "aims" (.ref aa') (df b ha aa) = df b ha aa' := by
  unfold df
  rw [putF, if_neg (by decide +kernel), putF, if_neg (by decide +kernel), putF, if_pos rfl]
theorem length_putK_in {κ : Type} [DecidableEq κ] {kvs : List (κ × V)} {k : κ} {x : V} (v : V) (h : valV kvs k = some x) : (putK kvs k v).length = kvs.length := by
  unfold putK
  rw [valV_any, h, Option.isSome_some, if_pos rfl, List.length_map]
/-- a refusal's list -/
theorem Ans.same {C : Addr} {H H' : Hp} {p ha aa q : Addr} {d : Uw86.Duel} {l : List Int} {Q : VK} (k : Ans C H p ha (d, l) Q) (D : DuelIs C H p ha aa d) (s : Same H H') (hq : H' q = none) : Q (.ref q) (upd H' q (.lst (l.map V.int))) :=
  k _ q ha aa (KeepL.of (same_upd s (s.free hq))) (D.mono (same_upd s (s.free hq))) (.inl rfl) (s.free hq) upd_same
section
variable {P : Program} {w : World} {K : PySem.W.Frag} {mg : Str → Option Value} {base : Heap} {C : Addr}
theorem sc_aduel : FnScope ["duel", "below", "hits"] ["duel", "below", "hits"] (defScope sADuel) := ⟨rfl, rfl, rfl, by decide +kernel, rfl, by decide +kernel, by decide +kernel⟩
theorem ok_aduel {f fI fF : Addr} {fd fdI fdF : FuncData} (A : Dfn K mg "answer_duel" sADuel ["duel", "below", "hits"] f fd) (T : Txt K mg) (TC : TCls K mg C) (AI : Dfn K mg "is_duel" sIsDuel ["below", "hits"] fI fdI)
    (AF : Dfn K mg "first_aims" sFirstAims ["hits"] fF fdF) (GF : FnOk P w K mg base CX0 2 fF fdF ["hits"] (spFirstAims K)) : FnOk P w K mg base CX0 3 f fd ["duel", "below", "hits"] (spADuel C) := by
  have GI : FnOk P w K mg base CX0 1 fI fdI ["below", "hits"] (spIsDuel K) := ok_isDuel AI T
  refine A.F.ok sc_aduel (fun vs H Q E h => ?_) (fun cdv A outer s H vs Q E hr h => ?_)
  · obtain ⟨p, ha, aa, a, d, b, hits, rfl, _⟩ := h
    rfl
  · obtain ⟨p, ha, aa, a, d, b, hits, rfl, D, hha, k⟩ := h
    obtain ⟨dx, hp⟩ := D.obj
    refine ⟨_, pss_cons (ps_if (pt_not (pt_val (pe_f AI GI hr (pa_cons (pv 1) (pa_cons (pv 2) pa_nil))))) (pss_one (ps_ret (pe_lst (pa_cons (pe_un un_neg pe_int) pa_nil)))) pss_nil)
      (pss_cons (ps_fld (pv 0) (pv 1) rfl)
      (pss_cons (ps_fld (pv 0) (pe_callTy call_list_of (by rfl) T.list boot_list (pa_cons (pv 2) pa_nil)) rfl)
      (pss_cons (ps_fld (pv 0) (pe_f AF GF hr (pa_cons (pv 2) pa_nil)) rfl)
      (pss_one (ps_ret (pe_lst (pa_cons (pe_callB call_len_seq (by rfl) T.len PySem.boot_len (pa_cons (pv 2) pa_nil)) pa_nil))))))), ?_⟩
    refine ⟨_, rfl, _, rfl, a, b, hits, rfl, SqL.of hha, _, rfl, ?_⟩
    have es : Uw86.step d (.duel b hits) = if hits.length < 2 ∨ 4 < hits.length ∨ b < 1 ∨ 60 < b ∨ hits.any (fun a => decide (b < a)) = true then (d, [-1]) else (Uw86.duel b hits, [(hits.length : Int)]) := rfl
    rw [es] at k
    cases ho : okDuel b hits with
    | false =>
      have hb : hits.length < 2 ∨ 4 < hits.length ∨ b < 1 ∨ 60 < b ∨ hits.any (fun a => decide (b < a)) = true := by
        unfold okDuel at ho
        rw [Bool.not_eq_false'] at ho
        exact of_decide_eq_true ho
      rw [if_pos hb] at k
      exact iteT ⟨_, rfl, line1, fun q hq => k.same D (same_refl H) hq⟩
    | true =>
      refine iteF ?_
      have hb : ¬ (hits.length < 2 ∨ 4 < hits.length ∨ b < 1 ∨ 60 < b ∨ hits.any (fun a => decide (b < a)) = true) := by
        unfold okDuel at ho
        rw [Bool.not_eq_true'] at ho
        exact of_decide_eq_false ho
      rw [if_neg hb] at k
      have l2 : 2 ≤ hits.length := by omega
      have l4 : hits.length ≤ 4 := by omega
      have hh : ∀ x ∈ hits, x ≤ b := fun x hx => by
        apply Classical.byContradiction
        intro z
        exact hb (.inr (.inr (.inr (.inr (List.any_eq_true.mpr ⟨x, hx, decide_eq_true (by omega)⟩)))))
      have hap : a ≠ p := ne_of hha hp (by intro z; cases z)
      refine ⟨_, rfl, _, rfl, p, C, dx, _, rfl, hp, TC.cl, TC.nB, (by show 3 < 1000; decide), ?_⟩
      have e1 : putF "below" (nv b) (df d.b ha aa) = df b ha aa := put_b _ _ _ _
      rw [e1]
      refine ⟨_, rfl, a, _, rfl, .inl (SqL.of (by rw [upd_ne hap]; exact hha)), fun h1 hh1 => ?_⟩
      have h1p : p ≠ h1 := ne_of_none upd_same hh1
      have h1n : H h1 = none := by
        rw [upd_ne (Ne.symm h1p)] at hh1
        exact hh1
      refine ⟨_, rfl, p, C, dx, _, rfl, by rw [upd_ne h1p]; exact upd_same, TC.cl, TC.nH, (by show 3 < 1000; decide), ?_⟩
      have e2 : putF "hits" (.ref h1) (df b ha aa) = df b h1 aa := put_h _ _ _ _
      rw [e2]
      generalize hH2 : upd (upd (upd H p (.ins C dx (df b ha aa))) h1 (.lst (hits.map nv))) p (.ins C dx (df b h1 aa)) = H2
      have ha2 : H2 a = some (.lst (hits.map nv)) := by
        rw [← hH2, upd_ne hap, upd_ne (ne_of_none hha h1n), upd_ne hap]
        exact hha
      have h12 : H2 h1 = some (.lst (hits.map nv)) := by
        rw [← hH2, upd_ne (Ne.symm h1p), upd_same]
      have hp2 : H2 p = some (.ins C dx (df b h1 aa)) := by
        rw [← hH2, upd_same]
      have keep2 : ∀ b' o, H b' = some o → b' ≠ p → H2 b' = some o := fun b' o e ne => by
        rw [← hH2, upd_ne ne, upd_ne (ne_of_none e h1n), upd_ne ne]
        exact e
      have free2 : ∀ {q : Addr}, H2 q = none → H q = none := fun {q} e => by
        cases z : H q with
        | none => rfl
        | some o =>
          by_cases ne : q = p
          · rw [ne, hp2] at e
            cases e
          · rw [keep2 _ _ z ne] at e
            cases e
      refine ⟨_, rfl, a, hits, rfl, SqL.of ha2, l2, l4, fun H3 a3 kvs s3 ha3 ha33 hA => ?_⟩
      refine ⟨_, rfl, p, C, dx, _, rfl, s3 _ _ hp2, TC.cl, TC.nA, (by show 3 < 1000; decide), ?_⟩
      have e3 : putF "aims" (.ref a3) (df b h1 aa) = df b h1 a3 := put_a _ _ _ _
      rw [e3]
      have p3 := s3 _ _ hp2
      have nap : a ≠ p := hap
      refine ⟨_, rfl, a, _, rfl, .inl (SqL.of (by rw [upd_ne hap]; exact s3 _ _ ha2)), line1, fun q hq => ?_⟩
      have qp : p ≠ q := ne_of_none upd_same hq
      have hq3 : H3 q = none := by
        rw [upd_ne (Ne.symm qp)] at hq
        exact hq
      have hq0 : H q = none := free2 (s3.free hq3)
      have h1q : h1 ≠ q := ne_of_none (s3 _ _ h12) hq3
      have a3q : a3 ≠ q := ne_of_none ha33 hq3
      have a3p : a3 ≠ p := ne_of ha33 p3 (by intro z; cases z)
      refine k _ q h1 a3 ?_ ⟨DM.DOk_duel l2 l4 (by omega) (by omega) hh, ⟨dx, ?_⟩, ?_, kvs, ?_, hA.len, hA.keys, fun m i hm hc hi => ?_⟩ (.inr h1n) hq0 ?_
      · intro b' o e l
        have ne : b' ≠ p := fun z => by
          rw [z, hp] at e
          cases e
          exact l
        rw [upd_ne (ne_of_none e hq0), upd_ne ne]
        exact s3 _ _ (keep2 _ _ e ne)
      · rw [upd_ne qp, upd_same]
        rfl
      · rw [upd_ne h1q, upd_ne (Ne.symm h1p)]
        exact s3 _ _ h12
      · rw [upd_ne a3q, upd_ne a3p]
        exact ha33
      · have := hA.at_ m i hm hc hi
        have e := DM.aimOf_first (b := b) (hits := hits) hm (DM.isIn_lt (n := hits.length) hm hi)
        rw [if_pos ⟨hi, hc⟩] at e
        show _ = some (nv (Uw86.aimOf (Uw86.duel b hits) m i))
        rw [this, e]
      · rw [upd_same, List.length_map]
        rfl
theorem sc_aset : FnScope ["duel", "group", "first", "refused"] ["duel", "group", "first"] (defScope sASet) := ⟨rfl, rfl, rfl, by decide +kernel, rfl, by decide +kernel, by decide +kernel⟩
theorem ok_aset {f fR fT : Addr} {fd fdR fdT : FuncData} (A : Dfn K mg "answer_set" sASet ["duel", "group", "first"] f fd) (AR : Dfn K mg "refusal" sRefusal ["duel", "group", "shot"] fR fdR) (GR : FnOk P w K mg base CX0 3 fR fdR ["duel", "group", "shot"] (spRefusal C))
    (AT : Dfn K mg "told_chances" sTold ["duel", "group", "first"] fT fdT) (GT : FnOk P w K mg base CX0 7 fT fdT ["duel", "group", "first"] (spTold C)) : FnOk P w K mg base CX0 8 f fd ["duel", "group", "first"] (spASet C) := by
  refine A.F.ok sc_aset (fun vs H Q E h => ?_) (fun cdv A outer s H vs Q E hr h => ?_)
  · obtain ⟨p, ha, aa, d, m, i, rfl, _⟩ := h
    rfl
  · obtain ⟨p, ha, aa, d, m, i, rfl, D, k⟩ := h
    refine ⟨_, pss_cons (ps_set (i := 3) sc_aset.nd rfl (Or.inl rfl) (pe_f AR GR hr (pa_cons (pv 0) (pa_cons (pv 1) (pa_cons (pv 2) pa_nil)))))
      (pss_cons (ps_if (pt_cmpR op_lt (pv 3) pe_int (nomark _)) (pss_one (ps_ret (pe_lst (pa_cons (pv 3) pa_nil)))) pss_nil)
      (pss_one (ps_ret (pe_f AT GT hr (pa_cons (pv 0) (pa_cons (pv 1) (pa_cons (pv 2) pa_nil))))))), ?_⟩
    refine ⟨_, rfl, _, rfl, _, rfl, p, d, m, i, rfl, ⟨ha, aa, D⟩, fun H1 s1 => ⟨_, rfl, _, _, rfl, rfl, _, rfl, ?_⟩⟩
    have es : Uw86.step d (.set m i) = (d, if Uw86.isSet d m = false then [-1] else if Uw86.isIn m i = false then [-2] else 0 :: Uw86.told (Uw86.chancesOf d m i)) := rfl
    rw [es] at k
    unfold refN
    cases hs : Uw86.isSet d m with
    | false =>
      rw [if_pos hs] at k
      rw [if_pos rfl]
      exact iteT ⟨_, rfl, line1, fun q hq => k.same D s1 hq⟩
    | true =>
      rw [if_neg (by rw [hs]; decide)] at k
      rw [if_neg (by decide)]
      obtain ⟨hm, hc⟩ := isSet_iff.mp hs
      cases hi : Uw86.isIn m i with
      | false =>
        rw [if_pos hi] at k
        rw [if_pos rfl]
        exact iteT ⟨_, rfl, line1, fun q hq => k.same D s1 hq⟩
      | true =>
        rw [if_neg (by rw [hi]; decide)] at k
        rw [if_neg (by decide)]
        refine iteF ⟨_, rfl, _, rfl, _, rfl, p, d, m, i, rfl, ⟨ha, aa, D.mono s1⟩, hm, hi, fun H2 q s2 hq hq2 => ?_⟩
        exact k H2 q ha aa (KeepL.of (s1.trans s2)) (D.mono (s1.trans s2)) (.inl rfl) (s1.free hq) hq2
theorem sc_aall : FnScope ["duel", "first", "shots"] ["duel", "first"] (defScope sAAll) := ⟨rfl, rfl, rfl, by decide +kernel, rfl, by decide +kernel, by decide +kernel⟩
theorem all_in {n i : Nat} (h2 : 2 ≤ n) (h4 : n ≤ 4) (hi : i < n) : Uw86.isIn (2 ^ n - 1) i = true := by
  rcases DM.n_cases h2 h4 with rfl | rfl | rfl
  · have : ∀ i, i < 2 → Uw86.isIn (2 ^ 2 - 1) i = true := by decide
    exact this i hi
  · have : ∀ i, i < 3 → Uw86.isIn (2 ^ 3 - 1) i = true := by decide
    exact this i hi
  · have : ∀ i, i < 4 → Uw86.isIn (2 ^ 4 - 1) i = true := by decide
    exact this i hi
theorem ok_aall {f fT : Addr} {fd fdT : FuncData} (A : Dfn K mg "answer_all" sAAll ["duel", "first"] f fd) (T : Txt K mg) (TC : TCls K mg C) (AT : Dfn K mg "told_chances" sTold ["duel", "group", "first"] fT fdT) (GT : FnOk P w K mg base CX0 7 fT fdT ["duel", "group", "first"] (spTold C)) :
    FnOk P w K mg base CX0 8 f fd ["duel", "first"] (spAAll C) := by
  refine A.F.ok sc_aall (fun vs H Q E h => ?_) (fun cdv A outer s H vs Q E hr h => ?_)
  · obtain ⟨p, ha, aa, d, i, rfl, _⟩ := h
    rfl
  · obtain ⟨p, ha, aa, d, i, rfl, D, k⟩ := h
    obtain ⟨dx, hp⟩ := D.obj
    have n2 := D.ok.n2
    have n4 := D.ok.n4
    refine ⟨_, pss_cons (ps_set (i := 2) sc_aall.nd rfl (Or.inl rfl) (pe_callB call_len_seq (by rfl) T.len PySem.boot_len (pa_cons (pe_fld (pv 0) rfl) pa_nil)))
      (pss_cons (ps_if (pt_cmpR op_ge (pv 1) (pv 2) (nomark _)) (pss_one (ps_ret (pe_lst (pa_cons (pe_un un_neg pe_int) pa_nil)))) pss_nil)
      (pss_one (ps_ret (pe_f AT GT hr (pa_cons (pv 0) (pa_cons (pe_op op_sub (pe_op op_shl pe_int (pv 2)) pe_int) (pa_cons (pv 1) pa_nil))))))), ?_⟩
    refine ⟨_, rfl, p, C, dx, _, _, rfl, hp, TC.cl, TC.nH, df_h _ _ _, ha, _, rfl, .inl (SqL.of D.hits), _, rfl, _, rfl, _, _, rfl, rfl, _, rfl, ?_⟩
    have hl : (d.hits.map nv).length = Uw86.count d := List.length_map _
    have es : Uw86.step d (.all i) = (d, if Uw86.count d ≤ i then [-2] else 0 :: Uw86.told (Uw86.chancesOf d (2 ^ Uw86.count d - 1) i)) := rfl
    rw [es] at k
    rw [hl, le_dec]
    by_cases hi : Uw86.count d ≤ i
    · rw [if_pos hi] at k
      exact ite2 (fun _ => ⟨_, rfl, line1, fun q hq => k.same D (same_refl H) hq⟩) (fun z => absurd (decide_eq_true hi) z)
    · rw [if_neg hi] at k
      refine ite2 (fun z => absurd (of_decide_eq_true z) hi) (fun _ => ?_)
      have p2 : 1 ≤ 2 ^ Uw86.count d := Nat.pow_pos (by decide)
      refine ⟨_, rfl, _, rfl, _, _, rfl, rfl, ⟨by omega, by omega, by decide⟩, _, _, rfl, rfl, _, rfl, p, d, 2 ^ Uw86.count d - 1, i, ?_, ⟨ha, aa, D⟩, by omega, all_in n2 n4 (by omega), fun H2 q s2 hq hq2 => ?_⟩
      · have e2 : (1 : Int) * 2 ^ ((Uw86.count d : Nat) : Int).toNat - 1 = ((2 ^ Uw86.count d - 1 : Nat) : Int) := by
          rw [Int.one_mul, Int.toNat_natCast]
          have : ((2 ^ Uw86.count d : Nat) : Int) = (2 : Int) ^ Uw86.count d := by
            rw [Int.natCast_pow]
            rfl
          rw [← this]
          omega
        dsimp only
        rw [e2]
        rfl
      · exact k H2 q ha aa (KeepL.of s2) (D.mono s2) (.inl rfl) hq hq2
end
end Du
set_option Elab.async false
set_option linter.all false
set_option maxRecDepth 100000
set_option maxHeartbeats 2000000
set_option exponentiation.threshold 5000
namespace Du
open PySem PySem.Spec PyProof.Rows L2
theorem nv_lt_zero (z : Int) (h : 0 ≤ z) : ¬ (decide (z < 0) = true) := fun q => absurd (of_decide_eq_true q) (by omega)
section
variable {P : Program} {w : World} {K : PySem.W.Frag} {mg : Str → Option Value} {base : Heap} {C : Addr}
theorem sc_aaim : FnScope ["duel", "group", "shot", "to", "refused", "nobody", "before"] ["duel", "group", "shot", "to"] (defScope sAAim) := ⟨rfl, rfl, rfl, by decide +kernel, rfl, by decide +kernel, by decide +kernel⟩
theorem ok_aaim {f fR fM : Addr} {fd fdR fdM : FuncData} (A : Dfn K mg "answer_aim" sAAim ["duel", "group", "shot", "to"] f fd) (T : Txt K mg) (TC : TCls K mg C) (AR : Dfn K mg "refusal" sRefusal ["duel", "group", "shot"] fR fdR) (GR : FnOk P w K mg base CX0 3 fR fdR ["duel", "group", "shot"] (spRefusal C))
    (AM : Dfn K mg "members" sMembers ["group"] fM fdM) : FnOk P w K mg base CX0 4 f fd ["duel", "group", "shot", "to"] (spAAim C) := by
  have GM : FnOk P w K mg base CX0 1 fM fdM ["group"] spMembers := ok_members AM T
  refine A.F.ok sc_aaim (fun vs H Q E h => ?_) (fun cdv A outer s H vs Q E hr h => ?_)
  · obtain ⟨p, ha, aa, d, m, i, t, rfl, _⟩ := h
    rfl
  · obtain ⟨p, ha, aa, d, m, i, t, rfl, D, k⟩ := h
    have hu := hu_of hr
    obtain ⟨dx, hp⟩ := D.obj
    obtain ⟨akv, haa, hA⟩ := D.aims
    refine ⟨_, pss_cons (ps_set (i := 4) sc_aaim.nd rfl (Or.inl rfl) (pe_f AR GR hr (pa_cons (pv 0) (pa_cons (pv 1) (pa_cons (pv 2) pa_nil)))))
      (pss_cons (ps_if (pt_cmpR op_lt (pv 4) pe_int (nomark _)) (pss_one (ps_ret (pe_lst (pa_cons (pv 4) pa_nil)))) pss_nil)
      (pss_cons (ps_set (i := 5) sc_aaim.nd rfl (Or.inl rfl) (pe_callB call_len_seq (by rfl) T.len PySem.boot_len (pa_cons (pe_fld (pv 0) rfl) pa_nil)))
      (pss_cons (ps_if (PW.pt (pw_or (pt_cmpR op_eq (pv 3) (pv 2) (nomark _)) (pw_or1 (PW.pt (pw_and (pt_cmpR op_ne (pv 3) (pv 5) (nomark _)) (pw_and1 (pt_cmpR op_notIn_seq (pv 3) (pe_f AM GM hr (pa_cons (pv 1) pa_nil)) (by rfl))))))))
        (pss_one (ps_ret (pe_lst (pa_cons (pe_un un_neg pe_int) pa_nil)))) pss_nil)
      (pss_cons (ps_set (i := 6) sc_aaim.nd rfl (Or.inl rfl) (pe_dget hu (pe_fld (pv 0) rfl) (pe_tup (pa_cons (pv 1) (pa_cons (pv 2) pa_nil))) (fun _ _ => rfl)))
      (pss_cons (ps_dput hu (pe_fld (pv 0) rfl) (pe_tup (pa_cons (pv 1) (pa_cons (pv 2) pa_nil))) (pv 3) rfl)
      (pss_one (ps_ret (pe_lst (pa_cons (pv 6) pa_nil))))))))), ?_⟩
    refine ⟨_, rfl, _, rfl, _, rfl, p, d, m, i, rfl, ⟨ha, aa, D⟩, fun H1 s1 => ⟨_, rfl, _, _, rfl, rfl, _, rfl, ?_⟩⟩
    have es : Uw86.step d (.aim m i t) = if Uw86.isSet d m = false then (d, [-1]) else if Uw86.isIn m i = false then (d, [-2]) else if (Uw86.mayAim d m i).contains t = false then (d, [-3]) else (Uw86.withAim d m i t, [(Uw86.aimOf d m i : Int)]) := rfl
    rw [es] at k
    unfold refN
    cases hs : Uw86.isSet d m with
    | false =>
      rw [if_pos hs] at k
      rw [if_pos rfl]
      exact iteT ⟨_, rfl, line1, fun q hq => k.same D s1 hq⟩
    | true =>
      rw [if_neg (by rw [hs]; decide)] at k
      rw [if_neg (by decide)]
      obtain ⟨hm, hc⟩ := isSet_iff.mp hs
      cases hi : Uw86.isIn m i with
      | false =>
        rw [if_pos hi] at k
        rw [if_pos rfl]
        exact iteT ⟨_, rfl, line1, fun q hq => k.same D s1 hq⟩
      | true =>
        rw [if_neg (by rw [hi]; decide)] at k
        rw [if_neg (by decide)]
        refine iteF ?_
        have hi' := DM.isIn_lt hm hi
        have hl : V.int ((d.hits.map nv).length : Int) = nv (Uw86.count d) := by
          rw [List.length_map]
          rfl
        refine ⟨_, rfl, p, C, dx, _, _, rfl, s1 _ _ hp, TC.cl, TC.nH, df_h _ _ _, ha, _, rfl, .inl (SqL.of (s1 _ _ D.hits)), ?_⟩
        rw [hl]
        have may : ∀ {H2 : Hp}, Same H H2 → t ∈ Uw86.mayAim d m i → tSeq (tAsg (tDGet (tFld K (tVar 0) "aims") (tTup (tCons (tVar 1) (tCons (tVar 2) tNil)))) (gName 6)) (tSeq (sDPut (tFld K (tVar 0) "aims") (tTup (tCons (tVar 1) (tCons (tVar 2) tNil))) (tVar 3)) (tRet (tLst (tCons (tVar 6) tNil))))
            { nx := fun _ H' => Q .non H', rt := Q } [some (.ref p), some (nv m), some (nv i), some (nv t), some (.int 0), some (nv (Uw86.count d)), none] H2 := by
          intro H2 s2 ht
          have hcon : (Uw86.mayAim d m i).contains t = true := by
            rw [List.contains_iff_mem]
            exact ht
          rw [if_neg (by rw [hcon]; decide)] at k
          have hav := hA.at_ m i hm hc hi
          refine ⟨_, rfl, p, C, dx, _, _, rfl, s2 _ _ hp, TC.cl, TC.nA, df_a _ _ _, _, rfl, _, rfl, line2, fun t1 ht1 => ?_⟩
          have s3 : Same H (upd H2 t1 (.tup [nv m, nv i])) := s2.trans (same_new ht1)
          refine ⟨aa, _, rfl, by rw [← hav]; exact DGet.t (k := key m i) (s3 _ _ haa) upd_same, ?_⟩
          refine ⟨_, rfl, _, rfl, p, C, dx, _, _, rfl, s3 _ _ hp, TC.cl, TC.nA, df_a _ _ _, _, rfl, _, rfl, line2, fun t2 ht2 => ?_⟩
          have s4 : Same H (upd (upd H2 t1 (.tup [nv m, nv i])) t2 (.tup [nv m, nv i])) := s3.trans (same_new ht2)
          refine ⟨aa, _, rfl, DPut.t (k := key m i) (s4 _ _ haa) upd_same (small_len (Nat.le_trans hA.len (by decide))), ?_⟩
          refine ⟨_, rfl, line1, fun q hq => ?_⟩
          generalize hH4 : upd (upd H2 t1 (.tup [nv m, nv i])) t2 (.tup [nv m, nv i]) = H4 at *
          have haq : aa ≠ q := ne_of_none upd_same hq
          have hq4 : H4 q = none := by
            rw [upd_ne (Ne.symm haq)] at hq
            exact hq
          have hq0 := s4.free hq4
          have keep : ∀ b o, H b = some o → b ≠ aa → (upd (upd H4 aa (.dT (putK akv (key m i) (nv t)))) q (.lst [nv (Uw86.aimOf d m i)])) b = some o := fun b o e ne => by
            rw [upd_ne (ne_of_none e hq0), upd_ne ne]
            exact s4 _ _ e
          refine k _ q ha aa (fun b o e l => keep b o e fun z => ?_) ⟨DM.DOk_with D.ok hm hi ht, ⟨dx, keep _ _ hp (ne_of hp haa (by intro z; cases z))⟩, keep _ _ D.hits (ne_of D.hits haa (by intro z; cases z)), _, by rw [upd_ne haq]; exact upd_same, ?_, ?_, fun m' i' h1 h2 h3 => ?_⟩ (.inl rfl) hq0 ?_
          · rw [z, haa] at e
            cases e
            exact l
          · rw [length_putK_in _ hav]
            exact hA.len
          · rw [keys_in _ (by rw [hA.keys]; exact mem_keyL.mpr ⟨m, i, hm, hc, DM.mem_members.mpr ⟨hi', hi⟩, rfl⟩)]
            exact hA.keys
          · show valV (putK akv (key m i) (nv t)) (key m' i') = some (nv (Uw86.aimOf (Uw86.withAim d m i t) m' i'))
            rw [valV_put, DM.aimOf_with D.ok hm hi']
            by_cases e : m' = m ∧ i' = i
            · rw [if_pos (key_inj.mpr e), if_pos e]
            · rw [if_neg (fun z => e (key_inj.mp z)), if_neg e]
              exact hA.at_ m' i' h1 h2 h3
          · rw [upd_same]
            rfl
        have no : ∀ {H2 : Hp} {q : Addr}, Same H H2 → t ∉ Uw86.mayAim d m i → H2 q = none → Q (.ref q) (upd H2 q (.lst [.int (-3)])) := by
          intro H2 q s2 ht hq
          have hcon : (Uw86.mayAim d m i).contains t = false := by
            cases z : (Uw86.mayAim d m i).contains t with
            | false => rfl
            | true => exact absurd (List.contains_iff_mem.mp z) ht
          rw [if_pos hcon] at k
          exact k.same D s2 hq
        refine ⟨_, rfl, _, rfl, rfl, _, rfl, ?_⟩
        rw [eq_nv]
        by_cases h1 : t = i
        · refine ite2 (fun _ => iteT ⟨_, rfl, line1, fun q hq => no s1 (fun z => ?_) hq⟩) (fun z => absurd (decide_eq_true h1) z)
          rcases DM.mem_may.mp z with z | ⟨_, _, z⟩
          · omega
          · exact z h1
        · refine ite2 (fun z => absurd (of_decide_eq_true z) h1) (fun _ => ?_)
          refine ⟨_, rfl, _, rfl, rfl, _, rfl, ?_⟩
          rw [ne_nv]
          by_cases h2 : t = Uw86.count d
          · have e0 : (t != Uw86.count d) = false := by
              rw [h2]
              simp
            rw [e0]
            refine iteF (iteF ?_)
            exact may s1 (DM.mem_may.mpr (.inl h2))
          · have e0 : (t != Uw86.count d) = true := by simp [h2]
            rw [e0]
            refine iteT ⟨_, rfl, _, rfl, m, rfl, fun H2 o s2 ho ho2 => ?_⟩
            rw [members4 D.ok.n2 D.ok.n4 hm] at ho2
            refine ⟨o, _, rfl, .inl (SqL.of ho2), rfl, flat_nv _, _, rfl, ?_⟩
            rw [if_pos rfl, inV_nv]
            by_cases h3 : t ∈ Uw86.members (Uw86.count d) m
            · rw [decide_eq_true h3]
              refine iteF ?_
              obtain ⟨h4, h5⟩ := DM.mem_members.mp h3
              exact may (s1.trans s2) (DM.mem_may.mpr (.inr ⟨h4, h5, h1⟩))
            · rw [decide_eq_false h3]
              refine iteT ⟨_, rfl, line1, fun q hq => no (s1.trans s2) (fun z => ?_) hq⟩
              rcases DM.mem_may.mp z with z | ⟨z1, z2, _⟩
              · exact h2 z
              · exact h3 (DM.mem_members.mpr ⟨z1, z2⟩)
theorem sc_aaims : FnScope ["duel", "group", "inside", "shot"] ["duel", "group"] (defScope sAAims) := ⟨rfl, rfl, rfl, by decide +kernel, rfl, by decide +kernel, by decide +kernel⟩
theorem ok_aaims {f fS fM : Addr} {fd fdS fdM : FuncData} (A : Dfn K mg "answer_aims" sAAims ["duel", "group"] f fd) (T : Txt K mg) (TC : TCls K mg C) (AS : Dfn K mg "is_set" sIsSet ["duel", "group"] fS fdS) (AM : Dfn K mg "members" sMembers ["group"] fM fdM) :
    FnOk P w K mg base CX0 3 f fd ["duel", "group"] (spAAims C) := by
  have GM : FnOk P w K mg base CX0 1 fM fdM ["group"] spMembers := ok_members AM T
  have GS : FnOk P w K mg base CX0 2 fS fdS ["duel", "group"] (spIsSet C) := ok_isSet AS T TC AM
  refine A.F.ok sc_aaims (fun vs H Q E h => ?_) (fun cdv A outer s H vs Q E hr h => ?_)
  · obtain ⟨p, ha, aa, d, m, rfl, _⟩ := h
    rfl
  · obtain ⟨p, ha, aa, d, m, rfl, D, k⟩ := h
    have hu := hu_of hr
    obtain ⟨dx, hp⟩ := D.obj
    obtain ⟨akv, haa, hA⟩ := D.aims
    refine ⟨_, pss_cons (ps_if (pt_not (pt_val (pe_f AS GS hr (pa_cons (pv 0) (pa_cons (pv 1) pa_nil))))) (pss_one (ps_ret (pe_lst (pa_cons (pe_un un_neg pe_int) pa_nil)))) pss_nil)
      (pss_cons (ps_set (i := 2) sc_aaims.nd rfl (Or.inl rfl) (pe_f AM GM hr (pa_cons (pv 1) pa_nil)))
      (pss_one (ps_ret (pe_op op_cat (pe_lst (pa_cons (pe_callB call_len_seq (by rfl) T.len PySem.boot_len (pa_cons (pv 2) pa_nil)) pa_nil))
        (pe_lc (own := [("shot", 3)]) (te := tDGet (tFld K (tVar 0) "aims") (tTup (tCons (tVar 1) (tCons (tVar 3) tNil)))) rfl sc_aaims.nd (pi_list (pv 2)) (blkOk_by (by rfl)) (fun _ _ _ _ _ => pg_name (i := 3) sc_aaims.nd rfl (Or.inl rfl)) (fun _ _ _ _ _ => pts_nil)
          (fun _ _ _ _ _ => pe_dget hu (pe_fld (pv 0) rfl) (pe_tup (pa_cons (pv 1) (pa_cons (pv 3) pa_nil))) (fun _ _ => rfl))))))), ?_⟩
    refine ⟨_, rfl, _, rfl, p, d, m, rfl, ⟨ha, aa, D⟩, fun H1 s1 => ⟨_, rfl, ?_⟩⟩
    have es : Uw86.step d (.aims m) = (d, if Uw86.isSet d m = false then [-1] else Uw86.ints ((Uw86.members (Uw86.count d) m).length :: (Uw86.members (Uw86.count d) m).map (Uw86.aimOf d m))) := rfl
    rw [es] at k
    cases hs : Uw86.isSet d m with
    | false =>
      rw [if_pos hs] at k
      exact iteT ⟨_, rfl, line1, fun q hq => k.same D s1 hq⟩
    | true =>
      rw [if_neg (by rw [hs]; decide)] at k
      refine iteF ?_
      obtain ⟨hm, hc⟩ := isSet_iff.mp hs
      refine ⟨_, rfl, m, rfl, fun H2 o s2 ho ho2 => ?_⟩
      rw [members4 D.ok.n2 D.ok.n4 hm] at ho2
      have s02 := s1.trans s2
      refine ⟨_, rfl, o, _, rfl, .inl (SqL.of ho2), line1, fun l hl => ?_⟩
      have s3 : Same H2 (upd H2 l (.lst [V.int (((Uw86.members (Uw86.count d) m).map nv).length : Int)])) := same_new hl
      have hl3 : (upd H2 l (.lst [V.int (((Uw86.members (Uw86.count d) m).map nv).length : Int)])) l = some (.lst [V.int (((Uw86.members (Uw86.count d) m).map nv).length : Int)]) := upd_same
      generalize upd H2 l (.lst [V.int (((Uw86.members (Uw86.count d) m).map nv).length : Int)]) = H3 at *
      have ml : (Uw86.members (Uw86.count d) m).length ≤ 4 := Nat.le_trans DM.card_le D.ok.n4
      refine ⟨_, rfl, o, rfl, ⟨_, SqL.of (s3 _ _ ho2)⟩, fun Dl hD => lc_list (K := K) (a := o) (xs := (Uw86.members (Uw86.count d) m).map nv) (fun j H' => Same H3 H' ∧ H' Dl = some (.lst (((Uw86.members (Uw86.count d) m).take j).map fun i => nv (Uw86.aimOf d m i))))
        ⟨same_new hD, upd_same⟩ (fun i H' _ ⟨z, _⟩ => SqL.of (z _ _ (s3 _ _ ho2))) ?_ ?_⟩
      · rintro j y H4 hj ⟨s4, hD4⟩
        obtain ⟨x, hx, rfl⟩ := of_nv hj
        have hxi := (DM.mem_members.mp (List.mem_of_getElem? hx)).2
        have hav := hA.at_ m x hm hc hxi
        have s04 := (s02.trans s3).trans s4
        refine ⟨rfl, ?_⟩
        dsimp only [tYes]
        rw [if_pos rfl]
        refine ⟨_, rfl, p, C, dx, _, _, rfl, s04 _ _ hp, TC.cl, TC.nA, df_a _ _ _, _, rfl, _, rfl, line2, fun t ht => ?_⟩
        have s5 := same_new (o := .tup [nv m, nv x]) ht
        refine ⟨aa, _, rfl, by rw [← hav]; exact DGet.t (k := key m x) (s5 _ _ (s04 _ _ haa)) upd_same, _, s5 _ _ hD4, ?_, same_upd (s4.trans s5) hD, ?_⟩
        · rw [List.length_map]
          exact small_len (Nat.le_trans (List.length_take_le' _ _) (by omega))
        · rw [upd_same, take_snoc hx, List.map_append]
          rfl
      · rintro H4 ⟨s4, hD4⟩
        rw [List.length_map, List.take_length] at hD4
        refine ⟨l, Dl, _, _, rfl, rfl, s4 _ _ hl3, hD4, ?_, fun q hq => ?_⟩
        · have e : (((Uw86.members (Uw86.count d) m).map fun i => nv (Uw86.aimOf d m i)).length) = (Uw86.members (Uw86.count d) m).length := List.length_map _
          exact Nat.le_of_lt (small_len (by show 1 + (((Uw86.members (Uw86.count d) m).map fun i => nv (Uw86.aimOf d m i)).length) ≤ 100; omega))
        · have s04 := (s02.trans s3).trans s4
          refine k _ q ha aa (KeepL.of (same_upd s04 (s04.free hq))) (D.mono (same_upd s04 (s04.free hq))) (.inl rfl) (s04.free hq) ?_
          rw [upd_same, List.length_map]
          unfold Uw86.ints
          rw [List.map_cons, List.map_cons, List.map_map, List.map_map]
          rfl
end
end Du
set_option Elab.async false
set_option linter.all false
set_option maxRecDepth 100000
set_option maxHeartbeats 2000000
set_option exponentiation.threshold 5000
namespace Du
open PySem PySem.Spec PyProof.Rows L2
/-! ### a written table of the module -/
structure Tab (K : PySem.W.Frag) (a : Addr) (es : List (Int × Int)) : Prop where
  ex : ∃ (ds : Array DictEntry) (ep : Nat), K.lookup a = some { cls := .type "dict", data := .dict ds ep } ∧ Paired (fun (p : Int × Int) (e : DictEntry) => e.hash = hashInt p.1 ∧ (∃ t, e.key = .int p.1 t) ∧ ∃ u, e.val = .int p.2 u) es ds.toList ∧ (es.map (·.1)).Nodup
def tTab (es : List (Int × Int)) (ti : TE) : TE := fun σ H Q => ti σ H fun y H1 => ∃ k v, y = .int k ∧ es.lookup k = some v ∧ Q (.int v) H1
theorem tab_pairs {P : Program} {w : World} : ∀ {es : List (Int × Int)} {ds : List DictEntry}, Paired (fun (p : Int × Int) (e : DictEntry) => e.hash = hashInt p.1 ∧ (∃ t, e.key = .int p.1 t) ∧ ∃ u, e.val = .int p.2 u) es ds →
    ∃ vs : List (Key × Value), Pairs (mixKind P w) ds vs ∧ vs.map (·.1) = es.map (fun p => (Sum.inl p.1 : Key)) ∧ (∀ e ∈ ds, ∃ k, (mixKind P w).is k e.key = true ∧ e.hash = (mixKind P w).hash k) ∧ ∀ k v, es.lookup k = some v → ∃ u, valueAt vs (Sum.inl k : Key) = some (.int v u)
  | _, _, .nil => ⟨[], .nil, rfl, fun e h => by simp at h, fun k v h => by simp at h⟩
  | (a, b) :: es, e :: ds, .cons ⟨h1, ⟨t, h2⟩, ⟨u, h3⟩⟩ r => by
    obtain ⟨vs, q1, q2, q3, q4⟩ := tab_pairs (P := P) (w := w) r
    have isk : (mixKind P w).is (Sum.inl a) e.key = true := by
      rw [h2]
      exact keyIs_int a t
    refine ⟨(Sum.inl a, .int b u) :: vs, .cons isk h3 q1, by rw [List.map_cons, List.map_cons, q2], fun e' he => ?_, fun k v h => ?_⟩
    · rcases List.mem_cons.mp he with rfl | he
      · exact ⟨Sum.inl a, isk, h1⟩
      · exact q3 e' he
    · unfold valueAt
      rw [List.lookup_cons] at h
      by_cases hk : k = a
      · subst hk
        rw [beq_self_eq_true] at h
        have : v = b := by simpa using h.symm
        subst this
        exact ⟨u, by simp⟩
      · have hb : (k == a) = false := beq_eq_false_iff_ne.mpr hk
        rw [hb] at h
        obtain ⟨u', hu⟩ := q4 k v h
        refine ⟨u', ?_⟩
        have hne : ¬ ((Sum.inl a : Key) = Sum.inl k) := fun z => hk (Sum.inl.inj z).symm
        unfold valueAt at hu
        simp only [List.find?_cons, decide_eq_false hne]
        exact hu
theorem pe_tab {X : Cx} {x : Str} {a : Addr} {es : List (Int × Int)} {i : Expr} {ti : TE} {p pos : Pos} (g : X.mg x = some (.ref a)) (tab : Tab X.K a es) (hi : PE X i ti) (hs : NoSl i := by intro _ _; rfl) (hg : Gl X x := by rfl) (hd : (x == ("__debug__" : Str)) = false := by decide) :
    PE X (.Subscript (.Name x p) i pos) (tTab es ti) := by
  intro pins s σ H Q I h
  refine subD_of PySem.F.slot_dict_getitem.lookup hs (ld_glob I hg g ?_ hd)
  refine thn (hi pins s σ H _ I h) fun iv s2 ⟨y, H2, I2, ry, k, v, ey, hl, q2⟩ => ?_
  subst ey
  obtain ⟨ds, ep, lk, pr, nd⟩ := tab.ex
  obtain ⟨vs, q1, q3, q4, q5⟩ := tab_pairs (P := X.prog) (w := X.w) pr
  obtain ⟨u, hu⟩ := q5 k v hl
  have hget := I2.kIn a _ lk
  have dd : s2.heap.DictOf (mixKind X.prog X.w) a vs := by
    refine ⟨_, ds, ep, hget, ⟨rfl, rfl, rfl⟩, rfl, fun e he => q4 e (by simpa using he), q1, ?_⟩
    rw [q3]
    have e : es.map (fun p => (Sum.inl p.1 : Key)) = (es.map (·.1)).map Sum.inl := by rw [List.map_map]; rfl
    rw [e]
    exact List.Pairwise.map _ (fun a b hab z => hab (Sum.inl.inj z)) nd
  obtain ⟨t, rfl⟩ := ry
  exact ⟨dd.typeIs, wpAny_getItem_of (keyIs_int k t) dd.mapOf hu ⟨.int v, H2, I2.tok _, ⟨u, rfl⟩, q2⟩⟩
/-! ### the first duel -/
def f1 : List (Str × V) := [("below", nv 1)]
def f2 (h : Addr) : List (Str × V) := [("below", nv 1), ("hits", .ref h)]
section
variable {P : Program} {w : World} {K : PySem.W.Frag} {mg : Str → Option Value} {base : Heap} {C : Addr}
theorem sc_init : FnScope ["self"] ["self"] (defScope sInit) := ⟨rfl, rfl, rfl, by decide +kernel, rfl, by decide +kernel, by decide +kernel⟩
theorem ok_init {f fF : Addr} {fd fdF : FuncData} (F : Fun K "__init__" "Duel.__init__" sInit f fd) (T : Txt K mg) (TC : TCls K mg C) (AF : Dfn K mg "first_aims" sFirstAims ["hits"] fF fdF) (GF : FnOk P w K mg base CX0 2 fF fdF ["hits"] (spFirstAims K)) :
    FnOk P w K mg base CX0 3 f fd ["self"] (spInit C) := by
  refine F.ok sc_init (fun vs H Q E h => ?_) (fun cdv A outer s H vs Q E hr h => ?_)
  · obtain ⟨p, dx, rfl, _⟩ := h
    rfl
  · obtain ⟨p, dx, rfl, hp, k⟩ := h
    refine ⟨_, pss_cons (ps_fld (pv 0) pe_int rfl) (pss_cons (ps_fld (pv 0) (pe_lst (pa_cons pe_int (pa_cons pe_int pa_nil))) rfl) (pss_one (ps_fld (pv 0) (pe_f AF GF hr (pa_cons (pe_fld (pv 0) rfl) pa_nil)) rfl))), ?_⟩
    refine ⟨_, rfl, p, C, dx, [], rfl, hp, TC.cl, TC.nB, (by show 0 < 1000; decide), ?_⟩
    have e1 : putF "below" (V.int 1) [] = f1 := rfl
    rw [e1]
    refine ⟨line2, fun h1 hh1 => ?_⟩
    have h1p : p ≠ h1 := ne_of_none upd_same hh1
    have h1n : H h1 = none := by
      rw [upd_ne (Ne.symm h1p)] at hh1
      exact hh1
    refine ⟨_, rfl, p, C, dx, _, rfl, by rw [upd_ne h1p]; exact upd_same, TC.cl, TC.nH, (by show 1 < 1000; decide), ?_⟩
    have e2 : putF "hits" (V.ref h1) f1 = f2 h1 := by
      unfold f1
      rw [putF, if_neg (by decide +kernel), putF]
      rfl
    rw [e2]
    generalize hH2 : upd (upd (upd H p (.ins C dx f1)) h1 (.lst [V.int 1, V.int 1])) p (.ins C dx (f2 h1)) = H2
    have h12 : H2 h1 = some (.lst (([1, 1] : List Nat).map nv)) := by
      rw [← hH2, upd_ne (Ne.symm h1p), upd_same]
      rfl
    have hp2 : H2 p = some (.ins C dx (f2 h1)) := by
      rw [← hH2, upd_same]
    have keep2 : ∀ b' o, H b' = some o → b' ≠ p → H2 b' = some o := fun b' o e ne => by
      rw [← hH2, upd_ne ne, upd_ne (ne_of_none e h1n), upd_ne ne]
      exact e
    have lk : (f2 h1).lookup ("hits" : Str) = some (.ref h1) := by
      unfold f2
      rw [List.lookup_cons, show (("hits" : Str) == "below") = false by decide +kernel]
      rfl
    refine ⟨_, rfl, p, C, dx, _, _, rfl, hp2, TC.cl, TC.nH, lk, h1, [1, 1], rfl, SqL.of h12, by decide, by decide, fun H3 a3 kvs s3 ha3 ha33 hA => ?_⟩
    have p3 := s3 _ _ hp2
    refine ⟨_, rfl, p, C, dx, _, rfl, p3, TC.cl, TC.nA, (by show 2 < 1000; decide), ?_⟩
    have e3 : putF "aims" (V.ref a3) (f2 h1) = df 1 h1 a3 := by
      unfold f2
      rw [putF, if_neg (by decide +kernel), putF, if_neg (by decide +kernel), putF]
      rfl
    rw [e3]
    have a3p : a3 ≠ p := ne_of ha33 p3 (by intro z; cases z)
    refine k _ h1 a3 ⟨DM.DOk_init, ⟨dx, upd_same⟩, ?_, kvs, ?_, hA.len, hA.keys, fun m i hm hc hi => ?_⟩ (fun b o e ne => ?_) h1n
    · rw [upd_ne (Ne.symm h1p)]
      exact s3 _ _ h12
    · rw [upd_ne a3p]
      exact ha33
    · have := hA.at_ m i hm hc hi
      have e := DM.aimOf_first (b := 1) (hits := [1, 1]) hm (DM.isIn_lt (n := ([1, 1] : List Nat).length) hm hi)
      rw [if_pos ⟨hi, hc⟩] at e
      show _ = some (nv (Uw86.aimOf (Uw86.duel 1 [1, 1]) m i))
      rw [this, e]
    · rw [upd_ne ne]
      exact s3 _ _ (keep2 _ _ e ne)
end
end Du
set_option Elab.async false
set_option linter.all false
set_option maxRecDepth 100000
set_option maxHeartbeats 2000000
set_option exponentiation.threshold 5000
namespace Du
open PySem PySem.Spec PyProof.Rows L2
/-! ### the calls, one behind another -/
theorem callAt_split {l t : List Int} {k : Uw86.Call} (h : DM.CallAt l k t) : ∃ f, l = f ++ t ∧ DM.CallAt f k [] ∧ 0 < f.length := by
  cases h with
  | @duel b hits t hb hh hl =>
    refine ⟨0 :: b :: (hits.length : Int) :: hits, rfl, ?_, by simp⟩
    have := DM.CallAt.duel (t := []) hb hh hl
    rw [List.append_nil] at this
    exact this
  | aim hs hi ha => exact ⟨[_, _, _, _], rfl, .aim hs hi ha, by simp⟩
  | aims hs => exact ⟨[_, _], rfl, .aims hs, by simp⟩
  | all hi => exact ⟨[_, _], rfl, .all hi, by simp⟩
  | set hs hi => exact ⟨[_, _, _], rfl, .set hs hi, by simp⟩
  | best hs hi => exact ⟨[_, _, _], rfl, .best hs hi, by simp⟩
  | better => exact ⟨[_], rfl, .better, by simp⟩
  | improve hk => exact ⟨[_, _], rfl, .improve hk, by simp⟩
  | air => exact ⟨[_], rfl, .air, by simp⟩
def spLen (K : PySem.W.Frag) : Sp := fun vs H Q _ => ∃ (a : Addr) (l f t : List Int) (st : Nat) (k : Uw86.Call), vs = [.ref a, nv st] ∧ SqL K H a (l.map V.int) ∧ l.drop st = f ++ t ∧ DM.CallAt f k [] ∧ Q (nv f.length) H
def spCall (C : Addr) : Sp := fun vs H Q _ => ∃ (p ha aa a : Addr) (d : Uw86.Duel) (f : List Int) (k : Uw86.Call), vs = [.ref p, .ref a] ∧ DuelIs C H p ha aa d ∧ H a = some (.lst (f.map V.int)) ∧ DM.CallAt f k [] ∧ Ans C H p ha (Uw86.step d k) Q
def spAns (K : PySem.W.Frag) : Sp := fun vs H Q _ => ∃ (a : Addr) (ns : List Int), vs = [.ref a] ∧ SqL K H a (ns.map V.int) ∧ ns.length ≤ 2000 ∧ PyUw86.answers_asked ns = true ∧ ∀ (H' : Hp) (p : Addr), H' p = some (.lst ((PyUw86.answers ns).map V.int)) → Q (.ref p) H'
/-! ### how long an answer is -/
theorem chances_len (d : Uw86.Duel) : ∀ (f m i : Nat), (Uw86.chances d f m i).length ≤ Uw86.count d + 1
  | 0, m, i => by
    show ([] : List Uw86.Frac).length ≤ _
    simp
  | f + 1, m, i => by
    unfold Uw86.chances
    dsimp only
    split
    · simp
    · split
      · simp
      · simp
theorem told_len (l : List Uw86.Frac) : (Uw86.told l).length = 2 * l.length := by
  unfold Uw86.told
  induction l with
  | nil => rfl
  | cons a l ih =>
    rw [List.flatMap_cons, List.length_append, ih]
    simp [Uw86.ints]
    omega
theorem may_len (d : Uw86.Duel) (m i : Nat) : (Uw86.mayAim d m i).length ≤ Uw86.count d + 1 := by
  unfold Uw86.mayAim
  rw [List.length_append]
  have := List.length_filter_le (fun j => j != i) (Uw86.members (Uw86.count d) m)
  have h2 := DM.card_le (n := Uw86.count d) (m := m)
  unfold DM.Card at h2
  simp
  omega
theorem step_len {d : Uw86.Duel} (D : DM.DOk d) (k : Uw86.Call) : (Uw86.step d k).2.length ≤ 20 := by
  have n4 := D.n4
  cases k with
  | duel b l =>
    show (if l.length < 2 ∨ 4 < l.length ∨ b < 1 ∨ 60 < b ∨ l.any (fun a => decide (b < a)) = true then (d, [-1]) else (Uw86.duel b l, [(l.length : Int)])).2.length ≤ 20
    split <;> simp
  | aim m i a =>
    show (if Uw86.isSet d m = false then (d, [-1]) else if Uw86.isIn m i = false then (d, [-2]) else if (Uw86.mayAim d m i).contains a = false then (d, [-3]) else (Uw86.withAim d m i a, [(Uw86.aimOf d m i : Int)])).2.length ≤ 20
    split
    · simp
    · split
      · simp
      · split <;> simp
  | aims m =>
    show (if Uw86.isSet d m = false then [-1] else Uw86.ints ((Uw86.members (Uw86.count d) m).length :: (Uw86.members (Uw86.count d) m).map (Uw86.aimOf d m))).length ≤ 20
    have h2 := DM.card_le (n := Uw86.count d) (m := m)
    unfold DM.Card at h2
    split
    · simp
    · simp [Uw86.ints]
      omega
  | all i =>
    show (if Uw86.count d ≤ i then [-2] else 0 :: Uw86.told (Uw86.chancesOf d (2 ^ Uw86.count d - 1) i)).length ≤ 20
    have := chances_len d (Uw86.count d + 1) (2 ^ Uw86.count d - 1) i
    split
    · simp
    · rw [List.length_cons, told_len]
      unfold Uw86.chancesOf
      omega
  | set m i =>
    show (if Uw86.isSet d m = false then [-1] else if Uw86.isIn m i = false then [-2] else 0 :: Uw86.told (Uw86.chancesOf d m i)).length ≤ 20
    have := chances_len d (Uw86.count d + 1) m i
    split
    · simp
    · split
      · simp
      · rw [List.length_cons, told_len]
        unfold Uw86.chancesOf
        omega
  | best m i =>
    show (if Uw86.isSet d m = false then [-1] else if Uw86.isIn m i = false then [-2] else Uw86.ints ((Uw86.best d m i).1.length :: (Uw86.best d m i).1) ++ Uw86.told [(Uw86.best d m i).2]).length ≤ 20
    have h1 : (Uw86.best d m i).1.length ≤ Uw86.count d + 1 := by
      unfold Uw86.best
      dsimp only
      rw [List.length_map]
      refine Nat.le_trans (List.length_filter_le _ _) ?_
      rw [List.length_map]
      exact may_len d m i
    split
    · simp
    · split
      · simp
      · rw [List.length_append, told_len]
        simp [Uw86.ints]
        omega
  | better =>
    show (match Uw86.better d with | none => [0] | some x => Uw86.ints [1, x.1, x.2.1, x.2.2]).length ≤ 20
    split <;> simp [Uw86.ints]
  | improve k =>
    show (if 30 < k then (d, [-1]) else ((Uw86.improved k d).2, Uw86.ints [(Uw86.improved k d).1, if (Uw86.better (Uw86.improved k d).2).isSome = true then 1 else 0])).2.length ≤ 20
    split <;> simp [Uw86.ints]
  | air =>
    show [_].length ≤ 20
    simp
/-! the state stays as it may be -/
theorem better_may {d : Uw86.Duel} {x : Nat × Nat × Nat} (h : Uw86.better d = some x) : x.1 < 2 ^ Uw86.count d ∧ 2 ≤ DM.Card (Uw86.count d) x.1 ∧ Uw86.isIn x.1 x.2.1 = true ∧ x.2.2 ∈ Uw86.mayAim d x.1 x.2.1 := by
  unfold Uw86.better at h
  obtain ⟨m, hm, h⟩ := List.exists_of_findSome?_eq_some h
  obtain ⟨i, hi, h⟩ := List.exists_of_findSome?_eq_some h
  obtain ⟨a, ha, rfl⟩ := Option.map_eq_some_iff.mp h
  unfold Uw86.sets at hm
  rw [List.mem_filter, List.mem_range, decide_eq_true_eq] at hm
  exact ⟨hm.1, hm.2, (DM.mem_members.mp hi).2, List.mem_of_find?_eq_some ha⟩
theorem improved_ok : ∀ (k : Nat) {d : Uw86.Duel}, DM.DOk d → DM.DOk (Uw86.improved k d).2
  | 0, d, D => D
  | k + 1, d, D => by
    unfold Uw86.improved
    cases h : Uw86.better d with
    | none => exact D
    | some x =>
      obtain ⟨h1, h2, h3, h4⟩ := better_may h
      exact improved_ok k (DM.DOk_with D h1 h3 h4)
theorem KeepL.upd {H H' : Hp} {o : Addr} {u : HO} (k : KeepL H H') (h : H o = none) : KeepL H (L2.upd H' o u) := fun b x e l => by
  rw [upd_ne (ne_of_none e h)]
  exact k b x e l
theorem DuelIs.upd {C : Addr} {H : Hp} {p ha aa o : Addr} {d : Uw86.Duel} {xs : List V} {u : HO} (D : DuelIs C H p ha aa d) (ho : H o = some (.lst xs)) (hne : ha ≠ o) : DuelIs C (L2.upd H o u) p ha aa d := by
  obtain ⟨x, ⟨dx, h1⟩, h2, kvs, h3, h4⟩ := D
  refine ⟨x, ⟨dx, ?_⟩, ?_, kvs, ?_, h4⟩
  · rw [upd_ne (ne_of h1 ho (by intro z; cases z))]
    exact h1
  · rw [upd_ne hne]
    exact h2
  · rw [upd_ne (ne_of h3 ho (by intro z; cases z))]
    exact h3
theorem cut_mid {l f t : List Int} {st : Nat} (h : l.drop st = f ++ t) (hf : 0 < f.length) : cutV (l.map V.int) (some (st : Int)) (some ((st : Int) + (f.length : Int))) = f.map V.int := by
  have hl : st + f.length + t.length = l.length := by
    have := congrArg List.length h
    rw [List.length_drop, List.length_append] at this
    omega
  unfold cutV
  have e1 : HT.sIx (l.map V.int).length 0 (some (st : Int)) = st := by
    rw [List.length_map, HT.sIx_nat]
    omega
  have e2 : HT.sIx (l.map V.int).length (l.map V.int).length (some ((st : Int) + (f.length : Int))) = st + f.length := by
    have e : (st : Int) + (f.length : Int) = ((st + f.length : Nat) : Int) := by omega
    rw [List.length_map, e, HT.sIx_nat]
    omega
  rw [e1, e2, ← List.map_drop, h, Nat.add_sub_cancel_left, ← List.map_take, List.take_left']
  rfl
theorem parsed_cons {l : List Int} {ks : List Uw86.Call} (h : DM.Parsed l ks) (hl : 0 < l.length) : ∃ f t k ks', l = f ++ t ∧ DM.CallAt f k [] ∧ 0 < f.length ∧ ks = k :: ks' ∧ DM.Parsed t ks' := by
  cases h with
  | nil => simp at hl
  | cons a b =>
    obtain ⟨f, h1, h2, h3⟩ := callAt_split a
    exact ⟨f, _, _, _, h1, h2, h3, rfl, b⟩
theorem step_ok {d : Uw86.Duel} (D : DM.DOk d) {C : Addr} {H : Hp} {p ha aa : Addr} {k : Uw86.Call} (h : DuelIs C H p ha aa (Uw86.step d k).1) : DM.DOk (Uw86.step d k).1 := h.ok
def muAns (n : Nat) (σ : List (Option V)) (_ : Hp) : Nat := n - intAt (σ[3]?)
section
variable {P : Program} {w : World} {K : PySem.W.Frag} {mg : Str → Option Value} {base : Heap} {C : Addr}
theorem sc_ans : FnScope ["calls", "duel", "told", "start", "end", "answer"] ["calls"] (defScope sAnswers) := ⟨rfl, rfl, rfl, by decide +kernel, rfl, by decide +kernel, by decide +kernel⟩
theorem ok_ans {f fI fL fC : Addr} {fd fdI fdL fdC : FuncData} {kk : Nat} (A : Dfn K mg "answers" sAnswers ["calls"] f fd) (T : Txt K mg) (TC : TCls K mg C) (M : Mk K C fI) (bI : Binds K fdI ["self"] []) (GI : FnOk P w K mg base CX0 3 fI fdI ["self"] (spInit C))
    (AL : Dfn K mg "call_length" sLen ["calls", "start"] fL fdL) (GL : FnOk P w K mg base CX0 1 fL fdL ["calls", "start"] (spLen K)) (AC : Dfn K mg "answer_call" sCall ["duel", "call"] fC fdC) (GC : FnOk P w K mg base CX0 (kk + 4) fC fdC ["duel", "call"] (spCall C)) :
    FnOk P w K mg base CX0 (kk + 5) f fd ["calls"] (spAns K) := by
  refine A.F.ok sc_ans (fun vs H Q E h => ?_) (fun cdv A outer s H vs Q E hr h => ?_)
  · obtain ⟨a, ns, rfl, _⟩ := h
    rfl
  · obtain ⟨a, ns, rfl, hS, hlen, hask, k⟩ := h
    obtain ⟨ks0, hparse, hk40, hans⟩ := DM.asked_runs hask
    rw [hans] at k
    have hr4 : Room 4 _ := hr.mono (by omega)
    refine ⟨_, pss_cons (ps_set (i := 1) sc_ans.nd rfl (Or.inl rfl) (pe_make0 M GI hr4 rfl TC.mgC bI .nil pass0))
      (pss_cons (ps_set (i := 2) sc_ans.nd rfl (Or.inl rfl) (pe_lst pa_nil))
      (pss_cons (ps_set (i := 3) sc_ans.nd rfl (Or.inl rfl) pe_int)
      (pss_cons (ps_while PassesOwn.never (pt_cmpR op_lt (pv 3) (pe_callB call_len_seq (by rfl) T.len PySem.boot_len (pa_cons (pv 0) pa_nil)) (nomark _))
        (pss_cons (ps_set (i := 4) sc_ans.nd rfl (Or.inl rfl) (pe_op op_add (pv 3) (pe_f AL GL hr (pa_cons (pv 0) (pa_cons (pv 3) pa_nil)) (by omega))))
        (pss_cons (ps_set (i := 5) sc_ans.nd rfl (Or.inl rfl) (pe_f AC GC hr (pa_cons (pv 1) (pa_cons (pe_slice sl_list (pv 0) (po_some (pv 3)) (po_some (pv 4))) pa_nil)) (Nat.le_refl _)))
        (pss_cons (ps_expr (pe_bm PySem.F.plainAttrs_list PySem.F.slot_list_append PySem.F.type_list_append mt_append (pv 2) (pa_cons (pe_callB call_len_seq (by rfl) T.len PySem.boot_len (pa_cons (pv 5) pa_nil)) pa_nil)))
        (pss_cons (ps_expr (pe_bm PySem.F.plainAttrs_list PySem.F.slot_list_extend PySem.F.type_list_extend mt_extend (pv 2) (pa_cons (pv 5) pa_nil)))
        (pss_one (ps_set (i := 3) sc_ans.nd rfl (Or.inl rfl) (pv 4))))))))
      (pss_one (ps_ret (pv 2)))))), ?_⟩
    intro p dx np nd ne
    refine ⟨p, dx, rfl, upd_same, fun H1 ha aa D keep hn => ⟨rfl, ?_⟩⟩
    refine ⟨Nat.zero_le _, fun o ho => ?_⟩
    have keep1 : ∀ b x, H b = some x → H1 b = some x := fun b x e => keep b x (by rw [upd_ne (ne_of_none e np), upd_ne (ne_of_none e nd)]; exact e) (ne_of_none e np)
    have ho0 : H o = none := by
      cases z : H o with
      | none => rfl
      | some x =>
        rw [keep1 _ _ z] at ho
        cases ho
    have kl1 : KeepL H (upd H1 o (.lst [])) := KeepL.upd (fun b x e _ => keep1 b x e) ho0
    have hao : ha ≠ o := ne_of_none D.hits ho
    refine while_by (fun σ H' => ∃ (st : Nat) (ks : List Uw86.Call) (d : Uw86.Duel) (ha aa : Addr) (Tl : List Int) (v4 v5 : Option V), σ = [some (.ref a), some (.ref p), some (.ref o), some (nv st), v4, v5] ∧ st ≤ ns.length ∧ DM.Parsed (ns.drop st) ks ∧ Tl ++ DM.runs d ks = DM.runs Uw86.init ks0 ∧
        Tl.length + 21 * ks.length ≤ 21 * ks0.length ∧ KeepL H H' ∧ DuelIs C H' p ha aa d ∧ ha ≠ o ∧ H' o = some (.lst (Tl.map V.int))) (muAns ns.length)
      ⟨0, ks0, Uw86.init, ha, aa, [], none, none, rfl, Nat.zero_le _, by rw [List.drop_zero]; exact hparse, rfl, by simp, kl1, D.mono (same_new ho), hao, upd_same⟩ ?_ ?_
    · rintro σ H2 ⟨st, ks, d, ha, aa, Tl, v4, v5, rfl, hst, hP, hrun, hTl, kl, D2, hao2, ho2⟩
      have hS2 := kl.seq hS
      refine ⟨_, rfl, _, rfl, a, _, rfl, .inl hS2, _, _, rfl, rfl, _, rfl, ?_⟩
      rw [List.length_map, lt_dec]
      by_cases hlt : st < ns.length
      · refine ite2 (fun _ => ?_) (fun z => absurd (decide_eq_true hlt) z)
        obtain ⟨fr, t, c, ks', hd, hc, hf0, rfl, hP'⟩ := parsed_cons hP (by rw [List.length_drop]; omega)
        have hfl : st + fr.length + t.length = ns.length := by
          have := congrArg List.length hd
          rw [List.length_drop, List.length_append] at this
          omega
        refine ⟨_, rfl, _, rfl, _, rfl, a, ns, fr, t, st, c, rfl, hS2, hd, hc, _, _, rfl, rfl, ?_⟩
        refine ⟨_, rfl, _, rfl, _, rfl, _, rfl, _, rfl, _, rfl, a, _, rfl, hS2, fun q hq => ?_⟩
        rw [cut_mid hd hf0]
        have s3 : Same H2 (upd H2 q (.lst (fr.map V.int))) := same_new hq
        refine ⟨p, ha, aa, q, d, fr, c, rfl, D2.mono s3, upd_same, hc, fun H3 r ha' aa' kl3 D3 hor hr hr3 => ?_⟩
        have ho3 : (upd H2 q (.lst (fr.map V.int))) o = some (.lst (Tl.map V.int)) := s3 _ _ ho2
        have ho33 := kl3 _ _ ho3 trivial
        have hro : r ≠ o := fun z => by
          rw [z, ho3] at hr
          cases hr
        have hao3 : ha' ≠ o := by
          rcases hor with z | z
          · rw [z]
            exact hao2
          · intro y
            rw [y, ho3] at z
            cases z
        have sl := step_len D2.ok c
        have hk' : ks'.length + 1 ≤ 40 := by
          rw [List.length_cons] at hTl
          have : Tl.length + 21 * (ks'.length + 1) ≤ 21 * ks0.length := hTl
          omega
        have hTs : Tl.length ≤ 840 := by omega
        refine ⟨_, rfl, .inl ⟨rfl, _, SqL.of ho33⟩, _, rfl, r, _, rfl, .inl (SqL.of hr3), o, _, _, rfl, rfl, ho33, ?_, ?_⟩
        · rw [List.length_map]
          exact Nat.lt_of_le_of_lt hTs (by decide)
        refine ⟨_, rfl, .inl ⟨rfl, _, SqL.of upd_same⟩, _, rfl, o, r, _, _, rfl, rfl, upd_same, by rw [upd_ne hro]; exact hr3, ?_, ?_⟩
        · rw [List.length_append, List.length_map, List.length_map]
          exact Nat.le_trans (show Tl.length + 1 + (Uw86.step d c).2.length ≤ 1000 by omega) (by decide)
        refine ⟨_, rfl, ⟨st + fr.length, ks', (Uw86.step d c).1, ha', aa', Tl ++ ((Uw86.step d c).2.length : Int) :: (Uw86.step d c).2, _, _, rfl, by omega, ?_, ?_, ?_, ?_, ?_, hao3, ?_⟩, ?_⟩
        · rw [← List.drop_drop, hd, List.drop_left']
          · exact hP'
          · rfl
        · rw [← hrun, List.append_assoc]
          rfl
        · rw [List.length_append, List.length_cons]
          rw [List.length_cons] at hTl
          omega
        · exact KeepL.upd (KeepL.upd ((kl.trans (KeepL.of s3)).trans kl3) ho0) ho0
        · exact DuelIs.upd (DuelIs.upd D3 ho33 hao3) upd_same hao3
        · rw [upd_same, List.map_append, List.length_map, List.map_cons, List.append_assoc]
          rfl
        · show ns.length - (st + fr.length) < ns.length - st
          omega
      · refine ite2 (fun z => absurd (of_decide_eq_true z) hlt) (fun _ => ?_)
        have e0 : ns.drop st = [] := List.drop_eq_nil_of_le (by omega)
        rw [e0] at hP
        cases hP with
        | nil =>
          have er : Tl = DM.runs Uw86.init ks0 := by
            rw [← hrun]
            show Tl = Tl ++ []
            rw [List.append_nil]
          rw [er] at ho2
          exact ⟨_, rfl, k H2 o ho2⟩
        | cons a b =>
          obtain ⟨f, h1, _, h3⟩ := callAt_split a
          have : f = [] := (List.append_eq_nil_iff.mp h1.symm).1
          rw [this] at h3
          simp at h3
    · rintro σ H' R R' mono ⟨v, e, v2, e2, a2, ys, e3, hs, i, j, e4, e5, kb, e6, q⟩
      exact ⟨v, e, v2, e2, a2, ys, e3, hs, i, j, e4, e5, kb, e6, mono _ _ q⟩
end
end Du
set_option Elab.async false
set_option linter.all false
set_option maxRecDepth 100000
set_option maxHeartbeats 2000000
set_option exponentiation.threshold 5000
namespace Du
open PySem PySem.Spec PyProof.Rows L2
/-! ### better aims -/
def spMay (C : Addr) : Sp := fun vs H Q _ => ∃ (p : Addr) (d : Uw86.Duel) (m i : Nat), vs = [.ref p, nv m, nv i] ∧ DuelAt C H p d ∧ m < 2 ^ Uw86.count d ∧ NewL H Q ((Uw86.mayAim d m i).map nv)
/-- a greater chance, by weights -/
def moreW (i : Nat) (ws bs : List Nat) : Bool := decide (bs.getD i 0 * ws.sum < ws.getD i 0 * bs.sum)
def spDoes : Sp := fun vs H Q _ => ∃ (i : Nat) (a b : Addr) (ws bs : List Nat), vs = [nv i, .ref a, .ref b] ∧ H a = some (.lst (ws.map nv)) ∧ H b = some (.lst (bs.map nv)) ∧ i < ws.length ∧ i < bs.length ∧ ws.sum < 2 ^ 2000 ∧ bs.sum < 2 ^ 2000 ∧ Q (.bl (moreW i ws bs)) H
def betterL (d : Uw86.Duel) (m i : Nat) : List Nat := (Uw86.mayAim d m i).filter fun a => Uw86.less ((Uw86.chancesOf d m i).getD i Uw86.zero) (Uw86.gain d m i a)
def spBAims (C : Addr) : Sp := fun vs H Q _ => ∃ (p a : Addr) (d : Uw86.Duel) (m i M N : Nat), vs = [.ref p, .ref a, nv m, nv i] ∧ DuelAt C H p d ∧ KnownAt H a d (Below M) N ∧ m < M ∧ m < 2 ^ Uw86.count d ∧ Uw86.isIn m i = true ∧ 2 ≤ DM.Card (Uw86.count d) m ∧ NewL H Q ((betterL d m i).map nv)
theorem may_len5 {d : Uw86.Duel} {m i : Nat} (h : Uw86.count d ≤ 4) : (Uw86.mayAim d m i).length ≤ 5 := by
  unfold Uw86.mayAim
  rw [List.length_append]
  have h1 := List.length_filter_le (fun j => j != i) (Uw86.members (Uw86.count d) m)
  have h2 : (Uw86.members (Uw86.count d) m).length ≤ Uw86.count d := DM.card_le
  simp only [List.length_cons, List.length_nil]
  omega
section
variable {P : Program} {w : World} {K : PySem.W.Frag} {mg : Str → Option Value} {base : Heap} {C : Addr}
theorem sc_may : FnScope ["duel", "group", "shot", "other"] ["duel", "group", "shot"] (defScope sMay) := ⟨rfl, rfl, rfl, by decide +kernel, rfl, by decide +kernel, by decide +kernel⟩
theorem ok_may {f fM : Addr} {fd fdM : FuncData} (A : Dfn K mg "possible_aims" sMay ["duel", "group", "shot"] f fd) (T : Txt K mg) (TC : TCls K mg C) (AM : Dfn K mg "members" sMembers ["group"] fM fdM) : FnOk P w K mg base CX0 2 f fd ["duel", "group", "shot"] (spMay C) := by
  have GM : FnOk P w K mg base CX0 1 fM fdM ["group"] spMembers := ok_members AM T
  refine A.F.ok sc_may (fun vs H Q E h => ?_) (fun cdv A outer s H vs Q E hr h => ?_)
  · obtain ⟨p, d, m, i, rfl, _⟩ := h
    rfl
  · obtain ⟨p, d, m, i, rfl, ⟨ha, aa, D⟩, hm, k⟩ := h
    obtain ⟨dx, hp⟩ := D.obj
    refine ⟨_, pss_one (ps_ret (pe_op op_cat
        (pe_lc (own := [("other", 3)]) rfl sc_may.nd (pi_list (pe_f AM GM hr (pa_cons (pv 1) pa_nil))) (blkOk_by (by rfl)) (fun _ _ _ _ _ => pg_name (i := 3) sc_may.nd rfl (Or.inl rfl)) (fun _ _ _ _ _ => pts_one (pt_cmpR op_ne (pv 3) (pv 2) (nomark _))) (fun _ _ _ _ _ => pv 3))
        (pe_lst (pa_cons (pe_callB call_len_seq (by rfl) T.len PySem.boot_len (pa_cons (pe_fld (pv 0) rfl) pa_nil)) pa_nil)))), ?_⟩
    refine ⟨_, rfl, m, rfl, fun H1 q s1 hq hq1 => ?_⟩
    rw [members4 D.ok.n2 D.ok.n4 hm] at hq1
    have ml : (Uw86.members (Uw86.count d) m).length ≤ 4 := Nat.le_trans DM.card_le D.ok.n4
    refine ⟨q, rfl, ⟨_, SqL.of hq1⟩, fun D' hD => lc_list (K := K) (a := q) (xs := (Uw86.members (Uw86.count d) m).map nv) (fun j H' => Same H1 H' ∧ H' D' = some (.lst ((((Uw86.members (Uw86.count d) m).take j).filter fun j => j != i).map nv)))
      ⟨same_new hD, upd_same⟩ (fun i H' _ ⟨z, _⟩ => SqL.of (z _ _ hq1)) ?_ ?_⟩
    · rintro j y H4 hj ⟨s4, hD4⟩
      obtain ⟨x, hx, rfl⟩ := of_nv hj
      refine ⟨rfl, _, rfl, _, rfl, rfl, _, rfl, ?_⟩
      rw [ne_nv]
      cases hb : (x != i) with
      | true =>
        refine iteT ⟨_, rfl, _, hD4, ?_, same_upd s4 hD, ?_⟩
        · rw [List.length_map]
          exact small_len (Nat.le_trans (List.length_filter_le _ _) (Nat.le_trans (List.length_take_le' _ _) (Nat.le_trans ml (by decide))))
        · rw [upd_same, filter_take hx, hb, if_pos rfl, List.map_append]
          rfl
      | false =>
        refine iteF ⟨s4, ?_⟩
        rw [filter_take hx, hb, if_neg (by decide), List.append_nil]
        exact hD4
    · rintro H2 ⟨s2, hD2⟩
      rw [List.length_map, List.take_length] at hD2
      have s02 := s1.trans s2
      refine ⟨_, rfl, p, C, dx, _, _, rfl, s02 _ _ hp, TC.cl, TC.nH, df_h _ _ _, ha, _, rfl, .inl (SqL.of (s02 _ _ D.hits)), line1, fun D2 hD2n => ?_⟩
      have s3 := same_new (o := .lst [V.int ((d.hits.map nv).length : Int)]) hD2n
      refine ⟨D', D2, _, _, rfl, rfl, s3 _ _ hD2, upd_same, ?_, fun r hr => ?_⟩
      · rw [List.length_map]
        have l1 := List.length_filter_le (fun j => j != i) (Uw86.members (Uw86.count d) m)
        exact Nat.le_of_lt (small_len (by simp only [List.length_cons, List.length_nil]; omega))
      · have sm := s02.trans s3
        refine k _ r (same_upd sm (sm.free hr)) (sm.free hr) ?_
        rw [upd_same]
        unfold Uw86.mayAim
        rw [List.map_append, List.length_map]
        rfl
theorem sc_does : FnScope ["shot", "weights", "before"] ["shot", "weights", "before"] (defScope sDoes) := ⟨rfl, rfl, rfl, by decide +kernel, rfl, by decide +kernel, by decide +kernel⟩
theorem getD_le_sum {l : List Nat} {i : Nat} (h : i < l.length) : l.getD i 0 ≤ l.sum := by
  rw [List.getD_eq_getElem?_getD, List.getElem?_eq_getElem h]
  exact mem_le_sum (List.getElem_mem h)
theorem ok_does {f : Addr} {fd : FuncData} (A : Dfn K mg "does_better" sDoes ["shot", "weights", "before"] f fd) (T : Txt K mg) : FnOk P w K mg base CX0 1 f fd ["shot", "weights", "before"] spDoes := by
  refine A.F.ok sc_does (fun vs H Q E h => ?_) (fun cdv A outer s H vs Q E hr h => ?_)
  · obtain ⟨i, a, b, ws, bs, rfl, _⟩ := h
    rfl
  · obtain ⟨i, a, b, ws, bs, rfl, hA, hB, iw, ib, sw, sb, k⟩ := h
    refine ⟨_, pss_one (ps_ret (pe_cmpR op_gt (pe_op op_mulB (pe_ix ix_list (pv 1) (pv 0) (fun _ _ => rfl)) (pe_callB (cr_sum rfl) (by rfl) T.sum boot_sum (pa_cons (pv 2) pa_nil)))
      (pe_op op_mulB (pe_ix ix_list (pv 2) (pv 0) (fun _ _ => rfl)) (pe_callB (cr_sum rfl) (by rfl) T.sum boot_sum (pa_cons (pv 1) pa_nil))) (nomark _))), ?_⟩
    have p1 : (2 : Nat) ^ 2000 ≤ 2 ^ 4000 := Nat.pow_le_pow_right (by decide) (by decide)
    have big : ∀ x : Nat, x < 2 ^ 2000 → CBig ((x : Nat) : Int) := fun x h => big_of (Nat.lt_of_lt_of_le h p1)
    have w1 := getD_le_sum iw
    have w2 := getD_le_sum ib
    refine ⟨_, rfl, _, rfl, a, _, _, _, rfl, rfl, SqL.of hA, at_getD iw, _, rfl, b, bs.map (fun (n : Nat) => (n : Int)), rfl, by rw [map_cast]; exact SqL.of hB, ?_⟩
    rw [sum_cast]
    refine ⟨_, _, rfl, rfl, ⟨big _ (by omega), big _ sb⟩, _, rfl, _, rfl, b, _, _, _, rfl, rfl, SqL.of hB, at_getD ib, _, rfl, a, ws.map (fun (n : Nat) => (n : Int)), rfl, by rw [map_cast]; exact SqL.of hA, ?_⟩
    rw [sum_cast]
    refine ⟨_, _, rfl, rfl, ⟨big _ (by omega), big _ sw⟩, _, _, rfl, rfl, ?_⟩
    have e : decide (((bs.getD i 0 : Nat) : Int) * ((ws.sum : Nat) : Int) < ((ws.getD i 0 : Nat) : Int) * ((bs.sum : Nat) : Int)) = moreW i ws bs := by
      unfold moreW
      rw [← Int.natCast_mul, ← Int.natCast_mul, lt_dec]
    dsimp only
    rw [e]
    exact k
end
end Du
set_option Elab.async false
set_option linter.all false
set_option maxRecDepth 100000
set_option maxHeartbeats 2000000
set_option exponentiation.threshold 5000
namespace Du
open PySem PySem.Spec PyProof.Rows L2
theorem less_self (a : Uw86.Frac) : Uw86.less a a = false := decide_eq_false (Nat.lt_irrefl _)
theorem gain_now {d : Uw86.Duel} (D : DM.DOk d) {m i : Nat} (hm : m < 2 ^ Uw86.count d) (hi : i < Uw86.count d) : Uw86.gain d m i (Uw86.aimOf d m i) = (Uw86.chancesOf d m i).getD i Uw86.zero := by
  unfold Uw86.gain
  rw [DM.with_same D hm hi]
theorem betterL_eq {d : Uw86.Duel} (D : DM.DOk d) {m i : Nat} (hm : m < 2 ^ Uw86.count d) (hi : i < Uw86.count d) :
    ((Uw86.mayAim d m i).filter fun a => a != Uw86.aimOf d m i).filter (fun a => Uw86.less ((Uw86.chancesOf d m i).getD i Uw86.zero) (Uw86.gain d m i a)) = betterL d m i := by
  unfold betterL
  rw [List.filter_filter]
  refine List.filter_congr fun a _ => ?_
  by_cases e : a = Uw86.aimOf d m i
  · subst e
    rw [gain_now D hm hi, less_self]
    rfl
  · have : (a != Uw86.aimOf d m i) = true := by simpa using e
    rw [this, Bool.and_true]
theorem more_eq {d : Uw86.Duel} {m i a : Nat} {ws bs : List Nat} (hw : WOk (Uw86.withAim d m i a) m i ws) (hb : WOk d m i bs) : moreW i ws bs = Uw86.less ((Uw86.chancesOf d m i).getD i Uw86.zero) (Uw86.gain d m i a) := by
  rw [DM.gain_rep hw.rep, hb.rep.getD i, DM.less_frac hb.rep.pos hw.rep.pos]
  rfl
theorem WOk.small {d : Uw86.Duel} {m i : Nat} {ws : List Nat} (h : WOk d m i ws) (n4 : Uw86.count d ≤ 4) : ws.sum < 2 ^ 2000 := Nat.lt_of_lt_of_le (Nat.lt_of_le_of_lt h.le (DM.Bd_lt (Nat.le_trans DM.card_le n4))) (Nat.pow_le_pow_right (by decide) (by decide))
theorem pos_of_in {m i : Nat} (h : Uw86.isIn m i = true) : 0 < m := by
  rcases Nat.eq_zero_or_pos m with e | e
  · subst e
    have : Uw86.isIn 0 i = false := by
      unfold Uw86.isIn
      rw [Nat.zero_div]
      rfl
    rw [this] at h
    cases h
  · exact e
section
variable {P : Program} {w : World} {K : PySem.W.Frag} {mg : Str → Option Value} {base : Heap} {C : Addr}
theorem sc_baims : FnScope ["duel", "known", "group", "shot", "now", "others", "to"] ["duel", "known", "group", "shot"] (defScope sBAims) := ⟨rfl, rfl, rfl, by decide +kernel, rfl, by decide +kernel, by decide +kernel⟩
theorem ok_baims {f fY fD fC : Addr} {fd fdY fdD fdC : FuncData} (A : Dfn K mg "better_aims" sBAims ["duel", "known", "group", "shot"] f fd) (T : Txt K mg) (TC : TCls K mg C) (AY : Dfn K mg "possible_aims" sMay ["duel", "group", "shot"] fY fdY)
    (GY : FnOk P w K mg base CX0 2 fY fdY ["duel", "group", "shot"] (spMay C)) (AD : Dfn K mg "does_better" sDoes ["shot", "weights", "before"] fD fdD)
    (AC : Dfn K mg "chances" sChances ["duel", "known", "group", "first", "own"] fC fdC) (GC : FnOk P w K mg base CX0 5 fC fdC ["duel", "known", "group", "first", "own"] (spChances C)) : FnOk P w K mg base CX0 6 f fd ["duel", "known", "group", "shot"] (spBAims C) := by
  have GD : FnOk P w K mg base CX0 1 fD fdD ["shot", "weights", "before"] spDoes := ok_does AD T
  refine A.F.ok sc_baims (fun vs H Q E h => ?_) (fun cdv A outer s H vs Q E hr h => ?_)
  · obtain ⟨p, a, d, m, i, M, N, rfl, _⟩ := h
    rfl
  · obtain ⟨p, a, d, m, i, M, N, rfl, ⟨ha, aa, D⟩, ⟨kvs, wa, ws, hK⟩, hmM, hm, hi, hc, k⟩ := h
    have hu := hu_of hr
    obtain ⟨dx, hp⟩ := D.obj
    obtain ⟨akv, haa, hA⟩ := D.aims
    have hi' := DM.isIn_lt hm hi
    have n4 := D.ok.n4
    have m0 := pos_of_in hi
    refine ⟨_, pss_cons (ps_set (i := 4) sc_baims.nd rfl (Or.inr rfl) (pe_dget hu (pe_fld (pv 0) rfl) (pe_tup (pa_cons (pv 2) (pa_cons (pv 3) pa_nil))) (fun _ _ => rfl)))
      (pss_cons (ps_setLc (i := 5) (own := [("to", 6)]) rfl sc_baims.nd rfl rfl (by rfl) (pi_list (pe_f AY GY hr (pa_cons (pv 0) (pa_cons (pv 2) (pa_cons (pv 3) pa_nil))))) (blkOk_by (by rfl))
        (fun _ _ _ _ _ => pg_name (i := 6) sc_baims.nd rfl (Or.inl rfl)) (fun _ _ _ _ _ => pts_one (pt_cmpR op_ne (pv 6) (pv 4) (nomark _))) (fun _ _ _ _ _ => pv 6))
      (pss_one (ps_ret (pe_lc (own := [("to", 6)]) (tt := tB (tCall spDoes [] E0 (tCons (tVar 3) (tCons (tCall (spChances C) [] E0 (tCons (tVar 0) (tCons (tVar 1) (tCons (tVar 2) (tCons (tVar 3) (tCons (tVar 6) tNil)))))) (tCons (tDGet (tVar 1) (tTup (tCons (tVar 2) (tCons (tVar 3) tNil)))) tNil)))))
        rfl sc_baims.nd (pi_list (pv 5)) (blkOk_by (by rfl)) (fun _ _ _ _ _ => pg_name (i := 6) sc_baims.nd rfl (Or.inl rfl))
        (fun _ _ _ _ _ => pts_one (pt_val (pe_f AD GD hr (pa_cons (pv 3) (pa_cons (pe_f AC GC hr (pa_cons (pv 0) (pa_cons (pv 1) (pa_cons (pv 2) (pa_cons (pv 3) (pa_cons (pv 6) pa_nil)))))) (pa_cons (pe_dget hu (pv 1) (pe_tup (pa_cons (pv 2) (pa_cons (pv 3) pa_nil))) (fun _ _ => rfl)) pa_nil))))))
        (fun _ _ _ _ _ => pv 6))))), ?_⟩
    have hav := hA.at_ m i hm hc hi
    -- now
    refine ⟨_, rfl, p, C, dx, _, _, rfl, hp, TC.cl, TC.nA, df_a _ _ _, _, rfl, _, rfl, line2, fun t ht => ?_⟩
    have s1 := same_new (o := .tup [nv m, nv i]) ht
    refine ⟨aa, _, rfl, by rw [← hav]; exact DGet.t (k := key m i) (s1 _ _ haa) upd_same, ?_⟩
    generalize hH1 : upd H t (.tup [nv m, nv i]) = H1 at *
    -- others
    refine ⟨_, rfl, _, rfl, _, rfl, p, d, m, i, rfl, ⟨ha, aa, D.mono s1⟩, hm, fun H2 o s2 ho ho2 => ?_⟩
    have yl := may_len5 (d := d) (m := m) (i := i) n4
    refine ⟨o, rfl, ⟨_, SqL.of ho2⟩, fun D1 hD1 => lc_list (K := K) (a := o) (xs := (Uw86.mayAim d m i).map nv) (fun j H' => Same H2 H' ∧ H' D1 = some (.lst ((((Uw86.mayAim d m i).take j).filter fun j => j != Uw86.aimOf d m i).map nv)))
      ⟨same_new hD1, upd_same⟩ (fun i H' _ ⟨z, _⟩ => SqL.of (z _ _ ho2)) ?_ ?_⟩
    · rintro j y H4 hj ⟨s4, hD4⟩
      obtain ⟨x, hx, rfl⟩ := of_nv hj
      refine ⟨rfl, _, rfl, _, rfl, rfl, _, rfl, ?_⟩
      rw [ne_nv]
      cases hb : (x != Uw86.aimOf d m i) with
      | true =>
        refine iteT ⟨_, rfl, _, hD4, ?_, same_upd s4 hD1, ?_⟩
        · rw [List.length_map]
          exact small_len (Nat.le_trans (List.length_filter_le _ _) (Nat.le_trans (List.length_take_le' _ _) (Nat.le_trans yl (by decide))))
        · rw [upd_same, filter_take hx, hb, if_pos rfl, List.map_append]
          rfl
      | false =>
        refine iteF ⟨s4, ?_⟩
        rw [filter_take hx, hb, if_neg (by decide), List.append_nil]
        exact hD4
    · rintro H3 ⟨s3, hD3⟩
      rw [List.length_map, List.take_length] at hD3
      have s03 := (s1.trans s2).trans s3
      generalize hL : (Uw86.mayAim d m i).filter (fun j => j != Uw86.aimOf d m i) = L at *
      have Ll : L.length ≤ 5 := by
        rw [← hL]
        exact Nat.le_trans (List.length_filter_le _ _) yl
      have Lm : ∀ x ∈ L, x ∈ Uw86.mayAim d m i := fun x hx => by
        rw [← hL] at hx
        exact (List.mem_filter.mp hx).1
      obtain ⟨k1, k2, k3⟩ := hK.at_ m i ⟨m0, hmM, hi⟩
      refine ⟨_, rfl, D1, rfl, ⟨_, SqL.of hD3⟩, fun D2 hD2 => lc_list (K := K) (a := D1) (xs := L.map nv) (fun j H' => Same H3 H' ∧ H' D2 = some (.lst (((L.take j).filter fun a => Uw86.less ((Uw86.chancesOf d m i).getD i Uw86.zero) (Uw86.gain d m i a)).map nv)))
        ⟨same_new hD2, upd_same⟩ (fun i H' _ ⟨z, _⟩ => SqL.of (z _ _ hD3)) ?_ ?_⟩
      · rintro j y H4 hj ⟨s4, hD4⟩
        obtain ⟨x, hx, rfl⟩ := of_nv hj
        have hxm := Lm x (List.mem_of_getElem? hx)
        have s04 := s03.trans s4
        refine ⟨rfl, _, rfl, _, rfl, _, rfl, _, rfl, _, rfl, _, rfl, p, a, d, m, i, x, N, rfl, ⟨ha, aa, D.mono s04⟩, ⟨kvs, wa, ws, (hK.mono s04).imp (fun m' i' ⟨q1, q2, q3⟩ => ⟨q1, by omega, q3⟩) (Nat.le_refl _)⟩, hm, hi, hc, hxm, fun H5 r w0 s5 hr5 hr55 hw => ?_⟩
        refine ⟨_, rfl, _, rfl, _, rfl, line2, fun t2 ht2 => ?_⟩
        have s6 := same_new (o := .tup [nv m, nv i]) ht2
        have s06 := (s04.trans s5).trans s6
        have s46 := s5.trans s6
        refine ⟨a, _, rfl, by rw [← k1]; exact DGet.t (k := key m i) (s06 _ _ hK.obj) upd_same, ?_⟩
        refine ⟨i, r, _, w0, _, rfl, s6 _ _ hr55, s06 _ _ k2, by rw [hw.len]; exact Nat.lt_succ_of_lt hi', by rw [k3.len]; exact Nat.lt_succ_of_lt hi', hw.small n4, k3.small n4, _, rfl, ?_⟩
        rw [more_eq hw k3]
        have hD6 := s46 _ _ hD4
        have hs46 := s4.trans s46
        cases hb : Uw86.less ((Uw86.chancesOf d m i).getD i Uw86.zero) (Uw86.gain d m i x) with
        | true =>
          refine iteT ⟨_, rfl, _, hD6, ?_, same_upd hs46 hD2, ?_⟩
          · rw [List.length_map]
            exact small_len (Nat.le_trans (List.length_filter_le _ _) (Nat.le_trans (List.length_take_le' _ _) (Nat.le_trans Ll (by decide))))
          · rw [upd_same, filter_take hx, hb, if_pos rfl, List.map_append]
            rfl
        | false =>
          refine iteF ⟨hs46, ?_⟩
          rw [filter_take hx, hb, if_neg (by decide), List.append_nil]
          exact hD6
      · rintro H4 ⟨s4, hD4⟩
        rw [List.length_map, List.take_length, ← hL, betterL_eq D.ok hm hi'] at hD4
        have s04 := s03.trans s4
        exact k H4 D2 s04 (s03.free hD2) hD4
end
end Du
set_option Elab.async false
set_option linter.all false
set_option maxRecDepth 100000
set_option maxHeartbeats 2000000
set_option exponentiation.threshold 5000
namespace Du
open PySem PySem.Spec PyProof.Rows L2
/-! ### the first better change -/
def prs (n : Nat) : List (Nat × Nat) := (Uw86.sets n).flatMap fun m => (Uw86.members n m).map fun i => (m, i)
def changeOf (d : Uw86.Duel) (x : Nat × Nat) : Option (Nat × Nat × Nat) := (betterL d x.1 x.2).head?.map fun a => (x.1, x.2, a)
theorem findSome_flat {α β γ : Type} (f : β → Option γ) (g : α → List β) : ∀ l : List α, (l.flatMap g).findSome? f = l.findSome? fun a => (g a).findSome? f
  | [] => rfl
  | a :: l => by
    rw [List.flatMap_cons, List.findSome?_append, findSome_flat f g l, List.findSome?_cons]
    cases (g a).findSome? f <;> rfl
theorem better_eq (d : Uw86.Duel) : Uw86.better d = (prs (Uw86.count d)).findSome? (changeOf d) := by
  unfold prs Uw86.better
  rw [findSome_flat]
  congr 1
  funext m
  rw [List.findSome?_map]
  congr 1
  funext i
  show _ = changeOf d (m, i)
  unfold changeOf betterL
  rw [List.head?_filter]
theorem keyL_prs (n : Nat) : keyL n (2 ^ n) = (prs n).map fun x => key x.1 x.2 := by
  unfold keyL prs Uw86.sets
  rw [List.map_flatMap]
  congr 1
  funext m
  rw [List.map_map]
  rfl
def ints2 (n : Nat) : List (Int × Int) := (prs n).map fun x => ((x.1 : Int), (x.2 : Int))
def pairLeB (p q : Int × Int) : Bool := decide (p.1 < q.1) || (decide (p.1 = q.1) && decide (p.2 ≤ q.2))
theorem pairLe_of {p q : Int × Int} (h : pairLeB p q = true) : pairLe p q := by
  unfold pairLeB at h
  unfold pairLe
  simpa using h
set_option synthInstance.maxSize 2000 in
theorem prs_sorted {n : Nat} (h2 : 2 ≤ n) (h4 : n ≤ 4) : (ints2 n).Pairwise pairLe := by
  have h : (ints2 n).Pairwise fun p q => pairLeB p q = true := by
    rcases DM.n_cases h2 h4 with rfl | rfl | rfl
    · decide +kernel
    · decide +kernel
    · decide +kernel
  exact h.imp pairLe_of
theorem mem_prs {n : Nat} {x : Nat × Nat} (h : x ∈ prs n) : x.1 < 2 ^ n ∧ 2 ≤ DM.Card n x.1 ∧ Uw86.isIn x.1 x.2 = true := by
  unfold prs Uw86.sets at h
  obtain ⟨m, h1, h2⟩ := List.mem_flatMap.mp h
  obtain ⟨i, h3, rfl⟩ := List.mem_map.mp h2
  obtain ⟨h4, h5⟩ := List.mem_filter.mp h1
  exact ⟨List.mem_range.mp h4, of_decide_eq_true h5, (DM.mem_members.mp h3).2⟩
def changeL : Option (Nat × Nat × Nat) → List V
  | none => []
  | some x => [nv x.1, nv x.2.1, nv x.2.2]
def spFB (C : Addr) : Sp := fun vs H Q _ => ∃ (p : Addr) (d : Uw86.Duel), vs = [.ref p] ∧ DuelAt C H p d ∧ NewL H Q (changeL (Uw86.better d))
theorem of_refs {qs : List Addr} {j : Nat} {y : V} (h : (qs.map V.ref)[j]? = some y) : ∃ q, qs[j]? = some q ∧ y = .ref q := by
  rw [List.getElem?_map] at h
  cases e : qs[j]? with
  | none =>
    rw [e] at h
    cases h
  | some q =>
    rw [e] at h
    cases h
    exact ⟨q, rfl, rfl⟩
section
variable {P : Program} {w : World} {K : PySem.W.Frag} {mg : Str → Option Value} {base : Heap} {C : Addr}
theorem sc_fb : FnScope ["duel", "known", "group", "shot", "better"] ["duel"] (defScope sFBetter) := ⟨rfl, rfl, rfl, by decide +kernel, rfl, by decide +kernel, by decide +kernel⟩
theorem ok_fb {f fN fB : Addr} {fd fdN fdB : FuncData} (A : Dfn K mg "first_better" sFBetter ["duel"] f fd) (T : Txt K mg) (TC : TCls K mg C) (AN : Dfn K mg "known_chances" sKnown ["duel", "top"] fN fdN) (GN : FnOk P w K mg base CX0 6 fN fdN ["duel", "top"] (spKnown C))
    (AB : Dfn K mg "better_aims" sBAims ["duel", "known", "group", "shot"] fB fdB) (GB : FnOk P w K mg base CX0 6 fB fdB ["duel", "known", "group", "shot"] (spBAims C)) : FnOk P w K mg base CX0 7 f fd ["duel"] (spFB C) := by
  refine A.F.ok sc_fb (fun vs H Q E h => ?_) (fun cdv A outer s H vs Q E hr h => ?_)
  · obtain ⟨p, d, rfl, _⟩ := h
    rfl
  · obtain ⟨p, d, rfl, ⟨ha, aa, D⟩, k⟩ := h
    obtain ⟨dx, hp⟩ := D.obj
    obtain ⟨akv, haa, hA⟩ := D.aims
    have n2 := D.ok.n2
    have n4 := D.ok.n4
    refine ⟨_, pss_cons (ps_set (i := 1) sc_fb.nd rfl (Or.inl rfl) (pe_f AN GN hr (pa_cons (pv 0) (pa_cons (pe_op op_sub (pe_op op_shl pe_int (pe_callB call_len_seq (by rfl) T.len PySem.boot_len (pa_cons (pe_fld (pv 0) rfl) pa_nil))) pe_int) pa_nil))))
      (pss_cons (ps_for PassesOwn.never rfl (pi_list (pe_callB (cr_sortedT rfl) (by rfl) T.sorted boot_sorted (pa_cons (pe_fld (pv 0) rfl) pa_nil))) (pg_tup rfl (pgs_cons (pg_name (i := 2) sc_fb.nd rfl (Or.inl rfl)) (pgs_cons (pg_name (i := 3) sc_fb.nd rfl (Or.inl rfl)) pgs_nil)))
        (pss_cons (ps_set (i := 4) sc_fb.nd rfl (Or.inl rfl) (pe_f AB GB hr (pa_cons (pv 0) (pa_cons (pv 1) (pa_cons (pv 2) (pa_cons (pv 3) pa_nil))))))
        (pss_one (ps_if (pt_cmpR op_gt (pe_callB call_len_seq (by rfl) T.len PySem.boot_len (pa_cons (pv 4) pa_nil)) pe_int (nomark _))
          (pss_one (ps_ret (pe_lst (pa_cons (pv 2) (pa_cons (pv 3) (pa_cons (pe_ix ix_list (pv 4) pe_int (fun _ _ => rfl)) pa_nil))))))
          pss_nil))))
      (pss_one (ps_ret (pe_lst pa_nil)))), ?_⟩
    have hl : (d.hits.map nv).length = Uw86.count d := List.length_map _
    have p2 : 1 ≤ 2 ^ Uw86.count d := Nat.pow_pos (by decide)
    refine ⟨_, rfl, _, rfl, p, C, dx, _, _, rfl, hp, TC.cl, TC.nH, df_h _ _ _, ha, _, rfl, .inl (SqL.of D.hits), _, _, rfl, rfl, ⟨by omega, by rw [hl]; omega, by decide⟩, _, _, rfl, rfl, p, d, 2 ^ Uw86.count d - 1, ?_, ⟨ha, aa, D⟩, by omega, fun H1 a s1 ha1 hK => ?_⟩
    · have e2 : (1 : Int) * 2 ^ ((d.hits.map nv).length : Int).toNat - 1 = ((2 ^ Uw86.count d - 1 : Nat) : Int) := by
        rw [hl, Int.one_mul, Int.toNat_natCast]
        have : ((2 ^ Uw86.count d : Nat) : Int) = (2 : Int) ^ Uw86.count d := by
          rw [Int.natCast_pow]
          rfl
        rw [← this]
        omega
      dsimp only
      rw [e2]
      rfl
    · have ek : akv.map (·.1) = (ints2 (Uw86.count d)).map fun p => [Sum.inl p.1, Sum.inl p.2] := by
        rw [hA.keys, keyL_prs]
        unfold ints2
        rw [List.map_map]
        rfl
      refine ⟨_, rfl, p, C, dx, _, _, rfl, s1 _ _ hp, TC.cl, TC.nA, df_a _ _ _, aa, akv, ints2 (Uw86.count d), rfl, s1 _ _ haa, ek, prs_sorted n2 n4, fun qs L hql hqs hL => ?_⟩
      have s2 := same_new (o := .lst (qs.map V.ref)) hL
      have hql2 : qs.length = (prs (Uw86.count d)).length := by
        rw [hql]
        unfold ints2
        rw [List.length_map]
      refine ⟨L, rfl, ⟨_, SqL.of upd_same⟩, for_list (K := K) (a := L) (xs := qs.map V.ref) (fun j σ H' => ∃ v2 v3 v4 : Option V, σ = [some (.ref p), some (.ref a), v2, v3, v4] ∧ Same (upd H1 L (.lst (qs.map V.ref))) H' ∧ ((prs (Uw86.count d)).take j).findSome? (changeOf d) = none)
        ⟨none, none, none, rfl, same_refl _, rfl⟩ (fun j σ H' _ ⟨_, _, _, _, z, _⟩ => SqL.of (z _ _ upd_same)) ?_ ?_⟩
      · rintro j y σ H3 hj ⟨v2, v3, v4, rfl, s3, hno⟩
        obtain ⟨q, hq, rfl⟩ := of_refs hj
        have jl : j < (prs (Uw86.count d)).length := by
          rw [← hql2]
          exact (List.getElem?_eq_some_iff.mp hq).1
        have hx : (prs (Uw86.count d))[j]? = some (prs (Uw86.count d))[j] := List.getElem?_eq_getElem jl
        generalize (prs (Uw86.count d))[j] = x at hx
        obtain ⟨m, i⟩ := x
        obtain ⟨hm, hc, hi⟩ := mem_prs (List.mem_of_getElem? hx)
        have ht : H1 q = some (.tup [nv m, nv i]) := hqs j q ((m : Int), (i : Int)) hq (by
          unfold ints2
          rw [List.getElem?_map, hx]
          rfl)
        have s13 := s2.trans s3
        have s03 := s1.trans s13
        refine ⟨q, _, rfl, SqT.of (s13 _ _ ht), rfl, _, _, rfl, _, _, rfl, rfl, ?_⟩
        refine ⟨_, rfl, _, rfl, _, rfl, _, rfl, p, a, d, m, i, _, _, rfl, ⟨ha, aa, D.mono s03⟩, (let ⟨kvs, wa, ws, z⟩ := hK; ⟨kvs, wa, ws, z.mono s13⟩), by omega, hm, hi, hc, fun H4 r s4 hr4 hr44 => ?_⟩
        refine ⟨_, rfl, r, _, rfl, .inl (SqL.of hr44), _, _, rfl, rfl, _, rfl, ?_⟩
        have hpre : ((prs (Uw86.count d)).take (j + 1)).findSome? (changeOf d) = changeOf d (m, i) := by
          rw [take_snoc hx, List.findSome?_append, hno]
          show ([(m, i)] : List (Nat × Nat)).findSome? (changeOf d) = _
          rw [List.findSome?_cons]
          cases changeOf d (m, i) <;> rfl
        cases hb : betterL d m i with
        | nil =>
          rw [hb] at hr44
          refine ite2 (fun z => absurd (of_decide_eq_true z) (by simp)) (fun _ => ?_)
          refine ⟨_, _, _, rfl, s3.trans s4, ?_⟩
          rw [hpre]
          unfold changeOf
          rw [hb]
          rfl
        | cons b l =>
          rw [hb] at hr44
          refine ite2 (fun _ => ?_) (fun z => absurd (decide_eq_true (by simp)) z)
          refine ⟨_, rfl, _, rfl, _, rfl, r, _, _, _, rfl, rfl, SqL.of hr44, (show atI ((b :: l).map nv) 0 = some (nv b) from at_getD (l := b :: l) (j := 0) (Nat.succ_pos _)), by show 3 ≤ sizeLine; decide, fun o ho => ?_⟩
          have s04 := s03.trans s4
          refine k _ o (same_upd s04 (s04.free ho)) (s04.free ho) ?_
          rw [upd_same, better_eq]
          have e : (prs (Uw86.count d)).findSome? (changeOf d) = some (m, i, b) := by
            have h1 : prs (Uw86.count d) = (prs (Uw86.count d)).take (j + 1) ++ (prs (Uw86.count d)).drop (j + 1) := (List.take_append_drop _ _).symm
            rw [h1, List.findSome?_append, hpre]
            unfold changeOf
            rw [hb]
            rfl
          rw [e]
          rfl
      · rintro σ H3 ⟨v2, v3, v4, rfl, s3, hno⟩
        rw [List.length_map, hql2, List.take_length] at hno
        have s03 := s1.trans (s2.trans s3)
        refine ⟨Nat.zero_le _, fun o ho => ?_⟩
        refine k _ o (same_upd s03 (s03.free ho)) (s03.free ho) ?_
        rw [upd_same, better_eq, hno]
        rfl
end
end Du
set_option Elab.async false
set_option linter.all false
set_option maxRecDepth 100000
set_option maxHeartbeats 2000000
set_option exponentiation.threshold 5000
namespace Du
open PySem PySem.Spec PyProof.Rows L2
/-! ### better, improve -/
def KeepX (aa : Addr) (H H' : Hp) : Prop := ∀ b o, H b = some o → b ≠ aa → H' b = some o
theorem KeepX.of {aa : Addr} {H H' : Hp} (s : Same H H') : KeepX aa H H' := fun b o e _ => s b o e
theorem KeepX.trans {aa : Addr} {H H1 H2 : Hp} (a : KeepX aa H H1) (b : KeepX aa H1 H2) : KeepX aa H H2 := fun c o e n => b c o (a c o e n) n
theorem KeepX.free {aa q : Addr} {H H' : Hp} {u : HO} (k : KeepX aa H H') (h : H' aa = some u) (hq : H' q = none) : H q = none := by
  cases e : H q with
  | none => rfl
  | some o =>
    have := k q o e (fun z => by rw [z, h] at hq; cases hq)
    rw [hq] at this
    cases this
theorem KeepX.keepL {aa : Addr} {H H' : Hp} {kvs : List (List Key × V)} (k : KeepX aa H H') (h : H aa = some (.dT kvs)) : KeepL H H' := fun b o e l => k b o e fun z => by
  rw [z, h] at e
  cases e
  exact l
theorem duel_put {C : Addr} {H H1 : Hp} {p ha aa : Addr} {d : Uw86.Duel} {akv : List (List Key × V)} {m i a : Nat} (D : DuelIs C H p ha aa d) (haa : H aa = some (.dT akv)) (hA : AimsFor akv (Uw86.count d) (Uw86.aimOf d)) (s : Same H H1)
    (hm : m < 2 ^ Uw86.count d) (hc : 2 ≤ DM.Card (Uw86.count d) m) (hi : Uw86.isIn m i = true) (ht : a ∈ Uw86.mayAim d m i) : DuelIs C (upd H1 aa (.dT (putK akv (key m i) (nv a)))) p ha aa (Uw86.withAim d m i a) := by
  obtain ⟨dx, hp⟩ := D.obj
  have hi' := DM.isIn_lt hm hi
  have hav := hA.at_ m i hm hc hi
  have keep : ∀ b o, H b = some o → b ≠ aa → (upd H1 aa (.dT (putK akv (key m i) (nv a)))) b = some o := fun b o e ne => by
    rw [upd_ne ne]
    exact s _ _ e
  refine ⟨DM.DOk_with D.ok hm hi ht, ⟨dx, keep _ _ hp (ne_of hp haa (by intro z; cases z))⟩, keep _ _ D.hits (ne_of D.hits haa (by intro z; cases z)), _, upd_same, ?_, ?_, fun m' i' h1 h2 h3 => ?_⟩
  · rw [length_putK_in _ hav]
    exact hA.len
  · rw [keys_in _ (by rw [hA.keys]; exact mem_keyL.mpr ⟨m, i, hm, hc, DM.mem_members.mpr ⟨hi', hi⟩, rfl⟩)]
    exact hA.keys
  · show valV (putK akv (key m i) (nv a)) (key m' i') = some (nv (Uw86.aimOf (Uw86.withAim d m i a) m' i'))
    rw [valV_put, DM.aimOf_with D.ok hm hi']
    by_cases e : m' = m ∧ i' = i
    · rw [if_pos (key_inj.mpr e), if_pos e]
    · rw [if_neg (fun z => e (key_inj.mp z)), if_neg e]
      exact hA.at_ m' i' h1 h2 h3
def spABetter (C : Addr) : Sp := fun vs H Q _ => ∃ (p ha aa : Addr) (d : Uw86.Duel), vs = [.ref p] ∧ DuelIs C H p ha aa d ∧ Ans C H p ha (Uw86.step d .better) Q
def spAImp (C : Addr) : Sp := fun vs H Q _ => ∃ (p ha aa : Addr) (d : Uw86.Duel) (k : Nat), vs = [.ref p, nv k] ∧ DuelIs C H p ha aa d ∧ Ans C H p ha (Uw86.step d (.improve k)) Q
def muImp (k : Nat) (σ : List (Option V)) (_ : Hp) : Nat := k - intAt (σ[2]?)
section
variable {P : Program} {w : World} {K : PySem.W.Frag} {mg : Str → Option Value} {base : Heap} {C : Addr}
theorem sc_abet : FnScope ["duel", "change"] ["duel"] (defScope sABetter) := ⟨rfl, rfl, rfl, by decide +kernel, rfl, by decide +kernel, by decide +kernel⟩
theorem ok_abet {f fF : Addr} {fd fdF : FuncData} (A : Dfn K mg "answer_better" sABetter ["duel"] f fd) (T : Txt K mg) (AF : Dfn K mg "first_better" sFBetter ["duel"] fF fdF) (GF : FnOk P w K mg base CX0 7 fF fdF ["duel"] (spFB C)) : FnOk P w K mg base CX0 8 f fd ["duel"] (spABetter C) := by
  refine A.F.ok sc_abet (fun vs H Q E h => ?_) (fun cdv A outer s H vs Q E hr h => ?_)
  · obtain ⟨p, ha, aa, d, rfl, _⟩ := h
    rfl
  · obtain ⟨p, ha, aa, d, rfl, D, k⟩ := h
    refine ⟨_, pss_cons (ps_set (i := 1) sc_abet.nd rfl (Or.inl rfl) (pe_f AF GF hr (pa_cons (pv 0) pa_nil)))
      (pss_cons (ps_if (pt_cmpR op_eq (pe_callB call_len_seq (by rfl) T.len PySem.boot_len (pa_cons (pv 1) pa_nil)) pe_int (nomark _)) (pss_one (ps_ret (pe_lst (pa_cons pe_int pa_nil)))) pss_nil)
      (pss_one (ps_ret (pe_op op_cat (pe_lst (pa_cons pe_int pa_nil)) (pv 1))))), ?_⟩
    refine ⟨_, rfl, p, d, rfl, ⟨ha, aa, D⟩, fun H1 c s1 hc hc1 => ?_⟩
    refine ⟨_, rfl, c, _, rfl, .inl (SqL.of hc1), rfl, _, rfl, ?_⟩
    have es : Uw86.step d .better = (d, match Uw86.better d with | none => [0] | some x => Uw86.ints [1, x.1, x.2.1, x.2.2]) := rfl
    rw [es] at k
    cases hb : Uw86.better d with
    | none =>
      rw [hb] at hc1 k
      exact ite2 (fun _ => ⟨line1, fun q hq => k.same D s1 hq⟩) (fun z => absurd (decide_eq_true rfl) z)
    | some x =>
      rw [hb] at hc1 k
      refine ite2 (fun z => absurd (of_decide_eq_true z) (by intro e; cases e)) (fun _ => ?_)
      refine ⟨line1, fun q hq => ?_⟩
      have s2 := same_new (o := .lst [V.int 1]) hq
      have s02 := s1.trans s2
      exact ⟨_, rfl, q, c, _, _, rfl, rfl, upd_same, s2 _ _ hc1, by show 4 ≤ sizeLine; decide, fun r hr => k.same D s02 hr⟩
theorem sc_aimp : FnScope ["duel", "most", "made", "change"] ["duel", "most"] (defScope sAImprove) := ⟨rfl, rfl, rfl, by decide +kernel, rfl, by decide +kernel, by decide +kernel⟩
theorem ok_aimp {f fF : Addr} {fd fdF : FuncData} (A : Dfn K mg "answer_improve" sAImprove ["duel", "most"] f fd) (T : Txt K mg) (TC : TCls K mg C) (AF : Dfn K mg "first_better" sFBetter ["duel"] fF fdF) (GF : FnOk P w K mg base CX0 7 fF fdF ["duel"] (spFB C)) : FnOk P w K mg base CX0 8 f fd ["duel", "most"] (spAImp C) := by
  refine A.F.ok sc_aimp (fun vs H Q E h => ?_) (fun cdv A outer s H vs Q E hr h => ?_)
  · obtain ⟨p, ha, aa, d, n, rfl, _⟩ := h
    rfl
  · obtain ⟨p, ha, aa, d, n, rfl, D, k⟩ := h
    have hu := hu_of hr
    obtain ⟨akv0, haa0, _⟩ := D.aims
    refine ⟨_, pss_cons (ps_if (pt_cmpR op_gt (pv 1) (pe_g T.changes) (nomark _)) (pss_one (ps_ret (pe_lst (pa_cons (pe_un un_neg pe_int) pa_nil)))) pss_nil)
      (pss_cons (ps_set (i := 2) sc_aimp.nd rfl (Or.inl rfl) pe_int)
      (pss_cons (ps_set (i := 3) sc_aimp.nd rfl (Or.inl rfl) (pe_f AF GF hr (pa_cons (pv 0) pa_nil)))
      (pss_cons (ps_while PassesOwn.never (PW.pt (pw_and (pt_cmpR op_gt (pe_callB call_len_seq (by rfl) T.len PySem.boot_len (pa_cons (pv 3) pa_nil)) pe_int (nomark _)) (pw_and1 (pt_cmpR op_lt (pv 2) (pv 1) (nomark _)))))
        (pss_cons (ps_dput hu (pe_fld (pv 0) rfl) (pe_tup (pa_cons (pe_ix ix_list (pv 3) pe_int (fun _ _ => rfl)) (pa_cons (pe_ix ix_list (pv 3) pe_int (fun _ _ => rfl)) pa_nil))) (pe_ix ix_list (pv 3) pe_int (fun _ _ => rfl)) rfl)
        (pss_cons (ps_set (i := 2) sc_aimp.nd rfl (Or.inl rfl) (pe_op op_add (pv 2) pe_int))
        (pss_one (ps_set (i := 3) sc_aimp.nd rfl (Or.inl rfl) (pe_f AF GF hr (pa_cons (pv 0) pa_nil)))))))
      (pss_one (ps_ret (pe_lst (pa_cons (pv 2) (pa_cons (pe_ifExp (pt_cmpR op_gt (pe_callB call_len_seq (by rfl) T.len PySem.boot_len (pa_cons (pv 3) pa_nil)) pe_int (nomark _)) pe_int pe_int) pa_nil)))))))), ?_⟩
    have es : Uw86.step d (.improve n) = if 30 < n then (d, [-1]) else ((Uw86.improved n d).2, Uw86.ints [(Uw86.improved n d).1, if (Uw86.better (Uw86.improved n d).2).isSome = true then 1 else 0]) := rfl
    rw [es] at k
    refine ⟨_, rfl, _, _, rfl, rfl, _, rfl, ?_⟩
    by_cases hn : 30 < n
    · rw [if_pos hn] at k
      exact ite2 (fun _ => ⟨_, rfl, line1, fun q hq => k.same D (same_refl H) hq⟩) (fun z => absurd (decide_eq_true (by omega)) z)
    rw [if_neg hn] at k
    refine ite2 (fun z => absurd (of_decide_eq_true z) (by omega)) (fun _ => ?_)
    refine ⟨_, rfl, p, d, rfl, ⟨ha, aa, D⟩, fun H1 c s1 hc hc1 => ?_⟩
    refine while_by (fun σ H' => ∃ (j : Nat) (d' : Uw86.Duel) (c : Addr), σ = [some (.ref p), some (nv n), some (nv j), some (.ref c)] ∧ DuelIs C H' p ha aa d' ∧ KeepX aa H H' ∧ H' c = some (.lst (changeL (Uw86.better d'))) ∧ j ≤ n ∧
      Uw86.improved n d = ((Uw86.improved (n - j) d').1 + j, (Uw86.improved (n - j) d').2)) (muImp n) ⟨0, d, c, rfl, D.mono s1, KeepX.of s1, hc1, Nat.zero_le _, rfl⟩ ?_ ?_
    · rintro σ H2 ⟨j, d', c', rfl, D', kx, hc', hj, hi⟩
      obtain ⟨dx, hp⟩ := D'.obj
      obtain ⟨akv, haa, hA⟩ := D'.aims
      -- what is answered in the end
      have fin : ∀ y : Bool, (Uw86.better d').isSome = y → Uw86.improved n d = (j, d') → ∀ o : Addr, H2 o = none → Q (.ref o) (upd H2 o (.lst [nv j, .int (if y = true then 1 else 0)])) := by
        intro y hy he o ho
        rw [he] at k
        have ho0 := kx.free haa ho
        refine k _ o ha aa (KeepX.keepL (fun b u e n => ?_) haa0) (D'.mono (same_new ho)) (.inl rfl) ho0 ?_
        · rw [upd_ne (ne_of_none e ho0)]
          exact kx b u e n
        · rw [upd_same, hy]
          cases y <;> rfl
      refine ⟨_, rfl, c', _, rfl, .inl (SqL.of hc'), _, _, rfl, rfl, _, rfl, ?_⟩
      cases hb : Uw86.better d' with
      | none =>
        rw [hb] at hc'
        refine iteF (iteF ?_)
        have e0 : Uw86.improved n d = (j, d') := by
          rw [hi]
          have : Uw86.improved (n - j) d' = (0, d') := by
            cases n - j with
            | zero => rfl
            | succ z =>
              unfold Uw86.improved
              rw [hb]
          rw [this, Nat.zero_add]
        refine ⟨_, rfl, _, rfl, c', _, rfl, .inl (SqL.of hc'), _, _, rfl, rfl, _, rfl, iteF ⟨line2, fun o ho => fin false (by rw [hb]; rfl) e0 o ho⟩⟩
      | some x =>
        rw [hb] at hc'
        obtain ⟨b1, b2, b3, b4⟩ := better_may hb
        obtain ⟨m, i, t⟩ := x
        refine iteT ⟨_, rfl, _, rfl, _, _, rfl, rfl, _, rfl, ?_⟩
        by_cases hjn : j < n
        · refine ite2 (fun _ => ?_) (fun z => absurd (decide_eq_true (by omega)) z)
          have a0 : atI (changeL (some (m, i, t))) 0 = some (nv m) := at_getD (l := [m, i, t]) (j := 0) (by simp)
          have a1 : atI (changeL (some (m, i, t))) 1 = some (nv i) := at_getD (l := [m, i, t]) (j := 1) (by simp)
          have a2 : atI (changeL (some (m, i, t))) 2 = some (nv t) := at_getD (l := [m, i, t]) (j := 2) (by simp)
          refine ⟨_, rfl, c', _, _, _, rfl, rfl, SqL.of hc', a2, _, rfl, p, C, dx, _, _, rfl, hp, TC.cl, TC.nA, df_a _ _ _, _, rfl, c', _, _, _, rfl, rfl, SqL.of hc', a0, _, rfl, c', _, _, _, rfl, rfl, SqL.of hc', a1, line2, fun q hq => ?_⟩
          have s2 := same_new (o := .tup [nv m, nv i]) hq
          refine ⟨aa, _, rfl, DPut.t (k := key m i) (s2 _ _ haa) upd_same (small_len (Nat.le_trans hA.len (by decide))), ?_⟩
          have D2 := duel_put D' haa hA s2 b1 b2 b3 b4
          have kx2 : KeepX aa H (upd (upd H2 q (.tup [nv m, nv i])) aa (.dT (putK akv (key m i) (nv t)))) := fun b o e n => by
            rw [upd_ne n]
            exact s2 _ _ (kx b o e n)
          refine ⟨_, rfl, _, _, rfl, rfl, ?_⟩
          refine ⟨_, rfl, p, _, rfl, ⟨ha, aa, D2⟩, fun H3 c3 s3 hc3 hc33 => ?_⟩
          have ej : (j : Int) + 1 = ((j + 1 : Nat) : Int) := by omega
          refine ⟨⟨j + 1, _, c3, by dsimp only; rw [ej]; rfl, D2.mono s3, kx2.trans (KeepX.of s3), hc33, hjn, ?_⟩, ?_⟩
          · rw [hi]
            have e1 : n - j = (n - (j + 1)) + 1 := by omega
            rw [e1]
            have e2 : Uw86.improved (n - (j + 1) + 1) d' = ((Uw86.improved (n - (j + 1)) (Uw86.withAim d' m i t)).1 + 1, (Uw86.improved (n - (j + 1)) (Uw86.withAim d' m i t)).2) := by
              rw [Uw86.improved, hb]
            rw [e2]
            refine Prod.ext ?_ rfl
            show (Uw86.improved (n - (j + 1)) (Uw86.withAim d' m i t)).1 + 1 + j = (Uw86.improved (n - (j + 1)) (Uw86.withAim d' m i t)).1 + (j + 1)
            omega
          · show n - ((j : Int) + 1).toNat < n - ((j : Nat) : Int).toNat
            omega
        · refine ite2 (fun z => absurd (of_decide_eq_true z) (by omega)) (fun _ => ?_)
          have ejn : j = n := by omega
          have e0 : Uw86.improved n d = (j, d') := by
            rw [hi, ejn, Nat.sub_self]
            show (0 + n, d') = (n, d')
            rw [Nat.zero_add]
          refine ⟨_, rfl, _, rfl, c', _, rfl, .inl (SqL.of hc'), _, _, rfl, rfl, _, rfl, iteT ⟨line2, fun o ho => fin true (by rw [hb]; rfl) e0 o ho⟩⟩
    · rintro σ H' R R' mono ⟨v, e, a, l, e1, e2, i, i', e3, e4, kk, e5, q⟩
      refine ⟨v, e, a, l, e1, e2, i, i', e3, e4, kk, e5, ?_⟩
      by_cases hk : kk = true
      · rw [if_pos hk] at q ⊢
        obtain ⟨u1, g1, u2, g2, x1, x2, g3, g4, kk2, g5, q⟩ := q
        exact ⟨u1, g1, u2, g2, x1, x2, g3, g4, kk2, g5, mono _ _ q⟩
      · rw [if_neg hk] at q ⊢
        exact mono _ _ q
end
end Du
set_option Elab.async false
set_option linter.all false
set_option maxRecDepth 100000
set_option maxHeartbeats 2000000
set_option exponentiation.threshold 5000
namespace Du
open PySem PySem.Spec PyProof.Rows L2
/-! ### best -/
def spABest (C : Addr) : Sp := fun vs H Q _ => ∃ (p ha aa : Addr) (d : Uw86.Duel) (m i : Nat), vs = [.ref p, nv m, nv i] ∧ DuelIs C H p ha aa d ∧ Ans C H p ha (Uw86.step d (.best m i)) Q
theorem more_frac {i : Nat} {ws bs : List Nat} (hw : 0 < ws.sum) (hb : 0 < bs.sum) : moreW i ws bs = Uw86.less (Uw86.frac (bs.getD i 0) bs.sum) (Uw86.frac (ws.getD i 0) ws.sum) := by
  rw [DM.less_frac hb hw]
  rfl
theorem sure_other {n i : Nat} (h : i < n) : (DM.sure n n).getD i 0 = 0 := by
  unfold DM.sure
  rw [List.getD_eq_getElem?_getD, List.getElem?_set_ne (by omega), List.getElem?_replicate]
  split <;> rfl
section
variable {P : Program} {w : World} {K : PySem.W.Frag} {mg : Str → Option Value} {base : Heap} {C : Addr}
theorem sc_abest : FnScope ["duel", "group", "shot", "refused", "known", "greatest", "best", "to", "weights"] ["duel", "group", "shot"] (defScope sABest) := ⟨rfl, rfl, rfl, by decide +kernel, rfl, by decide +kernel, by decide +kernel⟩
theorem ok_abest {f fR fN fS fY fC fD fL : Addr} {fd fdR fdN fdS fdY fdC fdD fdL : FuncData} (A : Dfn K mg "answer_best" sABest ["duel", "group", "shot"] f fd) (T : Txt K mg) (TC : TCls K mg C) (AR : Dfn K mg "refusal" sRefusal ["duel", "group", "shot"] fR fdR) (GR : FnOk P w K mg base CX0 3 fR fdR ["duel", "group", "shot"] (spRefusal C))
    (AN : Dfn K mg "known_chances" sKnown ["duel", "top"] fN fdN) (GN : FnOk P w K mg base CX0 6 fN fdN ["duel", "top"] (spKnown C)) (AS : Dfn K mg "surely" sSurely ["duel", "place"] fS fdS) (AY : Dfn K mg "possible_aims" sMay ["duel", "group", "shot"] fY fdY) (GY : FnOk P w K mg base CX0 2 fY fdY ["duel", "group", "shot"] (spMay C))
    (AC : Dfn K mg "chances" sChances ["duel", "known", "group", "first", "own"] fC fdC) (GC : FnOk P w K mg base CX0 5 fC fdC ["duel", "known", "group", "first", "own"] (spChances C)) (AD : Dfn K mg "does_better" sDoes ["shot", "weights", "before"] fD fdD)
    (AL : Dfn K mg "lowest_terms" sLow ["above", "below"] fL fdL) (GL : FnOk P w K mg base CX0 2 fL fdL ["above", "below"] spLow) : FnOk P w K mg base CX0 8 f fd ["duel", "group", "shot"] (spABest C) := by
  have GS : FnOk P w K mg base CX0 1 fS fdS ["duel", "place"] (spSurely C) := ok_surely AS T TC
  have GD : FnOk P w K mg base CX0 1 fD fdD ["shot", "weights", "before"] spDoes := ok_does AD T
  refine A.F.ok sc_abest (fun vs H Q E h => ?_) (fun cdv A outer s H vs Q E hr h => ?_)
  · obtain ⟨p, ha, aa, d, m, i, rfl, _⟩ := h
    rfl
  · obtain ⟨p, ha, aa, d, m, i, rfl, D, k⟩ := h
    obtain ⟨dx, hp⟩ := D.obj
    have n4 := D.ok.n4
    refine ⟨_, pss_cons (ps_set (i := 3) sc_abest.nd rfl (Or.inl rfl) (pe_f AR GR hr (pa_cons (pv 0) (pa_cons (pv 1) (pa_cons (pv 2) pa_nil)))))
      (pss_cons (ps_if (pt_cmpR op_lt (pv 3) pe_int (nomark _)) (pss_one (ps_ret (pe_lst (pa_cons (pv 3) pa_nil)))) pss_nil)
      (pss_cons (ps_set (i := 4) sc_abest.nd rfl (Or.inl rfl) (pe_f AN GN hr (pa_cons (pv 0) (pa_cons (pv 1) pa_nil))))
      (pss_cons (ps_set (i := 5) sc_abest.nd rfl (Or.inl rfl) (pe_f AS GS hr (pa_cons (pv 0) (pa_cons (pe_callB call_len_seq (by rfl) T.len PySem.boot_len (pa_cons (pe_fld (pv 0) rfl) pa_nil)) pa_nil))))
      (pss_cons (ps_set (i := 6) sc_abest.nd rfl (Or.inl rfl) (pe_lst pa_nil))
      (pss_cons (ps_for PassesOwn.never rfl (pi_list (pe_f AY GY hr (pa_cons (pv 0) (pa_cons (pv 1) (pa_cons (pv 2) pa_nil))))) (pg_name (i := 7) sc_abest.nd rfl (Or.inl rfl))
        (pss_cons (ps_set (i := 8) sc_abest.nd rfl (Or.inl rfl) (pe_f AC GC hr (pa_cons (pv 0) (pa_cons (pv 4) (pa_cons (pv 1) (pa_cons (pv 2) (pa_cons (pv 7) pa_nil)))))))
        (pss_cons (ps_if (pt_val (pe_f AD GD hr (pa_cons (pv 2) (pa_cons (pv 8) (pa_cons (pv 5) pa_nil))))) (pss_cons (ps_set (i := 5) sc_abest.nd rfl (Or.inl rfl) (pv 8)) (pss_one (ps_set (i := 6) sc_abest.nd rfl (Or.inl rfl) (pe_lst pa_nil)))) pss_nil)
        (pss_one (ps_if (pt_not (pt_val (pe_f AD GD hr (pa_cons (pv 2) (pa_cons (pv 5) (pa_cons (pv 8) pa_nil)))))) (pss_one (ps_expr (pe_bm PySem.F.plainAttrs_list PySem.F.slot_list_append PySem.F.type_list_append mt_append (pv 6) (pa_cons (pv 7) pa_nil)))) pss_nil)))))
      (pss_one (ps_ret (pe_op op_cat (pe_op op_cat (pe_lst (pa_cons (pe_callB call_len_seq (by rfl) T.len PySem.boot_len (pa_cons (pv 6) pa_nil)) pa_nil)) (pv 6))
        (pe_f AL GL hr (pa_cons (pe_ix ix_list (pv 5) (pv 2) (fun _ _ => rfl)) (pa_cons (pe_callB (cr_sum rfl) (by rfl) T.sum boot_sum (pa_cons (pv 5) pa_nil)) pa_nil)))))))))))  , ?_⟩
    refine ⟨_, rfl, _, rfl, _, rfl, p, d, m, i, rfl, ⟨ha, aa, D⟩, fun H1 s1 => ⟨_, rfl, _, _, rfl, rfl, _, rfl, ?_⟩⟩
    have es : Uw86.step d (.best m i) = (d, if Uw86.isSet d m = false then [-1] else if Uw86.isIn m i = false then [-2] else Uw86.ints ((Uw86.best d m i).1.length :: (Uw86.best d m i).1) ++ Uw86.told [(Uw86.best d m i).2]) := rfl
    rw [es] at k
    unfold refN
    cases hs : Uw86.isSet d m with
    | false =>
      rw [if_pos hs] at k
      rw [if_pos rfl]
      exact iteT ⟨_, rfl, line1, fun q hq => k.same D s1 hq⟩
    | true =>
    rw [if_neg (by rw [hs]; decide)] at k
    rw [if_neg (by decide)]
    obtain ⟨hm, hc⟩ := isSet_iff.mp hs
    cases hi : Uw86.isIn m i with
    | false =>
      rw [if_pos hi] at k
      rw [if_pos rfl]
      exact iteT ⟨_, rfl, line1, fun q hq => k.same D s1 hq⟩
    | true =>
    rw [if_neg (by rw [hi]; decide)] at k
    rw [if_neg (by decide)]
    have hi' := DM.isIn_lt hm hi
    have yl := may_len5 (d := d) (m := m) (i := i) n4
    -- known
    refine iteF ⟨_, rfl, _, rfl, p, d, m, rfl, ⟨ha, aa, D.mono s1⟩, hm, fun Hk a sk hka hK => ?_⟩
    have s0k := s1.trans sk
    -- greatest
    refine ⟨_, rfl, _, rfl, p, C, dx, _, _, rfl, s0k _ _ hp, TC.cl, TC.nH, df_h _ _ _, ha, _, rfl, .inl (SqL.of (s0k _ _ D.hits)), p, d, Uw86.count d, by rw [List.length_map]; rfl, ⟨ha, aa, D.mono s0k⟩, Nat.le_refl _, fun H2 g0 s2 hg0 hg02 => ?_⟩
    have s02 := s0k.trans s2
    -- best
    refine ⟨Nat.zero_le _, fun b0 hb0 => ?_⟩
    have s3 := same_new (o := .lst []) hb0
    have s03 := s02.trans s3
    refine ⟨_, rfl, _, rfl, _, rfl, p, d, m, i, rfl, ⟨ha, aa, D.mono s03⟩, hm, fun H4 o s4 ho ho4 => ?_⟩
    have hK2 : KnownAt H2 a d (Below (m + 1)) 100 := let ⟨kvs, wa, ws, z⟩ := hK; ⟨kvs, wa, ws, z.mono s2⟩
    have gg : ∀ x ∈ Uw86.mayAim d m i, ∀ w0, WOk (Uw86.withAim d m i x) m i w0 → Uw86.gain d m i x = Uw86.frac (w0.getD i 0) w0.sum := fun x hx w0 hw => DM.gain_rep hw.rep
    refine ⟨o, rfl, ⟨_, SqL.of ho4⟩, for_list (K := K) (a := o) (xs := (Uw86.mayAim d m i).map nv) (fun j σ H' => ∃ (v7 v8 : Option V) (gA bA : Addr) (gw bs : List Nat), σ = [some (.ref p), some (nv m), some (nv i), some (.int 0), some (.ref a), some (.ref gA), some (.ref bA), v7, v8] ∧ Same H2 H' ∧ H' o = some (.lst ((Uw86.mayAim d m i).map nv)) ∧
        H2 bA = none ∧ gA ≠ bA ∧ o ≠ bA ∧ H' gA = some (.lst (gw.map nv)) ∧ H' bA = some (.lst (bs.map nv)) ∧ gw.length = Uw86.count d + 1 ∧ 0 < gw.sum ∧ gw.sum < 2 ^ 2000 ∧ (∀ x ∈ (Uw86.mayAim d m i).take j, DM.Good (Uw86.gain d m i x)) ∧
        DM.Top (Uw86.gain d m i) ((Uw86.mayAim d m i).take j) (Uw86.frac (gw.getD i 0) gw.sum) bs)
      ⟨none, none, g0, b0, DM.sure (Uw86.count d) (Uw86.count d), [], rfl, s3.trans s4, ho4, hb0, ne_of_none hg02 hb0, ?_, s4 _ _ (s3 _ _ hg02), s4 _ _ upd_same, DM.len_sure, by rw [DM.sum_sure (Nat.le_refl _)]; decide, by rw [DM.sum_sure (Nat.le_refl _)]; exact Nat.one_lt_two_pow (by decide), (fun x hx => by rw [List.take_zero] at hx; cases hx), ?_⟩ (fun j σ H' _ ⟨_, _, _, _, _, _, _, _, z, _⟩ => SqL.of z) ?_ ?_⟩
    · intro z
      rw [z, upd_same] at ho
      cases ho
    · rw [sure_other hi', DM.sum_sure (Nat.le_refl _)]
      exact DM.Top.nil _
    · rintro j y σ H5 hj ⟨v7, v8, gA, bA, gw, bs, rfl, s5, ho5, hbA, hgb, hob, hg5, hb5, gl, gp, gs, hgood, hT⟩
      obtain ⟨x, hx, rfl⟩ := of_nv hj
      have hxm := List.mem_of_getElem? hx
      have s05 := s02.trans s5
      obtain ⟨kvs, wa, ws, hK5⟩ := hK2
      have hbl : bs.length ≤ 5 := by
        rw [hT.bs]
        exact Nat.le_trans (List.length_filter_le _ _) (Nat.le_trans (List.length_take_le' _ _) yl)
      refine ⟨_, rfl, _, rfl, _, rfl, _, rfl, _, rfl, p, a, d, m, i, x, 100, rfl, ⟨ha, aa, D.mono s05⟩, ⟨kvs, wa, ws, (hK5.mono s5).imp (fun m' i' ⟨q1, q2, q3⟩ => ⟨q1, by omega, q3⟩) (Nat.le_refl _)⟩, hm, hi, hc, hxm, fun H6 r w0 s6 hr6 hr66 hw => ?_⟩
      have hgx := gg x hxm w0 hw
      have wp := hw.rep.pos
      have wl : w0.length = Uw86.count d + 1 := hw.len
      have wsm := hw.small n4
      have good : DM.Good (Uw86.gain d m i x) := by
        rw [hgx]
        exact DM.frac_good wp
      have hgood' : ∀ z ∈ (Uw86.mayAim d m i).take (j + 1), DM.Good (Uw86.gain d m i z) := fun z hz => by
        rw [take_snoc hx, List.mem_append, List.mem_singleton] at hz
        rcases hz with hz | rfl
        · exact hgood z hz
        · exact good
      refine ⟨_, rfl, _, rfl, _, rfl, i, r, gA, w0, gw, rfl, hr66, s6 _ _ hg5, by omega, by omega, wsm, gs, _, rfl, ?_⟩
      rw [more_frac wp gp, ← hgx]
      cases hb : Uw86.less (Uw86.frac (gw.getD i 0) gw.sum) (Uw86.gain d m i x) with
      | true =>
        refine iteT ⟨_, rfl, Nat.zero_le _, fun b2 hb2 => ?_⟩
        have s7 := same_new (o := .lst []) hb2
        refine ⟨_, rfl, _, rfl, _, rfl, i, r, r, w0, w0, rfl, s7 _ _ hr66, s7 _ _ hr66, by omega, by omega, wsm, wsm, _, rfl, ?_⟩
        rw [more_frac wp wp, less_self]
        have hT2 := hT.more hgood good hb
        refine iteT ⟨_, rfl, .inl ⟨rfl, _, SqL.of upd_same⟩, _, rfl, b2, _, _, rfl, rfl, upd_same, small_len (by simp), ?_⟩
        have f2 : H2 b2 = none := (s5.trans s6).free hb2
        have rb : r ≠ b2 := ne_of_none hr66 hb2
        have ob : o ≠ b2 := ne_of_none (s6 _ _ ho5) hb2
        refine ⟨_, _, r, b2, w0, [x], rfl, same_upd (same_upd (s5.trans s6) f2) f2, ?_, f2, rb, ob, ?_, ?_, wl, wp, wsm, hgood', ?_⟩
        · rw [upd_ne ob, upd_ne ob]
          exact s6 _ _ ho5
        · rw [upd_ne rb, upd_ne rb]
          exact hr66
        · rw [upd_same]
          rfl
        · rw [take_snoc hx, ← hgx]
          exact hT2
      | false =>
        refine iteF ?_
        refine ⟨_, rfl, _, rfl, _, rfl, i, gA, r, gw, w0, rfl, s6 _ _ hg5, hr66, by omega, by omega, gs, wsm, _, rfl, ?_⟩
        rw [more_frac gp wp, ← hgx]
        have hT2 := hT.less good hb
        cases hb2 : Uw86.less (Uw86.gain d m i x) (Uw86.frac (gw.getD i 0) gw.sum) with
        | true =>
          rw [if_pos hb2] at hT2
          refine iteF ⟨_, _, gA, bA, gw, bs, rfl, s5.trans s6, s6 _ _ ho5, hbA, hgb, hob, s6 _ _ hg5, s6 _ _ hb5, gl, gp, gs, hgood', ?_⟩
          rw [take_snoc hx]
          exact hT2
        | false =>
          rw [if_neg (by rw [hb2]; decide)] at hT2
          have hb6 := s6 _ _ hb5
          refine iteT ⟨_, rfl, .inl ⟨rfl, _, SqL.of hb6⟩, _, rfl, bA, _, _, rfl, rfl, hb6, small_len (by rw [List.length_map]; omega), ?_⟩
          refine ⟨_, _, gA, bA, gw, bs ++ [x], rfl, same_upd (s5.trans s6) hbA, ?_, hbA, hgb, hob, ?_, ?_, gl, gp, gs, hgood', ?_⟩
          · rw [upd_ne hob]
            exact s6 _ _ ho5
          · rw [upd_ne hgb]
            exact s6 _ _ hg5
          · rw [upd_same, List.map_append]
            rfl
          · rw [take_snoc hx]
            exact hT2
    · rintro σ H5 ⟨v7, v8, gA, bA, gw, bs, rfl, s5, ho5, hbA, hgb, hob, hg5, hb5, gl, gp, gs, hgood, hT⟩
      rw [List.length_map, List.take_length] at hT
      rw [hT.best] at k
      have hbl : bs.length ≤ 5 := by
        rw [hT.bs]
        exact Nat.le_trans (List.length_filter_le _ _) yl
      have s05 := s02.trans s5
      refine ⟨_, rfl, bA, _, rfl, .inl (SqL.of hb5), line1, fun l1 hl1 => ?_⟩
      have s6 := same_new (o := .lst [V.int ((bs.map nv).length : Int)]) hl1
      refine ⟨_, rfl, l1, bA, _, _, rfl, rfl, upd_same, s6 _ _ hb5, Nat.le_of_lt (small_len (by rw [List.length_map]; simp only [List.length_cons, List.length_nil]; omega)), fun l2 hl2 => ?_⟩
      have s7 := same_new (o := .lst ([V.int ((bs.map nv).length : Int)] ++ bs.map nv)) hl2
      have s57 := s6.trans s7
      have s07 := s05.trans s57
      refine ⟨_, rfl, _, rfl, gA, _, _, _, rfl, rfl, SqL.of (s57 _ _ hg5), at_getD (by omega), _, rfl, gA, gw.map (fun (n : Nat) => (n : Int)), rfl, by rw [map_cast]; exact SqL.of (s57 _ _ hg5), ?_⟩
      rw [sum_cast]
      refine ⟨gw.getD i 0, gw.sum, rfl, gp, Nat.lt_of_lt_of_le gs (Nat.pow_le_pow_right (by decide) (by decide)), fun H8 l3 s8 hl3 hl33 => ?_⟩
      refine ⟨l2, l3, _, _, rfl, rfl, s8 _ _ upd_same, hl33, Nat.le_of_lt (small_len (by rw [List.length_append, List.length_map]; simp only [List.length_cons, List.length_nil]; omega)), fun q hq => ?_⟩
      have fin := k.same D (s07.trans s8) hq
      have e : (Uw86.ints (bs.length :: bs) ++ Uw86.told [Uw86.frac (gw.getD i 0) gw.sum]).map V.int = ([V.int ((bs.map nv).length : Int)] ++ bs.map nv) ++ [nv (gw.getD i 0 / Nat.gcd (gw.getD i 0) gw.sum), nv (gw.sum / Nat.gcd (gw.getD i 0) gw.sum)] := by
        have h1 := toldW_eq gp [gw.getD i 0]
        rw [List.map_append]
        have h2 : (Uw86.told [Uw86.frac (gw.getD i 0) gw.sum]).map V.int = toldW gw.sum [gw.getD i 0] := h1.symm
        rw [h2, List.length_map]
        congr 1
        unfold Uw86.ints
        rw [List.map_cons, List.map_cons, List.map_map]
        rfl
      rw [e] at fin
      exact fin
end
end Du
set_option Elab.async false
set_option linter.all false
set_option maxRecDepth 100000
set_option maxHeartbeats 2000000
set_option exponentiation.threshold 5000
namespace Du
open PySem PySem.Spec PyProof.Rows L2
/-! ### air -/
theorem lc_valsT {d : Addr} {o : Obj} {kvs : List (List Key × V)} {g : TG} {tt : TT} {te : TE} {vs : List Nat} {σ : L2.St} {H1 : Hp} {D : Addr} {Qd : Hp → Prop} (Pv : Nat → Hp → Prop) (h0 : Pv 0 (upd H1 D (.lst []))) (hl : ∀ i H, i ≤ kvs.length → Pv i H → H d = some (.frz o (.dT kvs)))
    (hs : ∀ i k x H, kvs[i]? = some (k, x) → Pv i H → g x (wipe σ vs) H fun σ2 H2 => wipe σ2 vs = wipe σ vs ∧ tt σ2 H2 fun b H3 => if b = true then te σ2 H3 fun y H4 => ∃ acc, H4 D = some (.lst acc) ∧ acc.length < sizeLine ∧ Pv (i + 1) (upd H4 D (.lst (acc ++ [y]))) else Pv (i + 1) H3)
    (hd : ∀ H, Pv kvs.length H → Qd H) :
    ∃ W : Nat → Nat → Hp → Prop, (∃ m, W 0 m (upd H1 D (.lst []))) ∧ ∀ i m H, W i m H → ((Itvt d o kvs).stop i H ∧ Qd H) ∨ ((Itvt d o kvs).go i H ∧ ∃ Nx : Hp → Prop, (∀ H', Nx H' → ∃ m', m' < m ∧ W (i + 1) m' H') ∧ ∀ x H', (Itvt d o kvs).yld i H x H' → g x (wipe σ vs) H' fun σ2 H2 => wipe σ2 vs = wipe σ vs ∧ tt σ2 H2 fun b H3 =>
      if b = true then te σ2 H3 fun y H4 => ∃ acc, H4 D = some (.lst acc) ∧ acc.length < sizeLine ∧ Nx (upd H4 D (.lst (acc ++ [y]))) else Nx H3) := by
  refine ⟨fun i m H => m = kvs.length - i ∧ i ≤ kvs.length ∧ Pv i H, ⟨kvs.length, rfl, Nat.zero_le _, h0⟩, ?_⟩
  rintro i m H ⟨rfl, hi, p⟩
  have q := hl i H hi p
  by_cases hlt : i < kvs.length
  · refine .inr ⟨⟨q, hlt⟩, Pv (i + 1), fun H' p' => ⟨kvs.length - (i + 1), by omega, rfl, hlt, p'⟩, fun x H' y => ?_⟩
    obtain ⟨e, k, hk⟩ := y
    subst e
    exact hs i k x _ hk p
  · have e : i = kvs.length := by omega
    subst e
    exact .inl ⟨⟨q, Nat.le_refl _⟩, hd H p⟩
theorem valV_at {κ : Type} [DecidableEq κ] {k : κ} {x : V} : ∀ {kvs : List (κ × V)} {j : Nat}, (kvs.map (·.1)).Nodup → kvs[j]? = some (k, x) → valV kvs k = some x
  | [], j, _, h => by simp at h
  | p :: r, 0, _, h => by
    rw [List.getElem?_cons_zero] at h
    cases h
    exact valV_pos rfl
  | p :: r, j + 1, hn, h => by
    rw [List.getElem?_cons_succ] at h
    rw [List.map_cons, List.nodup_cons] at hn
    have hm : k ∈ r.map (·.1) := List.mem_map.mpr ⟨(k, x), List.mem_of_getElem? h, rfl⟩
    rw [valV_neg (fun e => hn.1 (e ▸ hm))]
    exact valV_at hn.2 h
set_option synthInstance.maxSize 2000 in
theorem keyL_nd {n : Nat} (h2 : 2 ≤ n) (h4 : n ≤ 4) : (keyL n (2 ^ n)).Nodup := by
  have hp : ∀ n : Nat, (prs n).Nodup → (keyL n (2 ^ n)).Nodup := fun n h => by
    rw [keyL_prs]
    refine List.Pairwise.map _ (fun a b hab => ?_) h
    intro e
    have := key_inj.mp e
    exact hab (Prod.ext this.1 this.2)
  rcases DM.n_cases h2 h4 with rfl | rfl | rfl
  · exact hp 2 (by decide +kernel)
  · exact hp 3 (by decide +kernel)
  · exact hp 4 (by decide +kernel)
theorem aims_at {kvs : List (List Key × V)} {n : Nat} {g : Nat → Nat → Nat} (hA : AimsFor kvs n g) (h2 : 2 ≤ n) (h4 : n ≤ 4) {j : Nat} {k : List Key} {x : V} (h : kvs[j]? = some (k, x)) : ∃ m i, (prs n)[j]? = some (m, i) ∧ x = nv (g m i) := by
  have e := congrArg (fun l => l[j]?) (hA.keys.trans (keyL_prs n))
  simp only [List.getElem?_map, h, Option.map_some] at e
  cases hp : (prs n)[j]? with
  | none =>
    rw [hp] at e
    cases e
  | some y =>
    obtain ⟨m, i⟩ := y
    rw [hp] at e
    have ek : k = key m i := Option.some.inj e
    obtain ⟨h5, h6, h7⟩ := mem_prs (List.mem_of_getElem? hp)
    have hv := hA.at_ m i h5 h6 h7
    have hw := valV_at (by rw [hA.keys]; exact keyL_nd h2 h4) h
    rw [ek, hv] at hw
    exact ⟨m, i, rfl, (Option.some.inj hw).symm⟩
theorem flat_len {p : Nat × Nat → Bool} (f : Nat → List Nat) : ∀ l : List Nat, ((l.flatMap fun m => (f m).map fun i => (m, i)).filter p).length = (l.flatMap fun m => (f m).filter fun i => p (m, i)).length
  | [] => rfl
  | m :: l => by
    rw [List.flatMap_cons, List.flatMap_cons, List.filter_append, List.length_append, List.length_append, flat_len f l, List.filter_map, List.length_map]
    rfl
def spAAir (C : Addr) : Sp := fun vs H Q _ => ∃ (p ha aa : Addr) (d : Uw86.Duel), vs = [.ref p] ∧ DuelIs C H p ha aa d ∧ Ans C H p ha (Uw86.step d .air) Q
section
variable {P : Program} {w : World} {K : PySem.W.Frag} {mg : Str → Option Value} {base : Heap} {C : Addr}
theorem sc_aair : FnScope ["duel", "nobody", "to"] ["duel"] (defScope sAAir) := ⟨rfl, rfl, rfl, by decide +kernel, rfl, by decide +kernel, by decide +kernel⟩
theorem ok_aair {f : Addr} {fd : FuncData} (A : Dfn K mg "answer_air" sAAir ["duel"] f fd) (T : Txt K mg) (TC : TCls K mg C) : FnOk P w K mg base CX0 1 f fd ["duel"] (spAAir C) := by
  refine A.F.ok sc_aair (fun vs H Q E h => ?_) (fun cdv A outer s H vs Q E hr h => ?_)
  · obtain ⟨p, ha, aa, d, rfl, _⟩ := h
    rfl
  · obtain ⟨p, ha, aa, d, rfl, D, k⟩ := h
    obtain ⟨dx, hp⟩ := D.obj
    obtain ⟨akv, haa, hA⟩ := D.aims
    refine ⟨_, pss_cons (ps_set (i := 1) sc_aair.nd rfl (Or.inr rfl) (pe_callB call_len_seq (by rfl) T.len PySem.boot_len (pa_cons (pe_fld (pv 0) rfl) pa_nil)))
      (pss_one (ps_ret (pe_lst (pa_cons (pe_callB call_len_seq (by rfl) T.len PySem.boot_len (pa_cons (pe_lock (pe_lc (own := [("to", 2)]) rfl sc_aair.nd (pi_valsT (pe_fld (pv 0) rfl)) (blkOk_by (by rfl)) (fun _ _ _ _ _ => pg_name (i := 2) sc_aair.nd rfl (Or.inl rfl))
        (fun _ _ _ _ _ => pts_one (pt_cmpR op_eq (pv 2) (pv 1) (nomark _))) (fun _ _ _ _ _ => pv 2))) pa_nil)) pa_nil)))), ?_⟩
    refine ⟨_, rfl, p, C, dx, _, _, rfl, hp, TC.cl, TC.nH, df_h _ _ _, ha, _, rfl, .inl (SqL.of D.hits), ?_⟩
    have el : V.int ((d.hits.map nv).length : Int) = nv (Uw86.count d) := by
      rw [List.length_map]
      rfl
    rw [el]
    refine ⟨aa, _, haa, trivial, fun od => ?_⟩
    have pne : p ≠ aa := ne_of hp haa (by intro z; cases z)
    have hlen : akv.length = (prs (Uw86.count d)).length := by
      have := congrArg List.length (hA.keys.trans (keyL_prs _))
      rw [List.length_map, List.length_map] at this
      exact this
    have l64 := hA.len
    refine ⟨_, rfl, p, C, dx, _, _, rfl, by rw [upd_ne pne]; exact hp, TC.cl, TC.nA, df_a _ _ _, aa, od, akv, rfl, upd_same, fun D1 hD1 => ?_⟩
    have hDa : D1 ≠ aa := fun z => by
      rw [z, upd_same] at hD1
      cases hD1
    have hD0 : H D1 = none := by
      rw [upd_ne hDa] at hD1
      exact hD1
    refine lc_valsT (fun j H' => (∀ b u, (upd H aa (.frz od (.dT akv))) b = some u → H' b = some u) ∧ H' D1 = some (.lst ((((prs (Uw86.count d)).take j).filter fun x => Uw86.aimOf d x.1 x.2 == Uw86.count d).map fun x => nv (Uw86.aimOf d x.1 x.2))))
      ⟨fun b u e => by rw [upd_ne (ne_of_none e hD1)]; exact e, upd_same⟩ (fun i H' _ ⟨z, _⟩ => z _ _ upd_same) ?_ ?_
    · rintro j ky y H4 hj ⟨s4, hD4⟩
      obtain ⟨m, i, hx, rfl⟩ := aims_at hA D.ok.n2 D.ok.n4 hj
      have jl := (List.getElem?_eq_some_iff.mp hj).1
      refine ⟨rfl, _, rfl, _, rfl, rfl, _, rfl, ?_⟩
      rw [eq_nv]
      by_cases hb : Uw86.aimOf d m i = Uw86.count d
      · refine ite2 (fun _ => ?_) (fun z => absurd (decide_eq_true hb) z)
        refine ⟨_, rfl, _, hD4, ?_, fun b u e => ?_, ?_⟩
        · rw [List.length_map]
          exact small_len (Nat.le_trans (List.length_filter_le _ _) (Nat.le_trans (List.length_take_le' _ _) (by omega)))
        · rw [upd_ne (ne_of_none e hD1)]
          exact s4 _ _ e
        · rw [upd_same, filter_take hx, if_pos (beq_iff_eq.mpr hb), List.map_append]
          rfl
      · refine ite2 (fun z => absurd (of_decide_eq_true z) hb) (fun _ => ⟨s4, ?_⟩)
        rw [filter_take hx, if_neg (fun z => hb (beq_iff_eq.mp z)), List.append_nil]
        exact hD4
    · rintro H4 ⟨s4, hD4⟩
      rw [hlen, List.take_length] at hD4
      refine ⟨s4 _ _ upd_same, ?_⟩
      -- the dict is free again
      have s5 : Same H (upd H4 aa (.dT akv)) := fun b u e => by
        by_cases hb : b = aa
        · subst hb
          rw [haa] at e
          cases e
          exact upd_same
        · rw [upd_ne hb]
          exact s4 _ _ (by rw [upd_ne hb]; exact e)
      have hD5 : (upd H4 aa (.dT akv)) D1 = some (.lst (((prs (Uw86.count d)).filter fun x => Uw86.aimOf d x.1 x.2 == Uw86.count d).map fun x => nv (Uw86.aimOf d x.1 x.2))) := by
        rw [upd_ne hDa]
        exact hD4
      refine ⟨D1, _, rfl, .inl (SqL.of hD5), line1, fun q hq => ?_⟩
      have es : Uw86.step d .air = (d, [((((Uw86.sets (Uw86.count d)).flatMap fun m => (Uw86.members (Uw86.count d) m).filter fun i => Uw86.aimOf d m i == Uw86.count d).length : Nat) : Int)]) := rfl
      rw [es, ← flat_len (p := fun x => Uw86.aimOf d x.1 x.2 == Uw86.count d)] at k
      have fin := k.same D s5 hq
      rw [List.length_map]
      exact fin
end
end Du
set_option Elab.async false
set_option linter.all false
set_option maxRecDepth 100000
set_option maxHeartbeats 2000000
set_option exponentiation.threshold 5000
namespace Du
open PySem PySem.Spec PyProof.Rows L2
/-! ### one call -/
structure Cst (mg : Str → Option Value) : Prop where
  c0 : Glob mg "CALL_DUEL" (.int 0)
  c1 : Glob mg "CALL_AIM" (.int 1)
  c2 : Glob mg "CALL_AIMS" (.int 2)
  c3 : Glob mg "CALL_ALL" (.int 3)
  c4 : Glob mg "CALL_SET" (.int 4)
  c5 : Glob mg "CALL_BEST" (.int 5)
  c6 : Glob mg "CALL_BETTER" (.int 6)
  c7 : Glob mg "CALL_IMPROVE" (.int 7)
def wholes : List (Int × Int) := [(1, 3), (2, 1), (3, 1), (4, 2), (5, 2), (6, 0), (7, 1), (8, 0)]
theorem at_int {l : List Int} {j : Nat} {z : Int} (h : l[j]? = some z) : atI (l.map V.int) (j : Int) = some (.int z) := atI_nat (by rw [List.getElem?_map, h]; rfl)
theorem nat_in {z : Int} (h : DM.InB z) : ∃ n : Nat, z = (n : Int) := ⟨z.toNat, (Int.toNat_of_nonneg h.1).symm⟩
theorem nats_in : ∀ {l : List Int}, (∀ z ∈ l, DM.InB z) → ∃ ns : List Nat, l = ns.map fun (n : Nat) => (n : Int)
  | [], _ => ⟨[], rfl⟩
  | z :: l, h => by
    obtain ⟨n, rfl⟩ := nat_in (h z List.mem_cons_self)
    obtain ⟨ns, rfl⟩ := nats_in fun x hx => h x (List.mem_cons_of_mem _ hx)
    exact ⟨n :: ns, rfl⟩
theorem toNats (ns : List Nat) : (ns.map fun (n : Nat) => (n : Int)).map Int.toNat = ns := by
  rw [List.map_map]
  exact (List.map_congr_left fun n _ => Int.toNat_natCast n).trans (List.map_id _)
theorem mapNats (ns : List Nat) : (ns.map fun (n : Nat) => (n : Int)).map V.int = ns.map nv := by
  rw [List.map_map]
  rfl
section
variable {P : Program} {w : World} {K : PySem.W.Frag} {mg : Str → Option Value} {base : Heap} {C : Addr}
theorem sc_call : FnScope ["duel", "call"] ["duel", "call"] (defScope sCall) := ⟨rfl, rfl, rfl, by decide +kernel, rfl, by decide +kernel, by decide +kernel⟩
theorem ok_call {f fDu fAm fAs fAl fSe fBe fBt fIm fAi : Addr} {fd fdDu fdAm fdAs fdAl fdSe fdBe fdBt fdIm fdAi : FuncData} (A : Dfn K mg "answer_call" sCall ["duel", "call"] f fd) (S : Cst mg)
    (ADu : Dfn K mg "answer_duel" sADuel ["duel", "below", "hits"] fDu fdDu) (GDu : FnOk P w K mg base CX0 3 fDu fdDu ["duel", "below", "hits"] (spADuel C))
    (AAm : Dfn K mg "answer_aim" sAAim ["duel", "group", "shot", "to"] fAm fdAm) (GAm : FnOk P w K mg base CX0 4 fAm fdAm ["duel", "group", "shot", "to"] (spAAim C))
    (AAs : Dfn K mg "answer_aims" sAAims ["duel", "group"] fAs fdAs) (GAs : FnOk P w K mg base CX0 3 fAs fdAs ["duel", "group"] (spAAims C))
    (AAl : Dfn K mg "answer_all" sAAll ["duel", "first"] fAl fdAl) (GAl : FnOk P w K mg base CX0 8 fAl fdAl ["duel", "first"] (spAAll C))
    (ASe : Dfn K mg "answer_set" sASet ["duel", "group", "first"] fSe fdSe) (GSe : FnOk P w K mg base CX0 8 fSe fdSe ["duel", "group", "first"] (spASet C))
    (ABe : Dfn K mg "answer_best" sABest ["duel", "group", "shot"] fBe fdBe) (GBe : FnOk P w K mg base CX0 8 fBe fdBe ["duel", "group", "shot"] (spABest C))
    (ABt : Dfn K mg "answer_better" sABetter ["duel"] fBt fdBt) (GBt : FnOk P w K mg base CX0 8 fBt fdBt ["duel"] (spABetter C))
    (AIm : Dfn K mg "answer_improve" sAImprove ["duel", "most"] fIm fdIm) (GIm : FnOk P w K mg base CX0 8 fIm fdIm ["duel", "most"] (spAImp C))
    (AAi : Dfn K mg "answer_air" sAAir ["duel"] fAi fdAi) (GAi : FnOk P w K mg base CX0 1 fAi fdAi ["duel"] (spAAir C))
    : FnOk P w K mg base CX0 9 f fd ["duel", "call"] (spCall C) := by
  refine A.F.ok sc_call (fun vs H Q E h => ?_) (fun cdv A outer s H vs Q E hr h => ?_)
  · obtain ⟨p, ha, aa, a, d, fr, k, rfl, _⟩ := h
    rfl
  · obtain ⟨p, ha, aa, a, d, fr, c, rfl, D, hf, hc, k⟩ := h
    refine ⟨_, (pss_cons (ps_if (pt_cmpR op_eq (pe_ix ix_list (pv 1) pe_int (fun _ _ => rfl)) (pe_g S.c0) (nomark _)) (pss_one (ps_ret (pe_f ADu GDu hr (pa_cons (pv 0) (pa_cons (pe_ix ix_list (pv 1) pe_int (fun _ _ => rfl)) (pa_cons (pe_slice sl_list (pv 1) (po_some pe_int) po_none) pa_nil)))))) pss_nil)
      (pss_cons (ps_if (pt_cmpR op_eq (pe_ix ix_list (pv 1) pe_int (fun _ _ => rfl)) (pe_g S.c1) (nomark _)) (pss_one (ps_ret (pe_f AAm GAm hr (pa_cons (pv 0) (pa_cons (pe_ix ix_list (pv 1) pe_int (fun _ _ => rfl)) (pa_cons (pe_ix ix_list (pv 1) pe_int (fun _ _ => rfl)) (pa_cons (pe_ix ix_list (pv 1) pe_int (fun _ _ => rfl)) pa_nil))))))) pss_nil)
      (pss_cons (ps_if (pt_cmpR op_eq (pe_ix ix_list (pv 1) pe_int (fun _ _ => rfl)) (pe_g S.c2) (nomark _)) (pss_one (ps_ret (pe_f AAs GAs hr (pa_cons (pv 0) (pa_cons (pe_ix ix_list (pv 1) pe_int (fun _ _ => rfl)) pa_nil))))) pss_nil)
      (pss_cons (ps_if (pt_cmpR op_eq (pe_ix ix_list (pv 1) pe_int (fun _ _ => rfl)) (pe_g S.c3) (nomark _)) (pss_one (ps_ret (pe_f AAl GAl hr (pa_cons (pv 0) (pa_cons (pe_ix ix_list (pv 1) pe_int (fun _ _ => rfl)) pa_nil))))) pss_nil)
      (pss_cons (ps_if (pt_cmpR op_eq (pe_ix ix_list (pv 1) pe_int (fun _ _ => rfl)) (pe_g S.c4) (nomark _)) (pss_one (ps_ret (pe_f ASe GSe hr (pa_cons (pv 0) (pa_cons (pe_ix ix_list (pv 1) pe_int (fun _ _ => rfl)) (pa_cons (pe_ix ix_list (pv 1) pe_int (fun _ _ => rfl)) pa_nil)))))) pss_nil)
      (pss_cons (ps_if (pt_cmpR op_eq (pe_ix ix_list (pv 1) pe_int (fun _ _ => rfl)) (pe_g S.c5) (nomark _)) (pss_one (ps_ret (pe_f ABe GBe hr (pa_cons (pv 0) (pa_cons (pe_ix ix_list (pv 1) pe_int (fun _ _ => rfl)) (pa_cons (pe_ix ix_list (pv 1) pe_int (fun _ _ => rfl)) pa_nil)))))) pss_nil)
      (pss_cons (ps_if (pt_cmpR op_eq (pe_ix ix_list (pv 1) pe_int (fun _ _ => rfl)) (pe_g S.c6) (nomark _)) (pss_one (ps_ret (pe_f ABt GBt hr (pa_cons (pv 0) pa_nil)))) pss_nil)
      (pss_cons (ps_if (pt_cmpR op_eq (pe_ix ix_list (pv 1) pe_int (fun _ _ => rfl)) (pe_g S.c7) (nomark _)) (pss_one (ps_ret (pe_f AIm GIm hr (pa_cons (pv 0) (pa_cons (pe_ix ix_list (pv 1) pe_int (fun _ _ => rfl)) pa_nil))))) pss_nil)
      (pss_one (ps_ret (pe_f AAi GAi hr (pa_cons (pv 0) pa_nil)))))))))))), ?_⟩
    have sq := SqL.of (K := K) hf
    cases hc with
    | @duel b hits t hb hh hl =>
      obtain ⟨b, rfl⟩ := nat_in hb
      obtain ⟨ns, rfl⟩ := nats_in hh
      rw [Int.toNat_natCast, toNats] at k
      rw [List.append_nil] at hf sq
      have h0 : atI (List.map V.int (0 :: (b : Int) :: ((ns.map fun (n : Nat) => (n : Int)).length : Int) :: (ns.map fun (n : Nat) => (n : Int)))) 0 = some (.int 0) := at_int (j := 0) rfl
      have h1 : atI (List.map V.int (0 :: (b : Int) :: ((ns.map fun (n : Nat) => (n : Int)).length : Int) :: (ns.map fun (n : Nat) => (n : Int)))) 1 = some (.int (b : Int)) := at_int (j := 1) rfl
      refine ⟨_, rfl, a, _, _, _, rfl, rfl, sq, h0, rfl, _, rfl, ite2 (fun _ => ?_) (fun z => absurd (decide_eq_true rfl) z)⟩
      refine ⟨_, rfl, _, rfl, a, _, _, _, rfl, rfl, sq, h1, _, rfl, _, rfl, a, _, rfl, sq, fun q hq => ?_⟩
      have ec : cutV (List.map V.int (0 :: (b : Int) :: ((ns.map fun (n : Nat) => (n : Int)).length : Int) :: (ns.map fun (n : Nat) => (n : Int)))) (some 3) none = ns.map nv := by
        unfold cutV
        have e1 : HT.sIx (List.map V.int (0 :: (b : Int) :: ((ns.map fun (n : Nat) => (n : Int)).length : Int) :: (ns.map fun (n : Nat) => (n : Int)))).length 0 (some 3) = 3 := by
          have := HT.sIx_nat (List.map V.int (0 :: (b : Int) :: ((ns.map fun (n : Nat) => (n : Int)).length : Int) :: (ns.map fun (n : Nat) => (n : Int)))).length 0 3
          simp only [List.length_map, List.length_cons] at this ⊢
          rw [show ((3 : Nat) : Int) = 3 from rfl] at this
          rw [this]
          omega
        rw [e1]
        simp only [List.map_cons, List.drop_succ_cons, List.drop_zero]
        rw [mapNats, List.take_of_length_le]
        show (ns.map nv).length ≤ HT.sIx _ _ none - 3
        have e2 : ∀ n : Nat, HT.sIx n n none = n := fun n => rfl
        rw [e2]
        simp only [List.length_map, List.length_cons]
        omega
      rw [ec]
      have s1 := same_new (o := .lst (ns.map nv)) hq
      refine ⟨p, ha, aa, q, d, b, ns, rfl, D.mono s1, upd_same, fun H2 r ha2 aa2 k2 D2 ho hr hr2 => ?_⟩
      exact k H2 r ha2 aa2 ((KeepL.of s1).trans k2) D2 (ho.imp id fun z => s1.free z) (s1.free hr) hr2
    | @aim s i t t2 hs hi ha2 =>
      obtain ⟨s, rfl⟩ := nat_in hs
      obtain ⟨i, rfl⟩ := nat_in hi
      obtain ⟨t, rfl⟩ := nat_in ha2
      simp only [Int.toNat_natCast] at k
      have h0 : atI (List.map V.int [1, (s : Int), (i : Int), (t : Int)]) 0 = some (.int 1) := at_int (j := 0) rfl
      have h1 : atI (List.map V.int [1, (s : Int), (i : Int), (t : Int)]) 1 = some (.int (s : Int)) := at_int (j := 1) rfl
      have h2 : atI (List.map V.int [1, (s : Int), (i : Int), (t : Int)]) 2 = some (.int (i : Int)) := at_int (j := 2) rfl
      have h3 : atI (List.map V.int [1, (s : Int), (i : Int), (t : Int)]) 3 = some (.int (t : Int)) := at_int (j := 3) rfl
      refine ⟨_, rfl, a, _, _, _, rfl, rfl, sq, h0, rfl, _, rfl, ite2 (fun z => absurd (V.int.inj (of_decide_eq_true z)) (by decide)) (fun _ => ?_)⟩
      refine ⟨_, rfl, a, _, _, _, rfl, rfl, sq, h0, rfl, _, rfl, ite2 (fun _ => ?_) (fun z => absurd (decide_eq_true rfl) z)⟩
      exact ⟨_, rfl, _, rfl, a, _, _, _, rfl, rfl, sq, h1, _, rfl, a, _, _, _, rfl, rfl, sq, h2, _, rfl, a, _, _, _, rfl, rfl, sq, h3, p, ha, aa, d, s, i, t, rfl, D, k⟩
    | @aims s t hs =>
      obtain ⟨s, rfl⟩ := nat_in hs
      simp only [Int.toNat_natCast] at k
      have h0 : atI (List.map V.int [2, (s : Int)]) 0 = some (.int 2) := at_int (j := 0) rfl
      have h1 : atI (List.map V.int [2, (s : Int)]) 1 = some (.int (s : Int)) := at_int (j := 1) rfl
      refine ⟨_, rfl, a, _, _, _, rfl, rfl, sq, h0, rfl, _, rfl, ite2 (fun z => absurd (V.int.inj (of_decide_eq_true z)) (by decide)) (fun _ => ?_)⟩
      refine ⟨_, rfl, a, _, _, _, rfl, rfl, sq, h0, rfl, _, rfl, ite2 (fun z => absurd (V.int.inj (of_decide_eq_true z)) (by decide)) (fun _ => ?_)⟩
      refine ⟨_, rfl, a, _, _, _, rfl, rfl, sq, h0, rfl, _, rfl, ite2 (fun _ => ?_) (fun z => absurd (decide_eq_true rfl) z)⟩
      exact ⟨_, rfl, _, rfl, a, _, _, _, rfl, rfl, sq, h1, p, ha, aa, d, s, rfl, D, k⟩
    | @all i t hi =>
      obtain ⟨i, rfl⟩ := nat_in hi
      simp only [Int.toNat_natCast] at k
      have h0 : atI (List.map V.int [3, (i : Int)]) 0 = some (.int 3) := at_int (j := 0) rfl
      have h1 : atI (List.map V.int [3, (i : Int)]) 1 = some (.int (i : Int)) := at_int (j := 1) rfl
      refine ⟨_, rfl, a, _, _, _, rfl, rfl, sq, h0, rfl, _, rfl, ite2 (fun z => absurd (V.int.inj (of_decide_eq_true z)) (by decide)) (fun _ => ?_)⟩
      refine ⟨_, rfl, a, _, _, _, rfl, rfl, sq, h0, rfl, _, rfl, ite2 (fun z => absurd (V.int.inj (of_decide_eq_true z)) (by decide)) (fun _ => ?_)⟩
      refine ⟨_, rfl, a, _, _, _, rfl, rfl, sq, h0, rfl, _, rfl, ite2 (fun z => absurd (V.int.inj (of_decide_eq_true z)) (by decide)) (fun _ => ?_)⟩
      refine ⟨_, rfl, a, _, _, _, rfl, rfl, sq, h0, rfl, _, rfl, ite2 (fun _ => ?_) (fun z => absurd (decide_eq_true rfl) z)⟩
      exact ⟨_, rfl, _, rfl, a, _, _, _, rfl, rfl, sq, h1, p, ha, aa, d, i, rfl, D, k⟩
    | @set s i t hs hi =>
      obtain ⟨s, rfl⟩ := nat_in hs
      obtain ⟨i, rfl⟩ := nat_in hi
      simp only [Int.toNat_natCast] at k
      have h0 : atI (List.map V.int [4, (s : Int), (i : Int)]) 0 = some (.int 4) := at_int (j := 0) rfl
      have h1 : atI (List.map V.int [4, (s : Int), (i : Int)]) 1 = some (.int (s : Int)) := at_int (j := 1) rfl
      have h2 : atI (List.map V.int [4, (s : Int), (i : Int)]) 2 = some (.int (i : Int)) := at_int (j := 2) rfl
      refine ⟨_, rfl, a, _, _, _, rfl, rfl, sq, h0, rfl, _, rfl, ite2 (fun z => absurd (V.int.inj (of_decide_eq_true z)) (by decide)) (fun _ => ?_)⟩
      refine ⟨_, rfl, a, _, _, _, rfl, rfl, sq, h0, rfl, _, rfl, ite2 (fun z => absurd (V.int.inj (of_decide_eq_true z)) (by decide)) (fun _ => ?_)⟩
      refine ⟨_, rfl, a, _, _, _, rfl, rfl, sq, h0, rfl, _, rfl, ite2 (fun z => absurd (V.int.inj (of_decide_eq_true z)) (by decide)) (fun _ => ?_)⟩
      refine ⟨_, rfl, a, _, _, _, rfl, rfl, sq, h0, rfl, _, rfl, ite2 (fun z => absurd (V.int.inj (of_decide_eq_true z)) (by decide)) (fun _ => ?_)⟩
      refine ⟨_, rfl, a, _, _, _, rfl, rfl, sq, h0, rfl, _, rfl, ite2 (fun _ => ?_) (fun z => absurd (decide_eq_true rfl) z)⟩
      exact ⟨_, rfl, _, rfl, a, _, _, _, rfl, rfl, sq, h1, _, rfl, a, _, _, _, rfl, rfl, sq, h2, p, ha, aa, d, s, i, rfl, D, k⟩
    | @best s i t hs hi =>
      obtain ⟨s, rfl⟩ := nat_in hs
      obtain ⟨i, rfl⟩ := nat_in hi
      simp only [Int.toNat_natCast] at k
      have h0 : atI (List.map V.int [5, (s : Int), (i : Int)]) 0 = some (.int 5) := at_int (j := 0) rfl
      have h1 : atI (List.map V.int [5, (s : Int), (i : Int)]) 1 = some (.int (s : Int)) := at_int (j := 1) rfl
      have h2 : atI (List.map V.int [5, (s : Int), (i : Int)]) 2 = some (.int (i : Int)) := at_int (j := 2) rfl
      refine ⟨_, rfl, a, _, _, _, rfl, rfl, sq, h0, rfl, _, rfl, ite2 (fun z => absurd (V.int.inj (of_decide_eq_true z)) (by decide)) (fun _ => ?_)⟩
      refine ⟨_, rfl, a, _, _, _, rfl, rfl, sq, h0, rfl, _, rfl, ite2 (fun z => absurd (V.int.inj (of_decide_eq_true z)) (by decide)) (fun _ => ?_)⟩
      refine ⟨_, rfl, a, _, _, _, rfl, rfl, sq, h0, rfl, _, rfl, ite2 (fun z => absurd (V.int.inj (of_decide_eq_true z)) (by decide)) (fun _ => ?_)⟩
      refine ⟨_, rfl, a, _, _, _, rfl, rfl, sq, h0, rfl, _, rfl, ite2 (fun z => absurd (V.int.inj (of_decide_eq_true z)) (by decide)) (fun _ => ?_)⟩
      refine ⟨_, rfl, a, _, _, _, rfl, rfl, sq, h0, rfl, _, rfl, ite2 (fun z => absurd (V.int.inj (of_decide_eq_true z)) (by decide)) (fun _ => ?_)⟩
      refine ⟨_, rfl, a, _, _, _, rfl, rfl, sq, h0, rfl, _, rfl, ite2 (fun _ => ?_) (fun z => absurd (decide_eq_true rfl) z)⟩
      exact ⟨_, rfl, _, rfl, a, _, _, _, rfl, rfl, sq, h1, _, rfl, a, _, _, _, rfl, rfl, sq, h2, p, ha, aa, d, s, i, rfl, D, k⟩
    | @better t =>
      have h0 : atI (List.map V.int [6]) 0 = some (.int 6) := at_int (j := 0) rfl
      refine ⟨_, rfl, a, _, _, _, rfl, rfl, sq, h0, rfl, _, rfl, ite2 (fun z => absurd (V.int.inj (of_decide_eq_true z)) (by decide)) (fun _ => ?_)⟩
      refine ⟨_, rfl, a, _, _, _, rfl, rfl, sq, h0, rfl, _, rfl, ite2 (fun z => absurd (V.int.inj (of_decide_eq_true z)) (by decide)) (fun _ => ?_)⟩
      refine ⟨_, rfl, a, _, _, _, rfl, rfl, sq, h0, rfl, _, rfl, ite2 (fun z => absurd (V.int.inj (of_decide_eq_true z)) (by decide)) (fun _ => ?_)⟩
      refine ⟨_, rfl, a, _, _, _, rfl, rfl, sq, h0, rfl, _, rfl, ite2 (fun z => absurd (V.int.inj (of_decide_eq_true z)) (by decide)) (fun _ => ?_)⟩
      refine ⟨_, rfl, a, _, _, _, rfl, rfl, sq, h0, rfl, _, rfl, ite2 (fun z => absurd (V.int.inj (of_decide_eq_true z)) (by decide)) (fun _ => ?_)⟩
      refine ⟨_, rfl, a, _, _, _, rfl, rfl, sq, h0, rfl, _, rfl, ite2 (fun z => absurd (V.int.inj (of_decide_eq_true z)) (by decide)) (fun _ => ?_)⟩
      refine ⟨_, rfl, a, _, _, _, rfl, rfl, sq, h0, rfl, _, rfl, ite2 (fun _ => ?_) (fun z => absurd (decide_eq_true rfl) z)⟩
      exact ⟨_, rfl, p, ha, aa, d, rfl, D, k⟩
    | @improve n t hn =>
      obtain ⟨n, rfl⟩ := nat_in hn
      simp only [Int.toNat_natCast] at k
      have h0 : atI (List.map V.int [7, (n : Int)]) 0 = some (.int 7) := at_int (j := 0) rfl
      have h1 : atI (List.map V.int [7, (n : Int)]) 1 = some (.int (n : Int)) := at_int (j := 1) rfl
      refine ⟨_, rfl, a, _, _, _, rfl, rfl, sq, h0, rfl, _, rfl, ite2 (fun z => absurd (V.int.inj (of_decide_eq_true z)) (by decide)) (fun _ => ?_)⟩
      refine ⟨_, rfl, a, _, _, _, rfl, rfl, sq, h0, rfl, _, rfl, ite2 (fun z => absurd (V.int.inj (of_decide_eq_true z)) (by decide)) (fun _ => ?_)⟩
      refine ⟨_, rfl, a, _, _, _, rfl, rfl, sq, h0, rfl, _, rfl, ite2 (fun z => absurd (V.int.inj (of_decide_eq_true z)) (by decide)) (fun _ => ?_)⟩
      refine ⟨_, rfl, a, _, _, _, rfl, rfl, sq, h0, rfl, _, rfl, ite2 (fun z => absurd (V.int.inj (of_decide_eq_true z)) (by decide)) (fun _ => ?_)⟩
      refine ⟨_, rfl, a, _, _, _, rfl, rfl, sq, h0, rfl, _, rfl, ite2 (fun z => absurd (V.int.inj (of_decide_eq_true z)) (by decide)) (fun _ => ?_)⟩
      refine ⟨_, rfl, a, _, _, _, rfl, rfl, sq, h0, rfl, _, rfl, ite2 (fun z => absurd (V.int.inj (of_decide_eq_true z)) (by decide)) (fun _ => ?_)⟩
      refine ⟨_, rfl, a, _, _, _, rfl, rfl, sq, h0, rfl, _, rfl, ite2 (fun z => absurd (V.int.inj (of_decide_eq_true z)) (by decide)) (fun _ => ?_)⟩
      refine ⟨_, rfl, a, _, _, _, rfl, rfl, sq, h0, rfl, _, rfl, ite2 (fun _ => ?_) (fun z => absurd (decide_eq_true rfl) z)⟩
      exact ⟨_, rfl, _, rfl, a, _, _, _, rfl, rfl, sq, h1, p, ha, aa, d, n, rfl, D, k⟩
    | @air t =>
      have h0 : atI (List.map V.int [8]) 0 = some (.int 8) := at_int (j := 0) rfl
      refine ⟨_, rfl, a, _, _, _, rfl, rfl, sq, h0, rfl, _, rfl, ite2 (fun z => absurd (V.int.inj (of_decide_eq_true z)) (by decide)) (fun _ => ?_)⟩
      refine ⟨_, rfl, a, _, _, _, rfl, rfl, sq, h0, rfl, _, rfl, ite2 (fun z => absurd (V.int.inj (of_decide_eq_true z)) (by decide)) (fun _ => ?_)⟩
      refine ⟨_, rfl, a, _, _, _, rfl, rfl, sq, h0, rfl, _, rfl, ite2 (fun z => absurd (V.int.inj (of_decide_eq_true z)) (by decide)) (fun _ => ?_)⟩
      refine ⟨_, rfl, a, _, _, _, rfl, rfl, sq, h0, rfl, _, rfl, ite2 (fun z => absurd (V.int.inj (of_decide_eq_true z)) (by decide)) (fun _ => ?_)⟩
      refine ⟨_, rfl, a, _, _, _, rfl, rfl, sq, h0, rfl, _, rfl, ite2 (fun z => absurd (V.int.inj (of_decide_eq_true z)) (by decide)) (fun _ => ?_)⟩
      refine ⟨_, rfl, a, _, _, _, rfl, rfl, sq, h0, rfl, _, rfl, ite2 (fun z => absurd (V.int.inj (of_decide_eq_true z)) (by decide)) (fun _ => ?_)⟩
      refine ⟨_, rfl, a, _, _, _, rfl, rfl, sq, h0, rfl, _, rfl, ite2 (fun z => absurd (V.int.inj (of_decide_eq_true z)) (by decide)) (fun _ => ?_)⟩
      refine ⟨_, rfl, a, _, _, _, rfl, rfl, sq, h0, rfl, _, rfl, ite2 (fun z => absurd (V.int.inj (of_decide_eq_true z)) (by decide)) (fun _ => ?_)⟩
      exact ⟨_, rfl, p, ha, aa, d, rfl, D, k⟩
theorem sc_len : FnScope ["calls", "start"] ["calls", "start"] (defScope sLen) := ⟨rfl, rfl, rfl, by decide +kernel, rfl, by decide +kernel, by decide +kernel⟩
theorem drop_at {l f t : List Int} {st j : Nat} {z : Int} (h : l.drop st = f ++ t) (hz : f[j]? = some z) : l[st + j]? = some z := by
  have hj : j < f.length := (List.getElem?_eq_some_iff.mp hz).1
  rw [← List.getElem?_drop, h, List.getElem?_append_left hj]
  exact hz
theorem ok_len {f tb : Addr} {fd : FuncData} (A : Dfn K mg "call_length" sLen ["calls", "start"] f fd) (S : Cst mg) (hg : mg "WHOLE_NUMBERS" = some (.ref tb)) (tab : Tab K tb wholes) : FnOk P w K mg base CX0 1 f fd ["calls", "start"] (spLen K) := by
  refine A.F.ok sc_len (fun vs H Q E h => ?_) (fun cdv A outer s H vs Q E hr h => ?_)
  · obtain ⟨a, l, fr, t, st, k, rfl, _⟩ := h
    rfl
  · obtain ⟨a, l, fr, t, st, c, rfl, sq, hd, hc, k⟩ := h
    refine ⟨_, pss_cons (ps_if (pt_cmpR op_eq (pe_ix ix_list (pv 0) (pv 1) (fun _ _ => rfl)) (pe_g S.c0) (nomark _)) (pss_one (ps_ret (pe_op op_add pe_int (pe_ix ix_list (pv 0) (pe_op op_add (pv 1) pe_int) (fun _ _ => rfl))))) pss_nil)
      (pss_one (ps_ret (pe_op op_add pe_int (pe_tab hg tab (pe_ix ix_list (pv 0) (pv 1) (fun _ _ => rfl)))))), ?_⟩
    have h0 : ∀ n : Int, fr[0]? = some n → atI (l.map V.int) (st : Int) = some (.int n) := fun n hn => at_int (j := st) (drop_at (j := 0) hd hn)
    cases hc with
    | @duel b hits t2 hb hh hl =>
      have h2 : atI (l.map V.int) ((st : Int) + 2) = some (.int (hits.length : Int)) := at_int (j := st + 2) (drop_at (j := 2) hd rfl)
      refine ⟨_, rfl, _, rfl, a, _, _, _, rfl, rfl, sq, h0 0 rfl, rfl, _, rfl, ite2 (fun _ => ?_) (fun z => absurd (decide_eq_true rfl) z)⟩
      refine ⟨_, rfl, _, rfl, _, _, rfl, rfl, a, _, _, _, rfl, rfl, sq, h2, _, _, rfl, rfl, ?_⟩
      have e : (3 : Int) + (hits.length : Int) = ((0 :: b :: (hits.length : Int) :: (hits ++ [])).length : Int) := by
        simp only [List.append_nil, List.length_cons]
        omega
      dsimp only
      rw [e]
      exact k
    | @aim s i t t2 hs hi ha2 =>
      refine ⟨_, rfl, _, rfl, a, _, _, _, rfl, rfl, sq, h0 1 rfl, rfl, _, rfl, ite2 (fun z => absurd (V.int.inj (of_decide_eq_true z)) (by decide)) (fun _ => ?_)⟩
      exact ⟨_, rfl, _, rfl, a, _, _, _, rfl, rfl, sq, h0 1 rfl, 1, 3, rfl, rfl, _, _, rfl, rfl, k⟩
    | @aims s t hs =>
      refine ⟨_, rfl, _, rfl, a, _, _, _, rfl, rfl, sq, h0 2 rfl, rfl, _, rfl, ite2 (fun z => absurd (V.int.inj (of_decide_eq_true z)) (by decide)) (fun _ => ?_)⟩
      exact ⟨_, rfl, _, rfl, a, _, _, _, rfl, rfl, sq, h0 2 rfl, 2, 1, rfl, rfl, _, _, rfl, rfl, k⟩
    | @all i t hi =>
      refine ⟨_, rfl, _, rfl, a, _, _, _, rfl, rfl, sq, h0 3 rfl, rfl, _, rfl, ite2 (fun z => absurd (V.int.inj (of_decide_eq_true z)) (by decide)) (fun _ => ?_)⟩
      exact ⟨_, rfl, _, rfl, a, _, _, _, rfl, rfl, sq, h0 3 rfl, 3, 1, rfl, rfl, _, _, rfl, rfl, k⟩
    | @set s i t hs hi =>
      refine ⟨_, rfl, _, rfl, a, _, _, _, rfl, rfl, sq, h0 4 rfl, rfl, _, rfl, ite2 (fun z => absurd (V.int.inj (of_decide_eq_true z)) (by decide)) (fun _ => ?_)⟩
      exact ⟨_, rfl, _, rfl, a, _, _, _, rfl, rfl, sq, h0 4 rfl, 4, 2, rfl, rfl, _, _, rfl, rfl, k⟩
    | @best s i t hs hi =>
      refine ⟨_, rfl, _, rfl, a, _, _, _, rfl, rfl, sq, h0 5 rfl, rfl, _, rfl, ite2 (fun z => absurd (V.int.inj (of_decide_eq_true z)) (by decide)) (fun _ => ?_)⟩
      exact ⟨_, rfl, _, rfl, a, _, _, _, rfl, rfl, sq, h0 5 rfl, 5, 2, rfl, rfl, _, _, rfl, rfl, k⟩
    | @better t =>
      refine ⟨_, rfl, _, rfl, a, _, _, _, rfl, rfl, sq, h0 6 rfl, rfl, _, rfl, ite2 (fun z => absurd (V.int.inj (of_decide_eq_true z)) (by decide)) (fun _ => ?_)⟩
      exact ⟨_, rfl, _, rfl, a, _, _, _, rfl, rfl, sq, h0 6 rfl, 6, 0, rfl, rfl, _, _, rfl, rfl, k⟩
    | @improve n t hn =>
      refine ⟨_, rfl, _, rfl, a, _, _, _, rfl, rfl, sq, h0 7 rfl, rfl, _, rfl, ite2 (fun z => absurd (V.int.inj (of_decide_eq_true z)) (by decide)) (fun _ => ?_)⟩
      exact ⟨_, rfl, _, rfl, a, _, _, _, rfl, rfl, sq, h0 7 rfl, 7, 1, rfl, rfl, _, _, rfl, rfl, k⟩
    | @air t =>
      refine ⟨_, rfl, _, rfl, a, _, _, _, rfl, rfl, sq, h0 8 rfl, rfl, _, rfl, ite2 (fun z => absurd (V.int.inj (of_decide_eq_true z)) (by decide)) (fun _ => ?_)⟩
      exact ⟨_, rfl, _, rfl, a, _, _, _, rfl, rfl, sq, h0 8 rfl, 8, 0, rfl, rfl, _, _, rfl, rfl, k⟩
end
end Du
set_option Elab.async false
set_option linter.all false
set_option maxRecDepth 100000
set_option maxHeartbeats 2000000
set_option exponentiation.threshold 5000
namespace Du
open PySem PySem.Spec PyProof.Rows L2
/-! ### what the top has written -/
theorem dfn_mk {K : PySem.W.Frag} {h : Heap} {mg : Str → Option Value} (X : K.In h) (G : h.Ns mainGlobals mg) {x : Str} {st : Stmt} {ps : List Str} {f : Addr} {oc : Value} {od an : Option Addr} {osl : Array (Option Value)} {kV doc pm cdv ct : Value}
    (a : PySem.W.nsIn K mainGlobals x = some (some (.ref f)))
    (l : K.lookup f = some ⟨oc, od, .func (PySem.W.fnOf x x (defArgs st) (defBody st) (defScope st) .none kV doc pm an cdv ct), osl⟩)
    (c : PySem.W.codeIn K cdv x = true) (k : PySem.W.keepIn K (.ref f) = true)
    (b : ∀ (kV doc pm : Value) (an : Option Addr) (cdv ct : Value) (us : List Value), us.length = ps.length → bindArgs (PySem.W.fnOf x x (defArgs st) (defBody st) (defScope st) .none kV doc pm an cdv ct) ⟨us, []⟩ = pure (ps.zip us)) :
    ∃ f fd, Dfn K mg x st ps f fd :=
  ⟨f, _, fun_mk l c k, PySem.W.mg_of X G a, (fun_mk l c k).binds b⟩
theorem glob_int {K : PySem.W.Frag} {h : Heap} {mg : Str → Option Value} (X : K.In h) (G : h.Ns mainGlobals mg) {x : Str} {i : Int} {t : Tok} (a : PySem.W.nsIn K mainGlobals x = some (some (.int i t))) : Glob mg x (.int i) := ⟨_, PySem.W.mg_of X G a, ⟨_, rfl⟩⟩
theorem whole_mk {K : PySem.W.Frag} {h : Heap} {mg : Str → Option Value} (X : K.In h) (G : h.Ns mainGlobals mg) {a : Addr} {n : Nat} {t1 t2 t3 t4 t5 t6 t7 t8 u1 u2 u3 u4 u5 u6 u7 u8 : Tok} (e : PySem.W.nsIn K mainGlobals "WHOLE_NUMBERS" = some (some (.ref a)))
    (l : K.lookup a = some { cls := .type "dict", data := .dict #[⟨1, .int 1 t1, .int 3 u1⟩, ⟨2, .int 2 t2, .int 1 u2⟩, ⟨3, .int 3 t3, .int 1 u3⟩, ⟨4, .int 4 t4, .int 2 u4⟩, ⟨5, .int 5 t5, .int 2 u5⟩, ⟨6, .int 6 t6, .int 0 u6⟩, ⟨7, .int 7 t7, .int 1 u7⟩, ⟨8, .int 8 t8, .int 0 u8⟩] n }) :
    ∃ a, mg "WHOLE_NUMBERS" = some (.ref a) ∧ Tab K a wholes := by
  refine ⟨a, PySem.W.mg_of X G e, ⟨_, n, l, ?_, by decide⟩⟩
  have one : ∀ (k v : Int) (t u : Tok), hashInt k = k → (fun (p : Int × Int) (e : DictEntry) => e.hash = hashInt p.1 ∧ (∃ t, e.key = .int p.1 t) ∧ ∃ u, e.val = .int p.2 u) (k, v) ⟨k, .int k t, .int v u⟩ := fun k v t u hh => ⟨hh.symm, ⟨t, rfl⟩, ⟨u, rfl⟩⟩
  exact .cons (one 1 3 _ _ (by decide)) (.cons (one 2 1 _ _ (by decide)) (.cons (one 3 1 _ _ (by decide)) (.cons (one 4 2 _ _ (by decide)) (.cons (one 5 2 _ _ (by decide)) (.cons (one 6 0 _ _ (by decide)) (.cons (one 7 1 _ _ (by decide)) (.cons (one 8 0 _ _ (by decide)) .nil)))))))
theorem cls_mk {K : PySem.W.Frag} {h : Heap} {mg : Str → Option Value} {C f : Addr} (X : K.In h) (G : h.Ns mainGlobals mg) {oc : Value} {od an : Option Addr} {osl : Array (Option Value)} {kV doc pm cdv ct : Value}
    (aC : PySem.W.nsIn K mainGlobals "Duel" = some (some (.ref C)))
    (a1 : PySem.W.findIn K (.ref C) "__init__" = some (some (.ref f))) (i1 : PySem.W.isFn K (.ref f) = true) (l1 : K.lookup f = some ⟨oc, od, .func (PySem.W.fnOf "__init__" "Duel.__init__" (defArgs sInit) (defBody sInit) (defScope sInit) .none kV doc pm an cdv ct), osl⟩) (c1 : PySem.W.codeIn K cdv "Duel.__init__" = true) (k1 : PySem.W.keepIn K (.ref f) = true)
    (pg : PySem.W.plainGet K C Str.empty = true) (hd : PySem.W.hasDictIn K C = true) (po : PySem.W.plainOver K C = true) (sa : PySem.W.findIn K (.ref C) "__setattr__" = some (some (.builtin "object.__setattr__"))) (mk : PySem.W.makesIn K C = true) (kc : PySem.W.keepIn K (.ref C) = true)
    (nB : PySem.W.findIn K (.ref C) "below" = some none) (nH : PySem.W.findIn K (.ref C) "hits" = some none) (nA : PySem.W.findIn K (.ref C) "aims" = some none) :
    ∃ C fI fdI, TCls K mg C ∧ Mk K C fI ∧ Fun K "__init__" "Duel.__init__" sInit fI fdI ∧ Binds K fdI ["self"] [] := by
  have F := fun_mk (st := sInit) l1 c1 k1
  exact ⟨C, f, _, ⟨⟨pg, hd, po, sa⟩, nB, nH, nA, PySem.W.mg_of X G aC⟩, ⟨mk, a1, i1, kc⟩, F, F.binds (ps := ["self"]) fun _ _ _ _ _ _ us hl => match us, hl with | [_], _ => rfl⟩
theorem binds_to {K : PySem.W.Frag} {x qual : Str} {st : Stmt} {f : Addr} {fd : FuncData} {ps : List Str} (F : Fun K x qual st f fd)
    (h : ∀ (kV doc pm : Value) (an : Option Addr) (cdv ct : Value) (us : List Value), us.length = ps.length → bindArgs (PySem.W.fnOf x qual (defArgs st) (defBody st) (defScope st) .none kV doc pm an cdv ct) ⟨us, []⟩ = pure (ps.zip us)) : ∀ (s : Shared) (us : List Value), us.length = ps.length → BindsTo s fd ⟨us, []⟩ (ps.zip us) := by
  obtain ⟨oc, od, kV, doc, pm, an, cdv, ct, osl, rfl, lk, hcd⟩ := F.ex
  exact fun s us hl => .of_eq (h kV doc pm an cdv ct us hl)
theorem all_ok {P : Program} {w : World} {K : PySem.W.Frag} {mg : Str → Option Value} {fa : Addr} (hfa : mg "answers" = some (.ref fa)) (T : Txt K mg) (S : Cst mg) (hW : ∃ a, mg "WHOLE_NUMBERS" = some (.ref a) ∧ Tab K a wholes)
    (hC : ∃ C fI fdI, TCls K mg C ∧ Mk K C fI ∧ Fun K "__init__" "Duel.__init__" sInit fI fdI ∧ Binds K fdI ["self"] [])
    (AM : ∃ f fd, Dfn K mg "members" sMembers ["group"] f fd)
    (AB : ∃ f fd, Dfn K mg "best_shot" sBest ["hits", "among"] f fd)
    (AFA : ∃ f fd, Dfn K mg "first_aims" sFirstAims ["hits"] f fd)
    (AT : ∃ f fd, Dfn K mg "in_turn" sInTurn ["group", "first"] f fd)
    (AN : ∃ f fd, Dfn K mg "next_at_turn" sNext ["group", "shot"] f fd)
    (AS : ∃ f fd, Dfn K mg "surely" sSurely ["duel", "place"] f fd)
    (AX : ∃ f fd, Dfn K mg "mixed" sMixed ["parts"] f fd)
    (AF : ∃ f fd, Dfn K mg "first_hits" sFirstHits ["duel", "known", "group", "first", "own"] f fd)
    (AC : ∃ f fd, Dfn K mg "chances" sChances ["duel", "known", "group", "first", "own"] f fd)
    (AK : ∃ f fd, Dfn K mg "known_chances" sKnown ["duel", "top"] f fd)
    (AG : ∃ f fd, Dfn K mg "common_divisor" sGcd ["one", "other"] f fd)
    (AL : ∃ f fd, Dfn K mg "lowest_terms" sLow ["above", "below"] f fd)
    (ATo : ∃ f fd, Dfn K mg "told_chances" sTold ["duel", "group", "first"] f fd)
    (AY : ∃ f fd, Dfn K mg "possible_aims" sMay ["duel", "group", "shot"] f fd)
    (AD : ∃ f fd, Dfn K mg "does_better" sDoes ["shot", "weights", "before"] f fd)
    (ABA : ∃ f fd, Dfn K mg "better_aims" sBAims ["duel", "known", "group", "shot"] f fd)
    (AFB : ∃ f fd, Dfn K mg "first_better" sFBetter ["duel"] f fd)
    (AID : ∃ f fd, Dfn K mg "is_duel" sIsDuel ["below", "hits"] f fd)
    (AIS : ∃ f fd, Dfn K mg "is_set" sIsSet ["duel", "group"] f fd)
    (AR : ∃ f fd, Dfn K mg "refusal" sRefusal ["duel", "group", "shot"] f fd)
    (aDu : ∃ f fd, Dfn K mg "answer_duel" sADuel ["duel", "below", "hits"] f fd)
    (aAm : ∃ f fd, Dfn K mg "answer_aim" sAAim ["duel", "group", "shot", "to"] f fd)
    (aAs : ∃ f fd, Dfn K mg "answer_aims" sAAims ["duel", "group"] f fd)
    (aAl : ∃ f fd, Dfn K mg "answer_all" sAAll ["duel", "first"] f fd)
    (aSe : ∃ f fd, Dfn K mg "answer_set" sASet ["duel", "group", "first"] f fd)
    (aBe : ∃ f fd, Dfn K mg "answer_best" sABest ["duel", "group", "shot"] f fd)
    (aBt : ∃ f fd, Dfn K mg "answer_better" sABetter ["duel"] f fd)
    (aIm : ∃ f fd, Dfn K mg "answer_improve" sAImprove ["duel", "most"] f fd)
    (aAi : ∃ f fd, Dfn K mg "answer_air" sAAir ["duel"] f fd)
    (aCa : ∃ f fd, Dfn K mg "answer_call" sCall ["duel", "call"] f fd)
    (aLe : ∃ f fd, Dfn K mg "call_length" sLen ["calls", "start"] f fd)
    (aAns : ∃ f fd, Dfn K mg "answers" sAnswers ["calls"] f fd)
    : ∃ fd : FuncData, (∀ (s : Shared) (us : List Value), us.length = (["calls"] : List Str).length → BindsTo s fd ⟨us, []⟩ ((["calls"] : List Str).zip us)) ∧ ∀ base : Heap, K.In base → base.Ns mainGlobals mg → FnOk P w K mg base CX0 10 fa fd ["calls"] (spAns K) := by
  obtain ⟨tb, hg, tab⟩ := hW
  obtain ⟨C, fI, fdI, TC, M, FI, bI⟩ := hC
  obtain ⟨_, _, AM⟩ := AM
  obtain ⟨_, _, AB⟩ := AB
  obtain ⟨_, _, AFA⟩ := AFA
  obtain ⟨_, _, AT⟩ := AT
  obtain ⟨_, _, AN⟩ := AN
  obtain ⟨_, _, AS⟩ := AS
  obtain ⟨_, _, AX⟩ := AX
  obtain ⟨_, _, AF⟩ := AF
  obtain ⟨_, _, AC⟩ := AC
  obtain ⟨_, _, AK⟩ := AK
  obtain ⟨_, _, AG⟩ := AG
  obtain ⟨_, _, AL⟩ := AL
  obtain ⟨_, _, ATo⟩ := ATo
  obtain ⟨_, _, AY⟩ := AY
  obtain ⟨_, _, AD⟩ := AD
  obtain ⟨_, _, ABA⟩ := ABA
  obtain ⟨_, _, AFB⟩ := AFB
  obtain ⟨_, _, AID⟩ := AID
  obtain ⟨_, _, AIS⟩ := AIS
  obtain ⟨_, _, AR⟩ := AR
  obtain ⟨_, _, aDu⟩ := aDu
  obtain ⟨_, _, aAm⟩ := aAm
  obtain ⟨_, _, aAs⟩ := aAs
  obtain ⟨_, _, aAl⟩ := aAl
  obtain ⟨_, _, aSe⟩ := aSe
  obtain ⟨_, _, aBe⟩ := aBe
  obtain ⟨_, _, aBt⟩ := aBt
  obtain ⟨_, _, aIm⟩ := aIm
  obtain ⟨_, _, aAi⟩ := aAi
  obtain ⟨_, _, aCa⟩ := aCa
  obtain ⟨_, _, aLe⟩ := aLe
  obtain ⟨_, _, aAns⟩ := aAns
  have e := hfa.symm.trans aAns.mg
  cases e
  refine ⟨_, binds_to aAns.F (fun _ _ _ _ _ _ us hl => match us, hl with | [_], _ => rfl), fun base _ _ => ?_⟩
  have GF : FnOk P w K mg base CX0 4 _ _ _ (spFirstHits C) := ok_fh AF T TC AM AT AN
  have GC : FnOk P w K mg base CX0 5 _ _ _ (spChances C) := ok_ch AC T TC AS AF GF AX
  have GK : FnOk P w K mg base CX0 6 _ _ _ (spKnown C) := ok_kn AK T TC AM AS AC GC
  have GL : FnOk P w K mg base CX0 2 _ _ _ spLow := ok_low AL AG
  have GT : FnOk P w K mg base CX0 7 _ _ _ (spTold C) := ok_told ATo T AK GK AL AG
  have GY : FnOk P w K mg base CX0 2 _ _ _ (spMay C) := ok_may AY T TC AM
  have GB : FnOk P w K mg base CX0 6 _ _ _ (spBAims C) := ok_baims ABA T TC AY GY AD AC GC
  have GFB : FnOk P w K mg base CX0 7 _ _ _ (spFB C) := ok_fb AFB T TC AK GK ABA GB
  have GFA : FnOk P w K mg base CX0 2 _ _ _ (spFirstAims K) := ok_first AFA T AM AB
  have GR : FnOk P w K mg base CX0 3 _ _ _ (spRefusal C) := ok_refusal AR T TC AM AIS
  have gDu : FnOk P w K mg base CX0 3 _ _ _ (spADuel C) := ok_aduel aDu T TC AID AFA GFA
  have gAm : FnOk P w K mg base CX0 4 _ _ _ (spAAim C) := ok_aaim aAm T TC AR GR AM
  have gAs : FnOk P w K mg base CX0 3 _ _ _ (spAAims C) := ok_aaims aAs T TC AIS AM
  have gAl : FnOk P w K mg base CX0 8 _ _ _ (spAAll C) := ok_aall aAl T TC ATo GT
  have gSe : FnOk P w K mg base CX0 8 _ _ _ (spASet C) := ok_aset aSe AR GR ATo GT
  have gBe : FnOk P w K mg base CX0 8 _ _ _ (spABest C) := ok_abest aBe T TC AR GR AK GK AS AY GY AC GC AD AL GL
  have gBt : FnOk P w K mg base CX0 8 _ _ _ (spABetter C) := ok_abet aBt T AFB GFB
  have gIm : FnOk P w K mg base CX0 8 _ _ _ (spAImp C) := ok_aimp aIm T TC AFB GFB
  have gAi : FnOk P w K mg base CX0 1 _ _ _ (spAAir C) := ok_aair aAi T TC
  have gCa : FnOk P w K mg base CX0 9 _ _ _ (spCall C) := ok_call aCa S aDu gDu aAm gAm aAs gAs aAl gAl aSe gSe aBe gBe aBt gBt aIm gIm aAi gAi
  have gLe : FnOk P w K mg base CX0 1 _ _ _ (spLen K) := ok_len aLe S hg tab
  have gI : FnOk P w K mg base CX0 3 _ _ _ (spInit C) := ok_init FI T TC AFA GFA
  exact ok_ans (kk := 5) aAns T TC M bI gI aLe gLe aCa gCa
end Du
open PySem PySem.W PyProof.Rows
set_option maxRecDepth 100000 in
set_option maxHeartbeats 0 in
theorem PySem.Challenge.cw_duelaims_s01_answers_holds : PySem.Challenge.rw_duelaims_s01_answers.Holds := by
  w_on; k_headS; (case hw => exact ⟨[.list [.int 8]], by decide +kernel, by decide +kernel⟩)
  k_fillS
  refine L2.walk_specK (r := PySem.Challenge.rw_duelaims_s01_answers) (k := 10) (CX := L2.CX0) (ps := ["calls"]) (sp := Du.spAns) (by decide +kernel) rfl rfl ⟨rfl, by decide, by decide⟩ (fun w h Y => PySem.W.kIn_of Y) ?F ?S (fun _ _ _ _ z => z)
  case F =>
    intro w mg fa h Y KX G hmg
    have d_members : ∃ f fd, Du.Dfn (L2.KOf KX) mg "members" Du.sMembers ["group"] f fd := by
      dsimp only [L2.KOf]
      refine' Du.dfn_mk KX G ?a ?l ?c ?k ?b; (case a => k_is); (case l => k_is); (case c => k_is); (case k => k_is); (case b => exact fun _ _ _ _ _ _ us hl => match us, hl with | [_], _ => rfl)
    have d_best_shot : ∃ f fd, Du.Dfn (L2.KOf KX) mg "best_shot" Du.sBest ["hits", "among"] f fd := by
      dsimp only [L2.KOf]
      refine' Du.dfn_mk KX G ?a ?l ?c ?k ?b; (case a => k_is); (case l => k_is); (case c => k_is); (case k => k_is); (case b => exact fun _ _ _ _ _ _ us hl => match us, hl with | [_, _], _ => rfl)
    have d_first_aims : ∃ f fd, Du.Dfn (L2.KOf KX) mg "first_aims" Du.sFirstAims ["hits"] f fd := by
      dsimp only [L2.KOf]
      refine' Du.dfn_mk KX G ?a ?l ?c ?k ?b; (case a => k_is); (case l => k_is); (case c => k_is); (case k => k_is); (case b => exact fun _ _ _ _ _ _ us hl => match us, hl with | [_], _ => rfl)
    have d_in_turn : ∃ f fd, Du.Dfn (L2.KOf KX) mg "in_turn" Du.sInTurn ["group", "first"] f fd := by
      dsimp only [L2.KOf]
      refine' Du.dfn_mk KX G ?a ?l ?c ?k ?b; (case a => k_is); (case l => k_is); (case c => k_is); (case k => k_is); (case b => exact fun _ _ _ _ _ _ us hl => match us, hl with | [_, _], _ => rfl)
    have d_next_at_turn : ∃ f fd, Du.Dfn (L2.KOf KX) mg "next_at_turn" Du.sNext ["group", "shot"] f fd := by
      dsimp only [L2.KOf]
      refine' Du.dfn_mk KX G ?a ?l ?c ?k ?b; (case a => k_is); (case l => k_is); (case c => k_is); (case k => k_is); (case b => exact fun _ _ _ _ _ _ us hl => match us, hl with | [_, _], _ => rfl)
    have d_surely : ∃ f fd, Du.Dfn (L2.KOf KX) mg "surely" Du.sSurely ["duel", "place"] f fd := by
      dsimp only [L2.KOf]
      refine' Du.dfn_mk KX G ?a ?l ?c ?k ?b; (case a => k_is); (case l => k_is); (case c => k_is); (case k => k_is); (case b => exact fun _ _ _ _ _ _ us hl => match us, hl with | [_, _], _ => rfl)
    have d_mixed : ∃ f fd, Du.Dfn (L2.KOf KX) mg "mixed" Du.sMixed ["parts"] f fd := by
      dsimp only [L2.KOf]
      refine' Du.dfn_mk KX G ?a ?l ?c ?k ?b; (case a => k_is); (case l => k_is); (case c => k_is); (case k => k_is); (case b => exact fun _ _ _ _ _ _ us hl => match us, hl with | [_], _ => rfl)
    have d_first_hits : ∃ f fd, Du.Dfn (L2.KOf KX) mg "first_hits" Du.sFirstHits ["duel", "known", "group", "first", "own"] f fd := by
      dsimp only [L2.KOf]
      refine' Du.dfn_mk KX G ?a ?l ?c ?k ?b; (case a => k_is); (case l => k_is); (case c => k_is); (case k => k_is); (case b => exact fun _ _ _ _ _ _ us hl => match us, hl with | [_, _, _, _, _], _ => rfl)
    have d_chances : ∃ f fd, Du.Dfn (L2.KOf KX) mg "chances" Du.sChances ["duel", "known", "group", "first", "own"] f fd := by
      dsimp only [L2.KOf]
      refine' Du.dfn_mk KX G ?a ?l ?c ?k ?b; (case a => k_is); (case l => k_is); (case c => k_is); (case k => k_is); (case b => exact fun _ _ _ _ _ _ us hl => match us, hl with | [_, _, _, _, _], _ => rfl)
    have d_known_chances : ∃ f fd, Du.Dfn (L2.KOf KX) mg "known_chances" Du.sKnown ["duel", "top"] f fd := by
      dsimp only [L2.KOf]
      refine' Du.dfn_mk KX G ?a ?l ?c ?k ?b; (case a => k_is); (case l => k_is); (case c => k_is); (case k => k_is); (case b => exact fun _ _ _ _ _ _ us hl => match us, hl with | [_, _], _ => rfl)
    have d_common_divisor : ∃ f fd, Du.Dfn (L2.KOf KX) mg "common_divisor" Du.sGcd ["one", "other"] f fd := by
      dsimp only [L2.KOf]
      refine' Du.dfn_mk KX G ?a ?l ?c ?k ?b; (case a => k_is); (case l => k_is); (case c => k_is); (case k => k_is); (case b => exact fun _ _ _ _ _ _ us hl => match us, hl with | [_, _], _ => rfl)
    have d_lowest_terms : ∃ f fd, Du.Dfn (L2.KOf KX) mg "lowest_terms" Du.sLow ["above", "below"] f fd := by
      dsimp only [L2.KOf]
      refine' Du.dfn_mk KX G ?a ?l ?c ?k ?b; (case a => k_is); (case l => k_is); (case c => k_is); (case k => k_is); (case b => exact fun _ _ _ _ _ _ us hl => match us, hl with | [_, _], _ => rfl)
    have d_told_chances : ∃ f fd, Du.Dfn (L2.KOf KX) mg "told_chances" Du.sTold ["duel", "group", "first"] f fd := by
      dsimp only [L2.KOf]
      refine' Du.dfn_mk KX G ?a ?l ?c ?k ?b; (case a => k_is); (case l => k_is); (case c => k_is); (case k => k_is); (case b => exact fun _ _ _ _ _ _ us hl => match us, hl with | [_, _, _], _ => rfl)
    have d_possible_aims : ∃ f fd, Du.Dfn (L2.KOf KX) mg "possible_aims" Du.sMay ["duel", "group", "shot"] f fd := by
      dsimp only [L2.KOf]
      refine' Du.dfn_mk KX G ?a ?l ?c ?k ?b; (case a => k_is); (case l => k_is); (case c => k_is); (case k => k_is); (case b => exact fun _ _ _ _ _ _ us hl => match us, hl with | [_, _, _], _ => rfl)
    have d_does_better : ∃ f fd, Du.Dfn (L2.KOf KX) mg "does_better" Du.sDoes ["shot", "weights", "before"] f fd := by
      dsimp only [L2.KOf]
      refine' Du.dfn_mk KX G ?a ?l ?c ?k ?b; (case a => k_is); (case l => k_is); (case c => k_is); (case k => k_is); (case b => exact fun _ _ _ _ _ _ us hl => match us, hl with | [_, _, _], _ => rfl)
    have d_better_aims : ∃ f fd, Du.Dfn (L2.KOf KX) mg "better_aims" Du.sBAims ["duel", "known", "group", "shot"] f fd := by
      dsimp only [L2.KOf]
      refine' Du.dfn_mk KX G ?a ?l ?c ?k ?b; (case a => k_is); (case l => k_is); (case c => k_is); (case k => k_is); (case b => exact fun _ _ _ _ _ _ us hl => match us, hl with | [_, _, _, _], _ => rfl)
    have d_first_better : ∃ f fd, Du.Dfn (L2.KOf KX) mg "first_better" Du.sFBetter ["duel"] f fd := by
      dsimp only [L2.KOf]
      refine' Du.dfn_mk KX G ?a ?l ?c ?k ?b; (case a => k_is); (case l => k_is); (case c => k_is); (case k => k_is); (case b => exact fun _ _ _ _ _ _ us hl => match us, hl with | [_], _ => rfl)
    have d_is_duel : ∃ f fd, Du.Dfn (L2.KOf KX) mg "is_duel" Du.sIsDuel ["below", "hits"] f fd := by
      dsimp only [L2.KOf]
      refine' Du.dfn_mk KX G ?a ?l ?c ?k ?b; (case a => k_is); (case l => k_is); (case c => k_is); (case k => k_is); (case b => exact fun _ _ _ _ _ _ us hl => match us, hl with | [_, _], _ => rfl)
    have d_is_set : ∃ f fd, Du.Dfn (L2.KOf KX) mg "is_set" Du.sIsSet ["duel", "group"] f fd := by
      dsimp only [L2.KOf]
      refine' Du.dfn_mk KX G ?a ?l ?c ?k ?b; (case a => k_is); (case l => k_is); (case c => k_is); (case k => k_is); (case b => exact fun _ _ _ _ _ _ us hl => match us, hl with | [_, _], _ => rfl)
    have d_refusal : ∃ f fd, Du.Dfn (L2.KOf KX) mg "refusal" Du.sRefusal ["duel", "group", "shot"] f fd := by
      dsimp only [L2.KOf]
      refine' Du.dfn_mk KX G ?a ?l ?c ?k ?b; (case a => k_is); (case l => k_is); (case c => k_is); (case k => k_is); (case b => exact fun _ _ _ _ _ _ us hl => match us, hl with | [_, _, _], _ => rfl)
    have d_answer_duel : ∃ f fd, Du.Dfn (L2.KOf KX) mg "answer_duel" Du.sADuel ["duel", "below", "hits"] f fd := by
      dsimp only [L2.KOf]
      refine' Du.dfn_mk KX G ?a ?l ?c ?k ?b; (case a => k_is); (case l => k_is); (case c => k_is); (case k => k_is); (case b => exact fun _ _ _ _ _ _ us hl => match us, hl with | [_, _, _], _ => rfl)
    have d_answer_aim : ∃ f fd, Du.Dfn (L2.KOf KX) mg "answer_aim" Du.sAAim ["duel", "group", "shot", "to"] f fd := by
      dsimp only [L2.KOf]
      refine' Du.dfn_mk KX G ?a ?l ?c ?k ?b; (case a => k_is); (case l => k_is); (case c => k_is); (case k => k_is); (case b => exact fun _ _ _ _ _ _ us hl => match us, hl with | [_, _, _, _], _ => rfl)
    have d_answer_aims : ∃ f fd, Du.Dfn (L2.KOf KX) mg "answer_aims" Du.sAAims ["duel", "group"] f fd := by
      dsimp only [L2.KOf]
      refine' Du.dfn_mk KX G ?a ?l ?c ?k ?b; (case a => k_is); (case l => k_is); (case c => k_is); (case k => k_is); (case b => exact fun _ _ _ _ _ _ us hl => match us, hl with | [_, _], _ => rfl)
    have d_answer_all : ∃ f fd, Du.Dfn (L2.KOf KX) mg "answer_all" Du.sAAll ["duel", "first"] f fd := by
      dsimp only [L2.KOf]
      refine' Du.dfn_mk KX G ?a ?l ?c ?k ?b; (case a => k_is); (case l => k_is); (case c => k_is); (case k => k_is); (case b => exact fun _ _ _ _ _ _ us hl => match us, hl with | [_, _], _ => rfl)
    have d_answer_set : ∃ f fd, Du.Dfn (L2.KOf KX) mg "answer_set" Du.sASet ["duel", "group", "first"] f fd := by
      dsimp only [L2.KOf]
      refine' Du.dfn_mk KX G ?a ?l ?c ?k ?b; (case a => k_is); (case l => k_is); (case c => k_is); (case k => k_is); (case b => exact fun _ _ _ _ _ _ us hl => match us, hl with | [_, _, _], _ => rfl)
    have d_answer_best : ∃ f fd, Du.Dfn (L2.KOf KX) mg "answer_best" Du.sABest ["duel", "group", "shot"] f fd := by
      dsimp only [L2.KOf]
      refine' Du.dfn_mk KX G ?a ?l ?c ?k ?b; (case a => k_is); (case l => k_is); (case c => k_is); (case k => k_is); (case b => exact fun _ _ _ _ _ _ us hl => match us, hl with | [_, _, _], _ => rfl)
    have d_answer_better : ∃ f fd, Du.Dfn (L2.KOf KX) mg "answer_better" Du.sABetter ["duel"] f fd := by
      dsimp only [L2.KOf]
      refine' Du.dfn_mk KX G ?a ?l ?c ?k ?b; (case a => k_is); (case l => k_is); (case c => k_is); (case k => k_is); (case b => exact fun _ _ _ _ _ _ us hl => match us, hl with | [_], _ => rfl)
    have d_answer_improve : ∃ f fd, Du.Dfn (L2.KOf KX) mg "answer_improve" Du.sAImprove ["duel", "most"] f fd := by
      dsimp only [L2.KOf]
      refine' Du.dfn_mk KX G ?a ?l ?c ?k ?b; (case a => k_is); (case l => k_is); (case c => k_is); (case k => k_is); (case b => exact fun _ _ _ _ _ _ us hl => match us, hl with | [_, _], _ => rfl)
    have d_answer_air : ∃ f fd, Du.Dfn (L2.KOf KX) mg "answer_air" Du.sAAir ["duel"] f fd := by
      dsimp only [L2.KOf]
      refine' Du.dfn_mk KX G ?a ?l ?c ?k ?b; (case a => k_is); (case l => k_is); (case c => k_is); (case k => k_is); (case b => exact fun _ _ _ _ _ _ us hl => match us, hl with | [_], _ => rfl)
    have d_answer_call : ∃ f fd, Du.Dfn (L2.KOf KX) mg "answer_call" Du.sCall ["duel", "call"] f fd := by
      dsimp only [L2.KOf]
      refine' Du.dfn_mk KX G ?a ?l ?c ?k ?b; (case a => k_is); (case l => k_is); (case c => k_is); (case k => k_is); (case b => exact fun _ _ _ _ _ _ us hl => match us, hl with | [_, _], _ => rfl)
    have d_call_length : ∃ f fd, Du.Dfn (L2.KOf KX) mg "call_length" Du.sLen ["calls", "start"] f fd := by
      dsimp only [L2.KOf]
      refine' Du.dfn_mk KX G ?a ?l ?c ?k ?b; (case a => k_is); (case l => k_is); (case c => k_is); (case k => k_is); (case b => exact fun _ _ _ _ _ _ us hl => match us, hl with | [_, _], _ => rfl)
    have d_answers : ∃ f fd, Du.Dfn (L2.KOf KX) mg "answers" Du.sAnswers ["calls"] f fd := by
      dsimp only [L2.KOf]
      refine' Du.dfn_mk KX G ?a ?l ?c ?k ?b; (case a => k_is); (case l => k_is); (case c => k_is); (case k => k_is); (case b => exact fun _ _ _ _ _ _ us hl => match us, hl with | [_], _ => rfl)
    have c_0 : Du.Glob mg "CALL_DUEL" (.int 0) := by
      refine' Du.glob_int KX G ?a; (case a => k_is)
    have c_1 : Du.Glob mg "CALL_AIM" (.int 1) := by
      refine' Du.glob_int KX G ?a; (case a => k_is)
    have c_2 : Du.Glob mg "CALL_AIMS" (.int 2) := by
      refine' Du.glob_int KX G ?a; (case a => k_is)
    have c_3 : Du.Glob mg "CALL_ALL" (.int 3) := by
      refine' Du.glob_int KX G ?a; (case a => k_is)
    have c_4 : Du.Glob mg "CALL_SET" (.int 4) := by
      refine' Du.glob_int KX G ?a; (case a => k_is)
    have c_5 : Du.Glob mg "CALL_BEST" (.int 5) := by
      refine' Du.glob_int KX G ?a; (case a => k_is)
    have c_6 : Du.Glob mg "CALL_BETTER" (.int 6) := by
      refine' Du.glob_int KX G ?a; (case a => k_is)
    have c_7 : Du.Glob mg "CALL_IMPROVE" (.int 7) := by
      refine' Du.glob_int KX G ?a; (case a => k_is)
    have g_MOST_SHOTS : Du.Glob mg "MOST_SHOTS" (.int 4) := by
      refine' Du.glob_int KX G ?a; (case a => k_is)
    have g_FEWEST_SHOTS : Du.Glob mg "FEWEST_SHOTS" (.int 2) := by
      refine' Du.glob_int KX G ?a; (case a => k_is)
    have g_MOST_BELOW : Du.Glob mg "MOST_BELOW" (.int 60) := by
      refine' Du.glob_int KX G ?a; (case a => k_is)
    have g_MOST_CHANGES : Du.Glob mg "MOST_CHANGES" (.int 30) := by
      refine' Du.glob_int KX G ?a; (case a => k_is)
    have n_range : mg "range" = none := by
      refine' PySem.W.mg_none_of KX G ?a; (case a => k_is)
    have n_len : mg "len" = none := by
      refine' PySem.W.mg_none_of KX G ?a; (case a => k_is)
    have n_sum : mg "sum" = none := by
      refine' PySem.W.mg_none_of KX G ?a; (case a => k_is)
    have n_zip : mg "zip" = none := by
      refine' PySem.W.mg_none_of KX G ?a; (case a => k_is)
    have n_max : mg "max" = none := by
      refine' PySem.W.mg_none_of KX G ?a; (case a => k_is)
    have n_list : mg "list" = none := by
      refine' PySem.W.mg_none_of KX G ?a; (case a => k_is)
    have n_sorted : mg "sorted" = none := by
      refine' PySem.W.mg_none_of KX G ?a; (case a => k_is)
    have hW : ∃ a, mg "WHOLE_NUMBERS" = some (.ref a) ∧ Du.Tab (L2.KOf KX) a Du.wholes := by
      dsimp only [L2.KOf]
      refine' Du.whole_mk KX G ?ea ?el; (case ea => k_is); (case el => k_is)
    have hC : ∃ C fI fdI, Du.TCls (L2.KOf KX) mg C ∧ L2.Mk (L2.KOf KX) C fI ∧ L2.Fun (L2.KOf KX) "__init__" "Duel.__init__" Du.sInit fI fdI ∧ L2.Binds (L2.KOf KX) fdI ["self"] [] := by
      dsimp only [L2.KOf]
      refine' Du.cls_mk KX G ?aC ?a1 ?i1 ?l1 ?c1 ?k1 ?pg ?hd ?po ?sa ?mk ?kc ?nB ?nH ?nA
      (case aC => k_is); (case a1 => k_is); (case i1 => k_is); (case l1 => k_is); (case c1 => k_is); (case k1 => k_is)
      (case pg => k_is); (case hd => k_is); (case po => k_is); (case sa => k_is); (case mk => k_is); (case kc => k_is); (case nB => k_is); (case nH => k_is); (case nA => k_is)
    exact Du.all_ok hmg ⟨n_range, n_len, n_sum, n_zip, n_max, n_list, n_sorted, g_MOST_SHOTS, g_FEWEST_SHOTS, g_MOST_BELOW, g_MOST_CHANGES⟩ ⟨c_0, c_1, c_2, c_3, c_4, c_5, c_6, c_7⟩ hW hC
      d_members d_best_shot d_first_aims d_in_turn d_next_at_turn d_surely d_mixed d_first_hits d_chances d_known_chances d_common_divisor d_lowest_terms d_told_chances d_possible_aims d_does_better d_better_aims d_first_better d_is_duel d_is_set d_refusal d_answer_duel d_answer_aim d_answer_aims d_answer_all d_answer_set d_answer_best d_answer_better d_answer_improve d_answer_air d_answer_call d_call_length d_answers
  case S =>
    intro K H xs a hO hwi hask hx
    cases hx with
    | cons h1 h2 =>
      cases h2
      cases h1 with
      | lst hs ha =>
        have e := L2.ints_dw a.1 _ ha
        subst e
        have q : ((Codec.inLen 0 2000 a.1 && a.1.all (Codec.inInt 0 4294967295)) && true) = true := hwi
        rw [Bool.and_eq_true, Bool.and_eq_true] at q
        exact ⟨_, a.1, rfl, hs, (Codec.inNat_iff.mp q.1.1).2, hask, fun H' p hp => .lst (L2.SqL.of hp) (L2.dw_ints _)⟩
#print axioms PySem.Challenge.cw_duelaims_s01_answers_holds
