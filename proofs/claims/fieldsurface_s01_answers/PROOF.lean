import PyProof.Rows.All
import Wide.All
import OpenK.AllK
import Wide.FinOn
import PyProof.EqAt
import PyProof.EqKinds
import PyProof.TupleCall
import KE.BitLaws
import Open.SpecLaws
import KE.OsHead
import KE.OsGo
import PyProof.DictRoadsH
import PyProof.MinMaxWalk
import PyProof.WalksMore
import PyProof.TupleIter
import KE.KDictList
import KE.KSortRegAny
import KE.SpHead
import KE.OsShapes
import PySem.Challenge.RW_fieldsurface_s01_answers
set_option Elab.async false
section
set_option Elab.async false
set_option linter.all false
set_option maxRecDepth 100000
namespace L2
open PySem PySem.Spec PyProof.Rows
abbrev Key := Sum Int Str
def keyIs : Key → Value → Bool
  | .inl k, v => Value.isInt k v
  | .inr x, v => Value.isStrOf x v
def keyH (w : World) : Key → Int
  | .inl k => hashInt k
  | .inr x => hashStr w x
theorem keyIs_shape : ∀ {k : Key} {v : Value}, keyIs k v = true → (∃ i t, k = Sum.inl i ∧ v = Value.int i t) ∨ (∃ x t, k = Sum.inr x ∧ v = Value.str x t)
  | .inl i, v, h => by
    obtain ⟨t, e⟩ := Value.isInt_shape (k := i) (v := v) h
    exact .inl ⟨i, t, rfl, e⟩
  | .inr x, v, h => by
    obtain ⟨t, e⟩ := Value.isStrOf_shape (x := x) (v := v) h
    exact .inr ⟨x, t, rfl, e⟩
theorem keyIs_int (i : Int) (t : Tok) : keyIs (.inl i) (.int i t) = true := by simp [keyIs, Value.isInt]
theorem keyIs_str (x : Str) (t : Tok) : keyIs (.inr x) (.str x t) = true := by simp [keyIs, Value.isStrOf]
theorem key_ll (a b : Int) : decide ((Sum.inl a : Key) = Sum.inl b) = (a == b) := by
  by_cases e : a = b
  · subst e; simp
  · have h : ¬ (Sum.inl a : Key) = Sum.inl b := fun q => e (Sum.inl.inj q)
    rw [decide_eq_false h]
    exact (beq_eq_false_iff_ne.mpr e).symm
theorem key_rr (a b : Str) : decide ((Sum.inr a : Key) = Sum.inr b) = decide (a = b) := by
  by_cases e : a = b
  · subst e; simp
  · have h : ¬ (Sum.inr a : Key) = Sum.inr b := fun q => e (Sum.inr.inj q)
    rw [decide_eq_false h, decide_eq_false e]
theorem key_lr (a : Int) (b : Str) : decide ((Sum.inl a : Key) = Sum.inr b) = false := decide_eq_false (fun q => nomatch q)
theorem key_rl (a : Str) (b : Int) : decide ((Sum.inr a : Key) = Sum.inl b) = false := decide_eq_false (fun q => nomatch q)
def mixKind (prog : Program) (w : World) : PySem.KeyKind prog w Key where
  is := keyIs
  hash := keyH w
  inj := fun v a b ha hb => by
    rcases keyIs_shape ha with ⟨i, t, rfl, rfl⟩ | ⟨x, t, rfl, rfl⟩
    · rcases keyIs_shape hb with ⟨j, u, rfl, e⟩ | ⟨y, u, rfl, e⟩
      · injection e with e1 _; rw [e1]
      · exact nomatch e
    · rcases keyIs_shape hb with ⟨j, u, rfl, e⟩ | ⟨y, u, rfl, e⟩
      · exact nomatch e
      · injection e with e1 _; rw [e1]
  byValue := fun k v h => by
    rcases keyIs_shape h with ⟨i, t, rfl, rfl⟩ | ⟨x, t, rfl, rfl⟩ <;> rfl
  pyHash := fun hv h => by
    rcases keyIs_shape hv with ⟨i, t, rfl, rfl⟩ | ⟨x, t, rfl, rfl⟩
    · exact wpAny_pyHash_int h
    · exact wpAny_pyHash_str h
  eqBool := fun hu hv h => by
    rcases keyIs_shape hu with ⟨i, t, rfl, rfl⟩ | ⟨x, t, rfl, rfl⟩
    · rcases keyIs_shape hv with ⟨j, u, rfl, rfl⟩ | ⟨y, u, rfl, rfl⟩
      · rw [key_ll] at h; exact wpAny_eqBool_int h
      · rw [key_lr] at h; exact SeqAt.EqAt.int_str i t y u _ _ _ _ h
    · rcases keyIs_shape hv with ⟨j, u, rfl, rfl⟩ | ⟨y, u, rfl, rfl⟩
      · rw [key_rl] at h; exact SeqAt.EqAt.str_int x t j u _ _ _ _ h
      · rw [key_rr] at h; exact wpAny_eqBool_str h
  «strs» := fun k x t v h => by
    rcases keyIs_shape h with ⟨i, u, rfl, e⟩ | ⟨y, u, rfl, e⟩
    · exact nomatch e
    · injection e with e1 _
      subst e1
      cases v <;> rfl
theorem mixKind_int (prog : Program) (w : World) (i : Int) (t : Tok) : (mixKind prog w).is (.inl i) (.int i t) = true := keyIs_int i t
theorem mixKind_str (prog : Program) (w : World) (x : Str) (t : Tok) : (mixKind prog w).is (.inr x) (.str x t) = true := keyIs_str x t
end L2
namespace L2
open PySem PySem.Spec PyProof.Rows
inductive V where
  | non | bl (b : Bool) | int (i : Int) | str (x : Str) | byt (b : Array UInt8) | flt (b : UInt64) | ref (a : Addr) | ty (n : String)
  deriving DecidableEq
def RelV : V → Value → Prop
  | .non, u => u = Value.none
  | .bl b, u => u = Value.bool b
  | .int i, u => ∃ t, u = Value.int i t
  | .str x, u => ∃ t, u = Value.str x t
  | .byt b, u => ∃ t, u = Value.bytes b t
  | .flt b, u => ∃ t, u = Value.float b t
  | .ref a, u => u = Value.ref a
  | .ty n, u => u = Value.type n
abbrev Vals : List V → List Value → Prop := Paired RelV
theorem Vals.length {xs : List V} {us : List Value} (r : Vals xs us) : xs.length = us.length := Paired.length r
theorem Vals.get : ∀ {xs : List V} {us : List Value} {i : Nat} {x : V}, Vals xs us → xs[i]? = some x → ∃ u, us[i]? = some u ∧ RelV x u
  | _, _, _, _, .nil, e => by simp at e
  | _, _, 0, _, .cons r _, e => by simp at e; subst e; exact ⟨_, rfl, r⟩
  | _, _, i + 1, x, .cons _ t, e => by
    obtain ⟨u, h1, h2⟩ := Vals.get (i := i) (x := x) t (by simpa using e)
    exact ⟨u, by simpa using h1, h2⟩
theorem Vals.append : ∀ {xs ys : List V} {us ws : List Value}, Vals xs us → Vals ys ws → Vals (xs ++ ys) (us ++ ws)
  | _, _, _, _, .nil, s => s
  | _, _, _, _, .cons r t, s => .cons r (Vals.append t s)
theorem Vals.take : ∀ {xs : List V} {us : List Value} (n : Nat), Vals xs us → Vals (xs.take n) (us.take n)
  | _, _, 0, _ => .nil
  | _, _, _ + 1, .nil => .nil
  | _, _, n + 1, .cons r t => .cons r (Vals.take n t)
theorem Vals.drop : ∀ {xs : List V} {us : List Value} (n : Nat), Vals xs us → Vals (xs.drop n) (us.drop n)
  | _, _, 0, r => r
  | _, _, _ + 1, .nil => .nil
  | _, _, n + 1, .cons _ t => Vals.drop n t
def RelO : Option V → Option Value → Prop
  | some v, some u => RelV v u
  | none, none => True
  | _, _ => False
def KV {κ : Type} : List (κ × V) → List (κ × Value) → Prop := Paired fun (p : κ × V) (q : κ × Value) => p.1 = q.1 ∧ RelV p.2 q.2
def kV : Key → V
  | .inl i => .int i
  | .inr x => .str x
inductive HO where
  /-- a list -/
  | lst (xs : List V)
  /-- a tuple (never changes) -/
  | tup (xs : List V)
  /-- a dict whose keys are ints and texts; one whose keys are tuples of ints and texts (the empty one is both) -/
  | dK (kvs : List (Key × V)) | dT (kvs : List (List Key × V))
  /-- a set of ints: its members, its size -/
  | set (S : Int → Bool) (n : Nat)
  /-- an instance of the class at C, its dict at dx, its attributes -/
  | ins (C dx : Addr) (fs : List (Str × V))
  /-- the dict of the instance at x -/
  | own (x : Addr)
  /-- the dict of an exception -/
  | xd (fs : List (Str × V))
  /-- a bound method, f of x -/
  | met (f x : Addr)
  /-- a range object lo, lo + 1, .. below hi -/
  | rng (lo hi : Int)
  /-- a thing that is known to the object (the script; a dict while a loop walks it): read, never written while it is so -/
  | frz (o : Obj) (u : HO)
  /-- a code object's table -/
  | tbl (ps : Array Value)
  /-- any other thing, by what is true of its one object (a def of one's own: SetO a S n := HO.ext fun h => ..) -/
  | ext (φ : Heap → Prop)
abbrev Hp := Addr → Option HO
def upd (H : Hp) (a : Addr) (o : HO) : Hp := fun b => if b = a then some o else H b
theorem upd_same {H : Hp} {a : Addr} {o : HO} : upd H a o a = some o := by unfold upd; rw [if_pos rfl]
theorem upd_ne {H : Hp} {a b : Addr} {o : HO} (h : b ≠ a) : upd H a o b = H b := by unfold upd; rw [if_neg h]
theorem upd_upd {H : Hp} {a : Addr} {o u : HO} : upd (upd H a o) a u = upd H a u := by
  funext b; unfold upd; split <;> rfl
theorem ne_of {H : Hp} {a b : Addr} {o u : HO} (h : H a = some o) (h' : H b = some u) (d : o ≠ u) : a ≠ b := by
  intro e; subst e; rw [h] at h'; exact d (Option.some.inj h')
theorem ne_of_none {H : Hp} {a b : Addr} {o : HO} (h : H a = some o) (h' : H b = none) : a ≠ b := by
  intro e; subst e; rw [h] at h'; cases h'
section
variable (P : Program) (w : World)
def ObjOk (H : Hp) (h : Heap) (a : Addr) : HO → Prop
  | .lst xs => xs.length ≤ sizeLine ∧ ∃ (its : List Value) (n : Nat), Vals xs its ∧ h.get? a = some { cls := .type "list", data := .seq its.toArray n }
  | .tup xs => xs.length ≤ sizeLine ∧ ∃ its : List Value, Vals xs its ∧ IsTup h a its.toArray
  | .dK kvs => kvs.length ≤ sizeLine ∧ (a == sysModules) = false ∧ ∃ vs, KV kvs vs ∧ h.DictOf (mixKind P w) a vs
  | .dT kvs => kvs.length ≤ sizeLine ∧ (a == sysModules) = false ∧ ∃ xs : List (List Key × Addr × Value),
      Paired (fun (p : List Key × V) (q : List Key × Addr × Value) => p.1 = q.1 ∧ H q.2.1 = some (.tup (p.1.map kV)) ∧ RelV p.2 q.2.2) kvs xs ∧
      ∃ o es ep, h.get? a = some o ∧ o.ExactDict ∧ o.data = .dict es ep ∧ es.toList = xs.map (entryOfKey (tupleKind (mixKind P w))) ∧ (xs.map (·.1)).Nodup
  | .set S n => h.SetOf (intKind P w) a S n
  | .ins C dx fs => H dx = some (.own a) ∧ fs.length ≤ 1000 ∧ dx ≠ a ∧ h.get? a = some (PySem.W.instObj C dx) ∧
      ∃ mA, h.Ns1 dx mA ∧ (∀ f, RelO (fs.lookup f) (mA f)) ∧ PySem.Within mA (fs.map (·.1))
  | .own _ => ∃ o, h.get? a = some o
  | .xd fs => ∃ mA, h.Ns1 a mA ∧ ∀ f, RelO (fs.lookup f) (mA f)
  | .rng lo hi => ∃ t u v, h.get? a = some { cls := .type "range", data := .fields #[.int lo t, .int hi u, .int 1 v] }
  | .frz o u => h.get? a = some o ∧ ObjOk H h a u
  | .tbl ps => h.get? a = some { cls := .none, data := .fields ps }
  | .met f x => h.get? a = some (PySem.W.methodObj (.ref f) (.ref x))
  | .ext φ => φ h ∧ (∃ o, h.get? a = some o) ∧ ∀ h1 h2 : Heap, φ h1 → (∀ o, h1.get? a = some o → h2.get? a = some o) → φ h2
def HOk (H : Hp) (h : Heap) : Prop := ∀ a o, H a = some o → ObjOk P w H h a o
end
section
variable {P : Program} {w : World} {H H' : Hp} {h h' : Heap} {a : Addr} {o : HO}
theorem ObjOk.lt (x : ObjOk P w H h a o) : a < h.objs.size := by
  cases o with
  | lst xs => obtain ⟨_, _, _, _, e⟩ := x; exact Heap.lt_size e
  | tup xs => obtain ⟨_, _, _, p⟩ := x; exact p.lt
  | dK kvs => obtain ⟨_, _, _, _, o, _, _, e, _⟩ := x; exact Heap.lt_size e
  | dT kvs => obtain ⟨_, _, _, _, o, _, _, e, _⟩ := x; exact Heap.lt_size e
  | set S n => obtain ⟨o, _, _, _, e, _⟩ := x; exact Heap.lt_size e
  | ins C dx fs => obtain ⟨_, _, _, e, _⟩ := x; exact Heap.lt_size e
  | own y => obtain ⟨_, e⟩ := x; exact Heap.lt_size e
  | xd fs => obtain ⟨_, ⟨_, _, _, e, _⟩, _⟩ := x; exact Heap.lt_size e
  | rng lo hi => obtain ⟨_, _, _, e⟩ := x; exact Heap.lt_size e
  | frz ob u => obtain ⟨e, _⟩ := x; exact Heap.lt_size e
  | tbl ps => exact Heap.lt_size (show h.get? a = some _ from x)
  | met f y => exact Heap.lt_size (show h.get? a = some _ from x)
  | ext φ => obtain ⟨_, ⟨_, e⟩, _⟩ := x; exact Heap.lt_size e
theorem Paired.mapP {α β : Type} {F G : α → β → Prop} : ∀ {l₁ : List α} {l₂ : List β}, Paired F l₁ l₂ → (∀ a b, F a b → G a b) → Paired G l₁ l₂
  | _, _, .nil, _ => .nil
  | _, _, .cons r t, f => .cons (f _ _ r) (Paired.mapP t f)
theorem ObjOk.stay (x : ObjOk P w H h a o) (k : ∀ b u, (b = a ∨ H b = some (.own a)) → h.get? b = some u → h'.get? b = some u)
    (ho : ∀ b, H b = some (.own a) → H' b = some (.own a)) (ht : ∀ b xs, H b = some (.tup xs) → H' b = some (.tup xs)) : ObjOk P w H' h' a o := by
  induction o with
  | lst xs => obtain ⟨z, its, n, r, e⟩ := x; exact ⟨z, its, n, r, k _ _ (.inl rfl) e⟩
  | tup xs => obtain ⟨z, its, r, ob, e, c⟩ := x; exact ⟨z, its, r, ob, k _ _ (.inl rfl) e, c⟩
  | dK kvs => obtain ⟨z, y, vs, r, ob, es, ep, e, c⟩ := x; exact ⟨z, y, vs, r, ob, es, ep, k _ _ (.inl rfl) e, c⟩
  | dT kvs =>
    obtain ⟨z, y, xs, r, ob, es, ep, e, c⟩ := x
    exact ⟨z, y, xs, Paired.mapP r fun p q z => ⟨z.1, ht _ _ z.2.1, z.2.2⟩, ob, es, ep, k _ _ (.inl rfl) e, c⟩
  | set S n => obtain ⟨ob, es, ep, t, e, c⟩ := x; exact ⟨ob, es, ep, t, k _ _ (.inl rfl) e, c⟩
  | ins C dx fs =>
    obtain ⟨d, z, ne, e, mA, ⟨od, es, ep, e2, c⟩, r⟩ := x
    exact ⟨ho _ d, z, ne, k _ _ (.inl rfl) e, mA, ⟨od, es, ep, k _ _ (.inr d) e2, c⟩, r⟩
  | own y => obtain ⟨ob, e⟩ := x; exact ⟨ob, k _ _ (.inl rfl) e⟩
  | xd fs => obtain ⟨mA, ⟨od, es, ep, e, c⟩, r⟩ := x; exact ⟨mA, ⟨od, es, ep, k _ _ (.inl rfl) e, c⟩, r⟩
  | rng lo hi => obtain ⟨t, u, v, e⟩ := x; exact ⟨t, u, v, k _ _ (.inl rfl) e⟩
  | frz ob u ih => obtain ⟨e, q⟩ := x; exact ⟨k _ _ (.inl rfl) e, ih q⟩
  | tbl ps =>
    have e : h.get? a = some { cls := .none, data := .fields ps } := x
    show h'.get? a = some { cls := .none, data := .fields ps }
    exact k a _ (.inl rfl) e
  | met f y =>
    have e : h.get? a = some (PySem.W.methodObj (.ref f) (.ref y)) := x
    show h'.get? a = some (PySem.W.methodObj (.ref f) (.ref y))
    exact k a _ (.inl rfl) e
  | ext φ => obtain ⟨p, ⟨o, e⟩, st⟩ := x; exact ⟨st _ _ p fun o q => k _ _ (.inl rfl) q, ⟨o, k _ _ (.inl rfl) e⟩, st⟩
theorem HOk.lt (x : HOk P w H h) (e : H a = some o) : a < h.objs.size := (x a o e).lt
theorem HOk.fresh (x : HOk P w H h) (e : h.objs.size ≤ a) : H a = none := by
  cases q : H a with
  | none => rfl
  | some u => exact absurd (Nat.lt_of_lt_of_le (x.lt q) e) (Nat.lt_irrefl _)
theorem HOk.kept (x : HOk P w H h) (k : ∀ b u, h.get? b = some u → h'.get? b = some u) : HOk P w H h' := fun a o e =>
  (x a o e).stay (fun b u _ q => k b u q) (fun _ q => q) fun _ _ q => q
theorem HOk.laid (x : HOk P w H h) (k : ∀ b u, h.get? b = some u → h'.get? b = some u) (hp : h.objs.size ≤ a) (new : ObjOk P w (upd H a o) h' a o) : HOk P w (upd H a o) h' := fun b u e => by
  have hn := x.fresh hp
  by_cases hb : b = a
  · subst hb; rw [upd_same] at e; cases e; exact new
  · rw [upd_ne hb] at e
    exact (x b u e).stay (fun c v _ q => k c v q) (fun c q => by rw [upd_ne (ne_of_none q hn)]; exact q) fun c xs q => by rw [upd_ne (ne_of_none q hn)]; exact q
end
def Rd (H : Hp) (a : Addr) (u : HO) : Prop := H a = some u ∨ ∃ o, H a = some (.frz o u)
theorem Rd.ok {P : Program} {w : World} {H : Hp} {h : Heap} {a : Addr} {u : HO} (r : Rd H a u) (x : HOk P w H h) : ObjOk P w H h a u := by
  rcases r with r | ⟨o, r⟩
  · exact x a u r
  · obtain ⟨_, q⟩ := x a _ r
    exact q
def Mut : Option HO → Prop
  | some (.lst _) => True
  | some (.dK _) => True
  | some (.dT _) => True
  | some (.set _ _) => True
  | some (.ins _ _ _) => True
  | some (.ext _) => True
  | _ => False
section
variable {P : Program} {w : World} {H : Hp} {h h' : Heap} {x e : Addr} {o' : HO}
theorem HOk.write (ok : HOk P w H h) (mu : Mut (H x)) (he : e = x ∨ H e = some (.own x)) (k : ∀ b u, b ≠ e → h.get? b = some u → h'.get? b = some u) (heo : ∃ u, h'.get? e = some u)
    (new : ObjOk P w (upd H x o') h' x o') : HOk P w (upd H x o') h' := fun b u q => by
  have nown : ∀ c y, H c = some (.own y) → c ≠ x := fun c y r z => by subst z; rw [r] at mu; exact mu
  have ntup : ∀ c xs, H c = some (.tup xs) → c ≠ x := fun c xs r z => by subst z; rw [r] at mu; exact mu
  by_cases hb : b = x
  · subst hb; rw [upd_same] at q; cases q; exact new
  · rw [upd_ne hb] at q
    by_cases hbe : b = e
    · have q' : H b = some (.own x) := by
        rcases he with z | z
        · exact absurd (hbe.trans z) hb
        · rw [hbe]; exact z
      rw [q] at q'; cases q'
      obtain ⟨v, hv⟩ := heo
      exact ⟨v, by rw [hbe]; exact hv⟩
    · refine (ok b u q).stay (fun c v hc r => k c v ?_ r) (fun c r => by rw [upd_ne (nown c b r)]; exact r) fun c xs r => by rw [upd_ne (ntup c xs r)]; exact r
      rcases hc with rfl | hc
      · exact hbe
      · rintro rfl
        rcases he with z | z
        · exact nown c b hc z
        · rw [hc] at z; cases z; exact hb rfl
end
structure Un (fs ex : List Addr) (H H' : Hp) (h h' : Heap) : Prop where
  keep : ∀ b o, h.get? b = some o → H b = none → b ∉ fs → b ∉ ex → h'.get? b = some o
  slot : ∀ b o, h.get? b = some o → H b = none → b ∈ fs → b ∉ ex → ∃ sl, h'.get? b = some { o with slots := sl }
  free : ∀ b o, h.get? b = some o → H b = none → b ∉ ex → H' b = none
  there : ∀ b o, h.get? b = some o → b ∉ ex → ∃ o', h'.get? b = some o'
  tups : ∀ b xs, H b = some (.tup xs) → H' b = some (.tup xs)
  frzs : ∀ b o u, H b = some (.frz o u) → H' b = some (.frz o u)
  tbls : ∀ b ps, H b = some (.tbl ps) → ∃ more, H' b = some (.tbl (ps ++ more))
section
variable {fs fs' ex ex' : List Addr} {H H1 H2 : Hp} {h h1 h2 h' : Heap} {a x e : Addr} {o : HO}
theorem Un.any (u : Un fs ex H H1 h h1) {b : Addr} {ob : Obj} (q : h.get? b = some ob) (n : H b = none) (hx : b ∉ ex) : ∃ sl, h1.get? b = some { ob with slots := sl } := by
  by_cases hb : b ∈ fs
  · exact u.slot b ob q n hb hx
  · exact ⟨ob.slots, u.keep b ob q n hb hx⟩
theorem Un.kept (k : ∀ b u, h.get? b = some u → h'.get? b = some u) : Un fs ex H H h h' :=
  ⟨fun b ob q _ _ _ => k b ob q, fun b ob q _ _ _ => ⟨ob.slots, k b ob q⟩, fun _ _ _ n _ => n, fun b ob q _ => ⟨ob, k b ob q⟩, fun _ _ q => q, fun _ _ _ q => q, fun _ ps q => ⟨#[], by rw [q]; simp⟩⟩
theorem Un.refl : Un fs ex H H h h := Un.kept fun _ _ q => q
theorem Un.laid (k : ∀ b u, h.get? b = some u → h'.get? b = some u) (hp : h.objs.size ≤ a) (hn : H a = none) : Un fs ex H (upd H a o) h h' where
  keep := fun b u q _ _ _ => k b u q
  slot := fun b u q _ _ _ => ⟨u.slots, k b u q⟩
  free := fun b u q n _ => by rw [upd_ne (Nat.ne_of_lt (Nat.lt_of_lt_of_le (Heap.lt_size q) hp))]; exact n
  there := fun b u q _ => ⟨u, k b u q⟩
  tups := fun b xs q => by rw [upd_ne (ne_of_none q hn)]; exact q
  frzs := fun b u xs q => by rw [upd_ne (ne_of_none q hn)]; exact q
  tbls := fun b ps q => ⟨#[], by rw [upd_ne (ne_of_none q hn), q]; simp⟩
theorem Un.write (mu : Mut (H x)) (he : e = x ∨ H e = some (.own x)) (k : ∀ b u, b ≠ e → h.get? b = some u → h'.get? b = some u) (heo : ∃ u, h'.get? e = some u) : Un fs ex H (upd H x o) h h' := by
  have hx : ∀ b, H b = none → b ≠ x := fun b n z => by subst z; rw [n] at mu; exact mu
  have hb : ∀ b, H b = none → b ≠ e := fun b n z => by
    subst z
    rcases he with r | r
    · exact hx b n r
    · rw [n] at r; cases r
  have hm : ∀ b u, H b = some u → ¬ Mut (some u) → b ≠ x := fun b u q nm z => by subst z; rw [q] at mu; exact nm mu
  refine ⟨fun b u q n _ _ => k b u (hb b n) q, fun b u q n _ _ => ⟨u.slots, k b u (hb b n) q⟩, fun b u q n _ => by rw [upd_ne (hx b n)]; exact n, fun b u q _ => ?_,
    fun b xs q => by rw [upd_ne (hm b _ q fun z => z)]; exact q, fun b u xs q => by rw [upd_ne (hm b _ q fun z => z)]; exact q, fun b ps q => ⟨#[], by rw [upd_ne (hm b _ q fun z => z), q]; simp⟩⟩
  by_cases hbe : b = e
  · subst hbe; exact heo
  · exact ⟨u, k b u hbe q⟩
end
def trk (h : Heap) (H : Hp) : List Addr := (List.range h.objs.size).filter fun a => (H a).isSome
def hidT (h : Heap) (H : Hp) : Heap := PySem.W.hideAll h (trk h H)
theorem hidT_size (h : Heap) (H : Hp) : (hidT h H).objs.size = h.objs.size := PySem.W.hideAll_size _ _
theorem hidT_get {h : Heap} {H : Hp} {b : Addr} {o : Obj} (e : h.get? b = some o) (n : H b = none) : (hidT h H).get? b = some o :=
  PySem.W.hideAll_get _ e fun hm => by
    have q : (H b).isSome = true := (List.mem_filter.mp hm).2
    rw [n] at q; simp at q
theorem of_hidT {h : Heap} {H : Hp} {b : Addr} {o : Obj} (e : (hidT h H).get? b = some o) : h.get? b = some o ∧ H b = none := by
  have e' : h.get? b = some o := PySem.W.of_hideAll (trk h H) e
  refine ⟨e', ?_⟩
  cases q : H b with
  | none => rfl
  | some x =>
    have hm : b ∈ trk h H := List.mem_filter.mpr ⟨List.mem_range.mpr (Heap.lt_size e'), by simp [q]⟩
    have z : (hidT h H).get? b = none := PySem.W.hideAll_none (trk h H) hm
    rw [z] at e; cases e
end L2
namespace L2
open PySem PySem.Spec PyProof.Rows
structure Mod (K : PySem.W.Frag) (mg : Str → Option Value) (base : Heap) : Prop where
  kin : K.In base
  glob : base.Ns mainGlobals mg
  blt : ∃ mb, base.Ns builtinsNs mb ∧ ∀ x : Str, x ≠ "__name__" → mb x = bootBuiltins x
  nolimit : base.NoLimit
structure Cx where
  prog : Program
  w : World
  K : PySem.W.Frag
  mg : Str → Option Value
  base : Heap
  A : Around
  N : List Str
  s_0 : Shared
  H_0 : Hp
  env : Env
  outer : List Env
  stack : List Env
  ex : List Addr
  fn : Str → Bool
  calm : Bool
  pn : List (Addr × Obj)
  xe : Value → Shared → Prop
def frs (l : List Env) : List Addr := l.filterMap (·.frame)
abbrev Cx.fs (X : Cx) : List Addr := frs X.outer
def Vis (sc : Scope) (x : Str) : Prop := sc.names.lookup x = some .local ∨ sc.names.lookup x = some .cell ∨ sc.names.lookup x = some .free
def Loc (sc : Scope) (x : Str) : Prop := sc.names.lookup x = some .local ∨ sc.names.lookup x = some .cell
def Look (env : Env) (h : Heap) (m : Str → Option Value) (x : Str) (u : Value) : Prop :=
  (env.kindOf x = some .local ∧ m x = some u) ∨ ((env.kindOf x = some .cell ∨ env.kindOf x = some .free) ∧ ∃ c, env.cells.lookup x = some c ∧ h.IsCell c (some u))
structure Cx.Ok (X : Cx) : Prop where
  mod : Mod X.K X.mg X.base
  kind : X.env.scope.kind = .function
  glob : X.env.globals = mainGlobals
  blt : X.env.builtins = builtinsNs
  above : X.s_0.heap.objs.size ≤ X.env.locals
  inj : ∀ x y c, X.env.cells.lookup x = some c → X.env.cells.lookup y = some c → x = y
  has : ∀ x, (X.env.kindOf x = some .cell ∨ X.env.kindOf x = some .free) → ∃ c, X.env.cells.lookup x = some c
  cab : ∀ x c, X.fn x = true → X.env.cells.lookup x = some c → X.s_0.heap.objs.size ≤ c
  hd : X.calm = true → X.A.handled = none
  frames : X.A.frames = some X.stack
  stk : X.stack = X.outer ∨ (X.stack = X.env :: X.outer ∧ X.env.frame = some X.env.locals)
  exf : ∀ b ∈ X.ex, b ≠ X.env.locals ∧ ∀ x c, X.env.cells.lookup x = some c → c ≠ b
  bs : ∀ b o, X.base.get? b = some o → X.s_0.heap.get? b = some o ∧ X.H_0 b = none
  bsz : X.base.objs.size ≤ X.s_0.heap.objs.size
  noex : ∀ b o, X.base.get? b = some o → b ∉ X.ex
  exfs : ∀ b ∈ X.ex, b ∉ X.fs
  funs : X.s_0.heap.FunFrames X.base X.outer
  frf : ∀ b ∈ X.fs, X.H_0 b = none
structure Inv (X : Cx) (pins : List (Addr × Obj)) (σ : List (Option V)) (H : Hp) (s : Shared) : Prop where
  ok : X.Ok
  os : s.os = X.s_0.os
  bare : AllBare s.gens
  base : Un X.fs X.ex X.H_0 H X.s_0.heap s.heap
  loc : ∃ m, s.heap.Ns X.env.locals m ∧ ∀ (i : Nat) (x : Str) (v : V), X.N[i]? = some x → σ[i]? = some (some v) → Vis X.env.scope x → ∃ u, RelV v u ∧ Look X.env s.heap m x u
  cell : ∀ x c, X.env.cells.lookup x = some c → ∃ v, s.heap.IsCell c v
  free : H X.env.locals = none
  freeC : ∀ x c, X.env.cells.lookup x = some c → H c = none
  pin : ∀ p ∈ X.pn ++ pins, s.heap.get? p.1 = some p.2 ∧ H p.1 = none ∧ p.1 ≠ X.env.locals ∧ p.1 ∉ X.fs ∧ ∀ v, p.2.data ≠ .cell v
  hok : HOk X.prog X.w H s.heap
  len : σ.length = X.N.length
section
variable {X : Cx} {pins : List (Addr × Obj)} {σ : List (Option V)} {H H' : Hp} {s : Shared} {h' : Heap}
theorem Cx.Ok.nofr (ok : X.Ok) {b : Addr} {o : Obj} (e : X.base.get? b = some o) : b ∉ X.fs := fun hb => by
  have := (ok.funs.mem hb).1
  rw [e] at this; cases this
theorem Inv.bs (I : Inv X pins σ H s) : ∀ b o, X.base.get? b = some o → s.heap.get? b = some o ∧ H b = none := fun b o e =>
  ⟨I.base.keep b o (I.ok.bs b o e).1 (I.ok.bs b o e).2 (I.ok.nofr e) (I.ok.noex b o e), I.base.free b o (I.ok.bs b o e).1 (I.ok.bs b o e).2 (I.ok.noex b o e)⟩
theorem Inv.bk (I : Inv X pins σ H s) : ∀ b o, X.base.get? b = some o → s.heap.get? b = some o := fun b o e => (I.bs b o e).1
theorem Inv.mod (I : Inv X pins σ H s) : Mod X.K X.mg X.base := I.ok.mod
theorem Inv.kIn (I : Inv X pins σ H s) : X.K.In s.heap := I.ok.mod.kin.keeps I.bk
theorem Inv.fr (I : Inv X pins σ H s) : ∃ m, Fr X.base X.env.locals s.heap m :=
  let ⟨m, hn, _⟩ := I.loc
  ⟨m, hn, I.bk, Nat.le_trans I.ok.bsz I.ok.above⟩
theorem Inv.lt (I : Inv X pins σ H s) : X.env.locals < s.heap.objs.size := let ⟨_, hn, _⟩ := I.loc; hn.lt
theorem Inv.sz (I : Inv X pins σ H s) : X.s_0.heap.objs.size ≤ s.heap.objs.size := Nat.le_trans I.ok.above (Nat.le_of_lt I.lt)
theorem Inv.nofs (I : Inv X pins σ H s) {a : Addr} (h : s.heap.objs.size ≤ a) : a ∉ X.fs := fun hb => by
  obtain ⟨_, o, ho, _⟩ := I.ok.funs.mem hb
  exact absurd (Nat.lt_of_lt_of_le (Heap.lt_size ho) (Nat.le_trans I.sz h)) (Nat.lt_irrefl _)
theorem Inv.cne (I : Inv X pins σ H s) : ∀ x c, X.env.cells.lookup x = some c → c ≠ X.env.locals := fun x c e z => by
  obtain ⟨v, o, ho, hd⟩ := I.cell x c e
  obtain ⟨m, ⟨o', es, ep, ho', hd', _⟩, _⟩ := I.loc
  rw [z, ho'] at ho; cases ho; rw [hd'] at hd; cases hd
theorem Inv.funs (I : Inv X pins σ H s) : s.heap.FunFrames X.base X.outer := by
  have all : ∀ (l : List Env), (∀ b ∈ frs l, b ∈ X.fs) → X.s_0.heap.FunFrames X.base l → s.heap.FunFrames X.base l := by
    intro l
    induction l with
    | nil => intro _ _; trivial
    | cons env r ih =>
      intro hs hl
      obtain ⟨hk, ⟨L, o, hf, hn, ho, hd⟩, hr⟩ := hl
      have hL : L ∈ X.fs := hs L (by unfold frs; rw [List.filterMap_cons, hf]; exact List.mem_cons_self)
      obtain ⟨sl, e⟩ := I.base.slot L o ho (I.ok.frf L hL) hL fun z => I.ok.exfs L z hL
      exact ⟨hk, ⟨L, _, hf, hn, e, hd⟩, ih (fun b hb => hs b (by unfold frs; rw [List.filterMap_cons, hf]; exact List.mem_cons_of_mem _ hb)) hr⟩
  exact all X.outer (fun _ hb => hb) I.ok.funs
theorem Inv.stack (I : Inv X pins σ H s) : s.heap.FunFrames X.base X.stack := by
  rcases I.ok.stk with e | ⟨e, hf⟩
  · rw [e]; exact I.funs
  · rw [e]
    obtain ⟨m, hn, _⟩ := I.loc
    refine .cons (by rw [I.ok.kind]; decide) hf hn ?_ I.funs
    exact Heap.get?_none_of_le (Nat.le_trans I.ok.bsz I.ok.above)
theorem Inv.stkSub (I : Inv X pins σ H s) : ∀ b ∈ frs X.stack, b ∈ X.env.locals :: X.fs := fun b hb => by
  rcases I.ok.stk with e | ⟨e, hf⟩
  · rw [e] at hb; exact List.mem_cons_of_mem _ hb
  · rw [e] at hb
    unfold frs at hb
    rw [List.filterMap_cons, hf] at hb
    exact hb
theorem Inv.stkFree (I : Inv X pins σ H s) : ∀ b ∈ frs X.stack, H b = none := fun b hb => by
  rcases List.mem_cons.mp (I.stkSub b hb) with e | hb
  · rw [e]; exact I.free
  · obtain ⟨_, o, ho, _⟩ := I.ok.funs.mem hb
    exact I.base.free b o ho (I.ok.frf b hb) fun z => I.ok.exfs b z hb
theorem Inv.step {g' : Array GenState} {t' : Nat} {d' : Drawn} {ch : List Addr} (I : Inv X pins σ H s)
    (hch : ∀ b ∈ ch, (b ∈ X.ex ∨ X.s_0.heap.objs.size ≤ b) ∧ b ≠ X.env.locals ∧ (∀ x c, X.env.cells.lookup x = some c → c ≠ b) ∧ ∀ p ∈ X.pn ++ pins, p.1 ≠ b)
    (keep : ∀ b o, b ≠ X.env.locals → b ∉ X.fs → b ∉ ch → s.heap.get? b = some o → H b = none → h'.get? b = some o)
    (slot : ∀ b o, b ≠ X.env.locals → b ∈ X.fs → b ∉ ch → s.heap.get? b = some o → H b = none → ∃ sl, h'.get? b = some { o with slots := sl }) (free : ∀ b o, b ∉ ch → s.heap.get? b = some o → H b = none → H' b = none)
    (there : ∀ b o, b ∉ ch → s.heap.get? b = some o → ∃ o', h'.get? b = some o')
    (tups : ∀ b xs, H b = some (.tup xs) → H' b = some (.tup xs)) (frzs : ∀ b o u, H b = some (.frz o u) → H' b = some (.frz o u)) (tbls : ∀ b ps, H b = some (.tbl ps) → ∃ more, H' b = some (.tbl (ps ++ more)))
    (ns : ∀ m, s.heap.Ns X.env.locals m → h'.Ns X.env.locals m) (hok : HOk X.prog X.w H' h') (hg : AllBare g') :
    Inv X pins σ H' { s with heap := h', gens := g', drawn := d', toks := t' } := by
  have neL : ∀ b o, X.s_0.heap.get? b = some o → b ≠ X.env.locals := fun b o e => Nat.ne_of_lt (Nat.lt_of_lt_of_le (Heap.lt_size e) I.ok.above)
  have neC : ∀ b o, X.s_0.heap.get? b = some o → b ∉ X.ex → b ∉ ch := fun b o e hx hb => by
    rcases (hch b hb).1 with z | z
    · exact hx z
    · exact absurd (Nat.lt_of_lt_of_le (Heap.lt_size e) z) (Nat.lt_irrefl _)
  have cellK : ∀ x c, X.env.cells.lookup x = some c → ∀ v, s.heap.IsCell c v → h'.IsCell c v := fun x c e v ⟨o, ho, hd⟩ => by
    have nch : c ∉ ch := fun z => (hch c z).2.2.1 x c e rfl
    by_cases hc : c ∈ X.fs
    · obtain ⟨sl, q⟩ := slot c o (I.cne x c e) hc nch ho (I.freeC x c e)
      exact ⟨_, q, hd⟩
    · exact ⟨o, keep c o (I.cne x c e) hc nch ho (I.freeC x c e), hd⟩
  refine ⟨I.ok, I.os, hg, ⟨fun b o e n hb hx => ?_, fun b o e n hb hx => ?_, fun b o e n hx => ?_, fun b o e hx => ?_, fun b xs e => tups b xs (I.base.tups b xs e), fun b o xs e => frzs b o xs (I.base.frzs b o xs e), fun b ps e => ?_⟩, ?_, fun x c e => ?_, ?_, fun x c e => ?_, fun p hp => ?_, hok, I.len⟩
  · exact keep b o (neL b o e) hb (neC b o e hx) (I.base.keep b o e n hb hx) (I.base.free b o e n hx)
  · obtain ⟨sl, e1⟩ := I.base.slot b o e n hb hx
    obtain ⟨sl', e2⟩ := slot b _ (neL b o e) hb (neC b o e hx) e1 (I.base.free b o e n hx)
    exact ⟨sl', e2⟩
  · obtain ⟨o', e1⟩ := I.base.there b o e hx
    exact free b o' (neC b o e hx) e1 (I.base.free b o e n hx)
  · obtain ⟨o', e1⟩ := I.base.there b o e hx
    exact there b o' (neC b o e hx) e1
  · obtain ⟨m1, e1⟩ := I.base.tbls b ps e
    obtain ⟨m2, e2⟩ := tbls b _ e1
    exact ⟨m1 ++ m2, by rw [e2, Array.append_assoc]⟩
  · obtain ⟨m, hn, hl⟩ := I.loc
    refine ⟨m, ns m hn, fun i x v e1 e2 e3 => ?_⟩
    obtain ⟨u, r, l⟩ := hl i x v e1 e2 e3
    refine ⟨u, r, ?_⟩
    rcases l with l | ⟨k, c, e, z⟩
    · exact .inl l
    · exact .inr ⟨k, c, e, cellK x c e _ z⟩
  · obtain ⟨v, z⟩ := I.cell x c e
    exact ⟨v, cellK x c e v z⟩
  · obtain ⟨m, ⟨o, _, _, ho, _⟩, _⟩ := I.loc
    exact free _ o (fun z => (hch _ z).2.1 rfl) ho I.free
  · obtain ⟨v, o, ho, hd⟩ := I.cell x c e
    exact free c o (fun z => (hch c z).2.2.1 x c e rfl) ho (I.freeC x c e)
  · obtain ⟨e, n, ne, nf, d⟩ := I.pin p hp
    have nch : p.1 ∉ ch := fun z => (hch p.1 z).2.2.2 p hp rfl
    exact ⟨keep p.1 p.2 ne nf nch e n, free p.1 p.2 nch e n, ne, nf, d⟩
theorem Inv.un {t' : Nat} (I : Inv X pins σ H s) (u : Un X.fs [] H H' s.heap h') (hok : HOk X.prog X.w H' h') : Inv X pins σ H' { s with heap := h', toks := t' } := by
  obtain ⟨m, ⟨o, es, ep, ho, r⟩, _⟩ := id I.loc
  obtain ⟨sl, hL⟩ := u.any ho I.free (by simp)
  exact I.step (g' := s.gens) (d' := s.drawn) (ch := []) (fun _ z => nomatch z) (fun b o _ hb _ e n => u.keep b o e n hb (by simp)) (fun b o _ hb _ e n => u.slot b o e n hb (by simp)) (fun b o _ e n => u.free b o e n (by simp)) (fun b o _ e => u.there b o e (by simp)) u.tups u.frzs u.tbls (fun m' hm => by
    obtain ⟨o', es', ep', ho', r'⟩ := hm
    rw [ho] at ho'; cases ho'
    exact ⟨_, es', ep', hL, r'⟩) hok I.bare
theorem Inv.call {g' : Array GenState} {t' : Nat} {d' : Drawn} {ch : List Addr} (I : Inv X pins σ H s) (u : Un (frs X.stack) ch H H' s.heap h') (hok : HOk X.prog X.w H' h') (hg : AllBare g')
    (hch : ∀ b ∈ ch, (b ∈ X.ex ∨ X.s_0.heap.objs.size ≤ b) ∧ b ≠ X.env.locals ∧ (∀ x c, X.env.cells.lookup x = some c → c ≠ b) ∧ ∀ p ∈ X.pn ++ pins, p.1 ≠ b) :
    Inv X pins σ H' { s with heap := h', gens := g', drawn := d', toks := t' } := by
  obtain ⟨m, ⟨o, es, ep, ho, r⟩, _⟩ := id I.loc
  obtain ⟨sl, hL⟩ := u.any ho I.free fun z => (hch _ z).2.1 rfl
  exact I.step (ch := ch) hch (fun b o hL hb hc e n => u.keep b o e n (fun z => (List.mem_cons.mp (I.stkSub b z)).elim hL hb) hc) (fun b o _ _ hc e n => u.any e n hc) (fun b o hc e n => u.free b o e n hc) (fun b o hc e => u.there b o e hc) u.tups u.frzs u.tbls (fun m' hm => by
    obtain ⟨o', es', ep', ho', r'⟩ := hm
    rw [ho] at ho'; cases ho'
    exact ⟨_, es', ep', hL, r'⟩) hok hg
theorem Inv.turned {t' : Nat} {it : Addr} (I : Inv X pins σ H s) (k : ∀ b o, b ≠ it → s.heap.get? b = some o → h'.get? b = some o) (hn : H it = none) (hL : it ≠ X.env.locals)
    (h1 : it ∈ X.ex ∨ X.s_0.heap.objs.size ≤ it) (h2 : ∀ x c, X.env.cells.lookup x = some c → c ≠ it) (h3 : ∀ p ∈ X.pn ++ pins, p.1 ≠ it) : Inv X pins σ H { s with heap := h', toks := t' } := by
  have nit : ∀ b u, H b = some u → b ≠ it := fun b u e z => by rw [z, hn] at e; cases e
  refine I.step (g' := s.gens) (d' := s.drawn) (ch := [it]) (fun b hb => ?_) (fun b o _ _ hc e _ => k b o (fun z => hc (by simp [z])) e) (fun b o _ _ hc e _ => ⟨o.slots, k b o (fun z => hc (by simp [z])) e⟩) (fun _ _ _ _ n => n)
    (fun b o hc e => ⟨o, k b o (fun z => hc (by simp [z])) e⟩) (fun _ _ e => e) (fun _ _ _ e => e) (fun b ps e => ⟨#[], by rw [e]; simp⟩) (fun m hm => ?_) (fun b u e => ?_) I.bare
  · have e : b = it := by simpa using hb
    subst e
    exact ⟨h1, hL, h2, h3⟩
  · obtain ⟨o, es, ep, ho, r⟩ := hm
    exact ⟨o, es, ep, k _ o (Ne.symm hL) ho, r⟩
  · refine (I.hok b u e).stay (fun c v hc q => k c v ?_ q) (fun _ q => q) fun _ _ q => q
    rcases hc with z | z
    · rw [z]; exact nit b u e
    · exact nit c _ z
theorem Inv.tok (I : Inv X pins σ H s) (t : Nat) : Inv X pins σ H { s with toks := t } := I.un (h' := s.heap) (t' := t) Un.refl I.hok
theorem Inv.kept {t' : Nat} (I : Inv X pins σ H s) (k : ∀ b u, s.heap.get? b = some u → h'.get? b = some u) : Inv X pins σ H { s with heap := h', toks := t' } := I.un (Un.kept k) (I.hok.kept k)
theorem Inv.laid {a : Addr} {o : HO} {t' : Nat} (I : Inv X pins σ H s) (k : ∀ b u, s.heap.get? b = some u → h'.get? b = some u) (hp : s.heap.objs.size ≤ a) (new : ObjOk X.prog X.w (upd H a o) h' a o) :
    Inv X pins σ (upd H a o) { s with heap := h', toks := t' } := I.un (Un.laid k hp (I.hok.fresh hp)) (I.hok.laid k hp new)
theorem Inv.write {x e : Addr} {o : HO} {t' : Nat} (I : Inv X pins σ H s) (mu : Mut (H x)) (he : e = x ∨ H e = some (.own x)) (k : ∀ b u, b ≠ e → s.heap.get? b = some u → h'.get? b = some u) (heo : ∃ u, h'.get? e = some u)
    (new : ObjOk X.prog X.w (upd H x o) h' x o) : Inv X pins σ (upd H x o) { s with heap := h', toks := t' } := I.un (Un.write mu he k heo) (I.hok.write mu he k heo new)
theorem Inv.weak {σ' : List (Option V)} (I : Inv X pins σ H s) (hl : σ'.length = σ.length) (w : ∀ (i : Nat) v, σ'[i]? = some (some v) → σ[i]? = some (some v)) : Inv X pins σ' H s :=
  ⟨I.ok, I.os, I.bare, I.base, let ⟨m, hn, hl'⟩ := I.loc; ⟨m, hn, fun i x v e1 e2 e3 => hl' i x v e1 (w i v e2) e3⟩, I.cell, I.free, I.freeC, I.pin, I.hok, hl.trans I.len⟩
theorem Inv.pins_of {pins' : List (Addr × Obj)} (I : Inv X pins σ H s) (h : ∀ p ∈ pins', s.heap.get? p.1 = some p.2 ∧ H p.1 = none ∧ p.1 ≠ X.env.locals ∧ p.1 ∉ X.fs ∧ ∀ v, p.2.data ≠ .cell v) : Inv X pins' σ H s :=
  ⟨I.ok, I.os, I.bare, I.base, I.loc, I.cell, I.free, I.freeC, fun p hp => (List.mem_append.mp hp).elim (fun z => I.pin p (List.mem_append_left _ z)) (h p), I.hok, I.len⟩
theorem nodup_ix {N : List Str} (hN : N.Nodup) {i j : Nat} {x : Str} (a : N[i]? = some x) (b : N[j]? = some x) : i = j := by
  obtain ⟨h1, e1⟩ := List.getElem?_eq_some_iff.mp a
  obtain ⟨h2, e2⟩ := List.getElem?_eq_some_iff.mp b
  exact (List.getElem_inj hN).mp (e1.trans e2.symm)
theorem store_ok2 {M : Model} {A : Around} {E : Value → Shared → Prop} {i : Nat} {x : Str} {v : V} {u : Value} {Q : Unit → Shared → Prop} (I : Inv X pins σ H s) (hN : X.N.Nodup) (hi : X.N[i]? = some x) (hx : Loc X.env.scope x) (r : RelV v u)
    (h : ∀ s', Inv X pins (σ.set i (some v)) H s' → (∃ a, Heap.SameBut a s.heap s'.heap ∧ (a = X.env.locals ∨ X.env.cells.lookup x = some a)) → Q () s') (hf : X.fn x = true ∨ X.env.scope.names.lookup x = some .local := by first | exact .inl rfl | exact .inr rfl | assumption) : wpAny M A (storeName X.env x u) Q E s := by
  obtain ⟨m, hn, hl⟩ := id I.loc
  have hcls : (X.env.scope.kind == .class || (X.env.scope.kind == .module && X.env.locals != X.env.globals)) = false := by rw [I.ok.kind]; rfl
  have hiσ : i < σ.length := by rw [I.len]; exact (List.getElem?_eq_some_iff.mp hi).1
  have cne := I.cne
  have tracked : ∀ {a : Addr} {h' : Heap}, (∃ o, s.heap.get? a = some o ∧ H a = none) → Heap.SameBut a s.heap h' → HOk X.prog X.w H h' := fun {a h'} ha hs b ob e => by
    obtain ⟨_, _, hfree⟩ := ha
    refine (I.hok b ob e).stay (fun c w' hc q => (hs.2 c ?_).trans q) (fun _ q => q) fun _ _ q => q
    rintro rfl
    rcases hc with rfl | hc
    · rw [hfree] at e; cases e
    · rw [hfree] at hc; cases hc
  rcases hx with hk | hk
  · refine wpAny_storeName_local hk hn (fun h' hn' hs => ?_) hcls
    obtain ⟨oL, _, _, hoL, _⟩ := id hn
    refine h _ ⟨I.ok, I.os, I.bare, ⟨fun b o e n hb hx => ?_, fun b o e n hb hx => ?_, I.base.free, fun b o e hx => ?_, I.base.tups, I.base.frzs, I.base.tbls⟩, ⟨_, hn', fun j y v' e1 e2 e3 => ?_⟩, fun y c e => ?_, I.free, I.freeC, fun p hp => ?_, tracked ⟨oL, hoL, I.free⟩ hs, by simpa using I.len⟩ ⟨_, hs, .inl rfl⟩
    · exact (hs.2 b (Nat.ne_of_lt (Nat.lt_of_lt_of_le (Heap.lt_size e) I.ok.above))).trans (I.base.keep b o e n hb hx)
    · obtain ⟨sl, e1⟩ := I.base.slot b o e n hb hx
      exact ⟨sl, (hs.2 b (Nat.ne_of_lt (Nat.lt_of_lt_of_le (Heap.lt_size e) I.ok.above))).trans e1⟩
    · obtain ⟨o', e1⟩ := I.base.there b o e hx
      exact ⟨o', (hs.2 b (Nat.ne_of_lt (Nat.lt_of_lt_of_le (Heap.lt_size e) I.ok.above))).trans e1⟩
    · by_cases hj : j = i
      · subst hj
        rw [hi] at e1; cases e1
        rw [List.getElem?_set_self hiσ] at e2
        cases e2
        exact ⟨u, r, .inl ⟨hk, by simp⟩⟩
      · rw [List.getElem?_set_ne (Ne.symm hj)] at e2
        obtain ⟨u', r', q⟩ := hl j y v' e1 e2 e3
        refine ⟨u', r', ?_⟩
        rcases q with ⟨k, e⟩ | ⟨k, c, e, z⟩
        · refine .inl ⟨k, ?_⟩
          have : y ≠ x := fun e => hj (nodup_ix hN e1 (e ▸ hi))
          simp [this, e]
        · exact .inr ⟨k, c, e, z.sameBut hs (cne y c e)⟩
    · obtain ⟨w', z⟩ := I.cell y c e
      exact ⟨w', z.sameBut hs (cne y c e)⟩
    · obtain ⟨e, n, ne, nf, d⟩ := I.pin p hp
      exact ⟨(hs.2 p.1 ne).trans e, n, ne, nf, d⟩
  · have hfn : X.fn x = true := by
      rcases hf with z | z
      · exact z
      · rw [z] at hk; cases hk
    obtain ⟨c, hc⟩ := I.ok.has x (.inl hk)
    obtain ⟨w', z⟩ := I.cell x c hc
    refine wpAny_storeName_cell I.ok.kind hk hc z (fun h' hc' hs => ?_)
    obtain ⟨oc, hoc, hocd⟩ := id z
    refine h { s with heap := h' } ⟨I.ok, I.os, I.bare, ⟨fun b o e n hb hx => ?_, fun b o e n hb hx => ?_, I.base.free, fun b o e hx => ?_, I.base.tups, I.base.frzs, I.base.tbls⟩, ⟨m, hn.sameBut hs (Ne.symm (cne x c hc)), fun j y v' e1 e2 e3 => ?_⟩, fun y c' e => ?_, I.free, I.freeC, fun p hp => ?_, tracked ⟨oc, hoc, I.freeC x c hc⟩ hs, by simpa using I.len⟩ ⟨c, hs, .inr hc⟩
    · exact (hs.2 b (Nat.ne_of_lt (Nat.lt_of_lt_of_le (Heap.lt_size e) (I.ok.cab x c hfn hc)))).trans (I.base.keep b o e n hb hx)
    · obtain ⟨sl, e1⟩ := I.base.slot b o e n hb hx
      exact ⟨sl, (hs.2 b (Nat.ne_of_lt (Nat.lt_of_lt_of_le (Heap.lt_size e) (I.ok.cab x c hfn hc)))).trans e1⟩
    · obtain ⟨o', e1⟩ := I.base.there b o e hx
      exact ⟨o', (hs.2 b (Nat.ne_of_lt (Nat.lt_of_lt_of_le (Heap.lt_size e) (I.ok.cab x c hfn hc)))).trans e1⟩
    · by_cases hj : j = i
      · subst hj
        rw [hi] at e1; cases e1
        rw [List.getElem?_set_self hiσ] at e2
        cases e2
        exact ⟨u, r, .inr ⟨.inl hk, c, hc, hc'⟩⟩
      · rw [List.getElem?_set_ne (Ne.symm hj)] at e2
        obtain ⟨u', r', q⟩ := hl j y v' e1 e2 e3
        refine ⟨u', r', ?_⟩
        rcases q with q | ⟨k, c', e, z'⟩
        · exact .inl q
        · refine .inr ⟨k, c', e, z'.sameBut hs ?_⟩
          rintro rfl
          exact hj (nodup_ix hN e1 (I.ok.inj _ _ _ e hc ▸ hi))
    · by_cases hcc : c' = c
      · subst hcc; exact ⟨_, hc'⟩
      · obtain ⟨w2, z2⟩ := I.cell y c' e
        exact ⟨w2, z2.sameBut hs hcc⟩
    · obtain ⟨e, n, ne, nf, d⟩ := I.pin p hp
      refine ⟨(hs.2 p.1 ?_).trans e, n, ne, nf, d⟩
      intro q
      rw [q, hoc] at e
      have q' : oc = p.2 := Option.some.inj e
      exact d w' (by rw [← q']; exact hocd)
theorem store_ok {M : Model} {A : Around} {E : Value → Shared → Prop} {i : Nat} {x : Str} {v : V} {u : Value} {Q : Unit → Shared → Prop} (I : Inv X pins σ H s) (hN : X.N.Nodup) (hi : X.N[i]? = some x) (hx : Loc X.env.scope x) (r : RelV v u)
    (h : ∀ s', Inv X pins (σ.set i (some v)) H s' → Q () s') (hf : X.fn x = true ∨ X.env.scope.names.lookup x = some .local := by first | exact .inl rfl | exact .inr rfl | assumption) : wpAny M A (storeName X.env x u) Q E s :=
  store_ok2 I hN hi hx r (fun s' I' _ => h s' I') hf
theorem Inv.call' {s' : Shared} {ch : List Addr} (I : Inv X pins σ H s) (ho : s'.os = s.os) (u : Un (frs X.stack) ch H H' s.heap s'.heap) (hok : HOk X.prog X.w H' s'.heap) (hg : AllBare s'.gens)
    (hch : ∀ b ∈ ch, (b ∈ X.ex ∨ X.s_0.heap.objs.size ≤ b) ∧ b ≠ X.env.locals ∧ (∀ x c, X.env.cells.lookup x = some c → c ≠ b) ∧ ∀ p ∈ X.pn ++ pins, p.1 ≠ b) : Inv X pins σ H' s' := by
  obtain ⟨h', g', d', t', o'⟩ := s'
  have e : o' = s.os := ho
  subst e
  exact I.call (g' := g') (t' := t') (d' := d') u hok hg hch
end
abbrev XK := Value → Option Addr → Hp → Prop
abbrev St := List (Option V)
abbrev VK := V → Hp → Prop
abbrev TE := St → Hp → VK → Prop
abbrev TT := St → Hp → (Bool → Hp → Prop) → Prop
abbrev TA := St → Hp → (List V → Hp → Prop) → Prop
structure Ends where
  nx : St → Hp → Prop
  rt : VK
  bk : St → Hp → Prop := fun _ _ => False
  ct : St → Hp → Prop := fun _ _ => False
abbrev TS := Ends → St → Hp → Prop
def EP (X : Cx) (pins : List (Addr × Obj)) (σ : St) (Q : VK) (u : Value) (s' : Shared) : Prop := ∃ v H', Inv X pins σ H' s' ∧ RelV v u ∧ Q v H'
def TP (X : Cx) (pins : List (Addr × Obj)) (σ : St) (Q : Bool → Hp → Prop) (b : Bool) (s' : Shared) : Prop := ∃ H', Inv X pins σ H' s' ∧ Q b H'
def AP (X : Cx) (pins : List (Addr × Obj)) (σ : St) (Q : List V → Hp → Prop) (us : List Value) (s' : Shared) : Prop := ∃ vs H', Inv X pins σ H' s' ∧ Vals vs us ∧ Q vs H'
def SP (X : Cx) (pins : List (Addr × Obj)) (D : Ends) (f : Flow) (s' : Shared) : Prop :=
  match f with
  | .next => ∃ σ' H', Inv X pins σ' H' s' ∧ D.nx σ' H'
  | .brk => ∃ σ' H', Inv X pins σ' H' s' ∧ D.bk σ' H'
  | .cont => ∃ σ' H', Inv X pins σ' H' s' ∧ D.ct σ' H'
  | .ret u => ∃ v σ' H', Inv X pins σ' H' s' ∧ RelV v u ∧ D.rt v H'
def PE (X : Cx) (e : Expr) (t : TE) : Prop :=
  ∀ (pins : List (Addr × Obj)) (s : Shared) (σ : St) (H : Hp) (Q : VK), Inv X pins σ H s → t σ H Q → wpAny (model X.prog X.w) X.A (eval e X.env) (EP X pins σ Q) X.xe s
def PT (X : Cx) (e : Expr) (t : TT) : Prop :=
  ∀ (pins : List (Addr × Obj)) (s : Shared) (σ : St) (H : Hp) (Q : Bool → Hp → Prop), Inv X pins σ H s → t σ H Q → wpAny (model X.prog X.w) X.A (isTrue e X.env (eval e X.env)) (TP X pins σ Q) X.xe s
def PW (X : Cx) (e : Expr) (t : TT) : Prop :=
  ∀ (whole : Sem Value) (pins : List (Addr × Obj)) (s : Shared) (σ : St) (H : Hp) (Q : Bool → Hp → Prop), Inv X pins σ H s → t σ H Q → wpAny (model X.prog X.w) X.A (isTrue e X.env whole) (TP X pins σ Q) X.xe s
theorem PW.pt {X : Cx} {e : Expr} {t : TT} (h : PW X e t) : PT X e t := h _
def PA (X : Cx) (es : List Expr) (t : TA) : Prop :=
  ∀ (pos : Pos) (pins : List (Addr × Obj)) (s : Shared) (σ : St) (H : Hp) (Q : List V → Hp → Prop), Inv X pins σ H s → t σ H Q → wpAny (model X.prog X.w) X.A (spliced (backTo pos (starEach es X.env))) (AP X pins σ Q) X.xe s
def PS (X : Cx) (st : Stmt) (t : TS) : Prop :=
  ∀ (pins : List (Addr × Obj)) (s : Shared) (σ : St) (H : Hp) (D : Ends), Inv X pins σ H s → t D σ H → wpAny (model X.prog X.w) X.A (exec st X.env) (SP X pins D) X.xe s
def PSs (X : Cx) (st : List Stmt) (t : TS) : Prop :=
  ∀ (pins : List (Addr × Obj)) (s : Shared) (σ : St) (H : Hp) (D : Ends), Inv X pins σ H s → t D σ H → wpAny (model X.prog X.w) X.A (execs st X.env) (SP X pins D) X.xe s
theorem thn {α : Type} {t : Sem α} {Q Q' : α → Shared → Prop} {M : Model} {A : Around} {E : Value → Shared → Prop} {s : Shared} (h : wpAny M A t Q E s) (hQ : ∀ a s, Q a s → Q' a s) : wpAny M A t Q' E s := wpAny_mono h hQ fun _ _ x => x
end L2
namespace L2
open PySem PySem.Spec PyProof.Rows
section
variable {X : Cx}
theorem bin {a b : Expr} {ta tb : TE} (ha : PE X a ta) (hb : PE X b tb) {pins : List (Addr × Obj)} {s : Shared} {σ : St} {H : Hp} {R : V → V → Hp → Prop} (I : Inv X pins σ H s) (h : ta σ H fun x H1 => tb σ H1 fun y H2 => R x y H2)
    {α : Type} {Q : α → Shared → Prop} {f : Value → Value → Sem α}
    (hf : ∀ v u s2 x y H2, Inv X pins σ H2 s2 → RelV x v → RelV y u → R x y H2 → wpAny (model X.prog X.w) X.A (f v u) Q X.xe s2) :
    wpAny (model X.prog X.w) X.A (eval a X.env) (fun v s₁ => wpAny (model X.prog X.w) X.A (eval b X.env) (fun u s₂ => wpAny (model X.prog X.w) X.A (f v u) Q X.xe s₂) X.xe s₁) X.xe s := by
  refine thn (ha pins s σ H _ I h) fun v s1 ⟨x, H1, I1, r1, q1⟩ => ?_
  refine thn (hb pins s1 σ H1 _ I1 q1) fun u s2 ⟨y, H2, I2, r2, q2⟩ => ?_
  exact hf v u s2 x y H2 I2 r1 r2 q2
def tVar (i : Nat) : TE := fun σ H Q => ∃ v, σ[i]? = some (some v) ∧ Q v H
def tC (v : V) : TE := fun _ H Q => Q v H
theorem pe_var {i : Nat} {x : Str} {pos : Pos} (hN : X.N[i]? = some x) (hv : Vis X.env.scope x) (hd : (x == ("__debug__" : Str)) = false := by decide) (hcd : (x == ("__classdict__" : Str)) = false := by decide) : PE X (.Name x pos) (tVar i) := by
  intro pins s σ H Q I h
  obtain ⟨v, e, h⟩ := h
  obtain ⟨m, hn, hl⟩ := I.loc
  obtain ⟨u, r, l⟩ := hl i x v hN e hv
  have fin : EP X pins σ Q u s := ⟨v, H, I, r, h⟩
  rcases l with ⟨hk, hm⟩ | ⟨hk, c, hc, hcell⟩
  · exact wpAny_Name (wpAny_loadName_local I.ok.kind hk hn hm fin) hd
  · rcases hk with hk | hk
    · exact wpAny_Name (wpAny_loadName_cell I.ok.kind hk hc hcell fin) hd
    · exact wpAny_Name (wpAny_loadName_free I.ok.kind hk hc hcell fin hcd) hd
theorem pe_int {i j pos} : PE X (.Constant (.int i) j pos) (tC (.int i)) := fun _ _ _ H _ I h => wpAny_Constant_int ⟨.int i, H, I.tok _, ⟨_, rfl⟩, h⟩
theorem pe_bl {b j pos} : PE X (.Constant (.bool b) j pos) (tC (.bl b)) := fun _ _ _ H _ I h => Constant_bool ⟨.bl b, H, I, rfl, h⟩
theorem pe_non {j pos} : PE X (.Constant .none j pos) (tC .non) := fun _ _ _ H _ I h => Constant_none ⟨.non, H, I, rfl, h⟩
def Gl (X : Cx) (x : Str) : Prop := X.env.kindOf x = some .globalImplicit
theorem ld_glob {E : Value → Shared → Prop} {pins : List (Addr × Obj)} {s : Shared} {σ : St} {H : Hp} {x : Str} {u : Value} {pos : Pos} {Q : Value → Shared → Prop} (I : Inv X pins σ H s) (hg : Gl X x) (hm : X.mg x = some u) (h : Q u s)
    (hd : (x == ("__debug__" : Str)) = false := by decide) : wpAny (model X.prog X.w) X.A (eval (.Name x pos) X.env) Q E s :=
  Calls.Name_function_global I.ok.kind hg (Calls.loadGlobal_global (by rw [I.ok.glob]; exact I.mod.glob.keeps I.bk) hm h) hd
theorem ld_blt {E : Value → Shared → Prop} {pins : List (Addr × Obj)} {s : Shared} {σ : St} {H : Hp} {x : Str} {u : Value} {pos : Pos} {Q : Value → Shared → Prop} (I : Inv X pins σ H s) (hg : Gl X x) (hm : X.mg x = none) (hv : bootBuiltins x = some u) (h : Q u s)
    (hn : x ≠ "__name__" := by decide) (hd : (x == ("__debug__" : Str)) = false := by decide) : wpAny (model X.prog X.w) X.A (eval (.Name x pos) X.env) Q E s := by
  obtain ⟨mb, h1, h2⟩ := I.mod.blt
  exact Calls.Name_function_global I.ok.kind hg (Calls.loadGlobal_builtin (by rw [I.ok.glob]; exact I.mod.glob.keeps I.bk) hm (by rw [I.ok.blt]; exact h1.keeps I.bk) ((h2 x hn).trans hv) h) hd
theorem pe_glob {x : Str} {v : V} {u : Value} {pos : Pos} (hg : Gl X x) (hm : X.mg x = some u) (r : RelV v u) (hd : (x == ("__debug__" : Str)) = false := by decide) : PE X (.Name x pos) (tC v) :=
  fun _ _ _ H _ I h => ld_glob I hg hm ⟨v, H, I, r, h⟩ hd
variable {a b : Expr} {ta tb : TE} {pos : Pos}
def PC (X : Cx) (op : CmpOp) (a b : Expr) (t : TE) : Prop :=
  ∀ (pins : List (Addr × Obj)) (s : Shared) (σ : St) (H : Hp) (Q : VK), Inv X pins σ H s → t σ H Q →
    wpAny (model X.prog X.w) X.A (eval a X.env) (fun v s₁ => wpAny (model X.prog X.w) X.A (eval b X.env) (fun u s₂ => wpAny (model X.prog X.w) X.A (compareOp op v u) (EP X pins σ Q) X.xe s₂) X.xe s₁) X.xe s
def tB (t : TE) : TT := fun σ H Q => t σ H fun x H1 => ∃ c, x = .bl c ∧ Q c H1
theorem pt_cmp {op : CmpOp} {t : TE} (h : PC X op a b t) (h1 : behindInMarks op b = false := by first | exact nobehind _ (by decide) (by decide) | rfl) : PT X (.Compare a [op] [b] pos) (tB t) := by
  intro pins s σ H Q I hw
  refine wpAny_isTrue_Compare1 (thn (h pins s σ H _ I hw) fun v s1 h1 => thn h1 fun u s2 h2 => thn h2 fun c s3 ⟨x, H1, I1, r1, q1⟩ => ?_) h1
  obtain ⟨d, rfl, q⟩ := q1
  cases r1
  exact wpAny_truthy_bool ⟨H1, I1, q⟩
theorem pt_val {e : Expr} {t : TE} (h : PE X e t) (he : ∀ whole, isTrue e X.env whole = (do let v ← whole; standAt e.pos; holding [v] (truthy v)) := by intro _; rfl) : PT X e (tB t) := by
  intro pins s σ H Q I hw
  refine isTrue_plain (thn (h pins s σ H _ I hw) fun v s1 ⟨x, H1, I1, r1, q1⟩ => ?_) (he _)
  obtain ⟨d, rfl, q⟩ := q1
  cases r1
  exact wpAny_truthy_bool ⟨H1, I1, q⟩
variable {tA tB' : TT} {rest : List Expr}
def tAnd (t u : TT) : TT := fun σ H Q => t σ H fun c H1 => if c = true then u σ H1 Q else Q false H1
def tOr (t u : TT) : TT := fun σ H Q => t σ H fun c H1 => if c = true then Q true H1 else u σ H1 Q
def tNot (t : TT) : TT := fun σ H Q => t σ H fun c H1 => Q (!c) H1
theorem pw_and1 (ha : PT X a tA) : PW X (.BoolOp .And [a] pos) tA := by
  intro wh pins s σ H Q I h
  refine isTrue_and (thn (ha pins s σ H Q I h) fun c s1 e => ?_)
  cases c with
  | true => exact isTrue_and_nil e
  | false => exact e
theorem pw_or1 (ha : PT X a tA) : PW X (.BoolOp .Or [a] pos) tA := by
  intro wh pins s σ H Q I h
  refine isTrue_or (thn (ha pins s σ H Q I h) fun c s1 e => ?_)
  cases c with
  | false => exact isTrue_or_nil e
  | true => exact e
theorem pw_and (ha : PT X a tA) (hb : PW X (.BoolOp .And (b :: rest) pos) tB') : PW X (.BoolOp .And (a :: b :: rest) pos) (tAnd tA tB') := by
  intro wh pins s σ H Q I h
  refine isTrue_and (thn (ha pins s σ H _ I h) fun c s1 ⟨H1, I1, q1⟩ => ?_)
  cases c with
  | true => exact hb wh pins s1 σ H1 Q I1 q1
  | false => exact ⟨H1, I1, q1⟩
theorem pw_or (ha : PT X a tA) (hb : PW X (.BoolOp .Or (b :: rest) pos) tB') : PW X (.BoolOp .Or (a :: b :: rest) pos) (tOr tA tB') := by
  intro wh pins s σ H Q I h
  refine isTrue_or (thn (ha pins s σ H _ I h) fun c s1 ⟨H1, I1, q1⟩ => ?_)
  cases c with
  | true => exact ⟨H1, I1, q1⟩
  | false => exact hb wh pins s1 σ H1 Q I1 q1
theorem pt_not (ha : PT X a tA) : PT X (.UnaryOp .Not a pos) (tNot tA) := by
  intro pins s σ H Q I h
  exact isTrue_not (ha pins s σ H (fun c H1 => Q (!c) H1) I h)
def tAndV (ta tb : TE) : TE := fun σ H Q => ta σ H fun x H1 => ∃ c, x = .bl c ∧ if c = true then tb σ H1 Q else Q (.bl false) H1
def tNotV (ta : TE) : TE := fun σ H Q => ta σ H fun x H1 => ∃ c, x = .bl c ∧ Q (.bl (!c)) H1
theorem pe_one {op} {t : TE} (h : PE X a t) : PE X (.BoolOp op [a] pos) t := fun pins s σ H Q I hw => BoolOp_one (h pins s σ H Q I hw)
theorem pe_and (ha : PE X a ta) (hb : PE X (.BoolOp .And (b :: rest) pos) tb) : PE X (.BoolOp .And (a :: b :: rest) pos) (tAndV ta tb) := by
  intro pins s σ H Q I h
  refine BoolOp_and (thn (ha pins s σ H _ I h) fun v s1 ⟨x, H1, I1, r1, q1⟩ => ?_)
  obtain ⟨c, rfl, q1⟩ := q1
  cases r1
  refine wpAny_truthy_bool ?_
  cases c with
  | true => exact hb pins s1 σ H1 Q I1 q1
  | false => exact ⟨.bl false, H1, I1, rfl, q1⟩
theorem pe_not (ha : PE X a ta) : PE X (.UnaryOp .Not a pos) (tNotV ta) := by
  intro pins s σ H Q I h
  refine UnaryOp_ (thn (ha pins s σ H _ I h) fun v s1 ⟨x, H1, I1, r1, q1⟩ => ?_)
  obtain ⟨c, rfl, q1⟩ := q1
  cases r1
  exact not_of (wpAny_truthy_bool ⟨.bl (!c), H1, I1, rfl, q1⟩)
end
end L2
namespace L2
open PySem PySem.Spec PyProof.Rows
def SqL (K : PySem.W.Frag) (H : Hp) (a : Addr) (xs : List V) : Prop :=
  Rd H a (.lst xs) ∨
    ∃ (o : Obj) (its : Array Value) (n : Nat), K.lookup a = some o ∧ o.cls = .type "list" ∧ o.dict = none ∧ o.data = .seq its n ∧ its.size ≤ sizeLine ∧ Vals xs its.toList
def SqT (K : PySem.W.Frag) (H : Hp) (a : Addr) (xs : List V) : Prop :=
  Rd H a (.tup xs) ∨
    ∃ (o : Obj) (its : Array Value) (n : Nat), K.lookup a = some o ∧ o.cls = .type "tuple" ∧ o.data = .seq its n ∧ its.size ≤ sizeLine ∧ Vals xs its.toList
def absV : Value → Option V
  | .none => some .non
  | .bool b => some (.bl b)
  | .int i _ => some (.int i)
  | .str x _ => some (.str x)
  | .bytes b _ => some (.byt b)
  | .float b _ => some (.flt b)
  | .ref a => some (.ref a)
  | .type n => some (.ty n)
  | _ => none
theorem RelV.abs {x : V} {u : Value} (r : RelV x u) : absV u = some x := by
  cases x with
  | non => cases r; rfl
  | bl _ => cases r; rfl
  | int _ => obtain ⟨t, rfl⟩ := r; rfl
  | str _ => obtain ⟨t, rfl⟩ := r; rfl
  | byt _ => obtain ⟨t, rfl⟩ := r; rfl
  | flt _ => obtain ⟨t, rfl⟩ := r; rfl
  | ref _ => cases r; rfl
  | ty _ => cases r; rfl
theorem RelV.inj {x y : V} {u : Value} (r : RelV x u) (q : RelV y u) : x = y := Option.some.inj (r.abs.symm.trans q.abs)
theorem Vals.inj : ∀ {xs ys : List V} {us : List Value}, Vals xs us → Vals ys us → xs = ys
  | _, _, _, .nil, .nil => rfl
  | _, _, _, .cons r t, .cons r' t' => by rw [r.inj r', Vals.inj t t']
section
variable {X : Cx} {pins : List (Addr × Obj)} {σ : St} {H : Hp} {s : Shared} {a : Addr} {xs ys : List V}
theorem SqL.of {K : PySem.W.Frag} (h : H a = some (.lst xs)) : SqL K H a xs := .inl (.inl h)
theorem SqT.of {K : PySem.W.Frag} (h : H a = some (.tup xs)) : SqT K H a xs := .inl (.inl h)
theorem Inv.list (I : Inv X pins σ H s) (h : SqL X.K H a xs) : ∃ its : List Value, Vals xs its ∧ PlainL s.heap a its.toArray ∧ xs.length ≤ sizeLine := by
  rcases h with h | ⟨o, its, n, hk, hc, hd, hs, hz, r⟩
  · obtain ⟨z, its, n, r, e⟩ := h.ok I.hok
    exact ⟨its, r, ⟨_, n, e, rfl, rfl, rfl⟩, z⟩
  · refine ⟨its.toList, r, ⟨o, n, I.kIn a o hk, hc, hd, by simpa using hs⟩, ?_⟩
    have e := r.length
    simp only [Array.length_toList] at e
    omega
theorem Inv.tuple (I : Inv X pins σ H s) (h : SqT X.K H a xs) : ∃ its : List Value, Vals xs its ∧ IsTup s.heap a its.toArray ∧ xs.length ≤ sizeLine := by
  rcases h with h | ⟨o, its, n, hk, hc, hs, hz, r⟩
  · obtain ⟨z, its, r, p⟩ := h.ok I.hok
    exact ⟨its, r, p, z⟩
  · refine ⟨its.toList, r, ⟨o, I.kIn a o hk, hc, n, by simpa using hs⟩, ?_⟩
    have e := r.length
    simp only [Array.length_toList] at e
    omega
theorem Inv.list_inj (I : Inv X pins σ H s) (h : SqL X.K H a xs) (h' : SqL X.K H a ys) : xs = ys := by
  obtain ⟨its, r, ⟨o, n, e, _, _, d⟩, _⟩ := I.list h
  obtain ⟨its', r', ⟨o', n', e', _, _, d'⟩, _⟩ := I.list h'
  rw [e] at e'; cases e'
  rw [d] at d'
  injection d' with d1 _
  have : its = its' := by simpa using congrArg Array.toList d1
  subst this
  exact r.inj r'
theorem Inv.tuple_inj (I : Inv X pins σ H s) (h : SqT X.K H a xs) (h' : SqT X.K H a ys) : xs = ys := by
  obtain ⟨its, r, ⟨o, e, _, n, d⟩, _⟩ := I.tuple h
  obtain ⟨its', r', ⟨o', e', _, n', d'⟩, _⟩ := I.tuple h'
  rw [e] at e'; cases e'
  rw [d] at d'
  injection d' with d1 _
  have : its = its' := by simpa using congrArg Array.toList d1
  subst this
  exact r.inj r'
end
abbrev Cx.wish (X : Cx) (E : Value → Shared → Prop) : Cx := { X with xe := E }
abbrev Cx.nox (X : Cx) : Cx := X.wish fun _ _ => False
theorem Cx.Ok.wish {X : Cx} (ok : X.Ok) (E : Value → Shared → Prop) : (X.wish E).Ok :=
  ⟨ok.mod, ok.kind, ok.glob, ok.blt, ok.above, ok.inj, ok.has, ok.cab, ok.hd, ok.frames, ok.stk, ok.exf, ok.bs, ok.bsz, ok.noex, ok.exfs, ok.funs, ok.frf⟩
theorem Cx.Ok.unwish {X : Cx} {E : Value → Shared → Prop} (ok : (X.wish E).Ok) : X.Ok :=
  ⟨ok.mod, ok.kind, ok.glob, ok.blt, ok.above, ok.inj, ok.has, ok.cab, ok.hd, ok.frames, ok.stk, ok.exf, ok.bs, ok.bsz, ok.noex, ok.exfs, ok.funs, ok.frf⟩
section
variable {X : Cx} {pins : List (Addr × Obj)} {σ : St} {H : Hp} {s : Shared} {E : Value → Shared → Prop}
theorem Inv.wish (I : Inv X pins σ H s) (E : Value → Shared → Prop) : Inv (X.wish E) pins σ H s := ⟨I.ok.wish E, I.os, I.bare, I.base, I.loc, I.cell, I.free, I.freeC, I.pin, I.hok, I.len⟩
theorem Inv.unwish (I : Inv (X.wish E) pins σ H s) : Inv X pins σ H s := ⟨I.ok.unwish, I.os, I.bare, I.base, I.loc, I.cell, I.free, I.freeC, I.pin, I.hok, I.len⟩
theorem SP.unwish {D : Ends} {f : Flow} {s' : Shared} (h : SP (X.wish E) pins D f s') : SP X pins D f s' := by
  cases f with
  | next => obtain ⟨σ', H', I, q⟩ := h; exact ⟨σ', H', I.unwish, q⟩
  | brk => obtain ⟨σ', H', I, q⟩ := h; exact ⟨σ', H', I.unwish, q⟩
  | cont => obtain ⟨σ', H', I, q⟩ := h; exact ⟨σ', H', I.unwish, q⟩
  | ret u => obtain ⟨v, σ', H', I, r, q⟩ := h; exact ⟨v, σ', H', I.unwish, r, q⟩
theorem PSs.nox {st : List Stmt} {t : TS} (h : PSs X.nox st t) : PSs X st t := fun pins s σ H D I hw =>
  wpAny_mono (h pins s σ H D (I.wish _) hw) (fun _ _ q => q.unwish) fun _ _ z => False.elim z
end
section
variable {X : Cx} {st : Stmt} {rest : List Stmt} {t u : TS} {e : Expr} {te : TE} {pos : Pos}
def tNext : TS := fun D σ H => D.nx σ H
def tSeq (t u : TS) : TS := fun D σ H => t { D with nx := u D } σ H
theorem pss_nil : PSs X [] tNext := fun _ _ σ H _ I h => wpAny_execs_nil ⟨σ, H, I, h⟩
theorem pss_cons (h1 : PS X st t) (h2 : PSs X rest u) : PSs X (st :: rest) (tSeq t u) := by
  intro pins s σ H D I h
  refine wpAny_execs_cons (thn (h1 pins s σ H { D with nx := u D } I h) fun f s1 q => ?_)
  cases f with
  | next =>
    obtain ⟨σ', H', I', q⟩ := q
    exact h2 pins s1 σ' H' D I' q
  | ret v => exact q
  | brk => exact q
  | cont => exact q
theorem pss_one (h1 : PS X st t) : PSs X [st] t := by
  intro pins s σ H D I h
  refine wpAny_execs_cons (thn (h1 pins s σ H D I h) fun f s1 q => ?_)
  cases f with
  | next => exact wpAny_execs_nil q
  | ret v => exact q
  | brk => exact q
  | cont => exact q
theorem Inv.quiet {pins : List (Addr × Obj)} {σ : St} {H : Hp} {s : Shared} (I : Inv X pins σ H s) : interactive X.env = false := by simp [interactive, I.ok.kind]
def tDrop (te : TE) : TS := fun D σ H => te σ H fun _ H1 => D.nx σ H1
theorem ps_expr (he : PE X e te) (hs : swapsWith e none pos.line X.env = pure false := by rfl) : PS X (.Expr e pos) (tDrop te) := by
  intro pins s σ H D I h
  exact wpAny_Expr_any (thn (he pins s σ H _ I h) fun v s1 ⟨x, H1, I1, r1, q1⟩ => ⟨σ, H1, I1, q1⟩) I.quiet hs
def tRet (te : TE) : TS := fun D σ H => te σ H D.rt
theorem ps_ret (he : PE X e te) : PS X (.Return (some e) pos) (tRet te) := by
  intro pins s σ H D I h
  exact wpAny_Return_some (thn (he pins s σ H _ I h) fun v s1 ⟨x, H1, I1, r1, q1⟩ => ⟨x, σ, H1, I1, r1, q1⟩)
def tIfS (c : TT) (t u : TS) : TS := fun D σ H => c σ H fun b H1 => if b = true then t D σ H1 else u D σ H1
theorem ps_if {c : Expr} {a b : List Stmt} {tc : TT} (hc : PT X c tc) (ha : PSs X a t) (hb : PSs X b u) : PS X (.If c a b pos) (tIfS tc t u) := by
  intro pins s σ H D I h
  refine wpAny_If (thn (hc pins s σ H _ I h) fun d s1 ⟨H1, I1, q1⟩ => ?_)
  cases d with
  | true => exact ha pins s1 σ H1 D I1 q1
  | false => exact hb pins s1 σ H1 D I1 q1
def tNever : TS := fun _ _ _ => False
theorem ps_never : PS X st tNever := fun _ _ _ _ _ _ h => h.elim
end
abbrev TG := V → St → Hp → (St → Hp → Prop) → Prop
def PG (X : Cx) (target : Expr) (t : TG) : Prop :=
  ∀ (pins : List (Addr × Obj)) (s : Shared) (σ : St) (H : Hp) (v : V) (u : Value) (Q : St → Hp → Prop), Inv X pins σ H s → RelV v u → t v σ H Q →
    wpAny (model X.prog X.w) X.A (assign target X.env u) (fun _ s' => ∃ σ' H', Inv X pins σ' H' s' ∧ Q σ' H') X.xe s
abbrev TIp := V → V → Hp → VK → Prop
def PIp (X : Cx) (op : Operator) (t : TIp) : Prop :=
  ∀ (pins : List (Addr × Obj)) (s : Shared) (σ : St) (H : Hp) (x y : V) (v u : Value) (Q : VK), Inv X pins σ H s → RelV x v → RelV y u → t x y H Q →
    wpAny (model X.prog X.w) X.A (inplaceOp op v u) (EP X pins σ Q) X.xe s
section
variable {X : Cx} {pos : Pos}
def gName (i : Nat) : TG := fun v σ H Q => Q (σ.set i (some v)) H
theorem pg_name {i : Nat} {x : Str} (hN : X.N.Nodup) (hi : X.N[i]? = some x) (hx : Loc X.env.scope x) (hf : X.fn x = true ∨ X.env.scope.names.lookup x = some .local := by first | exact .inl rfl | exact .inr rfl | assumption) : PG X (.Name x pos) (gName i) := by
  intro pins s σ H v u Q I r h
  exact wpAny_assign_Name (store_ok I hN hi hx r (fun s' I' => ⟨_, H, I', h⟩) hf)
def tAsg (te : TE) (g : TG) : TS := fun D σ H => te σ H fun x H1 => g x σ H1 D.nx
theorem ps_set {i : Nat} {x : Str} {e : Expr} {te : TE} {pos' : Pos} (hN : X.N.Nodup) (hi : X.N[i]? = some x) (hx : Loc X.env.scope x) (he : PE X e te) (hs : swapsWith e (some (.Name x pos')) pos.line X.env = pure false := by rfl) (hf : X.fn x = true ∨ X.env.scope.names.lookup x = some .local := by first | exact .inl rfl | exact .inr rfl | assumption) :
    PS X (.Assign [.Name x pos'] e pos) (tAsg te (gName i)) := by
  intro pins s σ H D I h
  refine wpAny_Assign_Name (thn (he pins s σ H _ I h) fun v s1 ⟨y, H1, I1, r1, q1⟩ => ?_) hs
  exact store_ok I1 hN hi hx r1 (fun s2 I2 => ⟨_, H1, I2, q1⟩) hf
def tAug (i : Nat) (te : TE) (ti : TIp) : TS := fun D σ H => ∃ x, σ[i]? = some (some x) ∧ te σ H fun y H1 => ti x y H1 fun z H2 => D.nx (σ.set i (some z)) H2
theorem ps_aug {i : Nat} {x : Str} {e : Expr} {te : TE} {op : Operator} {ti : TIp} {pos' : Pos} (hN : X.N.Nodup) (hi : X.N[i]? = some x) (hx : Loc X.env.scope x) (he : PE X e te) (ho : PIp X op ti) (hf : X.fn x = true ∨ X.env.scope.names.lookup x = some .local := by first | exact .inl rfl | exact .inr rfl | assumption) :
    PS X (.AugAssign (.Name x pos') op e pos) (tAug i te ti) := by
  intro pins s σ H D I h
  obtain ⟨v, e1, h⟩ := h
  obtain ⟨m, hn, hl⟩ := I.loc
  have vis : Vis X.env.scope x := by rcases hx with k | k; exact .inl k; exact .inr (.inl k)
  obtain ⟨u, r, l⟩ := hl i x v hi e1 vis
  refine wpAny_AugAssign_Name ?_
  have go : wpAny (model X.prog X.w) X.A (eval e X.env) (fun w s₂ => wpAny (model X.prog X.w) X.A (inplaceOp op u w) (fun r s₃ => wpAny (model X.prog X.w) X.A (storeName X.env x r) (fun _ => SP X pins D .next) X.xe s₃) X.xe s₂) X.xe s := by
    refine thn (he pins s σ H _ I h) fun w s1 ⟨y, H1, I1, r1, q1⟩ => ?_
    refine thn (ho pins s1 σ H1 v y u w _ I1 r r1 q1) fun z s2 ⟨zv, H2, I2, r2, q2⟩ => ?_
    exact store_ok I2 hN hi hx r2 (fun s3 I3 => ⟨_, H2, I3, q2⟩) hf
  rcases l with ⟨hk, hm⟩ | ⟨hk, c, hc, hcell⟩
  · exact wpAny_loadName_local I.ok.kind hk hn hm go
  · rcases hk with hk | hk
    · exact wpAny_loadName_cell I.ok.kind hk hc hcell go
    · rcases hx with k | k
      · have : X.env.scope.names.lookup x = some .free := hk
        rw [k] at this; cases this
      · have : X.env.scope.names.lookup x = some .free := hk
        rw [k] at this; cases this
def ipI (f : Int → Int → Int) : TIp := fun x y H Q => ∃ i j, x = .int i ∧ y = .int j ∧ Q (.int (f i j)) H
theorem ip_add : PIp X .Add (ipI fun i j => i + j) := by
  intro pins s σ H x y v u Q I r1 r2 h
  obtain ⟨i, j, e1, e2, q⟩ := h
  subst e1; subst e2
  obtain ⟨t, rfl⟩ := r1
  obtain ⟨t', rfl⟩ := r2
  exact iadd_int ⟨.int _, H, I.tok _, ⟨_, rfl⟩, q⟩
end
section
variable {X : Cx} {pos : Pos}
def tWhile (c : TT) (tb : TS) : TS := fun D σ H => ∃ W : Nat → St → Hp → Prop, (∃ m, W m σ H) ∧ ∀ m σ H, W m σ H →
  c σ H fun b H1 => if b = true then ∃ N : St → Hp → Prop, (∀ σ' H', N σ' H' → ∃ m', m' < m ∧ W m' σ' H') ∧ tb { D with nx := N, ct := N, bk := D.nx } σ H1 else D.nx σ H1
theorem ps_while {c : Expr} {body : List Stmt} {tc : TT} {tb : TS} (hp : PassesOwn (model X.prog X.w) X.A X.env X.xe) (hc : PT X c tc) (hb : PSs X body tb) : PS X (.While c body [] pos) (tWhile tc tb) := by
  intro pins s σ H D I h
  obtain ⟨W, ⟨m0, w0⟩, turn⟩ := h
  refine wpAny_While (codeAny_whileLoop (fun n s' => ∃ σ' H', Inv X pins σ' H' s' ∧ W n σ' H') ?_ m0 ⟨σ, H, I, w0⟩)
  rintro n s1 ⟨σ1, H1, I1, w1⟩
  refine wpAny_passesOwn hp (thn (hc pins s1 σ1 H1 _ I1 (turn n σ1 H1 w1)) fun b s2 ⟨H2, I2, q2⟩ => ?_)
  cases b with
  | true =>
    obtain ⟨N, hN, q2⟩ := q2
    rw [if_pos rfl]
    refine wpAny_passesOwn hp (thn (hb pins s2 σ1 H2 _ I2 q2) fun f s3 q3 => ?_)
    cases f with
    | next =>
      obtain ⟨σ3, H3, I3, n3⟩ := q3
      obtain ⟨m', hm, w3⟩ := hN σ3 H3 n3
      exact ⟨m', hm, σ3, H3, I3, w3⟩
    | cont =>
      obtain ⟨σ3, H3, I3, n3⟩ := q3
      obtain ⟨m', hm, w3⟩ := hN σ3 H3 n3
      exact ⟨m', hm, σ3, H3, I3, w3⟩
    | brk => exact q3
    | ret v => exact q3
  | false =>
    rw [if_neg Bool.false_ne_true]
    exact wpAny_execs_nil ⟨σ1, H2, I2, q2⟩
end
structure It where
  go : Nat → Hp → Prop
  yld : Nat → Hp → V → Hp → Prop
  stop : Nat → Hp → Prop
def FpOk (X : Cx) (pins : List (Addr × Obj)) (H : Hp) (b : Addr) : Prop :=
  H b = none ∧ b ≠ X.env.locals ∧ b ∉ X.fs ∧ (b ∈ X.ex ∨ X.s_0.heap.objs.size ≤ b) ∧ (∀ x c, X.env.cells.lookup x = some c → c ≠ b) ∧ ∀ p ∈ X.pn ++ pins, p.1 ≠ b
theorem Inv.fpOk {X : Cx} {pins : List (Addr × Obj)} {σ : St} {H H' : Hp} {s : Shared} {b : Addr} (I : Inv X pins σ H s) (hb : s.heap.objs.size ≤ b) (hn : H' b = none) : FpOk X pins H' b := by
  refine ⟨hn, Nat.ne_of_gt (Nat.lt_of_lt_of_le I.lt hb), I.nofs hb, .inr (Nat.le_trans I.sz hb), fun x c e z => ?_, fun p hp z => ?_⟩
  · obtain ⟨v, q⟩ := I.cell x c e
    exact absurd (Nat.lt_of_lt_of_le q.lt (by rw [z]; exact hb)) (Nat.lt_irrefl _)
  · exact absurd (Nat.lt_of_lt_of_le (Heap.lt_size (I.pin p hp).1) (by rw [z]; exact hb)) (Nat.lt_irrefl _)
structure Turn (P : Program) (w : World) (K : PySem.W.Frag) (tg : Expr) (J : It) (fp : List Addr) (it : Addr) (tn : Nat → Heap → Prop) : Prop where
  mem : it ∈ fp
  obj : ∀ i h, tn i h → ∀ b ∈ fp, ∃ o, h.get? b = some o ∧ ∀ v, o.data ≠ .cell v
  keep : ∀ i h h', tn i h → (∀ b ∈ fp, ∀ o, h.get? b = some o → h'.get? b = some o) → tn i h'
  item : ∀ (X : Cx), X.prog = P → X.w = w → X.K = K → X.calm = true → ∀ (i : Nat) (pins : List (Addr × Obj)) (s : Shared) (σ : St) (H : Hp) (E : Value → Shared → Prop), Inv X pins σ H s → (∀ b ∈ fp, FpOk X pins H b) → tn i s.heap → J.go i H →
    wpAny (model P w) X.A (pyNext (.ref it)) (fun r s1 => ∃ u, r = some u ∧
      wpAny (model P w) X.A (letOwnedTupleGo tg (.ref it) u) (fun _ s2 => ∃ x H', Inv X pins σ H' s2 ∧ RelV x u ∧ J.yld i H x H' ∧ tn (i + 1) s2.heap ∧ ∀ b ∈ fp, H' b = none) E s1) E s
  done : ∀ (X : Cx), X.prog = P → X.w = w → X.K = K → X.calm = true → ∀ (i : Nat) (pins : List (Addr × Obj)) (s : Shared) (σ : St) (H : Hp) (E : Value → Shared → Prop), Inv X pins σ H s → (∀ b ∈ fp, FpOk X pins H b) → tn i s.heap → J.stop i H →
    wpAny (model P w) X.A (pyNext (.ref it)) (fun r s1 => r = none ∧ Inv X pins σ H s1) E s
  self : ∀ (A : Around) (i : Nat) (s : Shared) (Q : Value → Shared → Prop) (E : Value → Shared → Prop), tn i s.heap → Q (.ref it) s → wpAny (model P w) A (pyIter (.ref it)) Q E s
abbrev TI := St → Hp → (It → Hp → Prop) → Prop
def PIE (X : Cx) (pins : List (Addr × Obj)) (σ : St) (tg : Expr) (R : It → Hp → Prop) (itv : Value) (s2 : Shared) : Prop :=
  ∃ (it : Addr) (fp : List Addr) (tn : Nat → Heap → Prop) (J : It) (H' : Hp), itv = .ref it ∧ Inv X pins σ H' s2 ∧ Turn X.prog X.w X.K tg J fp it tn ∧ tn 0 s2.heap ∧ (∀ b ∈ fp, FpOk X pins H' b) ∧ R J H'
def PI (X : Cx) (tg iter : Expr) (wi : TI) : Prop :=
  ∀ (pins : List (Addr × Obj)) (s : Shared) (σ : St) (H : Hp) (R : It → Hp → Prop), Inv X pins σ H s → wi σ H R →
    wpAny (model X.prog X.w) X.A (eval iter X.env) (fun v s1 => wpAny (model X.prog X.w) X.A (pyIter v) (PIE X pins σ tg R) X.xe s1) X.xe s
theorem go_of {M : Model} {A : Around} {E : Value → Shared → Prop} {s : Shared} {tg : Expr} {it : Addr} {u : Value} {o : Obj} {n : String} {vs : Array Value} {Q : Unit → Shared → Prop} (ho : s.heap.get? it = some o) (hc : o.cls = .type n) (hd : o.data = .fields vs)
    (hn : ["enumerate", "zip", "dict_itemiterator", "dict_reverseitemiterator", "odict_iterator", "itertools.zip_longest", "itertools.pairwise"].contains n = false) (hQ : Q () s) : wpAny M A (letOwnedTupleGo tg (.ref it) u) Q E s := by
  unfold letOwnedTupleGo
  cases tg <;> first
    | exact wpAny_pure hQ
    | (cases u <;> first
        | exact wpAny_pure hQ
        | (refine wpAny_bind (wpAny_load ho ?_)
           rw [hc, hd]
           show wpAny M A (if (["enumerate", "zip", "dict_itemiterator", "dict_reverseitemiterator", "odict_iterator", "itertools.zip_longest", "itertools.pairwise"].contains n && vs[0]? == some (rawInt _)) = true then _ else _) Q E s
           rw [if_neg (by intro h; rw [hn, Bool.false_and] at h; cases h)]
           exact wpAny_pure hQ))
def Itl (K : PySem.W.Frag) (a : Addr) : It :=
  ⟨fun i H => ∃ xs x, SqL K H a xs ∧ xs[i]? = some x, fun i H x H' => H' = H ∧ ∀ xs, SqL K H a xs → xs[i]? = some x, fun i H => ∃ xs, SqL K H a xs ∧ xs.length ≤ i⟩
def Itt (K : PySem.W.Frag) (a : Addr) : It :=
  ⟨fun i H => ∃ xs x, SqT K H a xs ∧ xs[i]? = some x, fun i H x H' => H' = H ∧ ∀ xs, SqT K H a xs → xs[i]? = some x, fun i H => ∃ xs, SqT K H a xs ∧ xs.length ≤ i⟩
def Itr (lo : Int) (n : Nat) : It := ⟨fun i _ => i < n, fun i H x H' => H' = H ∧ x = .int (lo + i), fun i _ => n ≤ i⟩
theorem turn_list {P : Program} {w : World} {K : PySem.W.Frag} {tg : Expr} (a it : Addr) : Turn P w K tg (Itl K a) [it] it (fun i h => h.IsListIter it a i) where
  mem := by simp
  obj := fun i h st b hb => by
    have e : b = it := by simpa using hb
    subst e
    obtain ⟨o, e, c, d⟩ := st
    exact ⟨o, e, fun v z => by rw [d] at z; cases z⟩
  keep := fun i h h' st k => st.at fun o e => k it (by simp) o e
  item := by
    intro X hP hw hK hc i pins s σ H E I hf st hg
    subst hP hw hK
    obtain ⟨xs, x, hq, hx⟩ := hg
    obtain ⟨its, rv, p, hz⟩ := I.list hq
    obtain ⟨u, hu, ru⟩ := rv.get hx
    obtain ⟨f0, f1, f2, f3, f4, f5⟩ := hf it (by simp)
    refine wpAny_pyNext_list_item st p.isList (x := u) (by simpa using hu) fun h' st' sb => ?_
    have I1 : Inv X pins σ H { s with heap := h' } := I.turned (t' := s.toks) (fun b o hb e => (sb.2 b hb).trans e) f0 f1 f3 f4 f5
    obtain ⟨o, e, c, d⟩ := id st'
    exact ⟨u, rfl, go_of (s := { s with heap := h' }) e c d (by decide) ⟨x, H, I1, ru, ⟨rfl, fun ys hy => by rw [I.list_inj hy hq]; exact hx⟩, st', fun b hb => (hf b hb).1⟩⟩
  done := by
    intro X hP hw hK hc i pins s σ H E I hf st hg
    subst hP hw hK
    obtain ⟨xs, hq, hx⟩ := hg
    obtain ⟨its, rv, p, hz⟩ := I.list hq
    obtain ⟨f0, f1, f2, f3, f4, f5⟩ := hf it (by simp)
    have hl := rv.length
    exact wpAny_pyNext_list_end (I.ok.hd hc) st p.isList (by simp; omega) fun h' eb => ⟨rfl, I.turned (t' := s.toks) (fun b o hb e => eb b o hb e) f0 f1 f3 f4 f5⟩
  self := fun _ _ _ _ _ st h => wpAny_pyIter_listiter st h
theorem turn_tuple {P : Program} {w : World} {K : PySem.W.Frag} {tg : Expr} (a it : Addr) : Turn P w K tg (Itt K a) [it] it (fun i h => h.IsTupleIter it a i) where
  mem := by simp
  obj := fun i h st b hb => by
    have e : b = it := by simpa using hb
    subst e
    obtain ⟨o, e, c, d⟩ := st
    exact ⟨o, e, fun v z => by rw [d] at z; cases z⟩
  keep := fun i h h' st k => st.at fun o e => k it (by simp) o e
  item := by
    intro X hP hw hK hc i pins s σ H E I hf st hg
    subst hP hw hK
    obtain ⟨xs, x, hq, hx⟩ := hg
    obtain ⟨its, rv, p, hz⟩ := I.tuple hq
    obtain ⟨u, hu, ru⟩ := rv.get hx
    obtain ⟨f0, f1, f2, f3, f4, f5⟩ := hf it (by simp)
    refine wpAny_pyNext_tuple_item st (show s.heap.IsTuple a its.toArray from p) (x := u) (by simpa using hu) fun h' st' sb => ?_
    have I1 : Inv X pins σ H { s with heap := h' } := I.turned (t' := s.toks) (fun b o hb e => (sb.2 b hb).trans e) f0 f1 f3 f4 f5
    obtain ⟨o, e, c, d⟩ := id st'
    exact ⟨u, rfl, go_of (s := { s with heap := h' }) e c d (by decide) ⟨x, H, I1, ru, ⟨rfl, fun ys hy => by rw [I.tuple_inj hy hq]; exact hx⟩, st', fun b hb => (hf b hb).1⟩⟩
  done := by
    intro X hP hw hK hc i pins s σ H E I hf st hg
    subst hP hw hK
    obtain ⟨xs, hq, hx⟩ := hg
    obtain ⟨its, rv, p, hz⟩ := I.tuple hq
    obtain ⟨f0, f1, f2, f3, f4, f5⟩ := hf it (by simp)
    have hl := rv.length
    exact wpAny_pyNext_tuple_end (I.ok.hd hc) st (show s.heap.IsTuple a its.toArray from p) (by simp; omega) fun h' eb => ⟨rfl, I.turned (t' := s.toks) (fun b o hb e => eb b o hb e) f0 f1 f3 f4 f5⟩
  self := fun _ _ _ _ _ st h => wpAny_pyIter_tupleiter st h
theorem turn_range {P : Program} {w : World} {K : PySem.W.Frag} {tg : Expr} (it : Addr) (lo : Int) (n : Nat) : Turn P w K tg (Itr lo n) [it] it (fun i h => IsRangeIter h it (lo + (i : Nat) * 1) ((n : Int) - (i : Nat)) 1) where
  mem := by simp
  obj := fun i h st b hb => by
    have e : b = it := by simpa using hb
    subst e
    exact ⟨_, st, fun v z => by
      have z' : Data.fields _ = Data.cell v := z
      cases z'⟩
  keep := fun i h h' st k => k it (by simp) _ st
  item := by
    intro X hP hw hK hc i pins s σ H E I hf st hg
    subst hP hw hK
    obtain ⟨f0, f1, f2, f3, f4, f5⟩ := hf it (by simp)
    have W := Walks.range (prog := X.prog) (w := X.w) (I.ok.hd hc) it lo 1 n
    refine W.item i s _ _ hg st fun v h' tk hv st' kk => ?_
    obtain ⟨t, rfl⟩ := hv
    have I1 : Inv X pins σ H { s with heap := h', toks := tk } := I.turned (fun b o hb e => kk b o (by simpa using hb) e) f0 f1 f3 f4 f5
    refine ⟨_, rfl, go_of (s := { s with heap := h', toks := tk }) (n := "range_iterator") st' rfl rfl (by decide) ⟨.int (lo + i), H, I1, ⟨t, ?_⟩, ⟨rfl, rfl⟩, st', fun b hb => (hf b hb).1⟩⟩
    rw [Int.mul_one]
  done := by
    intro X hP hw hK hc i pins s σ H E I hf st hg
    subst hP hw hK
    obtain ⟨f0, f1, f2, f3, f4, f5⟩ := hf it (by simp)
    exact wpAny_pyNext_range_end (I.ok.hd hc) st (by have : n ≤ i := hg; omega) fun h' eb => ⟨rfl, I.turned (t' := s.toks) (fun b o hb e => eb b o hb e) f0 f1 f3 f4 f5⟩
  self := fun _ _ _ _ _ st h => wpAny_pyIter_rangeiter st h
end L2
namespace L2
open PySem PySem.Spec PyProof.Rows
section
variable {X : Cx} {tg : Expr}
def iList (K : PySem.W.Frag) (tl : TE) : TI := fun σ H R => tl σ H fun x H1 => ∃ a, x = .ref a ∧ (∃ xs, SqL K H1 a xs) ∧ R (Itl K a) H1
def iTup (K : PySem.W.Frag) (tl : TE) : TI := fun σ H R => tl σ H fun x H1 => ∃ a, x = .ref a ∧ (∃ xs, SqT K H1 a xs) ∧ R (Itt K a) H1
theorem pi_list {l : Expr} {tl : TE} (hl : PE X l tl) : PI X tg l (iList X.K tl) := by
  intro pins s σ H R I h
  refine thn (hl pins s σ H _ I h) fun v s1 ⟨x, H1, I1, r1, q1⟩ => ?_
  obtain ⟨a, e, ⟨xs, hq⟩, q⟩ := q1
  subst e
  cases r1
  obtain ⟨its, rv, p, hz⟩ := I1.list hq
  refine wpAny_pyIter_list p.isList ?_
  refine ⟨s1.heap.objs.size, [s1.heap.objs.size], _, _, H1, rfl, I1.kept (t' := s1.toks) fun b o e => Heap.get?_push_of_some _ e, turn_list a _, ⟨_, Heap.get?_push_size _ rfl, rfl, rfl⟩, fun b hb => ?_, q⟩
  have e : b = s1.heap.objs.size := by simpa using hb
  subst e
  exact I1.fpOk (Nat.le_refl _) (I1.hok.fresh (Nat.le_refl _))
theorem pi_tup {l : Expr} {tl : TE} (hl : PE X l tl) : PI X tg l (iTup X.K tl) := by
  intro pins s σ H R I h
  refine thn (hl pins s σ H _ I h) fun v s1 ⟨x, H1, I1, r1, q1⟩ => ?_
  obtain ⟨a, e, ⟨xs, hq⟩, q⟩ := q1
  subst e
  cases r1
  obtain ⟨its, rv, p, hz⟩ := I1.tuple hq
  refine wpAny_pyIter_tuple (show s1.heap.IsTuple a its.toArray from p) ?_
  refine ⟨s1.heap.objs.size, [s1.heap.objs.size], _, _, H1, rfl, I1.kept (t' := s1.toks) fun b o e => Heap.get?_push_of_some _ e, turn_tuple a _, ⟨_, Heap.get?_push_size _ rfl, rfl, rfl⟩, fun b hb => ?_, q⟩
  have e : b = s1.heap.objs.size := by simpa using hb
  subst e
  exact I1.fpOk (Nat.le_refl _) (I1.hok.fresh (Nat.le_refl _))
theorem range_it {pins : List (Addr × Obj)} {σ : St} {H : Hp} {s : Shared} {R : It → Hp → Prop} {E : Value → Shared → Prop} {lo hi : Int} {t u v : Tok} {tk : Nat} (I : Inv X pins σ H s) (h1 : -(2 ^ 62) ≤ lo) (h2 : lo < 2 ^ 62) (h3 : -(2 ^ 62) ≤ hi) (h4 : hi < 2 ^ 62)
    (q : R (Itr lo (hi - lo).toNat) H) : wpAny (model X.prog X.w) X.A (pyIter (.ref s.heap.objs.size)) (PIE X pins σ tg R) E { s with heap := s.heap.push { cls := .type "range", data := .fields #[.int lo t, .int hi u, .int 1 v] }, toks := tk } := by
  refine wpAny_pyIter_range (IsRange.new ..) (small_one h1 h2 h3 h4) ?_
  have I1 : Inv X pins σ H { s with heap := s.heap.push { cls := .type "range", data := .fields #[.int lo t, .int hi u, .int 1 v] }, toks := tk } := I.kept fun b o e => Heap.get?_push_of_some _ e
  refine ⟨(s.heap.push { cls := .type "range", data := .fields #[.int lo t, .int hi u, .int 1 v] }).objs.size, [(s.heap.push { cls := .type "range", data := .fields #[.int lo t, .int hi u, .int 1 v] }).objs.size], _, _, H, rfl,
    I1.kept (t' := tk) fun b o e => Heap.get?_push_of_some _ e, turn_range _ lo (hi - lo).toNat, ?_, fun b hb => ?_, q⟩
  · have e1 : lo + ((0 : Nat) : Int) * 1 = lo := by simp
    have e2 : (((hi - lo).toNat : Nat) : Int) - ((0 : Nat) : Int) = Builtin.Range.rangeSize lo hi 1 := by rw [rangeSize_one]; split <;> omega
    show IsRangeIter _ _ (lo + ((0 : Nat) : Int) * 1) ((((hi - lo).toNat : Nat) : Int) - ((0 : Nat) : Int)) 1
    rw [e1, e2]
    exact Heap.get?_push_size _ rfl
  · have e : b = (s.heap.push { cls := .type "range", data := .fields #[.int lo t, .int hi u, .int 1 v] }).objs.size := by simpa using hb
    subst e
    exact I1.fpOk (Nat.le_refl _) (I1.hok.fresh (Nat.le_refl _))
def iRng1 (ta : TA) : TI := fun σ H R => ta σ H fun vs H1 => ∃ j : Int, vs = [.int j] ∧ -(2 ^ 62) ≤ j ∧ j < 2 ^ 62 ∧ R (Itr 0 j.toNat) H1
def iRng2 (ta : TA) : TI := fun σ H R => ta σ H fun vs H1 => ∃ i j : Int, vs = [.int i, .int j] ∧ (-(2 ^ 62) ≤ i ∧ i < 2 ^ 62 ∧ -(2 ^ 62) ≤ j ∧ j < 2 ^ 62) ∧ R (Itr i (j - i).toNat) H1
theorem pi_range1 {a : Expr} {ta : TA} {p pos : Pos} (hg : Gl X "range") (hm : X.mg "range" = none) (ha : PA X [a] ta) (hs : starEach [a] X.env = [(false, eval a X.env)] := by rfl) : PI X tg (.Call (.Name "range" p) [a] [] pos) (iRng1 ta) := by
  intro pins s σ H R I h
  refine Call_ (ld_blt I hg hm boot_range (PyProof.Rows.callWith_type1 (thn (ha pos pins s σ H _ I h) fun us s1 ⟨vs, H1, I1, r1, q1⟩ => ?_) hs rfl))
  obtain ⟨j, e, q1, q2, q⟩ := q1
  subst e
  cases r1 with
  | cons r rr =>
    cases rr
    obtain ⟨t, rfl⟩ := r
    exact call_range_1 (range_it I1 (by omega) (by omega) q1 q2 (by simpa using q))
theorem pi_range2 {a b : Expr} {ta : TA} {p pos : Pos} (hg : Gl X "range") (hm : X.mg "range" = none) (ha : PA X [a, b] ta) (hs : starEach [a, b] X.env = [(false, eval a X.env), (false, eval b X.env)] := by rfl) (hs2 : starEach [b] X.env = [(false, eval b X.env)] := by rfl) :
    PI X tg (.Call (.Name "range" p) [a, b] [] pos) (iRng2 ta) := by
  intro pins s σ H R I h
  refine Call_ (ld_blt I hg hm boot_range (PyProof.Rows.callWith_type1 (thn (ha pos pins s σ H _ I h) fun us s1 ⟨vs, H1, I1, r1, q1⟩ => ?_) (by rw [hs, hs2]) (by rw [hs2]; rfl)))
  obtain ⟨i, j, e, ⟨q1, q2, q3, q4⟩, q⟩ := q1
  subst e
  cases r1 with
  | cons r rr =>
    cases rr with
    | cons r' rr =>
      cases rr
      obtain ⟨t, rfl⟩ := r
      obtain ⟨t', rfl⟩ := r'
      exact call_range_2 (range_it I1 q1 q2 q3 q4 q)
def tFor (wi : TI) (g : TG) (tb : TS) : TS := fun D σ H => wi σ H fun J H1 => ∃ W : Nat → Nat → St → Hp → Prop, (∃ m, W 0 m σ H1) ∧ ∀ i m σ H, W i m σ H →
  (J.stop i H ∧ D.nx σ H) ∨ (J.go i H ∧ ∃ N : St → Hp → Prop, (∀ σ' H', N σ' H' → ∃ m', m' < m ∧ W (i + 1) m' σ' H') ∧ ∀ x H', J.yld i H x H' → g x σ H' fun σ2 H2 => tb { D with nx := N, ct := N, bk := D.nx } σ2 H2)
def pinsAt (fp : List Addr) (h : Heap) : List (Addr × Obj) := fp.filterMap fun b => (h.get? b).map fun o => (b, o)
theorem mem_pinsAt {fp : List Addr} {h : Heap} {b : Addr} {o : Obj} (hb : b ∈ fp) (e : h.get? b = some o) : (b, o) ∈ pinsAt fp h := List.mem_filterMap.mpr ⟨b, hb, by rw [e]; rfl⟩
theorem of_pinsAt {fp : List Addr} {h : Heap} {p : Addr × Obj} (hp : p ∈ pinsAt fp h) : p.1 ∈ fp ∧ h.get? p.1 = some p.2 := by
  obtain ⟨b, hb, e⟩ := List.mem_filterMap.mp hp
  cases q : h.get? b with
  | none => rw [q] at e; cases e
  | some o =>
    rw [q] at e
    have e' : (b, o) = p := Option.some.inj e
    subst e'
    exact ⟨hb, q⟩
theorem Inv.pinned {pins : List (Addr × Obj)} {σ : St} {H : Hp} {s : Shared} {fp : List Addr} (I : Inv X pins σ H s) (hf : ∀ b ∈ fp, FpOk X pins H b) (ho : ∀ b ∈ fp, ∃ o, s.heap.get? b = some o ∧ ∀ v, o.data ≠ .cell v) : Inv X (pins ++ pinsAt fp s.heap) σ H s :=
  I.pins_of fun p hp => (List.mem_append.mp hp).elim (fun z => I.pin p (List.mem_append_right _ z)) fun z => by
    obtain ⟨hb, e⟩ := of_pinsAt z
    obtain ⟨f0, f1, f2, _⟩ := hf p.1 hb
    obtain ⟨o, e', d⟩ := ho p.1 hb
    rw [e] at e'; cases e'
    exact ⟨e, f0, f1, f2, d⟩
theorem Inv.unpinned {pins pl : List (Addr × Obj)} {σ : St} {H : Hp} {s : Shared} (I : Inv X (pins ++ pl) σ H s) : Inv X pins σ H s := I.pins_of fun p hp => I.pin p (List.mem_append_right _ (List.mem_append_left _ hp))
theorem ps_for {iter : Expr} {body : List Stmt} {wi : TI} {g : TG} {tb : TS} {pos : Pos} (hp : PassesOwn (model X.prog X.w) X.A X.env X.xe) (hc : X.calm = true) (hi : PI X tg iter wi) (hg : PG X tg g) (hb : PSs X body tb)
    (hs : ∀ x, foldedSetIterable iter X.env x = pure x := by intro _; rfl) : PS X (.For tg iter body [] pos) (tFor wi g tb) := by
  intro pins s σ H D I h
  refine wpAny_For (thn (hi pins s σ H _ I h) fun v s1 h1 => thn h1 fun itv s2 h2 => ?_) hs
  obtain ⟨it, fp, tn, J, H2, e, I2, T, st2, f2, W, ⟨m0, w0⟩, turn⟩ := h2
  subst e
  have stat : ∀ {H' : Hp}, (∀ b ∈ fp, H' b = none) → ∀ b ∈ fp, FpOk X pins H' b := fun hn b hb => ⟨hn b hb, (f2 b hb).2⟩
  refine codeAny_forLoop_any (fun n s' => ∃ i σ' H', Inv X pins σ' H' s' ∧ tn i s'.heap ∧ (∀ b ∈ fp, H' b = none) ∧ W i n σ' H') ?_ m0 ⟨0, σ, H2, I2, st2, fun b hb => (f2 b hb).1, w0⟩
  rintro n s3 ⟨i, σ3, H3, I3, st3, fr3, w3⟩
  rcases turn i n σ3 H3 w3 with ⟨stop, qn⟩ | ⟨go, N, hN, step⟩
  · refine wpAny_passesOwn hp (thn (T.done X rfl rfl rfl hc i pins s3 σ3 H3 X.xe I3 (stat fr3) st3 stop) fun r s4 ⟨hr, I4⟩ => ?_)
    subst hr
    exact wpAny_execs_nil ⟨σ3, H3, I4, qn⟩
  · refine wpAny_passesOwn hp (thn (T.item X rfl rfl rfl hc i pins s3 σ3 H3 X.xe I3 (stat fr3) st3 go) fun r s4 ⟨u, hr, h4⟩ => ?_)
    subst hr
    refine wpAny_passesOwn hp (thn h4 fun _ s5 ⟨x, H5, I5, r5, y5, st5, fr5⟩ => ?_)
    have I5' := I5.pinned (stat fr5) (T.obj _ _ st5)
    refine wpAny_passesOwn hp (thn (hg _ s5 σ3 H5 x u _ I5' r5 (step x H5 y5)) fun _ s6 ⟨σ6, H6, I6, q6⟩ => ?_)
    refine wpAny_passesOwn hp (thn (hb _ s6 σ6 H6 _ I6 q6) fun f s7 q7 => ?_)
    have again : ∀ {σ7 : St} {H7 : Hp}, Inv X (pins ++ pinsAt fp s5.heap) σ7 H7 s7 → N σ7 H7 → ∃ m, m < n ∧ ∃ i σ' H', Inv X pins σ' H' s7 ∧ tn i s7.heap ∧ (∀ b ∈ fp, H' b = none) ∧ W i m σ' H' := fun {σ7 H7} I7 n7 => by
      obtain ⟨m', hm, w7⟩ := hN σ7 H7 n7
      refine ⟨m', hm, i + 1, σ7, H7, I7.unpinned, T.keep _ _ _ st5 fun b hb o e => (I7.pin (b, o) (List.mem_append_right _ (List.mem_append_right _ (mem_pinsAt hb e)))).1, fun b hb => ?_, w7⟩
      obtain ⟨o, e, d⟩ := T.obj _ _ st5 b hb
      exact (I7.pin (b, o) (List.mem_append_right _ (List.mem_append_right _ (mem_pinsAt hb e)))).2.1
    cases f with
    | next => obtain ⟨σ7, H7, I7, n7⟩ := q7; exact again I7 n7
    | cont => obtain ⟨σ7, H7, I7, n7⟩ := q7; exact again I7 n7
    | brk => obtain ⟨σ7, H7, I7, q7⟩ := q7; exact ⟨σ7, H7, I7.unpinned, q7⟩
    | ret v => obtain ⟨x7, σ7, H7, I7, r7, q7⟩ := q7; exact ⟨x7, σ7, H7, I7.unpinned, r7, q7⟩
end
theorem for_list {K : PySem.W.Frag} {a : Addr} {xs : List V} {g : TG} {tb : TS} {D : Ends} {σ : St} {H : Hp} (Pv : Nat → St → Hp → Prop) (h0 : Pv 0 σ H) (hl : ∀ i σ H, i ≤ xs.length → Pv i σ H → SqL K H a xs)
    (hs : ∀ i x σ H, xs[i]? = some x → Pv i σ H → g x σ H fun σ2 H2 => tb { D with nx := Pv (i + 1), ct := Pv (i + 1), bk := D.nx } σ2 H2) (hd : ∀ σ H, Pv xs.length σ H → D.nx σ H) :
    ∃ W : Nat → Nat → St → Hp → Prop, (∃ m, W 0 m σ H) ∧ ∀ i m σ H, W i m σ H →
      ((Itl K a).stop i H ∧ D.nx σ H) ∨ ((Itl K a).go i H ∧ ∃ N : St → Hp → Prop, (∀ σ' H', N σ' H' → ∃ m', m' < m ∧ W (i + 1) m' σ' H') ∧ ∀ x H', (Itl K a).yld i H x H' → g x σ H' fun σ2 H2 => tb { D with nx := N, ct := N, bk := D.nx } σ2 H2) := by
  refine ⟨fun i m σ H => m = xs.length - i ∧ i ≤ xs.length ∧ Pv i σ H, ⟨xs.length, by simp, Nat.zero_le _, h0⟩, ?_⟩
  rintro i m σ H ⟨rfl, hi, p⟩
  have q := hl i σ H hi p
  by_cases hlt : i < xs.length
  · refine .inr ⟨⟨xs, xs[i], q, by simp [hlt]⟩, Pv (i + 1), fun σ' H' p' => ⟨xs.length - (i + 1), by omega, rfl, hlt, p'⟩, fun x H' y => ?_⟩
    obtain ⟨e, y⟩ := y
    subst e
    exact hs i x σ _ (y xs q) p
  · have e : i = xs.length := by omega
    subst e
    exact .inl ⟨⟨xs, q, Nat.le_refl _⟩, hd σ H p⟩
theorem for_tup {K : PySem.W.Frag} {a : Addr} {xs : List V} {g : TG} {tb : TS} {D : Ends} {σ : St} {H : Hp} (Pv : Nat → St → Hp → Prop) (h0 : Pv 0 σ H) (hl : ∀ i σ H, i ≤ xs.length → Pv i σ H → SqT K H a xs)
    (hs : ∀ i x σ H, xs[i]? = some x → Pv i σ H → g x σ H fun σ2 H2 => tb { D with nx := Pv (i + 1), ct := Pv (i + 1), bk := D.nx } σ2 H2) (hd : ∀ σ H, Pv xs.length σ H → D.nx σ H) :
    ∃ W : Nat → Nat → St → Hp → Prop, (∃ m, W 0 m σ H) ∧ ∀ i m σ H, W i m σ H →
      ((Itt K a).stop i H ∧ D.nx σ H) ∨ ((Itt K a).go i H ∧ ∃ N : St → Hp → Prop, (∀ σ' H', N σ' H' → ∃ m', m' < m ∧ W (i + 1) m' σ' H') ∧ ∀ x H', (Itt K a).yld i H x H' → g x σ H' fun σ2 H2 => tb { D with nx := N, ct := N, bk := D.nx } σ2 H2) := by
  refine ⟨fun i m σ H => m = xs.length - i ∧ i ≤ xs.length ∧ Pv i σ H, ⟨xs.length, by simp, Nat.zero_le _, h0⟩, ?_⟩
  rintro i m σ H ⟨rfl, hi, p⟩
  have q := hl i σ H hi p
  by_cases hlt : i < xs.length
  · refine .inr ⟨⟨xs, xs[i], q, by simp [hlt]⟩, Pv (i + 1), fun σ' H' p' => ⟨xs.length - (i + 1), by omega, rfl, hlt, p'⟩, fun x H' y => ?_⟩
    obtain ⟨e, y⟩ := y
    subst e
    exact hs i x σ _ (y xs q) p
  · have e : i = xs.length := by omega
    subst e
    exact .inl ⟨⟨xs, q, Nat.le_refl _⟩, hd σ H p⟩
theorem for_range {lo : Int} {n : Nat} {g : TG} {tb : TS} {D : Ends} {σ : St} {H : Hp} (Pv : Nat → St → Hp → Prop) (h0 : Pv 0 σ H)
    (hs : ∀ i σ H, i < n → Pv i σ H → g (.int (lo + i)) σ H fun σ2 H2 => tb { D with nx := Pv (i + 1), ct := Pv (i + 1), bk := D.nx } σ2 H2) (hd : ∀ σ H, Pv n σ H → D.nx σ H) :
    ∃ W : Nat → Nat → St → Hp → Prop, (∃ m, W 0 m σ H) ∧ ∀ i m σ H, W i m σ H →
      ((Itr lo n).stop i H ∧ D.nx σ H) ∨ ((Itr lo n).go i H ∧ ∃ N : St → Hp → Prop, (∀ σ' H', N σ' H' → ∃ m', m' < m ∧ W (i + 1) m' σ' H') ∧ ∀ x H', (Itr lo n).yld i H x H' → g x σ H' fun σ2 H2 => tb { D with nx := N, ct := N, bk := D.nx } σ2 H2) := by
  refine ⟨fun i m σ H => m = n - i ∧ i ≤ n ∧ Pv i σ H, ⟨n, by simp, Nat.zero_le _, h0⟩, ?_⟩
  rintro i m σ H ⟨rfl, hi, p⟩
  by_cases hlt : i < n
  · refine .inr ⟨hlt, Pv (i + 1), fun σ' H' p' => ⟨n - (i + 1), by omega, rfl, hlt, p'⟩, fun x H' y => ?_⟩
    obtain ⟨e, y⟩ := y
    subst e y
    exact hs i σ _ hlt p
  · have e : i = n := by omega
    subst e
    exact .inl ⟨Nat.le_refl _, hd σ H p⟩
theorem while_by {c : TT} {tb : TS} {D : Ends} {σ : St} {H : Hp} (Pv : St → Hp → Prop) (μ : St → Hp → Nat) (h0 : Pv σ H)
    (hs : ∀ σ H, Pv σ H → c σ H fun b H1 => if b = true then tb { D with nx := fun σ' H' => Pv σ' H' ∧ μ σ' H' < μ σ H, ct := fun σ' H' => Pv σ' H' ∧ μ σ' H' < μ σ H, bk := D.nx } σ H1 else D.nx σ H1)
    (mono : ∀ σ H Q Q', (∀ b H1, Q b H1 → Q' b H1) → c σ H Q → c σ H Q') : tWhile c tb D σ H := by
  refine ⟨fun m σ H => m = μ σ H ∧ Pv σ H, ⟨_, rfl, h0⟩, ?_⟩
  rintro m σ H ⟨rfl, p⟩
  refine mono σ H _ _ (fun b H1 q => ?_) (hs σ H p)
  cases b with
  | true => exact ⟨_, fun σ' H' ⟨p', l⟩ => ⟨_, l, rfl, p'⟩, q⟩
  | false => exact q
end L2
namespace L2
open PySem PySem.Spec PyProof.Rows
abbrev R2 := V → V → Hp → VK → Prop
def OpR (X : Cx) (f : Value → Value → Sem Value) (r : R2) : Prop :=
  ∀ (pins : List (Addr × Obj)) (s : Shared) (σ : St) (H : Hp) (x y : V) (v u : Value) (Q : VK), Inv X pins σ H s → RelV x v → RelV y u → r x y H Q →
    wpAny (model X.prog X.w) X.A (f v u) (EP X pins σ Q) X.xe s
def CallR (X : Cx) (f : Value) (r : List V → Hp → VK → Prop) : Prop :=
  ∀ (pins : List (Addr × Obj)) (s : Shared) (σ : St) (H : Hp) (xs : List V) (us : List Value) (Q : VK), Inv X pins σ H s → Vals xs us → r xs H Q →
    wpAny (model X.prog X.w) X.A (call f us) (EP X pins σ Q) X.xe s
def tOp (r : R2) (ta tb : TE) : TE := fun σ H Q => ta σ H fun x H1 => tb σ H1 fun y H2 => r x y H2 Q
def rI (C : Int → Int → Prop) (g : Int → Int → V) : R2 := fun x y H Q => ∃ i j, x = .int i ∧ y = .int j ∧ C i j ∧ Q (g i j) H
def rI0 (g : Int → Int → V) : R2 := fun x y H Q => ∃ i j, x = .int i ∧ y = .int j ∧ Q (g i j) H
section
variable {X : Cx} {a b c : Expr} {ta tb tc : TE} {pos : Pos}
theorem binT (ha : PE X a ta) (hb : PE X b tb) {pins : List (Addr × Obj)} {s : Shared} {σ : St} {H : Hp} {R : V → V → Hp → Prop} (I : Inv X pins σ H s)
    (h : ta σ H fun x H1 => tb σ H1 fun y H2 => R x y H2) {Q : Value → Shared → Prop} {f : Value → Value → Sem Value}
    (hf : ∀ v u s2 x y H2, Inv X pins σ H2 s2 → RelV x v → RelV y u → R x y H2 → wpAny (model X.prog X.w) X.A (f v u) Q X.xe s2) :
    wpAny (model X.prog X.w) X.A (eval a X.env) (fun v s₁ => wpAny (model X.prog X.w) X.A (eval b X.env) (fun u s₂ => wpAny (model X.prog X.w) X.A (f v u) Q X.xe s₂) X.xe s₁) X.xe s := by
  refine thn (ha pins s σ H _ I h) fun v s1 ⟨x, H1, I1, r1, q1⟩ => ?_
  refine thn (hb pins s1 σ H1 _ I1 q1) fun u s2 ⟨y, H2, I2, r2, q2⟩ => ?_
  exact hf v u s2 x y H2 I2 r1 r2 q2
theorem pe_op {op : Operator} {r : R2} (ho : OpR X (binaryOp op) r) (ha : PE X a ta) (hb : PE X b tb) : PE X (.BinOp a op b pos) (tOp r ta tb) := by
  intro pins s σ H Q I h
  exact wpAny_BinOp (binT ha hb I h fun v u s2 x y H2 I2 rx ry q => ho pins s2 σ H2 x y v u Q I2 rx ry q)
theorem opI {f : Value → Value → Sem Value} {C : Int → Int → Prop} {g : Int → Int → Int}
    (rule : ∀ (i j : Int) (t u : Tok) (s : Shared) (Q : Value → Shared → Prop) (E : Value → Shared → Prop), C i j → Q (.int (g i j) s.toks) { s with toks := s.toks + 1 } → wpAny (model X.prog X.w) X.A (f (.int i t) (.int j u)) Q E s) :
    OpR X f (rI C fun i j => .int (g i j)) := by
  intro pins s σ H x y v u Q I rx ry h
  obtain ⟨i, j, rfl, rfl, hc, q⟩ := h
  obtain ⟨t, rfl⟩ := rx
  obtain ⟨t', rfl⟩ := ry
  exact rule i j t t' s _ _ hc ⟨.int (g i j), H, I.tok _, ⟨_, rfl⟩, q⟩
theorem opI0 {f : Value → Value → Sem Value} {g : Int → Int → Int}
    (rule : ∀ (i j : Int) (t u : Tok) (s : Shared) (Q : Value → Shared → Prop) (E : Value → Shared → Prop), Q (.int (g i j) s.toks) { s with toks := s.toks + 1 } → wpAny (model X.prog X.w) X.A (f (.int i t) (.int j u)) Q E s) :
    OpR X f (rI0 fun i j => .int (g i j)) := by
  intro pins s σ H x y v u Q I rx ry h
  obtain ⟨i, j, rfl, rfl, q⟩ := h
  obtain ⟨t, rfl⟩ := rx
  obtain ⟨t', rfl⟩ := ry
  exact rule i j t t' s _ _ ⟨.int (g i j), H, I.tok _, ⟨_, rfl⟩, q⟩
theorem opB0 {f : Value → Value → Sem Value} {g : Int → Int → Bool}
    (rule : ∀ (i j : Int) (t u : Tok) (s : Shared) (Q : Value → Shared → Prop) (E : Value → Shared → Prop), Q (.bool (g i j)) s → wpAny (model X.prog X.w) X.A (f (.int i t) (.int j u)) Q E s) :
    OpR X f (rI0 fun i j => .bl (g i j)) := by
  intro pins s σ H x y v u Q I rx ry h
  obtain ⟨i, j, rfl, rfl, q⟩ := h
  obtain ⟨t, rfl⟩ := rx
  obtain ⟨t', rfl⟩ := ry
  exact rule i j t t' s _ _ ⟨.bl (g i j), H, I, rfl, q⟩
def CDiv (i j : Int) : Prop := 0 < j ∧ j < 1073741824
def CMul (i j : Int) : Prop := (-(2 ^ 64) < i ∧ i < 2 ^ 64) ∨ (-(2 ^ 64) < j ∧ j < 2 ^ 64)
theorem CMul.ok {i j : Int} (h : CMul i j) : IntMulOk i j := by
  rcases h with ⟨h1, h2⟩ | ⟨h1, h2⟩
  · exact .of_left (intBits_le_64 h1 h2)
  · exact .of_right (intBits_le_64 h1 h2)
theorem op_add : OpR X (binaryOp .Add) (rI0 fun i j => .int (i + j)) := opI0 fun _ _ _ _ _ _ _ q => add_int q
theorem op_sub : OpR X (binaryOp .Sub) (rI0 fun i j => .int (i - j)) := opI0 fun _ _ _ _ _ _ _ q => sub_int q
theorem op_mul : OpR X (binaryOp .Mult) (rI CMul fun i j => .int (i * j)) := opI fun _ _ _ _ _ _ _ hc q => mul_int q hc.ok
theorem op_fdiv : OpR X (binaryOp .FloorDiv) (rI CDiv fun i j => .int (i / j)) := opI fun i j _ _ _ _ _ hc q => by
  have h1 : (0 : Int) < j := hc.1
  have h2 : j < 1073741824 := hc.2
  exact floordiv_int (by omega) (by rw [Int.fdiv_eq_ediv_of_nonneg i (by omega)]; exact q) (.inl (PyProof.noPylong_small (by omega)))
theorem op_mod : OpR X (binaryOp .Mod) (rI (fun _ j => 0 < j) fun i j => .int (i % j)) := opI fun i j _ _ _ _ _ hc q => by
  have h1 : (0 : Int) < j := hc
  exact mod_int' (by omega) (by rw [Int.fmod_eq_emod_of_nonneg i (by omega)]; exact q)
end
def scal : V → V → Bool
  | .non, .non => true | .non, .int _ => true | .int _, .non => true | .non, .bl _ => true | .bl _, .non => true | .non, .str _ => true | .str _, .non => true
  | .int _, .int _ => true | .bl _, .bl _ => true | .str _, .str _ => true | .byt _, .byt _ => true
  | .int _, .str _ => true | .str _, .int _ => true | .bl _, .str _ => true | .str _, .bl _ => true
  | _, _ => false
def rEq : R2 := fun x y H Q => scal x y = true ∧ Q (.bl (decide (x = y))) H
def rNe : R2 := fun x y H Q => scal x y = true ∧ Q (.bl (!decide (x = y))) H
theorem dec_int {i j : Int} : decide (V.int i = V.int j) = (i == j) := by
  rw [Bool.eq_iff_iff]
  simp
theorem dec_bl {i j : Bool} : decide (V.bl i = V.bl j) = (i == j) := by
  rw [Bool.eq_iff_iff]
  simp
theorem dec_str {i j : Str} : decide (V.str i = V.str j) = (i == j) := by
  rw [Bool.eq_iff_iff]
  simp
theorem dec_byt {i j : Array UInt8} : decide (V.byt i = V.byt j) = (i.toList == j.toList) := by
  rw [Bool.eq_iff_iff]
  cases i
  cases j
  simp
section
variable {X : Cx} {a b c : Expr} {ta tb tc : TE} {pos : Pos}
theorem fin_bl {pins : List (Addr × Obj)} {σ : St} {H : Hp} {s : Shared} {Q : VK} {k k' : Bool} (I : Inv X pins σ H s) (q : Q (.bl k) H) (e : k = k') : EP X pins σ Q (.bool k') s := by
  subst e
  exact ⟨.bl k, H, I, rfl, q⟩
theorem op_eq : OpR X (compareOp .Eq) rEq := by
  intro pins s σ H x y v u Q I rx ry h
  obtain ⟨hs, q⟩ := h
  cases x with
  | non =>
    cases rx
    cases y with
    | non => cases ry; exact PySem.EqNone.eq_none_none (fin_bl I q (by simp))
    | bl j => cases ry; exact PySem.EqNone.eq_none_bool (fin_bl I q (by simp))
    | int j => obtain ⟨t', rfl⟩ := ry; exact PySem.EqNone.eq_none_int (fin_bl I q (by simp))
    | str j => obtain ⟨t', rfl⟩ := ry; exact PySem.EqNone.eq_none_str (fin_bl I q (by simp))
    | _ => exact absurd (show false = true from hs) Bool.false_ne_true
  | bl i =>
    cases rx
    cases y with
    | non => cases ry; exact PySem.EqNone.eq_bool_none (fin_bl I q (by simp))
    | bl j => cases ry; exact eq_bool (fin_bl I q dec_bl)
    | str j => obtain ⟨t', rfl⟩ := ry; exact PySem.EqMixed.eq_bool_str (fin_bl I q (by simp))
    | _ => exact absurd (show false = true from hs) Bool.false_ne_true
  | int i =>
    obtain ⟨t, rfl⟩ := rx
    cases y with
    | non => cases ry; exact PySem.EqNone.eq_int_none (fin_bl I q (by simp))
    | int j => obtain ⟨t', rfl⟩ := ry; exact eq_int (fin_bl I q dec_int)
    | str j => obtain ⟨t', rfl⟩ := ry; exact PySem.EqMixed.eq_int_str (fin_bl I q (by simp))
    | _ => exact absurd (show false = true from hs) Bool.false_ne_true
  | str i =>
    obtain ⟨t, rfl⟩ := rx
    cases y with
    | non => cases ry; exact PySem.EqNone.eq_str_none (fin_bl I q (by simp))
    | bl j => cases ry; exact PySem.EqMixed.eq_str_bool (fin_bl I q (by simp))
    | int j => obtain ⟨t', rfl⟩ := ry; exact PySem.EqMixed.eq_str_int (fin_bl I q (by simp))
    | str j => obtain ⟨t', rfl⟩ := ry; exact eq_str (fin_bl I q dec_str)
    | _ => exact absurd (show false = true from hs) Bool.false_ne_true
  | byt i =>
    obtain ⟨t, rfl⟩ := rx
    cases y with
    | byt j => obtain ⟨t', rfl⟩ := ry; exact PySem.W.eq_bytes (fin_bl I q dec_byt)
    | _ => exact absurd (show false = true from hs) Bool.false_ne_true
  | _ => cases y <;> exact absurd (show false = true from hs) Bool.false_ne_true
theorem op_ne : OpR X (compareOp .NotEq) rNe := by
  intro pins s σ H x y v u Q I rx ry h
  obtain ⟨hs, q⟩ := h
  cases x with
  | non =>
    cases rx
    cases y with
    | non => cases ry; exact PySem.EqNone.ne_none_none (fin_bl I q (by simp))
    | bl j => cases ry; exact PySem.EqNone.ne_none_bool (fin_bl I q (by simp))
    | int j => obtain ⟨t', rfl⟩ := ry; exact PySem.EqNone.ne_none_int (fin_bl I q (by simp))
    | str j => obtain ⟨t', rfl⟩ := ry; exact PySem.EqNone.ne_none_str (fin_bl I q (by simp))
    | _ => exact absurd (show false = true from hs) Bool.false_ne_true
  | bl i =>
    cases rx
    cases y with
    | non => cases ry; exact PySem.EqNone.ne_bool_none (fin_bl I q (by simp))
    | bl j => cases ry; exact ne_bool (fin_bl I q (congrArg not dec_bl))
    | str j => obtain ⟨t', rfl⟩ := ry; exact PySem.EqMixed.ne_bool_str (fin_bl I q (by simp))
    | _ => exact absurd (show false = true from hs) Bool.false_ne_true
  | int i =>
    obtain ⟨t, rfl⟩ := rx
    cases y with
    | non => cases ry; exact PySem.EqNone.ne_int_none (fin_bl I q (by simp))
    | int j => obtain ⟨t', rfl⟩ := ry; exact ne_int (fin_bl I q (congrArg not dec_int))
    | str j => obtain ⟨t', rfl⟩ := ry; exact PySem.EqMixed.ne_int_str (fin_bl I q (by simp))
    | _ => exact absurd (show false = true from hs) Bool.false_ne_true
  | str i =>
    obtain ⟨t, rfl⟩ := rx
    cases y with
    | non => cases ry; exact PySem.EqNone.ne_str_none (fin_bl I q (by simp))
    | bl j => cases ry; exact PySem.EqMixed.ne_str_bool (fin_bl I q (by simp))
    | int j => obtain ⟨t', rfl⟩ := ry; exact PySem.EqMixed.ne_str_int (fin_bl I q (by simp))
    | str j => obtain ⟨t', rfl⟩ := ry; exact ne_str (fin_bl I q (congrArg not dec_str))
    | _ => exact absurd (show false = true from hs) Bool.false_ne_true
  | byt i =>
    obtain ⟨t, rfl⟩ := rx
    cases y with
    | byt j => obtain ⟨t', rfl⟩ := ry; exact PySem.W.ne_bytes (fin_bl I q (congrArg not dec_byt))
    | _ => exact absurd (show false = true from hs) Bool.false_ne_true
  | _ => cases y <;> exact absurd (show false = true from hs) Bool.false_ne_true
theorem op_lt : OpR X (compareOp .Lt) (rI0 fun i j => .bl (decide (i < j))) := opB0 fun _ _ _ _ _ _ _ q => lt_int q
theorem op_le : OpR X (compareOp .LtE) (rI0 fun i j => .bl (decide (i ≤ j))) := opB0 fun _ _ _ _ _ _ _ q => le_int q
theorem op_gt : OpR X (compareOp .Gt) (rI0 fun i j => .bl (decide (j < i))) := opB0 fun _ _ _ _ _ _ _ q => gt_int q
theorem op_ge : OpR X (compareOp .GtE) (rI0 fun i j => .bl (decide (j ≤ i))) := opB0 fun _ _ _ _ _ _ _ q => ge_int q
theorem op_isN : OpR X (compareOp .Is) (fun x y H Q => y = .non ∧ Q (.bl (decide (x = .non))) H) := by
  intro pins s σ H x y v u Q I rx ry h
  obtain ⟨rfl, q⟩ := h
  cases ry
  refine is_none_gen (fin_bl I q ?_)
  cases x <;> first
    | (cases rx; rfl)
    | (obtain ⟨t, rfl⟩ := rx; rfl)
theorem nomark (b : Expr) {op : CmpOp} (h : op ≠ .In := by decide) (h2 : op ≠ .NotIn := by decide) : behindInMarks op b = false := by
  have e1 : (op == CmpOp.In) = false := by cases op <;> first | rfl | exact absurd rfl h
  have e2 : (op == CmpOp.NotIn) = false := by cases op <;> first | rfl | exact absurd rfl h2
  cases b <;> simp [behindInMarks, e1, e2]
theorem pe_cmpR {op : CmpOp} {r : R2} (ho : OpR X (compareOp op) r) (ha : PE X a ta) (hb : PE X b tb) (hm : behindInMarks op b = false) : PE X (.Compare a [op] [b] pos) (tOp r ta tb) := by
  intro pins s σ H Q I h
  exact wpAny_Compare1 (binT ha hb I h fun v u s2 x y H2 I2 rx ry q => ho pins s2 σ H2 x y v u Q I2 rx ry q) hm
def tTest (t : TE) : TT := fun σ H Q => t σ H fun x H' => ∃ k, x = .bl k ∧ Q k H'
theorem pt_cmpR {op : CmpOp} {r : R2} (ho : OpR X (compareOp op) r) (ha : PE X a ta) (hb : PE X b tb) (hm : behindInMarks op b = false) : PT X (.Compare a [op] [b] pos) (tTest (tOp r ta tb)) := by
  intro pins s σ H Q I h
  refine wpAny_isTrue_Compare1 (thn (ha pins s σ H _ I h) fun v s1 ⟨x, H1, I1, r1, q1⟩ => thn (hb pins s1 σ H1 _ I1 q1) fun u s2 ⟨y, H2, I2, r2, q2⟩ =>
    thn (ho pins s2 σ H2 x y v u _ I2 r1 r2 q2) fun c s3 ⟨z, H3, I3, r3, k, e, q3⟩ => ?_) hm
  subst e
  cases r3
  exact wpAny_truthy_bool ⟨H3, I3, q3⟩
def tChain (r r' : R2) (ta tb tc : TE) : TE := fun σ H Q => ta σ H fun x H1 => tb σ H1 fun y H2 => r x y H2 fun z H3 => ∃ k, z = .bl k ∧
  (if k = true then tc σ H3 fun w' H4 => r' y w' H4 Q else Q (.bl false) H3)
theorem pe_chain {op op' : CmpOp} {r r' : R2} (ho : OpR X (compareOp op) r) (ho' : OpR X (compareOp op') r') (ha : PE X a ta) (hb : PE X b tb) (hc : PE X c tc)
    (hm : lastMarks [op, op'] [b, c] = false := by with_unfolding_all rfl) : PE X (.Compare a [op, op'] [b, c] pos) (tChain r r' ta tb tc) := by
  intro pins s σ H Q I h
  refine Compare_chain (thn (ha pins s σ H _ I h) fun v s1 ⟨x, H1, I1, r1, q1⟩ => chain_link (thn (hb pins s1 σ H1 _ I1 q1) fun u s2 ⟨y, H2, I2, r2, q2⟩ =>
    thn (ho pins s2 σ H2 x y v u _ I2 r1 r2 q2) fun d s3 ⟨z, H3, I3, r3, k, e, q3⟩ => ?_)) hm
  subst e
  cases r3
  refine wpAny_truthy_bool ?_
  cases k with
  | false => exact ite_ff ⟨.bl false, H3, I3, rfl, q3⟩
  | true => exact ite_tt (chain_last (thn (hc pins s3 σ H3 _ I3 q3) fun w' s4 ⟨z', H4, I4, r4, q4⟩ => ho' pins s4 σ H4 y z' u w' Q I4 r2 r4 q4))
theorem pt_chain {op op' : CmpOp} {r r' : R2} (ho : OpR X (compareOp op) r) (ho' : OpR X (compareOp op') r') (ha : PE X a ta) (hb : PE X b tb) (hc : PE X c tc)
    (hm : lastMarks [op, op'] [b, c] = false := by with_unfolding_all rfl) : PT X (.Compare a [op, op'] [b, c] pos) (tTest (tChain r r' ta tb tc)) := by
  intro pins s σ H Q I h
  refine isTrue_chain (thn (ha pins s σ H _ I h) fun v s1 ⟨x, H1, I1, r1, q1⟩ => test_link (thn (hb pins s1 σ H1 _ I1 q1) fun u s2 ⟨y, H2, I2, r2, q2⟩ =>
    thn (ho pins s2 σ H2 x y v u _ I2 r1 r2 q2) fun d s3 ⟨z, H3, I3, r3, k, e, q3⟩ => ?_)) hm
  subst e
  cases r3
  refine wpAny_truthy_bool ?_
  cases k with
  | false =>
    obtain ⟨k', e', q'⟩ := q3
    cases e'
    exact ite_ff ⟨H3, I3, q'⟩
  | true =>
    refine ite_tt (test_last (thn (hc pins s3 σ H3 _ I3 q3) fun w' s4 ⟨z', H4, I4, r4, q4⟩ => thn (ho' pins s4 σ H4 y z' u w' _ I4 r2 r4 q4) fun d' s5 ⟨z2, H5, I5, r5, k2, e2, q5⟩ => ?_))
    subst e2
    cases r5
    exact wpAny_truthy_bool ⟨H5, I5, q5⟩
theorem line63 : (sizeLine : Nat) < 2 ^ 63 := by rw [sizeLine_eq]; decide
theorem vals1 {x : V} {us : List Value} (r : Vals [x] us) : ∃ u, us = [u] ∧ RelV x u := by
  cases r with
  | cons r1 r2 => cases r2; exact ⟨_, rfl, r1⟩
theorem vals2 {x y : V} {us : List Value} (r : Vals [x, y] us) : ∃ u w', us = [u, w'] ∧ RelV x u ∧ RelV y w' := by
  cases r with
  | cons r1 r2 =>
    cases r2 with
    | cons r3 r4 => cases r4; exact ⟨_, _, rfl, r1, r3⟩
theorem call_abs : CallR X (.builtin "abs") (fun xs H Q => ∃ i, xs = [.int i] ∧ Q (.int (if i < 0 then -i else i)) H) := by
  intro pins s σ H xs us Q I r h
  obtain ⟨i, rfl, q⟩ := h
  obtain ⟨u, rfl, t, rfl⟩ := vals1 r
  exact call_abs_int fun u tk => ⟨.int (if i < 0 then -i else i), H, I.tok _, ⟨_, rfl⟩, q⟩
end
end L2
namespace L2
open PySem PySem.Spec PyProof.Rows
structure ObjM (h : Heap) (x dx C : Addr) (mA : Str → Option Value) : Prop where
  obj : h.get? x = some (PySem.W.instObj C dx)
  ns : h.Ns1 dx mA
  ne : dx ≠ x
theorem lookIn_ns {h : Heap} {dx : Addr} {mA : Str → Option Value} (n : h.Ns1 dx mA) : ∃ od, h.get? dx = some od ∧ ∀ name, PySem.W.lookIn name od = some (mA name) := by
  obtain ⟨o, es, ep, ho, hd, hk, _, hm⟩ := n
  refine ⟨o, ho, fun name => ?_⟩
  have e := hm name
  unfold nsFind findBy at e
  rw [← Array.find?_toList] at e
  unfold PySem.W.lookIn
  rw [hd]
  dsimp only
  split
  · rename_i y q
    rw [q] at e
    exact congrArg some e
  · rename_i q
    rw [q] at e
    have a : es.toList.any (·.refKey) = false := by
      rw [List.any_eq_false]
      intro y hy
      obtain ⟨z, t, hkey⟩ := hk y (Array.mem_toList_iff.mp hy)
      simp [DictEntry.refKey, hkey]
    have a' : ¬ es.toList.any (·.refKey) = true := by rw [a]; exact Bool.false_ne_true
    rw [if_neg a']
    exact congrArg some e
theorem ObjM.look {h : Heap} {x dx C : Addr} {mA : Str → Option Value} (I : ObjM h x dx C mA) : ∃ od, PySem.W.InstAt h x (PySem.W.instObj C dx) C (some od) ∧ ∀ name, PySem.W.lookIn name od = some (mA name) :=
  let ⟨od, ho, hl⟩ := lookIn_ns I.ns
  ⟨od, ⟨I.obj, rfl, rfl, ho⟩, hl⟩
section
variable {prog : Program} {w : World} {A : Around} {E : Value → Shared → Prop} {s : Shared} {K : PySem.W.Frag} {x dx C f : Addr} {mA : Str → Option Value} {name : Str} {v : Value}
theorem get_map {expr : Bool} {Q : Value → Shared → Prop} (X : K.In s.heap) (I : ObjM s.heap x dx C mA) (hg : PySem.W.plainGet K C name = true) (hh : PySem.W.hasDictIn K C = true)
    (ha : PySem.W.findIn K (.ref C) name = some none) (hv : mA name = some v) (hv' : PySem.W.handedIn v = true) (h : Q v { s with toks := s.toks + 1 }) :
    wpAny (model prog w) A (getAttr (.ref x) name expr) Q E s := by
  obtain ⟨od, J, hl⟩ := I.look
  exact PySem.W.get_value X J (PySem.W.plainGet_of hg).1 (PySem.W.findObj_own hh ha rfl (by rw [hl, hv])) hv' h
theorem get_meth {pl : Sem Bool} {Q : Value × List Value → Shared → Prop} (X : K.In s.heap) (I : ObjM s.heap x dx C mA) (hg : PySem.W.plainGet K C name = true)
    (hf : PySem.W.findIn K (.ref C) name = some (some (.ref f))) (ht : PySem.W.isFn K (.ref f) = true) (hv : mA name = none) (h : Q (.ref f, [.ref x]) s) :
    wpAny (model prog w) A (getMethod (.ref x) name pl) Q E s := by
  obtain ⟨od, J, hl⟩ := I.look
  exact PySem.W.method_fn X J (PySem.W.plainGet_of hg).1 (PySem.W.plainGet_of hg).2 hf (beq_iff_eq.mp ht) (by show (PySem.W.lookIn name od).map (·.isSome) = some false; rw [hl, hv]; rfl) h
theorem set_map {ns : List Str} {Q : Unit → Shared → Prop} (X : K.In s.heap) (I : ObjM s.heap x dx C mA)
    (hs : PySem.W.findIn K (.ref C) "__setattr__" = some (some (.builtin "object.__setattr__"))) (hp : PySem.W.plainOver K C = true) (ht : PySem.W.takerIn K C name = some none) (hh : PySem.W.hasDictIn K C = true)
    (hw : PySem.Within mA ns) (hsz : ns.length ≤ sizeLine)
    (h : ∀ h', ObjM h' x dx C (fun y => if y = name then some v else mA y) → Heap.SameBut dx s.heap h' → Q () { s with heap := h', toks := s.toks + 2 }) :
    wpAny (model prog w) A (setAttr (.ref x) name v) Q E s := by
  obtain ⟨od, J, hl⟩ := I.look
  refine PySem.W.set_plain X J hs (PySem.W.osa_open (s := { s with toks := s.toks + 1 }) (r := none) X J hp ht fun b => ?_)
  obtain ⟨cd, hc, hd'⟩ := PySem.W.any_some hh
  have hx : s.heap.get? x = some ⟨.ref C, some dx, .plain, #[]⟩ := I.obj
  refine wpAny_bind (wpAny_pure (wpAny_bind (wpAny_bind (wpAny_loadPart hx (wpAny_bind (PySem.W.Looks.here (s := { s with toks := s.toks + 1 }) (PySem.W.looks_clsIn X hc) ?_))))))
  rw [hd']
  refine wpAny_pure (a := some dx) (wpAny_bind (wpAny_pure (wpAny_bind ?_)))
  refine wpAny_nsSet1 (s := { s with toks := s.toks + 1 }) I.ns fun h' hn2 hs2 => ?_
  obtain ⟨oD, esD, epD, hoD, hdD, hcD⟩ := hn2.count (PySem.Within.cons name v hw)
  refine wpAny_bind (wpAny_lookBehind hoD (by rw [hdD]; exact pastItsLine_dict (Nat.le_trans hcD (by rw [List.length_cons]; omega))) ?_)
  exact wpAny_pure (h _ ⟨(hs2.2 _ (Ne.symm I.ne)).trans I.obj, hn2, I.ne⟩ hs2)
theorem make_map {R : Result → Shared → Prop} {vs : List Value} {kw : List (Str × Value)} (X : K.In s.heap) (hm : PySem.W.makesIn K C = true)
    (hi : PySem.W.findIn K (.ref C) "__init__" = some (some (.ref f))) (hf : PySem.W.typeIn K (.ref f) = some (.type "function"))
    (h : codeAny (model prog w) (A.under (.builtin "type.__call__" ⟨.ref C :: vs, kw⟩)) (.call (.ref f) ⟨.ref (s.heap.objs.size + 1) :: vs, kw⟩) (PySem.W.InitBack (s.heap.objs.size + 1) R)
      { s with heap := (s.heap.push PySem.W.emptyDict).push (PySem.W.instObj C s.heap.objs.size) }) :
    codeAny (model prog w) A (.call (.ref C) ⟨vs, kw⟩) R s := by
  obtain ⟨hh, g, d, t, os⟩ := s
  exact PySem.W.make_core (PySem.W.makes_of X hm) (PySem.W.looks_findIn X hi) (fun self => PySem.W.bind_fn X self hf) (.inl rfl) h
end
def putF (f : Str) (v : V) : List (Str × V) → List (Str × V)
  | [] => [(f, v)]
  | (g, x) :: r => if g = f then (g, v) :: r else (g, x) :: putF f v r
theorem lookup_putF (f g : Str) (v : V) : ∀ fs : List (Str × V), (putF f v fs).lookup g = if g = f then some v else fs.lookup g
  | [] => by
    show List.lookup g [(f, v)] = _
    by_cases h : g = f
    · have hb : (g == f) = true := beq_iff_eq.mpr h
      simp only [List.lookup, hb, if_pos h]
    · have hb : (g == f) = false := beq_eq_false_iff_ne.mpr h
      simp only [List.lookup, hb, if_neg h]
  | (k, x) :: r => by
    have ih := lookup_putF f g v r
    rw [show putF f v ((k, x) :: r) = (if k = f then (k, v) :: r else (k, x) :: putF f v r) from rfl]
    by_cases hk : k = f
    · rw [if_pos hk]
      by_cases h : g = k
      · have hb : (g == k) = true := beq_iff_eq.mpr h
        simp only [List.lookup, hb, if_pos (h.trans hk)]
      · have hb : (g == k) = false := beq_eq_false_iff_ne.mpr h
        simp only [List.lookup, hb, if_neg (fun e : g = f => h (e.trans hk.symm))]
    · rw [if_neg hk]
      by_cases h : g = k
      · have hb : (g == k) = true := beq_iff_eq.mpr h
        simp only [List.lookup, hb, if_neg (fun e : g = f => hk (h.symm.trans e))]
      · have hb : (g == k) = false := beq_eq_false_iff_ne.mpr h
        simp only [List.lookup, hb]
        exact ih
theorem keys_putF (f : Str) (v : V) : ∀ fs : List (Str × V), f ∈ (putF f v fs).map (·.1) ∧ ∀ g, g ∈ fs.map (·.1) → g ∈ (putF f v fs).map (·.1)
  | [] => ⟨by simp [putF], fun g h => by simp at h⟩
  | (k, x) :: r => by
    obtain ⟨i1, i2⟩ := keys_putF f v r
    rw [show putF f v ((k, x) :: r) = (if k = f then (k, v) :: r else (k, x) :: putF f v r) from rfl]
    by_cases hk : k = f
    · rw [if_pos hk]
      subst hk
      exact ⟨by simp, fun g h => by simpa using h⟩
    · rw [if_neg hk]
      refine ⟨?_, fun g h => ?_⟩
      · rw [List.map_cons]
        exact List.mem_cons_of_mem _ i1
      · rw [List.map_cons] at h ⊢
        rcases List.mem_cons.mp h with e | e
        · exact List.mem_cons.mpr (.inl e)
        · exact List.mem_cons_of_mem _ (i2 g e)
theorem length_putF (f : Str) (v : V) : ∀ fs : List (Str × V), (putF f v fs).length ≤ fs.length + 1
  | [] => by simp [putF]
  | (k, x) :: r => by
    have ih := length_putF f v r
    rw [show putF f v ((k, x) :: r) = (if k = f then (k, v) :: r else (k, x) :: putF f v r) from rfl]
    by_cases hk : k = f
    · rw [if_pos hk, List.length_cons, List.length_cons]; omega
    · rw [if_neg hk, List.length_cons, List.length_cons]; omega
theorem RelO.some_of {v : V} {o : Option Value} (r : RelO (some v) o) : ∃ u, o = some u ∧ RelV v u := by
  cases o with
  | none => exact (show False from r).elim
  | some u => exact ⟨u, rfl, r⟩
theorem RelO.none_of {o : Option Value} (r : RelO none o) : o = none := by
  cases o with
  | none => rfl
  | some u => exact (show False from r).elim
theorem handed_of {v : V} {u : Value} (r : RelV v u) : PySem.W.handedIn u = true := by
  cases v with
  | non => cases (show u = Value.none from r); rfl
  | bl b => cases (show u = Value.bool b from r); rfl
  | int i => obtain ⟨t, e⟩ := (show ∃ t, u = Value.int i t from r); cases e; rfl
  | str x => obtain ⟨t, e⟩ := (show ∃ t, u = Value.str x t from r); cases e; rfl
  | byt b => obtain ⟨t, e⟩ := (show ∃ t, u = Value.bytes b t from r); cases e; rfl
  | flt b => obtain ⟨t, e⟩ := (show ∃ t, u = Value.float b t from r); cases e; rfl
  | ref a => cases (show u = Value.ref a from r); rfl
  | ty n => cases (show u = Value.type n from r); rfl
section
variable {P : Program} {w : World} {H H' : Hp} {h h' : Heap} {a C dx : Addr} {fs fs' : List (Str × V)}
theorem ins_get (hok : HOk P w H h) (e : H a = some (.ins C dx fs)) : ∃ mA, ObjM h a dx C mA ∧ (∀ f, RelO (fs.lookup f) (mA f)) ∧ PySem.Within mA (fs.map (·.1)) ∧ fs.length ≤ 1000 ∧ H dx = some (.own a) := by
  obtain ⟨d, z, ne, ob, mA, n, r, q⟩ := (show ObjOk P w H h a (.ins C dx fs) from hok a _ e)
  exact ⟨mA, ⟨ob, n, ne⟩, r, q, z, d⟩
end
structure Cls (K : PySem.W.Frag) (C : Addr) : Prop where
  pg : PySem.W.plainGet K C Str.empty = true
  hd : PySem.W.hasDictIn K C = true
  po : PySem.W.plainOver K C = true
  sa : PySem.W.findIn K (.ref C) "__setattr__" = some (some (.builtin "object.__setattr__"))
theorem Cls.get {K : PySem.W.Frag} {C : Addr} (c : Cls K C) (f : Str) : PySem.W.plainGet K C f = true := c.pg
def NoAttr (K : PySem.W.Frag) (C : Addr) (f : Str) : Prop := PySem.W.findIn K (.ref C) f = some none
theorem NoAttr.taker {K : PySem.W.Frag} {C : Addr} {f : Str} (n : NoAttr K C f) : PySem.W.takerIn K C f = some none := by
  unfold PySem.W.takerIn
  rw [show PySem.W.findIn K (.ref C) f = some none from n]
  rfl
structure Meth (K : PySem.W.Frag) (C : Addr) (m : Str) (f : Addr) : Prop where
  at_ : PySem.W.findIn K (.ref C) m = some (some (.ref f))
  fn : PySem.W.isFn K (.ref f) = true
  kp : PySem.W.keepIn K (.ref f) = true
section
variable {X : Cx} {pins : List (Addr × Obj)} {σ : St} {H : Hp} {s : Shared} {a C dx : Addr} {fs : List (Str × V)} {f : Str} {v : V} {A : Around} {E : Value → Shared → Prop}
theorem getattr_ok {b : Bool} {Q : Value → Shared → Prop} (I : Inv X pins σ H s) (e : H a = some (.ins C dx fs)) (c : Cls X.K C) (n : NoAttr X.K C f) (l : fs.lookup f = some v)
    (h : ∀ u s', Inv X pins σ H s' → RelV v u → Q u s') : wpAny (model X.prog X.w) A (getAttr (.ref a) f b) Q E s := by
  obtain ⟨mA, O, r, _, _, _⟩ := ins_get I.hok e
  obtain ⟨u, hu, ru⟩ := RelO.some_of (v := v) (o := mA f) (by rw [← l]; exact r f)
  exact get_map I.kIn O (c.get f) c.hd n hu (handed_of ru) (h u _ (I.tok _) ru)
theorem getmeth_ok {m : Str} {g : Addr} {pl : Sem Bool} {Q : Value × List Value → Shared → Prop} (I : Inv X pins σ H s) (e : H a = some (.ins C dx fs)) (c : Cls X.K C) (k : Meth X.K C m g) (l : fs.lookup m = none)
    (h : Q (.ref g, [.ref a]) s) : wpAny (model X.prog X.w) A (getMethod (.ref a) m pl) Q E s := by
  obtain ⟨mA, O, r, _, _, _⟩ := ins_get I.hok e
  have hn : mA m = none := RelO.none_of (by rw [← l]; exact r m)
  exact get_meth I.kIn O (c.get m) k.at_ k.fn hn h
theorem setattr_ok {y : V} {u : Value} {Q : Unit → Shared → Prop} (I : Inv X pins σ H s) (e : H a = some (.ins C dx fs)) (c : Cls X.K C) (n : NoAttr X.K C f) (hl : fs.length < 1000) (ry : RelV y u)
    (h : ∀ s', Inv X pins σ (upd H a (.ins C dx (putF f y fs))) s' → Q () s') : wpAny (model X.prog X.w) A (setAttr (.ref a) f u) Q E s := by
  obtain ⟨mA, O, r, wi, _, ho⟩ := ins_get I.hok e
  have hz : (fs.map (·.1)).length ≤ sizeLine := by rw [List.length_map, sizeLine_eq]; omega
  refine set_map I.kIn O c.sa c.po n.taker c.hd wi hz fun h' O' sb => h _ ?_
  have hd : ∃ o, h'.get? dx = some o := let ⟨o, _, _, e', _⟩ := O'.ns; ⟨o, e'⟩
  refine I.write (x := a) (e := dx) (by rw [e]; exact True.intro) (.inr ho) (fun b q hb z => (sb.2 b hb).trans z) hd ?_
  refine ⟨by rw [upd_ne O.ne]; exact ho, ?_, O.ne, O'.obj, _, O'.ns, fun g => ?_, fun g hg => ?_⟩
  · have := length_putF f y fs; omega
  · show RelO ((putF f y fs).lookup g) (if g = f then some u else mA g)
    rw [lookup_putF]
    by_cases q : g = f
    · rw [if_pos q, if_pos q]; exact ry
    · rw [if_neg q, if_neg q]; exact r g
  · by_cases q : g = f
    · rw [q]; exact (keys_putF f y fs).1
    · refine (keys_putF f y fs).2 g (wi g fun z => hg ?_)
      show (if g = f then some u else mA g) = none
      rw [if_neg q]; exact z
theorem Inv.made (I : Inv X pins σ H s) : Inv X pins σ (upd (upd H s.heap.objs.size (.own (s.heap.objs.size + 1))) (s.heap.objs.size + 1) (.ins C s.heap.objs.size []))
    { s with heap := (s.heap.push PySem.W.emptyDict).push (PySem.W.instObj C s.heap.objs.size) } := by
  have e1 : (s.heap.push PySem.W.emptyDict).get? s.heap.objs.size = some PySem.W.emptyDict := Heap.get?_push_size s.heap rfl
  have e2 : ((s.heap.push PySem.W.emptyDict).push (PySem.W.instObj C s.heap.objs.size)).get? (s.heap.objs.size + 1) = some (PySem.W.instObj C s.heap.objs.size) := by
    have := Heap.get?_push_size (s.heap.push PySem.W.emptyDict) (o := PySem.W.instObj C s.heap.objs.size) rfl
    rwa [Heap.size_push] at this
  have e3 : (s.heap.push PySem.W.emptyDict).Ns s.heap.objs.size (fun _ => none) := ⟨PySem.W.emptyDict, #[], _, e1, rfl, (fun e he => absurd he (by simp)), fun _ => rfl⟩
  have I1 := I.laid (a := s.heap.objs.size) (o := .own (s.heap.objs.size + 1)) (h' := s.heap.push PySem.W.emptyDict) (t' := s.toks) (fun b u q => Heap.get?_push_of_some _ q) (Nat.le_refl _) ⟨_, e1⟩
  refine I1.laid (a := s.heap.objs.size + 1) (o := .ins C s.heap.objs.size []) (t' := s.toks) (fun b u q => Heap.get?_push_of_some _ q) (Nat.le_of_eq (Heap.size_push _ _)) ?_
  have ne : s.heap.objs.size ≠ s.heap.objs.size + 1 := Nat.ne_of_lt (Nat.lt_succ_self _)
  refine ⟨by rw [upd_ne ne, upd_same], Nat.zero_le _, ne, e2, fun _ => none, (Heap.Ns1.of_empty e3).at fun o q => Heap.get?_push_of_some _ q, fun _ => True.intro, fun y hy => absurd rfl hy⟩
theorem attr_of {prog : Program} {w : World} {env : Env} {e : Expr} {f : Str} {pos : Pos} {s : Shared} {Q : Value → Shared → Prop} (hb : attributeBase e f env (eval e env) = eval e env)
    (h : wpAny (model prog w) A (eval e env) (fun o s₁ => wpAny (model prog w) A (getAttr o f true) Q E s₁) E s) : wpAny (model prog w) A (eval (.Attribute e f pos) env) Q E s :=
  Attribute_any_ h (by rw [arm_eval_Attribute, hb])
end
def tFld (K : PySem.W.Frag) (ta : TE) (f : Str) : TE := fun σ H Q => ta σ H fun x H1 => ∃ a C dx fs v, x = .ref a ∧ H1 a = some (.ins C dx fs) ∧ Cls K C ∧ NoAttr K C f ∧ fs.lookup f = some v ∧ Q v H1
def sFld (K : PySem.W.Frag) (ta tv : TE) (f : Str) : TS := fun D σ H => tv σ H fun y H1 => ta σ H1 fun x H2 => ∃ a C dx fs, x = .ref a ∧ H2 a = some (.ins C dx fs) ∧ Cls K C ∧ NoAttr K C f ∧ fs.length < 1000 ∧
  D.nx σ (upd H2 a (.ins C dx (putF f y fs)))
def InOp (X : Cx) (op : Operator) (rd : V → V → Hp → VK → Prop) : Prop :=
  ∀ (pins : List (Addr × Obj)) (s : Shared) (σ : St) (H : Hp) (x y : V) (u v : Value) (Q : VK), Inv X pins σ H s → RelV x u → RelV y v → rd x y H Q → wpAny (model X.prog X.w) X.A (inplaceOp op u v) (EP X pins σ Q) X.xe s
def sFldAug (K : PySem.W.Frag) (ta tv : TE) (rd : V → V → Hp → VK → Prop) (f : Str) : TS := fun D σ H => ta σ H fun x H1 => ∃ a C dx fs v, x = .ref a ∧ H1 a = some (.ins C dx fs) ∧ Cls K C ∧ NoAttr K C f ∧ fs.lookup f = some v ∧
  tv σ H1 fun y H2 => rd v y H2 fun z H3 => ∃ dx' fs', H3 a = some (.ins C dx' fs') ∧ fs'.length < 1000 ∧ D.nx σ (upd H3 a (.ins C dx' (putF f z fs')))
section
variable {X : Cx} {o e value : Expr} {f : Str} {pos pos' tpos : Pos} {ta tv : TE}
theorem pe_fld (he : PE X e ta) (hb : attributeBase e f X.env (eval e X.env) = eval e X.env) : PE X (.Attribute e f pos) (tFld X.K ta f) := by
  intro pins s σ H Q I h
  refine attr_of hb (thn (he pins s σ H _ I h) fun u s1 ⟨x, H1, I1, rx, a, C, dx, fs, v, ex, ea, c, n, l, q⟩ => ?_)
  subst ex
  obtain rfl : u = Value.ref a := rx
  exact getattr_ok I1 ea c n l fun u' s2 I2 ru => ⟨v, H1, I2, ru, q⟩
theorem ps_fld (ha : PE X o ta) (hv : PE X value tv) (hs : swapsWith value (some (.Attribute o f pos')) pos.line X.env = pure false) : PS X (.Assign [.Attribute o f pos'] value pos) (sFld X.K ta tv f) := by
  intro pins s σ H D I h
  refine plainObj_wpAny_Assign_Attribute (thn (hv pins s σ H _ I h) fun u s1 ⟨y, H1, I1, ry, q⟩ => thn (ha pins s1 σ H1 _ I1 q) fun ov s2 ⟨x, H2, I2, rx, a, C, dx, fs, ex, ea, c, n, l, q2⟩ => ?_) hs
  subst ex
  obtain rfl : ov = Value.ref a := rx
  exact setattr_ok I2 ea c n l ry fun s3 I3 => ⟨σ, _, I3, q2⟩
theorem ps_fldaug {op : Operator} {rd : V → V → Hp → VK → Prop} (ha : PE X o ta) (hv : PE X value tv) (hop : InOp X op rd) : PS X (.AugAssign (.Attribute o f tpos) op value pos) (sFldAug X.K ta tv rd f) := by
  intro pins s σ H D I h
  refine wpAny_AugAssign_AttributeAny (thn (ha pins s σ H _ I h) fun ov s1 ⟨x, H1, I1, rx, a, C, dx, fs, v, ex, ea, c, n, l, q⟩ => ?_)
  subst ex
  obtain rfl : ov = Value.ref a := rx
  refine getattr_ok I1 ea c n l fun u s2 I2 ru => thn (hv pins s2 σ H1 _ I2 q) fun w3 s3 ⟨y, H2, I3, ry, q3⟩ => thn (hop pins s3 σ H2 v y u w3 _ I3 ru ry q3) fun w4 s4 ⟨z, H3, I4, rz, dx', fs', ea', l', q4⟩ => ?_
  exact setattr_ok I4 ea' c n l' rz fun s5 I5 => ⟨σ, _, I5, q4⟩
def rAdd : V → V → Hp → VK → Prop := fun x y H Q => ∃ i j, x = .int i ∧ y = .int j ∧ Q (.int (i + j)) H
theorem in_add : InOp X .Add rAdd := by
  rintro pins s σ H x y u v Q I rx ry ⟨i, j, rfl, rfl, q⟩
  obtain ⟨t, rfl⟩ := (show ∃ t, u = Value.int i t from rx)
  obtain ⟨t', rfl⟩ := (show ∃ t', v = Value.int j t' from ry)
  exact PyProof.Rows.iadd_int ⟨.int (i + j), H, I.tok _, ⟨_, rfl⟩, q⟩
theorem methcall_of {pl : Sem Bool} {m : Str} {apos : Pos} {args : List Expr} {pins : List (Addr × Obj)} {s : Shared} {σ : St} {H : Hp} {Q : Value → Shared → Prop} {te : TE} (he : PE X e te) (I : Inv X pins σ H s)
    (h : te σ H fun x H1 => ∃ a C dx fs g, x = .ref a ∧ H1 a = some (.ins C dx fs) ∧ Cls X.K C ∧ Meth X.K C m g ∧ fs.lookup m = none ∧
      ∀ s1, Inv X pins σ H1 s1 → wpAny (model X.prog X.w) X.A (callWith pos (.ref g) [.ref a] (backTo pos (starEach args X.env)) (backToKw pos (keywordEach [] X.env))) Q X.xe s1)
    (ht : eval (.Call (.Attribute e m apos) args [] pos) X.env = (do
      let ov ← eval e X.env
      standAt apos.atName
      let (f, first) ← holding [ov] (getMethod ov m pl)
      callWith pos f first (backTo pos (starEach args X.env)) (backToKw pos (keywordEach [] X.env)))) :
    wpAny (model X.prog X.w) X.A (eval (.Call (.Attribute e m apos) args [] pos) X.env) Q X.xe s := by
  refine PySem.W.methodCall_KW (pl := pl) (thn (he pins s σ H _ I h) fun u s1 ⟨x, H1, I1, rx, a, C, dx, fs, g, ex, ea, c, k, l, q⟩ => ?_) ht
  subst ex
  obtain rfl : u = Value.ref a := rx
  exact getmeth_ok I1 ea c k l (q s1 I1)
end
section
variable {X : Cx} {pins : List (Addr × Obj)} {σ : St} {H : Hp} {s : Shared} {A : Around} {E : Value → Shared → Prop} {Q : Value → Shared → Prop} {c : Value} {b : Bool}
end
end L2
namespace L2
open PySem PySem.Spec PyProof.Rows
structure Room (k : Nat) (A : Around) : Prop where
  hd : A.handled = none
  dp : A.depth + 3 * k + 5 < recursionLimit
  un : A.units + 16 * k + 200 < cLine
theorem Room.mono {j k : Nat} {A : Around} (r : Room k A) (h : j ≤ k) : Room j A := ⟨r.hd, by have := r.dp; omega, by have := r.un; omega⟩
theorem Room.deeper {k : Nat} {A : Around} (r : Room (k + 1) A) (env : Env) : Room k (A.deeper env) :=
  ⟨r.hd, by have := r.dp; show A.depth + 1 + 3 * k + 5 < _; omega, by have := r.un; show A.units + 3 + 16 * k + 200 < _; omega⟩
theorem make_depth {A : Around} {C : Addr} {us : List Value} {kw : List (Str × Value)} : (A.under (.builtin "type.__call__" ⟨.ref C :: us, kw⟩)).depth = A.depth + 1 := by
  first | rfl | simp [Around.under, Code.weight, Code.isCreation, Code.isGuard, Code.isCaller, Code.frames, Code.isFrame, guardIds]
theorem make_units {A : Around} {C : Addr} {us : List Value} {kw : List (Str × Value)} : (A.under (.builtin "type.__call__" ⟨.ref C :: us, kw⟩)).units = A.units + 1 := by
  first | rfl | simp [Around.under, Code.cUnits, Code.frames, Code.isFrame]
theorem Room.make {k : Nat} {A : Around} (r : Room (k + 1) A) (C : Addr) (us : List Value) (kw : List (Str × Value)) : Room k (A.under (.builtin "type.__call__" ⟨.ref C :: us, kw⟩)) :=
  ⟨r.hd, by have := r.dp; rw [make_depth]; omega, by have := r.un; rw [make_units]; omega⟩
theorem Room.depth {k : Nat} {A : Around} (r : Room k A) : A.depth < recursionLimit := by have := r.dp; omega
theorem Room.units {k : Nat} {A : Around} (r : Room k A) : A.units + 64 < cLine := by have := r.un; omega
def tNil : TA := fun _ H Q => Q [] H
def tCons (ta : TE) (tr : TA) : TA := fun σ H Q => ta σ H fun x H1 => tr σ H1 fun xs H2 => Q (x :: xs) H2
section
variable {X : Cx} {e : Expr} {es : List Expr} {te : TE} {t : TA} {pos : Pos}
theorem pa_nil : PA X [] tNil := fun _ _ _ _ H Q I h => Calls.spliced_nil ⟨[], H, I, .nil, h⟩
theorem pa_cons (ha : PE X e te) (hr : PA X es t) (hs : starEach (e :: es) X.env = (false, eval e X.env) :: starEach es X.env := by rfl) : PA X (e :: es) (tCons te t) := by
  intro pos pins s σ H Q I h
  rw [hs]
  show wpAny _ _ (spliced ((false, eval e X.env) :: backTo pos (starEach es X.env))) _ _ s
  refine Calls.spliced_cons (thn (ha pins s σ H _ I h) fun u s1 ⟨x, H1, I1, r1, q1⟩ => ?_)
  exact thn (hr pos pins s1 σ H1 _ I1 q1) fun us s2 ⟨xs, H2, I2, r2, q2⟩ => ⟨x :: xs, H2, I2, .cons r1 r2, q2⟩
def tTup (t : TA) : TE := fun σ H Q => t σ H fun xs H1 => xs.length ≤ sizeLine ∧ ∀ p, H1 p = none → Q (.ref p) (upd H1 p (.tup xs))
def tLst (t : TA) : TE := fun σ H Q => t σ H fun xs H1 => xs.length ≤ sizeLine ∧ ∀ p, H1 p = none → Q (.ref p) (upd H1 p (.lst xs))
theorem pe_tup {x1} (h : PA X es t) : PE X (.Tuple es x1 pos) (tTup t) := by
  intro pins s σ H Q I hq
  refine wpAny_Tuple_spliced (thn (h pos pins s σ H _ I hq) fun us s1 ⟨xs, H1, I1, r, z, q⟩ => ⟨by rw [← r.length]; exact z, ?_⟩)
  have hf : H1 s1.heap.objs.size = none := I1.hok.fresh (Nat.le_refl _)
  refine ⟨.ref s1.heap.objs.size, upd H1 s1.heap.objs.size (.tup xs), I1.laid (t' := s1.toks) (fun b u e => Heap.get?_push_of_some _ e) (Nat.le_refl _) ?_, rfl, q _ hf⟩
  exact ⟨z, us, r, ⟨_, Heap.get?_push_size _ rfl, rfl, _, rfl⟩⟩
theorem pe_lst (h : PA X es t) : PE X (.List es pos) (tLst t) := by
  intro pins s σ H Q I hq
  refine wpAny_List_spliced (thn (h pos pins s σ H _ I hq) fun us s1 ⟨xs, H1, I1, r, z, q⟩ => ⟨by rw [← r.length]; exact z, ?_⟩)
  have hf : H1 s1.heap.objs.size = none := I1.hok.fresh (Nat.le_refl _)
  refine ⟨.ref s1.heap.objs.size, upd H1 s1.heap.objs.size (.lst xs), I1.laid (t' := s1.toks) (fun b u e => Heap.get?_push_of_some _ e) (Nat.le_refl _) ?_, rfl, q _ hf⟩
  exact ⟨z, us, 0, r, Heap.get?_push_size _ rfl⟩
end
abbrev Sp := List V → Hp → VK → XK → Prop
abbrev CXT := List Env → Hp → Shared → XK → Value → Shared → Prop
structure Env0 (P : Program) (w : World) (K : PySem.W.Frag) (mg : Str → Option Value) (base : Heap) (A : Around) (outer : List Env) (s : Shared) (H : Hp) : Prop where
  frames : A.frames = some outer
  mod : Mod K mg base
  bs : ∀ b o, base.get? b = some o → s.heap.get? b = some o ∧ H b = none
  bsz : base.objs.size ≤ s.heap.objs.size
  funs : s.heap.FunFrames base outer
  frf : ∀ b ∈ frs outer, H b = none
  hok : HOk P w H s.heap
  bare : AllBare s.gens
def CE (outer : List Env) (P : Program) (w : World) (H : Hp) (s : Shared) (Q : VK) (u : Value) (s' : Shared) : Prop :=
  ∃ v H', s'.os = s.os ∧ AllBare s'.gens ∧ Un (frs outer) [] H H' s.heap s'.heap ∧ HOk P w H' s'.heap ∧ RelV v u ∧ Q v H'
def CR (CX : CXT) (outer : List Env) (P : Program) (w : World) (H : Hp) (s : Shared) (Q : VK) (E : XK) (r : Result) (s' : Shared) : Prop :=
  match r with
  | .ok (.ret u) => CE outer P w H s Q u s'
  | .ok _ => False
  | .error e => CX outer H s E e s'
structure FnOk (P : Program) (w : World) (K : PySem.W.Frag) (mg : Str → Option Value) (base : Heap) (CX : CXT) (k : Nat) (f : Addr) (fd : FuncData) (ps : List Str) (sp : Sp) : Prop where
  len : ∀ vs H Q E, sp vs H Q E → vs.length = ps.length
  run : ∀ (A : Around) (outer : List Env) (s : Shared) (H : Hp) (args : Args) (us : List Value) (vs : List V) (Q : VK) (E : XK), Room k A → Env0 P w K mg base A outer s H → BindsTo s fd args (ps.zip us) → Vals vs us → sp vs H Q E →
    codeAny (model P w) A (.call (.ref f) args) (CR CX outer P w H s Q E) s
theorem Env0.make {P : Program} {w : World} {K : PySem.W.Frag} {mg : Str → Option Value} {base : Heap} {A : Around} {outer : List Env} {s : Shared} {H : Hp} (e : Env0 P w K mg base A outer s H) (C : Addr) (us : List Value) (kw : List (Str × Value)) :
    Env0 P w K mg base (A.under (.builtin "type.__call__" ⟨.ref C :: us, kw⟩)) outer s H := ⟨by first | exact e.frames | (simpa [Around.under, Code.envs, Code.isFrame, pushEnvs] using e.frames), e.mod, e.bs, e.bsz, e.funs, e.frf, e.hok, e.bare⟩
section
variable {X : Cx} {pins : List (Addr × Obj)} {σ : St} {H : Hp} {s s' : Shared}
theorem Inv.env0 (I : Inv X pins σ H s) : Env0 X.prog X.w X.K X.mg X.base X.A X.stack s H :=
  ⟨I.ok.frames, I.ok.mod, I.bs, Nat.le_trans I.ok.bsz I.sz, I.stack, I.stkFree, I.hok, I.bare⟩
theorem Inv.after {Q : VK} {u : Value} (I : Inv X pins σ H s) (h : CE X.stack X.prog X.w H s Q u s') : EP X pins σ Q u s' := by
  obtain ⟨v, H', os, bare, un, hok, r, q⟩ := h
  obtain ⟨hh, g, d, t, os'⟩ := s'
  obtain rfl : os' = s.os := os
  exact ⟨v, H', I.call (h' := hh) (g' := g) (d' := d) (t' := t) (ch := []) un hok bare (fun b z => absurd z (by simp)), r, q⟩
end
def tCall (sp : Sp) (dvs : List V) (E : XK) (t : TA) : TE := fun σ H Q => t σ H fun vs H1 => sp (vs ++ dvs) H1 Q E
def tMeth (C : Addr) (m : Str) (sp : Sp) (dvs : List V) (E : XK) (ta : TE) (t : TA) : TE := fun σ H Q => ta σ H fun x H1 => ∃ a dx fs, x = .ref a ∧ H1 a = some (.ins C dx fs) ∧ fs.lookup m = none ∧
  t σ H1 fun vs H2 => sp (x :: (vs ++ dvs)) H2 Q E
def tMake (C : Addr) (sp : Sp) (dvs : List V) (E : XK) (t : TA) : TE := fun σ H Q => t σ H fun vs H1 => ∀ x dx, H1 x = none → H1 dx = none → dx ≠ x →
  sp (.ref x :: (vs ++ dvs)) (upd (upd H1 dx (.own x)) x (.ins C dx [])) (fun v H2 => v = .non ∧ Q (.ref x) H2) E
def Binds (K : PySem.W.Frag) (fd : FuncData) (ps : List Str) (ds : List Value) : Prop :=
  ∀ (s : Shared) (us : List Value), K.In s.heap → (us ++ ds).length = ps.length → BindsTo s fd ⟨us, []⟩ (ps.zip (us ++ ds))
theorem Binds.all {K : PySem.W.Frag} {fd : FuncData} {ps : List Str} (h : ∀ us : List Value, us.length = ps.length → bindArgs fd ⟨us, []⟩ = pure (ps.zip us)) : Binds K fd ps [] := fun s us _ hl => by
  rw [List.append_nil] at hl ⊢
  exact .of_eq (h us hl)
def Passes (CX : CXT) (X : Cx) (E : XK) : Prop := ∀ (pins : List (Addr × Obj)) (σ : St) (H : Hp) (s : Shared) (e : Value) (s' : Shared), Inv X pins σ H s → CX X.stack H s E e s' → X.xe e s'
section
variable {X : Cx} {CX : CXT} {k : Nat} {f C : Addr} {fd : FuncData} {ps : List Str} {sp : Sp} {dvs : List V} {ds : List Value} {E : XK} {x m : Str} {p pos apos : Pos} {e o : Expr} {es : List Expr} {ta : TE} {t : TA}
theorem run_fn {pins : List (Addr × Obj)} {σ : St} {H : Hp} {s : Shared} {Q : VK} {us : List Value} {vs : List V} (F : FnOk X.prog X.w X.K X.mg X.base CX k f fd ps sp) (hr : Room k X.A) (hb : Binds X.K fd ps ds) (hd : Vals dvs ds) (hx : Passes CX X E)
    (I : Inv X pins σ H s) (r : Vals vs us) (h : sp (vs ++ dvs) H Q E) : wpAny (model X.prog X.w) X.A (call (.ref f) us) (EP X pins σ Q) X.xe s := by
  have r2 : Vals (vs ++ dvs) (us ++ ds) := r.append hd
  have hl : (us ++ ds).length = ps.length := by rw [← r2.length]; exact F.len _ _ _ _ h
  refine wpAny_call (codeAny_mono (F.run X.A X.stack s H ⟨us, []⟩ (us ++ ds) (vs ++ dvs) Q E hr I.env0 (hb s us I.kIn hl) r2 h) fun r s' hq => ?_)
  cases r with
  | error e => exact hx pins σ H s e s' I hq
  | ok fl =>
    cases fl with
    | ret u => exact I.after hq
    | next => exact False.elim hq
    | brk => exact False.elim hq
    | cont => exact False.elim hq
theorem pe_call (F : FnOk X.prog X.w X.K X.mg X.base CX k f fd ps sp) (hr : Room k X.A) (hg : Gl X x) (hm : X.mg x = some (.ref f)) (hk : PySem.W.keepIn X.K (.ref f) = true) (hb : Binds X.K fd ps ds) (hd : Vals dvs ds) (hx : Passes CX X E)
    (ha : PA X (e :: es) t) (hdb : (x == ("__debug__" : Str)) = false := by decide) (he : starEach (e :: es) X.env = (false, eval e X.env) :: starEach es X.env := by rfl) (hpl : (backTo pos (starEach es X.env)).any (·.1) = false := by rfl) :
    PE X (.Call (.Name x p) (e :: es) [] pos) (tCall sp dvs E t) := by
  intro pins s σ H Q I h
  refine wpAny_Call_Name_kw (ld_glob I hg hm ?_ hdb)
  refine PySem.W.callWith_K (h₀ := X.base) I.ok.mod.kin hk (thn (ha pos pins s σ H _ I h) fun us s1 ⟨vs, H1, I1, r, q⟩ => ⟨I1.kIn, ?_⟩) he hpl
  exact run_fn F hr hb hd hx I1 r q
theorem pe_meth {pl : Sem Bool} (he : PE X o ta) (c : Cls X.K C) (hm : Meth X.K C m f) (F : FnOk X.prog X.w X.K X.mg X.base CX k f fd ps sp) (hr : Room k X.A) (hb : Binds X.K fd ps ds) (hd : Vals dvs ds) (hx : Passes CX X E) (ha : PA X (e :: es) t)
    (hst : starEach (e :: es) X.env = (false, eval e X.env) :: starEach es X.env := by rfl) (hpl : (backTo pos (starEach es X.env)).any (·.1) = false := by rfl)
    (ht : eval (.Call (.Attribute o m apos) (e :: es) [] pos) X.env = (do
      let ov ← eval o X.env
      standAt apos.atName
      let (f, first) ← holding [ov] (getMethod ov m pl)
      callWith pos f first (backTo pos (starEach (e :: es) X.env)) (backToKw pos (keywordEach [] X.env))) := by rfl) :
    PE X (.Call (.Attribute o m apos) (e :: es) [] pos) (tMeth C m sp dvs E ta t) := by
  intro pins s σ H Q I h
  refine PySem.W.methodCall_KW (pl := pl) (thn (he pins s σ H _ I h) fun u s1 ⟨x, H1, I1, rx, a, dx, fs, ex, ea, l, q⟩ => ?_) ht
  subst ex
  obtain rfl : u = Value.ref a := rx
  refine getmeth_ok I1 ea c hm l ?_
  refine PySem.W.callWith_K (first := [.ref a]) (h₀ := X.base) I.ok.mod.kin hm.kp (thn (ha pos pins s1 σ H1 _ I1 q) fun us s2 ⟨vs, H2, I2, r, q2⟩ => ⟨I2.kIn, ?_⟩) hst hpl
  exact run_fn (us := .ref a :: us) (vs := .ref a :: vs) F hr hb hd hx I2 (.cons rfl r) q2
theorem pe_meth0 {pl : Sem Bool} (he : PE X o ta) (c : Cls X.K C) (hm : Meth X.K C m f) (F : FnOk X.prog X.w X.K X.mg X.base CX k f fd ps sp) (hr : Room k X.A) (hb : Binds X.K fd ps ds) (hd : Vals dvs ds) (hx : Passes CX X E)
    (ht : eval (.Call (.Attribute o m apos) [] [] pos) X.env = (do
      let ov ← eval o X.env
      standAt apos.atName
      let (f, first) ← holding [ov] (getMethod ov m pl)
      callWith pos f first (backTo pos (starEach [] X.env)) (backToKw pos (keywordEach [] X.env))) := by rfl) :
    PE X (.Call (.Attribute o m apos) [] [] pos) (tMeth C m sp dvs E ta tNil) := by
  intro pins s σ H Q I h
  refine PySem.W.methodCall_KW (pl := pl) (thn (he pins s σ H _ I h) fun u s1 ⟨x, H1, I1, rx, a, dx, fs, ex, ea, l, q⟩ => ?_) ht
  subst ex
  obtain rfl : u = Value.ref a := rx
  refine getmeth_ok I1 ea c hm l ?_
  exact PySem.W.callWith_K0 (first := [.ref a]) I1.kIn hm.kp (run_fn (us := [.ref a]) (vs := [.ref a]) F hr hb hd hx I1 (.cons rfl .nil) q)
structure Mk (K : PySem.W.Frag) (C f : Addr) : Prop where
  makes : PySem.W.makesIn K C = true
  init : PySem.W.findIn K (.ref C) "__init__" = some (some (.ref f))
  fn : PySem.W.isFn K (.ref f) = true
  kp : PySem.W.keepIn K (.ref C) = true
theorem run_make {pins : List (Addr × Obj)} {σ : St} {H : Hp} {s : Shared} {Q : VK} {us : List Value} {vs : List V} (M : Mk X.K C f) (F : FnOk X.prog X.w X.K X.mg X.base CX k f fd ps sp) (hr : Room (k + 1) X.A) (hb : Binds X.K fd ps ds) (hd : Vals dvs ds)
    (hx : Passes CX X E) (I : Inv X pins σ H s) (r : Vals vs us)
    (h : ∀ x dx, H x = none → H dx = none → dx ≠ x → sp (.ref x :: (vs ++ dvs)) (upd (upd H dx (.own x)) x (.ins C dx [])) (fun v H2 => v = .non ∧ Q (.ref x) H2) E) :
    wpAny (model X.prog X.w) X.A (call (.ref C) us) (EP X pins σ Q) X.xe s := by
  have hq := h (s.heap.objs.size + 1) s.heap.objs.size (I.hok.fresh (Nat.le_succ _)) (I.hok.fresh (Nat.le_refl _)) (Nat.ne_of_lt (Nat.lt_succ_self _))
  have I2 := Inv.made (C := C) I
  have r2 : Vals (V.ref (s.heap.objs.size + 1) :: (vs ++ dvs)) (Value.ref (s.heap.objs.size + 1) :: (us ++ ds)) := .cons rfl (r.append hd)
  have hl : (Value.ref (s.heap.objs.size + 1) :: us ++ ds).length = ps.length := by
    have e := r2.length
    rw [F.len _ _ _ _ hq] at e
    exact e.symm
  refine wpAny_call (make_map (f := f) I.kIn M.makes M.init (beq_iff_eq.mp M.fn) (codeAny_mono (F.run _ X.stack _ _ ⟨Value.ref (s.heap.objs.size + 1) :: us, []⟩ (Value.ref (s.heap.objs.size + 1) :: (us ++ ds)) _ _ E (hr.make C us [])
    (I2.env0.make C us []) (hb _ (Value.ref (s.heap.objs.size + 1) :: us) I2.kIn hl) r2 hq) fun r s' hq' => ?_))
  cases r with
  | error e => exact hx pins σ _ _ e s' I2 hq'
  | ok fl =>
    cases fl with
    | ret u =>
      obtain ⟨v, H', I3, rv, ev, q3⟩ := I2.after hq'
      subst ev
      exact ⟨rv, ⟨V.ref (s.heap.objs.size + 1), H', I3, rfl, q3⟩⟩
    | next => exact False.elim hq'
    | brk => exact False.elim hq'
    | cont => exact False.elim hq'
theorem pe_make (M : Mk X.K C f) (F : FnOk X.prog X.w X.K X.mg X.base CX k f fd ps sp) (hr : Room (k + 1) X.A) (hg : Gl X x) (hm : X.mg x = some (.ref C)) (hb : Binds X.K fd ps ds) (hd : Vals dvs ds) (hx : Passes CX X E)
    (ha : PA X (e :: es) t) (hdb : (x == ("__debug__" : Str)) = false := by decide) (he : starEach (e :: es) X.env = (false, eval e X.env) :: starEach es X.env := by rfl) (hpl : (backTo pos (starEach es X.env)).any (·.1) = false := by rfl) :
    PE X (.Call (.Name x p) (e :: es) [] pos) (tMake C sp dvs E t) := by
  intro pins s σ H Q I h
  refine wpAny_Call_Name_kw (ld_glob I hg hm ?_ hdb)
  refine PySem.W.callWith_K (h₀ := X.base) I.ok.mod.kin M.kp (thn (ha pos pins s σ H _ I h) fun us s1 ⟨vs, H1, I1, r, q⟩ => ⟨I1.kIn, ?_⟩) he hpl
  exact run_make M F hr hb hd hx I1 r q
theorem pe_make0 (M : Mk X.K C f) (F : FnOk X.prog X.w X.K X.mg X.base CX k f fd ps sp) (hr : Room (k + 1) X.A) (hg : Gl X x) (hm : X.mg x = some (.ref C)) (hb : Binds X.K fd ps ds) (hd : Vals dvs ds) (hx : Passes CX X E)
    (hdb : (x == ("__debug__" : Str)) = false := by decide) : PE X (.Call (.Name x p) [] [] pos) (tMake C sp dvs E tNil) := by
  intro pins s σ H Q I h
  refine wpAny_Call_Name_kw (ld_glob I hg hm ?_ hdb)
  exact PySem.W.callWith_K0 I.kIn M.kp (run_make (us := []) M F hr hb hd hx I .nil h)
end
section
variable {X : Cx} {CX : CXT} {k : Nat} {f C : Addr} {fd : FuncData} {ps ks : List Str} {sp : Sp} {E : XK} {x m : Str} {p pos apos kpos : Pos} {e o : Expr} {es : List Expr} {kws : List Keyword} {te ta : TE} {t tk : TA} {nm : Option Str}
variable {g : List Value → List Value → List Value} {gV : List V → List V → List V}
end
structure FnScope (N P : List Str) (sc : Scope) : Prop where
  kind : sc.kind = .function
  co : sc.isCoroutine = false
  gen : sc.isGenerator = false
  nd : N.Nodup
  pre : N.take P.length = P
  par : ∀ x ∈ P, sc.names.lookup x = some .local ∨ sc.names.lookup x = some .cell
  nofree : ∀ y ∈ sc.names, y.2 ≠ .free
theorem bindL_out {kindOf : Str → Option NameKind} {x : Str} : ∀ {binds : List (Str × Value)} {m : Str → Option Value}, (∀ v, (x, v) ∉ binds) → bindL kindOf binds m x = m x
  | [], _, _ => rfl
  | (n, v) :: r, m, h => by
    unfold bindL
    rw [bindL_out fun w hw => h w (List.mem_cons_of_mem _ hw)]
    split
    · have : x ≠ n := by rintro rfl; exact h v List.mem_cons_self
      simp [this]
    · rfl
theorem bindC_out {kindOf : Str → Option NameKind} {x : Str} : ∀ {binds : List (Str × Value)} {m : Str → Option Value}, (∀ v, (x, v) ∉ binds) → bindC kindOf binds m x = m x
  | [], _, _ => rfl
  | (n, v) :: r, m, h => by
    unfold bindC
    rw [bindC_out fun w hw => h w (List.mem_cons_of_mem _ hw)]
    split
    · rfl
    · have : x ≠ n := by rintro rfl; exact h v List.mem_cons_self
      simp [this]
theorem bindL_get {kindOf : Str → Option NameKind} {x : Str} {v : Value} : ∀ {P : List Str} {vs : List Value} {i : Nat} {m : Str → Option Value}, P.Nodup → P[i]? = some x → vs[i]? = some v → kindOf x = some .local →
    bindL kindOf (P.zip vs) m x = some v
  | [], _, _, _, _, h, _, _ => by simp at h
  | _ :: _, [], _, _, _, _, h, _ => by simp at h
  | p :: P, w :: vs, 0, m, nd, h1, h2, hk => by
    simp at h1 h2; subst h1; subst h2
    show bindL kindOf ((p, w) :: P.zip vs) m p = _
    unfold bindL
    rw [bindL_out fun v hv => (List.nodup_cons.mp nd).1 (List.of_mem_zip hv).1, if_pos hk]
    simp
  | p :: P, w :: vs, i + 1, m, nd, h1, h2, hk => by
    show bindL kindOf ((p, w) :: P.zip vs) m x = _
    unfold bindL
    exact bindL_get (i := i) (List.nodup_cons.mp nd).2 (by simpa using h1) (by simpa using h2) hk
theorem bindC_get {kindOf : Str → Option NameKind} {x : Str} {v : Value} : ∀ {P : List Str} {vs : List Value} {i : Nat} {m : Str → Option Value}, P.Nodup → P[i]? = some x → vs[i]? = some v → kindOf x ≠ some .local →
    bindC kindOf (P.zip vs) m x = some v
  | [], _, _, _, _, h, _, _ => by simp at h
  | _ :: _, [], _, _, _, _, h, _ => by simp at h
  | p :: P, w :: vs, 0, m, nd, h1, h2, hk => by
    simp at h1 h2; subst h1; subst h2
    show bindC kindOf ((p, w) :: P.zip vs) m p = _
    unfold bindC
    rw [bindC_out fun v hv => (List.nodup_cons.mp nd).1 (List.of_mem_zip hv).1, if_neg hk]
    simp
  | p :: P, w :: vs, i + 1, m, nd, h1, h2, hk => by
    show bindC kindOf ((p, w) :: P.zip vs) m x = _
    unfold bindC
    exact bindC_get (i := i) (List.nodup_cons.mp nd).2 (by simpa using h1) (by simpa using h2) hk
def start (N : List Str) (vs : List V) : St := vs.map some ++ List.replicate (N.length - vs.length) none
def cxOf (CX : CXT) (P : Program) (w : World) (K : PySem.W.Frag) (mg : Str → Option Value) (base : Heap) (N : List Str) (qual : Str) (scope : Scope) (f : Addr) (cd : Value) (A : Around) (outer : List Env) (s : Shared) (H : Hp) (E : XK) : Cx where
  prog := P
  w := w
  K := K
  mg := mg
  base := base
  A := A.deeper (envOfC qual scope s.heap.objs.size f cd)
  N := N
  s_0 := s
  H_0 := H
  env := envOfC qual scope s.heap.objs.size f cd
  outer := outer
  stack := envOfC qual scope s.heap.objs.size f cd :: outer
  ex := []
  calm := true
  fn := fun _ => true
  pn := []
  xe := fun e s' => wpAny (model P w) (A.deeper (envOfC qual scope s.heap.objs.size f cd)) (leaving (envOfC qual scope s.heap.objs.size f cd) e) (fun _ s'' => CX outer H s E e s'') (fun e' s'' => CX outer H s E e' s'') s'
theorem cell_has {sc : Scope} {n : Nat} {x : Str} (h : sc.names.lookup x = some .cell) : ∃ c, (cellsFrom n sc.names []).lookup x = some c := by
  have q := PySem.W.cellsFrom_some sc.names n [] (.inl h)
  exact Option.isSome_iff_exists.mp q
theorem inv_start {CX : CXT} {P : Program} {w : World} {K : PySem.W.Frag} {mg : Str → Option Value} {base : Heap} {N ps : List Str} {qual : Str} {scope : Scope} {f : Addr} {cd : Value} {A : Around} {outer : List Env} {s s1 : Shared} {H : Hp} {E : XK} {us : List Value} {vs : List V}
    (S : FnScope N ps scope) (hd : A.handled = none) (e0 : Env0 P w K mg base A outer s H) (hl : vs.length = ps.length) (r : Vals vs us)
    (x : InCallC s s.heap.objs.size (bindL (envOfC qual scope s.heap.objs.size f cd).kindOf (ps.zip us) fun _ => none) (cellsFrom (s.heap.objs.size + 1) scope.names []) (bindC (envOfC qual scope s.heap.objs.size f cd).kindOf (ps.zip us) fun _ => none) s1) :
    Inv (cxOf CX P w K mg base N qual scope f cd A outer s H E) [] (start N vs) H s1 := by
  have hpl : ps.length ≤ N.length := by have := congrArg List.length S.pre; rw [List.length_take] at this; omega
  obtain ⟨h1, tk, rfl, hk⟩ := x.done
  have noA : ∀ b : Addr, b ∉ (cxOf CX P w K mg base N qual scope f cd A outer s H E).ex := fun b z => absurd (show b ∈ ([] : List Addr) from z) (by simp)
  refine ⟨⟨e0.mod, S.kind, rfl, rfl, Nat.le_refl _, fun y z c h1 h2 => ?_, fun y hy => ?_, fun y c _ h => ?_, fun _ => hd, Around.frames_deeper e0.frames, .inr ⟨rfl, rfl⟩, fun b z => absurd z (noA b), e0.bs, e0.bsz, fun b _ _ => noA b, fun b z => absurd z (noA b), e0.funs, e0.frf⟩,
    rfl, e0.bare, Un.kept hk, ⟨_, x.toInCall.ns, fun i y v h1 h2 h3 => ?_⟩, fun y c h => ⟨_, x.cell y c h⟩, e0.hok.fresh (Nat.le_refl _), fun y c h => ?_, fun p hp => absurd (show p ∈ ([] : List (Addr × Obj)) from hp) (by simp), e0.hok.kept hk, ?_⟩
  · exact name_of_addr x.apart (PySem.mem_of_lookup h1) (PySem.mem_of_lookup h2)
  · have hy : scope.names.lookup y = some .cell ∨ scope.names.lookup y = some .free := hy
    rcases hy with hy | hy
    · exact cell_has hy
    · exact absurd rfl (S.nofree _ (PySem.mem_of_lookup hy))
  · exact Nat.le_of_lt (x.above y c (PySem.mem_of_lookup h))
  · have hi : i < vs.length := by
      unfold start at h2
      by_cases hi : i < vs.length
      · exact hi
      · rw [List.getElem?_append_right (by simpa using hi)] at h2
        rw [List.getElem?_replicate] at h2
        split at h2 <;> cases h2
    have ha : vs[i]? = some v := by
      unfold start at h2
      rw [List.getElem?_append_left (by simpa using hi), List.getElem?_map] at h2
      cases e : vs[i]? with
      | none => rw [e] at h2; cases h2
      | some a => rw [e] at h2; cases h2; rfl
    obtain ⟨u, hu, rv⟩ := r.get ha
    have hp : ps[i]? = some y := by
      rw [← S.pre, List.getElem?_take_of_lt (by omega)]; exact h1
    have ndP : ps.Nodup := by rw [← S.pre]; exact S.nd.sublist (List.take_sublist _ _)
    refine ⟨u, rv, ?_⟩
    rcases S.par y (List.mem_of_getElem? hp) with k | k
    · exact .inl ⟨k, bindL_get ndP hp hu k⟩
    · obtain ⟨c, e⟩ := cell_has (n := s.heap.objs.size + 1) k
      refine .inr ⟨.inl k, c, e, ?_⟩
      have q := x.cell y c e
      rw [bindC_get ndP hp hu (by show scope.names.lookup y ≠ _; rw [k]; decide)] at q
      exact q
  · exact e0.hok.fresh (Nat.le_of_lt (x.above y c (PySem.mem_of_lookup h)))
  · unfold start
    show _ = N.length
    rw [List.length_append, List.length_map, List.length_replicate]
    omega
theorem fn_of {CX : CXT} {P : Program} {w : World} {K : PySem.W.Frag} {mg : Str → Option Value} {base : Heap} {k : Nat} {f : Addr} {name qual : Str} {params : Arguments} {body : List Stmt} {scope : Scope} {dV kV doc pm cdv ct oc : Value} {an od : Option Addr}
    {osl : Array (Option Value)} {N ps : List Str} {sp : Sp} (lk : K.lookup f = some ⟨oc, od, .func (PySem.W.fnOf name qual params body scope dV kV doc pm an cdv ct), osl⟩) (hcd : PySem.W.codeIn K cdv qual = true) (S : FnScope N ps scope)
    (len : ∀ vs H Q E, sp vs H Q E → vs.length = ps.length)
    (hbody : ∀ (A : Around) (outer : List Env) (s : Shared) (H : Hp) (vs : List V) (Q : VK) (E : XK), Room k (A.deeper (envOfC qual scope s.heap.objs.size f cdv)) → sp vs H Q E →
      ∃ t, PSs (cxOf CX P w K mg base N qual scope f cdv A outer s H E) body t ∧ t { nx := fun _ H' => Q .non H', rt := Q } (start N vs) H) :
    FnOk P w K mg base CX (k + 1) f (PySem.W.fnOf name qual params body scope dV kV doc pm an cdv ct) ps sp := by
  refine ⟨len, fun A outer s H args us vs Q E hr e0 hb r hsp => ?_⟩
  have hl := len _ _ _ _ hsp
  have KX : K.In s.heap := e0.mod.kin.keeps fun b o e => (e0.bs b o e).1
  have lim : s.heap.NoLimit := e0.mod.nolimit.keeps fun b o e => (e0.bs b o e).1
  have hkind : ∀ y ∈ ps.zip us, scope.names.lookup y.1 = some .local ∨ (scope.names.lookup y.1 = some .cell ∧ ((cellsFrom (s.heap.objs.size + 1) scope.names []).lookup y.1).isSome = true) := fun ⟨n, v⟩ hy => by
    rcases S.par n (List.of_mem_zip hy).1 with q | q
    · exact .inl q
    · exact .inr ⟨q, PySem.W.cellsFrom_some _ _ _ (.inl q)⟩
  refine codeAny_call_function hr.depth (KX _ _ lk) rfl S.co S.gen rfl (PySem.W.codeRec_of KX hcd) (hb _ _ _ _ ?_)
  refine wpAny_newFunctionEnv_cells S.kind hkind fun env he s1 x => ?_
  subst he
  refine ⟨lim.keeps x.toInCall.keep, codeAny_func ?_⟩
  obtain ⟨t, ht, hq⟩ := hbody A outer s H vs Q E (hr.deeper _) hsp
  have I : Inv (cxOf CX P w K mg base N qual scope f cdv A outer s H E) [] (start N vs) H s1 := inv_start S hr.hd e0 hl r x
  refine wpAny_mono (ht [] s1 (start N vs) H _ I hq) (fun fl s' hs => ?_) fun e s' hs => hs
  have fin : ∀ {σ' : St} {H' : Hp} {v : V} {u : Value}, Inv (cxOf CX P w K mg base N qual scope f cdv A outer s H E) [] σ' H' s' → RelV v u → Q v H' → CE outer P w H s Q u s' :=
    fun {σ' H' v u} J rv q => ⟨v, H', J.os, J.bare, J.base, J.hok, rv, q⟩
  cases fl with
  | ret u =>
    obtain ⟨v, σ', H', J, rv, q⟩ := hs
    exact fin J rv q
  | next =>
    obtain ⟨σ', H', J, q⟩ := hs
    exact fin (v := V.non) (u := Value.none) J rfl q
  | brk =>
    obtain ⟨_, _, _, q⟩ := hs
    exact False.elim q
  | cont =>
    obtain ⟨_, _, _, q⟩ := hs
    exact False.elim q
end L2
namespace L2
open PySem PySem.Spec PyProof.Rows
section
variable {X : Cx} {x : Str} {p pos : Pos} {e : Expr} {es : List Expr} {t : TA} {id T : String} {r : List V → Hp → VK → Prop}
def tCB (r : List V → Hp → VK → Prop) (t : TA) : TE := fun σ H Q => t σ H fun vs H1 => r vs H1 Q
theorem pe_callB (hc : CallR X (.builtin id) r) (hg : Gl X x) (hm : X.mg x = none) (hv : bootBuiltins x = some (.builtin id)) (ha : PA X (e :: es) t) (hn : x ≠ "__name__" := by decide) (hdb : (x == ("__debug__" : Str)) = false := by decide)
    (he : starEach (e :: es) X.env = (false, eval e X.env) :: starEach es X.env := by rfl) (hpl : (backTo pos (starEach es X.env)).any (·.1) = false := by rfl) : PE X (.Call (.Name x p) (e :: es) [] pos) (tCB r t) := by
  intro pins s σ H Q I h
  refine wpAny_Call_Name_kw (ld_blt I hg hm hv ?_ hn hdb)
  exact PyProof.Rows.callWith_builtin1 (thn (ha pos pins s σ H _ I h) fun us s1 ⟨vs, H1, I1, r1, q1⟩ => hc pins s1 σ H1 vs us Q I1 r1 q1) he hpl
theorem pe_callTy (hc : CallR X (.type T) r) (hg : Gl X x) (hm : X.mg x = none) (hv : bootBuiltins x = some (.type T)) (ha : PA X (e :: es) t) (hn : x ≠ "__name__" := by decide) (hdb : (x == ("__debug__" : Str)) = false := by decide)
    (he : starEach (e :: es) X.env = (false, eval e X.env) :: starEach es X.env := by rfl) (hpl : (backTo pos (starEach es X.env)).any (·.1) = false := by rfl) : PE X (.Call (.Name x p) (e :: es) [] pos) (tCB r t) := by
  intro pins s σ H Q I h
  refine wpAny_Call_Name_kw (ld_blt I hg hm hv ?_ hn hdb)
  exact PyProof.Rows.callWith_type1 (thn (ha pos pins s σ H _ I h) fun us s1 ⟨vs, H1, I1, r1, q1⟩ => hc pins s1 σ H1 vs us Q I1 r1 q1) he hpl
end
end L2
namespace HT
open PySem PyProof.Rows
def lexLt : List Int → List Int → Bool
  | [], [] => false
  | [], _ :: _ => true
  | _ :: _, [] => false
  | x :: xs, y :: ys => if x = y then lexLt xs ys else decide (x < y)
theorem lexLt_cons (x y : Int) (xs ys : List Int) : lexLt (x :: xs) (y :: ys) = if x = y then lexLt xs ys else decide (x < y) := rfl
theorem lexLt_nil_nil : lexLt [] [] = false := rfl
theorem lexLt_nil_cons (y : Int) (ys : List Int) : lexLt [] (y :: ys) = true := rfl
theorem lexLt_cons_nil (x : Int) (xs : List Int) : lexLt (x :: xs) [] = false := rfl
theorem eqAt_int (A : Around) (s : Shared) (a : Int) (t : Tok) (c : Int) (u : Tok) : ∃ e, SeqAt.EqAt A s (.int a t) (.int c u) e ∧ (e = true ↔ a = c) :=
  ⟨(a == c), SeqAt.EqAt.int_int a t c u, by simp⟩
theorem rcLt_int (A : Around) (s : Shared) (a : Int) (t : Tok) (c : Int) (u : Tok) (prog : Program) (w : World) (E : Value → Shared → Prop) (Q : Value → Shared → Prop) (h : Q (.bool (decide (a < c))) s) :
    wpAny (model prog w) A (richCompare .Lt (.int a t) (.int c u)) Q E s :=
  (PyProof.Rows.lt_int h : wpAny (model prog w) A (compareOp .Lt (.int a t) (.int c u)) Q E s)
section
open PySem.SeqAt
open PySem.AutoSeq1 (wpAny_loadPart')
open PySem.MeetsSeq PySem.MeetsSeq2 PySem.MeetsSeq3
theorem tuple_lt_ints (l b : Addr) (items items2 : Array Value) (n n2 : Nat) (dd dd2 : Option Addr) (sl sl2 : Array (Option Value)) (ns ms : List Int) (hi : IntsAre items.toList ns) (hj : IntsAre items2.toList ms) :
    Meets (Builtin.«tuple.__lt__» ⟨[.ref l, .ref b], []⟩)
      (fun _ R s => s.heap.get? l = some { cls := .type "tuple", dict := dd, data := .seq items n, slots := sl } ∧ s.heap.get? b = some { cls := .type "tuple", dict := dd2, data := .seq items2 n2, slots := sl2 } ∧
        R (.ok (.ret (.bool (lexLt ns ms)))) s) :=
  .of_wp fun prog w A R s h => by
    obtain ⟨hp, g, d, tk, os⟩ := s; obtain ⟨hl, hb, h⟩ := h
    have f2 := AutoSeq1.sub_tuple_tuple
    have z1 : items.size = ns.length := by rw [← hi.length]; simp
    have z2 : items2.size = ms.length := by rw [← hj.length]; simp
    wp_walk using wpAny_loadPart' hl, wpAny_loadPart' hb, wpAny_forIn_list _ (fun rest b s' => b.1 = none ∧ s' = ⟨hp, g, d, tk, os⟩ ∧ ∃ (vs ws : List Value) (ns' ms' : List Int), rest = vs.zip ws ∧
      IntsAre vs ns' ∧ IntsAre ws ms' ∧ ns'.length + items2.size = ms'.length + items.size ∧ R (.ok (.ret (.bool (lexLt ns' ms')))) ⟨hp, g, d, tk, os⟩) _
    case turn =>
      rintro ⟨y, x⟩ rest b s' ⟨hb', rfl, vs, ws, ns', ms', hz, hvi, hwi, hlen, hR⟩
      cases hvi with
      | nil => rw [List.zip_nil_left] at hz; cases hz
      | cons a t hvi' =>
        cases hwi with
        | nil => rw [List.zip_nil_right] at hz; cases hz
        | cons c u hwi' =>
          rw [List.zip_cons_cons] at hz
          injection hz with hyx hrest
          injection hyx with hy hx
          subst hy hx
          rw [lexLt_cons] at hR
          simp only [List.length_cons] at hlen
          obtain ⟨e, he, hiff⟩ := eqAt_int A.in1 ⟨hp, g, d, tk, os⟩ a t c u
          refine wpAny_bind (he prog w _ _ ?_)
          cases e with
          | true =>
            rw [if_pos (hiff.mp rfl)] at hR
            wp_walk
            exact ⟨rfl, rfl, _, _, _, _, hrest, hvi', hwi', by omega, hR⟩
          | false =>
            rw [if_neg (fun q => absurd (hiff.mpr q) Bool.false_ne_true)] at hR
            have hri := rcLt_int A.in1 ⟨hp, g, d, tk, os⟩ a t c u prog w
            wp_walk using hri
            exact ⟨_, rfl, by simpa using hR⟩
    case fin =>
      rintro ⟨b1, b2⟩ s' ⟨hb', rfl, vs, ws, ns', ms', hz, hvi, hwi, hlen, hR⟩
      simp only at hb'
      subst hb'
      have hv : lexLt ns' ms' = decide (items.size < items2.size) := by
        cases hvi with
        | nil =>
          cases hwi with
          | nil =>
            simp only [List.length_nil] at hlen
            rw [lexLt_nil_nil]
            exact (decide_eq_false (by omega)).symm
          | cons c u hw =>
            simp only [List.length_nil, List.length_cons] at hlen
            rw [lexLt_nil_cons]
            exact (decide_eq_true (by omega)).symm
        | cons a t hv =>
          cases hwi with
          | nil =>
            simp only [List.length_nil, List.length_cons] at hlen
            rw [lexLt_cons_nil]
            exact (decide_eq_false (by omega)).symm
          | cons c u hw =>
            rw [List.zip_cons_cons] at hz
            cases hz
      rw [hv] at hR
      wp_walk
      exact ⟨_, rfl, by simpa [Builtin.Tuple.tupleCompareSizes] using hR⟩
    case h =>
      exact ⟨rfl, rfl, items.toList, items2.toList, ns, ms, rfl, hi, hj, by omega, h⟩
end
section
variable {prog : Program} {w : World} {A : Around} {E : Value → Shared → Prop} {s : Shared}
theorem lt_tupInts {l b : Addr} {items items2 : Array Value} {ns ms : List Int} {Q : Value → Shared → Prop} (hl : IsTup s.heap l items) (hb : IsTup s.heap b items2) (hi : IntsAre items.toList ns) (hj : IntsAre items2.toList ms)
    (hu : A.units < cLine) (h : Q (.bool (lexLt ns ms)) s) : wpAny (model prog w) A (compareOp .Lt (.ref l) (.ref b)) Q E s := by
  obtain ⟨⟨cls, dd, data, sl⟩, ho, hc, n, hd⟩ := id hl
  obtain ⟨⟨cls2, dd2, data2, sl2⟩, ho2, hc2, n2, hd2⟩ := id hb
  simp only at hc hd hc2 hd2
  subst hc hd hc2 hd2
  exact richCompare_meets_room (op := .Lt) ⟨_, ho, rfl⟩ ⟨_, ho2, rfl⟩ PySem.F.slot_tuple_lt PySem.F.entry_tuple_lt (PySem.F.args_tuple_lt_2 _ _) (tuple_lt_ints l b items items2 n n2 dd dd2 sl sl2 ns ms hi hj)
    ⟨ho, ho2, show Value.bool (lexLt ns ms) ≠ Value.notImplemented ∧ Q (.bool (lexLt ns ms)) s from ⟨(fun x => nomatch x), h⟩⟩ hu
def sIx (n d : Nat) : Option Int → Nat
  | none => d
  | some v => if v < 0 then (v + (n : Int)).toNat else min v.toNat n
theorem sIx_nat (n d k : Nat) : sIx n d (some (k : Int)) = min k n := by
  show (if (k : Int) < 0 then ((k : Int) + (n : Int)).toNat else min (k : Int).toNat n) = min k n
  rw [if_neg (by omega), Int.toNat_natCast]
end
end HT
namespace L2
open PySem PySem.Spec PyProof.Rows
abbrev TO := St → Hp → (Option Int → Hp → Prop) → Prop
def PO (X : Cx) (e : Option Expr) (t : TO) : Prop :=
  ∀ (pins : List (Addr × Obj)) (s : Shared) (σ : St) (H : Hp) (Q : Option Int → Hp → Prop), Inv X pins σ H s → t σ H Q →
    wpAny (model X.prog X.w) X.A (evalPart e X.env) (fun u s' => ∃ o H', Inv X pins σ H' s' ∧ IsPart u o ∧ Q o H') X.xe s
def tPart (t : TE) : TO := fun σ H Q => t σ H fun x H1 => ∃ i, x = .int i ∧ Q (some i) H1
section
variable {X : Cx} {e : Expr} {te : TE} {lo hi : Option Expr} {tl th : TO} {pos p2 : Pos}
theorem po_some (h : PE X e te) : PO X (some e) (tPart te) := by
  intro pins s σ H Q I hw
  rw [evalPart_some]
  refine thn (h pins s σ H _ I hw) fun u s1 ⟨x, H1, I1, r1, q1⟩ => ?_
  obtain ⟨i, rfl, q⟩ := q1
  obtain ⟨t, rfl⟩ := r1
  exact ⟨some i, H1, I1, .int i t, q⟩
def SlR (X : Cx) (r : V → Option Int → Option Int → Hp → VK → Prop) : Prop :=
  ∀ (pins : List (Addr × Obj)) (s : Shared) (σ : St) (H : Hp) (x : V) (v vl vu : Value) (lo hi : Option Int) (sl : Addr) (Q : VK), Inv X pins σ H s → RelV x v → s.heap.IsSliceOf sl vl vu .none → IsPart vl lo → IsPart vu hi → r x lo hi H Q →
    ∃ T id, typeLookup (.type T) "__getitem__" = pure (some (.builtin id)) ∧ s.TypeIs v T ∧ wpAny (model X.prog X.w) X.A (getItem v (.ref sl)) (EP X pins σ Q) X.xe s
def tSl (r : V → Option Int → Option Int → Hp → VK → Prop) (te : TE) (tl th : TO) : TE := fun σ H Q => te σ H fun x H1 => tl σ H1 fun l H2 => th σ H2 fun u H3 => r x l u H3 Q
theorem pe_slice {r : V → Option Int → Option Int → Hp → VK → Prop} (hr : SlR X r) (he : PE X e te) (hl : PO X lo tl) (hu : PO X hi th) : PE X (.Subscript e (.Slice lo hi none p2) pos) (tSl r te tl th) := by
  intro pins s σ H Q I h
  refine Subscript_ (thn (he pins s σ H _ I h) fun v s1 ⟨x, H1, I1, r1, q1⟩ => ?_)
  refine wpAny_Slice (thn (hl pins s1 σ H1 _ I1 q1) fun vl s2 ⟨l, H2, I2, pl, q2⟩ => thn (hu pins s2 σ H2 _ I2 q2) fun vu s3 ⟨u, H3, I3, pu, q3⟩ => ?_)
  rw [evalPart_none]
  refine wpAny_pure ?_
  have I4 : Inv X pins σ H3 { s3 with heap := s3.heap.push { cls := .type "slice", data := .fields #[vl, vu, .none] } } := I3.kept (t' := s3.toks) fun b ob q => Heap.get?_push_of_some _ q
  obtain ⟨T, id, hT, ht, hg⟩ := hr pins { s3 with heap := s3.heap.push { cls := .type "slice", data := .fields #[vl, vu, .none] } } σ H3 x v vl vu l u s3.heap.objs.size Q I4 r1 (Heap.IsSliceOf.new ..) pl pu q3
  show wpAny (model X.prog X.w) X.A (subscriptTail e (.Slice lo hi none p2) v (.ref s3.heap.objs.size)) (EP X pins σ Q) X.xe { s3 with heap := s3.heap.push { cls := .type "slice", data := .fields #[vl, vu, .none] } }
  exact tail_any (ops := [.ref s3.heap.objs.size, v]) ht hT hg (by with_unfolding_all rfl)
def cutV (xs : List V) (lo hi : Option Int) : List V := (xs.drop (HT.sIx xs.length 0 lo)).take (HT.sIx xs.length xs.length hi - HT.sIx xs.length 0 lo)
theorem cutV_length (xs : List V) (lo hi : Option Int) : (cutV xs lo hi).length ≤ xs.length := by
  unfold cutV
  rw [List.length_take, List.length_drop]
  omega
end
end L2
namespace L2
open PySem PySem.Spec PyProof.Rows
def ixN (n : Nat) (i : Int) : Option Nat := if 0 ≤ i then (if i < n then some i.toNat else none) else if -(n : Int) ≤ i then some (i + n).toNat else none
def atI {α : Type} (xs : List α) (i : Int) : Option α := (ixN xs.length i).bind fun j => xs[j]?
theorem ixN_seq {n : Nat} {i : Int} {j : Nat} (h : ixN n i = some j) : seqIndex? i n = some j ∧ j < n ∧ -(n : Int) ≤ i ∧ i < n := by
  unfold ixN at h
  by_cases h0 : 0 ≤ i
  · rw [if_pos h0] at h
    by_cases h1 : i < n
    · rw [if_pos h1] at h
      have e : i.toNat = j := Option.some.inj h
      exact ⟨by rw [seqIndex_of h0 h1, e], by omega, by omega, h1⟩
    · rw [if_neg h1] at h; cases h
  · rw [if_neg h0] at h
    by_cases h1 : -(n : Int) ≤ i
    · rw [if_pos h1] at h
      have e : (i + n).toNat = j := Option.some.inj h
      exact ⟨by rw [seqIndex_neg (by omega) h1, e], by omega, h1, by omega⟩
    · rw [if_neg h1] at h; cases h
theorem atI_get {α : Type} {xs : List α} {i : Int} {v : α} (h : atI xs i = some v) : ∃ j, seqIndex? i xs.length = some j ∧ xs[j]? = some v ∧ j < xs.length ∧ -(xs.length : Int) ≤ i ∧ i < xs.length := by
  unfold atI at h
  cases e : ixN xs.length i with
  | none => rw [e] at h; cases h
  | some j =>
    rw [e] at h
    obtain ⟨h1, h2, h3, h4⟩ := ixN_seq e
    exact ⟨j, h1, h, h2, h3, h4⟩
theorem atI_nat {α : Type} {xs : List α} {j : Nat} {v : α} (h : xs[j]? = some v) : atI xs (j : Int) = some v := by
  have hj : j < xs.length := (List.getElem?_eq_some_iff.mp h).1
  have e : ixN xs.length (j : Int) = some j := by
    unfold ixN
    rw [if_pos (by omega), if_pos (by omega)]; simp
  unfold atI; rw [e]; exact h
theorem atI_last {α : Type} (xs : List α) (v : α) : atI (xs ++ [v]) (-1) = some v := by
  have hl : (xs ++ [v]).length = xs.length + 1 := by simp
  have e : ixN (xs ++ [v]).length (-1) = some xs.length := by
    unfold ixN
    rw [hl, if_neg (by decide), if_pos (by omega)]
    congr 1
    omega
  unfold atI
  rw [e]
  show (xs ++ [v])[xs.length]? = some v
  simp
def PlainIx (b : Expr) : Prop := ∀ o i, subscripted b false o i = operate [o, i] (getItem o i)
def IxR (X : Cx) (r : R2) : Prop :=
  ∀ (value slice : Expr) (pins : List (Addr × Obj)) (s : Shared) (σ : St) (H : Hp) (x y : V) (v u : Value) (Q : VK), Inv X pins σ H s → RelV x v → RelV y u → r x y H Q →
    subscripted slice false v u = operate [v, u] (getItem v u) → wpAny (model X.prog X.w) X.A (subscriptTail value slice v u) (EP X pins σ Q) X.xe s
def MtR (X : Cx) (id : String) (r : V → List V → Hp → VK → Prop) : Prop :=
  ∀ (pins : List (Addr × Obj)) (s : Shared) (σ : St) (H : Hp) (x : V) (xs : List V) (v : Value) (us : List Value) (Q : VK), Inv X pins σ H s → RelV x v → Vals xs us → r x xs H Q →
    wpAny (model X.prog X.w) X.A (call (.builtin id) (v :: us)) (EP X pins σ Q) X.xe s
section
variable {X : Cx} {a b : Expr} {ta tb : TE} {pos : Pos}
theorem pe_ix {r : R2} (hr : IxR X r) (ha : PE X a ta) (hb : PE X b tb) (hs : PlainIx b) : PE X (.Subscript a b pos) (tOp r ta tb) := by
  intro pins s σ H Q I h
  exact Subscript_ (binT ha hb I h fun v u s2 x y H2 I2 rx ry q => hr a b pins s2 σ H2 x y v u Q I2 rx ry q (hs _ _))
def rIxL (K : PySem.W.Frag) : R2 := fun x y H Q => ∃ p xs i v, x = .ref p ∧ y = .int i ∧ SqL K H p xs ∧ atI xs i = some v ∧ Q v H
def rIxT (K : PySem.W.Frag) : R2 := fun x y H Q => ∃ p xs i v, x = .ref p ∧ y = .int i ∧ SqT K H p xs ∧ atI xs i = some v ∧ Q v H
theorem ix_list : IxR X (rIxL X.K) := by
  intro value slice pins s σ H x y v u Q I rx ry h hs
  obtain ⟨p, xs, i, z, rfl, rfl, hq, he, q⟩ := h
  cases rx
  obtain ⟨t, rfl⟩ := ry
  obtain ⟨its, r, pl, hz⟩ := I.list hq
  obtain ⟨j, h1, h2, h3, h4, h5⟩ := atI_get he
  obtain ⟨w, ew, rw'⟩ := r.get h2
  have hl := r.length
  have hn := line63
  have fin : EP X pins σ Q w s := ⟨z, H, I, rw', q⟩
  by_cases h0 : 0 ≤ i
  · have hj : i.toNat = j := by
      rw [seqIndex_of h0 h5] at h1
      exact Option.some.inj h1
    exact item_listR pl.isList h0 (by omega) (by rw [hj]; simpa using ew) fin hs
  · have hj : (i + (its.toArray.size : Int)).toNat = j := by
      rw [seqIndex_neg (by omega) h4] at h1
      rw [List.size_toArray, ← hl]
      exact Option.some.inj h1
    exact subscriptTail_builtinR (x := w) pl.isList.typeIs slot_list_getitem.lookup
      (wpAny_getItem_list_neg (Q := fun r s' => r = w ∧ EP X pins σ Q r s') pl.isList (by omega) (by rw [List.size_toArray] <;> omega) (by omega) (by rw [hj]; simpa using ew) ⟨rfl, fin⟩) hs
theorem ix_tup : IxR X (rIxT X.K) := by
  intro value slice pins s σ H x y v u Q I rx ry h hs
  obtain ⟨p, xs, i, z, rfl, rfl, hq, he, q⟩ := h
  cases rx
  obtain ⟨t, rfl⟩ := ry
  obtain ⟨its, r, pl, hz⟩ := I.tuple hq
  obtain ⟨j, h1, h2, h3, h4, h5⟩ := atI_get he
  obtain ⟨w, ew, rw'⟩ := r.get h2
  have hl := r.length
  have hn := line63
  have fin : EP X pins σ Q w s := ⟨z, H, I, rw', q⟩
  exact subscriptTail_builtinR (x := w) pl.typeIs slot_tuple_getitem.lookup
    (getItem_tuple (j := j) (Q := fun r s' => r = w ∧ EP X pins σ Q r s') pl (by omega) (by omega) (by rw [List.size_toArray, ← hl]; exact h1) (by simpa using ew) ⟨rfl, fin⟩) hs
theorem slice_bounds (lo hi : Option Int) (n : Nat) : (sliceBounds lo hi none n).1 = ((HT.sIx n 0 lo : Nat) : Int) ∧ (sliceBounds lo hi none n).2.1 = ((HT.sIx n n hi : Nat) : Int) ∧ (sliceBounds lo hi none n).2.2 = 1 := by
  refine ⟨?_, ?_, rfl⟩
  · cases lo with
    | none => simp [sliceBounds, HT.sIx]
    | some i =>
      simp only [sliceBounds, HT.sIx, Option.getD_none, show (1 : Int) > 0 by decide, if_true]
      by_cases h : i < 0
      · simp only [h, if_true] <;> omega
      · simp only [h, if_false] <;> omega
  · cases hi with
    | none => simp [sliceBounds, HT.sIx]
    | some i =>
      simp only [sliceBounds, HT.sIx, Option.getD_none, show (1 : Int) > 0 by decide, if_true]
      by_cases h : i < 0
      · simp only [h, if_true] <;> omega
      · simp only [h, if_false] <;> omega
theorem slicePick_cut (its : List Value) (lo hi : Option Int) : slicePick its.toArray lo hi none = ((its.drop (HT.sIx its.length 0 lo)).take (HT.sIx its.length its.length hi - HT.sIx its.length 0 lo)).toArray := by
  obtain ⟨h1, h2, h3⟩ := slice_bounds lo hi its.toArray.size
  unfold slicePick
  rw [h1, h2, h3]
  simp only [sliceRange_one, pick_run, List.size_toArray] <;> rfl
def rSlL (K : PySem.W.Frag) : V → Option Int → Option Int → Hp → VK → Prop := fun x lo hi H Q => ∃ a xs, x = .ref a ∧ SqL K H a xs ∧ ∀ p, H p = none → Q (.ref p) (upd H p (.lst (cutV xs lo hi)))
theorem sl_list : SlR X (rSlL X.K) := by
  intro pins s σ H x v vl vu lo hi sl Q I rx hs pl pu h
  obtain ⟨a, xs, rfl, hx, q⟩ := h
  cases rx
  obtain ⟨its, r, ht, hz⟩ := I.list hx
  have hlen := r.length
  refine ⟨"list", _, slot_list_getitem.lookup, ht.isList.typeIs, ?_⟩
  refine wpAny_getItem_list_slice ht.isList hs pl pu .none (by simp) ?_ (by rw [List.size_toArray] <;> omega)
  rw [slicePick_cut, ← hlen]
  refine ⟨.ref s.heap.objs.size, _, I.laid (t' := s.toks) (o := .lst (cutV xs lo hi)) (fun b ob q => Heap.get?_push_of_some _ q) (Nat.le_refl _) ?_, rfl, q _ (I.hok.fresh (Nat.le_refl _))⟩
  exact ⟨Nat.le_trans (cutV_length xs lo hi) hz, _, 0, (r.drop (HT.sIx xs.length 0 lo)).take (HT.sIx xs.length xs.length hi - HT.sIx xs.length 0 lo), Heap.get?_push_size _ rfl⟩
def flatV : V → Bool
  | .non => true
  | .bl _ => true
  | .int _ => true
  | .str _ => true
  | _ => false
def eqV : V → V → Bool
  | .non, .non => true
  | .bl a, .bl b => a == b
  | .bl a, .int b => (if a then 1 else 0) == b
  | .int a, .bl b => a == (if b then 1 else 0)
  | .int a, .int b => a == b
  | .str a, .str b => a == b
  | _, _ => false
theorem eqAt_V {A : Around} {s : Shared} {y x : V} {u v : Value} (ry : RelV y u) (rx : RelV x v) (fy : flatV y = true) (fx : flatV x = true) : SeqAt.EqAt A s u v (eqV y x) := by
  cases y with
  | non =>
    cases ry
    cases x with
    | non => cases rx; exact SeqAt.EqAt.same _
    | bl b => cases rx; exact SeqAt.EqAt.none_bool b
    | int b => obtain ⟨t, rfl⟩ := rx; exact SeqAt.EqAt.none_int b t
    | str b => obtain ⟨t, rfl⟩ := rx; exact SeqAt.EqAt.none_str b t
    | _ => exact absurd (show false = true from fx) Bool.false_ne_true
  | bl a =>
    cases ry
    cases x with
    | non => cases rx; exact SeqAt.EqAt.bool_none a
    | bl b => cases rx; exact SeqAt.EqAt.bool_bool a b
    | int b => obtain ⟨t, rfl⟩ := rx; exact SeqAt.EqAt.bool_int a b t
    | str b => obtain ⟨t, rfl⟩ := rx; exact SeqAt.EqAt.bool_str a b t
    | _ => exact absurd (show false = true from fx) Bool.false_ne_true
  | int a =>
    obtain ⟨t', rfl⟩ := ry
    cases x with
    | non => cases rx; exact SeqAt.EqAt.int_none a t'
    | bl b => cases rx; exact SeqAt.EqAt.int_bool a t' b
    | int b => obtain ⟨t, rfl⟩ := rx; exact SeqAt.EqAt.int_int a t' b t
    | str b => obtain ⟨t, rfl⟩ := rx; exact SeqAt.EqAt.int_str a t' b t
    | _ => exact absurd (show false = true from fx) Bool.false_ne_true
  | str a =>
    obtain ⟨t', rfl⟩ := ry
    cases x with
    | non => cases rx; exact SeqAt.EqAt.str_none a t'
    | bl b => cases rx; exact SeqAt.EqAt.str_bool a t' b
    | int b => obtain ⟨t, rfl⟩ := rx; exact SeqAt.EqAt.str_int a t' b t
    | str b => obtain ⟨t, rfl⟩ := rx; exact SeqAt.EqAt.str_str a t' b t
    | _ => exact absurd (show false = true from fx) Bool.false_ne_true
  | _ => exact absurd (show false = true from fy) Bool.false_ne_true
def eqU (x : V) (u : Value) : Bool := match u with
  | .none => eqV .non x
  | .bool b => eqV (.bl b) x
  | .int i _ => eqV (.int i) x
  | .str z _ => eqV (.str z) x
  | _ => false
theorem eqU_of {x y : V} {u : Value} (r : RelV y u) (f : flatV y = true) : eqU x u = eqV y x := by
  cases y with
  | non => cases r; rfl
  | bl b => cases r; rfl
  | int i => obtain ⟨t, rfl⟩ := r; rfl
  | str z => obtain ⟨t, rfl⟩ := r; rfl
  | _ => exact absurd (show false = true from f) Bool.false_ne_true
theorem any_eqU {x : V} : ∀ {xs : List V} {us : List Value}, Vals xs us → xs.all flatV = true → us.any (eqU x) = xs.any fun y => eqV y x
  | _, _, .nil, _ => rfl
  | y :: xs, u :: us, .cons r t, f => by
    rw [List.all_cons, Bool.and_eq_true] at f
    rw [List.any_cons, List.any_cons, eqU_of r f.1, any_eqU t f.2]
theorem mem_eqAt {A : Around} {s : Shared} {x : V} {v : Value} (rx : RelV x v) (fx : flatV x = true) : ∀ {xs : List V} {us : List Value}, Vals xs us → xs.all flatV = true → ∀ u ∈ us, SeqAt.EqAt A s u v (eqU x u)
  | _, _, .nil, _ => fun u hu => by cases hu
  | y :: xs, u :: us, .cons r t, f => fun u' hu => by
    rw [List.all_cons, Bool.and_eq_true] at f
    rcases List.mem_cons.mp hu with rfl | hu
    · rw [eqU_of r f.1]; exact eqAt_V r rx f.1 fx
    · exact mem_eqAt rx fx t f.2 u' hu
def inV (x : V) (xs : List V) : Bool := xs.any fun y => eqV y x
def rIn (K : PySem.W.Frag) (neg : Bool) : R2 := fun x y H Q => ∃ p xs, y = .ref p ∧ (SqL K H p xs ∨ SqT K H p xs) ∧ flatV x = true ∧ xs.all flatV = true ∧ Q (.bl (if neg then !inV x xs else inV x xs)) H
theorem op_in_seq : OpR X (compareOp .In) (rIn X.K false) := by
  intro pins s σ H x y v u Q I rx ry h
  obtain ⟨p, xs, rfl, hq, fx, fs, q⟩ := h
  cases ry
  rcases hq with hq | hq
  · obtain ⟨its, r, pl, hz⟩ := I.list hq
    refine SeqAt.in_listAt (eqU x) pl.isList (fun w hw => mem_eqAt rx fx r fs w (by simpa using hw)) ⟨.bl _, H, I, rfl, ?_⟩
    rw [show its.toArray.any (eqU x) = its.any (eqU x) by simp, any_eqU r fs]
    exact q
  · obtain ⟨its, r, pl, hz⟩ := I.tuple hq
    refine SeqAt.in_tupleAt (eqU x) pl (fun w hw => mem_eqAt rx fx r fs w (by simpa using hw)) ⟨.bl _, H, I, rfl, ?_⟩
    rw [show its.toArray.any (eqU x) = its.any (eqU x) by simp, any_eqU r fs]
    exact q
theorem call_len_seq : CallR X (.builtin "len") (fun xs H Q => ∃ p ys, xs = [.ref p] ∧ (SqL X.K H p ys ∨ SqT X.K H p ys) ∧ Q (.int ys.length) H) := by
  intro pins s σ H xs us Q I r h
  obtain ⟨p, ys, rfl, hq, q⟩ := h
  obtain ⟨u, rfl, rx⟩ := vals1 r
  cases rx
  have hn := line63
  rcases hq with hq | hq
  · obtain ⟨its, r', pl, hz⟩ := I.list hq
    have hlen := r'.length
    exact Calls.call_len_list pl.isList (by simp only [List.size_toArray] <;> omega) ⟨.int ys.length, H, I.tok _, ⟨s.toks + 1, by rw [List.size_toArray, hlen]⟩, q⟩
  · obtain ⟨its, r', pl, hz⟩ := I.tuple hq
    have hlen := r'.length
    exact len_tuple pl (by simp only [List.size_toArray] <;> omega) ⟨.int ys.length, H, I.tok _, ⟨s.toks + 1, by rw [List.size_toArray, hlen]⟩, q⟩
theorem call_list_of : CallR X (.type "list") (fun xs H Q => ∃ p ys, xs = [.ref p] ∧ (SqL X.K H p ys ∨ SqT X.K H p ys) ∧ ∀ l, H l = none → Q (.ref l) (upd H l (.lst ys))) := by
  intro pins s σ H xs us Q I r h
  obtain ⟨p, ys, rfl, hq, q⟩ := h
  obtain ⟨u, rfl, rx⟩ := vals1 r
  cases rx
  have fin : ∀ (its : List Value), Vals ys its → ys.length ≤ sizeLine → ∀ (h' : Heap) (c' : Nat), (∀ b o', s.heap.get? b = some o' → h'.get? b = some o') →
      h'.get? s.heap.objs.size = some { cls := .type "list", dict := none, data := .seq its.toArray c', slots := #[] } → EP X pins σ Q (.ref s.heap.objs.size) { s with heap := h' } := fun its r' hz h' c' kp e =>
    ⟨.ref s.heap.objs.size, _, I.laid (t' := s.toks) kp (Nat.le_refl _) (show ObjOk X.prog X.w _ h' _ (.lst ys) from ⟨hz, its, c', r', e⟩), rfl, q _ (I.hok.fresh (Nat.le_refl _))⟩
  rcases hq with hq | hq
  · obtain ⟨its, r', pl, hz⟩ := I.list hq
    have hlen := r'.length
    obtain ⟨o, ho, hc, n, hd⟩ := pl.isList
    exact call_list_seq p (.inl rfl) ho hc hd (fun h' c' kp e => fin its r' hz h' c' kp e) (by simp only [List.size_toArray] <;> omega)
  · obtain ⟨its, r', pl, hz⟩ := I.tuple hq
    have hlen := r'.length
    obtain ⟨o, ho, hc, n, hd⟩ := pl
    exact call_list_seq p (.inr rfl) ho hc hd (fun h' c' kp e => fin its r' hz h' c' kp e) (by simp only [List.size_toArray] <;> omega)
theorem call_tuple_of : CallR X (.type "tuple") (fun xs H Q => ∃ p ys, xs = [.ref p] ∧ ((SqL X.K H p ys ∧ ∀ l, H l = none → Q (.ref l) (upd H l (.tup ys))) ∨ (SqT X.K H p ys ∧ Q (.ref p) H))) := by
  intro pins s σ H xs us Q I r h
  obtain ⟨p, ys, rfl, h⟩ := h
  obtain ⟨u, rfl, rx⟩ := vals1 r
  cases rx
  rcases h with ⟨hq, q⟩ | ⟨hq, q⟩
  · obtain ⟨its, r', pl, hz⟩ := I.list hq
    have hlen := r'.length
    refine call_tuple_list pl.isList (fun h' kp => ?_) (by simp only [List.size_toArray] <;> omega)
    have I1 : Inv X pins σ H { s with heap := h' } := I.kept (t' := s.toks) kp
    have I2 : Inv X pins σ (upd H h'.objs.size (.tup ys)) { s with heap := h'.push { cls := .type "tuple", data := .seq its.toArray } } :=
      I1.laid (t' := s.toks) (fun b o e => Heap.get?_push_of_some _ e) (Nat.le_refl _) (show ObjOk X.prog X.w _ _ _ (.tup ys) from ⟨hz, its, r', IsTup.new _ _⟩)
    exact ⟨.ref h'.objs.size, _, I2, rfl, q _ (I1.hok.fresh (Nat.le_refl _))⟩
  · obtain ⟨its, r', pl, hz⟩ := I.tuple hq
    exact call_tuple_same pl ⟨.ref p, H, I, rfl, q⟩
def tyV (K : PySem.W.Frag) (T : String) (x : V) (H : Hp) : Prop := match x with
  | .str _ => T = "str"
  | .int _ => T = "int"
  | .ref p => (T = "list" ∧ ∃ xs, SqL K H p xs) ∨ (T = "tuple" ∧ ∃ o, K.lookup p = some o ∧ o.cls = .type "tuple" ∧ o.dict = none) ∨
      (T = "dict" ∧ ((∃ kvs, H p = some (.dK kvs)) ∨ ∃ kvs, H p = some (.dT kvs))) ∨ (T = "set" ∧ ∃ S n, H p = some (.set S n))
  | _ => False
theorem tyV_is {pins : List (Addr × Obj)} {σ : St} {H : Hp} {s : Shared} {T : String} {x : V} {v : Value} (I : Inv X pins σ H s) (r : RelV x v) (ty : tyV X.K T x H) :
    s.TypeIs v T ∧ ∀ a, v = .ref a → ∃ ob, s.heap.get? a = some ob ∧ ob.dict = none := by
  cases x with
  | str z =>
    obtain ⟨t, rfl⟩ := r
    cases (show T = "str" from ty)
    exact ⟨typeIs_str s z t, fun _ e => nomatch e⟩
  | int i =>
    obtain ⟨t, rfl⟩ := r
    cases (show T = "int" from ty)
    exact ⟨typeIs_int s i t, fun _ e => nomatch e⟩
  | ref p =>
    cases r
    rcases ty with ⟨rfl, xs, hq⟩ | ⟨rfl, o, hk, hc, hd⟩ | ⟨rfl, hk⟩ | ⟨rfl, S, n, hk⟩
    · obtain ⟨its, _, pl, _⟩ := I.list hq
      refine ⟨pl.isList.typeIs, fun a e => ?_⟩
      cases e
      obtain ⟨o, n, e, c, hd, _⟩ := pl
      exact ⟨o, e, hd⟩
    · refine ⟨⟨o, I.kIn p o hk, hc⟩, fun a e => ?_⟩
      cases e
      exact ⟨o, I.kIn _ o hk, hd⟩
    · have z : ∃ o, s.heap.get? p = some o ∧ o.ExactDict := by
        rcases hk with ⟨kvs, hk⟩ | ⟨kvs, hk⟩
        · obtain ⟨_, _, _, _, o, _, _, e, ex, _⟩ := I.hok p _ hk
          exact ⟨o, e, ex⟩
        · obtain ⟨_, _, _, _, o, _, _, e, ex, _⟩ := I.hok p _ hk
          exact ⟨o, e, ex⟩
      obtain ⟨o, e, ex⟩ := z
      refine ⟨⟨o, e, ex.1⟩, fun a e2 => ?_⟩
      cases e2
      exact ⟨o, e, ex.2.1⟩
    · obtain ⟨o, _, _, _, e, ex, _⟩ := I.hok p _ hk
      refine ⟨⟨o, e, ex.1⟩, fun a e2 => ?_⟩
      cases e2
      exact ⟨o, e, ex.2.1⟩
  | _ => exact False.elim ty
def tBM0 (K : PySem.W.Frag) (T : String) (r : V → List V → Hp → VK → Prop) (to : TE) : TE := fun σ H Q => to σ H fun x H1 => tyV K T x H1 ∧ r x [] H1 Q
def tBM (K : PySem.W.Frag) (T : String) (r : V → List V → Hp → VK → Prop) (to : TE) (t : TA) : TE := fun σ H Q => to σ H fun x H1 => tyV K T x H1 ∧ t σ H1 fun xs H2 => r x xs H2 Q
variable {o e : Expr} {es : List Expr} {to : TE} {t : TA} {name : Str} {apos cpos : Pos} {T id : String} {r : V → List V → Hp → VK → Prop}
theorem pe_bm0 (pa : PlainAttrs T) (slot : Slot T name id) (hty : typeOf (.builtin id) = pure (.type "method_descriptor")) (hm : MtR X id r) (ho : PE X o to)
    (hbase : attributeBase o name X.env (eval o X.env) = eval o X.env := by rfl) (hline : (apos.endLine == cpos.line) = true := by rfl) : PE X (.Call (.Attribute o name apos) [] [] cpos) (tBM0 X.K T r to) := by
  intro pins s σ H Q I h
  refine wpAny_Call_method0_late hbase hline (thn (ho pins s σ H _ I h) fun v s1 ⟨x, H1, I1, r1, ty, q1⟩ => ?_)
  obtain ⟨h1, h2⟩ := tyV_is I1 r1 ty
  exact ⟨T, id, pa, slot, hty, h1, h2, Calls.callWith_builtin rfl (PySem.evalArgs_none (hm pins s1 σ H1 x [] v [] Q I1 r1 .nil q1))⟩
theorem pe_bm (pa : PlainAttrs T) (slot : Slot T name id) (hty : typeOf (.builtin id) = pure (.type "method_descriptor")) (hm : MtR X id r) (ho : PE X o to) (ha : PA X (e :: es) t)
    (hbase : attributeBase o name X.env (eval o X.env) = eval o X.env := by rfl)
    (hfew : ((backTo cpos (starEach (e :: es) X.env)).all (fun x => !x.1) && (backToKw cpos (keywordEach [] X.env)).all (fun x => x.1.isSome)
      && decide ((e :: es).length + ([] : List Keyword).length + (if ([] : List Keyword).isEmpty then 0 else 1) < 30)) = true := by rfl)
    (hline : (apos.endLine == cpos.line) = true := by rfl) (hs : starEach (e :: es) X.env = (false, eval e X.env) :: starEach es X.env := by rfl) (hplain : (backTo cpos (starEach es X.env)).any (·.1) = false := by rfl) :
    PE X (.Call (.Attribute o name apos) (e :: es) [] cpos) (tBM X.K T r to t) := by
  intro pins s σ H Q I h
  refine wpAny_Call_method_late hbase hfew hline rfl (thn (ho pins s σ H _ I h) fun v s1 ⟨x, H1, I1, r1, ty, q1⟩ => ?_)
  obtain ⟨h1, h2⟩ := tyV_is I1 r1 ty
  refine ⟨T, id, pa, slot, hty, h1, h2, ?_⟩
  have hA := ha cpos pins s1 σ H1 _ I1 q1
  rw [hs] at hA ⊢
  refine Calls.callWith_builtin (by show (false || (backTo cpos (starEach es X.env)).any (·.1)) = false; rw [hplain] <;> rfl) (Calls.evalArgs_plain ?_)
  exact thn hA fun us s2 ⟨vs, H2, I2, r2, q2⟩ => hm pins s2 σ H2 x vs v us Q I2 r1 r2 q2
end
end L2
namespace L2
open PySem PySem.Spec PyProof.Rows
def MtM (X : Cx) (id : String) (r : V → List V → Hp → VK → Prop) : Prop :=
  ∀ (pins : List (Addr × Obj)) (s : Shared) (σ : St) (H : Hp) (x : V) (xs : List V) (v : Value) (us : List Value) (Q : VK), Inv X pins σ H s → RelV x v → Vals xs us → r x xs H Q →
    wpAny (model X.prog X.w) X.A (call (.builtin id) (v :: us)) (EP X pins σ Q) X.xe s
theorem Vals.one : ∀ {x : V} {us : List Value}, Vals [x] us → ∃ u, us = [u] ∧ RelV x u
  | _, _, .cons r .nil => ⟨_, rfl, r⟩
theorem Vals.zero : ∀ {us : List Value}, Vals [] us → us = []
  | _, .nil => rfl
theorem Vals.dropLast {xs : List V} {us : List Value} (h : Vals xs us) : Vals xs.dropLast us.dropLast := by
  induction h with
  | nil => exact .nil
  | cons r t ih =>
    cases t with
    | nil => exact .nil
    | cons q t' => exact .cons r ih
theorem erase_last {α : Type} (l : List α) : l.eraseIdx (l.length - 1) = l.dropLast := by
  induction l with
  | nil => rfl
  | cons a r ih =>
    cases r with
    | nil => rfl
    | cons b r =>
      have e : (a :: b :: r).length - 1 = ((b :: r).length - 1) + 1 := by
        have h1 : (a :: b :: r).length = r.length + 2 := rfl
        have h2 : (b :: r).length = r.length + 1 := rfl
        omega
      rw [e, List.eraseIdx_cons_succ, ih]
      all_goals rfl
section
variable {X : Cx} {pins : List (Addr × Obj)} {σ : St} {H : Hp} {s : Shared} {l b : Addr} {xs ys zs : List V}
theorem Inv.lset {its its' : List Value} {n : Nat} {f : Array Value → Array Value} {t' : Nat} (I : Inv X pins σ H s) (hH : H l = some (.lst xs))
    (e : s.heap.get? l = some { cls := .type "list", data := .seq its.toArray n }) (hf : f its.toArray = its'.toArray) (hv : Vals ys its') (hz : ys.length ≤ sizeLine) :
    Inv X pins σ (upd H l (.lst ys)) { s with heap := s.heap.update l (Obj.mapSeq f), toks := t' } := by
  have q := PySem.IsL.update e f
  rw [hf] at q
  refine I.write (x := l) (e := l) (by rw [hH]; exact trivial) (.inl rfl) (fun b' u hb hu => (Heap.get?_update_other s.heap (Obj.mapSeq f) (Ne.symm hb)).trans hu) ⟨_, q⟩ ?_
  exact ⟨hz, its', _, hv, q⟩
theorem Inv.lnew {its : List Value} {t' : Nat} (I : Inv X pins σ H s) (hv : Vals ys its) (hz : ys.length ≤ sizeLine) :
    Inv X pins σ (upd H s.heap.objs.size (.lst ys)) { s with heap := s.heap.push { cls := .type "list", data := .seq its.toArray }, toks := t' } :=
  I.laid (fun _ _ q => Heap.get?_push_of_some _ q) (Nat.le_refl _) ⟨hz, its, 0, hv, Heap.get?_push_size _ rfl⟩
theorem Inv.fresh (I : Inv X pins σ H s) : H s.heap.objs.size = none := I.hok.fresh (Nat.le_refl _)
theorem Inv.lstM (I : Inv X pins σ H s) (hH : H l = some (.lst xs)) : xs.length ≤ sizeLine ∧ ∃ (its : List Value) (n : Nat), Vals xs its ∧ xs.length = its.length ∧ s.heap.get? l = some { cls := .type "list", data := .seq its.toArray n } := by
  obtain ⟨z, its, n, r, e⟩ := I.hok l _ hH
  exact ⟨z, its, n, r, r.length, e⟩
theorem notLongL {n : Nat} (h : n ≤ sizeLine) : Builtin.List.listTooLong n = false := by
  unfold Builtin.List.listTooLong
  exact decide_eq_false (by omega)
end
section
variable {X : Cx}
def rAppend : V → List V → Hp → VK → Prop := fun x vs H Q => ∃ l xs y, x = .ref l ∧ vs = [y] ∧ H l = some (.lst xs) ∧ xs.length < sizeLine ∧ Q .non (upd H l (.lst (xs ++ [y])))
theorem mt_append : MtM X "list.append" rAppend := by
  intro pins s σ H x vs v us Q I rx rv h
  obtain ⟨l, xs, y, rfl, rfl, hH, hz, q⟩ := h
  cases rx
  obtain ⟨u, rfl, ru⟩ := rv.one
  obtain ⟨z, its, n, r, hl, e⟩ := I.lstM hH
  refine call_meets F.slot_list_append ⟨_, e, rfl⟩ F.entry_list_append (F.args_list_append_2 _ _) (PySem.list_append l its.toArray n u (by rw [List.size_toArray]; omega)) ⟨e, ?_⟩
  refine ⟨.non, _, I.lset (its' := its ++ [u]) hH e (by simp) (r.append (.cons ru .nil)) ?_, rfl, q⟩
  rw [List.length_append, List.length_singleton]
  omega
def rExtend : V → List V → Hp → VK → Prop := fun x vs H Q => ∃ l b xs zs, x = .ref l ∧ vs = [.ref b] ∧ H l = some (.lst xs) ∧ H b = some (.lst zs) ∧ xs.length + zs.length ≤ sizeLine ∧ Q .non (upd H l (.lst (xs ++ zs)))
theorem mt_extend : MtM X "list.extend" rExtend := by
  intro pins s σ H x vs v us Q I rx rv h
  obtain ⟨l, b, xs, zs, rfl, rfl, hH, hB, hz, q⟩ := h
  cases rx
  obtain ⟨u, rfl, ru⟩ := rv.one
  cases ru
  obtain ⟨z, its, n, r, hl, e⟩ := I.lstM hH
  obtain ⟨z2, its2, n2, r2, hl2, e2⟩ := I.lstM hB
  have hsz : its.toArray.size + its2.toArray.size ≤ sizeLine := by rw [List.size_toArray, List.size_toArray]; omega
  have hlong : ¬ (!its.toArray.isEmpty && Builtin.List.listTooLong (its.toArray.size + its2.toArray.size)) = true := by
    rw [notLongL hsz, Bool.and_false]
    exact Bool.false_ne_true
  refine call_meets F.slot_list_extend ⟨_, e, rfl⟩ F.entry_list_extend (F.args_list_extend_2 _ _)
    (AutoSeq1.list_extend_list_list_0 l its.toArray n b its2.toArray n2 hlong (by rw [List.size_toArray]; omega) (by omega)) ⟨e, e2, ?_⟩
  refine ⟨.non, _, I.lset (its' := its ++ its2) hH e (by simp) (r.append r2) ?_, rfl, q⟩
  rw [List.length_append]
  omega
def rPop : V → List V → Hp → VK → Prop := fun x vs H Q => ∃ l xs y, x = .ref l ∧ vs = [] ∧ H l = some (.lst xs) ∧ xs[xs.length - 1]? = some y ∧ Q y (upd H l (.lst xs.dropLast))
theorem mt_pop : MtM X "list.pop" rPop := by
  intro pins s σ H x vs v us Q I rx rv h
  obtain ⟨l, xs, y, rfl, rfl, hH, hy, q⟩ := h
  cases rx
  have hus := rv.zero
  subst hus
  obtain ⟨z, its, n, r, hl, e⟩ := I.lstM hH
  obtain ⟨u, hu, ru⟩ := r.get hy
  have hy' : its.toArray[its.toArray.size - 1]? = some u := by
    show its.toArray[its.length - 1]? = some u
    rw [← Array.getElem?_toList, ← hl]
    exact hu
  refine call_meets F.slot_list_pop ⟨_, e, rfl⟩ F.entry_list_pop (F.args_list_pop_1 _) (MeetsSeq.list_pop_last l its.toArray n u hy' (by rw [List.size_toArray]; omega)) ⟨e, ?_⟩
  refine ⟨y, _, I.lset (its' := its.dropLast) hH e ?_ r.dropLast ?_, ru, q⟩
  · show its.toArray.eraseIdxIfInBounds (its.toArray.size - 1) = its.dropLast.toArray
    rw [List.size_toArray, List.eraseIdxIfInBounds_toArray, erase_last]
  · rw [List.length_dropLast]
    omega
def rCat : R2 := fun x y H Q => ∃ l b xs zs, x = .ref l ∧ y = .ref b ∧ H l = some (.lst xs) ∧ H b = some (.lst zs) ∧ xs.length + zs.length ≤ sizeLine ∧ ∀ p, H p = none → Q (.ref p) (upd H p (.lst (xs ++ zs)))
theorem op_cat : OpR X (binaryOp .Add) rCat := by
  intro pins s σ H x y v u Q I rx ry h
  obtain ⟨l, b, xs, zs, rfl, rfl, hH, hB, hz, q⟩ := h
  cases rx
  cases ry
  obtain ⟨z, its, n, r, hl, e⟩ := I.lstM hH
  obtain ⟨z2, its2, n2, r2, hl2, e2⟩ := I.lstM hB
  refine PySem.P.add_list e e2 ?_ (by rw [List.size_toArray, List.size_toArray]; omega)
  have ea : its.toArray ++ its2.toArray = (its ++ its2).toArray := by simp
  rw [ea]
  exact ⟨.ref _, _, I.lnew (t' := s.toks) (r.append r2) (by rw [List.length_append]; omega), rfl, q _ I.fresh⟩
end
section
variable {prog : Program} {w : World} {A : Around} {E : Value → Shared → Prop} {s : Shared}
set_option maxRecDepth 100000 in
end
section
variable {X : Cx}
end
end L2
namespace L2
open PySem PySem.Spec PyProof.Rows
theorem Vals.ints : ∀ {ns : List Int} {us : List Value}, Vals (ns.map V.int) us → IntsAre us ns
  | [], us, h => by
    rw [List.map_nil] at h
    cases h
    exact IntsAre.nil
  | n :: ns, us, h => by
    rw [List.map_cons] at h
    cases h with
    | cons r t =>
      obtain ⟨k, rfl⟩ := r
      exact IntsAre.cons n k (Vals.ints t)
theorem vals_of_ints : ∀ {us : List Value} {ns : List Int}, IntsAre us ns → Vals (ns.map V.int) us
  | _, _, .nil => by rw [List.map_nil]; exact Paired.nil
  | _, _, .cons n t h => by rw [List.map_cons]; exact Paired.cons (show RelV (V.int n) (Value.int n t) from ⟨t, rfl⟩) (vals_of_ints h)
theorem Vals.ref1 {a : Addr} {us : List Value} (r : Vals [V.ref a] us) : us = [Value.ref a] := by
  cases r with
  | cons r t =>
    cases t
    cases r
    rfl
section
variable {prog : Program} {w : World} {A : Around} {E : Value → Shared → Prop} {s : Shared} {l : Addr} {its : List Value} {ns : List Int} {Q : Value → Shared → Prop}
end
section
variable {X : Cx}
end
section
variable {X : Cx}
end
section
variable {X : Cx}
end
section
variable {X : Cx}
end
section
variable {X : Cx} {pins : List (Addr × Obj)} {σ : St} {H : Hp} {s : Shared}
end
section
variable {X : Cx}
end
end L2
namespace L2
open PySem PySem.Spec PyProof.Rows
abbrev CellAt (h : Heap) (c : Addr) (v : Option Value) : Prop := h.IsCell c v
def relS (scope sc : Scope) : Scope :=
  { scope with names := scope.names.map fun (n, k) => if (k == .free && sc.kind == .function && sc.names.lookup n == some .cell) then (n, .cell) else (n, k) }
def cloFrom (cells : List (Str × Addr)) : List (Str × NameKind) → List (Str × Addr) → List (Str × Addr)
  | [], acc => acc
  | (n, k) :: r, acc => if k == .free then cloFrom cells r ((n, (cells.lookup n).getD 0) :: acc) else cloFrom cells r acc
theorem closure_loop (env : Env) (f : Str × NameKind → List (Str × Addr) → Sem (ForInStep (List (Str × Addr))))
    (hf : ∀ n k c, f (n, k) c = if k == .free then (do let a ← cellOf env n; pure (.yield ((n, a) :: c))) else pure (.yield c)) :
    ∀ (names : List (Str × NameKind)) (acc : List (Str × Addr)), (∀ y ∈ names, y.2 = .free → ∃ c, env.cells.lookup y.1 = some c) → forIn names acc f = pure (cloFrom env.cells names acc)
  | [], acc, _ => by rw [List.forIn_nil]; rfl
  | (n, k) :: r, acc, h => by
    rw [List.forIn_cons, hf]
    have ih := fun acc => closure_loop env f hf r acc fun y hy => h y (List.mem_cons_of_mem _ hy)
    unfold cloFrom
    by_cases hk : (k == NameKind.free) = true
    · rw [if_pos hk, if_pos hk]
      obtain ⟨c, hc⟩ := h (n, k) List.mem_cons_self (by simpa using hk)
      have e : cellOf env n = pure c := by unfold cellOf; rw [hc]
      rw [e]
      have e2 : (env.cells.lookup n).getD 0 = c := by rw [hc]; rfl
      rw [e2]
      exact ih _
    · rw [if_neg hk, if_neg hk]
      exact ih _
theorem closure_ok {scope : Scope} {env : Env} (h : ∀ y ∈ scope.names, y.2 = .free → ∃ c, env.cells.lookup y.1 = some c) : closureFor scope env = pure (cloFrom env.cells scope.names []) := by
  simp only [closureFor]
  rw [closure_loop env _ (fun n k c => rfl) scope.names [] h]
  rfl
theorem mem_lookup {α : Type} : ∀ {l : List (Str × α)} {n : Str} {c : α}, (n, c) ∈ l → ∃ c', l.lookup n = some c'
  | (k, v) :: r, n, c, h => by
    rw [List.lookup_cons]
    cases hb : n == k with
    | true => exact ⟨_, rfl⟩
    | false =>
      rcases List.mem_cons.mp h with e | h
      · cases e; simp at hb
      · exact mem_lookup h
theorem cloFrom_mem {cells : List (Str × Addr)} : ∀ {names : List (Str × NameKind)} {acc : List (Str × Addr)} {n : Str} {c : Addr}, (n, c) ∈ cloFrom cells names acc → (n, c) ∈ acc ∨ ((n, .free) ∈ names ∧ c = (cells.lookup n).getD 0)
  | [], _, _, _, h => .inl h
  | (m, k) :: r, acc, n, c, h => by
    unfold cloFrom at h
    split at h
    · rename_i hk
      have hk : k = .free := by simpa using hk
      rcases cloFrom_mem h with h | ⟨h1, h2⟩
      · rcases List.mem_cons.mp h with e | h
        · cases e; exact .inr ⟨hk ▸ List.mem_cons_self, rfl⟩
        · exact .inl h
      · exact .inr ⟨List.mem_cons_of_mem _ h1, h2⟩
    · rcases cloFrom_mem h with h | ⟨h1, h2⟩
      · exact .inl h
      · exact .inr ⟨List.mem_cons_of_mem _ h1, h2⟩
theorem cloFrom_acc {cells : List (Str × Addr)} : ∀ {names : List (Str × NameKind)} {acc : List (Str × Addr)} {p : Str × Addr}, p ∈ acc → p ∈ cloFrom cells names acc
  | [], _, _, h => h
  | (m, k) :: r, acc, p, h => by
    unfold cloFrom
    split
    · exact cloFrom_acc (List.mem_cons_of_mem _ h)
    · exact cloFrom_acc h
theorem cloFrom_has {cells : List (Str × Addr)} : ∀ {names : List (Str × NameKind)} {acc : List (Str × Addr)} {n : Str}, (n, .free) ∈ names → (n, (cells.lookup n).getD 0) ∈ cloFrom cells names acc
  | (m, k) :: r, acc, n, h => by
    unfold cloFrom
    rcases List.mem_cons.mp h with e | h
    · cases e
      exact cloFrom_acc List.mem_cons_self
    · split
      · exact cloFrom_has h
      · exact cloFrom_has h
theorem cells_mem : ∀ {names : List (Str × NameKind)} {h : Heap} {acc : List (Str × Addr)} {x : Str} {c : Addr}, (x, c) ∈ cellsFrom h.objs.size names acc →
    (x, c) ∈ acc ∨ ((x, .cell) ∈ names ∧ h.objs.size ≤ c ∧ CellAt (pushCells h names) c none)
  | [], _, _, _, _, h => .inl h
  | (n, k) :: r, h, acc, x, c, hm => by
    unfold cellsFrom at hm
    unfold pushCells
    split at hm
    · rename_i hk
      rw [if_pos hk]
      have hk : k = .cell := by simpa using hk
      rw [← Heap.size_push h { cls := .type "cell", data := .cell none }] at hm
      rcases cells_mem hm with hm | ⟨h1, h2, h3⟩
      · rcases List.mem_cons.mp hm with e | hm
        · cases e
          exact .inr ⟨hk ▸ List.mem_cons_self, Nat.le_refl _, _, pushCells_keeps r _ _ _ (Heap.get?_push_size _ rfl), rfl⟩
        · exact .inl hm
      · rw [Heap.size_push] at h2
        exact .inr ⟨List.mem_cons_of_mem _ h1, Nat.le_of_succ_le h2, h3⟩
    · rename_i hk
      rw [if_neg hk]
      rcases cells_mem hm with hm | ⟨h1, h2, h3⟩
      · exact .inl hm
      · exact .inr ⟨List.mem_cons_of_mem _ h1, h2, h3⟩
theorem cells_acc : ∀ {names : List (Str × NameKind)} {n : Nat} {acc : List (Str × Addr)} {p : Str × Addr}, p ∈ acc → p ∈ cellsFrom n names acc
  | [], _, _, _, h => h
  | (m, k) :: r, n, acc, p, h => by
    unfold cellsFrom
    split
    · exact cells_acc (List.mem_cons_of_mem _ h)
    · exact cells_acc h
theorem cells_has : ∀ {names : List (Str × NameKind)} {n : Nat} {acc : List (Str × Addr)} {x : Str}, (x, .cell) ∈ names → ∃ c, (x, c) ∈ cellsFrom n names acc
  | (m, k) :: r, n, acc, x, h => by
    unfold cellsFrom
    rcases List.mem_cons.mp h with e | h
    · cases e
      exact ⟨n, cells_acc List.mem_cons_self⟩
    · split
      · exact cells_has h
      · exact cells_has h
theorem cells_inj : ∀ {names : List (Str × NameKind)} {h : Heap} {acc : List (Str × Addr)} {x y : Str} {c : Addr}, (∀ p ∈ acc, p.2 < h.objs.size) → (∀ x y c, (x, c) ∈ acc → (y, c) ∈ acc → x = y) →
    (x, c) ∈ cellsFrom h.objs.size names acc → (y, c) ∈ cellsFrom h.objs.size names acc → x = y
  | [], _, _, _, _, _, _, hi, h1, h2 => hi _ _ _ h1 h2
  | (n, k) :: r, h, acc, x, y, c, hl, hi, h1, h2 => by
    unfold cellsFrom at h1 h2
    split at h1
    · rename_i hk
      rw [if_pos hk] at h2
      rw [← Heap.size_push h { cls := .type "cell", data := .cell none }] at h1 h2
      refine cells_inj (h := h.push _) (fun p hp => ?_) (fun x y c a b => ?_) h1 h2
      · rw [Heap.size_push]
        rcases List.mem_cons.mp hp with rfl | hp
        · exact Nat.lt_succ_self _
        · exact Nat.lt_succ_of_lt (hl p hp)
      · rcases List.mem_cons.mp a with e | a <;> rcases List.mem_cons.mp b with e' | b
        · cases e; cases e'; rfl
        · cases e; exact absurd (hl _ b) (Nat.lt_irrefl _)
        · cases e'; exact absurd (hl _ a) (Nat.lt_irrefl _)
        · exact hi _ _ _ a b
    · rename_i hk
      rw [if_neg hk] at h2
      exact cells_inj hl hi h1 h2
theorem newEnv_comp {M : Model} {A : Around} {E : Value → Shared → Prop} {s : Shared} {scope : Scope} {globals : Addr} {closure : List (Str × Addr)} {qual : Str} {func : Option Addr} {code : Value} {around : Env} {builtins : Addr} {Q : Env → Shared → Prop}
    (h : Q (newEnv scope s.heap.objs.size globals (cellsFrom (s.heap.objs.size + 1) scope.names closure) qual func code (some around) builtins)
      { s with heap := pushCells (s.heap.push { cls := .type "dict", data := .dict #[] }) scope.names }) :
    wpAny M A (newFunctionEnv scope globals closure [] qual func code (some around) builtins) Q E s := by
  simp only [newFunctionEnv, Option.isSome_some, if_true]
  refine wpAny_bind (wpAny_alloc ?_)
  refine wpAny_bind (wpAny_layCells _ (fun n k c => rfl) scope.names closure _ _ ?_)
  rw [show ({ s with heap := s.heap.push { cls := .type "dict", data := .dict #[] } } : Shared).heap.objs.size = s.heap.objs.size + 1 from Heap.size_push ..]
  rw [List.forIn_nil]
  exact wpAny_bind (wpAny_pure (wpAny_pure h))
theorem lookup_relS {sc : Scope} : ∀ {names : List (Str × NameKind)} {x : Str} {k : NameKind},
    (names.map fun (n, k) => if (k == NameKind.free && sc.kind == .function && sc.names.lookup n == some .cell) then (n, NameKind.cell) else (n, k)).lookup x = some k →
    ∃ k', names.lookup x = some k' ∧ (k = k' ∨ (k' = .free ∧ k = .cell))
  | [], _, _, h => by simp at h
  | (n, k₀) :: r, x, k, h => by
    have ih := @lookup_relS sc r x k
    have h' : List.lookup x ((if (k₀ == NameKind.free && sc.kind == .function && sc.names.lookup n == some .cell) = true then (n, NameKind.cell) else (n, k₀)) :: (r.map _)) = some k := h
    cases hx : x == n with
    | true =>
      simp only [List.lookup_cons, hx]
      by_cases hc : (k₀ == NameKind.free && sc.kind == .function && sc.names.lookup n == some .cell) = true
      · rw [if_pos hc] at h'
        simp only [List.lookup_cons, hx] at h'
        cases h'
        simp only [Bool.and_eq_true, beq_iff_eq] at hc
        exact ⟨k₀, rfl, .inr ⟨hc.1.1, rfl⟩⟩
      · rw [if_neg hc] at h'
        simp only [List.lookup_cons, hx] at h'
        cases h'
        exact ⟨_, rfl, .inl rfl⟩
    | false =>
      simp only [List.lookup_cons, hx]
      by_cases hc : (k₀ == NameKind.free && sc.kind == .function && sc.names.lookup n == some .cell) = true
      · rw [if_pos hc] at h'
        simp only [List.lookup_cons, hx] at h'
        exact ih h'
      · rw [if_neg hc] at h'
        simp only [List.lookup_cons, hx] at h'
        exact ih h'
structure BlkOk (N : List Str) (sc scope : Scope) (own : List (Str × Nat)) : Prop where
  kind : scope.kind = .function
  uniq : ∀ y ∈ scope.names, scope.names.lookup y.1 = some y.2
  ix : ∀ p ∈ own, N[p.2]? = some p.1
  free : ∀ y ∈ scope.names, y.2 = .free → sc.names.lookup y.1 = some .cell ∨ sc.names.lookup y.1 = some .free
  own : ∀ y ∈ scope.names, y.2 = .local ∨ y.2 = .cell → y.1 ∈ own.map (·.1) ∨ y.1 ∉ N
def wipe (σ : St) : List Nat → St
  | [] => σ
  | v :: vs => (wipe σ vs).set v none
theorem wipe_length (σ : St) : ∀ vs : List Nat, (wipe σ vs).length = σ.length
  | [] => rfl
  | v :: vs => by unfold wipe; rw [List.length_set, wipe_length σ vs]
theorem wipe_some {σ : St} {i : Nat} {x : V} : ∀ {vs : List Nat}, (wipe σ vs)[i]? = some (some x) → σ[i]? = some (some x) ∧ i ∉ vs
  | [], h => ⟨h, by simp⟩
  | v :: vs, h => by
    unfold wipe at h
    by_cases hi : v = i
    · subst hi
      by_cases hv : v < (wipe σ vs).length
      · rw [List.getElem?_set_self hv] at h; cases h
      · rw [List.getElem?_eq_none (by simpa using hv)] at h; cases h
    · rw [List.getElem?_set_ne hi] at h
      obtain ⟨h1, h2⟩ := wipe_some h
      exact ⟨h1, by simp only [List.mem_cons, not_or]; exact ⟨fun e => hi e.symm, h2⟩⟩
abbrev Cx.blk (X : Cx) (s : Shared) (H : Hp) (scope : Scope) (cenv : Env) (fp : List Addr) : Cx := { X with s_0 := s, H_0 := H, env := cenv, outer := X.stack, ex := fp, fn := fun x => scope.names.lookup x == some .cell, pn := [], xe := fun _ _ => False }
section
variable {X : Cx} {pins : List (Addr × Obj)} {σ : St} {H : Hp} {s : Shared}
theorem block_start {scope : Scope} {own : List (Str × Nat)} {fp : List Addr} (I : Inv X pins σ H s) (ok : BlkOk X.N X.env.scope scope own) (hN : X.N.Nodup) (hfp : ∀ b ∈ fp, FpOk X pins H b ∧ b < s.heap.objs.size) :
    Inv (X.blk s H scope (compEnvC scope (cellsFrom (s.heap.objs.size + 1) scope.names (cloFrom X.env.cells scope.names [])) s.heap.objs.size X.env) fp) [] (wipe σ (own.map (·.2))) H { s with heap := pushCells (s.heap.push { cls := .type "dict", data := .dict #[] }) scope.names } := by
  have hfree : ∀ y ∈ scope.names, y.2 = .free → ∃ c, X.env.cells.lookup y.1 = some c := fun y hy e => by
    rcases ok.free y hy e with k | k
    · exact I.ok.has _ (.inl k)
    · exact I.ok.has _ (.inr k)
  generalize hcenv : compEnvC scope (cellsFrom (s.heap.objs.size + 1) scope.names (cloFrom X.env.cells scope.names [])) s.heap.objs.size X.env = cenv
  have kp : ∀ b o, s.heap.get? b = some o → (pushCells (s.heap.push { cls := .type "dict", data := .dict #[] }) scope.names).get? b = some o := fun b o e => pushCells_keeps _ _ _ _ (Heap.get?_push_of_some _ e)
  have hL : cenv.locals = s.heap.objs.size := by rw [← hcenv]; rfl
  have hcl : cenv.cells = cellsFrom (s.heap.objs.size + 1) scope.names (cloFrom X.env.cells scope.names []) := by rw [← hcenv]; rfl
  have hsc : cenv.scope = relS scope X.env.scope := by rw [← hcenv]; rfl
  rw [← Heap.size_push s.heap { cls := .type "dict", data := .dict #[] }] at hcl
  have cm : ∀ {y c}, (y, c) ∈ cloFrom X.env.cells scope.names [] → X.env.cells.lookup y = some c ∧ c < s.heap.objs.size := fun {y c} hm => by
    rcases cloFrom_mem hm with hm | ⟨h1, rfl⟩
    · cases hm
    · obtain ⟨c, hc⟩ := hfree _ h1 rfl
      rw [hc]
      obtain ⟨w, z⟩ := I.cell _ _ hc
      exact ⟨rfl, z.lt⟩
  have mem : ∀ {y c}, cenv.cells.lookup y = some c → (X.env.cells.lookup y = some c ∧ c < s.heap.objs.size) ∨ (s.heap.objs.size + 1 ≤ c ∧ CellAt (pushCells (s.heap.push { cls := .type "dict", data := .dict #[] }) scope.names) c none) := fun {y c} e => by
    rw [hcl] at e
    rcases cells_mem (PySem.mem_of_lookup e) with hm | ⟨_, h2, h3⟩
    · exact .inl (cm hm)
    · rw [Heap.size_push] at h2; exact .inr ⟨h2, h3⟩
  have look : ∀ {y}, scope.names.lookup y = some .free → ∃ c, cenv.cells.lookup y = some c ∧ X.env.cells.lookup y = some c := fun {y} hl => by
    have hy : (y, NameKind.free) ∈ scope.names := PySem.mem_of_lookup hl
    obtain ⟨c', e'⟩ := mem_lookup (cells_acc (names := scope.names) (n := (s.heap.push { cls := .type "dict", data := .dict #[] }).objs.size) (cloFrom_has (cells := X.env.cells) (acc := []) hy))
    rw [← hcl] at e'
    refine ⟨c', e', ?_⟩
    rw [hcl] at e'
    rcases cells_mem (PySem.mem_of_lookup e') with hm | ⟨h1, _, _⟩
    · exact (cm hm).1
    · have := ok.uniq _ h1
      rw [hl] at this; cases this
  have okB : (X.blk s H scope cenv fp).Ok := by
    refine ⟨I.ok.mod, by show cenv.scope.kind = _; rw [hsc]; exact ok.kind, by show cenv.globals = _; rw [← hcenv]; exact I.ok.glob, by show cenv.builtins = _; rw [← hcenv]; exact I.ok.blt, by show s.heap.objs.size ≤ cenv.locals; rw [hL]; exact Nat.le_refl _,
      fun y z c e1 e2 => ?_, fun y hy => ?_, fun y c z e => ?_, I.ok.hd, I.ok.frames, .inl rfl, fun b hb => ⟨?_, fun y c e z => ?_⟩, I.bs, Nat.le_trans I.ok.bsz I.sz, fun b o e hb => ?_, fun b hb z => ?_, I.stack, I.stkFree⟩
    · have e1 : cenv.cells.lookup y = some c := e1
      have e2 : cenv.cells.lookup z = some c := e2
      rw [hcl] at e1 e2
      refine cells_inj (fun p hp => ?_) (fun y z c a b => I.ok.inj y z c (cm a).1 (cm b).1) (PySem.mem_of_lookup e1) (PySem.mem_of_lookup e2)
      rw [Heap.size_push]
      exact Nat.lt_succ_of_lt (cm (y := p.1) (c := p.2) hp).2
    · show ∃ c, cenv.cells.lookup y = some c
      have key : ∀ k, cenv.kindOf y = some k → (k = .cell ∨ k = .free) → ∃ c, cenv.cells.lookup y = some c := fun k hk hk' => by
        unfold Env.kindOf at hk
        rw [hsc] at hk
        obtain ⟨k', e, r⟩ := lookup_relS hk
        have : k' = .cell ∨ k' = .free := by
          rcases r with rfl | ⟨rfl, _⟩
          · exact hk'
          · exact .inr rfl
        rcases this with rfl | rfl
        · obtain ⟨c, hm⟩ := cells_has (n := (s.heap.push { cls := .type "dict", data := .dict #[] }).objs.size) (acc := cloFrom X.env.cells scope.names []) (PySem.mem_of_lookup e)
          obtain ⟨c', e'⟩ := mem_lookup hm
          exact ⟨c', by rw [hcl]; exact e'⟩
        · obtain ⟨c, h1, _⟩ := look e
          exact ⟨c, h1⟩
      rcases hy with hy | hy
      · exact key _ hy (.inl rfl)
      · exact key _ hy (.inr rfl)
    · have z : (scope.names.lookup y == some NameKind.cell) = true := z
      have z : scope.names.lookup y = some .cell := by simpa using z
      have e : cenv.cells.lookup y = some c := e
      rw [hcl] at e
      rcases cells_mem (PySem.mem_of_lookup e) with hm | ⟨_, h2, _⟩
      · rcases cloFrom_mem hm with hm | ⟨h1, _⟩
        · cases hm
        · have q := ok.uniq _ h1
          rw [z] at q; cases q
      · rw [Heap.size_push] at h2
        exact Nat.le_of_succ_le h2
    · show b ≠ cenv.locals
      rw [hL]; exact Nat.ne_of_lt (hfp b hb).2
    · have e : cenv.cells.lookup y = some c := e
      rcases mem e with ⟨h1, _⟩ | ⟨h1, _⟩
      · exact (hfp b hb).1.2.2.2.2.1 y c h1 z
      · have h2 : s.heap.objs.size + 1 ≤ b := by rw [← z]; exact h1
        exact absurd (Nat.lt_of_lt_of_le (hfp b hb).2 (Nat.le_of_succ_le h2)) (Nat.lt_irrefl _)
    · rcases (hfp b hb).1.2.2.2.1 with z | z
      · exact I.ok.noex b o e z
      · exact absurd (Nat.lt_of_lt_of_le (Heap.lt_size e) (Nat.le_trans I.ok.bsz z)) (Nat.lt_irrefl _)
    · rcases List.mem_cons.mp (I.stkSub b z) with z | z
      · exact (hfp b hb).1.2.1 z
      · exact (hfp b hb).1.2.2.1 z
  refine ⟨okB, rfl, I.bare, Un.kept kp, ⟨fun _ => none, ?_, fun i y av e1 e2 e3 => ?_⟩, fun y c e => ?_, ?_, fun y c e => ?_, fun p hp => ?_, I.hok.kept kp, by rw [wipe_length]; exact I.len⟩
  · show Heap.Ns _ cenv.locals _
    rw [hL]
    exact Heap.Ns.keeps (Heap.Ns.new ..) fun b o e => pushCells_keeps _ _ _ _ e
  · obtain ⟨e2, hne⟩ := wipe_some e2
    have hfr : scope.names.lookup y = some .free ∧ (cenv.kindOf y = some .cell ∨ cenv.kindOf y = some .free) := by
      have key : ∀ k, cenv.scope.names.lookup y = some k → k = .local ∨ k = .cell ∨ k = .free → scope.names.lookup y = some .free ∧ (cenv.kindOf y = some .cell ∨ cenv.kindOf y = some .free) := fun k hk hk' => by
        have hk0 := hk
        rw [hsc] at hk
        obtain ⟨k', e, r⟩ := lookup_relS hk
        have no : ¬ (k' = .local ∨ k' = .cell) := fun hh => by
          rcases ok.own _ (PySem.mem_of_lookup e) hh with e' | e'
          · obtain ⟨p, hp, hpy⟩ := List.mem_map.mp e'
            have e3 := ok.ix p hp
            have : p.1 = y := hpy
            rw [this] at e3
            exact hne (List.mem_map.mpr ⟨p, hp, nodup_ix hN e3 e1⟩)
          · exact e' (List.mem_of_getElem? e1)
        rcases r with rfl | ⟨rfl, rfl⟩
        · rcases hk' with rfl | rfl | rfl
          · exact absurd (.inl rfl) no
          · exact absurd (.inr rfl) no
          · exact ⟨e, .inr hk0⟩
        · exact ⟨e, .inl hk0⟩
      have e3 : Vis cenv.scope y := e3
      rcases e3 with e3 | e3 | e3
      · exact key _ e3 (.inl rfl)
      · exact key _ e3 (.inr (.inl rfl))
      · exact key _ e3 (.inr (.inr rfl))
    obtain ⟨m, hn, hl⟩ := I.loc
    have hvis : Vis X.env.scope y := (ok.free _ (PySem.mem_of_lookup hfr.1) rfl).elim (fun k => .inr (.inl k)) (fun k => .inr (.inr k))
    obtain ⟨w, r, q⟩ := hl i y av e1 e2 hvis
    refine ⟨w, r, .inr ⟨hfr.2, ?_⟩⟩
    obtain ⟨c, h1, h2⟩ := look hfr.1
    rcases q with ⟨k, _⟩ | ⟨_, c', e', z⟩
    · have k : X.env.scope.names.lookup y = some .local := k
      rcases ok.free _ (PySem.mem_of_lookup hfr.1) rfl with k' | k' <;> rw [show X.env.scope.names.lookup y = _ from k'] at k <;> cases k
    · rw [h2] at e'; cases e'
      exact ⟨c, h1, z.keeps kp⟩
  · have e : cenv.cells.lookup y = some c := e
    rcases mem e with ⟨h1, _⟩ | ⟨_, z⟩
    · obtain ⟨w, z⟩ := I.cell y c h1
      exact ⟨w, z.keeps kp⟩
    · exact ⟨_, z⟩
  · show H cenv.locals = none
    rw [hL]; exact I.hok.fresh (Nat.le_refl _)
  · have e : cenv.cells.lookup y = some c := e
    rcases mem e with ⟨h1, _⟩ | ⟨h1, _⟩
    · exact I.freeC y c h1
    · exact I.hok.fresh (Nat.le_of_succ_le h1)
  · exact absurd (show p ∈ ([] : List (Addr × Obj)) ++ [] from hp) (by simp)
theorem app_ok {E : Value → Shared → Prop} {D : Addr} {xs : List V} {y : V} {v : Value} {Q : Value → Shared → Prop} (I : Inv X pins σ H s) (hD : H D = some (.lst xs)) (hz : xs.length < sizeLine) (r : RelV y v)
    (h : ∀ s', Inv X pins σ (upd H D (.lst (xs ++ [y]))) s' → Q .none s') : wpAny (model X.prog X.w) X.A (call (.builtin "list.append") [.ref D, v]) Q E s := by
  obtain ⟨hz', its, n, ri, e⟩ := I.hok D _ hD
  have hl := ri.length
  refine append_at (hsz := by rw [List.size_toArray]; omega) e fun h' sb ho' => ?_
  refine h { s with heap := h' } (I.write (t' := s.toks) (by rw [hD]; trivial) (.inl rfl) (fun b u hb q => (sb.2 b hb).trans q) ⟨_, ho'⟩ ⟨by rw [List.length_append]; exact hz, its ++ [v], n + 1, ri.append (.cons r .nil), ?_⟩)
  rw [ho']
  simp
def PTs (X : Cx) (ifs : List Expr) (t : TT) : Prop :=
  ∀ (pins : List (Addr × Obj)) (s : Shared) (σ : St) (H : Hp) (Q : Bool → Hp → Prop), Inv X pins σ H s → t σ H Q →
    wpAny (model X.prog X.w) X.A (forIn ifs true fun c r => if r = true then do let ok ← isTrue c X.env (eval c X.env); pure (ForInStep.yield ok) else pure (ForInStep.yield r)) (TP X pins σ Q) X.xe s
def tYes : TT := fun _ H Q => Q true H
theorem pts_nil : PTs X [] tYes := fun _ _ _ H _ I h => wpAny_tests_nil ⟨H, I, h⟩
theorem pts_one {c : Expr} {t : TT} (h : PT X c t) : PTs X [c] t := fun pins s σ H Q I hw => wpAny_tests_one (h pins s σ H Q I hw)
end
theorem thnF {α : Type} {t : Sem α} {Q Q' : α → Shared → Prop} {M : Model} {A : Around} {E : Value → Shared → Prop} {s : Shared} (h : wpAny M A t Q (fun _ _ => False) s) (hQ : ∀ a s, Q a s → Q' a s) : wpAny M A t Q' E s := wpAny_mono h hQ fun _ _ z => False.elim z
theorem compLoop_any {prog : Program} {w : World} {A : Around} {R : Result → Shared → Prop} {s : Shared} {elt target iter : Expr} {ifs : List Expr} {scope : Scope} {pos : Pos} {it acc : Value} {env : Env} (I : Nat → Shared → Prop)
    (turn : ∀ n s, I n s → wpAny (model prog w) A (pyNext it) (fun r s₁ => match r with
      | none => R (.ok .next) s₁
      | some v => wpAny (model prog w) A (letOwnedTupleGo target it v) (fun _ s₁' => wpAny (model prog w) A (assign target env v) (fun _ s₂ =>
          wpAny (model prog w) A (forIn ifs true fun c r => if r = true then do let ok ← isTrue c env (eval c env); pure (ForInStep.yield ok) else pure (ForInStep.yield r)) (fun ok s₃ =>
            if ok = true then wpAny (model prog w) A (eval elt env) (fun x s₄ =>
              wpAny (model prog w) A (call (.builtin "list.append") [acc, x]) (fun _ s₅ => ∃ m, m < n ∧ I m s₅) (notedBy (model prog w) A env fun e s' => R (.error e) s') s₄) (notedBy (model prog w) A env fun e s' => R (.error e) s') s₃
            else ∃ m, m < n ∧ I m s₃) (notedBy (model prog w) A env fun e s' => R (.error e) s') s₂) (notedBy (model prog w) A env fun e s' => R (.error e) s') s₁') (notedBy (model prog w) A env fun e s' => R (.error e) s') s₁) (notedBy (model prog w) A env fun e s' => R (.error e) s') s)
    (n : Nat) (h : I n s) :
    codeAny (model prog w) A (.compLoop (.ListComp elt [⟨target, iter, ifs, 0⟩] scope pos) 0 it acc env) R s := by
  refine codeAny_loop rfl I (fun n s hI => ?_) n h
  show wpAny _ A ((compTurn (.ListComp elt [⟨target, iter, ifs, 0⟩] scope pos) 0 it acc env).onRaise (fun x => do noteFrame x env; theTreesLotGoes x)) _ _ s
  refine wpAny_noted ?_
  rw [compTurn_list]
  refine wpAny_bind (wpAny_standAt (wpAny_bind (wpAny_mono (turn n s hI) (fun r s₁ h₁ => ?_) fun _ _ h' => h')))
  cases r with
  | none => exact wpAny_pure h₁
  | some v =>
    refine wpAny_bind (wpAny_mono h₁ (fun _ s₁' h₁' => ?_) fun _ _ h' => h')
    refine wpAny_bind (wpAny_mono h₁' (fun _ s₂ h₂ => wpAny_bind (wpAny_mono h₂ (fun ok s₃ h₃ => ?_) fun _ _ h' => h')) fun _ _ h' => h')
    cases ok with
    | false => exact wpAny_pure ⟨rfl, h₃⟩
    | true =>
      exact wpAny_bind (wpAny_bind (wpAny_mono h₃ (fun x s₄ h₄ => wpAny_bind (wpAny_mono h₄ (fun _ s₅ h₅ => wpAny_pure (wpAny_pure ⟨rfl, h₅⟩)) fun _ _ h' => h')) fun _ _ h' => h'))
section
variable {X : Cx}
def tLc (wi : TI) (g : TG) (tt : TT) (te : TE) (vs : List Nat) : TE := fun σ H Q => wi σ H fun J H1 => ∀ D, H1 D = none → ∃ W : Nat → Nat → Hp → Prop, (∃ m, W 0 m (upd H1 D (.lst []))) ∧ ∀ i m H, W i m H →
  (J.stop i H ∧ Q (.ref D) H) ∨ (J.go i H ∧ ∃ Nx : Hp → Prop, (∀ H', Nx H' → ∃ m', m' < m ∧ W (i + 1) m' H') ∧ ∀ x H', J.yld i H x H' → g x (wipe σ vs) H' fun σ2 H2 => wipe σ2 vs = wipe σ vs ∧ tt σ2 H2 fun b H3 =>
    if b = true then te σ2 H3 fun y H4 => ∃ acc, H4 D = some (.lst acc) ∧ acc.length < sizeLine ∧ Nx (upd H4 D (.lst (acc ++ [y]))) else Nx H3)
theorem lc_core {pins : List (Addr × Obj)} {s : Shared} {σ : St} {H : Hp} {Q : VK} {elt tg iter : Expr} {ifs : List Expr} {scope : Scope} {own : List (Str × Nat)} {pos pos' : Pos} {wi : TI} {g : TG} {tt : TT} {te : TE} {use : Option (Value → Sem Unit)} {Qf : Value → Shared → Prop}
    (hc : X.calm = true) (hN : X.N.Nodup) (I : Inv X pins σ H s) (hi : PI X tg iter wi) (ok : BlkOk X.N X.env.scope scope own)
    (hg : ∀ (s : Shared) (H : Hp) (C : Addr) (cl : List (Str × Addr)) (fp : List Addr), PG (X.blk s H scope (compEnvC scope cl C X.env) fp) tg g) (ht : ∀ (s : Shared) (H : Hp) (C : Addr) (cl : List (Str × Addr)) (fp : List Addr), PTs (X.blk s H scope (compEnvC scope cl C X.env) fp) ifs tt)
    (he : ∀ (s : Shared) (H : Hp) (C : Addr) (cl : List (Str × Addr)) (fp : List Addr), PE (X.blk s H scope (compEnvC scope cl C X.env) fp) elt te) (hs : ∀ x, foldedSetIterable iter X.env x = pure x)
    (h : tLc wi g tt te (own.map (·.2)) σ H Q)
    (hRR : ∀ D C s' m H', Inv X pins σ H' s' → Q (.ref D) H' → s'.heap.Ns C m → FpOk X pins H' C → compPost (model X.prog X.w) X.A X.xe use Qf (.ref D) C (.ok .next) s') :
    wpAny (model X.prog X.w) X.A (comprehension (.ListComp elt [⟨tg, iter, ifs, 0⟩] scope pos) scope X.env pos' (newList []) false (eval iter X.env) use) Qf X.xe s := by
  have hfree : ∀ y ∈ scope.names, y.2 = .free → ∃ c, X.env.cells.lookup y.1 = some c := fun y hy e => by
    rcases ok.free y hy e with k | k
    · exact I.ok.has _ (.inl k)
    · exact I.ok.has _ (.inr k)
  refine wpAny_comprehension_free (use := use) rfl hs (closure_ok hfree) ok.kind (fun y hy e => by rw [ok.uniq y hy, e])
    (thn (hi pins s σ H _ I h) fun xv s1 hx => thn hx fun itv s2 h2 => ?_)
  obtain ⟨it, fp, tn, J, H2, e, I2, T, st2, f2, q⟩ := h2
  subst e
  refine wpAny_newObj_type (newEnv_comp ?_) (by show 0 ≤ sizeLine; decide)
  generalize hD : s2.heap.objs.size = D
  have hDn : H2 D = none := I2.hok.fresh (Nat.le_of_eq hD)
  obtain ⟨W, ⟨m0, w0⟩, turn⟩ := q D hDn
  generalize hs3 : ({ s2 with heap := s2.heap.push { cls := .type "list", data := .seq ([] : List Value).toArray } } : Shared) = s3
  have I3 : Inv X pins σ (upd H2 D (.lst [])) s3 := by
    rw [← hs3]
    refine I2.laid (t' := s2.toks) (fun b o e => Heap.get?_push_of_some _ e) (Nat.le_of_eq hD) ⟨Nat.zero_le _, [], 0, .nil, ?_⟩
    rw [← hD]
    exact Heap.get?_push_size _ rfl
  have h3 : s3.heap = s2.heap.push { cls := .type "list", data := .seq ([] : List Value).toArray } := by rw [← hs3]
  have sz : ∀ b ∈ fp, b < s2.heap.objs.size := fun b hb => by
    obtain ⟨o, e, _⟩ := T.obj _ _ st2 b hb
    exact Heap.lt_size e
  have f3 : ∀ b ∈ fp, FpOk X pins (upd H2 D (.lst [])) b ∧ b < s3.heap.objs.size := fun b hb => by
    have hlt := sz b hb
    refine ⟨⟨?_, (f2 b hb).2⟩, by rw [h3, Heap.size_push]; exact Nat.lt_succ_of_lt hlt⟩
    rw [upd_ne (by rw [← hD]; exact Nat.ne_of_lt hlt)]
    exact (f2 b hb).1
  have st3 : tn 0 s3.heap := T.keep _ _ _ st2 fun b _ o e => by rw [h3]; exact Heap.get?_push_of_some _ e
  have I4 := block_start I3 ok hN f3
  have pg := hg s3 (upd H2 D (.lst [])) s3.heap.objs.size (cellsFrom (s3.heap.objs.size + 1) scope.names (cloFrom X.env.cells scope.names [])) fp
  have pt := ht s3 (upd H2 D (.lst [])) s3.heap.objs.size (cellsFrom (s3.heap.objs.size + 1) scope.names (cloFrom X.env.cells scope.names [])) fp
  have pe := he s3 (upd H2 D (.lst [])) s3.heap.objs.size (cellsFrom (s3.heap.objs.size + 1) scope.names (cloFrom X.env.cells scope.names [])) fp
  show codeAny _ _ (.compStart (.ListComp elt [⟨tg, iter, ifs, 0⟩] scope pos) 0 (.ref it) (.ref D) (compEnvC scope (cellsFrom (s3.heap.objs.size + 1) scope.names (cloFrom X.env.cells scope.names [])) s3.heap.objs.size X.env)) (compPost (model X.prog X.w) X.A X.xe use Qf (.ref D) s3.heap.objs.size) { s3 with heap := pushCells (s3.heap.push { cls := .type "dict", data := .dict #[] }) scope.names }
  have nfp : ∀ b ∈ fp, (upd H2 D (.lst [])) b = none := fun b hb => (f3 b hb).1.1
  generalize hce : compEnvC scope (cellsFrom (s3.heap.objs.size + 1) scope.names (cloFrom X.env.cells scope.names [])) s3.heap.objs.size X.env = ce at I4 pg pt pe ⊢
  have cL : ce.locals = s3.heap.objs.size := by subst hce; rfl
  generalize hH3 : upd H2 D (.lst []) = H3 at I3 I4 pg pt pe w0 nfp f3
  generalize hs4 : ({ s3 with heap := pushCells (s3.heap.push { cls := .type "dict", data := .dict #[] }) scope.names } : Shared) = s4 at I4 ⊢
  have st4 : tn 0 s4.heap := T.keep _ _ _ st3 fun b _ o e => by rw [← hs4]; exact pushCells_keeps _ _ _ _ (Heap.get?_push_of_some _ e)
  have stat : ∀ {σ' : St} {H' : Hp} {s' : Shared}, Inv (X.blk s3 H3 scope ce fp) [] σ' H' s' → (∀ b ∈ fp, H' b = none) → ∀ b ∈ fp, FpOk (X.blk s3 H3 scope ce fp) [] H' b := fun {σ' H' s'} I' hn b hb =>
    ⟨hn b hb, (I'.ok.exf b hb).1, I'.ok.exfs b hb, .inl hb, fun x c e => (I'.ok.exf b hb).2 x c e, fun p hp => absurd (show p ∈ ([] : List (Addr × Obj)) ++ [] from hp) (by simp)⟩
  have loop : codeAny (model X.prog X.w) X.A (.compLoop (.ListComp elt [⟨tg, iter, ifs, 0⟩] scope pos) 0 (.ref it) (.ref D) ce) (compPost (model X.prog X.w) X.A X.xe use Qf (.ref D) s3.heap.objs.size) s4 := by
    refine compLoop_any (fun n s' => ∃ i H', Inv (X.blk s3 H3 scope ce fp) [] (wipe σ (own.map (·.2))) H' s' ∧ tn i s'.heap ∧ (∀ b ∈ fp, H' b = none) ∧ W i n H') ?_ m0 ⟨0, H3, I4, st4, nfp, w0⟩
    rintro n s5 ⟨i, H5, I5, st5, n5, w5⟩
    rcases turn i n H5 w5 with ⟨stop, qq⟩ | ⟨go, Nx, hNx, step⟩
    · have td := T.done (X.blk s3 H3 scope ce fp) rfl rfl rfl hc i [] s5 _ H5 (fun _ _ => False) I5 (stat I5 n5) st5 stop
      refine thnF td fun r s6 ⟨hr, I6⟩ => ?_
      subst hr
      have I7 : Inv X pins σ H5 s6 := I3.call' (ch := fp) I6.os I6.base I6.hok I6.bare fun b hb => ⟨(f3 b hb).1.2.2.2.1, (f3 b hb).1.2.1, (f3 b hb).1.2.2.2.2.1, (f3 b hb).1.2.2.2.2.2⟩
      have nC : H5 s3.heap.objs.size = none := by
        have z : H5 ce.locals = none := I6.free
        rw [cL] at z
        exact z
      obtain ⟨m, hn, _⟩ := I6.loc
      have hn : s6.heap.Ns ce.locals m := hn
      rw [cL] at hn
      exact hRR D s3.heap.objs.size s6 m H5 I7 qq hn (I3.fpOk (Nat.le_refl _) nC)
    · have ti := T.item (X.blk s3 H3 scope ce fp) rfl rfl rfl hc i [] s5 _ H5 (fun _ _ => False) I5 (stat I5 n5) st5 go
      refine thnF ti fun r s6 ⟨u, hr, h6⟩ => ?_
      subst hr
      refine thnF h6 fun _ s7 ⟨x, H7, I7, r7, y7, st7, n7⟩ => ?_
      have I7' := I7.pinned (stat I7 n7) (T.obj _ _ st7)
      refine thnF (pg _ s7 _ H7 x u _ I7' r7 (step x H7 y7)) fun _ s8 ⟨σ8, H8, I8, hw8, q8⟩ => ?_
      refine thnF (pt _ s8 σ8 H8 _ I8 q8) fun b s9 ⟨H9, I9, q9⟩ => ?_
      have fin : ∀ {s' : Shared} {H' : Hp}, Inv (X.blk s3 H3 scope ce fp) ([] ++ pinsAt fp s7.heap) σ8 H' s' → Nx H' → ∃ m, m < n ∧ ∃ i H', Inv (X.blk s3 H3 scope ce fp) [] (wipe σ (own.map (·.2))) H' s' ∧ tn i s'.heap ∧ (∀ b ∈ fp, H' b = none) ∧ W i m H' := fun {s' H'} I' nx => by
        obtain ⟨m', hm, w'⟩ := hNx H' nx
        have pin' : ∀ b ∈ fp, ∀ o, s7.heap.get? b = some o → s'.heap.get? b = some o ∧ H' b = none := fun b hb o e =>
          let z := I'.pin (b, o) (List.mem_append_right _ (List.mem_append_right _ (mem_pinsAt hb e)))
          ⟨z.1, z.2.1⟩
        have hl : (wipe σ (own.map (·.2))).length = σ8.length := by rw [← hw8, wipe_length]
        refine ⟨m', hm, i + 1, H', (I'.unpinned (pins := [])).weak hl (fun j v e => ?_), T.keep _ _ _ st7 fun b hb o e => (pin' b hb o e).1, fun b hb => ?_, w'⟩
        · rw [← hw8] at e
          exact (wipe_some e).1
        · obtain ⟨o, e, _⟩ := T.obj _ _ st7 b hb
          exact (pin' b hb o e).2
      cases b with
      | false =>
        simp only [Bool.false_eq_true, if_false] at q9 ⊢
        exact fin I9 q9
      | true =>
        simp only [if_true] at q9 ⊢
        refine thnF (pe _ s9 σ8 H9 _ I9 q9) fun z s10 ⟨yv, H10, I10, r10, acc, hD10, hz10, nx⟩ => ?_
        exact app_ok (X := X.blk s3 H3 scope ce fp) I10 hD10 hz10 r10 fun s11 I11 => fin I11 nx
  exact codeAny_compStart_list loop (T.self X.A 0 _ _ _ st4 loop)
theorem pe_lc {elt tg iter : Expr} {ifs : List Expr} {scope : Scope} {own : List (Str × Nat)} {pos : Pos} {wi : TI} {g : TG} {tt : TT} {te : TE} (hc : X.calm = true) (hN : X.N.Nodup) (hi : PI X tg iter wi) (ok : BlkOk X.N X.env.scope scope own)
    (hg : ∀ (s : Shared) (H : Hp) (C : Addr) (cl : List (Str × Addr)) (fp : List Addr), PG (X.blk s H scope (compEnvC scope cl C X.env) fp) tg g) (ht : ∀ (s : Shared) (H : Hp) (C : Addr) (cl : List (Str × Addr)) (fp : List Addr), PTs (X.blk s H scope (compEnvC scope cl C X.env) fp) ifs tt)
    (he : ∀ (s : Shared) (H : Hp) (C : Addr) (cl : List (Str × Addr)) (fp : List Addr), PE (X.blk s H scope (compEnvC scope cl C X.env) fp) elt te) (hs : ∀ x, foldedSetIterable iter X.env x = pure x := by intro _; rfl) :
    PE X (.ListComp elt [⟨tg, iter, ifs, 0⟩] scope pos) (tLc wi g tt te (own.map (·.2))) := by
  intro pins s σ H Q I h
  rw [eval_ListComp]
  refine lc_core hc hN I hi ok hg ht he hs h fun D C s' m H' I' q hn f => ⟨m, hn, fun h'' sb => ?_⟩
  obtain ⟨f0, f1, f2, f3, f4, f5⟩ := f
  exact ⟨.ref D, H', I'.turned (t' := s'.toks) (fun b o hb e => (sb.2 b hb).trans e) f0 f1 f3 f4 f5, rfl, q⟩
theorem ps_setLc {i : Nat} {y : Str} {py : Pos} {elt tg iter : Expr} {ifs : List Expr} {scope : Scope} {own : List (Str × Nat)} {pos spos : Pos} {wi : TI} {g : TG} {tt : TT} {te : TE} (hc : X.calm = true) (hN : X.N.Nodup) (hy : X.N[i]? = some y) (hyl : X.env.scope.names.lookup y = some .local)
    (hsw : swapsWith (.ListComp elt [⟨tg, iter, ifs, 0⟩] scope pos) (some (.Name y py)) spos.line X.env = pure true) (hi : PI X tg iter wi) (ok : BlkOk X.N X.env.scope scope own)
    (hg : ∀ (s : Shared) (H : Hp) (C : Addr) (cl : List (Str × Addr)) (fp : List Addr), PG (X.blk s H scope (compEnvC scope cl C X.env) fp) tg g) (ht : ∀ (s : Shared) (H : Hp) (C : Addr) (cl : List (Str × Addr)) (fp : List Addr), PTs (X.blk s H scope (compEnvC scope cl C X.env) fp) ifs tt)
    (he : ∀ (s : Shared) (H : Hp) (C : Addr) (cl : List (Str × Addr)) (fp : List Addr), PE (X.blk s H scope (compEnvC scope cl C X.env) fp) elt te) (hs : ∀ x, foldedSetIterable iter X.env x = pure x := by intro _; rfl) :
    PS X (.Assign [.Name y py] (.ListComp elt [⟨tg, iter, ifs, 0⟩] scope pos) spos) (tAsg (tLc wi g tt te (own.map (·.2))) (gName i)) := by
  intro pins s σ H D I h
  rw [exec_Assign_Name_used _ _ _ _ hsw]
  refine wpAny_bind (wpAny_standAt (wpAny_bind ?_))
  show wpAny _ X.A (do let _ ← comprehension (.ListComp elt [⟨tg, iter, ifs, 0⟩] scope pos) scope X.env (firstIterPos [⟨tg, iter, ifs, 0⟩] pos) (newList []) false (eval iter X.env) (some (assign (.Name y py) X.env))) _ _ s
  have h : tLc wi g tt te (own.map (·.2)) σ H (fun x H1 => gName i x σ H1 D.nx) := h
  refine wpAny_bind (thn (lc_core (Qf := fun _ s' => SP X pins D .next s') hc hN I hi ok hg ht he hs h fun L C s' m H' I' q hn f => ?_) fun _ s' hq => wpAny_pure (wpAny_pure hq))
  show wpAny _ _ (assign (.Name y py) X.env (.ref L)) _ _ _
  refine wpAny_assign_Name (store_ok2 (v := V.ref L) I' hN hy (.inl hyl) rfl (fun s2 I2 ⟨a, sb, ha⟩ => ?_) (.inr hyl))
  obtain ⟨f0, f1, f2, f3, f4, f5⟩ := f
  have haC : C ≠ a := by
    rcases ha with z | z
    · rw [z]; exact f1
    · exact fun e => f4 y a z e.symm
  refine ⟨m, hn.sameBut sb haC, fun h3 sb3 => ?_⟩
  exact ⟨_, H', I2.turned (t' := s2.toks) (fun b o hb e => (sb3.2 b hb).trans e) f0 f1 f3 f4 f5, q⟩
theorem sw_true {elt : Expr} {gs : List Comprehension} {scope : Scope} {pos py : Pos} {y : Str} {l : Nat} {env : Env} (hk : env.scope.kind = .function) (hy : env.scope.names.lookup y = some .local) (hl : (py.line == pos.line) = true)
    (ha : (scope.names.any fun (n, k) => n == y && (k == .local || k == .cell)) = false) : swapsWith (.ListComp elt gs scope pos) (some (.Name y py)) l env = pure true := by
  have ky : env.kindOf y = some .local := hy
  have hb : env.blockKind = .function := by unfold Env.blockKind; rw [hk]; rfl
  unfold swapsWith
  simp only [hb, ky, ha, Expr.pos, hl]
  rfl
end
theorem lc_tup {K : PySem.W.Frag} {a : Addr} {xs : List V} {g : TG} {tt : TT} {te : TE} {vs : List Nat} {σ : St} {H1 : Hp} {D : Addr} {Qd : Hp → Prop} (Pv : Nat → Hp → Prop) (h0 : Pv 0 (upd H1 D (.lst []))) (hl : ∀ i H, i ≤ xs.length → Pv i H → SqT K H a xs)
    (hs : ∀ i x H, xs[i]? = some x → Pv i H → g x (wipe σ vs) H fun σ2 H2 => wipe σ2 vs = wipe σ vs ∧ tt σ2 H2 fun b H3 =>
      if b = true then te σ2 H3 fun y H4 => ∃ acc, H4 D = some (.lst acc) ∧ acc.length < sizeLine ∧ Pv (i + 1) (upd H4 D (.lst (acc ++ [y]))) else Pv (i + 1) H3) (hd : ∀ H, Pv xs.length H → Qd H) :
    ∃ W : Nat → Nat → Hp → Prop, (∃ m, W 0 m (upd H1 D (.lst []))) ∧ ∀ i m H, W i m H →
      ((Itt K a).stop i H ∧ Qd H) ∨ ((Itt K a).go i H ∧ ∃ Nx : Hp → Prop, (∀ H', Nx H' → ∃ m', m' < m ∧ W (i + 1) m' H') ∧ ∀ x H', (Itt K a).yld i H x H' → g x (wipe σ vs) H' fun σ2 H2 => wipe σ2 vs = wipe σ vs ∧ tt σ2 H2 fun b H3 =>
        if b = true then te σ2 H3 fun y H4 => ∃ acc, H4 D = some (.lst acc) ∧ acc.length < sizeLine ∧ Nx (upd H4 D (.lst (acc ++ [y]))) else Nx H3) := by
  refine ⟨fun i m H => m = xs.length - i ∧ i ≤ xs.length ∧ Pv i H, ⟨xs.length, by simp, Nat.zero_le _, h0⟩, ?_⟩
  rintro i m H ⟨rfl, hi, p⟩
  have q := hl i H hi p
  by_cases hlt : i < xs.length
  · refine .inr ⟨⟨xs, xs[i], q, by simp [hlt]⟩, Pv (i + 1), fun H' p' => ⟨xs.length - (i + 1), by omega, rfl, hlt, p'⟩, fun x H' y => ?_⟩
    obtain ⟨e, y⟩ := y
    subst e
    exact hs i x _ (y xs q) p
  · have e : i = xs.length := by omega
    subst e
    exact .inl ⟨⟨xs, q, Nat.le_refl _⟩, hd H p⟩
def blkC (N : List Str) (sc scope : Scope) (own : List (Str × Nat)) : Bool :=
  (match scope.kind with | .function => true | _ => false) && (scope.names.all fun y => decide (scope.names.lookup y.1 = some y.2)) && (own.all fun p => decide (N[p.2]? = some p.1)) &&
    (scope.names.all fun y => match y.2 with
      | .free => (match sc.names.lookup y.1 with | some .cell => true | some .free => true | _ => false)
      | .local => decide (y.1 ∈ own.map (·.1)) || decide (y.1 ∉ N)
      | .cell => decide (y.1 ∈ own.map (·.1)) || decide (y.1 ∉ N)
      | _ => true)
theorem blkOk_by {N : List Str} {sc scope : Scope} {own : List (Str × Nat)} (h : blkC N sc scope own = true) : BlkOk N sc scope own := by
  unfold blkC at h
  simp only [Bool.and_eq_true, List.all_eq_true, decide_eq_true_eq] at h
  obtain ⟨⟨⟨h1, h2⟩, h3⟩, h4⟩ := h
  refine ⟨?_, h2, h3, fun y hy e => ?_, fun y hy e => ?_⟩
  · split at h1
    · assumption
    · cases h1
  · have q := h4 y hy
    simp only [e] at q
    split at q <;> first | exact .inl (by assumption) | exact .inr (by assumption) | cases q
  · have q := h4 y hy
    rcases e with e | e <;> (simp only [e, Bool.or_eq_true, decide_eq_true_eq] at q; exact q)
end L2
namespace L2
open PySem PySem.Spec PyProof.Rows
section
variable {prog : Program} {w : World} {A : Around} {R : Result → Shared → Prop} {s : Shared} {elt t0 i0 t1 i1 : Expr} {ifs0 ifs1 : List Expr} {scope : Scope} {pos : Pos} {it acc : Value} {env : Env}
end
section
variable {X : Cx}
end
end L2
namespace L2
open PySem PySem.Spec PyProof.Rows
section
variable {κ : Type} [DecidableEq κ]
def valV (kvs : List (κ × V)) (k : κ) : Option V := (kvs.find? fun kv => decide (kv.1 = k)).map (·.2)
def putK (kvs : List (κ × V)) (k : κ) (v : V) : List (κ × V) :=
  if (kvs.any fun kv => decide (kv.1 = k)) = true then kvs.map (fun kv => if kv.1 = k then (kv.1, v) else kv) else kvs ++ [(k, v)]
theorem valV_pos {p : κ × V} {r : List (κ × V)} {k : κ} (e : p.1 = k) : valV (p :: r) k = some p.2 := by simp [valV, List.find?_cons, e]
theorem valV_neg {p : κ × V} {r : List (κ × V)} {k : κ} (e : ¬ p.1 = k) : valV (p :: r) k = valV r k := by simp [valV, List.find?_cons, e]
theorem valV_any (k : κ) : ∀ kvs : List (κ × V), (kvs.any fun kv => decide (kv.1 = k)) = (valV kvs k).isSome
  | [] => rfl
  | p :: r => by
    rw [List.any_cons]
    by_cases e : p.1 = k
    · simp only [valV_pos e, decide_eq_true e, Bool.true_or, Option.isSome_some]
    · rw [valV_neg e, decide_eq_false e, Bool.false_or]; exact valV_any k r
theorem valV_map (k j : κ) (y : V) : ∀ kvs : List (κ × V), valV (kvs.map fun kv => if kv.1 = k then (kv.1, y) else kv) j = (valV kvs j).map fun x => if j = k then y else x
  | [] => rfl
  | p :: r => by
    have ih := valV_map k j y r
    rw [List.map_cons]
    by_cases h : p.1 = k
    · rw [if_pos h]
      by_cases e : p.1 = j
      · rw [valV_pos (p := (p.1, y)) e, valV_pos e, Option.map_some, if_pos (e.symm.trans h)]
      · rw [valV_neg (p := (p.1, y)) e, valV_neg e, ih]
    · rw [if_neg h]
      by_cases e : p.1 = j
      · rw [valV_pos (p := p) e, valV_pos e, Option.map_some, if_neg (fun z => h (e.trans z))]
      · rw [valV_neg (p := p) e, valV_neg e, ih]
theorem valV_snoc (k j : κ) (y : V) : ∀ kvs : List (κ × V), valV kvs k = none → valV (kvs ++ [(k, y)]) j = if j = k then some y else valV kvs j
  | [], _ => by
    by_cases e : k = j
    · rw [if_pos e.symm]; exact valV_pos (p := (k, y)) e
    · rw [if_neg (fun z => e z.symm)]; exact valV_neg (p := (k, y)) e
  | p :: r, hn => by
    rw [List.cons_append]
    have hk : ¬ p.1 = k := fun z => by rw [valV_pos z] at hn; cases hn
    rw [valV_neg hk] at hn
    have ih := valV_snoc k j y r hn
    by_cases e : p.1 = j
    · rw [valV_pos e, valV_pos e, if_neg (fun z => hk (e.trans z))]
    · rw [valV_neg e, valV_neg e, ih]
theorem valV_put (kvs : List (κ × V)) (k j : κ) (y : V) : valV (putK kvs k y) j = if j = k then some y else valV kvs j := by
  unfold putK
  by_cases a : (kvs.any fun kv => decide (kv.1 = k)) = true
  · rw [if_pos a, valV_map]
    rw [valV_any] at a
    by_cases e : j = k
    · obtain ⟨x, hx⟩ := Option.isSome_iff_exists.mp a
      rw [if_pos e, e, hx, Option.map_some, if_pos rfl]
    · rw [if_neg e]
      cases valV kvs j with
      | none => rfl
      | some x => rw [Option.map_some, if_neg e]
  · rw [if_neg a]
    refine valV_snoc k j y kvs ?_
    rw [valV_any] at a
    cases q : valV kvs k with
    | none => rfl
    | some x => rw [q] at a; exact (a rfl).elim
theorem length_putK (kvs : List (κ × V)) (k : κ) (v : V) : (putK kvs k v).length ≤ kvs.length + 1 := by
  unfold putK
  split
  · rw [List.length_map]; omega
  · rw [List.length_append, List.length_cons, List.length_nil]; omega
theorem putK_new {kvs : List (κ × V)} {k : κ} (v : V) (h : valV kvs k = none) : putK kvs k v = kvs ++ [(k, v)] := by
  unfold putK
  rw [valV_any, h]
  exact if_neg (by decide)
theorem RelO.isSome_eq {o : Option V} {u : Option Value} (r : RelO o u) : o.isSome = u.isSome := by
  cases o with
  | none => cases u with
    | none => rfl
    | some _ => exact (show False from r).elim
  | some _ => cases u with
    | none => exact (show False from r).elim
    | some _ => rfl
theorem RelO.getD {o : Option V} {u : Option Value} {d : V} {d' : Value} (r : RelO o u) (rd : RelV d d') : RelV (o.getD d) (u.getD d') := by
  cases o with
  | none => cases u with
    | none => exact rd
    | some _ => exact (show False from r).elim
  | some _ => cases u with
    | none => exact (show False from r).elim
    | some _ => exact r
theorem KV.val {kvs : List (κ × V)} {vs : List (κ × Value)} (r : KV kvs vs) (k : κ) : RelO (valV kvs k) (valueAt vs k) := by
  unfold KV at r
  induction r with
  | nil => exact True.intro
  | @cons p q ps qs h t ih =>
    obtain ⟨h1, h2⟩ := h
    by_cases e : p.1 = k
    · have e' : q.1 = k := h1.symm.trans e
      have b : valueAt (q :: qs) k = some q.2 := by simp [valueAt, List.find?_cons, e']
      rw [valV_pos e, b]; exact h2
    · have e' : ¬ q.1 = k := fun z => e (h1.trans z)
      have b : valueAt (q :: qs) k = valueAt qs k := by simp [valueAt, List.find?_cons, e']
      rw [valV_neg e, b]; exact ih
theorem KV.any {kvs : List (κ × V)} {vs : List (κ × Value)} (r : KV kvs vs) (k : κ) : (kvs.any fun kv => decide (kv.1 = k)) = vs.any fun kv => decide (kv.1 = k) := by
  unfold KV at r
  induction r with
  | nil => rfl
  | cons h t ih => rw [List.any_cons, List.any_cons, ih, h.1]
theorem KV.repl {kvs : List (κ × V)} {vs : List (κ × Value)} (r : KV kvs vs) (k : κ) {y : V} {u : Value} (ry : RelV y u) :
    KV (kvs.map fun kv => if kv.1 = k then (kv.1, y) else kv) (vs.map fun kv => if kv.1 = k then (kv.1, u) else kv) := by
  unfold KV at r ⊢
  induction r with
  | nil => exact .nil
  | @cons p q ps qs h t ih =>
    rw [List.map_cons, List.map_cons]
    refine .cons ?_ ih
    obtain ⟨h1, h2⟩ := h
    by_cases e : p.1 = k
    · rw [if_pos e, if_pos (h1.symm.trans e)]; exact ⟨h1, ry⟩
    · rw [if_neg e, if_neg (fun z => e (h1.trans z))]; exact ⟨h1, h2⟩
theorem KV.put {kvs : List (κ × V)} {vs : List (κ × Value)} (r : KV kvs vs) (k : κ) {y : V} {u : Value} (ry : RelV y u) : KV (putK kvs k y) (stored vs k u) := by
  unfold putK stored
  rw [r.any k]
  by_cases e : (vs.any fun kv => decide (kv.1 = k)) = true
  · rw [if_pos e, if_pos e]; exact r.repl k ry
  · rw [if_neg e, if_neg e]; exact Paired.snoc r ⟨rfl, ry⟩
theorem KV.keys {kvs : List (κ × V)} {vs : List (κ × Value)} (r : KV kvs vs) : kvs.map (·.1) = vs.map (·.1) := by
  unfold KV at r
  induction r with
  | nil => rfl
  | cons h t ih => rw [List.map_cons, List.map_cons, ih, h.1]
theorem KV.length {kvs : List (κ × V)} {vs : List (κ × Value)} (r : KV kvs vs) : kvs.length = vs.length := Paired.length r
end
theorem kV_is {P : Program} {w : World} {k : Key} {u : Value} (r : RelV (kV k) u) : (mixKind P w).is k u = true := by
  cases k with
  | inl i => obtain ⟨t, e⟩ := (show ∃ t, u = Value.int i t from r); subst e; exact mixKind_int P w i t
  | inr x => obtain ⟨t, e⟩ := (show ∃ t, u = Value.str x t from r); subst e; exact mixKind_str P w x t
theorem items_are {P : Program} {w : World} : ∀ {ks : List Key} {us : List Value}, Vals (ks.map kV) us → ItemsAre (mixKind P w) ks us
  | [], _, r => by rw [List.map_nil] at r; cases r; exact .nil
  | k :: ks, _, r => by
    rw [List.map_cons] at r
    cases r with
    | cons h t => exact .cons (kV_is h) (items_are t)
abbrev KT (H : Hp) : List (List Key × V) → List (List Key × Addr × Value) → Prop := Paired fun p q => p.1 = q.1 ∧ H q.2.1 = some (.tup (p.1.map kV)) ∧ RelV p.2 q.2.2
theorem KT.val {H : Hp} {kvs : List (List Key × V)} {xs : List (List Key × Addr × Value)} (r : KT H kvs xs) (k : List Key) : RelO (valV kvs k) ((atKey xs k).map (·.2)) := by
  induction r with
  | nil => exact True.intro
  | @cons p q ps qs h t ih =>
    obtain ⟨h1, _, h2⟩ := h
    by_cases e : p.1 = k
    · have e' : q.1 = k := h1.symm.trans e
      have b : atKey (q :: qs) k = some q.2 := by simp [atKey, List.find?_cons, e']
      rw [valV_pos e, b]; exact h2
    · have e' : ¬ q.1 = k := fun z => e (h1.trans z)
      have b : atKey (q :: qs) k = atKey qs k := by simp [atKey, List.find?_cons, e']
      rw [valV_neg e, b]; exact ih
theorem KT.repl {H : Hp} {kvs : List (List Key × V)} {xs : List (List Key × Addr × Value)} (r : KT H kvs xs) (k : List Key) {y : V} {u : Value} (ry : RelV y u) :
    KT H (kvs.map fun kv => if kv.1 = k then (kv.1, y) else kv) (xs.map (putAt k u)) := by
  induction r with
  | nil => exact .nil
  | @cons p q ps qs h t ih =>
    rw [List.map_cons, List.map_cons]
    refine .cons ?_ ih
    obtain ⟨h1, h2, h3⟩ := h
    unfold putAt
    by_cases e : p.1 = k
    · rw [if_pos e, if_pos (h1.symm.trans e)]; exact ⟨h1, h2, ry⟩
    · rw [if_neg e, if_neg (fun z => e (h1.trans z))]; exact ⟨h1, h2, h3⟩
theorem KT.put {H : Hp} {kvs : List (List Key × V)} {xs : List (List Key × Addr × Value)} (r : KT H kvs xs) (k : List Key) {b : Addr} {y : V} {u : Value} (hb : H b = some (.tup (k.map kV))) (ry : RelV y u) :
    KT H (putK kvs k y) (storedH xs k b u) := by
  have e : (kvs.any fun kv => decide (kv.1 = k)) = (atKey xs k).isSome := by
    rw [valV_any, (r.val k).isSome_eq, Option.isSome_map]
  unfold putK storedH
  rw [e]
  by_cases q : (atKey xs k).isSome = true
  · rw [if_pos q, if_pos q]; exact r.repl k ry
  · rw [if_neg q, if_neg q]; exact Paired.snoc r ⟨rfl, hb, ry⟩
theorem KT.keeps {H H' : Hp} {kvs : List (List Key × V)} {xs : List (List Key × Addr × Value)} (r : KT H kvs xs) (ht : ∀ b ys, H b = some (.tup ys) → H' b = some (.tup ys)) : KT H' kvs xs :=
  Paired.mapP r fun _ _ z => ⟨z.1, ht _ _ z.2.1, z.2.2⟩
section
variable {P : Program} {w : World} {H : Hp} {h : Heap} {a : Addr}
theorem rd_of {u : HO} (ok : HOk P w H h) (e : Rd H a u) : ObjOk P w H h a u := e.ok ok
theorem dk_rd {kvs : List (Key × V)} (ok : HOk P w H h) (e : Rd H a (.dK kvs)) : kvs.length ≤ sizeLine ∧ (a == sysModules) = false ∧ ∃ vs, KV kvs vs ∧ h.DictOf (mixKind P w) a vs :=
  show ObjOk P w H h a (.dK kvs) from rd_of ok e
theorem dk_of {kvs : List (Key × V)} (ok : HOk P w H h) (e : H a = some (.dK kvs)) : kvs.length ≤ sizeLine ∧ (a == sysModules) = false ∧ ∃ vs, KV kvs vs ∧ h.DictOf (mixKind P w) a vs := dk_rd ok (.inl e)
theorem key_of {ks : List Key} (ok : HOk P w H h) (e : H a = some (.tup (ks.map kV))) : (tupleKind (mixKind P w)).is h ks a := by
  obtain ⟨_, its, r, o, h1, h2, n, h3⟩ := (show ObjOk P w H h a (.tup (ks.map kV)) from ok a _ e)
  exact ⟨o, its.toArray, n, h1, h2, h3, by simpa using items_are r⟩
theorem dt_rd {kvs : List (List Key × V)} (ok : HOk P w H h) (e : Rd H a (.dT kvs)) : kvs.length ≤ sizeLine ∧ (a == sysModules) = false ∧
    ∃ xs, KT H kvs xs ∧ h.DictOfH (tupleKind (mixKind P w)) a xs := by
  obtain ⟨z, y, xs, r, o, es, ep, h1, h2, h3, h4, h5⟩ := (show ObjOk P w H h a (.dT kvs) from rd_of ok e)
  refine ⟨z, y, xs, r, o, es, ep, h1, h2, h3, h4, fun x hx => ?_, h5⟩
  have all : ∀ {l : List (List Key × V)} {m : List (List Key × Addr × Value)}, KT H l m → ∀ x ∈ m, (tupleKind (mixKind P w)).is h x.1 x.2.1 := by
    intro l m q
    induction q with
    | nil => intro x hx; exact nomatch hx
    | @cons p q ps qs hq t ih =>
      intro x hx
      rcases List.mem_cons.mp hx with e | hx
      · subst e
        exact key_of ok (by rw [← hq.1]; exact hq.2.1)
      · exact ih x hx
  exact all r x hx
theorem dt_of {kvs : List (List Key × V)} (ok : HOk P w H h) (e : H a = some (.dT kvs)) : kvs.length ≤ sizeLine ∧ (a == sysModules) = false ∧
    ∃ xs, KT H kvs xs ∧ h.DictOfH (tupleKind (mixKind P w)) a xs := dt_rd ok (.inl e)
end
def DGet (H : Hp) (a : Addr) (y : V) (r : Option V) : Prop :=
  (∃ kvs k, Rd H a (.dK kvs) ∧ y = kV k ∧ r = valV kvs k) ∨ ∃ kvs k b, Rd H a (.dT kvs) ∧ y = .ref b ∧ H b = some (.tup (k.map kV)) ∧ r = valV kvs k
def DPut (H : Hp) (a : Addr) (y v : V) (H' : Hp) : Prop :=
  (∃ kvs k, H a = some (.dK kvs) ∧ y = kV k ∧ kvs.length < sizeLine ∧ H' = upd H a (.dK (putK kvs k v))) ∨
  ∃ kvs k b, H a = some (.dT kvs) ∧ y = .ref b ∧ H b = some (.tup (k.map kV)) ∧ kvs.length < sizeLine ∧ H' = upd H a (.dT (putK kvs k v))
theorem DGet.k {H : Hp} {a : Addr} {kvs : List (Key × V)} {k : Key} (e : H a = some (.dK kvs)) : DGet H a (kV k) (valV kvs k) := .inl ⟨kvs, k, .inl e, rfl, rfl⟩
theorem DGet.t {H : Hp} {a b : Addr} {kvs : List (List Key × V)} {k : List Key} (e : H a = some (.dT kvs)) (eb : H b = some (.tup (k.map kV))) : DGet H a (.ref b) (valV kvs k) := .inr ⟨kvs, k, b, .inl e, rfl, eb, rfl⟩
theorem DPut.k {H : Hp} {a : Addr} {kvs : List (Key × V)} {k : Key} {v : V} (e : H a = some (.dK kvs)) (hl : kvs.length < sizeLine) : DPut H a (kV k) v (upd H a (.dK (putK kvs k v))) := .inl ⟨kvs, k, e, rfl, hl, rfl⟩
theorem DPut.t {H : Hp} {a b : Addr} {kvs : List (List Key × V)} {k : List Key} {v : V} (e : H a = some (.dT kvs)) (eb : H b = some (.tup (k.map kV))) (hl : kvs.length < sizeLine) :
    DPut H a (.ref b) v (upd H a (.dT (putK kvs k v))) := .inr ⟨kvs, k, b, e, rfl, eb, hl, rfl⟩
section
variable {X : Cx} {pins : List (Addr × Obj)} {σ : St} {H : Hp} {s : Shared} {a : Addr} {y v : V} {u r : Value} {o : Option V} {A : Around} {E : Value → Shared → Prop}
theorem Inv.big (I : Inv X pins σ H s) : sysModules < s.heap.objs.size := by
  have h : mainGlobals < s.heap.objs.size := (I.mod.glob.keeps I.bk).lt
  exact Nat.lt_trans (by decide) h
theorem d_getItem {Q : Value → Shared → Prop} (hu : A.units + 1 < cLine) (I : Inv X pins σ H s) (g : DGet H a y (some v)) (ry : RelV y u) (h : ∀ w' s', Inv X pins σ H s' → RelV v w' → Q w' s') :
    wpAny (model X.prog X.w) A (getItem (.ref a) u) Q E s := by
  rcases g with ⟨kvs, k, e, ey, l⟩ | ⟨kvs, k, b, e, ey, eb, l⟩
  · subst ey
    obtain ⟨z, hd, vs, rel, dd⟩ := dk_rd I.hok e
    obtain ⟨w', hw, rw'⟩ := RelO.some_of (v := v) (o := valueAt vs k) (by rw [l]; exact rel.val k)
    exact wpAny_getItem_of (kV_is ry) dd.mapOf hw (h w' _ (I.tok _) rw')
  · subst ey
    cases (show u = Value.ref b from ry)
    obtain ⟨z, hd, xs, rel, dd⟩ := dt_rd I.hok e
    obtain ⟨w', hw, rw'⟩ := RelO.some_of (v := v) (o := (atKey xs k).map (·.2)) (by rw [l]; exact rel.val k)
    obtain ⟨p, hp, hp2⟩ := Option.map_eq_some_iff.mp hw
    refine wpAny_getItem_heap (tupleKind_room_in1 hu) (key_of I.hok eb) dd hp ?_
    rw [hp2]
    exact h w' _ (I.tok _) rw'
theorem d_notIn {Q : Value → Shared → Prop} (hu : A.units + 1 < cLine) (I : Inv X pins σ H s) (g : DGet H a y o) (ry : RelV y u) (h : ∀ s', Inv X pins σ H s' → Q (.bool (!o.isSome)) s') :
    wpAny (model X.prog X.w) A (compareOp .NotIn u (.ref a)) Q E s := by
  rcases g with ⟨kvs, k, e, ey, l⟩ | ⟨kvs, k, b, e, ey, eb, l⟩
  · subst ey
    obtain ⟨z, hd, vs, rel, dd⟩ := dk_rd I.hok e
    refine wpAny_notIn_of (kV_is ry) hd dd.mapOf ?_
    rw [← (rel.val k).isSome_eq, ← l]
    exact h _ (I.tok _)
  · subst ey
    cases (show u = Value.ref b from ry)
    obtain ⟨z, hd, xs, rel, dd⟩ := dt_rd I.hok e
    refine wpAny_notIn_heap (tupleKind_room_in1 hu) (key_of I.hok eb) hd dd ?_
    have q := (rel.val k).isSome_eq
    rw [Option.isSome_map] at q
    rw [← q, ← l]
    exact h _ (I.tok _)
theorem d_write {h' : Heap} {t' : Nat} {ob : HO} (I : Inv X pins σ H s) (mu : Mut (H a)) (hs : Heap.SameBut a s.heap h') (he : ∃ q, h'.get? a = some q) (new : ObjOk X.prog X.w (upd H a ob) h' a ob) :
    Inv X pins σ (upd H a ob) { s with heap := h', toks := t' } :=
  I.write (x := a) (e := a) mu (.inl rfl) (fun b q hb z => (hs.2 b hb).trans z) he new
theorem dk_new {P : Program} {w : World} {H' : Hp} {h' : Heap} {kvs : List (Key × V)} {vs : List (Key × Value)} (z : kvs.length ≤ sizeLine) (hd : (a == sysModules) = false) (rel : KV kvs vs) (dd : h'.DictOf (mixKind P w) a vs) :
    ObjOk P w H' h' a (.dK kvs) := ⟨z, hd, vs, rel, dd⟩
theorem d_setItem {H' : Hp} {Q : Unit → Shared → Prop} (hu : A.units + 1 < cLine) (I : Inv X pins σ H s) (g : DPut H a y v H') (ry : RelV y u) (rv : RelV v r) (h : ∀ s', Inv X pins σ H' s' → Q () s') :
    wpAny (model X.prog X.w) A (setItem (.ref a) u r) Q E s := by
  rcases g with ⟨kvs, k, e, ey, l, eH⟩ | ⟨kvs, k, b, e, ey, eb, l, eH⟩
  · subst ey eH
    obtain ⟨z, hd, vs, rel, dd⟩ := dk_of I.hok e
    have hz : vs.length ≤ sizeLine := by rw [← rel.length]; exact z
    have hl : (putK kvs k v).length ≤ sizeLine := by have := length_putK kvs k v; omega
    refine wpAny_setItem_pairs (hsz := hz) (kV_is ry) dd fun h' dd' hs => h _ ?_
    have he : ∃ q, h'.get? a = some q := let ⟨q, _, _, hq, _⟩ := dd'; ⟨q, hq⟩
    exact d_write I (by rw [e]; exact True.intro) hs he (dk_new hl hd (rel.put k rv) dd')
  · subst ey eH
    cases (show u = Value.ref b from ry)
    obtain ⟨z, hd, xs, rel, dd⟩ := dt_of I.hok e
    have hz : xs.length ≤ sizeLine := by rw [← Paired.length rel]; exact z
    have hl : (putK kvs k v).length ≤ sizeLine := by have := length_putK kvs k v; omega
    refine wpAny_setItem_heap (hsz := hz) (tupleKind_room_in1 hu) (key_of I.hok eb) dd fun h' dd' hs => h _ ?_
    obtain ⟨q, es, ep, hq, h2, h3, h4, _, h5⟩ := dd'
    refine d_write I (by rw [e]; exact True.intro) hs ⟨q, hq⟩ ⟨hl, hd, _, (rel.put k eb rv).keeps fun c ys ec => ?_, q, es, ep, hq, h2, h3, h4, h5⟩
    rw [upd_ne (ne_of ec e (fun z => nomatch z))]
    exact ec
end
section
variable {X : Cx} {pins : List (Addr × Obj)} {σ : St} {H : Hp} {s : Shared} {a : Addr} {kvs : List (Key × V)} {k : Key} {u : Value} {A : Around} {E : Value → Shared → Prop}
end
def NoSl (i : Expr) : Prop := ∀ ov iv, subscripted i false ov iv = operate [ov, iv] (getItem ov iv)
theorem subD_of {prog : Program} {w : World} {A : Around} {E : Value → Shared → Prop} {s : Shared} {env : Env} {value slice : Expr} {pos : Pos} {T id : String} {Q : Value → Shared → Prop}
    (hl : typeLookup (.type T) "__getitem__" = pure (some (.builtin id))) (hs : NoSl slice)
    (h : wpAny (model prog w) A (eval value env) (fun o s₁ => wpAny (model prog w) A (eval slice env) (fun i s₂ => s₂.TypeIs o T ∧ wpAny (model prog w) A (getItem o i) Q E s₂) E s₁) E s) :
    wpAny (model prog w) A (eval (.Subscript value slice pos) env) Q E s := by
  refine Subscript_ (wpAny_mono h (fun o s₁ h₁ => wpAny_mono h₁ (fun i s₂ h₂ => ?_) fun _ _ x => x) fun _ _ x => x)
  obtain ⟨hT, h₂⟩ := h₂
  unfold subscriptTail
  refine wpAny_bind ?_
  rw [getitemInPython_of_ne hT.not_modules]
  refine wpAny_bind (wpAny_specialOf hT hl ?_)
  have fin : wpAny (model prog w) A (subscripted slice false o i) (fun r s₃ => wpAny (model prog w) A (letTemporaryGo value o r >>= fun _ => pure r) Q E s₃) E s₂ := by
    rw [hs o i]
    exact wpAny_operating (wpAny_mono h₂ (fun r s₃ h₃ => wpAny_bind (wpAny_letTemporaryGo (wpAny_pure h₃))) fun _ _ x => x)
  first
    | exact wpAny_pure (wpAny_bind fin)
    | exact wpAny_bind (wpAny_pure (wpAny_bind fin))
    | exact wpAny_bind fin
theorem dict_typeIs {X : Cx} {pins : List (Addr × Obj)} {σ : St} {H : Hp} {s : Shared} {a : Addr} {y : V} {o : Option V} (I : Inv X pins σ H s) (g : DGet H a y o) : s.TypeIs (.ref a) "dict" := by
  rcases g with ⟨kvs, k, e, _, _⟩ | ⟨kvs, k, b, e, _, _, _⟩
  · obtain ⟨_, _, vs, _, dd⟩ := dk_rd I.hok e
    exact dd.typeIs
  · obtain ⟨_, _, xs, _, dd⟩ := dt_rd I.hok e
    exact dd.typeIs
def tDGet (td ty : TE) : TE := fun σ H Q => td σ H fun x H1 => ty σ H1 fun y H2 => ∃ a v, x = .ref a ∧ DGet H2 a y (some v) ∧ Q v H2
def tDNotIn (ty td : TE) : TE := fun σ H Q => ty σ H fun y H1 => td σ H1 fun x H2 => ∃ a o, x = .ref a ∧ DGet H2 a y o ∧ Q (.bl (!o.isSome)) H2
def sDPut (td ty tv : TE) : TS := fun D σ H => tv σ H fun v H1 => td σ H1 fun x H2 => ty σ H2 fun y H3 => ∃ a H4, x = .ref a ∧ DPut H3 a y v H4 ∧ D.nx σ H4
section
variable {X : Cx} {o i e value : Expr} {pos pos' tpos : Pos} {td ty tv : TE}
theorem pe_dget (hu : X.A.units + 1 < cLine) (ho : PE X o td) (hi : PE X i ty) (hs : NoSl i) : PE X (.Subscript o i pos) (tDGet td ty) := by
  intro pins s σ H Q I h
  refine subD_of PySem.F.slot_dict_getitem.lookup hs (thn (ho pins s σ H _ I h) fun u s1 ⟨x, H1, I1, rx, q1⟩ => thn (hi pins s1 σ H1 _ I1 q1) fun iv s2 ⟨y, H2, I2, ry, a, v, ex, g, q2⟩ => ?_)
  subst ex
  obtain rfl : u = Value.ref a := rx
  exact ⟨dict_typeIs I2 g, d_getItem hu I2 g ry fun w' s3 I3 rw' => ⟨v, H2, I3, rw', q2⟩⟩
theorem pc_dnotin (hu : X.A.units + 1 < cLine) (hi : PE X i ty) (ho : PE X o td) : PC X .NotIn i o (tDNotIn ty td) := by
  intro pins s σ H Q I h
  refine thn (hi pins s σ H _ I h) fun iv s1 ⟨y, H1, I1, ry, q1⟩ => thn (ho pins s1 σ H1 _ I1 q1) fun u s2 ⟨x, H2, I2, rx, a, ov, ex, g, q2⟩ => ?_
  subst ex
  obtain rfl : u = Value.ref a := rx
  exact d_notIn hu I2 g ry fun s3 I3 => ⟨.bl (!ov.isSome), H2, I3, rfl, q2⟩
theorem ps_dput (hu : X.A.units + 1 < cLine) (ho : PE X o td) (hi : PE X i ty) (hv : PE X value tv) (hs : swapsWith value (some (.Subscript o i pos')) pos.line X.env = pure false) :
    PS X (.Assign [.Subscript o i pos'] value pos) (sDPut td ty tv) := by
  intro pins s σ H D I h
  refine wpAny_Assign_Subscript (thn (hv pins s σ H _ I h) fun r s1 ⟨v, H1, I1, rv, q1⟩ => thn (ho pins s1 σ H1 _ I1 q1) fun u s2 ⟨x, H2, I2, rx, q2⟩ => thn (hi pins s2 σ H2 _ I2 q2) fun iv s3 ⟨y, H3, I3, ry, a, H4, ex, g, q3⟩ => ?_) hs
  subst ex
  obtain rfl : u = Value.ref a := rx
  exact d_setItem hu I3 g ry rv fun s4 I4 => ⟨σ, H4, I4, q3⟩
end
theorem dk_empty {P : Program} {w : World} {H : Hp} (h : Heap) (hb : sysModules < h.objs.size) : ObjOk P w H (h.push { cls := .type "dict", data := .dict #[] }) h.objs.size (.dK []) :=
  ⟨Nat.zero_le _, beq_eq_false_iff_ne.mpr (Ne.symm (Nat.ne_of_lt hb)), [], .nil, Heap.DictOf.new h⟩
theorem dt_empty {P : Program} {w : World} {H : Hp} (h : Heap) (hb : sysModules < h.objs.size) : ObjOk P w H (h.push { cls := .type "dict", data := .dict #[] }) h.objs.size (.dT []) :=
  ⟨Nat.zero_le _, beq_eq_false_iff_ne.mpr (Ne.symm (Nat.ne_of_lt hb)), [], .nil, _, #[], 0, Heap.get?_push_size _ rfl, ⟨rfl, rfl, rfl⟩, rfl, rfl, List.nodup_nil⟩
def tDNewK : TE := fun _ H Q => ∀ p, H p = none → Q (.ref p) (upd H p (.dK []))
def tDNewT : TE := fun _ H Q => ∀ p, H p = none → Q (.ref p) (upd H p (.dT []))
section
variable {X : Cx} {pos : Pos}
theorem pe_dnewK : PE X (.Dict [] [] pos) tDNewK := fun pins s σ H Q I h =>
  wpAny_Dict_empty ⟨.ref s.heap.objs.size, _, I.laid (a := s.heap.objs.size) (o := .dK []) (t' := s.toks) (fun _ _ q => Heap.get?_push_of_some _ q) (Nat.le_refl _) (dk_empty s.heap I.big), rfl, h _ (I.hok.fresh (Nat.le_refl _))⟩
theorem pe_dnewT : PE X (.Dict [] [] pos) tDNewT := fun pins s σ H Q I h =>
  wpAny_Dict_empty ⟨.ref s.heap.objs.size, _, I.laid (a := s.heap.objs.size) (o := .dT []) (t' := s.toks) (fun _ _ q => Heap.get?_push_of_some _ q) (Nat.le_refl _) (dt_empty s.heap I.big), rfl, h _ (I.hok.fresh (Nat.le_refl _))⟩
end
def tPairs : List (TE × TE) → St → Hp → (List (V × V) → Hp → Prop) → Prop
  | [], _, H, Q => Q [] H
  | (tk, tv) :: r, σ, H, Q => tk σ H fun x H1 => tv σ H1 fun y H2 => tPairs r σ H2 fun ps H3 => Q ((x, y) :: ps) H3
abbrev VV : List (V × V) → List (Value × Value) → Prop := Paired fun p q => RelV p.1 q.1 ∧ RelV p.2 q.2
def PPs (X : Cx) (pos : Pos) (keys : List (Option Expr)) (values : List Expr) (trs : List (TE × TE)) : Prop :=
  ∀ (pins : List (Addr × Obj)) (s : Shared) (σ : St) (H : Hp) (Q : List (V × V) → Hp → Prop), Inv X pins σ H s → tPairs trs σ H Q →
    wpAny (model X.prog X.w) X.A (evalPairs (pairTrees keys values X.env pos)) (fun vs s' => ∃ ps H', Inv X pins σ H' s' ∧ VV ps vs ∧ Q ps H') X.xe s
theorem pps_nil {X : Cx} {pos : Pos} : PPs X pos [] [] [] := fun pins s σ H Q I h => pairTrees_nil_walk ⟨[], H, I, .nil, h⟩
theorem pps_cons {X : Cx} {pos : Pos} {k v : Expr} {ks : List (Option Expr)} {vs : List Expr} {tk tv : TE} {trs : List (TE × TE)} (hk : PE X k tk) (hv : PE X v tv) (hr : PPs X pos ks vs trs) :
    PPs X pos (some k :: ks) (v :: vs) ((tk, tv) :: trs) := fun pins s σ H Q I h =>
  pairTrees_cons_walk (thn (hk pins s σ H _ I h) fun u s1 ⟨x, H1, I1, rx, q1⟩ => thn (hv pins s1 σ H1 _ I1 q1) fun w2 s2 ⟨y, H2, I2, ry, q2⟩ =>
    thn (hr pins s2 σ H2 _ I2 q2) fun ws s3 ⟨ps, H3, I3, rel, q3⟩ => ⟨(x, y) :: ps, H3, I3, .cons ⟨rx, ry⟩ rel, q3⟩)
def mergeK (kvs more : List (Key × V)) : List (Key × V) := more.foldl (fun acc kv => putK acc kv.1 kv.2) kvs
theorem KV.merge : ∀ {more : List (Key × V)} {rs : List (Key × Value)} {kvs : List (Key × V)} {vs : List (Key × Value)}, KV more rs → KV kvs vs → KV (mergeK kvs more) (merged vs rs) := by
  intro more rs kvs vs r
  unfold KV at r
  induction r generalizing kvs vs with
  | nil => intro q; exact q
  | @cons p q ps qs h t ih =>
    intro r0
    have e : KV (putK kvs p.1 p.2) (stored vs q.1 q.2) := by
      have := r0.put p.1 h.2
      rw [← h.1]; exact this
    exact ih e
theorem length_mergeK : ∀ (more kvs : List (Key × V)), (mergeK kvs more).length ≤ kvs.length + more.length
  | [], kvs => by show kvs.length ≤ kvs.length + 0; omega
  | p :: r, kvs => by
    have h1 := length_mergeK r (putK kvs p.1 p.2)
    have h2 := length_putK kvs p.1 p.2
    show (mergeK (putK kvs p.1 p.2) r).length ≤ _
    rw [List.length_cons]; omega
theorem carries_of {P : Program} {w : World} : ∀ {kvs : List (Key × V)} {ws : List (Value × Value)}, VV (kvs.map fun kv => (kV kv.1, kv.2)) ws → ∃ rs, Carries (mixKind P w) ws rs ∧ KV kvs rs
  | [], _, r => by rw [List.map_nil] at r; cases r; exact ⟨[], True.intro, .nil⟩
  | p :: kvs, _, r => by
    rw [List.map_cons] at r
    cases r with
    | @cons a b as bs h t =>
      obtain ⟨rs, c, q⟩ := carries_of (P := P) (w := w) t
      obtain ⟨b1, b2⟩ := b
      exact ⟨(p.1, b2) :: rs, ⟨kV_is h.1, rfl, c⟩, .cons ⟨rfl, h.2⟩ q⟩
def tDisp (trs : List (TE × TE)) : TE := fun σ H Q => ∀ p, H p = none → tPairs trs σ (upd H p (.dK [])) fun ps H2 => H2 p = some (.dK []) ∧ ∃ kvs : List (Key × V), ps = kvs.map (fun kv => (kV kv.1, kv.2)) ∧ kvs.length ≤ 15 ∧ Q (.ref p) (upd H2 p (.dK (mergeK [] kvs)))
theorem pe_disp {X : Cx} {pos : Pos} {keys : List (Option Expr)} {values : List Expr} {trs : List (TE × TE)} (h : PPs X pos keys values trs) (hall : keys.all (·.isSome) = true) (hl : keys.length = values.length) (h0 : keys ≠ [])
    (h15 : keys.length ≤ 15) : PE X (.Dict keys values pos) (tDisp trs) := by
  intro pins s σ H Q I q
  have hn := I.hok.fresh (Nat.le_refl s.heap.objs.size)
  have I1 := I.laid (a := s.heap.objs.size) (o := .dK []) (h' := s.heap.push { cls := .type "dict", data := .dict #[] }) (t' := s.toks) (fun _ _ q => Heap.get?_push_of_some _ q) (Nat.le_refl _) (dk_empty s.heap I.big)
  refine wpAny_Dict_walk (knd := mixKind X.prog X.w) hall hl h0 h15 (thn (h pins _ σ _ _ I1 (q _ hn)) fun ws s2 ⟨ps, H2, I2, rel, e, kvs, ep, lk, q2⟩ => ?_)
  subst ep
  obtain ⟨rs, c, rk⟩ := carries_of (P := X.prog) (w := X.w) rel
  obtain ⟨z, hd, vs0, r0, dd⟩ := dk_of I2.hok e
  cases r0
  refine ⟨rs, c, dd, fun h' dd' hs => ⟨.ref s.heap.objs.size, _, ?_, rfl, q2⟩⟩
  have hz : (mergeK [] kvs).length ≤ sizeLine := by
    have h1 := length_mergeK kvs []
    rw [List.length_nil] at h1
    rw [sizeLine_eq]; omega
  have he : ∃ q, h'.get? s.heap.objs.size = some q := let ⟨q, _, _, hq, _⟩ := dd'; ⟨q, hq⟩
  exact d_write I2 (by rw [e]; exact True.intro) hs he (dk_new hz hd (rk.merge .nil) dd')
structure M2 (X : Cx) (o : Expr) (m : Str) (apos : Pos) (e f : Expr) (cpos : Pos) : Prop where
  base : attributeBase o m X.env (eval o X.env) = eval o X.env
  few : ((backTo cpos (starEach [e, f] X.env)).all (fun x => !x.1) && (backToKw cpos (keywordEach [] X.env)).all (fun x => x.1.isSome)
    && decide (([e, f] : List Expr).length + ([] : List Keyword).length + (if ([] : List Keyword).isEmpty then 0 else 1) < 30)) = true
  line : (apos.endLine == cpos.line) = true
  trees : backTo cpos (starEach [e, f] X.env) = [(false, eval e X.env), (false, eval f X.env)]
section
variable {X : Cx} {pins : List (Addr × Obj)} {σ : St} {H : Hp} {s : Shared} {a : Addr} {y d : V} {u r : Value} {o : Option V} {A : Around} {E : Value → Shared → Prop}
end
section
variable {X : Cx} {o e f : Expr} {apos cpos : Pos} {td ty tx : TE}
end
section
variable {X : Cx} {pins : List (Addr × Obj)} {σ : St} {H : Hp} {s : Shared} {a : Addr} {kvs : List (Key × V)} {A : Around} {E : Value → Shared → Prop}
end
section
variable {X : Cx} {pins : List (Addr × Obj)} {σ : St} {H : Hp} {s : Shared} {a : Addr} {y : V} {u : Value} {A : Around} {E : Value → Shared → Prop}
end
end L2
namespace L2
open PySem PySem.Spec PyProof.Rows
section
variable {prog : Program} {w : World} {A : Around} {E : Value → Shared → Prop}
end
section
variable {X : Cx}
theorem refs_at : ∀ {ps : List Addr} {us : List Value}, Vals (ps.map V.ref) us → us = ps.map Value.ref
  | [], us, r => by
    rw [List.map_nil] at r
    cases r
    rfl
  | p :: ps, us, r => by
    rw [List.map_cons] at r
    cases r with
    | cons h t =>
      cases h
      rw [List.map_cons, ← refs_at t]
end
end L2
namespace L2
open PySem PySem.Spec PyProof.Rows
section
variable {X : Cx} {pins : List (Addr × Obj)} {σ : St} {H : Hp} {s : Shared} {h' : Heap}
theorem Inv.lock {d : Addr} {u : HO} (I : Inv X pins σ H s) (h : H d = some u) (mu : Mut (some u)) : ∃ od, Inv X pins σ (upd H d (.frz od u)) s := by
  have x := I.hok d u h
  have ex : ∃ od, s.heap.get? d = some od := by
    cases u with
    | lst xs => obtain ⟨_, _, _, _, e⟩ := x; exact ⟨_, e⟩
    | dK kvs => obtain ⟨_, _, _, _, o, _, _, e, _⟩ := x; exact ⟨o, e⟩
    | dT kvs => obtain ⟨_, _, _, _, o, _, _, e, _⟩ := x; exact ⟨o, e⟩
    | set S n => obtain ⟨o, _, _, _, e, _⟩ := x; exact ⟨o, e⟩
    | ins C dx fs => obtain ⟨_, _, _, e, _⟩ := x; exact ⟨_, e⟩
    | ext φ => obtain ⟨_, ⟨_, e⟩, _⟩ := x; exact ⟨_, e⟩
    | _ => exact False.elim mu
  obtain ⟨od, e⟩ := ex
  have new : ObjOk X.prog X.w (upd H d (.frz od u)) s.heap d (.frz od u) := by
    refine ⟨e, x.stay (fun b v _ q => q) (fun b q => ?_) fun b xs q => ?_⟩
    · rw [upd_ne (fun z => by rw [z, h] at q; cases q; exact mu)]; exact q
    · rw [upd_ne (fun z => by rw [z, h] at q; cases q; exact mu)]; exact q
  exact ⟨od, I.write (x := d) (e := d) (t' := s.toks) (h' := s.heap) (by rw [h]; exact mu) (.inl rfl) (fun b v _ q => q) ⟨od, e⟩ new⟩
theorem Inv.nofrz {d : Addr} {u : HO} (I : Inv X pins σ H s) (h : H d = some u) (mu : Mut (some u)) : ∀ o' u', X.H_0 d ≠ some (.frz o' u') := fun o' u' e => by
  have q := I.base.frzs d o' u' e
  rw [h] at q
  cases q
  exact mu
theorem Inv.unlock {d : Addr} {od : Obj} {u : HO} (I : Inv X pins σ H s) (h : H d = some (.frz od u)) (hn : ∀ o' u', X.H_0 d ≠ some (.frz o' u')) : Inv X pins σ (upd H d u) s := by
  have neH : ∀ b o, H b = some o → (∀ o' u', o ≠ .frz o' u') → b ≠ d := fun b o e hne z => by
    rw [z, h] at e
    cases e
    exact hne _ _ rfl
  have neN : ∀ b, H b = none → b ≠ d := fun b e z => by rw [z, h] at e; cases e
  refine ⟨I.ok, I.os, I.bare, ⟨I.base.keep, I.base.slot, fun b o e n hx => ?_, I.base.there, fun b xs e => ?_, fun b o x e => ?_, fun b ps e => ?_⟩, I.loc, I.cell, ?_, fun x c e => ?_, fun p hp => ?_, fun b o e => ?_, I.len⟩
  · rw [upd_ne (neN b (I.base.free b o e n hx))]; exact I.base.free b o e n hx
  · have q := I.base.tups b xs e
    rw [upd_ne (neH b _ q (fun _ _ z => nomatch z))]; exact q
  · have q := I.base.frzs b o x e
    rw [upd_ne (fun z => by rw [z] at e; exact hn _ _ e)]; exact q
  · obtain ⟨m, q⟩ := I.base.tbls b ps e
    exact ⟨m, by rw [upd_ne (neH b _ q (fun _ _ z => nomatch z))]; exact q⟩
  · rw [upd_ne (neN _ I.free)]; exact I.free
  · rw [upd_ne (neN c (I.freeC x c e))]; exact I.freeC x c e
  · obtain ⟨e, n, r⟩ := I.pin p hp
    exact ⟨e, by rw [upd_ne (neN _ n)]; exact n, r⟩
  · by_cases hb : b = d
    · rw [hb, upd_same] at e
      cases e
      rw [hb]
      obtain ⟨_, x⟩ := I.hok d _ h
      exact x.stay (fun c v _ q => q) (fun c q => by rw [upd_ne (neH c _ q (fun _ _ z => nomatch z))]; exact q) fun c xs q => by rw [upd_ne (neH c _ q (fun _ _ z => nomatch z))]; exact q
    · rw [upd_ne hb] at e
      exact (I.hok b o e).stay (fun c v _ q => q) (fun c q => by rw [upd_ne (neH c _ q (fun _ _ z => nomatch z))]; exact q) fun c xs q => by rw [upd_ne (neH c _ q (fun _ _ z => nomatch z))]; exact q
end
def tLock (t : TS) : TS := fun D σ H => ∃ d u, H d = some u ∧ Mut (some u) ∧ ∀ od, t ⟨fun σ' H' => H' d = some (.frz od u) ∧ D.nx σ' (upd H' d u), fun v H' => H' d = some (.frz od u) ∧ D.rt v (upd H' d u), fun σ' H' => H' d = some (.frz od u) ∧ D.bk σ' (upd H' d u), fun σ' H' => H' d = some (.frz od u) ∧ D.ct σ' (upd H' d u)⟩ σ (upd H d (.frz od u))
section
variable {X : Cx}
theorem ps_lock {st : Stmt} {t : TS} (h : PS X st t) : PS X st (tLock t) := by
  intro pins s σ H D I hw
  obtain ⟨d, u, hd, mu, hw⟩ := hw
  obtain ⟨od, I1⟩ := I.lock hd mu
  refine thn (h pins s σ _ _ I1 (hw od)) fun f s1 q => ?_
  cases f with
  | next => obtain ⟨σ', H', I2, e, q⟩ := q; exact ⟨σ', _, I2.unlock e (I.nofrz hd mu), q⟩
  | brk => obtain ⟨σ', H', I2, e, q⟩ := q; exact ⟨σ', _, I2.unlock e (I.nofrz hd mu), q⟩
  | cont => obtain ⟨σ', H', I2, e, q⟩ := q; exact ⟨σ', _, I2.unlock e (I.nofrz hd mu), q⟩
  | ret v => obtain ⟨x, σ', H', I2, r, e, q⟩ := q; exact ⟨x, σ', _, I2.unlock e (I.nofrz hd mu), r, q⟩
theorem pi_one {tg : Expr} {pins : List (Addr × Obj)} {σ : St} {H : Hp} {s : Shared} {R : It → Hp → Prop} {J : It} {tn : Nat → Heap → Prop} {tk : Nat} (I : Inv X pins σ H s) (o : Obj)
    (T : Turn X.prog X.w X.K tg J [s.heap.objs.size] s.heap.objs.size tn) (st : tn 0 (s.heap.push o)) (q : R J H) : PIE X pins σ tg R (.ref s.heap.objs.size) { s with heap := s.heap.push o, toks := tk } := by
  refine ⟨s.heap.objs.size, [s.heap.objs.size], tn, J, H, rfl, I.kept fun b ob e => Heap.get?_push_of_some _ e, T, st, fun b hb => ?_, q⟩
  have e : b = s.heap.objs.size := by simpa using hb
  subst e
  exact I.fpOk (Nat.le_refl _) (I.hok.fresh (Nat.le_refl _))
end
section
variable {X : Cx} {tg : Expr}
end
section
variable {X : Cx} {tg : Expr}
end
section
variable {prog : Program} {w : World} {A : Around} {E : Value → Shared → Prop} {s : Shared}
theorem iter_keys {d : Addr} {o : Obj} {es : Array DictEntry} {ep : Nat} {Q : Value → Shared → Prop} (hd : (d == sysModules) = false) (ho : s.heap.get? d = some o) (hc : o.ExactDict) (hdat : o.data = .dict es ep)
    (hQ : Q (.ref s.heap.objs.size) { s with heap := s.heap.push { cls := .type "dict_keyiterator", data := .fields #[.ref d, .int 0 0, .int es.size 0, .int ep 0] } }) :
    wpAny (model prog w) A (pyIter (.ref d)) Q E s := by
  have hT : s.TypeIs (.ref d) "dict" := ⟨o, ho, hc.1⟩
  refine wpAny_pyIter_slot hT F.slot_dict_iter (wpAny_call_entry F.slot_dict_iter hT F.entry_dict_iter ?_ (F.args_dict_iter_1 _))
  unfold Builtin.«dict.__iter__»
  refine wpAny_bind ?_
  unfold Builtin.Dict.dictSlotNone
  refine wpAny_bind (wpAny_notOrdered_dict hT ?_)
  show wpAny _ _ (pure (Value.ref d)) _ _ s
  refine wpAny_pure ?_
  show wpAny _ _ (Builtin.Dict.showsAll d >>= _) _ _ s
  unfold Builtin.Dict.showsAll
  rw [if_neg (by rw [hd]; exact Bool.false_ne_true)]
  refine wpAny_bind (wpAny_pure ?_)
  refine wpAny_bind (wpAny_dictEntries ho hdat ?_)
  refine wpAny_bind (wpAny_dictEpoch ho hdat ?_)
  refine wpAny_bind (wpAny_newObj_type (wpAny_pure ⟨_, rfl, "dict_keyiterator", _, ⟨_, Heap.get?_push_size _ rfl, rfl⟩, F.slot_dict_keyiterator_next.lookup, ?_⟩))
  simpa [rawInt] using hQ
theorem next_key_item {it d : Addr} {i n ep : Nat} {od : Obj} {es : Array DictEntry} {en : DictEntry} {Q : Option Value → Shared → Prop} (hit : s.heap.IsKeyIter it d i n ep) (hod : s.heap.get? d = some od) (hdd : od.data = .dict es ep)
    (hsz : es.size = n) (hx : es[i]? = some en) (hQ : ∀ h', h'.IsKeyIter it d (i + 1) n ep → Heap.SameBut it s.heap h' → Q (some en.key) { s with heap := h' }) : wpAny (model prog w) A (pyNext (.ref it)) Q E s := by
  obtain ⟨o, ho, hc, hd⟩ := id hit
  unfold pyNext
  refine wpAny_bind (wpAny_attempt (wpAny_callSpecial?_slot (name := Str.ofString "__next__") hit.typeIs F.slot_dict_keyiterator_next
    (wpAny_call_entry F.slot_dict_keyiterator_next hit.typeIs F.entry_dict_keyiterator_next ?_ (F.args_dict_keyiterator_next_1 _))))
  refine wpAny_bind (wpAny_pure ?_)
  refine wpAny_bind ?_
  refine wpAny_bind ?_
  first | refine wpAny_bind (wpAny_typeNameOfWhole_keyiter hit.typeIs (wpAny_pure ?_)) | refine wpAny_bind (wpAny_typeNameOf_keyiter hit.typeIs (wpAny_pure ?_))
  refine wpAny_bind (wpAny_fieldsOf ho hd ?_)
  have hown : Builtin.Dict_items.ownsTuple "dict_keyiterator" = false := by decide
  simp only [hown, Bool.false_eq_true, if_false]
  show wpAny _ _ (if (Value.ref d == Value.none) = true then _ else _) _ _ s
  rw [if_neg (show ¬ ((Value.ref d == Value.none) = true) from Bool.false_ne_true)]
  refine wpAny_bind (wpAny_pure ?_)
  refine wpAny_bind (wpAny_dictEntries hod hdd ?_)
  rw [if_neg (by rw [hsz]; simp)]
  refine wpAny_bind (wpAny_pure ?_)
  refine wpAny_bind (wpAny_dictEpoch hod hdd ?_)
  rw [if_neg (by simp)]
  refine wpAny_pure ?_
  obtain ⟨hlt', hen⟩ := Array.getElem?_eq_some_iff.mp hx
  simp only [show ¬ ((i : Int) < 0) from by omega, if_false, Int.toNat_natCast, Array.getElem?_eq_getElem hlt']
  refine wpAny_bind ?_
  first | refine wpAny_bind (wpAny_typeNameOfWhole_keyiter hit.typeIs (wpAny_pure ?_)) | refine wpAny_bind (wpAny_typeNameOf_keyiter hit.typeIs (wpAny_pure ?_))
  refine wpAny_bind (wpAny_isOneOf_keyiter hit.typeIs ?_)
  show wpAny _ _ (setField (.ref it) 1 (rawInt ((i : Int) + 1)) >>= _) _ _ s
  refine wpAny_bind (wpAny_setField ho hd (by simp) ?_)
  have hit' : (s.heap.update it (Obj.mapFields (·.setIfInBounds 1 (rawInt ((i : Int) + 1))))).IsKeyIter it d (i + 1) n ep :=
    ⟨_, Heap.get?_update_self _ ho (Obj.isFreed_of_fields (Obj.data_mapFields hd _)), (Obj.cls_mapFields ..).trans hc, by rw [Obj.data_mapFields hd]; simp [rawInt]⟩
  refine wpAny_bind (wpAny_holding ?_)
  refine wpAny_bind (wpAny_isOneOf_keyiter (s := { s with heap := s.heap.update it (Obj.mapFields (·.setIfInBounds 1 (rawInt ((i : Int) + 1)))) }) hit'.typeIs ?_)
  show wpAny _ _ (pure es[i].key) _ _ _
  rw [hen]
  exact wpAny_pure (wpAny_pure ⟨_, rfl, wpAny_pure (hQ _ hit' (Heap.SameBut.update ..))⟩)
theorem next_key_end {it d : Addr} {i n ep : Nat} {od : Obj} {es : Array DictEntry} {Q : Option Value → Shared → Prop} (hh : A.handled = none) (hit : s.heap.IsKeyIter it d i n ep) (hod : s.heap.get? d = some od) (hdd : od.data = .dict es ep)
    (hsz : es.size = n) (hge : n ≤ i) (hQ : ∀ h', Heap.ExtBut it s.heap h' → Q none { s with heap := h' }) : wpAny (model prog w) A (pyNext (.ref it)) Q E s := by
  obtain ⟨o, ho, hc, hd⟩ := id hit
  unfold pyNext
  refine wpAny_bind (wpAny_attempt (wpAny_callSpecial?_slot (name := Str.ofString "__next__") hit.typeIs F.slot_dict_keyiterator_next
    (wpAny_call_entry F.slot_dict_keyiterator_next hit.typeIs F.entry_dict_keyiterator_next ?_ (F.args_dict_keyiterator_next_1 _))))
  refine wpAny_bind (wpAny_pure ?_)
  refine wpAny_bind ?_
  refine wpAny_bind ?_
  first | refine wpAny_bind (wpAny_typeNameOfWhole_keyiter hit.typeIs (wpAny_pure ?_)) | refine wpAny_bind (wpAny_typeNameOf_keyiter hit.typeIs (wpAny_pure ?_))
  refine wpAny_bind (wpAny_fieldsOf ho hd ?_)
  have hown : Builtin.Dict_items.ownsTuple "dict_keyiterator" = false := by decide
  simp only [hown, Bool.false_eq_true, if_false]
  show wpAny _ _ (if (Value.ref d == Value.none) = true then _ else _) _ _ s
  rw [if_neg (show ¬ ((Value.ref d == Value.none) = true) from Bool.false_ne_true)]
  refine wpAny_bind (wpAny_pure ?_)
  refine wpAny_bind (wpAny_dictEntries hod hdd ?_)
  rw [if_neg (by rw [hsz]; simp)]
  refine wpAny_bind (wpAny_pure ?_)
  refine wpAny_bind (wpAny_dictEpoch hod hdd ?_)
  rw [if_neg (by simp)]
  refine wpAny_pure ?_
  have hge' : es.size ≤ i := by rw [hsz]; exact hge
  simp only [show ¬ ((i : Int) < 0) from by omega, if_false, Int.toNat_natCast, Array.getElem?_eq_none hge']
  refine wpAny_bind ?_
  first | refine wpAny_bind (wpAny_typeNameOfWhole_keyiter hit.typeIs (wpAny_pure ?_)) | refine wpAny_bind (wpAny_typeNameOf_keyiter hit.typeIs (wpAny_pure ?_))
  show wpAny _ _ (setField (.ref it) 0 .none >>= _) _ _ s
  refine wpAny_bind (wpAny_setField ho hd (by simp) ?_)
  show wpAny _ _ (newExc (.type "StopIteration") [] >>= _) _ _ _
  refine wpAny_bind ?_
  simp only [newExc, newTuple]
  refine wpAny_bind (wpAny_newObj_type ?_ (by size_fits))
  refine wpAny_bind (m := firstArgMember _ _) (wpAny_of_eq (a := Value.none) (by first | rfl | (simp only [firstArgMember]; rfl)) ?_)
  refine wpAny_newObj_type ?_ (by size_fits)
  simp only [raiseNew]
  refine wpAny_bind (wpAny_handled ?_)
  rw [show A.in1.handled = none from hh]
  refine wpAny_bind (wpAny_pure (wpAny_throw ?_))
  refine wpAny_bind (wpAny_isInstance (T := "StopIteration") (b := true) ⟨_, Heap.get?_push_size _ rfl, rfl⟩ isSubtype_stop ?_)
  exact wpAny_pure (hQ _ (((Heap.SameBut.update ..).extBut.push _).push _))
end
theorem paired_get {α β : Type} {G : α → β → Prop} {l₁ : List α} {l₂ : List β} (h : Paired G l₁ l₂) : ∀ {i : Nat} {a : α}, l₁[i]? = some a → ∃ b, l₂[i]? = some b ∧ G a b := by
  induction h with
  | nil => intro i a e; simp at e
  | @cons a b l₁ l₂ r t ih =>
    intro i a' e
    cases i with
    | zero =>
      simp only [List.getElem?_cons_zero, Option.some.injEq] at e
      subst e
      exact ⟨b, rfl, r⟩
    | succ j =>
      simp only [List.getElem?_cons_succ] at e ⊢
      exact ih e
section
variable {X : Cx} {pins : List (Addr × Obj)} {σ : St} {H : Hp} {s : Shared} {d : Addr} {o : Obj}
end
theorem dict_ep {o : Obj} {es es' : Array DictEntry} {ep ep' : Nat} (h : o.data = .dict es ep) (h' : o.data = .dict es' ep') : es' = es ∧ ep' = ep := by
  rw [h] at h'
  cases h'
  exact ⟨rfl, rfl⟩
section
variable {P : Program} {w : World} {K : PySem.W.Frag} {tg : Expr} {d : Addr} {o : Obj} {es : Array DictEntry} {ep : Nat}
end
section
variable {X : Cx} {tg e : Expr} {td : TE} {apos cpos : Pos}
end
end L2
section
namespace Bits
open PySem PyProof.Rows
end Bits
end
section
namespace TL
open PySem PySem.Builtin PySem.Builtin.Str PySem.StrLaws
end TL
end
namespace L2
open PySem PySem.Spec PyProof.Rows
section
variable {X : Cx} {pins : List (Addr × Obj)} {σ : St} {H : Hp} {s : Shared} {Q : VK}
end
section
variable {X : Cx}
end
section
variable {X : Cx} {o e : Expr} {to te : TE}
end
end L2
namespace L2
open PySem PySem.Spec PyProof.Rows
section
variable {X : Cx}
end
end L2
namespace Att
open PySem PySem.W PySem.Calls PyProof.Rows
section
variable {prog : Program} {w : World} {A : Around} {E : Value → Shared → Prop} {s : Shared} {K : Frag}
end
end Att
namespace L2
open PySem PySem.Spec PyProof.Rows
end L2
namespace L2
open PySem PySem.Spec PyProof.Rows
end L2
namespace L2
open PySem PySem.Spec PyProof.Rows
def inClass (s : Stmt) (j : Nat) : Stmt := match s with
  | .ClassDef _ _ _ body _ _ _ _ _ _ _ => body.getD j (.Pass ⟨0, 0, 0, 0⟩)
  | _ => .Pass ⟨0, 0, 0, 0⟩
def defArgs (s : Stmt) : Arguments := match s with
  | .FunctionDef _ a _ _ _ _ _ _ _ _ => a
  | _ => { posonlyargs := [], args := [], vararg := none, kwonlyargs := [], kw_defaults := [], kwarg := none, defaults := [] }
def defBody (s : Stmt) : List Stmt := match s with
  | .FunctionDef _ _ b _ _ _ _ _ _ _ => b
  | _ => []
def defScope (s : Stmt) : Scope := match s with
  | .FunctionDef _ _ _ _ _ _ sc _ _ _ => sc
  | _ => { kind := .function, names := [], isGenerator := false, isCoroutine := false }
abbrev CX0 : CXT := fun _ _ _ _ _ _ => False
abbrev E0 : XK := fun _ _ _ => False
theorem pass0 {X : Cx} : Passes CX0 X E0 := fun _ _ _ _ _ _ _ h => h.elim
structure Fun (K : PySem.W.Frag) (x qual : Str) (st : Stmt) (f : Addr) (fd : FuncData) : Prop where
  ex : ∃ (oc : Value) (od : Option Addr) (kV doc pm : Value) (an : Option Addr) (cdv ct : Value) (osl : Array (Option Value)),
    fd = PySem.W.fnOf x qual (defArgs st) (defBody st) (defScope st) .none kV doc pm an cdv ct ∧ K.lookup f = some ⟨oc, od, .func fd, osl⟩ ∧ PySem.W.codeIn K cdv qual = true
  kp : PySem.W.keepIn K (.ref f) = true
section
variable {P : Program} {w : World} {K : PySem.W.Frag} {mg : Str → Option Value} {base : Heap}
theorem Fun.ok {x qual : Str} {st : Stmt} {f : Addr} {fd : FuncData} {N ps : List Str} {k : Nat} {sp : Sp} (F : Fun K x qual st f fd) (S : FnScope N ps (defScope st)) (len : ∀ vs H Q E, sp vs H Q E → vs.length = ps.length)
    (hbody : ∀ (cdv : Value) (A : Around) (outer : List Env) (s : Shared) (H : Hp) (vs : List V) (Q : VK) (E : XK), Room k (A.deeper (envOfC qual (defScope st) s.heap.objs.size f cdv)) → sp vs H Q E →
      ∃ t, PSs (cxOf CX0 P w K mg base N qual (defScope st) f cdv A outer s H E).nox (defBody st) t ∧ t { nx := fun _ H' => Q .non H', rt := Q } (start N vs) H) : FnOk P w K mg base CX0 (k + 1) f fd ps sp := by
  obtain ⟨oc, od, kV, doc, pm, an, cdv, ct, osl, rfl, lk, hcd⟩ := F.ex
  refine fn_of lk hcd S len fun A outer s H vs Q E hr hsp => ?_
  obtain ⟨t, h, q⟩ := hbody cdv A outer s H vs Q E hr hsp
  exact ⟨t, h.nox, q⟩
theorem Fun.binds {x qual : Str} {st : Stmt} {f : Addr} {fd : FuncData} {ps : List Str} (F : Fun K x qual st f fd)
    (h : ∀ (kV doc pm : Value) (an : Option Addr) (cdv ct : Value) (us : List Value), us.length = ps.length → bindArgs (PySem.W.fnOf x qual (defArgs st) (defBody st) (defScope st) .none kV doc pm an cdv ct) ⟨us, []⟩ = pure (ps.zip us)) : Binds K fd ps [] := by
  obtain ⟨oc, od, kV, doc, pm, an, cdv, ct, osl, rfl, lk, hcd⟩ := F.ex
  exact .all (h kV doc pm an cdv ct)
theorem fun_mk {x qual : Str} {st : Stmt} {f : Addr} {oc : Value} {od an : Option Addr} {osl : Array (Option Value)} {kV doc pm cdv ct : Value} (l : K.lookup f = some ⟨oc, od, .func (PySem.W.fnOf x qual (defArgs st) (defBody st) (defScope st) .none kV doc pm an cdv ct), osl⟩)
    (c : PySem.W.codeIn K cdv qual = true) (k : PySem.W.keepIn K (.ref f) = true) : Fun K x qual st f (PySem.W.fnOf x qual (defArgs st) (defBody st) (defScope st) .none kV doc pm an cdv ct) := ⟨⟨oc, od, kV, doc, pm, an, cdv, ct, osl, rfl, l, c⟩, k⟩
end
theorem hu_of {A : Around} {k : Nat} (hr : Room k A) : A.units + 1 < cLine := Nat.lt_of_le_of_lt (Nat.add_le_add_left (by decide : 1 ≤ 64) _) hr.units
section
variable {X : Cx}
theorem pv (i : Nat) {x : Str} {pos : Pos} (hN : X.N[i]? = some x := by rfl) (hv : Vis X.env.scope x := by first | exact Or.inl rfl | exact Or.inr (Or.inl rfl) | exact Or.inr (Or.inr rfl)) (hd : (x == ("__debug__" : Str)) = false := by decide)
    (hcd : (x == ("__classdict__" : Str)) = false := by decide) : PE X (.Name x pos) (tVar i) := pe_var hN hv hd hcd
end
theorem iteF {A B : Prop} (h : B) : if false = true then A else B := by
  rw [if_neg Bool.false_ne_true]
  exact h
theorem iteT {A B : Prop} (h : A) : if true = true then A else B := by
  rw [if_pos rfl]
  exact h
theorem ite2 {c A B : Prop} [Decidable c] (h1 : c → A) (h2 : ¬ c → B) : if c then A else B := by
  by_cases h : c
  · rw [if_pos h]
    exact h1 h
  · rw [if_neg h]
    exact h2 h
def Same (H H' : Hp) : Prop := ∀ b o, H b = some o → H' b = some o
theorem Same.trans {H H1 H2 : Hp} (a : Same H H1) (b : Same H1 H2) : Same H H2 := fun c o h => b c o (a c o h)
theorem Same.free {H H' : Hp} (e : Same H H') {l : Addr} (h : H' l = Option.none) : H l = Option.none := by
  cases q : H l with
  | none => rfl
  | some o =>
    rw [e l o q] at h
    cases h
theorem Same.seq {K : PySem.W.Frag} {H H' : Hp} {a : Addr} {xs : List V} (e : Same H H') (h : SqL K H a xs) : SqL K H' a xs := by
  rcases h with (h | ⟨o, h⟩) | h
  · exact .inl (.inl (e _ _ h))
  · exact .inl (.inr ⟨o, e _ _ h⟩)
  · exact .inr h
section
variable {κ : Type} [DecidableEq κ]
theorem nd_snoc : ∀ {l : List κ} {k : κ}, l.Nodup → ¬ k ∈ l → (l ++ [k]).Nodup
  | [], k, _, _ => by simp
  | a :: r, k, h, hk => by
    obtain ⟨h1, h2⟩ := List.nodup_cons.mp h
    show (a :: (r ++ [k])).Nodup
    refine List.nodup_cons.mpr ⟨fun m => ?_, nd_snoc h2 fun m => hk (List.mem_cons.mpr (Or.inr m))⟩
    rcases List.mem_append.mp m with q | q
    · exact h1 q
    · exact hk (List.mem_cons.mpr (Or.inl (List.mem_singleton.mp q).symm))
end
theorem at_of {xs : List V} {z : Int} {j : Nat} {v : V} (e : z = (j : Int)) (h : xs[j]? = some v) : atI xs z = some v := by
  rw [e]
  exact atI_nat h
theorem Same.made {H H1 : Hp} {x dx C : Addr} (nx : H x = Option.none) (nd : H dx = Option.none) (k : ∀ b o, (upd (upd H dx (.own x)) x (.ins C dx [])) b = some o → b ≠ x → H1 b = some o) : Same H H1 := fun b o e =>
  k b o (by rw [upd_ne (ne_of_none e nx), upd_ne (ne_of_none e nd)]; exact e) (ne_of_none e nx)
end L2
end
section
section
set_option Elab.async false
set_option linter.all false
set_option maxRecDepth 100000
set_option maxHeartbeats 2000000
namespace L2
open PySem PySem.Spec PyProof.Rows
open PySem.W (WData Codec OpenSpec Well WellAll ReadsW ReadsAllW)
mutual
inductive Dw (K : PySem.W.Frag) (H : Hp) : V → WData → Prop
  | non : Dw K H .non .none
  | bl (b : Bool) : Dw K H (.bl b) (.bool b)
  | int (i : Int) : Dw K H (.int i) (.int i)
  | str (x : Str) : Dw K H (.str x) (.str x)
  | byt (b : Array UInt8) : Dw K H (.byt b) (.bytes b.toList)
  | lst {a : Addr} {xs : List V} {ds : List WData} : SqL K H a xs → DwAll K H xs ds → Dw K H (.ref a) (.list ds)
  | tup {a : Addr} {xs : List V} {ds : List WData} : SqT K H a xs → DwAll K H xs ds → Dw K H (.ref a) (.tuple ds)
inductive DwAll (K : PySem.W.Frag) (H : Hp) : List V → List WData → Prop
  | nil : DwAll K H [] []
  | cons {v : V} {vs : List V} {d : WData} {ds : List WData} : Dw K H v d → DwAll K H vs ds → DwAll K H (v :: vs) (d :: ds)
end
theorem dw_ints {K : PySem.W.Frag} {H : Hp} : ∀ ns : List Int, DwAll K H (ns.map V.int) (ns.map WData.int)
  | [] => .nil
  | n :: r => .cons (.int n) (dw_ints r)
theorem ints_dw {K : PySem.W.Frag} {H : Hp} : ∀ (ns : List Int) (xs : List V), DwAll K H xs (ns.map WData.int) → xs = ns.map V.int
  | [], xs, h => by
    cases h
    rfl
  | n :: r, xs, h => by
    cases h with
    | cons h1 h2 =>
      cases h1
      rw [ints_dw r _ h2] <;> rfl
section
variable {P : Program} {w : World} {K : PySem.W.Frag} {H : Hp} {h : Heap} {R : PySem.W.WRecords} {cl : Str → Option Addr}
theorem sqL_at {a : Addr} {xs : List V} (hok : HOk P w H h) (KX : K.In h) (q : SqL K H a xs) : ∃ (its : List Value) (o : Obj) (n : Nat), Vals xs its ∧ h.get? a = some o ∧ o.cls = .type "list" ∧ o.data = .seq its.toArray n := by
  rcases q with q | ⟨o, its, n, e, hc, _, hd, _, hv⟩
  · obtain ⟨_, its, n, hv, e⟩ := (show ObjOk P w H h a (.lst xs) from q.ok hok)
    exact ⟨its, _, n, hv, e, rfl, rfl⟩
  · exact ⟨its.toList, o, n, hv, KX _ _ e, hc, by simp [hd]⟩
theorem sqT_at {a : Addr} {xs : List V} (hok : HOk P w H h) (KX : K.In h) (q : SqT K H a xs) : ∃ (its : List Value) (o : Obj) (n : Nat), Vals xs its ∧ h.get? a = some o ∧ o.cls = .type "tuple" ∧ o.data = .seq its.toArray n := by
  rcases q with q | ⟨o, its, n, e, hc, hd, _, hv⟩
  · obtain ⟨_, its, hv, o, e, hc, n, hd⟩ := (show ObjOk P w H h a (.tup xs) from q.ok hok)
    exact ⟨its, o, n, hv, e, hc, hd⟩
  · exact ⟨its.toList, o, n, hv, KX _ _ e, hc, by simp [hd]⟩
mutual
theorem Dw.reads (hok : HOk P w H h) (KX : K.In h) : ∀ (d : WData) (v : V) (u : Value), Dw K H v d → RelV v u → ∃ as, ReadsW R cl h u d as
  | .none, _, _, x, r => by
    cases x
    cases r
    exact ⟨_, ReadsW.none⟩
  | .bool b, _, _, x, r => by
    cases x
    cases r
    exact ⟨_, ReadsW.bool b⟩
  | .int i, _, _, x, r => by
    cases x
    obtain ⟨t, rfl⟩ := r
    exact ⟨_, ReadsW.int i t⟩
  | .str s, _, _, x, r => by
    cases x
    obtain ⟨t, rfl⟩ := r
    exact ⟨_, ReadsW.str s t⟩
  | .bytes b, _, _, x, r => by
    cases x
    obtain ⟨t, rfl⟩ := r
    exact ⟨_, ReadsW.bytes _ t⟩
  | .list ds, _, _, x, r => by
    cases x with
    | lst hs ha =>
      cases r
      obtain ⟨its, o, n, rv, ho, hc, hd⟩ := sqL_at hok KX hs
      obtain ⟨as, hr⟩ := Dw.readsAll hok KX ds _ its ha rv
      exact ⟨_, ReadsW.list ho hc hd hr⟩
  | .tuple ds, _, _, x, r => by
    cases x with
    | tup hs ha =>
      cases r
      obtain ⟨its, o, n, rv, ho, hc, hd⟩ := sqT_at hok KX hs
      obtain ⟨as, hr⟩ := Dw.readsAll hok KX ds _ its ha rv
      exact ⟨_, ReadsW.tuple ho hc hd hr⟩
  | .float _, _, _, x, _ => by cases x
  | .dict _, _, _, x, _ => by cases x
  | .bytearray _, _, _, x, _ => by cases x
  | .set _, _, _, x, _ => by cases x
  | .frozenset _, _, _, x, _ => by cases x
  | .obj _ _, _, _, x, _ => by cases x
theorem Dw.readsAll (hok : HOk P w H h) (KX : K.In h) : ∀ (ds : List WData) (vs : List V) (us : List Value), DwAll K H vs ds → Vals vs us → ∃ as, ReadsAllW R cl h us ds as
  | [], _, _, x, r => by
    cases x
    cases r
    exact ⟨_, ReadsAllW.nil⟩
  | d :: ds, _, _, x, r => by
    cases x with
    | cons h1 h2 =>
      cases r with
      | cons r1 r2 =>
        obtain ⟨as, q1⟩ := Dw.reads hok KX d _ _ h1 r1
        obtain ⟨bs, q2⟩ := Dw.readsAll hok KX ds _ _ h2 r2
        exact ⟨_, ReadsAllW.cons q1 q2⟩
end
end
mutual
def plW : WData → Bool
  | .none => true
  | .bool _ => true
  | .int _ => true
  | .str _ => true
  | .bytes _ => true
  | .list xs => plWs xs
  | .tuple xs => plWs xs
  | _ => false
def plWs : List WData → Bool
  | [] => true
  | x :: r => plW x && plWs r
end
theorem plWs_map {α : Type} {f : α → WData} (h : ∀ a, plW (f a) = true) : ∀ l : List α, plWs (l.map f) = true
  | [] => rfl
  | x :: r => by
    show (plW (f x) && plWs (r.map f)) = true
    rw [h x, plWs_map h r] <;> rfl
theorem pl_enc : ∀ (c : Codec) (a : c.denote), plW (c.enc a) = true
  | .unit, _ => rfl
  | .bool, _ => rfl
  | .int _ _, _ => rfl
  | .nat _ _, _ => rfl
  | .u8, _ => rfl
  | .bytes _ _, _ => rfl
  | .text _ _ _ _, _ => rfl
  | .list _ _ c, a => plWs_map (fun x => pl_enc c x) a
  | .pair c d, a => by
    show (plW (c.enc a.1) && (plW (d.enc a.2) && true)) = true
    rw [pl_enc c a.1, pl_enc d a.2] <;> rfl
  | .triple c d e, a => by
    show (plW (c.enc a.1) && (plW (d.enc a.2.1) && (plW (e.enc a.2.2) && true))) = true
    rw [pl_enc c a.1, pl_enc d a.2.1, pl_enc e a.2.2] <;> rfl
  | .option c, none => rfl
  | .option c, some x => pl_enc c x
theorem pl_encAll : ∀ (cs : List Codec) (a : Codec.denoteAll cs), plWs (Codec.encAll cs a) = true
  | [], _ => rfl
  | c :: cs, a => by
    show (plW (c.enc a.1) && plWs (Codec.encAll cs a.2)) = true
    rw [pl_enc c a.1, pl_encAll cs a.2] <;> rfl
theorem weight_mem : ∀ {xs : List WData} {d : WData}, d ∈ xs → d.weight ≤ WData.weightAll xs
  | [], d, h => absurd h (by simp)
  | x :: r, d, h => by
    show d.weight ≤ x.weight + 1 + WData.weightAll r
    rcases List.mem_cons.mp h with e | m
    · rw [e]
      omega
    · have z := weight_mem m
      omega
def toV : Value → V
  | .none => .non
  | .bool b => .bl b
  | .int i _ => .int i
  | .str x _ => .str x
  | .bytes b _ => .byt b
  | .ref a => .ref a
  | _ => .non
def OkU (A : List Addr) : Value → Prop
  | .none => True
  | .bool _ => True
  | .int _ _ => True
  | .str _ _ => True
  | .bytes _ _ => True
  | .ref a => a ∈ A
  | _ => False
theorem OkU.mono {A B : List Addr} (h : ∀ a ∈ A, a ∈ B) : ∀ {u : Value}, OkU A u → OkU B u := fun {u} x => by
  cases u with
  | ref a => exact h a x
  | none => trivial
  | bool b => trivial
  | int i t => trivial
  | str s t => trivial
  | bytes b t => trivial
  | _ => exact False.elim x
theorem relV_toV {A : List Addr} {u : Value} (x : OkU A u) : RelV (toV u) u := by
  cases u with
  | ref a => rfl
  | none => rfl
  | bool b => rfl
  | int i t => exact ⟨t, rfl⟩
  | str s t => exact ⟨t, rfl⟩
  | bytes b t => exact ⟨t, rfl⟩
  | _ => exact False.elim x
theorem vals_toV {A : List Addr} : ∀ {vs : List Value}, (∀ u ∈ vs, OkU A u) → Vals (vs.map toV) vs
  | [], _ => .nil
  | u :: r, h => .cons (relV_toV (h u (List.mem_cons_self ..))) (vals_toV fun x hx => h x (List.mem_cons_of_mem _ hx))
def ArgOb (h : Heap) (A : List Addr) (a : Addr) : Prop := ∃ vs : List Value, vs.length ≤ sizeLine ∧ (∀ u ∈ vs, OkU A u) ∧
  (h.get? a = some { cls := .type "list", data := .seq vs.toArray } ∨ h.get? a = some { cls := .type "tuple", data := .seq vs.toArray })
theorem ArgOb.mono {h : Heap} {A B : List Addr} {a : Addr} (k : ∀ a ∈ A, a ∈ B) (x : ArgOb h A a) : ArgOb h B a := by
  obtain ⟨vs, h1, h2, h3⟩ := x
  exact ⟨vs, h1, fun u hu => (h2 u hu).mono k, h3⟩
theorem wellAll_len {P : Params} {h : Heap} : ∀ {vs : List Value} {ds : List WData}, WellAll P h vs ds → vs.length = ds.length
  | _, _, .nil => rfl
  | _, _, .cons _ b => by
    show _ + 1 = _ + 1
    rw [wellAll_len b]
theorem well_list {P : Params} {h : Heap} {v : Value} {ds : List WData} (x : Well P h v (.list ds)) : ∃ (a : Addr) (vs : List Value), v = .ref a ∧ h.get? a = some { cls := .type "list", data := .seq vs.toArray } ∧ WellAll P h vs ds := by
  cases x with
  | list ho hall => exact ⟨_, _, rfl, ho, hall⟩
theorem well_tuple {P : Params} {h : Heap} {v : Value} {ds : List WData} (x : Well P h v (.tuple ds)) : ∃ (a : Addr) (vs : List Value), v = .ref a ∧ h.get? a = some { cls := .type "tuple", data := .seq vs.toArray } ∧ WellAll P h vs ds := by
  cases x with
  | tuple ho hall => exact ⟨_, _, rfl, ho, hall⟩
theorem well_cons {P : Params} {h : Heap} {us : List Value} {d : WData} {ds : List WData} (x : WellAll P h us (d :: ds)) : ∃ (v : Value) (vs : List Value), us = v :: vs ∧ Well P h v d ∧ WellAll P h vs ds := by
  cases x with
  | cons a b => exact ⟨_, _, rfl, a, b⟩
theorem line_of {n : Nat} (h : n ≤ 1048576) : n ≤ sizeLine := Nat.le_trans h (by decide)
section
variable {P : Params} {h : Heap}
mutual
theorem area_one : ∀ (d : WData) (v : Value), Well P h v d → plW d = true → d.weight ≤ 1048576 → ∃ A : List Addr, OkU A v ∧ ∀ a ∈ A, ArgOb h A a
  | .none, _, x, _, _ => by
    cases x
    exact ⟨[], trivial, fun a m => absurd m (by simp)⟩
  | .bool b, _, x, _, _ => by
    cases x
    exact ⟨[], trivial, fun a m => absurd m (by simp)⟩
  | .int i, _, x, _, _ => by
    cases x
    exact ⟨[], trivial, fun a m => absurd m (by simp)⟩
  | .str s, _, x, _, _ => by
    cases x
    exact ⟨[], trivial, fun a m => absurd m (by simp)⟩
  | .bytes b, _, x, _, _ => by
    cases x
    exact ⟨[], trivial, fun a m => absurd m (by simp)⟩
  | .list ds, _, x, p, z => by
    obtain ⟨a, vs, rfl, ho, hall⟩ := well_list x
    have z2 : WData.weightAll ds ≤ 1048576 := z
    obtain ⟨A, h1, h2⟩ := area_all ds _ hall p fun d hd => Nat.le_trans (weight_mem hd) z2
    have k : ∀ b ∈ A, b ∈ a :: A := fun b hb => List.mem_cons_of_mem _ hb
    refine ⟨a :: A, List.mem_cons_self .., fun b hb => ?_⟩
    rcases List.mem_cons.mp hb with e | m
    · rw [e]
      exact ⟨vs, line_of (by rw [wellAll_len hall]; exact Nat.le_trans (PySem.W.length_le_weightAllW ds) z2), fun u hu => (h1 u hu).mono k, .inl ho⟩
    · exact (h2 b m).mono k
  | .tuple ds, _, x, p, z => by
    obtain ⟨a, vs, rfl, ho, hall⟩ := well_tuple x
    have z2 : WData.weightAll ds ≤ 1048576 := z
    obtain ⟨A, h1, h2⟩ := area_all ds _ hall p fun d hd => Nat.le_trans (weight_mem hd) z2
    have k : ∀ b ∈ A, b ∈ a :: A := fun b hb => List.mem_cons_of_mem _ hb
    refine ⟨a :: A, List.mem_cons_self .., fun b hb => ?_⟩
    rcases List.mem_cons.mp hb with e | m
    · rw [e]
      exact ⟨vs, line_of (by rw [wellAll_len hall]; exact Nat.le_trans (PySem.W.length_le_weightAllW ds) z2), fun u hu => (h1 u hu).mono k, .inr ho⟩
    · exact (h2 b m).mono k
  | .float _, _, _, p, _ => Bool.noConfusion (show false = true from p)
  | .dict _, _, _, p, _ => Bool.noConfusion (show false = true from p)
  | .bytearray _, _, _, p, _ => Bool.noConfusion (show false = true from p)
  | .set _, _, _, p, _ => Bool.noConfusion (show false = true from p)
  | .frozenset _, _, _, p, _ => Bool.noConfusion (show false = true from p)
  | .obj _ _, _, _, p, _ => Bool.noConfusion (show false = true from p)
theorem area_all : ∀ (ds : List WData) (vs : List Value), WellAll P h vs ds → plWs ds = true → (∀ d ∈ ds, d.weight ≤ 1048576) → ∃ A : List Addr, (∀ u ∈ vs, OkU A u) ∧ ∀ a ∈ A, ArgOb h A a
  | [], _, x, _, _ => by
    cases x
    exact ⟨[], fun u m => absurd m (by simp), fun a m => absurd m (by simp)⟩
  | d :: ds, _, x, p, z => by
    obtain ⟨v, vs, rfl, x1, x2⟩ := well_cons x
    have q : plW d = true ∧ plWs ds = true := Bool.and_eq_true_iff.mp p
    obtain ⟨A, a1, a2⟩ := area_one d v x1 q.1 (z d (List.mem_cons_self ..))
    obtain ⟨B, b1, b2⟩ := area_all ds vs x2 q.2 fun e he => z e (List.mem_cons_of_mem _ he)
    have kA : ∀ b ∈ A, b ∈ A ++ B := fun b hb => List.mem_append.mpr (.inl hb)
    have kB : ∀ b ∈ B, b ∈ A ++ B := fun b hb => List.mem_append.mpr (.inr hb)
    refine ⟨A ++ B, fun u hu => ?_, fun b hb => ?_⟩
    · rcases List.mem_cons.mp hu with e | m
      · rw [e]
        exact a1.mono kA
      · exact (b1 u m).mono kB
    · rcases List.mem_append.mp hb with m | m
      · exact (a2 b m).mono kA
      · exact (b2 b m).mono kB
end
end
def hoOf (o : Obj) : Option HO := match o.data with
  | .seq vs _ => if (o.cls == Value.type "list") = true then some (.frz o (.lst (vs.toList.map toV))) else some (.frz o (.tup (vs.toList.map toV)))
  | _ => none
def argH (K : PySem.W.Frag) (h : Heap) (A : List Addr) : Hp := fun b => if b ∈ A then (if (K.lookup b).isNone = true then (h.get? b).bind hoOf else none) else none
def OnlyF (H : Hp) : Prop := ∀ b, H b = none ∨ ∃ o u, H b = some (.frz o u)
theorem hoOf_lst (vs : List Value) : hoOf { cls := .type "list", data := .seq vs.toArray } = some (.frz { cls := .type "list", data := .seq vs.toArray } (.lst (vs.map toV))) := by
  show (if (Value.type "list" == Value.type "list") = true then some (HO.frz { cls := .type "list", data := .seq vs.toArray } (.lst (vs.toArray.toList.map toV))) else some (HO.frz { cls := .type "list", data := .seq vs.toArray } (.tup (vs.toArray.toList.map toV)))) = _
  rw [if_pos (beq_self_eq_true _)]
theorem hoOf_tup (vs : List Value) : hoOf { cls := .type "tuple", data := .seq vs.toArray } = some (.frz { cls := .type "tuple", data := .seq vs.toArray } (.tup (vs.map toV))) := by
  show (if (Value.type "tuple" == Value.type "list") = true then some (HO.frz { cls := .type "tuple", data := .seq vs.toArray } (.lst (vs.toArray.toList.map toV))) else some (HO.frz { cls := .type "tuple", data := .seq vs.toArray } (.tup (vs.toArray.toList.map toV)))) = _
  rw [if_neg (by decide)]
section
variable {P : Program} {w : World} {K : PySem.W.Frag} {h : Heap} {A : List Addr}
theorem argH_at {b : Addr} {o : Obj} (hb : b ∈ A) (hk : K.lookup b = none) (e : h.get? b = some o) : argH K h A b = hoOf o := by
  unfold argH
  rw [if_pos hb, hk, if_pos (show (none : Option Obj).isNone = true from rfl), e] <;> rfl
theorem of_argH {b : Addr} {u : HO} (q : argH K h A b = some u) : b ∈ A ∧ K.lookup b = none := by
  unfold argH at q
  by_cases hb : b ∈ A
  · rw [if_pos hb] at q
    cases hk : K.lookup b with
    | none => exact ⟨hb, rfl⟩
    | some o =>
      rw [hk, if_neg (by simp)] at q
      cases q
  · rw [if_neg hb] at q
    cases q
theorem argH_is (ar : ∀ a ∈ A, ArgOb h A a) {b : Addr} {u : HO} (q : argH K h A b = some u) : K.lookup b = none ∧ ∃ vs : List Value, vs.length ≤ sizeLine ∧ (∀ u ∈ vs, OkU A u) ∧
    ((h.get? b = some { cls := .type "list", data := .seq vs.toArray } ∧ u = .frz { cls := .type "list", data := .seq vs.toArray } (.lst (vs.map toV))) ∨
     (h.get? b = some { cls := .type "tuple", data := .seq vs.toArray } ∧ u = .frz { cls := .type "tuple", data := .seq vs.toArray } (.tup (vs.map toV)))) := by
  obtain ⟨hb, hk⟩ := of_argH q
  obtain ⟨vs, h1, h2, h3⟩ := ar b hb
  refine ⟨hk, vs, h1, h2, ?_⟩
  rcases h3 with e | e
  · rw [argH_at hb hk e, hoOf_lst] at q
    exact .inl ⟨e, (Option.some.inj q).symm⟩
  · rw [argH_at hb hk e, hoOf_tup] at q
    exact .inr ⟨e, (Option.some.inj q).symm⟩
theorem argH_only (ar : ∀ a ∈ A, ArgOb h A a) : OnlyF (argH K h A) := fun b => by
  cases q : argH K h A b with
  | none => exact .inl rfl
  | some u =>
    obtain ⟨_, vs, _, _, ⟨_, e⟩ | ⟨_, e⟩⟩ := argH_is ar q
    · exact .inr ⟨_, _, by rw [e]⟩
    · exact .inr ⟨_, _, by rw [e]⟩
theorem argH_ok (ar : ∀ a ∈ A, ArgOb h A a) : HOk P w (argH K h A) h := fun b u q => by
  obtain ⟨_, vs, h1, h2, ⟨e, rfl⟩ | ⟨e, rfl⟩⟩ := argH_is ar q
  · exact ⟨e, by rw [List.length_map]; exact h1, vs, _, vals_toV h2, e⟩
  · exact ⟨e, by rw [List.length_map]; exact h1, vs, vals_toV h2, _, e, rfl, _, rfl⟩
theorem seq_inj {c c' : Value} {vs us : List Value} (e : (some { cls := c, data := .seq vs.toArray } : Option Obj) = some { cls := c', data := .seq us.toArray }) : c = c' ∧ vs = us := by
  have e1 := Option.some.inj e
  have e2 : c = c' := congrArg Obj.cls e1
  have e3 : Data.seq vs.toArray = Data.seq us.toArray := congrArg Obj.data e1
  injection e3 with e4
  refine ⟨e2, ?_⟩
  have e5 := congrArg Array.toList e4
  simpa using e5
theorem argL (KX : K.In h) (ar : ∀ a ∈ A, ArgOb h A a) {a : Addr} {vs : List Value} (ha : a ∈ A) (e : h.get? a = some { cls := .type "list", data := .seq vs.toArray }) : (∀ u ∈ vs, OkU A u) ∧ SqL K (argH K h A) a (vs.map toV) := by
  obtain ⟨us, h1, h2, h3⟩ := ar a ha
  have hu : us = vs := by
    rcases h3 with q | q
    · rw [e] at q
      exact (seq_inj q).2.symm
    · rw [e] at q
      exact absurd (Value.type.inj (seq_inj q).1) (by decide)
  subst hu
  refine ⟨h2, ?_⟩
  cases hk : K.lookup a with
  | none => exact .inl (.inr ⟨_, by rw [argH_at ha hk e, hoOf_lst]⟩)
  | some o =>
    have e2 := KX a o hk
    rw [e] at e2
    obtain rfl := Option.some.inj e2
    exact .inr ⟨_, us.toArray, _, hk, rfl, rfl, rfl, by rw [List.size_toArray]; exact h1, by simpa using vals_toV h2⟩
theorem argT (KX : K.In h) (ar : ∀ a ∈ A, ArgOb h A a) {a : Addr} {vs : List Value} (ha : a ∈ A) (e : h.get? a = some { cls := .type "tuple", data := .seq vs.toArray }) : (∀ u ∈ vs, OkU A u) ∧ SqT K (argH K h A) a (vs.map toV) := by
  obtain ⟨us, h1, h2, h3⟩ := ar a ha
  have hu : us = vs := by
    rcases h3 with q | q
    · rw [e] at q
      exact absurd (Value.type.inj (seq_inj q).1) (by decide)
    · rw [e] at q
      exact (seq_inj q).2.symm
  subst hu
  refine ⟨h2, ?_⟩
  cases hk : K.lookup a with
  | none => exact .inl (.inr ⟨_, by rw [argH_at ha hk e, hoOf_tup]⟩)
  | some o =>
    have e2 := KX a o hk
    rw [e] at e2
    obtain rfl := Option.some.inj e2
    exact .inr ⟨_, us.toArray, _, hk, rfl, rfl, by rw [List.size_toArray]; exact h1, by simpa using vals_toV h2⟩
mutual
theorem dw_one {Pm : Params} (KX : K.In h) (ar : ∀ a ∈ A, ArgOb h A a) : ∀ (d : WData) (v : Value), Well Pm h v d → plW d = true → OkU A v → Dw K (argH K h A) (toV v) d
  | .none, _, x, _, _ => by
    cases x
    exact .non
  | .bool b, _, x, _, _ => by
    cases x
    exact .bl b
  | .int i, _, x, _, _ => by
    cases x
    exact .int i
  | .str s, _, x, _, _ => by
    cases x
    exact .str s
  | .bytes b, _, x, _, _ => by
    cases x
    have z := Dw.byt (K := K) (H := argH K h A) b.toArray
    exact z
  | .list ds, _, x, p, hu => by
    obtain ⟨a, vs, rfl, ho, hall⟩ := well_list x
    obtain ⟨h2, hs⟩ := argL KX ar hu ho
    exact .lst hs (dw_all KX ar ds _ hall p h2)
  | .tuple ds, _, x, p, hu => by
    obtain ⟨a, vs, rfl, ho, hall⟩ := well_tuple x
    obtain ⟨h2, hs⟩ := argT KX ar hu ho
    exact .tup hs (dw_all KX ar ds _ hall p h2)
  | .float _, _, _, p, _ => Bool.noConfusion (show false = true from p)
  | .dict _, _, _, p, _ => Bool.noConfusion (show false = true from p)
  | .bytearray _, _, _, p, _ => Bool.noConfusion (show false = true from p)
  | .set _, _, _, p, _ => Bool.noConfusion (show false = true from p)
  | .frozenset _, _, _, p, _ => Bool.noConfusion (show false = true from p)
  | .obj _ _, _, _, p, _ => Bool.noConfusion (show false = true from p)
theorem dw_all {Pm : Params} (KX : K.In h) (ar : ∀ a ∈ A, ArgOb h A a) : ∀ (ds : List WData) (vs : List Value), WellAll Pm h vs ds → plWs ds = true → (∀ u ∈ vs, OkU A u) → DwAll K (argH K h A) (vs.map toV) ds
  | [], _, x, _, _ => by
    cases x
    exact .nil
  | d :: ds, _, x, p, hu => by
    obtain ⟨v, vs, rfl, x1, x2⟩ := well_cons x
    have q : plW d = true ∧ plWs ds = true := Bool.and_eq_true_iff.mp p
    exact .cons (dw_one KX ar d v x1 q.1 (hu _ (List.mem_cons_self ..))) (dw_all KX ar ds vs x2 q.2 fun u m => hu u (List.mem_cons_of_mem _ m))
end
end
theorem spec_call {P : Program} {w : World} {K : PySem.W.Frag} {mg mb : Str → Option Value} {CX : CXT} {k : Nat} {fa : Addr} {fd : FuncData} {ps : List Str} {sp : Sp} {s₁ : Shared} {vals : List Value} {ds : List WData} {R : PySem.W.WRecords} {cl : Str → Option Addr} {d0 : WData}
    (KX : K.In s₁.heap) (hns : s₁.heap.Ns mainGlobals mg) (hb : s₁.heap.Ns builtinsNs mb) (hbb : ∀ x : Str, x ≠ "__name__" → mb x = bootBuiltins x) (hlim : s₁.heap.NoLimit) (hg : s₁.gens = #[])
    (hwl : WellAll w.params s₁.heap vals ds) (hpl : plWs ds = true) (hwt : ∀ d ∈ ds, d.weight ≤ 1048576) (hr : Room k callerA)
    (F : ∀ base : Heap, K.In base → base.Ns mainGlobals mg → FnOk P w K mg base CX k fa fd ps sp) (hbind : ∀ (s : Shared) (us : List Value), us.length = ps.length → BindsTo s fd ⟨us, []⟩ (ps.zip us)) (hlen : ds.length = ps.length)
    (hsp : ∀ (H : Hp) (xs : List V), OnlyF H → DwAll K H xs ds → sp xs H (fun v H' => Dw K H' v d0) fun _ _ _ => False)
    (hCX : ∀ H e s', CX [] H s₁ (fun _ _ _ => False) e s' → False) :
    codeAny (model P w) callerA (.call (.ref fa) ⟨vals, []⟩) (fun r s' => ∃ u as, r = .ok (.ret u) ∧ ReadsW R cl s'.heap u d0 as ∧ OldK s₁.heap s'.heap ∧ s'.os = s₁.os ∧ AllBare s'.gens) s₁ := by
  obtain ⟨A, ho, ar⟩ := area_all ds vals hwl hpl hwt
  have hO : OnlyF (argH K s₁.heap A) := argH_only ar
  have hok : HOk P w (argH K s₁.heap A) s₁.heap := argH_ok ar
  have hS := dw_all KX ar ds vals hwl hpl ho
  have hV := vals_toV ho
  have hK : ∀ b u, argH K s₁.heap A b = some u → K.lookup b = none := fun b u q => (argH_is ar q).1
  have noA : ∀ {b : Addr} {o : Obj} {es : Array DictEntry} {ep : Nat}, s₁.heap.get? b = some o → o.data = .dict es ep → argH K s₁.heap A b = none := fun {b o es ep} e d => by
    cases q : argH K s₁.heap A b with
    | none => rfl
    | some u =>
      obtain ⟨_, vs, _, _, ⟨e2, _⟩ | ⟨e2, _⟩⟩ := argH_is ar q
      · rw [e2] at e
        cases e
        have d' : Data.seq vs.toArray _ = Data.dict es ep := d
        cases d'
      · rw [e2] at e
        cases e
        have d' : Data.seq vs.toArray _ = Data.dict es ep := d
        cases d'
  generalize argH K s₁.heap A = H at hO hok hS hK noA
  have base_of : ∀ {b : Addr} {o : Obj}, s₁.heap.get? b = some o → H b = none → (hidT s₁.heap H).get? b = some o := fun e n => hidT_get e n
  have nsK : ∀ {b : Addr} {m : Str → Option Value}, s₁.heap.Ns b m → (hidT s₁.heap H).Ns b m := fun {b m} ⟨o, es, ep, e, d, r⟩ => ⟨o, es, ep, base_of e (noA e d), d, r⟩
  have nK : ∀ b o, K.lookup b = some o → H b = none := fun b o e => by
    cases q : H b with
    | none => rfl
    | some u =>
      rw [hK b u q] at e
      cases e
  have hKb : K.In (hidT s₁.heap H) := fun b o e => base_of (KX b o e) (nK b o e)
  have hM : Mod K mg (hidT s₁.heap H) := ⟨hKb, nsK hns, ⟨mb, nsK hb, hbb⟩, let ⟨mc, h1, h2⟩ := hlim; ⟨mc, nsK h1, h2⟩⟩
  have e0 : Env0 P w K mg (hidT s₁.heap H) callerA [] s₁ H := ⟨rfl, hM, fun b o e => of_hidT e, Nat.le_of_eq (hidT_size _ _), trivial, fun b hb => absurd (show b ∈ ([] : List Addr) from hb) (by simp), hok, .of_eq hg⟩
  have hl : vals.length = ps.length := by rw [wellAll_len hwl]; exact hlen
  refine codeAny_mono ((F _ hKb (nsK hns)).run callerA [] s₁ H ⟨vals, []⟩ vals (vals.map toV) _ _ hr e0 (hbind s₁ vals hl) hV (hsp H _ hO hS)) fun r s' x => ?_
  cases r with
  | error e => exact (hCX H e s' x).elim
  | ok fl =>
    cases fl with
    | next => exact False.elim x
    | brk => exact False.elim x
    | cont => exact False.elim x
    | ret u =>
      obtain ⟨v, H', os, bare, un, hok', r', q⟩ := x
      have kept : ∀ b o, s₁.heap.get? b = some o → s'.heap.get? b = some o := fun b o e => by
        cases q2 : H b with
        | none => exact un.keep b o e q2 (by intro z; exact absurd (show b ∈ ([] : List Addr) from z) (by simp)) (by simp)
        | some u2 =>
          rcases hO b with z | ⟨ob, u3, z⟩
          · rw [q2] at z
            cases z
          · have z2 := un.frzs b ob _ z
            obtain ⟨e1, _⟩ := hok b _ z
            obtain ⟨e2, _⟩ := hok' b _ z2
            rw [e] at e1
            cases e1
            exact e2
      have KX' : K.In s'.heap := fun b o e => kept b o (KX b o e)
      obtain ⟨as, hrd⟩ := Dw.reads (R := R) (cl := cl) hok' KX' d0 v u q r'
      exact ⟨u, as, rfl, hrd, OldK.of_keep kept, os, bare⟩
theorem layable_weight {ds : List WData} (h : WData.layableAll ds = true) : ∀ d ∈ ds, d.weight ≤ 1048576 := fun d hd =>
  (PySem.W.layableW_iff.mp (List.all_eq_true.mp h d hd)).2.2
theorem encAll_len : ∀ (cs : List Codec) (a : Codec.denoteAll cs), (Codec.encAll cs a).length = cs.length
  | [], _ => rfl
  | c :: cs, a => by
    show (Codec.encAll cs a.2).length + 1 = cs.length + 1
    rw [encAll_len cs a.2]
theorem walk_spec {r : OpenSpec} {k : Nat} {q : Program} {loose : List Str} {XP : (Str → Option Value) → Heap → Prop} {YP : World → Heap → Prop} {d : DefRec} {K : Params → PySem.W.Frag} {CX : World → CXT} {ps : List Str} {sp : World → Sp}
    (hwell : r.wellSaid = true) (hdf : d.params.defaults = []) (hlen : r.args.length = ps.length) (hr : Room k callerA)
    (hY : ∀ (w : World) (h : Heap), YP w h → (K w.params).In h)
    (F : ∀ (w : World) (mg : Str → Option Value) (fa : Addr) (h : Heap), YP w h → (K w.params).In h → h.Ns mainGlobals mg → mg d.name = some (.ref fa) →
      ∃ fd : FuncData, (∀ (s : Shared) (us : List Value), us.length = ps.length → BindsTo s fd ⟨us, []⟩ (ps.zip us)) ∧
        ∀ base : Heap, (K w.params).In base → base.Ns mainGlobals mg → FnOk r.prog w (K w.params) mg base (CX w) k fa fd ps (sp w))
    (hsp : ∀ (w : World) (H : Hp) (xs : List V) (a : Codec.denoteAll r.args), OnlyF H → Codec.withinAll r.args a = true → Codec.app r.args r.asked a = true → DwAll (K w.params) H xs (Codec.encAll r.args a) →
      sp w xs H (fun v H' => Dw (K w.params) H' v (r.ret.enc (Codec.app r.args r.f a))) fun _ _ _ => False)
    (hCX : ∀ (w : World) (H : Hp) (s : Shared) (e : Value) (s' : Shared), CX w [] H s (fun _ _ _ => False) e s' → False) :
    PySem.W.WalkOS q loose XP YP r d [] (fun f vs => PySem.call f vs) := by
  intro w s_0 s₁ mg mb G Y fa o pm cd doc dV kV ho hd hcd hD hmg hg args vals as hpre hlay hrd hwl hlo
  obtain ⟨a, e1, e2⟩ := PySem.W.os_pre_some hpre
  obtain ⟨e3, hwi⟩ := Codec.encAll_of_decAll r.args args a e1
  subst e3
  have KX := hY w _ Y
  obtain ⟨fd, hb, hF⟩ := F w mg fa _ Y KX G.T.g hmg
  refine PySem.W.enter_call (codeAny_mono (spec_call (R := []) (cl := classAt s_0.heap) (d0 := r.ret.enc (Codec.app r.args r.f a)) KX G.T.g G.T.b G.T.builtins G.T.nolimit hg hwl (pl_encAll _ _) (layable_weight hlay) hr hF hb (by rw [encAll_len]; exact hlen)
    (fun H xs hO hS => hsp w H xs a hO hwi e2 hS) fun H e s' => hCX w H s₁ e s') fun r' s' hq => ?_)
  obtain ⟨u, as', rfl, h1, h2, h3, h4⟩ := hq
  exact ⟨.inl ⟨u, _, as', rfl, fun _ => rfl, h1, (OpenSpec.post_iff hwell hwi _ _).mpr rfl, fun z => Bool.noConfusion (show false = true from z)⟩, h2, h3, h4⟩
theorem walk_specK {r : OpenSpec} {k : Nat} {q : Program} {loose : List Str} {XP : (Str → Option Value) → Heap → Prop} {YP : World → Heap → Prop} {d : DefRec} {K : Params → PySem.W.Frag} {CX : CXT} {ps : List Str} {sp : PySem.W.Frag → Sp}
    (hwell : r.wellSaid = true) (hdf : d.params.defaults = []) (hlen : r.args.length = ps.length) (hr : Room k callerA)
    (hY : ∀ (w : World) (h : Heap), YP w h → (K w.params).In h)
    (F : ∀ (w : World) (mg : Str → Option Value) (fa : Addr) (h : Heap), YP w h → (K w.params).In h → h.Ns mainGlobals mg → mg d.name = some (.ref fa) →
      ∃ fd : FuncData, (∀ (s : Shared) (us : List Value), us.length = ps.length → BindsTo s fd ⟨us, []⟩ (ps.zip us)) ∧
        ∀ base : Heap, (K w.params).In base → base.Ns mainGlobals mg → FnOk r.prog w (K w.params) mg base CX k fa fd ps (sp (K w.params)))
    (hsp : ∀ (K : PySem.W.Frag) (H : Hp) (xs : List V) (a : Codec.denoteAll r.args), OnlyF H → Codec.withinAll r.args a = true → Codec.app r.args r.asked a = true → DwAll K H xs (Codec.encAll r.args a) →
      sp K xs H (fun v H' => Dw K H' v (r.ret.enc (Codec.app r.args r.f a))) fun _ _ _ => False)
    (hCX : ∀ (H : Hp) (s : Shared) (e : Value) (s' : Shared), CX [] H s (fun _ _ _ => False) e s' → False) :
    PySem.W.WalkOS q loose XP YP r d [] (fun f vs => PySem.call f vs) :=
  walk_spec (K := K) (CX := fun _ => CX) (sp := fun w => sp (K w.params)) hwell hdf hlen hr hY F (fun w H xs a h1 h2 h3 h4 => hsp (K w.params) H xs a h1 h2 h3 h4) fun _ H s e s' => hCX H s e s'
end L2
end
end
section
set_option Elab.async false
set_option linter.all false
set_option maxRecDepth 100000
namespace PySem
section
variable {prog : Program} {w : World} {κ : Type} [DecidableEq κ] (kd : KeyKind prog w κ)
inductive Refs2 (h : Heap) : List (List κ) → List Value → Prop
  | nil : Refs2 h [] []
  | cons {k : List κ} {a : Addr} {ks : List (List κ)} {vs : List Value} : IsTupleKey kd h k a → Refs2 h ks vs → Refs2 h (k :: ks) (.ref a :: vs)
def IsPairKey (h : Heap) (ks : List (List κ)) (a : Addr) : Prop := ∃ o its m, h.get? a = some o ∧ o.cls = .type "tuple" ∧ o.data = .seq its m ∧ Refs2 kd h ks its.toList
variable {kd}
theorem Refs2.one {h : Heap} : ∀ {x y : List (List κ)} {vs : List Value}, Refs2 kd h x vs → Refs2 kd h y vs → x = y
  | _, _, _, .nil, .nil => rfl
  | _, _, _, .cons a r, .cons b q => by rw [a.inj b, r.one q]
theorem IsPairKey.ty {s : Shared} {ks : List (List κ)} {a : Addr} (x : IsPairKey kd s.heap ks a) : s.TypeIs (.ref a) "tuple" := by
  obtain ⟨o, _, _, q, c, _⟩ := x
  exact ⟨o, q, c⟩
theorem IsPairKey.one {h : Heap} {a : Addr} {x y : List (List κ)} (p : IsPairKey kd h x a) (q : IsPairKey kd h y a) : x = y := by
  obtain ⟨o, i1, m1, g1, _, d1, r1⟩ := p
  obtain ⟨u, i2, m2, g2, _, d2, r2⟩ := q
  have e : o = u := Option.some.inj (g1.symm.trans g2)
  rw [e, d2] at d1
  injection d1 with e1 _
  rw [← e1] at r1
  exact r1.one r2
theorem Refs2.stay {h h' : Heap} {d : Addr} {o : Obj} {es ep} (g : h.get? d = some o) (z : o.data = .dict es ep) (e : Heap.SameBut d h h') : ∀ {ks : List (List κ)} {vs : List Value}, Refs2 kd h ks vs → Refs2 kd h' ks vs
  | _, _, .nil => .nil
  | _, _, .cons a r => .cons (a.keeps g z e) (r.stay g z e)
theorem IsPairKey.stay {h h' : Heap} {ks : List (List κ)} {a d : Addr} {o : Obj} {es ep} (x : IsPairKey kd h ks a) (g : h.get? d = some o) (z : o.data = .dict es ep) (e : Heap.SameBut d h h') : IsPairKey kd h' ks a := by
  obtain ⟨u, i1, m1, g1, c1, d1, r1⟩ := x
  have n : a ≠ d := fun q => by
    rw [q, g] at g1
    injection g1 with g1
    rw [← g1, z] at d1
    cases d1
  exact ⟨u, i1, m1, (e.2 a n).trans g1, c1, d1, r1.stay g z e⟩
def drawn2 (ks : List (List κ)) : Nat := (ks.map fun k => k.length + 1).sum
theorem drawn2_snoc (ks : List (List κ)) (k : List κ) : drawn2 (ks ++ [k]) = drawn2 ks + (k.length + 1) := by
  simp [drawn2]
def pairHash (kd : KeyKind prog w κ) (ks : List (List κ)) : Int := reduceHash (Builtin.Tuple.tupleHashOf (ks.map (tupleKeyHash kd)))
section
variable {s : Shared} {A : Around} {E : Value → Shared → Prop}
theorem hash_pair {ks : List (List κ)} {a : Addr} {Q : Int → Shared → Prop} (hu : A.units + 1 < cLine) (x : IsPairKey kd s.heap ks a) (h : Q (pairHash kd ks) { s with toks := s.toks + (drawn2 ks + 1) }) : wpAny (model prog w) A (pyHash (.ref a)) Q E s := by
  have T := x.ty
  obtain ⟨o, its, m, g, _, z, r⟩ := x
  unfold pyHash
  try unfold pyHashByItsType
  first | refine wpAny_bind (wpAny_cRoomFor_or (.inr (Nat.lt_of_succ_lt hu)) ?_) | skip
  refine wpAny_bind (wpAny_specialOf T F.slot_tuple_hash.lookup ?_)
  show wpAny _ _ (if (some (Value.builtin "tuple.__hash__") == some Value.none) = true then _ else _) Q E _
  rw [if_neg (by rw [beq_builtin_none]; simp)]
  refine wpAny_bind (wpAny_specialOf T F.slot_tuple_hash.lookup ?_)
  show wpAny _ _ (callSpecialIfBoundUnlessNone? (.ref a) "__hash__" _ >>= _) Q E _
  refine wpAny_bind (wpAny_callSpecialIfBoundUnlessNone?_slot T F.slot_tuple_hash (wpAny_call_entry F.slot_tuple_hash T F.entry_tuple_hash ?_ (F.args_tuple_hash_1 _)))
  show wpAny _ _ (Builtin.Tuple.tupleItemsOf (.ref a) >>= _) _ _ _
  refine wpAny_bind (wpAny_tupleItemsOf g z (wpAny_bind ?_))
  rw [← Array.forIn_toList]
  refine wpAny_forIn_list _ (fun left (b : Array Int) s1 => ∃ k1 k2, ks = k1 ++ k2 ∧ Refs2 kd s.heap k2 left ∧ b.toList = k1.map (tupleKeyHash kd) ∧ s1 = { s with toks := s.toks + drawn2 k1 }) _ ?_ ?_ _ _ ⟨[], ks, rfl, r, rfl, rfl⟩
  · rintro v left b s1 ⟨k1, k2, rfl, hr, hb, rfl⟩
    cases hr with
    | @cons k c k3 _ p q =>
      refine wpAny_bind (wpAny_pyHash_tuple (knd := kd) hu p ?_)
      have fin : ∃ k4 k5, k1 ++ k :: k3 = k4 ++ k5 ∧ Refs2 kd s.heap k5 left ∧ (b.push (tupleKeyHash kd k)).toList = k4.map (tupleKeyHash kd) ∧ ({ s with toks := s.toks + drawn2 k1 + (k.length + 1) } : Shared) = { s with toks := s.toks + drawn2 k4 } := ⟨k1 ++ [k], k3, by simp, q, by simp [hb], by rw [drawn2_snoc, Nat.add_assoc]⟩
      first
        | exact wpAny_pure fin
        | exact wpAny_bind (wpAny_pure (wpAny_pure fin))
  · rintro b s1 ⟨k1, k2, rfl, hr, hb, rfl⟩
    cases hr
    rw [List.append_nil, ← Nat.add_assoc] at h
    show wpAny (model prog w) A.in1 (retInt (Builtin.Tuple.tupleHashOf b.toList)) _ _ _
    rw [hb]
    refine wpAny_ret_mkInt ?_
    unfold pairHash reduceHash at h
    generalize Builtin.Tuple.tupleHashOf (k1.map (tupleKeyHash kd)) = t at h
    show wpAny _ _ (if (decide (-(2 : Int) ^ 63 ≤ t) && decide (t < 2 ^ 63)) = true then _ else _) Q E _
    by_cases c : (decide (-(2 : Int) ^ 63 ≤ t) && decide (t < 2 ^ 63)) = true
    · rw [if_pos c] at h ⊢
      exact wpAny_pure h
    · rw [if_neg c] at h ⊢
      exact wpAny_bind (wpAny_rule (wpAny_pure (show Q _ _ from h)))
theorem eq_pair_tree {x y : List (List κ)} {a b : Addr} {P : Fin → Shared → Prop} (hu : A.units < cLine) (p : IsPairKey kd s.heap x a) (q : IsPairKey kd s.heap y b) (h : P (.done (.ret (.bool (decide (x = y))))) s) : wpAny (model prog w) A (Builtin.«tuple.__eq__» ⟨[.ref a, .ref b], []⟩) P E s := by
  have T := q.ty
  obtain ⟨o1, i1, m1, g1, _, d1, r1⟩ := p
  obtain ⟨o2, i2, m2, g2, _, d2, r2⟩ := q
  show wpAny _ _ (isInstance (.ref b) (.type "tuple") >>= _) _ _ _
  refine wpAny_bind (wpAny_isInstance T isSubtype_tuple_tuple ?_)
  rw [if_neg (by decide)]
  refine wpAny_bind (wpAny_tupleItemsOf g1 d1 (wpAny_bind (wpAny_tupleItemsOf g2 d2 (wpAny_bind ?_))))
  refine wpAny_forIn_list _ (fun left c s1 => c.1 = none ∧ s1 = s ∧ ∃ x1 y1 u1 v1, left = List.zip u1 v1 ∧ Refs2 kd s.heap x1 u1 ∧ Refs2 kd s.heap y1 v1 ∧ decide (x1 = y1) = decide (x = y) ∧ (u1.length == v1.length) = (i1.size == i2.size)) _ ?_ ?_ _ _
    ⟨rfl, rfl, x, y, i1.toList, i2.toList, rfl, r1, r2, rfl, by simp⟩
  · rintro ⟨u, v⟩ left c s1 ⟨hc, rfl, x1, y1, u1, v1, ez, e1, e2, ed, el⟩
    cases e1 with
    | nil => simp at ez
    | @cons k1 a1 x2 u2 t1 w1 =>
      cases e2 with
      | nil => simp at ez
      | @cons k2 a2 y2 v2 t2 w2 =>
        rw [List.zip_cons_cons] at ez
        injection ez with ez1 ez2
        injection ez1 with ez3 ez4
        subst ez2 ez3 ez4
        refine wpAny_bind (wpAny_eqBool_tuple (knd := kd) hu t1 t2 ?_)
        by_cases hk : k1 = k2
        · subst hk
          rw [decide_eq_true rfl, if_neg (by decide)]
          exact wpAny_pure ⟨rfl, rfl, x2, y2, u2, v2, rfl, w1, w2, by rw [← ed]; simp, by simpa using el⟩
        · have f : decide (x = y) = false := by rw [← ed]; simp [hk]
          rw [decide_eq_false hk, if_pos (by decide)]
          rw [f] at h
          refine wpAny_bind (wpAny_pure ?_)
          exact wpAny_pure (wpAny_pure (show P _ _ from h))
  · rintro ⟨c1, c2⟩ s1 ⟨hc, rfl, x1, y1, u1, v1, ez, e1, e2, ed, el⟩
    cases hc
    have f : (i1.size == i2.size) = decide (x = y) := by
      rw [← ed, ← el]
      cases e1 with
      | nil => cases e2 <;> simp
      | cons _ _ =>
        cases e2 with
        | nil => simp
        | cons _ _ => simp at ez
    refine wpAny_pure ?_
    show P (.done (.ret (.bool (i1.size == i2.size)))) _
    rw [f]
    exact h
theorem eq_pair {x y : List (List κ)} {a b : Addr} {Q : Bool → Shared → Prop} (hu : A.units + 1 < cLine) (p : IsPairKey kd s.heap x a) (q : IsPairKey kd s.heap y b) (h : Q (decide (x = y)) s) : wpAny (model prog w) A (eqBool (.ref a) (.ref b)) Q E s := by
  unfold eqBool
  try with_reducible refine wpAny_holding ?_
  show wpAny _ _ (if (Value.ref a == Value.ref b) = true then _ else _) Q E _
  by_cases e : a = b
  · subst e
    have e2 := p.one q
    subst e2
    rw [if_pos (by simp)]
    rw [decide_eq_true rfl] at h
    exact wpAny_bind (wpAny_rule (wpAny_pure (show Q _ _ from h)))
  · rw [if_neg (by simpa using e)]
    refine wpAny_bind (wpAny_richCompare_same_room (op := .Eq) p.ty q.ty F.slot_tuple_eq ?_ (Nat.lt_of_succ_lt hu))
    exact wpAny_call_entry F.slot_tuple_eq p.ty F.entry_tuple_eq (eq_pair_tree hu p q ⟨_, rfl, (fun e => nomatch e), wpAny_truthy_bool h⟩) (F.args_tuple_eq_2 _ _)
theorem quiet_of {n : Nat} {o : Obj} {its : Array Value} {m : Nat} {a : Addr} {Q : Bool → Shared → Prop} (g : s.heap.get? a = some o) (c : o.cls = .type "tuple") (z : o.data = .seq its m)
    (hi : ∀ v ∈ its.toList, ∀ (Q : Bool → Shared → Prop) (E : Value → Shared → Prop), Q true s → wpAny (model prog w) A (eqIsQuiet n v) Q E s) (h : Q true s) : wpAny (model prog w) A (eqIsQuiet (n + 1) (.ref a)) Q E s := by
  have T : s.TypeIs (.ref a) "tuple" := ⟨o, g, c⟩
  unfold eqIsQuiet
  refine wpAny_bind (wpAny_specialOf T F.slot_tuple_eq.lookup ?_)
  show wpAny _ _ (isInstance (.ref a) (.type "tuple") >>= _) _ _ _
  refine wpAny_bind (wpAny_isInstance T isSubtype_tuple_tuple ?_)
  rw [if_neg (by decide)]
  refine wpAny_bind (wpAny_seqItems g z (wpAny_bind ?_))
  show wpAny _ _ (forIn its _ _) _ _ _
  rw [← Array.forIn_toList]
  refine wpAny_forIn_list _ (fun left c s1 => c.1 = none ∧ s1 = s ∧ ∀ v ∈ left, v ∈ its.toList) _ ?_ ?_ _ _ ⟨rfl, rfl, fun _ h => h⟩
  · rintro v left c s1 ⟨hc, rfl, ha⟩
    refine wpAny_bind (hi v (ha v List.mem_cons_self) _ _ ?_)
    rw [if_neg (by decide)]
    exact wpAny_pure ⟨rfl, rfl, fun u k => ha u (List.mem_cons_of_mem _ k)⟩
  · rintro ⟨c1, c2⟩ s1 ⟨hc, rfl, _⟩
    cases hc
    exact wpAny_pure h
theorem quiet_tup {n : Nat} {k : List κ} {a : Addr} {Q : Bool → Shared → Prop} (x : IsTupleKey kd s.heap k a) (h : Q true s) : wpAny (model prog w) A (eqIsQuiet (n + 1) (.ref a)) Q E s := by
  obtain ⟨o, its, m, g, c, z, r⟩ := x
  refine quiet_of g c z (fun v hv Q E h => ?_) h
  rw [eqIsQuiet_byValue _ (r.byValue v hv)]
  exact wpAny_pure h
theorem Refs2.quiet {n : Nat} : ∀ {ks : List (List κ)} {vs : List Value}, Refs2 kd s.heap ks vs → ∀ v ∈ vs, ∀ (Q : Bool → Shared → Prop) (E : Value → Shared → Prop), Q true s → wpAny (model prog w) A (eqIsQuiet (n + 1) v) Q E s
  | _, _, .nil, v, hv => by cases hv
  | _, _, .cons a r, v, hv => by
    rcases List.mem_cons.mp hv with e | hv
    · subst e
      exact fun Q E h => quiet_tup a h
    · exact r.quiet v hv
theorem quiet_pair {ks : List (List κ)} {a : Addr} {Q : Bool → Shared → Prop} (x : IsPairKey kd s.heap ks a) (h : Q true s) : wpAny (model prog w) A (eqIsQuiet 8 (.ref a)) Q E s := by
  obtain ⟨o, its, m, g, c, z, r⟩ := x
  exact quiet_of (n := 7) g c z (r.quiet (n := 6)) h
end
end
def pairKind {prog : Program} {w : World} {κ : Type} [DecidableEq κ] (kd : KeyKind prog w κ) : HeapKind prog w (List (List κ)) where
  is := IsPairKey kd
  hash := pairHash kd
  draws := fun ks => drawn2 ks + 1
  room := fun A => A.units + 1 < cLine
  inj := fun p q => p.one q
  keeps := fun x g z e => x.stay g z e
  pyHash := fun hu x h => hash_pair hu x h
  eqBool := fun hu p q h => eq_pair hu p q h
  quiet := fun x h => quiet_pair x h
end PySem
end
section
set_option Elab.async false
set_option linter.all false
set_option maxRecDepth 100000
namespace PySem
section
variable {prog : Program} {w : World} {A : Around} {E : Value → Shared → Prop} {R : Result → Shared → Prop} {I T S : Addr} {a b : Value}
theorem max_end {s : Shared} {x : Value} {c : Nat} (hh : A.handled = none) (nT : T ≠ I) (nS : S ≠ I) (st : s.heap.IsTupleIter I T 2 ∧ s.heap.IsTuple T #[a, b]) (hS : s.heap.get? S = some { cls := .type "list", dict := none, data := .seq #[x, x] c, slots := #[] })
    (h : ∀ h' tk, (∀ d o, d ≠ I → d ≠ S → s.heap.get? d = some o → h'.get? d = some o) → R (.ok (.ret x)) { s with heap := h', toks := tk }) : codeAny (model prog w) A (.builtin "max.loop" ⟨[.ref I, .none, .ref S], []⟩) R s := by
  have W := Walks.tuple (prog := prog) (w := w) (A := A.in1) hh I T nT #[a, b]
  (refine codeAny_builtin F.entry_max_loop ?_; rw [Around.under_plainId F.plain_max_loop _]; show wpAny _ A.in1 (seqItems? (.ref S) >>= _) _ _ s; refine wpAny_bind (wpAny_seqItems hS rfl ?_); show wpAny _ A.in1 (tryCatch (pyNext (.ref I)) _ >>= _) _ _ s; refine wpAny_bind (wpAny_tryCatch (W.done s _ _ st fun h1 tk k => ?_)))
  have g := k S _ (by simpa using nS) hS
  show wpAny (model prog w) A.in1 (updateSeq S (fun _ => #[]) >>= _) _ _ _
  exact wpAny_bind (wpAny_updateSeq g rfl (wpAny_bind (wpAny_letGo (wpAny_pure (h _ tk fun d o n1 n2 e => (Heap.get?_update_other _ _ (Ne.symm n2)).trans (k d o (by simpa using n1) e))))))
theorem max_mid {s : Shared} {c : Nat} {q : Bool} (hh : A.handled = none) (nT : T ≠ I) (nS : S ≠ I) (nTS : T ≠ S) (st : s.heap.IsTupleIter I T 1 ∧ s.heap.IsTuple T #[a, b]) (hS : s.heap.get? S = some { cls := .type "list", dict := none, data := .seq #[a, a] c, slots := #[] })
    (cmp : ∀ h1 tk (Q : Value → Shared → Prop) (E : Value → Shared → Prop), (∀ d o, d ≠ I → d ≠ S → s.heap.get? d = some o → h1.get? d = some o) → Q (.bool q) { s with heap := h1, toks := tk } → wpAny (model prog w) A.in1 (richCompare .Gt b a) Q E { s with heap := h1, toks := tk })
    (h : ∀ h' tk, (∀ d o, d ≠ I → d ≠ S → s.heap.get? d = some o → h'.get? d = some o) → R (.ok (.ret (if q = true then b else a))) { s with heap := h', toks := tk }) : codeAny (model prog w) A (.builtin "max.loop" ⟨[.ref I, .none, .ref S], []⟩) R s := by
  have W := Walks.tuple (prog := prog) (w := w) (A := A.in1) hh I T nT #[a, b]
  have nm : (toString "max" ++ toString ".loop" : String) = "max.loop" := by decide
  (refine codeAny_builtin F.entry_max_loop ?_; rw [Around.under_plainId F.plain_max_loop _]; show wpAny _ A.in1 (seqItems? (.ref S) >>= _) _ _ s; refine wpAny_bind (wpAny_seqItems hS rfl ?_); show wpAny _ A.in1 (tryCatch (pyNext (.ref I)) _ >>= _) _ _ s; refine wpAny_bind (wpAny_tryCatch (W.item 1 s _ _ (by simp) st fun v h1 tk hv st1 k => ?_)))
  have ev : v = b := by simpa using hv.symm
  subst ev
  have g := k S _ (by simpa using nS) hS
  have k1 : ∀ d o, d ≠ I → d ≠ S → s.heap.get? d = some o → h1.get? d = some o := fun d o n1 _ e => k d o (by simpa using n1) e
  show wpAny _ A.in1 (tryCatch (holding [v, v] (richCompare .Gt v a >>= _)) _ >>= _) _ _ _
  refine wpAny_bind (wpAny_tryCatch (wpAny_holding (wpAny_bind (cmp h1 tk _ _ k1 (wpAny_bind (wpAny_holding (wpAny_truthy_bool (wpAny_bind (wpAny_letGo (wpAny_pure ?_))))))))))
  cases q with
  | true =>
    rw [if_pos rfl]
    refine wpAny_bind (wpAny_updateSeq g rfl (wpAny_bind (wpAny_letGo ?_)))
    rw [nm]
    refine wpAny_pure ⟨plainId_quiet F.plain_max_loop _, max_end (a := a) (b := v) hh nT nS (W.frame _ _ _ st1 fun d hd o e => (Heap.get?_update_other _ _ (fun z : S = d => ?_)).trans e) (Heap.get?_update_self _ g rfl) fun h2 tk2 k2 => h h2 tk2 fun d o n1 n2 e => k2 d o n1 n2 ((Heap.get?_update_other _ _ (Ne.symm n2)).trans (k1 d o n1 n2 e))⟩
    subst z
    rcases List.mem_cons.mp hd with z | z
    · exact nS z
    · exact nTS (List.mem_singleton.mp z).symm
  | false =>
    rw [if_neg Bool.false_ne_true]
    refine wpAny_bind (wpAny_letGo ?_)
    rw [nm]
    exact wpAny_pure ⟨plainId_quiet F.plain_max_loop _, max_end (a := a) (b := v) hh nT nS st1 g fun h2 tk2 k2 => h h2 tk2 fun d o n1 n2 e => k2 d o n1 n2 (k1 d o n1 n2 e)⟩
theorem max_first {s : Shared} {c : Nat} {q : Bool} (hh : A.handled = none) (nT : T ≠ I) (nS : S ≠ I) (nTS : T ≠ S) (st : s.heap.IsTupleIter I T 0 ∧ s.heap.IsTuple T #[a, b]) (hS : s.heap.get? S = some { cls := .type "list", dict := none, data := .seq #[] c, slots := #[] })
    (cmp : ∀ h1 tk (Q : Value → Shared → Prop) (E : Value → Shared → Prop), (∀ d o, d ≠ I → d ≠ S → s.heap.get? d = some o → h1.get? d = some o) → Q (.bool q) { s with heap := h1, toks := tk } → wpAny (model prog w) A.in1 (richCompare .Gt b a) Q E { s with heap := h1, toks := tk })
    (h : ∀ h' tk, (∀ d o, d ≠ I → d ≠ S → s.heap.get? d = some o → h'.get? d = some o) → R (.ok (.ret (if q = true then b else a))) { s with heap := h', toks := tk }) : codeAny (model prog w) A (.builtin "max.loop" ⟨[.ref I, .none, .ref S], []⟩) R s := by
  have W := Walks.tuple (prog := prog) (w := w) (A := A.in1) hh I T nT #[a, b]
  have nm : (toString "max" ++ toString ".loop" : String) = "max.loop" := by decide
  (refine codeAny_builtin F.entry_max_loop ?_; rw [Around.under_plainId F.plain_max_loop _]; show wpAny _ A.in1 (seqItems? (.ref S) >>= _) _ _ s; refine wpAny_bind (wpAny_seqItems hS rfl ?_); show wpAny _ A.in1 (tryCatch (pyNext (.ref I)) _ >>= _) _ _ s; refine wpAny_bind (wpAny_tryCatch (W.item 0 s _ _ (by simp) st fun v h1 tk hv st1 k => ?_)))
  have ev : v = a := by simpa using hv.symm
  subst ev
  have g := k S _ (by simpa using nS) hS
  have k1 : ∀ d o, d ≠ I → d ≠ S → s.heap.get? d = some o → (h1.update S (Obj.mapSeq fun _ => #[v, v])).get? d = some o := fun d o n1 n2 e => (Heap.get?_update_other _ _ (Ne.symm n2)).trans (k d o (by simpa using n1) e)
  show wpAny (model prog w) A.in1 (updateSeq S (fun _ => #[v, v]) >>= _) _ _ _
  refine wpAny_bind (wpAny_updateSeq g rfl ?_)
  rw [nm]
  refine wpAny_pure ⟨plainId_quiet F.plain_max_loop _, max_mid (a := v) (b := b) (q := q) hh nT nS nTS (W.frame _ _ _ st1 fun d hd o e => (Heap.get?_update_other _ _ (fun z : S = d => ?_)).trans e) (Heap.get?_update_self _ g rfl) (fun h2 tk2 Q E k2 q => cmp h2 tk2 Q E (fun d o n1 n2 e => k2 d o n1 n2 (k1 d o n1 n2 e)) q) fun h2 tk2 k2 => h h2 tk2 fun d o n1 n2 e => k2 d o n1 n2 (k1 d o n1 n2 e)⟩
  subst z
  rcases List.mem_cons.mp hd with z | z
  · exact nS z
  · exact nTS (List.mem_singleton.mp z).symm
theorem max_two {s : Shared} {q : Bool} {Q : Value → Shared → Prop} (hh : A.handled = none)
    (cmp : ∀ h1 tk (Q : Value → Shared → Prop) (E : Value → Shared → Prop), (∀ d o, s.heap.get? d = some o → h1.get? d = some o) → Q (.bool q) { s with heap := h1, toks := tk } → wpAny (model prog w) A.in1 (richCompare .Gt b a) Q E { s with heap := h1, toks := tk })
    (h : ∀ h' tk, (∀ d o, s.heap.get? d = some o → h'.get? d = some o) → Q (if q = true then b else a) { s with heap := h', toks := tk }) : wpAny (model prog w) A (call (.builtin "max") [a, b]) Q E s := by
  have nm : (toString "max" ++ toString ".loop" : String) = "max.loop" := by decide
  refine call_function_tree (args := [a, b]) F.kind_max F.plain_max F.entry_max (F.args_max2 a b) ?_
  show wpAny _ A.in1 (Builtin.Builtins.bindParams "max" ["key", "default"] 0 ⟨[], []⟩ >>= _) _ _ _
  refine wpAny_bind (wpAny_of_eq (a := [none, none]) rfl ?_)
  show wpAny _ A.in1 (newTuple [a, b] >>= _) _ _ _
  have hT : (s.heap.push { cls := .type "tuple", data := .seq #[a, b] }).IsTuple s.heap.objs.size #[a, b] := by
    exact ⟨_, Heap.get?_push_size _ rfl, rfl, 0, rfl⟩
  have z1 : (s.heap.push { cls := .type "tuple", data := .seq #[a, b] }).objs.size = s.heap.objs.size + 1 := Heap.size_push ..
  refine wpAny_bind (wpAny_newObj_type (wpAny_bind (wpAny_pyIter_tuple hT (wpAny_bind (wpAny_newObj_type ?_)))))
  rw [nm]
  have z2 : ∀ x : Obj, ((s.heap.push { cls := .type "tuple", data := .seq #[a, b] }).push x).objs.size = s.heap.objs.size + 2 := fun x => by rw [Heap.size_push, z1]
  have old : ∀ (x y : Obj) d o, s.heap.get? d = some o → (((s.heap.push { cls := .type "tuple", data := .seq #[a, b] }).push x).push y).get? d = some o := fun x y d o e => Heap.get?_push_of_some _ (Heap.get?_push_of_some _ (Heap.get?_push_of_some _ e))
  refine wpAny_pure ⟨plainId_quiet F.plain_max_loop _, max_first (q := q) (T := s.heap.objs.size) (a := a) (b := b) (c := 0) hh ?_ ?_ ?_ ⟨⟨_, Heap.get?_push_of_some _ (Heap.get?_push_size _ rfl), rfl, rfl⟩, (hT.push _).push _⟩ (Heap.get?_push_size _ rfl) (fun h1 tk Q E k q => cmp h1 tk Q E (fun d o e => ?_) q) fun h1 tk k => h h1 tk fun d o e => ?_⟩
  · rw [z1]
    exact Nat.ne_of_lt (Nat.lt_succ_self _)
  · rw [z2, z1]
    exact Nat.ne_of_gt (Nat.lt_succ_self _)
  · rw [z2]
    exact Nat.ne_of_lt (Nat.lt_succ_of_lt (Nat.lt_succ_self _))
  · have lt := Heap.lt_size e
    exact k d o (by rw [z1]; exact Nat.ne_of_lt (Nat.lt_succ_of_lt lt)) (by rw [z2]; exact Nat.ne_of_lt (Nat.lt_succ_of_lt (Nat.lt_succ_of_lt lt))) (old _ _ d o e)
  · have lt := Heap.lt_size e
    exact k d o (by rw [z1]; exact Nat.ne_of_lt (Nat.lt_succ_of_lt lt)) (by rw [z2]; exact Nat.ne_of_lt (Nat.lt_succ_of_lt (Nat.lt_succ_of_lt lt))) (old _ _ d o e)
end
section
variable {prog : Program} {w : World} {A : Around} {E : Value → Shared → Prop} {R : Result → Shared → Prop} {I T S : Addr} {a b : Value}
theorem min_end {s : Shared} {x : Value} {c : Nat} (hh : A.handled = none) (nT : T ≠ I) (nS : S ≠ I) (st : s.heap.IsTupleIter I T 2 ∧ s.heap.IsTuple T #[a, b]) (hS : s.heap.get? S = some { cls := .type "list", dict := none, data := .seq #[x, x] c, slots := #[] })
    (h : ∀ h' tk, (∀ d o, d ≠ I → d ≠ S → s.heap.get? d = some o → h'.get? d = some o) → R (.ok (.ret x)) { s with heap := h', toks := tk }) : codeAny (model prog w) A (.builtin "min.loop" ⟨[.ref I, .none, .ref S], []⟩) R s := by
  have W := Walks.tuple (prog := prog) (w := w) (A := A.in1) hh I T nT #[a, b]
  (refine codeAny_builtin F.entry_min_loop ?_; rw [Around.under_plainId F.plain_min_loop _]; show wpAny _ A.in1 (seqItems? (.ref S) >>= _) _ _ s; refine wpAny_bind (wpAny_seqItems hS rfl ?_); show wpAny _ A.in1 (tryCatch (pyNext (.ref I)) _ >>= _) _ _ s; refine wpAny_bind (wpAny_tryCatch (W.done s _ _ st fun h1 tk k => ?_)))
  have g := k S _ (by simpa using nS) hS
  show wpAny (model prog w) A.in1 (updateSeq S (fun _ => #[]) >>= _) _ _ _
  exact wpAny_bind (wpAny_updateSeq g rfl (wpAny_bind (wpAny_letGo (wpAny_pure (h _ tk fun d o n1 n2 e => (Heap.get?_update_other _ _ (Ne.symm n2)).trans (k d o (by simpa using n1) e))))))
theorem min_mid {s : Shared} {c : Nat} {q : Bool} (hh : A.handled = none) (nT : T ≠ I) (nS : S ≠ I) (nTS : T ≠ S) (st : s.heap.IsTupleIter I T 1 ∧ s.heap.IsTuple T #[a, b]) (hS : s.heap.get? S = some { cls := .type "list", dict := none, data := .seq #[a, a] c, slots := #[] })
    (cmp : ∀ h1 tk (Q : Value → Shared → Prop) (E : Value → Shared → Prop), (∀ d o, d ≠ I → d ≠ S → s.heap.get? d = some o → h1.get? d = some o) → Q (.bool q) { s with heap := h1, toks := tk } → wpAny (model prog w) A.in1 (richCompare .Lt b a) Q E { s with heap := h1, toks := tk })
    (h : ∀ h' tk, (∀ d o, d ≠ I → d ≠ S → s.heap.get? d = some o → h'.get? d = some o) → R (.ok (.ret (if q = true then b else a))) { s with heap := h', toks := tk }) : codeAny (model prog w) A (.builtin "min.loop" ⟨[.ref I, .none, .ref S], []⟩) R s := by
  have W := Walks.tuple (prog := prog) (w := w) (A := A.in1) hh I T nT #[a, b]
  have nm : (toString "min" ++ toString ".loop" : String) = "min.loop" := by decide
  (refine codeAny_builtin F.entry_min_loop ?_; rw [Around.under_plainId F.plain_min_loop _]; show wpAny _ A.in1 (seqItems? (.ref S) >>= _) _ _ s; refine wpAny_bind (wpAny_seqItems hS rfl ?_); show wpAny _ A.in1 (tryCatch (pyNext (.ref I)) _ >>= _) _ _ s; refine wpAny_bind (wpAny_tryCatch (W.item 1 s _ _ (by simp) st fun v h1 tk hv st1 k => ?_)))
  have ev : v = b := by simpa using hv.symm
  subst ev
  have g := k S _ (by simpa using nS) hS
  have k1 : ∀ d o, d ≠ I → d ≠ S → s.heap.get? d = some o → h1.get? d = some o := fun d o n1 _ e => k d o (by simpa using n1) e
  show wpAny _ A.in1 (tryCatch (holding [v, v] (richCompare .Lt v a >>= _)) _ >>= _) _ _ _
  refine wpAny_bind (wpAny_tryCatch (wpAny_holding (wpAny_bind (cmp h1 tk _ _ k1 (wpAny_bind (wpAny_holding (wpAny_truthy_bool (wpAny_bind (wpAny_letGo (wpAny_pure ?_))))))))))
  cases q with
  | true =>
    rw [if_pos rfl]
    refine wpAny_bind (wpAny_updateSeq g rfl (wpAny_bind (wpAny_letGo ?_)))
    rw [nm]
    refine wpAny_pure ⟨plainId_quiet F.plain_min_loop _, min_end (a := a) (b := v) hh nT nS (W.frame _ _ _ st1 fun d hd o e => (Heap.get?_update_other _ _ (fun z : S = d => ?_)).trans e) (Heap.get?_update_self _ g rfl) fun h2 tk2 k2 => h h2 tk2 fun d o n1 n2 e => k2 d o n1 n2 ((Heap.get?_update_other _ _ (Ne.symm n2)).trans (k1 d o n1 n2 e))⟩
    subst z
    rcases List.mem_cons.mp hd with z | z
    · exact nS z
    · exact nTS (List.mem_singleton.mp z).symm
  | false =>
    rw [if_neg Bool.false_ne_true]
    refine wpAny_bind (wpAny_letGo ?_)
    rw [nm]
    exact wpAny_pure ⟨plainId_quiet F.plain_min_loop _, min_end (a := a) (b := v) hh nT nS st1 g fun h2 tk2 k2 => h h2 tk2 fun d o n1 n2 e => k2 d o n1 n2 (k1 d o n1 n2 e)⟩
theorem min_first {s : Shared} {c : Nat} {q : Bool} (hh : A.handled = none) (nT : T ≠ I) (nS : S ≠ I) (nTS : T ≠ S) (st : s.heap.IsTupleIter I T 0 ∧ s.heap.IsTuple T #[a, b]) (hS : s.heap.get? S = some { cls := .type "list", dict := none, data := .seq #[] c, slots := #[] })
    (cmp : ∀ h1 tk (Q : Value → Shared → Prop) (E : Value → Shared → Prop), (∀ d o, d ≠ I → d ≠ S → s.heap.get? d = some o → h1.get? d = some o) → Q (.bool q) { s with heap := h1, toks := tk } → wpAny (model prog w) A.in1 (richCompare .Lt b a) Q E { s with heap := h1, toks := tk })
    (h : ∀ h' tk, (∀ d o, d ≠ I → d ≠ S → s.heap.get? d = some o → h'.get? d = some o) → R (.ok (.ret (if q = true then b else a))) { s with heap := h', toks := tk }) : codeAny (model prog w) A (.builtin "min.loop" ⟨[.ref I, .none, .ref S], []⟩) R s := by
  have W := Walks.tuple (prog := prog) (w := w) (A := A.in1) hh I T nT #[a, b]
  have nm : (toString "min" ++ toString ".loop" : String) = "min.loop" := by decide
  (refine codeAny_builtin F.entry_min_loop ?_; rw [Around.under_plainId F.plain_min_loop _]; show wpAny _ A.in1 (seqItems? (.ref S) >>= _) _ _ s; refine wpAny_bind (wpAny_seqItems hS rfl ?_); show wpAny _ A.in1 (tryCatch (pyNext (.ref I)) _ >>= _) _ _ s; refine wpAny_bind (wpAny_tryCatch (W.item 0 s _ _ (by simp) st fun v h1 tk hv st1 k => ?_)))
  have ev : v = a := by simpa using hv.symm
  subst ev
  have g := k S _ (by simpa using nS) hS
  have k1 : ∀ d o, d ≠ I → d ≠ S → s.heap.get? d = some o → (h1.update S (Obj.mapSeq fun _ => #[v, v])).get? d = some o := fun d o n1 n2 e => (Heap.get?_update_other _ _ (Ne.symm n2)).trans (k d o (by simpa using n1) e)
  show wpAny (model prog w) A.in1 (updateSeq S (fun _ => #[v, v]) >>= _) _ _ _
  refine wpAny_bind (wpAny_updateSeq g rfl ?_)
  rw [nm]
  refine wpAny_pure ⟨plainId_quiet F.plain_min_loop _, min_mid (a := v) (b := b) (q := q) hh nT nS nTS (W.frame _ _ _ st1 fun d hd o e => (Heap.get?_update_other _ _ (fun z : S = d => ?_)).trans e) (Heap.get?_update_self _ g rfl) (fun h2 tk2 Q E k2 q => cmp h2 tk2 Q E (fun d o n1 n2 e => k2 d o n1 n2 (k1 d o n1 n2 e)) q) fun h2 tk2 k2 => h h2 tk2 fun d o n1 n2 e => k2 d o n1 n2 (k1 d o n1 n2 e)⟩
  subst z
  rcases List.mem_cons.mp hd with z | z
  · exact nS z
  · exact nTS (List.mem_singleton.mp z).symm
theorem min_two {s : Shared} {q : Bool} {Q : Value → Shared → Prop} (hh : A.handled = none)
    (cmp : ∀ h1 tk (Q : Value → Shared → Prop) (E : Value → Shared → Prop), (∀ d o, s.heap.get? d = some o → h1.get? d = some o) → Q (.bool q) { s with heap := h1, toks := tk } → wpAny (model prog w) A.in1 (richCompare .Lt b a) Q E { s with heap := h1, toks := tk })
    (h : ∀ h' tk, (∀ d o, s.heap.get? d = some o → h'.get? d = some o) → Q (if q = true then b else a) { s with heap := h', toks := tk }) : wpAny (model prog w) A (call (.builtin "min") [a, b]) Q E s := by
  have nm : (toString "min" ++ toString ".loop" : String) = "min.loop" := by decide
  refine call_function_tree (args := [a, b]) F.kind_min F.plain_min F.entry_min (F.args_min2 a b) ?_
  show wpAny _ A.in1 (Builtin.Builtins.bindParams "min" ["key", "default"] 0 ⟨[], []⟩ >>= _) _ _ _
  refine wpAny_bind (wpAny_of_eq (a := [none, none]) rfl ?_)
  show wpAny _ A.in1 (newTuple [a, b] >>= _) _ _ _
  have hT : (s.heap.push { cls := .type "tuple", data := .seq #[a, b] }).IsTuple s.heap.objs.size #[a, b] := by
    exact ⟨_, Heap.get?_push_size _ rfl, rfl, 0, rfl⟩
  have z1 : (s.heap.push { cls := .type "tuple", data := .seq #[a, b] }).objs.size = s.heap.objs.size + 1 := Heap.size_push ..
  refine wpAny_bind (wpAny_newObj_type (wpAny_bind (wpAny_pyIter_tuple hT (wpAny_bind (wpAny_newObj_type ?_)))))
  rw [nm]
  have z2 : ∀ x : Obj, ((s.heap.push { cls := .type "tuple", data := .seq #[a, b] }).push x).objs.size = s.heap.objs.size + 2 := fun x => by rw [Heap.size_push, z1]
  have old : ∀ (x y : Obj) d o, s.heap.get? d = some o → (((s.heap.push { cls := .type "tuple", data := .seq #[a, b] }).push x).push y).get? d = some o := fun x y d o e => Heap.get?_push_of_some _ (Heap.get?_push_of_some _ (Heap.get?_push_of_some _ e))
  refine wpAny_pure ⟨plainId_quiet F.plain_min_loop _, min_first (q := q) (T := s.heap.objs.size) (a := a) (b := b) (c := 0) hh ?_ ?_ ?_ ⟨⟨_, Heap.get?_push_of_some _ (Heap.get?_push_size _ rfl), rfl, rfl⟩, (hT.push _).push _⟩ (Heap.get?_push_size _ rfl) (fun h1 tk Q E k q => cmp h1 tk Q E (fun d o e => ?_) q) fun h1 tk k => h h1 tk fun d o e => ?_⟩
  · rw [z1]
    exact Nat.ne_of_lt (Nat.lt_succ_self _)
  · rw [z2, z1]
    exact Nat.ne_of_gt (Nat.lt_succ_self _)
  · rw [z2]
    exact Nat.ne_of_lt (Nat.lt_succ_of_lt (Nat.lt_succ_self _))
  · have lt := Heap.lt_size e
    exact k d o (by rw [z1]; exact Nat.ne_of_lt (Nat.lt_succ_of_lt lt)) (by rw [z2]; exact Nat.ne_of_lt (Nat.lt_succ_of_lt (Nat.lt_succ_of_lt lt))) (old _ _ d o e)
  · have lt := Heap.lt_size e
    exact k d o (by rw [z1]; exact Nat.ne_of_lt (Nat.lt_succ_of_lt lt)) (by rw [z2]; exact Nat.ne_of_lt (Nat.lt_succ_of_lt (Nat.lt_succ_of_lt lt))) (old _ _ d o e)
end
end PySem
end
section
set_option Elab.async false
set_option linter.all false
set_option maxRecDepth 100000
set_option maxHeartbeats 4000001
namespace L2
open PySem PySem.Spec PyProof.Rows
abbrev Key2 := List (List Key)
def SdOk (P : Program) (w : World) (a : Addr) (xs : List (Key2 × Addr × V)) (h : Heap) : Prop :=
  xs.length ≤ sizeLine ∧ (a == sysModules) = false ∧ ∃ us : List (Key2 × Addr × Value), Paired (fun (p : Key2 × Addr × V) (q : Key2 × Addr × Value) => p.1 = q.1 ∧ p.2.1 = q.2.1 ∧ RelV p.2.2 q.2.2) xs us ∧
    ∃ o es ep, h.get? a = some o ∧ o.ExactDict ∧ o.data = .dict es ep ∧ es.toList = us.map (entryOfKey (pairKind (mixKind P w))) ∧ (us.map (·.1)).Nodup
def SD (P : Program) (w : World) (a : Addr) (xs : List (Key2 × Addr × V)) : HO := .ext (SdOk P w a xs)
abbrev KS : List (Key2 × Addr × V) → List (Key2 × Addr × Value) → Prop := Paired fun p q => p.1 = q.1 ∧ p.2.1 = q.2.1 ∧ RelV p.2.2 q.2.2
def PKey (H : Hp) (ks : Key2) (b : Addr) : Prop := ∃ bs : List Addr, H b = some (.tup (bs.map V.ref)) ∧ Paired (fun (k : List Key) (a : Addr) => H a = some (.tup (k.map kV))) ks bs
def sVal (xs : List (Key2 × Addr × V)) (k : Key2) : Option V := (xs.find? fun x => decide (x.1 = k)).map (·.2.2)
def sPut (xs : List (Key2 × Addr × V)) (k : Key2) (b : Addr) (v : V) : List (Key2 × Addr × V) := if (sVal xs k).isSome = true then xs.map fun x => if x.1 = k then (x.1, x.2.1, v) else x else xs ++ [(k, b, v)]
section
variable {P : Program} {w : World} {H H' : Hp} {h h' : Heap} {a b : Addr} {xs : List (Key2 × Addr × V)} {us : List (Key2 × Addr × Value)} {ks : Key2}
theorem SdOk.at (x : SdOk P w a xs h) (k : ∀ o, h.get? a = some o → h'.get? a = some o) : SdOk P w a xs h' := by
  obtain ⟨z, d, us, r, o, es, ep, g, q⟩ := x
  exact ⟨z, d, us, r, o, es, ep, k o g, q⟩
theorem SdOk.obj (x : SdOk P w a xs h) : ObjOk P w H h a (SD P w a xs) := by
  refine ⟨x, ?_, fun h1 h2 y k => y.at k⟩
  obtain ⟨_, _, us, r, o, es, ep, g, _⟩ := x
  exact ⟨o, g⟩
theorem sd_ok (ok : HOk P w H h) (e : Rd H a (SD P w a xs)) : SdOk P w a xs h := (e.ok ok).1
theorem PKey.keep (x : PKey H ks b) (k : ∀ c ys, H c = some (.tup ys) → H' c = some (.tup ys)) : PKey H' ks b := by
  obtain ⟨bs, e, r⟩ := x
  exact ⟨bs, k _ _ e, Paired.mapP r fun _ _ q => k _ _ q⟩
theorem refs2_of (ok : HOk P w H h) : ∀ {ks : Key2} {bs : List Addr}, Paired (fun (k : List Key) (a : Addr) => H a = some (.tup (k.map kV))) ks bs → Refs2 (mixKind P w) h ks (bs.map Value.ref)
  | _, _, .nil => .nil
  | _, _, .cons e r => .cons (key_of ok e) (refs2_of ok r)
theorem PKey.is (ok : HOk P w H h) (x : PKey H ks b) : (pairKind (mixKind P w)).is h ks b := by
  obtain ⟨bs, e, r⟩ := x
  obtain ⟨_, its, rv, o, g, c, m, d⟩ := (show ObjOk P w H h b (.tup (bs.map V.ref)) from ok b _ e)
  refine ⟨o, its.toArray, m, g, c, d, ?_⟩
  rw [refs_at rv]
  exact refs2_of ok r
theorem KS.val (r : KS xs us) (k : Key2) : RelO (sVal xs k) ((atKey us k).map (·.2)) := by
  induction r with
  | nil => exact True.intro
  | @cons p q ps qs hq t ih =>
    unfold sVal atKey at ih ⊢
    rw [List.find?_cons, List.find?_cons]
    by_cases e : p.1 = k
    · rw [decide_eq_true e, decide_eq_true (hq.1 ▸ e)]
      exact hq.2.2
    · rw [decide_eq_false e, decide_eq_false (hq.1 ▸ e)]
      exact ih
theorem KS.set (r : KS xs us) (k : Key2) {y : V} {u : Value} (ry : RelV y u) : KS (xs.map fun x => if x.1 = k then (x.1, x.2.1, y) else x) (us.map (putAt k u)) := by
  induction r with
  | nil => exact .nil
  | @cons p q ps qs hq t ih =>
    refine .cons ?_ ih
    unfold putAt
    by_cases e : p.1 = k
    · simp only [if_pos e, if_pos (show q.1 = k from hq.1 ▸ e)]
      exact ⟨hq.1, hq.2.1, ry⟩
    · simp only [if_neg e, if_neg (show ¬ q.1 = k from hq.1 ▸ e)]
      exact hq
theorem KS.snoc (r : KS xs us) {p : Key2 × Addr × V} {q : Key2 × Addr × Value} (e : p.1 = q.1 ∧ p.2.1 = q.2.1 ∧ RelV p.2.2 q.2.2) : KS (xs ++ [p]) (us ++ [q]) := by
  induction r with
  | nil => exact .cons e .nil
  | cons hq t ih => exact .cons hq ih
theorem KS.put (r : KS xs us) (k : Key2) (b : Addr) {y : V} {u : Value} (ry : RelV y u) : KS (sPut xs k b y) (storedH us k b u) := by
  have v := (r.val k).isSome_eq
  rw [Option.isSome_map] at v
  unfold sPut storedH
  rw [v]
  by_cases c : (atKey us k).isSome = true
  · rw [if_pos c, if_pos c]
    exact r.set k ry
  · rw [if_neg c, if_neg c]
    exact r.snoc ⟨rfl, rfl, ry⟩
theorem sPut_len (xs : List (Key2 × Addr × V)) (k : Key2) (b : Addr) (v : V) : (sPut xs k b v).length ≤ xs.length + 1 := by
  unfold sPut
  split <;> simp
theorem sPut_keys {P' : Key2 → Addr → Prop} {k : Key2} {v : V} (h : ∀ x ∈ xs, P' x.1 x.2.1) (hb : P' k b) : ∀ x ∈ sPut xs k b v, P' x.1 x.2.1 := by
  intro x hx
  unfold sPut at hx
  split at hx
  · obtain ⟨y, hy, e⟩ := List.mem_map.mp hx
    subst e
    have q := h y hy
    split <;> exact q
  · rcases List.mem_append.mp hx with hx | hx
    · exact h x hx
    · rw [List.mem_singleton] at hx
      subst hx
      exact hb
theorem sVal_put (xs : List (Key2 × Addr × V)) (k j : Key2) (b : Addr) (v : V) : sVal (sPut xs k b v) j = if j = k then some v else sVal xs j := by
  unfold sPut
  have rep : ∀ ys : List (Key2 × Addr × V), sVal (ys.map fun x => if x.1 = k then (x.1, x.2.1, v) else x) j = if j = k then (sVal ys j).map fun _ => v else sVal ys j := by
    intro ys
    induction ys with
    | nil => simp [sVal]
    | cons y ys ih =>
      unfold sVal at ih ⊢
      rw [List.map_cons, List.find?_cons, List.find?_cons]
      by_cases e : y.1 = k
      · rw [if_pos e]
        by_cases f : y.1 = j
        · simp [f, ← e]
        · rw [decide_eq_false f]
          exact ih
      · rw [if_neg e]
        by_cases f : y.1 = j
        · rw [decide_eq_true f, if_neg (fun z => e (f.trans z))]
        · rw [decide_eq_false f]
          exact ih
  have app : ∀ ys : List (Key2 × Addr × V), sVal (ys ++ [(k, b, v)]) j = (sVal ys j).or (if j = k then some v else none) := by
    intro ys
    unfold sVal
    rw [List.find?_append]
    cases (ys.find? fun x => decide (x.1 = j)) with
    | some y => rfl
    | none =>
      rw [Option.none_or, List.find?_cons, List.find?_nil]
      by_cases f : j = k
      · rw [decide_eq_true f.symm, if_pos f]
        rfl
      · rw [decide_eq_false (fun z => f z.symm), if_neg f]
        rfl
  by_cases c : (sVal xs k).isSome = true
  · rw [if_pos c, rep]
    by_cases f : j = k
    · subst f
      obtain ⟨y, hy⟩ := Option.isSome_iff_exists.mp c
      rw [if_pos rfl, if_pos rfl, hy]
      rfl
    · rw [if_neg f, if_neg f]
  · rw [if_neg c, app]
    by_cases f : j = k
    · subst f
      have n : sVal xs j = none := by
        cases q : sVal xs j with
        | none => rfl
        | some y => rw [q] at c; exact absurd rfl c
      rw [n, if_pos rfl]
      rfl
    · rw [if_neg f, if_neg f]
      cases sVal xs j <;> rfl
end
structure SDict (P : Program) (w : World) (H : Hp) (a : Addr) (xs : List (Key2 × Addr × V)) : Prop where
  rd : Rd H a (SD P w a xs)
  keys : ∀ x ∈ xs, PKey H x.1 x.2.1
section
variable {X : Cx} {pins : List (Addr × Obj)} {σ : St} {H : Hp} {s : Shared} {a b : Addr} {xs : List (Key2 × Addr × V)} {ks : Key2} {v : V} {u r : Value} {A : Around} {E : Value → Shared → Prop}
theorem SDict.of (x : SDict X.prog X.w H a xs) (I : Inv X pins σ H s) : xs.length ≤ sizeLine ∧ (a == sysModules) = false ∧ ∃ us, KS xs us ∧ s.heap.DictOfH (pairKind (mixKind X.prog X.w)) a us := by
  obtain ⟨z, d, us, r, o, es, ep, g, c, dt, e, n⟩ := sd_ok I.hok x.rd
  refine ⟨z, d, us, r, o, es, ep, g, c, dt, e, ?_, n⟩
  have all : ∀ {l : List (Key2 × Addr × V)} {m : List (Key2 × Addr × Value)}, KS l m → (∀ x ∈ l, PKey H x.1 x.2.1) → ∀ y ∈ m, (pairKind (mixKind X.prog X.w)).is s.heap y.1 y.2.1 := by
    intro l m q
    induction q with
    | nil => intro _ y hy; cases hy
    | @cons p q ps qs hq t ih =>
      intro hk y hy
      rcases List.mem_cons.mp hy with e | hz
      · subst e
        rw [← hq.1, ← hq.2.1]
        exact (hk p List.mem_cons_self).is I.hok
      · exact ih (fun x hx => hk x (List.mem_cons_of_mem _ hx)) y hz
  exact all r x.keys
theorem room2 (hu : A.units + 64 < cLine) {κ : Type} [DecidableEq κ] {P : Program} {w : World} {kd : KeyKind P w κ} : (pairKind kd).room A.in1 := by
  show A.in1.units + 1 < cLine
  have e : A.in1.units = A.units + 1 := rfl
  omega
theorem s_getItem {Q : Value → Shared → Prop} (hu : A.units + 64 < cLine) (I : Inv X pins σ H s) (g : SDict X.prog X.w H a xs) (kb : PKey H ks b) (l : sVal xs ks = some v) (h : ∀ w' s', Inv X pins σ H s' → RelV v w' → Q w' s') :
    wpAny (model X.prog X.w) A (getItem (.ref a) (.ref b)) Q E s := by
  obtain ⟨z, hd, us, rel, dd⟩ := g.of I
  obtain ⟨w', hw, rw'⟩ := RelO.some_of (v := v) (o := (atKey us ks).map (·.2)) (by rw [← l]; exact rel.val ks)
  obtain ⟨p, hp, hp2⟩ := Option.map_eq_some_iff.mp hw
  refine wpAny_getItem_heap (room2 hu) (kb.is I.hok) dd hp ?_
  rw [hp2]
  exact h w' _ (I.tok _) rw'
theorem s_get2 {d : V} {Q : Value → Shared → Prop} (hu : A.units + 64 < cLine) (I : Inv X pins σ H s) (g : SDict X.prog X.w H a xs) (kb : PKey H ks b) (rd : RelV d r) (h : ∀ w' s', Inv X pins σ H s' → RelV ((sVal xs ks).getD d) w' → Q w' s') :
    wpAny (model X.prog X.w) A (call (.builtin "dict.get") [.ref a, .ref b, r]) Q E s := by
  obtain ⟨z, hd, us, rel, dd⟩ := g.of I
  exact call_meetsIn PySem.F.slot_dict_get dd.typeIs PySem.F.entry_dict_get (PySem.F.args_dict_get_3 _ _ _) (meetsH_dict_get_default (pairKind (mixKind X.prog X.w)) a b hd r) ⟨room2 hu, ks, us, kb.is I.hok, dd, h _ _ (I.tok _) ((rel.val ks).getD rd)⟩
theorem s_setItem {Q : Unit → Shared → Prop} (hu : A.units + 64 < cLine) (I : Inv X pins σ H s) (g : SDict X.prog X.w H a xs) (e : H a = some (SD X.prog X.w a xs)) (kb : PKey H ks b) (hl : xs.length < sizeLine) (rv : RelV v r)
    (h : ∀ s', Inv X pins σ (upd H a (SD X.prog X.w a (sPut xs ks b v))) s' → Q () s') : wpAny (model X.prog X.w) A (setItem (.ref a) (.ref b) r) Q E s := by
  obtain ⟨z, hd, us, rel, dd⟩ := g.of I
  have hz : us.length ≤ sizeLine := by rw [← Paired.length rel]; exact z
  have hp : (sPut xs ks b v).length ≤ sizeLine := by have := sPut_len xs ks b v; omega
  refine wpAny_setItem_heap (hsz := hz) (room2 hu) (kb.is I.hok) dd fun h' dd' hs => h _ ?_
  obtain ⟨q, es, ep, hq, h2, h3, h4, _, h5⟩ := dd'
  exact d_write I (by rw [e]; exact True.intro) hs ⟨q, hq⟩ (SdOk.obj ⟨hp, hd, _, rel.put ks b rv, q, es, ep, hq, h2, h3, h4, h5⟩)
end
def tSGet (P : Program) (w : World) (td ty : TE) : TE := fun σ H Q => td σ H fun x H1 => ty σ H1 fun y H2 => ∃ a b xs ks v, x = .ref a ∧ y = .ref b ∧ SDict P w H2 a xs ∧ PKey H2 ks b ∧ sVal xs ks = some v ∧ Q v H2
def tSGet2 (P : Program) (w : World) (td ty tz : TE) : TE := fun σ H Q => td σ H fun x H1 => ∃ a xs0, x = .ref a ∧ SDict P w H1 a xs0 ∧ ty σ H1 fun y H2 => tz σ H2 fun z H3 => ∃ b xs ks, y = .ref b ∧ SDict P w H3 a xs ∧ PKey H3 ks b ∧ Q ((sVal xs ks).getD z) H3
def sSPut (P : Program) (w : World) (td ty tv : TE) : TS := fun D σ H => tv σ H fun v H1 => td σ H1 fun x H2 => ty σ H2 fun y H3 => ∃ a b xs ks, x = .ref a ∧ y = .ref b ∧ H3 a = some (SD P w a xs) ∧ SDict P w H3 a xs ∧ PKey H3 ks b ∧ xs.length < sizeLine ∧ D.nx σ (upd H3 a (SD P w a (sPut xs ks b v)))
def tSNew (P : Program) (w : World) : TE := fun _ H Q => ∀ p, H p = none → Q (.ref p) (upd H p (SD P w p []))
section
variable {X : Cx} {o i e f value : Expr} {pos pos' apos cpos : Pos} {td ty tv tz : TE}
theorem pe_snew : PE X (.Dict [] [] pos) (tSNew X.prog X.w) := fun pins s σ H Q I h => by
  have nb : (s.heap.objs.size == sysModules) = false := beq_eq_false_iff_ne.mpr (Nat.ne_of_gt I.big)
  exact wpAny_Dict_empty ⟨.ref s.heap.objs.size, _, I.laid (a := s.heap.objs.size) (o := SD X.prog X.w s.heap.objs.size []) (t' := s.toks) (fun _ _ q => Heap.get?_push_of_some _ q) (Nat.le_refl _)
    (SdOk.obj ⟨Nat.zero_le _, nb, [], .nil, _, #[], 0, Heap.get?_push_size _ rfl, ⟨rfl, rfl, rfl⟩, rfl, rfl, List.nodup_nil⟩), rfl, h _ (I.hok.fresh (Nat.le_refl _))⟩
theorem pe_sget (hu : X.A.units + 64 < cLine) (ho : PE X o td) (hi : PE X i ty) (hs : NoSl i) : PE X (.Subscript o i pos) (tSGet X.prog X.w td ty) := by
  intro pins s σ H Q I h
  refine subD_of PySem.F.slot_dict_getitem.lookup hs (thn (ho pins s σ H _ I h) fun u s1 ⟨x, H1, I1, rx, q1⟩ => thn (hi pins s1 σ H1 _ I1 q1) fun iv s2 ⟨y, H2, I2, ry, a, b, xs, ks, v, ex, ey, g, kb, l, q2⟩ => ?_)
  subst ex ey
  obtain rfl : u = Value.ref a := rx
  obtain rfl : iv = Value.ref b := ry
  obtain ⟨_, _, us, _, dd⟩ := g.of I2
  exact ⟨dd.typeIs, s_getItem hu I2 g kb l fun w' s3 I3 rw' => ⟨v, H2, I3, rw', q2⟩⟩
theorem ps_sput (hu : X.A.units + 64 < cLine) (ho : PE X o td) (hi : PE X i ty) (hv : PE X value tv) (hs : swapsWith value (some (.Subscript o i pos')) pos.line X.env = pure false) : PS X (.Assign [.Subscript o i pos'] value pos) (sSPut X.prog X.w td ty tv) := by
  intro pins s σ H D I h
  refine wpAny_Assign_Subscript (thn (hv pins s σ H _ I h) fun r s1 ⟨v, H1, I1, rv, q1⟩ => thn (ho pins s1 σ H1 _ I1 q1) fun u s2 ⟨x, H2, I2, rx, q2⟩ => thn (hi pins s2 σ H2 _ I2 q2) fun iv s3 ⟨y, H3, I3, ry, a, b, xs, ks, ex, ey, ea, g, kb, l, q3⟩ => ?_) hs
  subst ex ey
  obtain rfl : u = Value.ref a := rx
  obtain rfl : iv = Value.ref b := ry
  exact s_setItem hu I3 g ea kb l rv fun s4 I4 => ⟨σ, _, I4, q3⟩
theorem pe_sget2 (hu : X.A.units + 64 < cLine) (ho : PE X o td) (he : PE X e ty) (hf : PE X f tz) (m : M2 X o "get" apos e f cpos) : PE X (.Call (.Attribute o "get" apos) [e, f] [] cpos) (tSGet2 X.prog X.w td ty tz) := by
  intro pins s σ H Q I h
  refine wpAny_Call_method m.base m.few m.line PySem.F.plainAttrs_dict PySem.F.slot_dict_get PySem.F.type_dict_get (thn (ho pins s σ H _ I h) fun u s1 ⟨x, H1, I1, rx, a, xs0, ex, g0, q1⟩ => ?_)
  subst ex
  obtain rfl : u = Value.ref a := rx
  obtain ⟨_, _, us, _, dd⟩ := g0.of I1
  refine ⟨dd.typeIs, fun c q => ?_, ?_⟩
  · cases q
    obtain ⟨ob, _, _, h1, h2, _⟩ := dd
    exact ⟨ob, h1, h2.2.1⟩
  rw [m.trees]
  refine Calls.callWith_builtin rfl (Calls.evalArgs_plain (Calls.spliced_cons (thn (he pins s1 σ H1 _ I1 q1) fun iv s2 ⟨y, H2, I2, ry, q2⟩ =>
    Calls.spliced_cons (thn (hf pins s2 σ H2 _ I2 q2) fun fv s3 ⟨z, H3, I3, rz, b, xs, ks, ey, g, kb, q3⟩ => Calls.spliced_nil ?_))))
  subst ey
  obtain rfl : iv = Value.ref b := ry
  exact s_get2 hu I3 g kb rz fun w' s4 I4 rw' => ⟨_, H3, I4, rw', q3⟩
end
section
variable {prog : Program} {w : World} {A : Around} {E : Value → Shared → Prop} {s : Shared}
theorem len_dict {d : Addr} {o : Obj} {es : Array DictEntry} {ep : Nat} {Q : Value → Shared → Prop} (hd : (d == sysModules) = false) (g : s.heap.get? d = some o) (c : o.ExactDict) (z : o.data = .dict es ep) (fit : (es.size : Int) < 2 ^ 63)
    (h : ∀ t k, Q (.int es.size t) { s with toks := k }) : wpAny (model prog w) A (call (.builtin "len") [.ref d]) Q E s := by
  have T : s.TypeIs (.ref d) "dict" := ⟨o, g, c.1⟩
  refine Calls.call_function_entry kind_len plain_len entry_len (args_len1 (.ref d)) ?_
  unfold Builtin.«len»
  refine wpAny_bind (m := oneArg "len" _) (wpAny_pure (wpAny_bind (m := callSpecial? (.ref d) (Str.ofString "__len__")) (wpAny_callSpecial?_slot (name := Str.ofString "__len__") T F.slot_dict_len (wpAny_call_entry F.slot_dict_len T F.entry_dict_len ?_ (F.args_dict_len_1 _)))))
  show wpAny _ _ (dictSize d >>= _) _ _ _
  unfold dictSize
  refine wpAny_bind (wpAny_bind (wpAny_dictEntries g z (wpAny_pure ?_)))
  show wpAny _ _ (Builtin.Dict.pendingCount d >>= _) _ _ _
  refine wpAny_bind (wpAny_pendingCount_other hd (wpAny_ret_mkInt ?_))
  rw [Nat.add_zero]
  refine wpAny_bind (wpAny_holding (wpAny_pure (wpAny_bind (wpAny_letGo ?_))))
  show wpAny (model prog w) _ (if ((es.size : Nat) : Int) < 0 then _ else _) _ _ _
  rw [if_neg (by omega)]
  show wpAny (model prog w) _ (if ((es.size : Nat) : Int) ≥ 2 ^ 63 then _ else _) _ _ _
  rw [if_neg (by omega)]
  exact wpAny_bind (wpAny_mkInt (wpAny_pure ⟨_, rfl, h _ _⟩))
end
section
variable {X : Cx}
theorem line_fit {n : Nat} (h : n ≤ sizeLine) : (n : Int) < 2 ^ 63 := by
  rw [sizeLine_eq] at h
  omega
theorem call_lenT : CallR X (.builtin "len") (fun xs H Q => ∃ a kvs, xs = [V.ref a] ∧ H a = some (.dT kvs) ∧ Q (.int (kvs.length : Nat)) H) := by
  intro pins s σ H xs us Q I r h
  obtain ⟨a, kvs, rfl, ha, q⟩ := h
  rw [Vals.ref1 r]
  obtain ⟨z, hd, ys, rel, o, es, ep, g, c, dt, e, _⟩ := dt_of I.hok ha
  have l1 : kvs.length = ys.length := Paired.length rel
  have l2 := size_of_entries e
  refine len_dict hd g c dt (by rw [l2, ← l1]; exact line_fit z) fun t k => ⟨.int (kvs.length : Nat), H, I.tok _, ⟨t, ?_⟩, q⟩
  rw [l2, ← l1]
theorem call_lenS : CallR X (.builtin "len") (fun xs H Q => ∃ a ys, xs = [V.ref a] ∧ SDict X.prog X.w H a ys ∧ Q (.int (ys.length : Nat)) H) := by
  intro pins s σ H xs us Q I r h
  obtain ⟨a, ys, rfl, ha, q⟩ := h
  rw [Vals.ref1 r]
  obtain ⟨z, hd, ws, rel, o, es, ep, g, c, dt, e, _⟩ := ha.of I
  have l1 : ys.length = ws.length := Paired.length rel
  have l2 := size_of_entries e
  refine len_dict hd g c dt (by rw [l2, ← l1]; exact line_fit z) fun t k => ⟨.int (ys.length : Nat), H, I.tok _, ⟨t, ?_⟩, q⟩
  rw [l2, ← l1]
end
def Its2 (P : Program) (w : World) (d : Addr) (o : Obj) (xs : List (Key2 × Addr × V)) : It :=
  ⟨fun i H => H d = some (.frz o (SD P w d xs)) ∧ i < xs.length, fun i H x H' => H' = H ∧ ∃ p, xs[i]? = some p ∧ x = .ref p.2.1, fun i H => H d = some (.frz o (SD P w d xs)) ∧ xs.length ≤ i⟩
theorem Inv.frzS {X : Cx} {pins : List (Addr × Obj)} {σ : St} {H : Hp} {s : Shared} {d : Addr} {o : Obj} {xs : List (Key2 × Addr × V)} (I : Inv X pins σ H s) (h : H d = some (.frz o (SD X.prog X.w d xs))) :
    (d == sysModules) = false ∧ s.heap.get? d = some o ∧ o.ExactDict ∧ ∃ (es : Array DictEntry) (ep : Nat), o.data = .dict es ep ∧ es.size = xs.length ∧ ∀ (i : Nat) p, xs[i]? = some p → ∃ en : DictEntry, es[i]? = some en ∧ en.key = .ref p.2.1 := by
  have g := (I.hok d _ h).1
  obtain ⟨_, hd, us, r, o', es, ep, g', c, dt, e, _⟩ := sd_ok I.hok (.inr ⟨o, h⟩)
  rw [g] at g'
  cases g'
  refine ⟨hd, g, c, es, ep, dt, ?_, fun i p hp => ?_⟩
  · have l1 : xs.length = us.length := Paired.length r
    have l2 := size_of_entries e
    omega
  · obtain ⟨q, hq, _, e2, _⟩ := paired_get r hp
    have z := entry_at e i
    rw [hq] at z
    exact ⟨_, z, by rw [e2]; rfl⟩
theorem turn_keysS {P : Program} {w : World} {K : PySem.W.Frag} {tg : Expr} {d : Addr} {o : Obj} {es : Array DictEntry} {ep : Nat} {xs : List (Key2 × Addr × V)} (it : Addr) (hod : o.data = .dict es ep) : Turn P w K tg (Its2 P w d o xs) [it] it (fun i h => h.IsKeyIter it d i xs.length ep) where
  mem := by simp
  obj := fun i h st b hb => by
    have e : b = it := by simpa using hb
    subst e
    obtain ⟨oi, e, c, dd⟩ := st
    exact ⟨oi, e, fun v z => by rw [dd] at z; cases z⟩
  keep := fun i h h' st k => st.at fun oi e => k it (by simp) oi e
  item := by
    intro X hP hw hK hc i pins s σ H E I hf st hg
    subst hP hw hK
    obtain ⟨hd, hi⟩ := hg
    obtain ⟨f0, f1, f2, f3, f4, f5⟩ := hf it (by simp)
    obtain ⟨hs, hgd, hx, es', ep', hdt, hsz, ent⟩ := I.frzS hd
    obtain ⟨rfl, rfl⟩ := dict_ep hod hdt
    obtain ⟨p, hp⟩ : ∃ p, xs[i]? = some p := ⟨xs[i], List.getElem?_eq_getElem hi⟩
    obtain ⟨en, hen, hkey⟩ := ent i p hp
    refine next_key_item st hgd hdt hsz hen fun h' st' sb => ?_
    have I1 : Inv X pins σ H { s with heap := h' } := I.turned (t' := s.toks) (fun b ob hb e => (sb.2 b hb).trans e) f0 f1 f3 f4 f5
    obtain ⟨oi, e, c, dd⟩ := id st'
    exact ⟨en.key, rfl, go_of (s := { s with heap := h' }) e c dd (by decide) ⟨.ref p.2.1, H, I1, hkey, ⟨rfl, p, hp, rfl⟩, st', fun b hb => (hf b hb).1⟩⟩
  done := by
    intro X hP hw hK hc i pins s σ H E I hf st hg
    subst hP hw hK
    obtain ⟨hd, hi⟩ := hg
    obtain ⟨f0, f1, f2, f3, f4, f5⟩ := hf it (by simp)
    obtain ⟨hs, hgd, hx, es', ep', hdt, hsz, ent⟩ := I.frzS hd
    obtain ⟨rfl, rfl⟩ := dict_ep hod hdt
    exact next_key_end (I.ok.hd hc) st hgd hdt hsz hi fun h' eb => ⟨rfl, I.turned (t' := s.toks) (fun b ob hb e => eb b ob hb e) f0 f1 f3 f4 f5⟩
  self := fun A i s Q E st h => wpAny_pyIter_keyiter st h
def iKeysS (P : Program) (w : World) (td : TE) : TI := fun σ H R => td σ H fun x H1 => ∃ d o xs, x = .ref d ∧ H1 d = some (.frz o (SD P w d xs)) ∧ R (Its2 P w d o xs) H1
theorem pi_keysS {X : Cx} {tg e : Expr} {td : TE} (he : PE X e td) : PI X tg e (iKeysS X.prog X.w td) := by
  intro pins s σ H R I h
  refine thn (he pins s σ H _ I h) fun u s1 ⟨x, H1, I1, rx, d, o, xs, ex, hd, q⟩ => ?_
  subst ex
  obtain rfl : u = Value.ref d := rx
  obtain ⟨hs, hgd, hx, es, ep, hdt, hsz, ent⟩ := I1.frzS hd
  refine iter_keys hs hgd hx hdt (pi_one (tk := s1.toks) I1 _ (turn_keysS _ hdt) ⟨_, Heap.get?_push_size _ rfl, rfl, ?_⟩ q)
  rw [hsz] <;> rfl
theorem lc_keysS {P : Program} {w : World} {d : Addr} {o : Obj} {xs : List (Key2 × Addr × V)} {g : TG} {tt : TT} {te : TE} {vs : List Nat} {σ : St} {H1 : Hp} {D : Addr} {Qd : Hp → Prop} (Pv : Nat → Hp → Prop) (h0 : Pv 0 (upd H1 D (.lst [])))
    (hl : ∀ i H, i ≤ xs.length → Pv i H → H d = some (.frz o (SD P w d xs)))
    (hs : ∀ i p H, xs[i]? = some p → Pv i H → g (.ref p.2.1) (wipe σ vs) H fun σ2 H2 => wipe σ2 vs = wipe σ vs ∧ tt σ2 H2 fun b H3 =>
      if b = true then te σ2 H3 fun y H4 => ∃ acc, H4 D = some (.lst acc) ∧ acc.length < sizeLine ∧ Pv (i + 1) (upd H4 D (.lst (acc ++ [y]))) else Pv (i + 1) H3) (hd : ∀ H, Pv xs.length H → Qd H) :
    ∃ W : Nat → Nat → Hp → Prop, (∃ m, W 0 m (upd H1 D (.lst []))) ∧ ∀ i m H, W i m H →
      ((Its2 P w d o xs).stop i H ∧ Qd H) ∨ ((Its2 P w d o xs).go i H ∧ ∃ Nx : Hp → Prop, (∀ H', Nx H' → ∃ m', m' < m ∧ W (i + 1) m' H') ∧ ∀ x H', (Its2 P w d o xs).yld i H x H' → g x (wipe σ vs) H' fun σ2 H2 => wipe σ2 vs = wipe σ vs ∧ tt σ2 H2 fun b H3 =>
        if b = true then te σ2 H3 fun y H4 => ∃ acc, H4 D = some (.lst acc) ∧ acc.length < sizeLine ∧ Nx (upd H4 D (.lst (acc ++ [y]))) else Nx H3) := by
  refine ⟨fun i m H => m = xs.length - i ∧ i ≤ xs.length ∧ Pv i H, ⟨xs.length, by simp, Nat.zero_le _, h0⟩, ?_⟩
  rintro i m H ⟨rfl, hi, p⟩
  have q := hl i H hi p
  by_cases hlt : i < xs.length
  · refine .inr ⟨⟨q, hlt⟩, Pv (i + 1), fun H' p' => ⟨xs.length - (i + 1), by omega, rfl, hlt, p'⟩, fun x H' y => ?_⟩
    obtain ⟨e, pr, hp, ex⟩ := y
    subst e ex
    exact hs i pr _ hp p
  · have e : i = xs.length := by omega
    subst e
    exact .inl ⟨⟨q, Nat.le_refl _⟩, hd H p⟩
section
variable {prog : Program} {w : World} {A : Around} {E : Value → Shared → Prop} {s : Shared}
def Got {κ : Type} [DecidableEq κ] (kd : KeyKind prog w κ) (kvs : List (κ × Value)) (s : Shared) (r : Result) (s1 : Shared) : Prop := r = .ok (.ret (.ref s.heap.objs.size)) ∧ ∃ h' tk acc c, s1 = { s with heap := h', toks := tk } ∧ (∀ b o, s.heap.get? b = some o → h'.get? b = some o) ∧
  h'.get? s.heap.objs.size = some { cls := .type "list", dict := none, data := .seq acc c, slots := #[] } ∧ ItemsOf (fun i v => ∃ k x, kvs[i]? = some (k, x) ∧ kd.is k v = true) acc kvs.length
theorem collect_dict {κ : Type} [DecidableEq κ] {kd : KeyKind prog w κ} {d : Addr} {kvs : List (κ × Value)} {ep : Nat} {Q : List Value → Shared → Prop} (hh : A.handled = none) (hd : (d == sysModules) = false) (g : s.heap.DictAt kd d kvs ep) (hn : kvs.length ≤ sizeLine)
    (h : ∀ h' tk (vs : List Value), s.heap.objs.size < h'.objs.size → (∀ b o, s.heap.get? b = some o → h'.get? b = some o) → vs.length = kvs.length → (∀ (i : Nat) (v : Value), vs[i]? = some v → ∃ k x, kvs[i]? = some (k, x) ∧ kd.is k v = true) → Q vs { s with heap := h', toks := tk }) :
    wpAny (model prog w) A (collect (.ref d)) Q E s := by
  have src := PySem.W.kdl_dict (knd := kd) (kvs := kvs) (ep := ep) hd
  have lt := g.lt_size
  have hS0 : (s.heap.push { cls := .type "list", data := .seq ([] : List Value).toArray }).get? s.heap.objs.size = some { cls := .type "list", data := .seq #[] 0 } := Heap.get?_push_size _ rfl
  have run : codeAny (model prog w) A (.builtin "proto.collect" ⟨[.ref d], []⟩) (Got kd kvs s) s := by
    refine codeAny_builtin F.entry_proto_collect ?_
    rw [Around.under_plainId F.plain_proto_collect]
    show wpAny (model prog w) A.in1 (newList [] >>= fun l => again (.builtin "list.__iadd__" ⟨[l, .ref d], []⟩)) _ _ _
    refine wpAny_bind (wpAny_newObj_type (wpAny_pure ⟨plainId_quiet F.plain_list_iadd _, codeAny_builtin F.entry_list_iadd ?_⟩))
    rw [Around.under_plainId F.plain_list_iadd]
    show wpAny (model prog w) A.in1 (Builtin.List.listExtendWith (.ref s.heap.objs.size) (.ref d) (.ref s.heap.objs.size)) _ _ _
    exact PySem.W.kdl_extend (R := Got kd kvs s) (A := A) (s := { s with heap := s.heap.push { cls := .type "list", data := .seq ([] : List Value).toArray } }) src hh (src.keep _ _ g fun b _ o e => Heap.get?_push_of_some _ e) s.heap.objs.size (Nat.ne_of_gt lt) (Nat.ne_of_gt lt) (.ref s.heap.objs.size) 0 hS0
      (fun h' tk acc c k hS hacc => ⟨rfl, h', tk, acc, c, rfl, fun b o e => k b o (Nat.ne_of_lt (Heap.lt_size e)) (Heap.get?_push_of_some _ e), hS, hacc⟩) hn
  unfold collect
  refine wpAny_bind (m := runValue _) (wpAny_runValue (codeAny_mono run fun r s1 q => ?_))
  obtain ⟨rfl, h', tk, acc, c, rfl, k, hS, hacc⟩ := q
  show wpAny (model prog w) A (load s.heap.objs.size >>= _) _ _ _
  refine wpAny_bind (wpAny_load hS (wpAny_pure (h h' tk acc.toList (Heap.lt_size hS) k ?_ fun i v q => hacc.2 i v ?_)))
  · rw [Array.length_toList]
    exact hacc.1
  · rw [← Array.getElem?_toList]
    exact q
end
theorem ints_keys : ∀ {ns : List Int} {vs : List Value}, vs.length = ns.length → (∀ (i : Nat) (v : Value), vs[i]? = some v → ∃ n t, ns[i]? = some n ∧ v = Value.int n t) → IntsAre vs ns
  | [], [], _, _ => .nil
  | n :: ns, v :: vs, l, h => by
    obtain ⟨m, t, e, rfl⟩ := h 0 v rfl
    simp only [List.getElem?_cons_zero, Option.some.injEq] at e
    subst e
    exact .cons _ _ (ints_keys (by simpa using l) fun i u q => by simpa using h (i + 1) u (by simpa using q))
  | [], _ :: _, l, _ => by simp at l
  | _ :: _, [], l, _ => by simp at l
section
variable {X : Cx}
def rSortedD : List V → Hp → VK → Prop := fun vs H Q => ∃ (a : Addr) (kvs : List (Key × V)) (ns : List Int), vs = [V.ref a] ∧ H a = some (.dK kvs) ∧ kvs.map (·.1) = ns.map Sum.inl ∧
  ∀ (ms : List Int) (p : Addr), ms.Perm ns → ms.Pairwise (· ≤ ·) → H p = none → Q (.ref p) (upd H p (.lst (ms.map V.int)))
theorem cr_sortedD (hc : X.calm = true) : CallR X (.builtin "sorted") rSortedD := by
  intro pins s σ H vs us Q I r h
  obtain ⟨a, kvs, ns, rfl, ha, ek, q⟩ := h
  rw [Vals.ref1 r]
  obtain ⟨z, hd, ws, rel, dd⟩ := dk_of I.hok ha
  obtain ⟨ep, dat⟩ := dd.dictAt
  have l1 : kvs.length = ws.length := rel.length
  have l2 : kvs.length = ns.length := by
    have := congrArg List.length ek
    rw [List.length_map, List.length_map] at this
    exact this
  have kk := rel.keys
  refine Calls.call_function_entry kind_sorted plain_sorted entry_sorted (args_sorted1 (.ref a)) ?_
  unfold Builtin.«sorted»
  refine wpAny_bind (m := checkCount "sorted" 1 1 _) (wpAny_pure (wpAny_bind (collect_dict (A := X.A.in1) (I.ok.hd hc) hd dat (by rw [← l1]; exact z) fun h1 tk ys lt1 k1 e1 e2 => wpAny_bind (wpAny_newList ?_))))
  have hI : IntsAre ys ns := ints_keys (by omega) fun i v hv => by
    obtain ⟨k, x, e3, e4⟩ := e2 i v hv
    have e5 : (ws.map (·.1))[i]? = some k := by rw [List.getElem?_map, e3]; rfl
    rw [← kk, ek, List.getElem?_map] at e5
    obtain ⟨n, e6, e7⟩ := Option.map_eq_some_iff.mp e5
    subst e7
    obtain ⟨t, e8⟩ := Value.isInt_shape (k := n) (v := v) e4
    exact ⟨n, t, e6, e8⟩
  have hoL : (h1.push (seqObj "list" ys.toArray 0)).get? h1.objs.size = some (seqObj "list" ys.toArray 0) := Heap.get?_push_size _ rfl
  have hL : ys.length ≤ sizeLine := by omega
  refine wpAny_bind (wpAny_holding (wpAny_call_entry slot_list_sort ⟨_, hoL, rfl⟩ entry_list_sort (list_sort_treeAny hoL hI hL fun out ms a1 a2 a3 => ⟨_, rfl, ?_⟩) (args_list_sort _)))
  refine wpAny_pure ⟨.ref _, rfl, ?_⟩
  obtain ⟨ep2, he'⟩ := PyProof.Rows.sortedHeap_at (vs := ys) (out := out) hoL
  have ge : s.heap.objs.size ≤ h1.objs.size := Nat.le_of_lt lt1
  have hlen : (ms.map V.int).length ≤ sizeLine := by rw [List.length_map, a2.length_eq]; omega
  refine ⟨.ref _, upd H h1.objs.size (.lst (ms.map V.int)), I.laid (t' := tk) (fun b o e => ?_) ge ⟨hlen, out.toList, ep2, vals_of_ints a1, he'⟩, rfl, q ms _ a2 a3 (I.hok.fresh ge)⟩
  have e0 := k1 b o e
  have lt := Heap.lt_size e0
  rw [PyProof.Rows.sortedHeap_old (Nat.ne_of_lt lt) (Nat.lt_trans lt (by rw [Heap.size_push]; exact Nat.lt_succ_self _))]
  exact Heap.get?_push_of_some _ e0
end
end L2
end
section
set_option Elab.async false
set_option linter.all false
set_option maxRecDepth 100000
set_option maxHeartbeats 4000001
namespace HT
open PySem PyProof.Rows
theorem rcGt_int (A : Around) (s : Shared) (a : Int) (t : Tok) (c : Int) (u : Tok) (prog : Program) (w : World) (E : Value → Shared → Prop) (Q : Value → Shared → Prop) (h : Q (.bool (decide (c < a))) s) :
    wpAny (model prog w) A (richCompare .Gt (.int a t) (.int c u)) Q E s :=
  (PyProof.Rows.gt_int h : wpAny (model prog w) A (compareOp .Gt (.int a t) (.int c u)) Q E s)
section
open PySem.SeqAt
open PySem.AutoSeq1 (wpAny_loadPart')
open PySem.MeetsSeq PySem.MeetsSeq2 PySem.MeetsSeq3
theorem tuple_gt_ints (l b : Addr) (items items2 : Array Value) (n n2 : Nat) (dd dd2 : Option Addr) (sl sl2 : Array (Option Value)) (ns ms : List Int) (hi : IntsAre items.toList ns) (hj : IntsAre items2.toList ms) :
    Meets (Builtin.«tuple.__gt__» ⟨[.ref l, .ref b], []⟩)
      (fun _ R s => s.heap.get? l = some { cls := .type "tuple", dict := dd, data := .seq items n, slots := sl } ∧ s.heap.get? b = some { cls := .type "tuple", dict := dd2, data := .seq items2 n2, slots := sl2 } ∧
        R (.ok (.ret (.bool (lexLt ms ns)))) s) :=
  .of_wp fun prog w A R s h => by
    obtain ⟨hp, g, d, tk, os⟩ := s; obtain ⟨hl, hb, h⟩ := h
    have f2 := AutoSeq1.sub_tuple_tuple
    have z1 : items.size = ns.length := by rw [← hi.length]; simp
    have z2 : items2.size = ms.length := by rw [← hj.length]; simp
    wp_walk using wpAny_loadPart' hl, wpAny_loadPart' hb, wpAny_forIn_list _ (fun rest b s' => b.1 = none ∧ s' = ⟨hp, g, d, tk, os⟩ ∧ ∃ (vs ws : List Value) (ns' ms' : List Int), rest = vs.zip ws ∧
      IntsAre vs ns' ∧ IntsAre ws ms' ∧ ns'.length + items2.size = ms'.length + items.size ∧ R (.ok (.ret (.bool (lexLt ms' ns')))) ⟨hp, g, d, tk, os⟩) _
    case turn =>
      rintro ⟨y, x⟩ rest b s' ⟨hb', rfl, vs, ws, ns', ms', hz, hvi, hwi, hlen, hR⟩
      cases hvi with
      | nil => rw [List.zip_nil_left] at hz; cases hz
      | cons a t hvi' =>
        cases hwi with
        | nil => rw [List.zip_nil_right] at hz; cases hz
        | cons c u hwi' =>
          rw [List.zip_cons_cons] at hz
          injection hz with hyx hrest
          injection hyx with hy hx
          subst hy hx
          rw [lexLt_cons] at hR
          simp only [List.length_cons] at hlen
          obtain ⟨e, he, hiff⟩ := eqAt_int A.in1 ⟨hp, g, d, tk, os⟩ a t c u
          refine wpAny_bind (he prog w _ _ ?_)
          cases e with
          | true =>
            rw [if_pos (hiff.mp rfl).symm] at hR
            wp_walk
            exact ⟨rfl, rfl, _, _, _, _, hrest, hvi', hwi', by omega, hR⟩
          | false =>
            rw [if_neg (fun q => absurd (hiff.mpr q.symm) Bool.false_ne_true)] at hR
            have hri := rcGt_int A.in1 ⟨hp, g, d, tk, os⟩ a t c u prog w
            wp_walk using hri
            exact ⟨_, rfl, by simpa using hR⟩
    case fin =>
      rintro ⟨b1, b2⟩ s' ⟨hb', rfl, vs, ws, ns', ms', hz, hvi, hwi, hlen, hR⟩
      simp only at hb'
      subst hb'
      have hv : lexLt ms' ns' = decide (items2.size < items.size) := by
        cases hvi with
        | nil =>
          cases hwi with
          | nil =>
            simp only [List.length_nil] at hlen
            rw [lexLt_nil_nil]
            exact (decide_eq_false (by omega)).symm
          | cons c u hw =>
            simp only [List.length_nil, List.length_cons] at hlen
            rw [lexLt_cons_nil]
            exact (decide_eq_false (by omega)).symm
        | cons a t hv =>
          cases hwi with
          | nil =>
            simp only [List.length_nil, List.length_cons] at hlen
            rw [lexLt_nil_cons]
            exact (decide_eq_true (by omega)).symm
          | cons c u hw =>
            rw [List.zip_cons_cons] at hz
            cases hz
      rw [hv] at hR
      wp_walk
      exact ⟨_, rfl, by simpa [Builtin.Tuple.tupleCompareSizes] using hR⟩
    case h =>
      exact ⟨rfl, rfl, items.toList, items2.toList, ns, ms, rfl, hi, hj, by omega, h⟩
end
section
variable {prog : Program} {w : World} {A : Around} {E : Value → Shared → Prop} {s : Shared}
theorem gt_tup {l b : Addr} {items items2 : Array Value} {ns ms : List Int} {Q : Value → Shared → Prop} (hl : IsTup s.heap l items) (hb : IsTup s.heap b items2) (hi : IntsAre items.toList ns) (hj : IntsAre items2.toList ms)
    (hu : A.units < cLine) (h : Q (.bool (lexLt ms ns)) s) : wpAny (model prog w) A (richCompare .Gt (.ref l) (.ref b)) Q E s := by
  obtain ⟨⟨cls, dd, data, sl⟩, ho, hc, n, hd⟩ := id hl
  obtain ⟨⟨cls2, dd2, data2, sl2⟩, ho2, hc2, n2, hd2⟩ := id hb
  simp only at hc hd hc2 hd2
  subst hc hd hc2 hd2
  exact richCompare_meets_room (op := .Gt) ⟨_, ho, rfl⟩ ⟨_, ho2, rfl⟩ PySem.F.slot_tuple_gt PySem.F.entry_tuple_gt (PySem.F.args_tuple_gt_2 _ _) (tuple_gt_ints l b items items2 n n2 dd dd2 sl sl2 ns ms hi hj)
    ⟨ho, ho2, show Value.bool (lexLt ms ns) ≠ Value.notImplemented ∧ Q (.bool (lexLt ms ns)) s from ⟨(fun x => nomatch x), h⟩⟩ hu
theorem lt_tup {l b : Addr} {items items2 : Array Value} {ns ms : List Int} {Q : Value → Shared → Prop} (hl : IsTup s.heap l items) (hb : IsTup s.heap b items2) (hi : IntsAre items.toList ns) (hj : IntsAre items2.toList ms)
    (hu : A.units < cLine) (h : Q (.bool (lexLt ns ms)) s) : wpAny (model prog w) A (richCompare .Lt (.ref l) (.ref b)) Q E s := by
  exact (lt_tupInts hl hb hi hj hu h : wpAny (model prog w) A (compareOp .Lt (.ref l) (.ref b)) Q E s)
end
end HT
namespace L2
open PySem PySem.Spec PyProof.Rows
section
variable {X : Cx}
theorem isTup_kept {h h' : Heap} {a : Addr} {its : Array Value} (x : IsTup h a its) (k : ∀ d o, h.get? d = some o → h'.get? d = some o) : IsTup h' a its := by
  obtain ⟨o, e, r⟩ := x
  exact ⟨o, k _ _ e, r⟩
def rMax2T (K : PySem.W.Frag) : List V → Hp → VK → Prop := fun xs H Q => ∃ (a b : Addr) (ns ms : List Int), xs = [V.ref a, V.ref b] ∧ SqT K H a (ns.map V.int) ∧ SqT K H b (ms.map V.int) ∧ Q (.ref (if HT.lexLt ns ms = true then b else a)) H
def rMin2T (K : PySem.W.Frag) : List V → Hp → VK → Prop := fun xs H Q => ∃ (a b : Addr) (ns ms : List Int), xs = [V.ref a, V.ref b] ∧ SqT K H a (ns.map V.int) ∧ SqT K H b (ms.map V.int) ∧ Q (.ref (if HT.lexLt ms ns = true then b else a)) H
theorem ref2 {a b : Addr} {us : List Value} (r : Vals [V.ref a, V.ref b] us) : us = [Value.ref a, Value.ref b] := by
  obtain ⟨u, v, rfl, h1, h2⟩ := vals2 r
  cases h1
  cases h2
  rfl
theorem in1_units {A : Around} (hu : A.units + 64 < cLine) : A.in1.units < cLine := by
  have e : A.in1.units = A.units + 1 := rfl
  omega
theorem call_max2T (hc : X.calm = true) (hu : X.A.units + 64 < cLine) : CallR X (.builtin "max") (rMax2T X.K) := by
  intro pins s σ H xs us Q I r h
  obtain ⟨a, b, ns, ms, rfl, ha, hb, q⟩ := h
  rw [ref2 r]
  obtain ⟨ia, va, ta, _⟩ := I.tuple ha
  obtain ⟨ib, vb, tb, _⟩ := I.tuple hb
  refine max_two (q := HT.lexLt ns ms) (I.ok.hd hc) (fun h1 tk Q E k q => HT.gt_tup (isTup_kept tb k) (isTup_kept ta k) (by simpa using vb.ints) (by simpa using va.ints) (in1_units hu) q) fun h1 tk k => ⟨_, H, I.kept k, ?_, q⟩
  split <;> rfl
theorem call_min2T (hc : X.calm = true) (hu : X.A.units + 64 < cLine) : CallR X (.builtin "min") (rMin2T X.K) := by
  intro pins s σ H xs us Q I r h
  obtain ⟨a, b, ns, ms, rfl, ha, hb, q⟩ := h
  rw [ref2 r]
  obtain ⟨ia, va, ta, _⟩ := I.tuple ha
  obtain ⟨ib, vb, tb, _⟩ := I.tuple hb
  refine min_two (q := HT.lexLt ms ns) (I.ok.hd hc) (fun h1 tk Q E k q => HT.lt_tup (isTup_kept tb k) (isTup_kept ta k) (by simpa using vb.ints) (by simpa using va.ints) (in1_units hu) q) fun h1 tk k => ⟨_, H, I.kept k, ?_, q⟩
  split <;> rfl
theorem ints_nth {us : List Value} {ns : List Int} (h : IntsAre us ns) : ∀ {i : Nat} {v : Value}, us[i]? = some v → ∃ t, v = .int (ns.getD i 0) t := by
  induction h with
  | nil => exact fun {i v} e => by simp at e
  | cons n t _ ih =>
    intro i v e
    cases i with
    | zero => simp at e; subst e; exact ⟨t, rfl⟩
    | succ i => simpa using ih (i := i) (v := v) (by simpa using e)
def rMaxT (K : PySem.W.Frag) : List V → Hp → VK → Prop := fun vs H Q => ∃ (a : Addr) (ns : List Int), vs = [V.ref a] ∧ SqT K H a (ns.map V.int) ∧ 0 < ns.length ∧ ∀ m, m ∈ ns → (∀ y, y ∈ ns → y ≤ m) → Q (.int m) H
def rMinT (K : PySem.W.Frag) : List V → Hp → VK → Prop := fun vs H Q => ∃ (a : Addr) (ns : List Int), vs = [V.ref a] ∧ SqT K H a (ns.map V.int) ∧ 0 < ns.length ∧ ∀ m, m ∈ ns → (∀ y, y ∈ ns → m ≤ y) → Q (.int m) H
theorem mem_nth {ns : List Int} {i : Nat} (h : i < ns.length) : ns.getD i 0 ∈ ns := by
  rw [List.getD_eq_getElem?_getD, List.getElem?_eq_getElem h]
  exact List.getElem_mem h
theorem nth_mem {ns : List Int} {y : Int} (h : y ∈ ns) : ∃ j, j < ns.length ∧ ns.getD j 0 = y := by
  obtain ⟨j, hj, ej⟩ := List.getElem_of_mem h
  exact ⟨j, hj, by rw [List.getD_eq_getElem?_getD, List.getElem?_eq_getElem hj, ej]; rfl⟩
theorem cr_maxT (hc : X.calm = true) : CallR X (.builtin "max") (rMaxT X.K) := by
  intro pins s σ H vs us Q I r h
  obtain ⟨a, ns, rfl, ha, hne, q⟩ := h
  rw [Vals.ref1 r]
  obtain ⟨ia, va, ta, _⟩ := I.tuple ha
  have hi := va.ints
  have hl : ia.length = ns.length := hi.length
  have na : a ≠ s.heap.objs.size := let ⟨_, e, _⟩ := ta; Nat.ne_of_lt (Heap.lt_size e)
  have W := Walks.tuple (prog := X.prog) (w := X.w) (A := X.A.in1) (I.ok.hd hc) s.heap.objs.size a na ia.toArray
  refine call_max_walk (wpAny_pyIter_tuple (show s.heap.IsTuple a ia.toArray from ta) ⟨s.heap.objs.size, [s.heap.objs.size, a], [s.heap.objs.size], ia.toArray.size, _, _, fun i j => decide (ns.getD i 0 > ns.getD j 0), rfl, W, ⟨⟨_, Heap.get?_push_size _ rfl, rfl, rfl⟩, isTup_kept ta fun d o e => Heap.get?_push_of_some _ e⟩, ?_, ?_, CmpOf.ints_gt (fun i => ns.getD i 0) (fun i v hv => ints_nth hi (by simpa using hv)), fun v h' tk hv k => ?_⟩)
  · intro b hb
    rw [Heap.size_push]
    rcases List.mem_cons.mp hb with e | e
    · rw [e]
      exact Nat.lt_succ_self _
    · rw [List.mem_singleton.mp e]
      obtain ⟨o, g, _⟩ := ta
      exact Nat.lt_succ_of_lt (Heap.lt_size g)
  · simpa [hl] using hne
  · obtain ⟨b1, b2⟩ := argBest_gt (fun i => ns.getD i 0) (ia.toArray.size - 1)
    have z : ia.toArray.size = ns.length := by simpa using hl
    obtain ⟨t, rfl⟩ := ints_nth hi (show ia[argBest (fun i j => decide (ns.getD i 0 > ns.getD j 0)) (ia.toArray.size - 1)]? = some v by simpa using hv)
    refine ⟨.int _, H, I.kept fun d o e => k d o (fun hm => ?_) (Heap.get?_push_of_some _ e), ⟨t, rfl⟩, q _ (mem_nth (by omega)) fun y hy => ?_⟩
    · rw [List.mem_singleton] at hm
      rw [hm] at e
      exact Nat.lt_irrefl _ (Heap.lt_size e)
    · obtain ⟨j, hj, e⟩ := nth_mem hy
      rw [← e]
      exact b2 j (by omega)
theorem cr_minT (hc : X.calm = true) : CallR X (.builtin "min") (rMinT X.K) := by
  intro pins s σ H vs us Q I r h
  obtain ⟨a, ns, rfl, ha, hne, q⟩ := h
  rw [Vals.ref1 r]
  obtain ⟨ia, va, ta, _⟩ := I.tuple ha
  have hi := va.ints
  have hl : ia.length = ns.length := hi.length
  have na : a ≠ s.heap.objs.size := let ⟨_, e, _⟩ := ta; Nat.ne_of_lt (Heap.lt_size e)
  have W := Walks.tuple (prog := X.prog) (w := X.w) (A := X.A.in1) (I.ok.hd hc) s.heap.objs.size a na ia.toArray
  refine call_min_walk (wpAny_pyIter_tuple (show s.heap.IsTuple a ia.toArray from ta) ⟨s.heap.objs.size, [s.heap.objs.size, a], [s.heap.objs.size], ia.toArray.size, _, _, fun i j => decide (ns.getD i 0 < ns.getD j 0), rfl, W, ⟨⟨_, Heap.get?_push_size _ rfl, rfl, rfl⟩, isTup_kept ta fun d o e => Heap.get?_push_of_some _ e⟩, ?_, ?_, CmpOf.ints_lt (fun i => ns.getD i 0) (fun i v hv => ints_nth hi (by simpa using hv)), fun v h' tk hv k => ?_⟩)
  · intro b hb
    rw [Heap.size_push]
    rcases List.mem_cons.mp hb with e | e
    · rw [e]
      exact Nat.lt_succ_self _
    · rw [List.mem_singleton.mp e]
      obtain ⟨o, g, _⟩ := ta
      exact Nat.lt_succ_of_lt (Heap.lt_size g)
  · simpa [hl] using hne
  · obtain ⟨b1, b2⟩ := argBest_lt (fun i => ns.getD i 0) (ia.toArray.size - 1)
    have z : ia.toArray.size = ns.length := by simpa using hl
    obtain ⟨t, rfl⟩ := ints_nth hi (show ia[argBest (fun i j => decide (ns.getD i 0 < ns.getD j 0)) (ia.toArray.size - 1)]? = some v by simpa using hv)
    refine ⟨.int _, H, I.kept fun d o e => k d o (fun hm => ?_) (Heap.get?_push_of_some _ e), ⟨t, rfl⟩, q _ (mem_nth (by omega)) fun y hy => ?_⟩
    · rw [List.mem_singleton] at hm
      rw [hm] at e
      exact Nat.lt_irrefl _ (Heap.lt_size e)
    · obtain ⟨j, hj, e⟩ := nth_mem hy
      rw [← e]
      exact b2 j (by omega)
def rExtT (K : PySem.W.Frag) : V → List V → Hp → VK → Prop := fun x vs H Q => ∃ l b xs zs, x = .ref l ∧ vs = [.ref b] ∧ H l = some (.lst xs) ∧ SqT K H b zs ∧ xs.length + zs.length ≤ sizeLine ∧ Q .non (upd H l (.lst (xs ++ zs)))
theorem mt_extT : MtM X "list.extend" (rExtT X.K) := by
  intro pins s σ H x vs v us Q I rx rv h
  obtain ⟨l, b, xs, zs, rfl, rfl, hH, hB, hz, q⟩ := h
  cases rx
  obtain ⟨u, rfl, ru⟩ := rv.one
  cases ru
  obtain ⟨z, its, n, r, hl, e⟩ := I.lstM hH
  obtain ⟨ib, vb, ⟨ob, gb, cb, nb, db⟩, _⟩ := I.tuple hB
  have lb := vb.length
  refine wpAny_call_entry F.slot_list_extend ⟨_, e, rfl⟩ F.entry_list_extend ?_ (F.args_list_extend_2 _ _)
  show wpAny (model X.prog X.w) X.A.in1 (Builtin.List.listExtendWith (.ref l) (.ref b) .none) _ _ s
  delta Builtin.List.listExtendWith
  refine wpAny_bind (wpAny_typeOf (T := "tuple") ⟨ob, gb, cb⟩ ?_)
  rw [if_pos (by simp)]
  refine wpAny_bind (listItems_at gb db (wpAny_bind (listItems_at e rfl ?_)))
  have nl := notLongL (n := its.toArray.size + ib.toArray.size) (by rw [List.size_toArray, List.size_toArray]; omega)
  rw [if_neg (by rw [nl, Bool.and_false]; simp)]
  refine wpAny_bind (listUpdate_at e rfl (wpAny_pure ⟨_, rfl, ?_⟩) (by rw [List.size_toArray]; omega) (by rw [Array.size_append, List.size_toArray, List.size_toArray]; omega))
  refine ⟨.non, _, I.lset (its' := its ++ ib) hH e (by simp) (r.append vb) ?_, rfl, q⟩
  rw [List.length_append]
  omega
end
end L2
end
section
namespace RM
open Rc29
theorem touch_iff {a b : Triangle} : touch a b = true ↔ ∃ c, c ∈ corners a ∧ c ∈ corners b := by
  unfold touch
  rw [List.any_eq_true]
  constructor
  · rintro ⟨c, h1, h2⟩
    exact ⟨c, h1, List.contains_iff_mem.mp h2⟩
  · rintro ⟨c, h1, h2⟩
    exact ⟨c, h1, List.contains_iff_mem.mpr h2⟩
theorem touch_symm {a b : Triangle} (h : touch a b = true) : touch b a = true := by
  obtain ⟨c, h1, h2⟩ := touch_iff.mp h
  exact touch_iff.mpr ⟨c, h2, h1⟩
def tch (l : List Triangle) (i j : Nat) : Bool := match l[i]?, l[j]? with
  | some x, some y => touch x y
  | _, _ => false
theorem tch_iff {l : List Triangle} {i j : Nat} : tch l i j = true ↔ ∃ x y, l[i]? = some x ∧ l[j]? = some y ∧ touch x y = true := by
  unfold tch
  constructor
  · intro h
    split at h
    · next x y h1 h2 => exact ⟨x, y, h1, h2, h⟩
    · cases h
  · rintro ⟨x, y, h1, h2, h3⟩
    rw [h1, h2]
    exact h3
theorem tch_symm {l : List Triangle} {i j : Nat} (h : tch l i j = true) : tch l j i = true := by
  obtain ⟨x, y, h1, h2, h3⟩ := tch_iff.mp h
  exact tch_iff.mpr ⟨y, x, h2, h1, touch_symm h3⟩
theorem tch_lt {l : List Triangle} {i j : Nat} (h : tch l i j = true) : i < l.length ∧ j < l.length := by
  obtain ⟨x, y, h1, h2, _⟩ := tch_iff.mp h
  exact ⟨(List.getElem?_eq_some_iff.mp h1).1, (List.getElem?_eq_some_iff.mp h2).1⟩
inductive Conn (l : List Triangle) : Nat → Nat → Prop
  | refl (i : Nat) : Conn l i i
  | step {i j k : Nat} : tch l i j = true → Conn l j k → Conn l i k
theorem Conn.trans {l : List Triangle} {i j k : Nat} (a : Conn l i j) (b : Conn l j k) : Conn l i k := by
  induction a with
  | refl i => exact b
  | step t _ ih => exact .step t (ih b)
theorem Conn.one {l : List Triangle} {i j : Nat} (h : tch l i j = true) : Conn l i j := .step h (.refl j)
theorem Conn.symm {l : List Triangle} {i j : Nat} (a : Conn l i j) : Conn l j i := by
  induction a with
  | refl i => exact .refl i
  | step t _ ih => exact ih.trans (.one (tch_symm t))
theorem Conn.lt {l : List Triangle} {i j : Nat} (a : Conn l i j) (h : i < l.length) : j < l.length := by
  induction a with
  | refl i => exact h
  | step t _ ih => exact ih (tch_lt t).2
theorem least_of {P : Nat → Prop} : ∀ (n : Nat), P n → ∃ m, P m ∧ ∀ k, P k → m ≤ k := by
  intro n
  induction n using Nat.strongRecOn with
  | _ n ih =>
    intro h
    by_cases hk : ∃ k, P k ∧ k < n
    · obtain ⟨k, h1, h2⟩ := hk
      exact ih k h2 h1
    · exact ⟨n, h, fun k h1 => Nat.le_of_not_lt fun h2 => hk ⟨k, h1, h2⟩⟩
theorem lead_ex (l : List Triangle) (i : Nat) : ∃ m, Conn l i m ∧ ∀ k, Conn l i k → m ≤ k := least_of i (.refl i)
noncomputable def lead (l : List Triangle) (i : Nat) : Nat := Classical.choose (lead_ex l i)
theorem lead_conn (l : List Triangle) (i : Nat) : Conn l i (lead l i) := (Classical.choose_spec (lead_ex l i)).1
theorem lead_le {l : List Triangle} {i k : Nat} (h : Conn l i k) : lead l i ≤ k := (Classical.choose_spec (lead_ex l i)).2 k h
theorem lead_same {l : List Triangle} {i j : Nat} (h : Conn l i j) : lead l i = lead l j :=
  Nat.le_antisymm (lead_le (h.trans (lead_conn l j))) (lead_le (h.symm.trans (lead_conn l i)))
theorem lead_lead (l : List Triangle) (i : Nat) : lead l (lead l i) = lead l i := (lead_same (lead_conn l i)).symm
def low (p : Nat → Bool) (w : Nat → Nat) (js : List Nat) (b : Nat) : Nat := js.foldl (fun b j => if p j = true then min b (w j) else b) b
theorem low_cons (p : Nat → Bool) (w : Nat → Nat) (j : Nat) (js : List Nat) (b : Nat) : low p w (j :: js) b = low p w js (if p j = true then min b (w j) else b) := rfl
theorem low_le {p : Nat → Bool} {w : Nat → Nat} : ∀ {js : List Nat} {b : Nat}, low p w js b ≤ b
  | [], b => Nat.le_refl b
  | j :: js, b => by
    rw [low_cons]
    refine Nat.le_trans low_le ?_
    split
    · exact Nat.min_le_left _ _
    · exact Nat.le_refl b
theorem low_at {p : Nat → Bool} {w : Nat → Nat} : ∀ {js : List Nat} {b j : Nat}, j ∈ js → p j = true → low p w js b ≤ w j
  | [], b, j, h, _ => by cases h
  | i :: js, b, j, h, hp => by
    rw [low_cons]
    rcases List.mem_cons.mp h with rfl | hj
    · refine Nat.le_trans low_le ?_
      rw [if_pos hp]
      exact Nat.min_le_right _ _
    · exact low_at hj hp
theorem low_is {p : Nat → Bool} {w : Nat → Nat} : ∀ {js : List Nat} {b : Nat}, low p w js b = b ∨ ∃ j, j ∈ js ∧ p j = true ∧ low p w js b = w j
  | [], b => .inl rfl
  | i :: js, b => by
    rw [low_cons]
    rcases low_is (p := p) (w := w) (js := js) (b := if p i = true then min b (w i) else b) with h | ⟨j, h1, h2, h3⟩
    · rw [h]
      split
      · next hp =>
        by_cases hb : b ≤ w i
        · rw [Nat.min_eq_left hb]
          exact .inl rfl
        · rw [Nat.min_eq_right (by omega)]
          exact .inr ⟨i, List.mem_cons_self, hp, rfl⟩
      · exact .inl rfl
    · exact .inr ⟨j, List.mem_cons_of_mem _ h1, h2, h3⟩
def rnd (l : List Triangle) (m : List Nat) : List Nat := (List.range l.length).map fun (i : Nat) => low (tch l i) (fun j => m.getD j 0) (List.range l.length) (m.getD i 0)
theorem rnd_spec (l : List Triangle) (m : List Nat) : ((List.range l.length).map fun (i : Nat) => (List.range l.length).foldl (fun (b j : Nat) => match l[i]?, l[j]? with
      | some x, some y => if touch x y = true then min b (m.getD j 0) else b
      | _, _ => b) (m.getD i 0)) = rnd l m := by
  unfold rnd low
  congr 1
  funext i
  congr 1
  funext b j
  unfold tch
  cases l[i]? with
  | none => rfl
  | some x =>
    cases l[j]? with
    | none => rfl
    | some y => rfl
theorem hung_succ (l : List Triangle) (n : Nat) (m : List Nat) : hung l (n + 1) m = if rnd l m = m then m else hung l n (rnd l m) := by
  show (if ((List.range l.length).map fun (i : Nat) => (List.range l.length).foldl (fun (b j : Nat) => match l[i]?, l[j]? with
      | some x, some y => if touch x y = true then min b (m.getD j 0) else b
      | _, _ => b) (m.getD i 0)) = m then m else hung l n ((List.range l.length).map fun (i : Nat) => (List.range l.length).foldl (fun (b j : Nat) => match l[i]?, l[j]? with
      | some x, some y => if touch x y = true then min b (m.getD j 0) else b
      | _, _ => b) (m.getD i 0))) = _
  rw [rnd_spec]
theorem rnd_len (l : List Triangle) (m : List Nat) : (rnd l m).length = l.length := by
  unfold rnd
  rw [List.length_map, List.length_range]
theorem rnd_at {l : List Triangle} {m : List Nat} {i : Nat} (h : i < l.length) : (rnd l m).getD i 0 = low (tch l i) (fun j => m.getD j 0) (List.range l.length) (m.getD i 0) := by
  unfold rnd
  simp only [List.getD_eq_getElem?_getD, List.getElem?_map, List.getElem?_range h]
  rfl
structure Good (l : List Triangle) (m : List Nat) : Prop where
  len : m.length = l.length
  le : ∀ i, i < l.length → m.getD i 0 ≤ i
  conn : ∀ i, i < l.length → Conn l i (m.getD i 0)
theorem Good.rnd {l : List Triangle} {m : List Nat} (g : Good l m) : Good l (rnd l m) where
  len := rnd_len l m
  le := fun i hi => by
    rw [rnd_at hi]
    exact Nat.le_trans low_le (g.le i hi)
  conn := fun i hi => by
    rw [rnd_at hi]
    rcases low_is (p := tch l i) (w := fun j => m.getD j 0) (js := List.range l.length) (b := m.getD i 0) with h | ⟨j, h1, h2, h3⟩
    · rw [h]
      exact g.conn i hi
    · rw [h3]
      exact .step h2 (g.conn j (List.mem_range.mp h1))
theorem filter_lt {α : Type} {p q : α → Bool} : ∀ {l : List α}, (∀ x, x ∈ l → p x = true → q x = true) → (∃ x, x ∈ l ∧ p x = false ∧ q x = true) → (l.filter p).length < (l.filter q).length
  | [], _, ⟨x, h, _⟩ => by cases h
  | a :: l, h, ⟨x, hx, h1, h2⟩ => by
    have le : ∀ {l : List α}, (∀ x, x ∈ l → p x = true → q x = true) → (l.filter p).length ≤ (l.filter q).length := by
      intro l
      induction l with
      | nil => intro _; exact Nat.le_refl _
      | cons a l ih =>
        intro h
        have ih := ih fun x hx => h x (List.mem_cons_of_mem _ hx)
        have ha := h a List.mem_cons_self
        rw [List.filter_cons, List.filter_cons]
        split
        · next e =>
          rw [if_pos (ha e)]
          simp only [List.length_cons]
          omega
        · split
          · rw [List.length_cons]
            omega
          · exact ih
    have ha := h a List.mem_cons_self
    have hl : ∀ x, x ∈ l → p x = true → q x = true := fun x hx => h x (List.mem_cons_of_mem _ hx)
    rw [List.filter_cons, List.filter_cons]
    rcases List.mem_cons.mp hx with rfl | hy
    · rw [if_neg (by rw [h1]; exact Bool.noConfusion), if_pos h2]
      have := le hl
      simp only [List.length_cons]
      omega
    · have ih := filter_lt hl ⟨x, hy, h1, h2⟩
      split
      · next e =>
        rw [if_pos (ha e)]
        simp only [List.length_cons]
        omega
      · split
        · rw [List.length_cons]
          omega
        · exact ih
noncomputable def done (l : List Triangle) (m : List Nat) : Nat := ((List.range l.length).filter fun i => m.getD i 0 == lead l i).length
theorem done_all {l : List Triangle} {m : List Nat} (h : l.length ≤ done l m) : ∀ i, i < l.length → m.getD i 0 = lead l i := by
  intro i hi
  by_cases e : m.getD i 0 = lead l i
  · exact e
  · exfalso
    have := filter_lt (p := fun i => m.getD i 0 == lead l i) (q := fun _ => true) (l := List.range l.length) (fun _ _ _ => rfl) ⟨i, List.mem_range.mpr hi, by simpa using e, rfl⟩
    rw [List.filter_eq_self.mpr (fun _ _ => rfl), List.length_range] at this
    unfold done at h
    omega
theorem edge_of {l : List Triangle} {p : Nat → Bool} {i k : Nat} (c : Conn l i k) (hi : p i = false) (hk : p k = true) : ∃ a b, Conn l i a ∧ tch l a b = true ∧ p a = false ∧ p b = true := by
  induction c with
  | refl i => rw [hi] at hk; cases hk
  | @step i j k t c ih =>
    by_cases hj : p j = true
    · exact ⟨i, j, .refl i, t, hi, hj⟩
    · obtain ⟨a, b, h1, h2⟩ := ih (by simpa using hj) hk
      exact ⟨a, b, .step t h1, h2⟩
theorem Good.lead {l : List Triangle} {m : List Nat} (g : Good l m) {i : Nat} (hi : i < l.length) : lead l i ≤ m.getD i 0 := lead_le (g.conn i hi)
theorem Good.grows {l : List Triangle} {m : List Nat} (g : Good l m) (h : done l m < l.length) : done l m < done l (RM.rnd l m) := by
  have keep : ∀ x, x ∈ List.range l.length → (m.getD x 0 == RM.lead l x) = true → ((RM.rnd l m).getD x 0 == RM.lead l x) = true := by
    intro x hx e
    have hx := List.mem_range.mp hx
    have e := eq_of_beq e
    have h1 := g.rnd.lead hx
    have h2 : (RM.rnd l m).getD x 0 ≤ m.getD x 0 := by rw [rnd_at hx]; exact low_le
    exact beq_iff_eq.mpr (by omega)
  by_cases ha : ∃ i, i < l.length ∧ m.getD i 0 ≠ RM.lead l i
  · obtain ⟨i, hi, ne⟩ := ha
    have c := lead_conn l i
    have hk := c.lt hi
    have hl : m.getD (RM.lead l i) 0 = RM.lead l (RM.lead l i) := Nat.le_antisymm (by rw [lead_lead]; exact g.le _ hk) (g.lead hk)
    obtain ⟨a, b, h1, h2, h3, h4⟩ := edge_of (p := fun i => m.getD i 0 == RM.lead l i) c (by simpa using ne) (by simpa using hl)
    have hab := tch_lt h2
    refine filter_lt keep ⟨a, List.mem_range.mpr hab.1, h3, ?_⟩
    have e4 : m.getD b 0 = RM.lead l b := eq_of_beq h4
    have e5 : (RM.rnd l m).getD a 0 ≤ m.getD b 0 := by
      rw [rnd_at hab.1]
      exact low_at (w := fun j => m.getD j 0) (List.mem_range.mpr hab.2) h2
    have e6 := g.rnd.lead hab.1
    have e7 := lead_same (Conn.one h2)
    exact beq_iff_eq.mpr (by omega)
  · exfalso
    have all : (List.range l.length).filter (fun i => m.getD i 0 == RM.lead l i) = List.range l.length := by
      rw [List.filter_eq_self]
      intro i hi
      refine beq_iff_eq.mpr (Classical.byContradiction fun e => ha ⟨i, List.mem_range.mp hi, e⟩)
    unfold done at h
    rw [all, List.length_range] at h
    omega
theorem hung_lead {l : List Triangle} : ∀ (k : Nat) {m : List Nat}, Good l m → l.length ≤ done l m + k → Good l (hung l k m) ∧ ∀ i, i < l.length → (hung l k m).getD i 0 = lead l i
  | 0, m, g, h => ⟨g, done_all h⟩
  | k + 1, m, g, h => by
    rw [hung_succ]
    by_cases hd : done l m < l.length
    · have gr := g.grows hd
      rw [if_neg (by intro e; rw [e] at gr; omega)]
      exact hung_lead k g.rnd (by omega)
    · split
      · exact ⟨g, done_all (by omega)⟩
      · refine hung_lead k g.rnd ?_
        by_cases hd2 : done l (RM.rnd l m) < l.length
        · have a := done_all (Nat.le_of_not_lt hd)
          exfalso
          have all : (List.range l.length).filter (fun i => (RM.rnd l m).getD i 0 == RM.lead l i) = List.range l.length := by
            rw [List.filter_eq_self]
            intro i hi
            have hi := List.mem_range.mp hi
            have h1 := g.rnd.lead hi
            have h2 : (RM.rnd l m).getD i 0 ≤ m.getD i 0 := by rw [rnd_at hi]; exact low_le
            have h3 := a i hi
            exact beq_iff_eq.mpr (by omega)
          unfold done at hd2
          rw [all, List.length_range] at hd2
          omega
        · omega
theorem good_range (l : List Triangle) : Good l (List.range l.length) where
  len := List.length_range
  le := fun i hi => by
    rw [List.getD_eq_getElem?_getD, List.getElem?_range hi]
    exact Nat.le_refl i
  conn := fun i hi => by
    rw [List.getD_eq_getElem?_getD, List.getElem?_range hi]
    exact .refl i
theorem roots_len (l : List Triangle) : (roots l).length = l.length := (hung_lead l.length (good_range l) (by omega)).1.len
theorem roots_at {l : List Triangle} {i : Nat} (hi : i < l.length) : (roots l).getD i 0 = lead l i := (hung_lead l.length (good_range l) (by omega)).2 i hi
theorem roots_le {l : List Triangle} {i : Nat} (hi : i < l.length) : (roots l).getD i 0 ≤ i := by
  rw [roots_at hi]
  exact lead_le (.refl i)
theorem sorted_eq : ∀ {a b : List Nat}, a.Pairwise (· < ·) → b.Pairwise (· < ·) → (∀ x, x ∈ a ↔ x ∈ b) → a = b
  | [], [], _, _, _ => rfl
  | [], y :: b, _, _, h => absurd ((h y).mpr List.mem_cons_self) (by simp)
  | x :: a, [], _, _, h => absurd ((h x).mp List.mem_cons_self) (by simp)
  | x :: a, y :: b, ha, hb, h => by
    have ha' := List.pairwise_cons.mp ha
    have hb' := List.pairwise_cons.mp hb
    have e : x = y := by
      rcases List.mem_cons.mp ((h x).mp List.mem_cons_self) with e | e
      · exact e
      · rcases List.mem_cons.mp ((h y).mpr List.mem_cons_self) with e2 | e2
        · exact e2.symm
        · have := ha'.1 y e2
          have := hb'.1 x e
          omega
    subst e
    rw [sorted_eq ha'.2 hb'.2 fun z => ?_]
    constructor
    · intro hz
      rcases List.mem_cons.mp ((h z).mp (List.mem_cons_of_mem _ hz)) with e | e
      · subst e
        have := ha'.1 z hz
        omega
      · exact e
    · intro hz
      rcases List.mem_cons.mp ((h z).mpr (List.mem_cons_of_mem _ hz)) with e | e
      · subst e
        have := hb'.1 z hz
        omega
      · exact e
theorem nodup_eraseDups : ∀ (n : Nat) (l : List Nat), l.length ≤ n → l.eraseDups.Nodup
  | 0, [], _ => by simp
  | n + 1, [], _ => by simp
  | n + 1, a :: l, h => by
    rw [List.eraseDups_cons, List.nodup_cons]
    refine ⟨?_, nodup_eraseDups n _ ?_⟩
    · rw [List.mem_eraseDups, List.mem_filter]
      rintro ⟨_, h2⟩
      simp at h2
    · have := List.length_filter_le (fun b => !b == a) l
      simp only [List.length_cons] at h
      omega
theorem firstsOf_eq (l : List Triangle) : firstsOf l = (List.range l.length).filter fun i => (roots l).getD i 0 == i := by
  refine sorted_eq ?_ ?_ ?_
  · unfold firstsOf
    have hs : ((roots l).eraseDups.mergeSort fun (a b : Nat) => decide (a ≤ b)).Pairwise fun a b => decide (a ≤ b) = true :=
      List.pairwise_mergeSort (le := fun (a b : Nat) => decide (a ≤ b)) (fun a b c h1 h2 => by simp at *; omega) (fun a b => by simp; omega) _
    have hn : ((roots l).eraseDups.mergeSort fun (a b : Nat) => decide (a ≤ b)).Nodup := ((List.mergeSort_perm _ _).nodup_iff).mpr (nodup_eraseDups _ _ (Nat.le_refl _))
    refine (List.pairwise_and_iff.mpr ⟨hs, hn⟩).imp ?_
    rintro a b ⟨h1, h2⟩
    have h1 := of_decide_eq_true h1
    omega
  · exact (List.pairwise_lt_range).filter _
  · intro x
    unfold firstsOf
    rw [List.mem_mergeSort, List.mem_eraseDups, List.mem_filter, List.mem_range]
    constructor
    · intro h
      obtain ⟨i, hi⟩ := List.mem_iff_getElem?.mp h
      have hl : i < l.length := by rw [← roots_len l]; exact (List.getElem?_eq_some_iff.mp hi).1
      have e : (roots l).getD i 0 = x := by rw [List.getD_eq_getElem?_getD, hi]; rfl
      rw [roots_at hl] at e
      have hx : x < l.length := by rw [← e]; exact (lead_conn l i).lt hl
      refine ⟨hx, beq_iff_eq.mpr ?_⟩
      rw [roots_at hx, ← e, lead_lead]
    · rintro ⟨h1, h2⟩
      have h2 := eq_of_beq h2
      rw [List.getD_eq_getElem?_getD, List.getElem?_eq_getElem (by rw [roots_len]; exact h1)] at h2
      exact List.mem_iff_getElem.mpr ⟨x, by rw [roots_len]; exact h1, h2⟩
end RM
end
section
namespace RS
open Rc29
abbrev RC := Nat × Nat
abbrev RT := RC × RC × RC
def wayR (a b : Nat) : RC := if a < b then (a, b - a) else (b, a - b)
def place (c : P) (r : RC) : Cut := ⟨c.to r.1, r.2⟩
def placeT (c : P) (t : RT) : Triangle := (place c t.1, place c t.2.1, place c t.2.2)
def placeS (c : P) (e : RC × RC) : Cut × Cut := (place c e.1, place c e.2)
def sidesR (t : RT) : List (RC × RC) := [(t.1, t.2.1), (t.2.1, t.2.2), (t.2.2, t.1)]
theorem way_place (c : P) : way c = fun a b => place c (wayR a b) := by
  funext a b
  unfold way wayR
  split <;> rfl
def piecesR (t : List Nat) (turned : Bool) (inside : Nat → Bool) : List RT :=
  let w (i j : Nat) : RC := wayR (t.getD i 0) (t.getD j 0)
  let ins := (List.range 4).filter inside
  let outs := (List.range 4).filter fun i => !inside i
  let right := even (ins ++ outs) == turned
  match ins, outs with
  | [i], [a, b, e] => if right = true then [(w i a, w i b, w i e)] else [(w i a, w i e, w i b)]
  | [a, b, e], [o] => if (even [o, a, b, e] == turned) = true then [(w o a, w o e, w o b)] else [(w o a, w o b, w o e)]
  | [i, j], [k, l] => if right = true then [(w i k, w i l, w j l), (w i k, w j l, w j k)] else [(w i k, w j l, w i l), (w i k, w j k, w j l)]
  | _, _ => []
theorem pieces_place (c : P) (t : List Nat) (turned : Bool) (f : Nat → Bool) : pieces c t turned f = (piecesR t turned f).map (placeT c) := by
  unfold pieces piecesR
  rw [way_place, show List.range 4 = [0, 1, 2, 3] from rfl]
  cases h0 : f 0 <;> cases h1 : f 1 <;> cases h2 : f 2 <;> cases h3 : f 3 <;> cases turned <;>
    simp only [List.filter_cons, List.filter_nil, h0, h1, h2, h3, Bool.not_true, Bool.not_false, if_true, Bool.false_eq_true, if_false] <;> rfl
def bitsF (b : List Bool) (i : Nat) : Bool := b.getD i false
theorem piecesR_bits (t : List Nat) (turned : Bool) (f : Nat → Bool) : piecesR t turned f = piecesR t turned (bitsF [f 0, f 1, f 2, f 3]) := by
  have e : ∀ i ∈ List.range 4, f i = bitsF [f 0, f 1, f 2, f 3] i := fun i hi => by
    have hi := List.mem_range.mp hi
    match i, hi with
    | 0, _ => rfl
    | 1, _ => rfl
    | 2, _ => rfl
    | 3, _ => rfl
  unfold piecesR
  rw [List.filter_congr e, List.filter_congr (fun i hi => congrArg (!·) (e i hi))]
def allBits : List (List Bool) := [false, true].flatMap fun a => [false, true].flatMap fun b => [false, true].flatMap fun c => [false, true].map fun d => [a, b, c, d]
theorem mem_bits (a b c d : Bool) : [a, b, c, d] ∈ allBits := by
  cases a <;> cases b <;> cases c <;> cases d <;> decide
def relS (s : List Nat × Bool) (b : List Bool) : List (RC × RC) := (piecesR s.1 s.2 (bitsF b)).flatMap sidesR
def bitAt (t : List Nat) (b : List Bool) (a : Nat) : Bool := bitsF b (t.idxOf a)
def num (b : Bool) : Nat := if b = true then 1 else 0
def keyOf (d1 d2 x y z : Nat) (i1 i2 : Bool) : Nat := d1 + 8 * (d2 + 8 * (x + 3 * (y + 3 * (z + 3 * (num i1 + 2 * num i2)))))
def key (t : List Nat) (b : List Bool) (e : RC × RC) : Nat :=
  keyOf e.1.2 e.2.2 (e.2.1 % 2 + 1 - e.1.1 % 2) (e.2.1 / 2 % 2 + 1 - e.1.1 / 2 % 2) (e.2.1 / 4 % 2 + 1 - e.1.1 / 4 % 2) (bitAt t b e.1.1) (bitAt t b e.2.1)
def six (k : Nat) : List Nat × Bool := SIX.getD k ([], false)
def ents : List (Nat × Nat) := (List.range 6).flatMap fun k => allBits.flatMap fun b => (relS (six k) b).map fun e => (key (six k).1 b e, k * 8 + e.1.1)
def chk : Bool := ents.all fun x => ents.all fun y => !Nat.beq x.1 y.1 || Nat.beq x.2 y.2
theorem chk_ok : chk = true := by decide +kernel
def chk2 : Bool := (List.range 6).all fun k => allBits.all fun b => decide (relS (six k) b).Nodup && (relS (six k) b).all fun e =>
  decide (e.1.1 < 8 ∧ e.2.1 < 8 ∧ (six k).1.idxOf e.1.1 < 4 ∧ (six k).1.idxOf e.2.1 < 4 ∧ (six k).1.getD ((six k).1.idxOf e.1.1) 0 = e.1.1 ∧ (six k).1.getD ((six k).1.idxOf e.2.1) 0 = e.2.1 ∧ e.1 ≠ e.2)
theorem chk2_ok : chk2 = true := by decide +kernel
structure SideOk (t : List Nat) (e : RC × RC) : Prop where
  l1 : e.1.1 < 8
  l2 : e.2.1 < 8
  i1 : t.idxOf e.1.1 < 4
  i2 : t.idxOf e.2.1 < 4
  g1 : t.getD (t.idxOf e.1.1) 0 = e.1.1
  g2 : t.getD (t.idxOf e.2.1) 0 = e.2.1
  ne : e.1 ≠ e.2
theorem rel_ok {k : Nat} (hk : k < 6) {b : List Bool} (hb : b ∈ allBits) : (relS (six k) b).Nodup ∧ ∀ e ∈ relS (six k) b, SideOk (six k).1 e := by
  have h := chk2_ok
  unfold chk2 at h
  have h := List.all_eq_true.mp (List.all_eq_true.mp h k (List.mem_range.mpr hk)) b hb
  rw [Bool.and_eq_true] at h
  refine ⟨of_decide_eq_true h.1, fun e he => ?_⟩
  obtain ⟨h1, h2, h3, h4, h5, h6, h7⟩ := of_decide_eq_true (List.all_eq_true.mp h.2 e he)
  exact ⟨h1, h2, h3, h4, h5, h6, h7⟩
theorem ent_mem {k : Nat} (hk : k < 6) {b : List Bool} (hb : b ∈ allBits) {e : RC × RC} (he : e ∈ relS (six k) b) : (key (six k).1 b e, k * 8 + e.1.1) ∈ ents :=
  List.mem_flatMap.mpr ⟨k, List.mem_range.mpr hk, List.mem_flatMap.mpr ⟨b, hb, List.mem_map.mpr ⟨e, he, rfl⟩⟩⟩
theorem ent_one {k1 v1 k2 v2 : Nat} (hx : (k1, v1) ∈ ents) (hy : (k2, v2) ∈ ents) (h : k1 = k2) : v1 = v2 := by
  have q := chk_ok
  unfold chk at q
  have q := List.all_eq_true.mp (List.all_eq_true.mp q (k1, v1) hx) (k2, v2) hy
  dsimp only at q
  rw [Bool.or_eq_true] at q
  rcases q with q | q
  · rw [h, Nat.beq_refl] at q
    cases q
  · exact Nat.eq_of_beq_eq_true q
section
variable (I : P → Bool)
def bits (c : P) (t : List Nat) : List Bool := [I (c.to (t.getD 0 0)), I (c.to (t.getD 1 0)), I (c.to (t.getD 2 0)), I (c.to (t.getD 3 0))]
def tetS (x : P × Nat) : List (Cut × Cut) := (pieces x.1 (six x.2).1 (six x.2).2 fun i => I (x.1.to ((six x.2).1.getD i 0))).flatMap sides
theorem tetS_eq (x : P × Nat) : tetS I x = (relS (six x.2) (bits I x.1 (six x.2).1)).map (placeS x.1) := by
  unfold tetS relS
  rw [pieces_place, piecesR_bits, List.flatMap_map, List.map_flatMap]
  rfl
theorem bit_at {c : P} {t : List Nat} {a : Nat} (h : t.idxOf a < 4) (g : t.getD (t.idxOf a) 0 = a) : bitAt t (bits I c t) a = I (c.to a) := by
  unfold bitAt bitsF bits
  generalize t.idxOf a = i at h g
  subst g
  match i, h with
  | 0, _ => rfl
  | 1, _ => rfl
  | 2, _ => rfl
  | 3, _ => rfl
theorem to_inj {c c' : P} {a : Nat} (h : c.to a = c'.to a) : c = c' := by
  obtain ⟨x, y, z⟩ := c
  obtain ⟨x', y', z'⟩ := c'
  unfold P.to at h
  injection h with h1 h2 h3
  dsimp only at h1 h2 h3
  rw [show x = x' by omega, show y = y' by omega, show z = z' by omega]
theorem sub_eq {x x' a b a' b' : Nat} (h1 : x + a = x' + a') (h2 : x + b = x' + b') : b + 1 - a = b' + 1 - a' := by omega
theorem val_eq {k k' a a' : Nat} (h : k * 8 + a = k' * 8 + a') (l : a < 8) (l' : a' < 8) : k = k' ∧ a = a' := by omega
theorem tet_one {x y : P × Nat} (hx : x.2 < 6) (hy : y.2 < 6) {e : Cut × Cut} (h1 : e ∈ tetS I x) (h2 : e ∈ tetS I y) : x = y := by
  obtain ⟨c, k⟩ := x
  obtain ⟨c', k'⟩ := y
  rw [tetS_eq] at h1 h2
  dsimp only at hx hy h1 h2
  obtain ⟨r, hr, e1⟩ := List.mem_map.mp h1
  obtain ⟨r', hr', e2⟩ := List.mem_map.mp h2
  have hb : bits I c (six k).1 ∈ allBits := mem_bits _ _ _ _
  have hb' : bits I c' (six k').1 ∈ allBits := mem_bits _ _ _ _
  have o := (rel_ok hx hb).2 r hr
  have o' := (rel_ok hy hb').2 r' hr'
  have q := e1.trans e2.symm
  unfold placeS place at q
  injection q with q1 q2
  injection q1 with p1 d1
  injection q2 with p2 d2
  have t1 := p1
  have t2 := p2
  unfold P.to at t1 t2
  injection t1 with x1 y1 z1
  injection t2 with x2 y2 z2
  have kk : key (six k).1 (bits I c (six k).1) r = key (six k').1 (bits I c' (six k').1) r' := by
    unfold key
    rw [bit_at I o.i1 o.g1, bit_at I o.i2 o.g2, bit_at I o'.i1 o'.g1, bit_at I o'.i2 o'.g2, p1, p2, d1, d2]
    rw [sub_eq x1 x2, sub_eq y1 y2, sub_eq z1 z2]
  have v : k * 8 + r.1.1 = k' * 8 + r'.1.1 := ent_one (ent_mem hx hb hr) (ent_mem hy hb' hr') kk
  obtain ⟨ek, ea⟩ := val_eq v o.l1 o'.l1
  subst ek
  rw [ea] at p1
  rw [to_inj p1]
theorem place_inj {c : P} {r r' : RC} (h1 : r.1 < 8) (h2 : r'.1 < 8) (h : place c r = place c r') : r = r' := by
  obtain ⟨a, d⟩ := r
  obtain ⟨a', d'⟩ := r'
  unfold place P.to at h
  injection h with h3 h4
  injection h3 with x y z
  dsimp only at *
  rw [show a = a' by omega, h4]
theorem nodup_map {α β : Type} {g : α → β} : ∀ {l : List α}, (∀ a ∈ l, ∀ b ∈ l, g a = g b → a = b) → l.Nodup → (l.map g).Nodup
  | [], _, _ => by simp
  | a :: l, h, n => by
    rw [List.map_cons]
    refine List.nodup_cons.mpr ?_
    have n := List.nodup_cons.mp n
    refine ⟨fun hm => ?_, nodup_map (fun x hx y hy => h x (List.mem_cons_of_mem _ hx) y (List.mem_cons_of_mem _ hy)) n.2⟩
    obtain ⟨b, hb, eb⟩ := List.mem_map.mp hm
    have := h b (List.mem_cons_of_mem _ hb) a List.mem_cons_self eb
    subst this
    exact n.1 hb
theorem nodup_flatMap {α β : Type} {g : α → List β} : ∀ {l : List α}, l.Nodup → (∀ a ∈ l, (g a).Nodup) → (∀ a ∈ l, ∀ b ∈ l, ∀ x, x ∈ g a → x ∈ g b → a = b) → (l.flatMap g).Nodup
  | [], _, _, _ => by simp
  | a :: l, n, h1, h2 => by
    have n := List.nodup_cons.mp n
    rw [List.flatMap_cons, List.nodup_append]
    refine ⟨h1 a List.mem_cons_self, nodup_flatMap n.2 (fun b hb => h1 b (List.mem_cons_of_mem _ hb)) (fun b hb c hc => h2 b (List.mem_cons_of_mem _ hb) c (List.mem_cons_of_mem _ hc)), fun x hx y hy e => ?_⟩
    subst e
    obtain ⟨b, hb, hxb⟩ := List.mem_flatMap.mp hy
    have := h2 a List.mem_cons_self b (List.mem_cons_of_mem _ hb) x hx hxb
    subst this
    exact n.1 hb
theorem tet_nodup {x : P × Nat} (hx : x.2 < 6) : (tetS I x).Nodup := by
  rw [tetS_eq]
  obtain ⟨n, o⟩ := rel_ok hx (mem_bits (I (x.1.to ((six x.2).1.getD 0 0))) (I (x.1.to ((six x.2).1.getD 1 0))) (I (x.1.to ((six x.2).1.getD 2 0))) (I (x.1.to ((six x.2).1.getD 3 0))))
  refine nodup_map (fun a ha b hb e => ?_) n
  have oa := o a ha
  have ob := o b hb
  unfold placeS at e
  injection e with e1 e2
  exact Prod.ext (place_inj oa.l1 ob.l1 e1) (place_inj oa.l2 ob.l2 e2)
theorem tet_ne {x : P × Nat} (hx : x.2 < 6) {e : Cut × Cut} (h : e ∈ tetS I x) : e.1 ≠ e.2 := by
  rw [tetS_eq] at h
  obtain ⟨r, hr, rfl⟩ := List.mem_map.mp h
  have o := (rel_ok hx (mem_bits (I (x.1.to ((six x.2).1.getD 0 0))) (I (x.1.to ((six x.2).1.getD 1 0))) (I (x.1.to ((six x.2).1.getD 2 0))) (I (x.1.to ((six x.2).1.getD 3 0))))).2 r hr
  exact fun q => o.ne (place_inj o.l1 o.l2 q)
end
def tets (f : Field) : List (P × Nat) := f.cubes.flatMap fun c => (List.range 6).map fun k => (c, k)
theorem range_nodup (n : Nat) : (List.range n).Nodup := List.nodup_range
theorem cubes_nodup (f : Field) : f.cubes.Nodup := by
  unfold Field.cubes
  refine nodup_flatMap (range_nodup _) (fun z _ => nodup_flatMap (range_nodup _) (fun y _ => nodup_map (fun a _ b _ e => by injection e) (range_nodup _)) ?_) ?_
  · intro a _ b _ p h1 h2
    obtain ⟨x, _, rfl⟩ := List.mem_map.mp h1
    obtain ⟨x', _, e⟩ := List.mem_map.mp h2
    injection e with _ e2 _
    exact e2.symm
  · intro a _ b _ p h1 h2
    obtain ⟨y, _, h1⟩ := List.mem_flatMap.mp h1
    obtain ⟨y', _, h2⟩ := List.mem_flatMap.mp h2
    obtain ⟨x, _, rfl⟩ := List.mem_map.mp h1
    obtain ⟨x', _, e⟩ := List.mem_map.mp h2
    injection e with _ _ e3
    exact e3.symm
theorem tets_nodup (f : Field) : (tets f).Nodup := by
  unfold tets
  refine nodup_flatMap (cubes_nodup f) (fun c _ => nodup_map (fun a _ b _ e => (Prod.ext_iff.mp e).2) (range_nodup _)) ?_
  intro a _ b _ p h1 h2
  obtain ⟨k, _, rfl⟩ := List.mem_map.mp h1
  obtain ⟨k', _, e⟩ := List.mem_map.mp h2
  exact (Prod.ext_iff.mp e).1.symm
theorem surface_sides (f : Field) (level : Int) : (surface f level).flatMap sides = (tets f).flatMap (tetS fun p => decide (level ≤ f.at_ p)) := by
  unfold surface tets
  rw [List.flatMap_assoc, List.flatMap_assoc]
  congr 1
  funext c
  rw [List.flatMap_assoc, List.flatMap_map, show SIX = (List.range 6).map six from rfl, List.flatMap_map]
  rfl
theorem sides_nodup (f : Field) (level : Int) : ((surface f level).flatMap sides).Nodup := by
  rw [surface_sides]
  have lt : ∀ x ∈ tets f, x.2 < 6 := fun x hx => by
    obtain ⟨c, _, h⟩ := List.mem_flatMap.mp hx
    obtain ⟨k, hk, rfl⟩ := List.mem_map.mp h
    exact List.mem_range.mp hk
  exact nodup_flatMap (tets_nodup f) (fun x hx => tet_nodup _ (lt x hx)) fun x hx y hy e h1 h2 => tet_one _ (lt x hx) (lt y hy) h1 h2
theorem sides_ne (f : Field) (level : Int) : ∀ e ∈ (surface f level).flatMap sides, e.1 ≠ e.2 := by
  rw [surface_sides]
  intro e he
  obtain ⟨x, hx, h⟩ := List.mem_flatMap.mp he
  obtain ⟨c, _, hc⟩ := List.mem_flatMap.mp hx
  obtain ⟨k, hk, rfl⟩ := List.mem_map.mp hc
  exact tet_ne _ (List.mem_range.mp hk) h
end RS
end
section
namespace RK
open Rc29
variable {α β : Type}
theorem mem_first [DecidableEq α] : ∀ {l : List α} {x : α}, x ∈ first l ↔ x ∈ l
  | [], x => by simp [first]
  | a :: r, x => by
    unfold first
    rw [List.mem_cons, List.mem_cons, List.mem_filter, mem_first]
    constructor
    · rintro (h | ⟨h, _⟩)
      · exact .inl h
      · exact .inr h
    · rintro (h | h)
      · exact .inl h
      · by_cases e : x = a
        · exact .inl e
        · exact .inr ⟨h, by simpa using e⟩
theorem nodup_first [DecidableEq α] : ∀ l : List α, (first l).Nodup
  | [] => by simp [first]
  | a :: r => by
    unfold first
    rw [List.nodup_cons, List.mem_filter]
    refine ⟨fun h => by simpa using h.2, (nodup_first r).filter _⟩
theorem nodup_le : ∀ {l m : List α}, l.Nodup → (∀ x, x ∈ l → x ∈ m) → l.length ≤ m.length
  | [], m, _, _ => Nat.zero_le _
  | a :: l, m, n, h => by
    have n := List.nodup_cons.mp n
    obtain ⟨p, q, rfl⟩ := List.append_of_mem (h a List.mem_cons_self)
    have := nodup_le (l := l) (m := p ++ q) n.2 fun x hx => by
      have hm := h x (List.mem_cons_of_mem _ hx)
      rw [List.mem_append, List.mem_cons] at hm
      rw [List.mem_append]
      rcases hm with hm | hm | hm
      · exact .inl hm
      · subst hm
        exact (n.1 hx).elim
      · exact .inr hm
    rw [List.length_append] at this
    rw [List.length_cons, List.length_append, List.length_cons]
    omega
theorem nodup_len {l m : List α} (a : l.Nodup) (b : m.Nodup) (h : ∀ x, x ∈ l ↔ x ∈ m) : l.length = m.length :=
  Nat.le_antisymm (nodup_le a fun x hx => (h x).mp hx) (nodup_le b fun x hx => (h x).mpr hx)
theorem pointsOf_eq {l : List Triangle} {u : List Cut} (n : u.Nodup) (h : ∀ c, c ∈ u ↔ ∃ t ∈ l, c ∈ corners t) : pointsOf l = u.length := by
  unfold pointsOf
  refine nodup_len (nodup_first _) n fun x => ?_
  rw [mem_first, List.mem_flatMap, h]
def swap (e : α × α) : α × α := (e.2, e.1)
theorem swap_swap (e : α × α) : swap (swap e) = e := rfl
theorem sum_map_add (f g : β → Nat) : ∀ l : List β, (l.map fun y => f y + g y).sum = (l.map f).sum + (l.map g).sum
  | [] => rfl
  | a :: l => by
    rw [List.map_cons, List.map_cons, List.map_cons, List.sum_cons, List.sum_cons, List.sum_cons, sum_map_add f g l]
    omega
theorem sum_const (c : Nat) (f : β → Nat) : ∀ {l : List β}, (∀ y ∈ l, f y = c) → (l.map f).sum = c * l.length
  | [], _ => rfl
  | a :: l, h => by
    rw [List.map_cons, List.sum_cons, h a List.mem_cons_self, sum_const c f fun y hy => h y (List.mem_cons_of_mem _ hy), List.length_cons, Nat.mul_succ]
    omega
theorem len_classes [DecidableEq β] {nm : α → β} : ∀ {s : List α} {u : List β}, u.Nodup → (∀ x ∈ s, nm x ∈ u) → s.length = (u.map fun y => (s.filter fun x => decide (nm x = y)).length).sum
  | [], u, _, _ => by
    rw [sum_const 0 (fun y => (([] : List α).filter fun x => decide (nm x = y)).length) fun y _ => rfl]
    simp
  | a :: s, u, n, h => by
    have ih := len_classes (s := s) n fun x hx => h x (List.mem_cons_of_mem _ hx)
    have e : ∀ y, ((a :: s).filter fun x => decide (nm x = y)).length = (if nm a = y then 1 else 0) + (s.filter fun x => decide (nm x = y)).length := fun y => by
      rw [List.filter_cons]
      by_cases q : nm a = y
      · rw [if_pos (decide_eq_true q), if_pos q, List.length_cons]
        omega
      · rw [if_neg (by simpa using q), if_neg q, Nat.zero_add]
    have one : ∀ {u : List β}, u.Nodup → nm a ∈ u → (u.map fun y => if nm a = y then 1 else 0).sum = 1 := by
      intro u
      induction u with
      | nil => intro _ h; cases h
      | cons y u ih =>
        intro n h
        have n := List.nodup_cons.mp n
        simp only [List.map_cons, List.sum_cons]
        by_cases q : nm a = y
        · rw [if_pos q, sum_const 0 _ fun z hz => by
            rw [if_neg]
            intro e
            rw [q] at e
            subst e
            exact n.1 hz]
          simp
        · rw [if_neg q, ih n.2 (by
            rcases List.mem_cons.mp h with e | e
            · exact (q e).elim
            · exact e)]
    rw [List.length_cons, show (fun y => ((a :: s).filter fun x => decide (nm x = y)).length) = fun y => (if nm a = y then 1 else 0) + (s.filter fun x => decide (nm x = y)).length from funext e, sum_map_add, one n (h a List.mem_cons_self), ← ih]
    omega
theorem sides_count [DecidableEq α] [DecidableEq β] {s : List (α × α)} {u : List β} {nm : α × α → β} (ns : s.Nodup) (ne : ∀ e ∈ s, e.1 ≠ e.2) (nu : u.Nodup) (h1 : ∀ e, nm (swap e) = nm e) (h2 : ∀ e e', nm e = nm e' → e = e' ∨ e = swap e')
    (h3 : ∀ y, y ∈ u ↔ ∃ e ∈ s, nm e = y) : 2 * u.length = s.length + (s.filter fun x => !s.contains (swap x)).length := by
  have c1 := len_classes (nm := nm) (s := s) nu fun x hx => (h3 _).mpr ⟨x, hx, rfl⟩
  have c2 := len_classes (nm := nm) (s := s.filter fun x => !s.contains (swap x)) nu fun x hx => (h3 _).mpr ⟨x, (List.mem_filter.mp hx).1, rfl⟩
  rw [c1, c2, ← sum_map_add, sum_const 2]
  intro y hy
  obtain ⟨e, he, rfl⟩ := (h3 y).mp hy
  have m1 : ∀ x, x ∈ (s.filter fun x => decide (nm x = nm e)) ↔ x ∈ s ∧ (x = e ∨ x = swap e) := fun x => by
    rw [List.mem_filter]
    constructor
    · rintro ⟨a, b⟩
      exact ⟨a, h2 _ _ (of_decide_eq_true b)⟩
    · rintro ⟨a, b | b⟩
      · exact ⟨a, decide_eq_true (by rw [b])⟩
      · exact ⟨a, decide_eq_true (by rw [b, h1])⟩
  have n1 : (s.filter fun x => decide (nm x = nm e)).Nodup := ns.filter _
  have n2 : ((s.filter fun x => !s.contains (swap x)).filter fun x => decide (nm x = nm e)).Nodup := (ns.filter _).filter _
  have ese : e ≠ swap e := fun q => ne e he (by
    have := congrArg Prod.fst q
    exact this)
  by_cases hs : swap e ∈ s
  · rw [nodup_len n1 (m := [e, swap e]) (by simp [ese]) fun x => by
        rw [m1]
        simp only [List.mem_cons, List.not_mem_nil, or_false]
        constructor
        · exact fun q => q.2
        · rintro (q | q)
          · subst q
            exact ⟨he, .inl rfl⟩
          · subst q
            exact ⟨hs, .inr rfl⟩,
      nodup_len n2 (m := []) (by simp) fun x => by
        rw [List.mem_filter, List.mem_filter]
        constructor
        · rintro ⟨⟨a, b⟩, c⟩
          rcases h2 _ _ (of_decide_eq_true c) with q | q
          · subst q
            rw [List.contains_iff_mem.mpr hs] at b
            cases b
          · subst q
            rw [swap_swap, List.contains_iff_mem.mpr he] at b
            cases b
        · intro q
          cases q]
    rfl
  · rw [nodup_len n1 (m := [e]) (by simp) fun x => by
        rw [m1]
        simp only [List.mem_cons, List.not_mem_nil, or_false]
        constructor
        · rintro ⟨a, q | q⟩
          · exact q
          · subst q
            exact (hs a).elim
        · intro q
          subst q
          exact ⟨he, .inl rfl⟩,
      nodup_len n2 (m := [e]) (by simp) fun x => by
        rw [List.mem_filter, List.mem_filter]
        simp only [List.mem_cons, List.not_mem_nil, or_false]
        constructor
        · rintro ⟨⟨a, b⟩, c⟩
          rcases h2 _ _ (of_decide_eq_true c) with q | q
          · exact q
          · subst q
            exact (hs a).elim
        · intro q
          subst q
          refine ⟨⟨he, ?_⟩, decide_eq_true rfl⟩
          cases q : s.contains (swap x) with
          | false => rfl
          | true => exact (hs (List.contains_iff_mem.mp q)).elim]
    rfl
theorem sidesOf_eq [DecidableEq β] {l : List Triangle} {u : List β} {nm : Cut × Cut → β} (ns : (l.flatMap sides).Nodup) (ne : ∀ e ∈ l.flatMap sides, e.1 ≠ e.2) (nu : u.Nodup) (h1 : ∀ e, nm (swap e) = nm e) (h2 : ∀ e e', nm e = nm e' → e = e' ∨ e = swap e')
    (h3 : ∀ y, y ∈ u ↔ ∃ e ∈ l.flatMap sides, nm e = y) : sidesOf l = u.length := by
  have h := sides_count ns ne nu h1 h2 h3
  unfold sidesOf
  show ((l.flatMap sides).length + ((l.flatMap sides).filter fun x => !(l.flatMap sides).contains (x.2, x.1)).length) / 2 = u.length
  have h : 2 * u.length = (l.flatMap sides).length + ((l.flatMap sides).filter fun x => !(l.flatMap sides).contains (x.2, x.1)).length := h
  omega
theorem these_sub {l : List Triangle} : ∀ {m : List Nat}, m.Nodup → (l.flatMap sides).Nodup → ((these l m).flatMap sides).Nodup
  | [], _, _ => by simp [these]
  | i :: m, n, h => by
    have n := List.nodup_cons.mp n
    have ih := these_sub (l := l) n.2 h
    unfold these at ih ⊢
    rw [List.filterMap_cons]
    cases hi : l[i]? with
    | none => exact ih
    | some t =>
      show ((t :: m.filterMap fun i => l[i]?).flatMap sides).Nodup
      rw [List.flatMap_cons, List.nodup_append]
      obtain ⟨hlt, et⟩ := List.getElem?_eq_some_iff.mp hi
      have sp : l = l.take i ++ t :: l.drop (i + 1) := by
        rw [← et, ← List.drop_eq_getElem_cons hlt, List.take_append_drop]
      have hn := h
      rw [sp, List.flatMap_append, List.flatMap_cons, List.nodup_append] at hn
      obtain ⟨_, hn2, hn3⟩ := hn
      rw [List.nodup_append] at hn2
      refine ⟨hn2.1, ih, fun x hx y hy e => ?_⟩
      subst e
      obtain ⟨t', ht', hx'⟩ := List.mem_flatMap.mp hy
      obtain ⟨j, hj, hjt⟩ := List.mem_filterMap.mp ht'
      obtain ⟨hjl, ejt⟩ := List.getElem?_eq_some_iff.mp hjt
      have hne : j ≠ i := fun q => n.1 (q ▸ hj)
      rcases Nat.lt_or_gt_of_ne hne with q | q
      · refine hn3 x (List.mem_flatMap.mpr ⟨t', ?_, hx'⟩) x (List.mem_append_left _ hx) rfl
        rw [← ejt]
        exact List.mem_iff_getElem.mpr ⟨j, by rw [List.length_take]; omega, by rw [List.getElem_take]⟩
      · refine hn2.2.2 x hx x (List.mem_flatMap.mpr ⟨t', ?_, hx'⟩) rfl
        rw [← ejt]
        exact List.mem_iff_getElem.mpr ⟨j - (i + 1), by rw [List.length_drop]; omega, by rw [List.getElem_drop]; congr 1; omega⟩
theorem these_ne {l : List Triangle} {m : List Nat} (h : ∀ e ∈ l.flatMap sides, e.1 ≠ e.2) : ∀ e ∈ (these l m).flatMap sides, e.1 ≠ e.2 := fun e he => by
  obtain ⟨t, ht, hx⟩ := List.mem_flatMap.mp he
  obtain ⟨j, _, hjt⟩ := List.mem_filterMap.mp ht
  exact h e (List.mem_flatMap.mpr ⟨t, List.mem_of_getElem? hjt, hx⟩)
end RK
end
section
namespace RC
open Rc29
def rows : Call → List (List Int)
  | .init => [[0]]
  | .field a b c v => [[1, a, b, c], v]
  | .cut l => [[2, l]]
  | .triangle k => [[3, k]]
  | .point x y z d => [[4, x, y, z, d]]
  | .count => [[5]]
  | .piece k => [[6, k]]
  | .hangs k => [[7, k]]
def flat : List (List Int) → List Int
  | [] => []
  | h :: rs => h ++ rs.flatMap fun r => (r.length : Int) :: r
def enc (c : Call) : List Int := flat (rows c)
theorem callOf_rows (c : Call) : Rc29Neutral.callOf (rows c) = some c := by
  cases c <;> rfl
theorem row_eq {l x t : List Int} (h : PyFlat.row l = some (x, t)) : l = (x.length : Int) :: x ++ t := by
  cases l with
  | nil => cases h
  | cons n r =>
    simp only [PyFlat.row] at h
    split at h
    · next hc =>
      injection h with h
      injection h with h1 h2
      subst h1 h2
      have e : ((r.take n.toNat).length : Int) = n := by
        rw [List.length_take]
        omega
      rw [e, List.cons_append, List.take_append_drop]
    · cases h
theorem rows_eq : ∀ {k : Nat} {l : List Int} {xs : List (List Int)} {t : List Int}, PyFlat.rows k l = some (xs, t) → l = (xs.flatMap fun r => (r.length : Int) :: r) ++ t
  | 0, l, xs, t, h => by
    injection h with h
    injection h with h1 h2
    subst h1 h2
    rfl
  | k + 1, l, xs, t, h => by
    unfold PyFlat.rows at h
    split at h
    · cases h
    · next x s h1 =>
      split at h
      · cases h
      · next ys u h2 =>
        injection h with h
        injection h with h3 h4
        subst h3 h4
        rw [row_eq h1, rows_eq h2, List.flatMap_cons, List.append_assoc]
theorem call_eq {shape : Int → Option (Nat × Nat)} {l : List Int} {c : List (List Int)} {t : List Int} (h : PyFlat.call shape l = some (c, t)) : l = flat c ++ t := by
  cases l with
  | nil => cases h
  | cons p r =>
    simp only [PyFlat.call] at h
    split at h
    · cases h
    · next n k _ =>
      split at h
      · cases h
      · split at h
        · cases h
        · next xs u h1 =>
          injection h with h
          injection h with h2 h3
          subst h2 h3
          have e := rows_eq h1
          show p :: r = (p :: r.take n) ++ (xs.flatMap fun r => (r.length : Int) :: r) ++ u
          rw [List.append_assoc, ← e, List.cons_append, List.take_append_drop]
theorem calls_eq {shape : Int → Option (Nat × Nat)} : ∀ {f : Nat} {l : List Int} {cs : List (List (List Int))}, PyFlat.calls shape f l = some cs → l = cs.flatMap flat
  | f, [], cs, h => by
    have e : PyFlat.calls shape f [] = some [] := by cases f <;> rfl
    rw [e] at h
    injection h with h
    subst h
    rfl
  | 0, p :: r, cs, h => by cases h
  | f + 1, p :: r, cs, h => by
    unfold PyFlat.calls at h
    split at h
    · cases h
    · next c t h1 =>
      split at h
      · cases h
      · next ds h2 =>
        injection h with h
        subst h
        rw [call_eq h1, calls_eq h2]
        rfl
theorem whole_eq (c : List (List Int)) : PyRc29.whole c = c := by
  unfold PyRc29.whole
  split <;> rfl
def OkC : Call → Prop
  | .init => True
  | .field a b c v => (∀ x ∈ v, -32768 ≤ x ∧ x ≤ 32767) ∧ ((2 ≤ a ∧ a ≤ 32) ∧ (2 ≤ b ∧ b ≤ 32) ∧ (2 ≤ c ∧ c ≤ 32) → (v.length : Int) = a * b * c ∧ v.length ≤ 48)
  | _ => True
theorem asked1_of {c : List (List Int)} (h : Rc29Neutral.asked1 c = true) : ∃ x, c = rows x ∧ OkC x := by
  unfold Rc29Neutral.asked1 at h
  split at h
  · exact ⟨.init, rfl, trivial⟩
  · next a b c d =>
    refine ⟨.field a b c d, rfl, ?_⟩
    rw [Bool.and_eq_true, Bool.and_eq_true, Bool.and_eq_true, Bool.and_eq_true] at h
    obtain ⟨_, _, _, h1, h2⟩ := h
    refine ⟨fun x hx => ?_, fun hs => ?_⟩
    · have := List.all_eq_true.mp h1 x hx
      simp at this
      omega
    · unfold Rc29Neutral.fills at h2
      obtain ⟨⟨a1, a2⟩, ⟨b1, b2⟩, ⟨c1, c2⟩⟩ := hs
      simp only [a1, a2, b1, b2, c1, c2, decide_true, Bool.and_self, if_true, Bool.and_eq_true, decide_eq_true_eq] at h2
      exact h2
  · next a => exact ⟨.cut a, rfl, trivial⟩
  · next a => exact ⟨.triangle a, rfl, trivial⟩
  · next a b c d => exact ⟨.point a b c d, rfl, trivial⟩
  · exact ⟨.count, rfl, trivial⟩
  · next a => exact ⟨.piece a, rfl, trivial⟩
  · next a => exact ⟨.hangs a, rfl, trivial⟩
  · cases h
def next (s : Abs) (c : Call) : Abs := (does s c).1
def ans (s : Abs) (c : Call) : List Int := (does s c).2.value :: (does s c).2.numbers.map fun (b : Nat) => (b : Int)
def told : Abs → List Call → List Int
  | _, [] => []
  | s, c :: r => ((ans s c).length : Int) :: ans s c ++ told (next s c) r
def after : Abs → List Call → Abs
  | s, [] => s
  | s, c :: r => after (next s c) r
theorem told_snoc : ∀ (s : Abs) (cs : List Call) (c : Call), told s (cs ++ [c]) = told s cs ++ (((ans (after s cs) c).length : Int) :: ans (after s cs) c)
  | s, [], c => by
    show ((ans s c).length : Int) :: ans s c ++ [] = [] ++ (((ans s c).length : Int) :: ans s c)
    rw [List.append_nil, List.nil_append]
  | s, d :: cs, c => by
    show ((ans s d).length : Int) :: ans s d ++ told (next s d) (cs ++ [c]) = ((ans s d).length : Int) :: ans s d ++ told (next s d) cs ++ (((ans (after (next s d) cs) c).length : Int) :: ans (after (next s d) cs) c)
    rw [told_snoc, List.append_assoc]
theorem after_snoc : ∀ (s : Abs) (cs : List Call) (c : Call), after s (cs ++ [c]) = next (after s cs) c
  | s, [], c => rfl
  | s, d :: cs, c => after_snoc (next s d) cs c
theorem step_rows (s : Abs) (c : Call) : Rc29Neutral.step s (rows c) = (next s c, ans s c) := by
  unfold Rc29Neutral.step
  rw [callOf_rows]
  rfl
theorem told_played : ∀ (s : Abs) (cs : List Call), PyFlat.told (PyFlat.played Rc29Neutral.step s (cs.map rows)) = told s cs
  | s, [] => rfl
  | s, c :: r => by
    show PyFlat.told ((Rc29Neutral.step s (rows c)).2 :: PyFlat.played Rc29Neutral.step (Rc29Neutral.step s (rows c)).1 (r.map rows)) = _
    rw [step_rows]
    show ((ans s c).length : Int) :: ans s c ++ PyFlat.told (PyFlat.played Rc29Neutral.step (next s c) (r.map rows)) = _
    rw [told_played (next s c) r]
    rfl
theorem all_rows : ∀ {cs : List (List (List Int))}, (∀ c ∈ cs, Rc29Neutral.asked1 c = true) → ∃ xs : List Call, cs = xs.map rows ∧ ∀ x ∈ xs, OkC x
  | [], _ => ⟨[], rfl, fun _ h => by cases h⟩
  | c :: r, h => by
    obtain ⟨x, e, o⟩ := asked1_of (h c List.mem_cons_self)
    obtain ⟨xs, es, os⟩ := all_rows fun d hd => h d (List.mem_cons_of_mem _ hd)
    refine ⟨x :: xs, by rw [e, es]; rfl, fun y hy => ?_⟩
    rcases List.mem_cons.mp hy with rfl | hz
    · exact o
    · exact os y hz
theorem asked_calls {l : List Int} (h : PyRc29.answers_asked l = true) : ∃ cs : List Call, l = cs.flatMap enc ∧ (∀ c ∈ cs, OkC c) ∧ cs.length ≤ 100 ∧ PyRc29.answers l = told {} cs := by
  unfold PyRc29.answers_asked at h
  unfold PyRc29.answers
  unfold PyRc29.calls at h ⊢
  cases hc : PyFlat.calls PyRc29.shape l.length l with
  | none => exact absurd h (by rw [hc]; exact Bool.false_ne_true)
  | some cs =>
    rw [hc] at h
    simp only at h ⊢
    have ew : cs.map PyRc29.whole = cs := by
      rw [List.map_congr_left (g := id) fun c _ => whole_eq c, List.map_id]
    rw [ew] at h ⊢
    rw [Bool.and_eq_true] at h
    obtain ⟨h1, h2⟩ := h
    unfold Rc29Neutral.asked at h2
    rw [Bool.and_eq_true, Bool.and_eq_true] at h2
    obtain ⟨⟨h3, h4⟩, _⟩ := h2
    obtain ⟨xs, rfl, os⟩ := all_rows fun c hc => List.all_eq_true.mp h3 c hc
    have hl := of_decide_eq_true h4
    rw [List.length_map] at hl
    refine ⟨xs, ?_, os, hl, told_played _ _⟩
    have e := calls_eq hc
    rw [List.flatMap_map] at e
    exact e
end RC
end
section
set_option Elab.async false
set_option linter.all false
namespace RM
open Rc29 RK
variable {α β : Type}
abbrev root (l : List Triangle) (i : Nat) : Nat := (roots l).getD i 0
def pieceL (l : List Triangle) (i : Nat) : List Nat := (List.range l.length).filter fun (j : Nat) => (roots l).getD j 0 == i
theorem mem_piece {l : List Triangle} {i j : Nat} : j ∈ pieceL l i ↔ j < l.length ∧ root l j = i := by
  unfold pieceL root
  rw [List.mem_filter, List.mem_range, beq_iff_eq]
theorem piece_sorted (l : List Triangle) (i : Nat) : (pieceL l i).Pairwise (· < ·) := List.pairwise_lt_range.filter _
theorem conn_root {l : List Triangle} {i j : Nat} (hi : i < l.length) : Conn l i j ↔ j < l.length ∧ root l j = root l i := by
  constructor
  · intro c
    have hj := c.lt hi
    exact ⟨hj, by unfold root; rw [roots_at hi, roots_at hj, lead_same c]⟩
  · rintro ⟨hj, e⟩
    unfold root at e
    rw [roots_at hi, roots_at hj] at e
    have a := lead_conn l i
    have b := lead_conn l j
    rw [e] at b
    exact a.trans b.symm
theorem piece_of {l : List Triangle} {k : Nat} (hk : k < l.length) {ms : List Nat} (hs : ms.Pairwise (· < ·)) (h : ∀ j, j ∈ ms ↔ Conn l k j) : ms = pieceL l (root l k) := by
  refine sorted_eq hs (piece_sorted l _) fun j => ?_
  rw [h, conn_root hk, mem_piece]
theorem closed_conn {l : List Triangle} {R : Nat → Prop} {k : Nat} (h0 : R k) (h : ∀ r, R r → ∀ j, tch l r j = true → R j) : ∀ {j : Nat}, Conn l k j → R j := by
  intro j c
  induction c with
  | refl i => exact h0
  | step t _ ih => exact ih (h _ h0 _ t)
theorem tch_corner {l : List Triangle} {i j : Nat} : tch l i j = true ↔ ∃ x y c, l[i]? = some x ∧ l[j]? = some y ∧ c ∈ corners x ∧ c ∈ corners y := by
  rw [tch_iff]
  constructor
  · rintro ⟨x, y, h1, h2, h3⟩
    obtain ⟨c, h4, h5⟩ := touch_iff.mp h3
    exact ⟨x, y, c, h1, h2, h4, h5⟩
  · rintro ⟨x, y, c, h1, h2, h4, h5⟩
    exact ⟨x, y, h1, h2, touch_iff.mpr ⟨c, h4, h5⟩⟩
def fl (l : List Triangle) (k : Nat) : List Nat := (List.range k).filter fun i => (roots l).getD i 0 == i
theorem fl_succ (l : List Triangle) (k : Nat) : fl l (k + 1) = fl l k ++ if root l k = k then [k] else [] := by
  unfold fl
  rw [List.range_succ, List.filter_append, List.filter_cons, List.filter_nil]
  by_cases e : root l k = k
  · rw [if_pos e, if_pos (beq_iff_eq.mpr e)]
  · rw [if_neg e, if_neg (fun q => e (beq_iff_eq.mp q))]
theorem fl_all (l : List Triangle) : firstsOf l = fl l l.length := firstsOf_eq l
theorem root_lt {l : List Triangle} {i : Nat} (hi : i < l.length) : root l i < l.length := Nat.lt_of_le_of_lt (roots_le hi) hi
theorem root_root {l : List Triangle} {i : Nat} (hi : i < l.length) : root l (root l i) = root l i := by
  have e : root l i = lead l i := roots_at hi
  have f : root l (root l i) = lead l (root l i) := roots_at (root_lt hi)
  rw [f, e, lead_lead]
theorem mem_fl {l : List Triangle} {k i : Nat} : i ∈ fl l k ↔ i < k ∧ root l i = i := by
  unfold fl root
  rw [List.mem_filter, List.mem_range, beq_iff_eq]
theorem root_mem {l : List Triangle} {i : Nat} (hi : i < l.length) : root l i ∈ firstsOf l := by
  rw [fl_all, mem_fl]
  exact ⟨root_lt hi, root_root hi⟩
theorem fl_len (l : List Triangle) (k : Nat) : (fl l k).length ≤ k := by
  have h := List.length_filter_le (fun i => (roots l).getD i 0 == i) (List.range k)
  rw [List.length_range] at h
  exact h
theorem idx_of {α : Type} [DecidableEq α] {a : α} : ∀ {l : List α} {m : Nat}, (∀ i, i < m → l[i]? ≠ some a) → l[m]? = some a → l.idxOf a = m
  | [], m, _, h => by simp at h
  | b :: l, 0, _, h => by
    simp at h
    subst h
    simp [List.idxOf_cons]
  | b :: l, m + 1, hn, h => by
    have nb : b ≠ a := fun e => hn 0 (Nat.succ_pos m) (by rw [e]; rfl)
    have r := idx_of (l := l) (m := m) (fun i hi q => hn (i + 1) (Nat.succ_lt_succ hi) (by simpa using q)) (by simpa using h)
    rw [List.idxOf_cons, beq_eq_false_iff_ne.mpr nb, r]
    rfl
theorem piece_ne {l : List Triangle} {i : Nat} (h : i ∈ firstsOf l) : (pieceL l i)[0]? = some i := by
  rw [fl_all, mem_fl] at h
  have hm : i ∈ pieceL l i := mem_piece.mpr h
  cases e : pieceL l i with
  | nil => rw [e] at hm; cases hm
  | cons a r =>
    have ha : a ∈ pieceL l i := by rw [e]; exact List.mem_cons_self
    have hs := piece_sorted l i
    rw [e] at hs hm
    rcases List.mem_cons.mp hm with q | q
    · rw [q]
      rfl
    · have lt := (List.pairwise_cons.mp hs).1 i q
      have hr := mem_piece.mp ha
      have le := roots_le hr.1
      have : root l a = i := hr.2
      unfold root at this
      omega
theorem piece_len (l : List Triangle) (i : Nat) : (pieceL l i).length ≤ l.length := by
  have h := List.length_filter_le (fun (j : Nat) => (roots l).getD j 0 == i) (List.range l.length)
  rw [List.length_range] at h
  exact h
theorem sum_two (f : β → Nat) : ∀ {l : List β}, (∀ y ∈ l, f y = 1 ∨ f y = 2) → (l.map f).sum + (l.filter fun y => decide (f y = 1)).length = 2 * l.length
  | [], _ => rfl
  | a :: l, h => by
    have ih := sum_two f (l := l) fun y hy => h y (List.mem_cons_of_mem _ hy)
    rw [List.map_cons, List.sum_cons, List.filter_cons, List.length_cons]
    rcases h a List.mem_cons_self with e | e
    · rw [e, if_pos (by decide), List.length_cons]
      omega
    · rw [e, if_neg (by decide)]
      omega
theorem rim_count [DecidableEq α] [DecidableEq β] {s : List (α × α)} {u : List β} {nm : α × α → β} (ns : s.Nodup) (ne : ∀ e ∈ s, e.1 ≠ e.2) (nu : u.Nodup) (h1 : ∀ e, nm (swap e) = nm e) (h2 : ∀ e e', nm e = nm e' → e = e' ∨ e = swap e')
    (h3 : ∀ y, y ∈ u ↔ ∃ e ∈ s, nm e = y) : (u.filter fun y => decide ((s.filter fun x => decide (nm x = y)).length = 1)).length = (s.filter fun x => !s.contains (swap x)).length := by
  have a := sides_count ns ne nu h1 h2 h3
  have b := len_classes (nm := nm) (s := s) nu fun x hx => (h3 _).mpr ⟨x, hx, rfl⟩
  have c := sum_two (fun y => (s.filter fun x => decide (nm x = y)).length) (l := u) fun y hy => by
    obtain ⟨e, he, q⟩ := (h3 y).mp hy
    have le : (s.filter fun x => decide (nm x = y)).length ≤ [e, swap e].length := nodup_le (ns.filter _) fun x hx => by
      have hx := (List.mem_filter.mp hx).2
      rcases h2 x e ((of_decide_eq_true hx).trans q.symm) with z | z
      · rw [z]; exact List.mem_cons_self
      · rw [z]; exact List.mem_cons_of_mem _ List.mem_cons_self
    have pos : 0 < (s.filter fun x => decide (nm x = y)).length := List.length_pos_of_mem (List.mem_filter.mpr ⟨he, decide_eq_true q⟩)
    have le : (s.filter fun x => decide (nm x = y)).length ≤ 2 := le
    omega
  omega
def sidesP (t : Triangle) : List (Cut × Cut) := [(t.2.2, t.1), (t.1, t.2.1), (t.2.1, t.2.2)]
theorem sidesP_perm (t : Triangle) : (sidesP t).Perm (sides t) := by
  unfold sidesP sides
  exact (List.Perm.swap _ _ _).trans (.cons _ (List.Perm.swap _ _ _))
theorem flat_perm {f g : α → List β} (h : ∀ a, (f a).Perm (g a)) : ∀ l : List α, (l.flatMap f).Perm (l.flatMap g)
  | [] => .refl _
  | a :: l => by
    rw [List.flatMap_cons, List.flatMap_cons]
    exact (h a).append (flat_perm h l)
end RM
end
section
set_option Elab.async false
set_option linter.all false
namespace RC
open Rc29
variable {s : Abs} {f : Field} {l : Int}
theorem no_level {c : Call} (h : s.level = none) (hc : match c with | .init | .field .. | .cut _ => False | _ => True) : ans s c = [-4] ∧ next s c = s := by
  unfold ans next does
  cases c <;> first
    | exact hc.elim
    | (rw [h]; cases s.field <;> exact ⟨rfl, rfl⟩)
theorem stays {c : Call} (hc : match c with | .init | .field .. | .cut _ => False | _ => True) : next s c = s := by
  unfold next does
  cases c <;> first
    | exact hc.elim
    | (cases s.field <;> cases s.level <;> rfl)
theorem field_no {x y z : Int} {v : List Int} (h : ¬ ((2 ≤ x ∧ x ≤ 32) ∧ (2 ≤ y ∧ y ≤ 32) ∧ 2 ≤ z ∧ z ≤ 32)) : ans s (.field x y z v) = [-1] ∧ next s (.field x y z v) = s := by
  have e : (inRange x && (inRange y && inRange z)) = false := by
    unfold inRange MOST
    rw [← Bool.not_eq_true, Bool.and_eq_true, Bool.and_eq_true, decide_eq_true_eq, decide_eq_true_eq, decide_eq_true_eq]
    intro q
    exact h ⟨by omega, by omega, by omega⟩
  unfold ans next does
  simp only [e, if_true]
  exact ⟨rfl, trivial⟩
theorem field_yes {x y z : Int} {v : List Int} (h : (2 ≤ x ∧ x ≤ 32) ∧ (2 ≤ y ∧ y ≤ 32) ∧ 2 ≤ z ∧ z ≤ 32) : ans s (.field x y z v) = [0] ∧ next s (.field x y z v) = { field := some ⟨x.toNat, y.toNat, z.toNat, v⟩ } := by
  have e : (inRange x && (inRange y && inRange z)) = true := by
    unfold inRange MOST
    rw [Bool.and_eq_true, Bool.and_eq_true, decide_eq_true_eq, decide_eq_true_eq, decide_eq_true_eq]
    exact ⟨by omega, by omega, by omega⟩
  unfold ans next does
  simp only [e, Bool.true_eq_false, if_false]
  exact ⟨rfl, trivial⟩
theorem cut_none {k : Int} (h : s.field = none) : ans s (.cut k) = [-1] ∧ next s (.cut k) = s := by
  unfold ans next does
  rw [h]
  exact ⟨rfl, rfl⟩
theorem cut_out {k : Int} (h : s.field = some f) (hk : ¬ (-32767 ≤ k ∧ k ≤ 32768)) : ans s (.cut k) = [-1] ∧ next s (.cut k) = s := by
  have e : k < -32767 ∨ 32768 < k := by omega
  unfold ans next does
  simp only [h, if_pos e]
  exact ⟨rfl, trivial⟩
theorem cut_in {k : Int} (h : s.field = some f) (hk : -32767 ≤ k ∧ k ≤ 32768) : ans s (.cut k) = [((surface f k).length : Int)] ∧ next s (.cut k) = { s with level := some k } := by
  have e : ¬ (k < -32767 ∨ 32768 < k) := by omega
  unfold ans next does
  simp only [h, if_neg e]
  exact ⟨rfl, trivial⟩
section
variable (hf : s.field = some f) (hl : s.level = some l)
include hf hl
theorem tri_out {k : Int} (hk : ¬ (0 ≤ k ∧ k < ((surface f l).length : Int))) : ans s (.triangle k) = [-1] := by
  unfold ans does
  simp only [hf, hl]
  by_cases n : k < 0
  · rw [if_pos n]
    rfl
  · have e : (surface f l)[k.toNat]? = none := List.getElem?_eq_none (by omega)
    rw [if_neg n, e]
    rfl
theorem tri_in {k : Int} {t : Triangle} (hk : 0 ≤ k) (ht : (surface f l)[k.toNat]? = some t) : ans s (.triangle k) = 0 :: ((corners t).flatMap cutNumbers).map fun (b : Nat) => (b : Int) := by
  unfold ans does
  simp only [hf, hl, if_neg (show ¬ k < 0 by omega), ht]
theorem count_eq : ans s .count = [((firstsOf (surface f l)).length : Int)] := by
  unfold ans does
  simp only [hf, hl]
  rfl
theorem piece_out {k : Int} (hk : ¬ (0 ≤ k ∧ k < ((firstsOf (surface f l)).length : Int))) : ans s (.piece k) = [-1] := by
  unfold ans does
  simp only [hf, hl]
  by_cases n : k < 0
  · rw [if_pos n]
    rfl
  · have e : (firstsOf (surface f l))[k.toNat]? = none := List.getElem?_eq_none (by omega)
    rw [if_neg n, e]
    rfl
theorem piece_in {k : Int} {i : Nat} (hk : 0 ≤ k) (hi : (firstsOf (surface f l))[k.toNat]? = some i) : ans s (.piece k) = 0 :: [(i : Int), ((RM.pieceL (surface f l) i).length : Int), (pointsOf (these (surface f l) (RM.pieceL (surface f l) i)) : Int), (sidesOf (these (surface f l) (RM.pieceL (surface f l) i)) : Int), (rim (these (surface f l) (RM.pieceL (surface f l) i)) : Int)] := by
  unfold ans does
  simp only [hf, hl, if_neg (show ¬ k < 0 by omega), hi]
  rfl
theorem hangs_out {k : Int} (hk : ¬ (0 ≤ k ∧ k < ((surface f l).length : Int))) : ans s (.hangs k) = [-1] := by
  have e : k < 0 ∨ ((surface f l).length : Int) ≤ k := by omega
  unfold ans does
  simp only [hf, hl, if_pos e]
  rfl
theorem hangs_in {k : Int} (hk : 0 ≤ k ∧ k < ((surface f l).length : Int)) : ans s (.hangs k) = [((firstsOf (surface f l)).idxOf (RM.root (surface f l) k.toNat) : Int)] := by
  have e : ¬ (k < 0 ∨ ((surface f l).length : Int) ≤ k) := by omega
  unfold ans does
  simp only [hf, hl, if_neg e]
  rfl
def ways (f : Field) (x y z d : Int) : Prop := (0 ≤ x ∧ 0 ≤ y ∧ 0 ≤ z) ∧ (1 ≤ d ∧ d ≤ 7) ∧ x + d % 2 < f.nx ∧ y + d / 2 % 2 < f.ny ∧ z + d / 4 % 2 < f.nz
theorem to_eq {x y z d : Int} (hx : 0 ≤ x) (hy : 0 ≤ y) (hz : 0 ≤ z) (hd : 0 ≤ d) : (((⟨x.toNat, y.toNat, z.toNat⟩ : P).to d.toNat).x : Int) = x + d % 2 ∧ (((⟨x.toNat, y.toNat, z.toNat⟩ : P).to d.toNat).y : Int) = y + d / 2 % 2 ∧ (((⟨x.toNat, y.toNat, z.toNat⟩ : P).to d.toNat).z : Int) = z + d / 4 % 2 := by
  unfold P.to
  dsimp only
  refine ⟨?_, ?_, ?_⟩ <;> omega
theorem point_out {x y z d : Int} (h : ¬ ways f x y z d) : ans s (.point x y z d) = [-1] := by
  have e : cutAt f l x y z d = none := by
    unfold cutAt
    by_cases c : x < 0 ∨ y < 0 ∨ z < 0 ∨ d < 1 ∨ 7 < d
    · rw [if_pos c]
    · rw [if_neg c]
      obtain ⟨e1, e2, e3⟩ := to_eq hf hl (x := x) (y := y) (z := z) (d := d) (by omega) (by omega) (by omega) (by omega)
      dsimp only
      rw [if_pos]
      unfold ways at h
      omega
  unfold ans does
  simp only [hf, hl, e]
  rfl
theorem point_uncut {x y z d : Int} (h : ways f x y z d) (hc : decide (l ≤ f.at_ ⟨x.toNat, y.toNat, z.toNat⟩) = decide (l ≤ f.at_ ((⟨x.toNat, y.toNat, z.toNat⟩ : P).to d.toNat))) : ans s (.point x y z d) = [-1] := by
  obtain ⟨⟨a1, a2, a3⟩, ⟨a4, a5⟩, a6, a7, a8⟩ := h
  obtain ⟨e1, e2, e3⟩ := to_eq hf hl (x := x) (y := y) (z := z) (d := d) a1 a2 a3 (by omega)
  have e : cutAt f l x y z d = none := by
    unfold cutAt
    rw [if_neg (by omega)]
    dsimp only
    rw [if_neg (by omega), if_pos hc]
  unfold ans does
  simp only [hf, hl, e]
  rfl
theorem point_in {x y z d : Int} (h : ways f x y z d) (hc : decide (l ≤ f.at_ ⟨x.toNat, y.toNat, z.toNat⟩) ≠ decide (l ≤ f.at_ ((⟨x.toNat, y.toNat, z.toNat⟩ : P).to d.toNat))) :
    ans s (.point x y z d) = 0 :: [((share f l ⟨⟨x.toNat, y.toNat, z.toNat⟩, d.toNat⟩).1 : Int), ((share f l ⟨⟨x.toNat, y.toNat, z.toNat⟩, d.toNat⟩).2 : Int)] := by
  obtain ⟨⟨a1, a2, a3⟩, ⟨a4, a5⟩, a6, a7, a8⟩ := h
  obtain ⟨e1, e2, e3⟩ := to_eq hf hl (x := x) (y := y) (z := z) (d := d) a1 a2 a3 (by omega)
  have e : cutAt f l x y z d = some ⟨⟨x.toNat, y.toNat, z.toNat⟩, d.toNat⟩ := by
    unfold cutAt
    rw [if_neg (by omega)]
    dsimp only
    rw [if_neg (by omega), if_neg hc]
  unfold ans does
  simp only [hf, hl, e]
  rfl
end
theorem numbers_len (s : Abs) (c : Call) : (does s c).2.numbers.length ≤ 12 := by
  cases hf : s.field with
  | none => cases c <;> simp only [does, hf] <;> (try split) <;> exact Nat.zero_le _
  | some f =>
    cases hl : s.level with
    | none => cases c <;> simp only [does, hf, hl] <;> (try split) <;> exact Nat.zero_le _
    | some l =>
      cases c with
      | init => exact Nat.zero_le _
      | field a b c v => simp only [does]; split <;> exact Nat.zero_le _
      | cut k => simp only [does, hf]; split <;> exact Nat.zero_le _
      | triangle k =>
        simp only [does, hf, hl]
        split
        · exact Nat.zero_le _
        · split
          · exact Nat.zero_le _
          · exact Nat.le_refl 12
      | point x y z d =>
        simp only [does, hf, hl]
        split
        · exact Nat.zero_le _
        · exact Nat.le_of_ble_eq_true rfl
      | count => simp only [does, hf, hl]; exact Nat.zero_le _
      | piece k =>
        simp only [does, hf, hl]
        split
        · exact Nat.zero_le _
        · split
          · exact Nat.zero_le _
          · exact Nat.le_of_ble_eq_true rfl
      | hangs k =>
        simp only [does, hf, hl]
        split <;> exact Nat.zero_le _
theorem ans_len (s : Abs) (c : Call) : (ans s c).length ≤ 13 := by
  have h := numbers_len s c
  unfold ans
  rw [List.length_cons, List.length_map]
  omega
theorem told_len : ∀ (s : Abs) (cs : List Call), (told s cs).length ≤ 14 * cs.length
  | _, [] => Nat.le_refl _
  | s, c :: r => by
    have a := ans_len s c
    have b := told_len (next s c) r
    show (((ans s c).length : Int) :: ans s c ++ told (next s c) r).length ≤ 14 * (r.length + 1)
    rw [List.length_append, List.length_cons]
    omega
theorem enc_pos (c : Call) : 0 < (enc c).length := by
  cases c <;> simp [enc, flat, rows]
end RC
end
section
set_option Elab.async false
set_option linter.all false
set_option maxRecDepth 100000
set_option maxHeartbeats 4000001
namespace Fs
open PySem PySem.Spec PyProof.Rows L2
def top (i : Nat) : Stmt := PySem.Challenge.pw_fieldsurface_s01_answers.main.body.getD i (.Pass ⟨0, 0, 0, 0⟩)
abbrev s_is_size : Stmt := top 5
abbrev s_step : Stmt := top 6
abbrev s_Field_init : Stmt := inClass (top 7) 0
abbrev s_Field_value_at : Stmt := inClass (top 7) 1
abbrev s_Field_has_place : Stmt := inClass (top 7) 2
abbrev s_Field_has_way : Stmt := inClass (top 7) 3
abbrev s_Field_cubes : Stmt := inClass (top 7) 4
abbrev s_triangles_by_point : Stmt := top 9
abbrev s_hanging_together : Stmt := top 10
abbrev s_surface_pieces : Stmt := top 11
abbrev s_piece_with : Stmt := top 12
abbrev s_sides_of : Stmt := top 13
abbrev s_count_points : Stmt := top 14
abbrev s_triangles_by_side : Stmt := top 15
abbrev s_measure_piece : Stmt := top 16
abbrev s_is_even : Stmt := top 18
abbrev s_around_corner : Stmt := top 19
abbrev s_between_pairs : Stmt := top 20
abbrev s_parting_triangles : Stmt := top 21
abbrev s_point_between : Stmt := top 24
abbrev s_tetrahedron_triangles : Stmt := top 25
abbrev s_surface_triangles : Stmt := top 26
abbrev s_is_cut : Stmt := top 28
abbrev s_common_divisor : Stmt := top 29
abbrev s_part_of_way : Stmt := top 30
abbrev s_Body_init : Stmt := inClass (top 37) 0
abbrev s_Body_begin : Stmt := inClass (top 37) 1
abbrev s_Body_lay_field : Stmt := inClass (top 37) 2
abbrev s_Body_set_field : Stmt := inClass (top 37) 3
abbrev s_Body_cut : Stmt := inClass (top 37) 4
abbrev s_Body_tell_triangle : Stmt := inClass (top 37) 5
abbrev s_Body_tell_point : Stmt := inClass (top 37) 6
abbrev s_Body_count_pieces : Stmt := inClass (top 37) 7
abbrev s_Body_tell_piece : Stmt := inClass (top 37) 8
abbrev s_Body_tell_hangs : Stmt := inClass (top 37) 9
abbrev s_Reader_init : Stmt := inClass (top 39) 0
abbrev s_Reader_has_more : Stmt := inClass (top 39) 1
abbrev s_Reader_take : Stmt := inClass (top 39) 2
abbrev s_Reader_take_row : Stmt := inClass (top 39) 3
abbrev s_answer_call : Stmt := top 50
abbrev s_answers : Stmt := top 51
structure Ad where
  f_is_size : Addr
  f_step : Addr
  f_Field_init : Addr
  f_Field_value_at : Addr
  f_Field_has_place : Addr
  f_Field_has_way : Addr
  f_Field_cubes : Addr
  f_triangles_by_point : Addr
  f_hanging_together : Addr
  f_surface_pieces : Addr
  f_piece_with : Addr
  f_sides_of : Addr
  f_count_points : Addr
  f_triangles_by_side : Addr
  f_measure_piece : Addr
  f_is_even : Addr
  f_around_corner : Addr
  f_between_pairs : Addr
  f_parting_triangles : Addr
  f_point_between : Addr
  f_tetrahedron_triangles : Addr
  f_surface_triangles : Addr
  f_is_cut : Addr
  f_common_divisor : Addr
  f_part_of_way : Addr
  f_Body_init : Addr
  f_Body_begin : Addr
  f_Body_lay_field : Addr
  f_Body_set_field : Addr
  f_Body_cut : Addr
  f_Body_tell_triangle : Addr
  f_Body_tell_point : Addr
  f_Body_count_pieces : Addr
  f_Body_tell_piece : Addr
  f_Body_tell_hangs : Addr
  f_Reader_init : Addr
  f_Reader_has_more : Addr
  f_Reader_take : Addr
  f_Reader_take_row : Addr
  f_answer_call : Addr
  f_answers : Addr
  C_Field : Addr
  C_Body : Addr
  C_Reader : Addr
  C_UnknownCall : Addr
  t_TETRAHEDRA : Addr
def Df (K : PySem.W.Frag) (x qual : Str) (st : Stmt) (f : Addr) (ps : List Str) : Prop := ∃ fd, Fun K x qual st f fd ∧ Binds K fd ps []
def Prom (P : Program) (w : World) (K : PySem.W.Frag) (mg : Str → Option Value) (base : Heap) (k : Nat) (f : Addr) (ps : List Str) (sp : Sp) : Prop := ∃ fd, FnOk P w K mg base CX0 k f fd ps sp ∧ Binds K fd ps [] ∧ PySem.W.keepIn K (.ref f) = true
structure Txt (K : PySem.W.Frag) (mg : Str → Option Value) (A : Ad) : Prop where
  d_is_size : Df K "is_size" "is_size" s_is_size A.f_is_size ["size"]
  g_is_size : mg "is_size" = some (.ref A.f_is_size)
  d_step : Df K "step" "step" s_step A.f_step ["place", "direction"]
  g_step : mg "step" = some (.ref A.f_step)
  d_Field_init : Df K "__init__" "Field.__init__" s_Field_init A.f_Field_init ["self", "nx", "ny", "nz", "numbers"]
  d_Field_value_at : Df K "value_at" "Field.value_at" s_Field_value_at A.f_Field_value_at ["self", "place"]
  m_Field_value_at : Meth K A.C_Field "value_at" A.f_Field_value_at
  d_Field_has_place : Df K "has_place" "Field.has_place" s_Field_has_place A.f_Field_has_place ["self", "place"]
  m_Field_has_place : Meth K A.C_Field "has_place" A.f_Field_has_place
  d_Field_has_way : Df K "has_way" "Field.has_way" s_Field_has_way A.f_Field_has_way ["self", "start", "direction"]
  m_Field_has_way : Meth K A.C_Field "has_way" A.f_Field_has_way
  d_Field_cubes : Df K "cubes" "Field.cubes" s_Field_cubes A.f_Field_cubes ["self"]
  m_Field_cubes : Meth K A.C_Field "cubes" A.f_Field_cubes
  d_triangles_by_point : Df K "triangles_by_point" "triangles_by_point" s_triangles_by_point A.f_triangles_by_point ["triangles"]
  g_triangles_by_point : mg "triangles_by_point" = some (.ref A.f_triangles_by_point)
  d_hanging_together : Df K "hanging_together" "hanging_together" s_hanging_together A.f_hanging_together ["first", "triangles", "holders"]
  g_hanging_together : mg "hanging_together" = some (.ref A.f_hanging_together)
  d_surface_pieces : Df K "surface_pieces" "surface_pieces" s_surface_pieces A.f_surface_pieces ["triangles"]
  g_surface_pieces : mg "surface_pieces" = some (.ref A.f_surface_pieces)
  d_piece_with : Df K "piece_with" "piece_with" s_piece_with A.f_piece_with ["pieces", "k"]
  g_piece_with : mg "piece_with" = some (.ref A.f_piece_with)
  d_sides_of : Df K "sides_of" "sides_of" s_sides_of A.f_sides_of ["triangle"]
  g_sides_of : mg "sides_of" = some (.ref A.f_sides_of)
  d_count_points : Df K "count_points" "count_points" s_count_points A.f_count_points ["piece", "triangles"]
  g_count_points : mg "count_points" = some (.ref A.f_count_points)
  d_triangles_by_side : Df K "triangles_by_side" "triangles_by_side" s_triangles_by_side A.f_triangles_by_side ["piece", "triangles"]
  g_triangles_by_side : mg "triangles_by_side" = some (.ref A.f_triangles_by_side)
  d_measure_piece : Df K "measure_piece" "measure_piece" s_measure_piece A.f_measure_piece ["piece", "triangles"]
  g_measure_piece : mg "measure_piece" = some (.ref A.f_measure_piece)
  d_is_even : Df K "is_even" "is_even" s_is_even A.f_is_even ["order"]
  g_is_even : mg "is_even" = some (.ref A.f_is_even)
  d_around_corner : Df K "around_corner" "around_corner" s_around_corner A.f_around_corner ["alone", "others", "turned"]
  g_around_corner : mg "around_corner" = some (.ref A.f_around_corner)
  d_between_pairs : Df K "between_pairs" "between_pairs" s_between_pairs A.f_between_pairs ["inside", "outside", "turned"]
  g_between_pairs : mg "between_pairs" = some (.ref A.f_between_pairs)
  d_parting_triangles : Df K "parting_triangles" "parting_triangles" s_parting_triangles A.f_parting_triangles ["inside", "outside", "turned"]
  g_parting_triangles : mg "parting_triangles" = some (.ref A.f_parting_triangles)
  d_point_between : Df K "point_between" "point_between" s_point_between A.f_point_between ["cube", "corners", "pair"]
  g_point_between : mg "point_between" = some (.ref A.f_point_between)
  d_tetrahedron_triangles : Df K "tetrahedron_triangles" "tetrahedron_triangles" s_tetrahedron_triangles A.f_tetrahedron_triangles ["field", "level", "cube", "tetrahedron"]
  g_tetrahedron_triangles : mg "tetrahedron_triangles" = some (.ref A.f_tetrahedron_triangles)
  d_surface_triangles : Df K "surface_triangles" "surface_triangles" s_surface_triangles A.f_surface_triangles ["field", "level"]
  g_surface_triangles : mg "surface_triangles" = some (.ref A.f_surface_triangles)
  d_is_cut : Df K "is_cut" "is_cut" s_is_cut A.f_is_cut ["first", "second", "level"]
  g_is_cut : mg "is_cut" = some (.ref A.f_is_cut)
  d_common_divisor : Df K "common_divisor" "common_divisor" s_common_divisor A.f_common_divisor ["larger", "smaller"]
  g_common_divisor : mg "common_divisor" = some (.ref A.f_common_divisor)
  d_part_of_way : Df K "part_of_way" "part_of_way" s_part_of_way A.f_part_of_way ["first", "second", "level"]
  g_part_of_way : mg "part_of_way" = some (.ref A.f_part_of_way)
  d_Body_init : Df K "__init__" "Body.__init__" s_Body_init A.f_Body_init ["self"]
  d_Body_begin : Df K "begin" "Body.begin" s_Body_begin A.f_Body_begin ["self"]
  m_Body_begin : Meth K A.C_Body "begin" A.f_Body_begin
  d_Body_lay_field : Df K "lay_field" "Body.lay_field" s_Body_lay_field A.f_Body_lay_field ["self", "nx", "ny", "nz", "numbers"]
  m_Body_lay_field : Meth K A.C_Body "lay_field" A.f_Body_lay_field
  d_Body_set_field : Df K "set_field" "Body.set_field" s_Body_set_field A.f_Body_set_field ["self", "field"]
  m_Body_set_field : Meth K A.C_Body "set_field" A.f_Body_set_field
  d_Body_cut : Df K "cut" "Body.cut" s_Body_cut A.f_Body_cut ["self", "level"]
  m_Body_cut : Meth K A.C_Body "cut" A.f_Body_cut
  d_Body_tell_triangle : Df K "tell_triangle" "Body.tell_triangle" s_Body_tell_triangle A.f_Body_tell_triangle ["self", "k"]
  m_Body_tell_triangle : Meth K A.C_Body "tell_triangle" A.f_Body_tell_triangle
  d_Body_tell_point : Df K "tell_point" "Body.tell_point" s_Body_tell_point A.f_Body_tell_point ["self", "x", "y", "z", "direction"]
  m_Body_tell_point : Meth K A.C_Body "tell_point" A.f_Body_tell_point
  d_Body_count_pieces : Df K "count_pieces" "Body.count_pieces" s_Body_count_pieces A.f_Body_count_pieces ["self"]
  m_Body_count_pieces : Meth K A.C_Body "count_pieces" A.f_Body_count_pieces
  d_Body_tell_piece : Df K "tell_piece" "Body.tell_piece" s_Body_tell_piece A.f_Body_tell_piece ["self", "k"]
  m_Body_tell_piece : Meth K A.C_Body "tell_piece" A.f_Body_tell_piece
  d_Body_tell_hangs : Df K "tell_hangs" "Body.tell_hangs" s_Body_tell_hangs A.f_Body_tell_hangs ["self", "k"]
  m_Body_tell_hangs : Meth K A.C_Body "tell_hangs" A.f_Body_tell_hangs
  d_Reader_init : Df K "__init__" "Reader.__init__" s_Reader_init A.f_Reader_init ["self", "numbers"]
  d_Reader_has_more : Df K "has_more" "Reader.has_more" s_Reader_has_more A.f_Reader_has_more ["self"]
  m_Reader_has_more : Meth K A.C_Reader "has_more" A.f_Reader_has_more
  d_Reader_take : Df K "take" "Reader.take" s_Reader_take A.f_Reader_take ["self"]
  m_Reader_take : Meth K A.C_Reader "take" A.f_Reader_take
  d_Reader_take_row : Df K "take_row" "Reader.take_row" s_Reader_take_row A.f_Reader_take_row ["self"]
  m_Reader_take_row : Meth K A.C_Reader "take_row" A.f_Reader_take_row
  d_answer_call : Df K "answer_call" "answer_call" s_answer_call A.f_answer_call ["body", "reader"]
  g_answer_call : mg "answer_call" = some (.ref A.f_answer_call)
  d_answers : Df K "answers" "answers" s_answers A.f_answers ["calls"]
  g_answers : mg "answers" = some (.ref A.f_answers)
  g_Field : mg "Field" = some (.ref A.C_Field)
  c_Field : Cls K A.C_Field
  mk_Field : Mk K A.C_Field A.f_Field_init
  n_Field_nx : NoAttr K A.C_Field "nx"
  n_Field_ny : NoAttr K A.C_Field "ny"
  n_Field_nz : NoAttr K A.C_Field "nz"
  n_Field_numbers : NoAttr K A.C_Field "numbers"
  g_Body : mg "Body" = some (.ref A.C_Body)
  c_Body : Cls K A.C_Body
  mk_Body : Mk K A.C_Body A.f_Body_init
  n_Body_field : NoAttr K A.C_Body "field"
  n_Body_level : NoAttr K A.C_Body "level"
  n_Body_triangles : NoAttr K A.C_Body "triangles"
  n_Body_pieces : NoAttr K A.C_Body "pieces"
  g_Reader : mg "Reader" = some (.ref A.C_Reader)
  c_Reader : Cls K A.C_Reader
  mk_Reader : Mk K A.C_Reader A.f_Reader_init
  n_Reader_numbers : NoAttr K A.C_Reader "numbers"
  n_Reader_position : NoAttr K A.C_Reader "position"
  g_UnknownCall : mg "UnknownCall" = some (.ref A.C_UnknownCall)
  k_SMALLEST_SIZE : ∃ t, mg "SMALLEST_SIZE" = some (.int (2) t)
  k_LARGEST_SIZE : ∃ t, mg "LARGEST_SIZE" = some (.int (32) t)
  k_LOWEST_WAY : ∃ t, mg "LOWEST_WAY" = some (.int (1) t)
  k_HIGHEST_WAY : ∃ t, mg "HIGHEST_WAY" = some (.int (7) t)
  k_LOWEST_LEVEL : ∃ t, mg "LOWEST_LEVEL" = some (.int (-32767) t)
  k_HIGHEST_LEVEL : ∃ t, mg "HIGHEST_LEVEL" = some (.int (32768) t)
  k_DONE : ∃ t, mg "DONE" = some (.int (0) t)
  k_REFUSED : ∃ t, mg "REFUSED" = some (.int (-1) t)
  k_NO_LEVEL : ∃ t, mg "NO_LEVEL" = some (.int (-4) t)
  k_BEGIN : ∃ t, mg "BEGIN" = some (.int (0) t)
  k_FIELD : ∃ t, mg "FIELD" = some (.int (1) t)
  k_CUT : ∃ t, mg "CUT" = some (.int (2) t)
  k_TRIANGLE : ∃ t, mg "TRIANGLE" = some (.int (3) t)
  k_POINT : ∃ t, mg "POINT" = some (.int (4) t)
  k_COUNT : ∃ t, mg "COUNT" = some (.int (5) t)
  k_PIECE : ∃ t, mg "PIECE" = some (.int (6) t)
  k_HANGS : ∃ t, mg "HANGS" = some (.int (7) t)
  g_TETRAHEDRA : mg "TETRAHEDRA" = some (.ref A.t_TETRAHEDRA)
  b_len : mg "len" = none
  b_range : mg "range" = none
  b_min : mg "min" = none
  b_max : mg "max" = none
  b_abs : mg "abs" = none
  b_sorted : mg "sorted" = none
  b_list : mg "list" = none
  b_tuple : mg "tuple" = none
abbrev n_is_size : List Str := ["size"]
theorem sc_is_size : FnScope n_is_size ["size"] (defScope s_is_size) := ⟨rfl, rfl, rfl, by decide +kernel, rfl, by decide +kernel, by decide +kernel⟩
abbrev n_step : List Str := ["place", "direction"]
theorem sc_step : FnScope n_step ["place", "direction"] (defScope s_step) := ⟨rfl, rfl, rfl, by decide +kernel, rfl, by decide +kernel, by decide +kernel⟩
abbrev n_Field_init : List Str := ["self", "nx", "ny", "nz", "numbers"]
theorem sc_Field_init : FnScope n_Field_init ["self", "nx", "ny", "nz", "numbers"] (defScope s_Field_init) := ⟨rfl, rfl, rfl, by decide +kernel, rfl, by decide +kernel, by decide +kernel⟩
abbrev n_Field_value_at : List Str := ["self", "place"]
theorem sc_Field_value_at : FnScope n_Field_value_at ["self", "place"] (defScope s_Field_value_at) := ⟨rfl, rfl, rfl, by decide +kernel, rfl, by decide +kernel, by decide +kernel⟩
abbrev n_Field_has_place : List Str := ["self", "place"]
theorem sc_Field_has_place : FnScope n_Field_has_place ["self", "place"] (defScope s_Field_has_place) := ⟨rfl, rfl, rfl, by decide +kernel, rfl, by decide +kernel, by decide +kernel⟩
abbrev n_Field_has_way : List Str := ["self", "start", "direction"]
theorem sc_Field_has_way : FnScope n_Field_has_way ["self", "start", "direction"] (defScope s_Field_has_way) := ⟨rfl, rfl, rfl, by decide +kernel, rfl, by decide +kernel, by decide +kernel⟩
abbrev n_Field_cubes : List Str := ["self", "lowest", "z", "y", "x"]
theorem sc_Field_cubes : FnScope n_Field_cubes ["self"] (defScope s_Field_cubes) := ⟨rfl, rfl, rfl, by decide +kernel, rfl, by decide +kernel, by decide +kernel⟩
abbrev n_triangles_by_point : List Str := ["triangles", "holders", "k", "point"]
theorem sc_triangles_by_point : FnScope n_triangles_by_point ["triangles"] (defScope s_triangles_by_point) := ⟨rfl, rfl, rfl, by decide +kernel, rfl, by decide +kernel, by decide +kernel⟩
abbrev n_hanging_together : List Str := ["first", "triangles", "holders", "reached", "waiting", "k", "point", "other"]
theorem sc_hanging_together : FnScope n_hanging_together ["first", "triangles", "holders"] (defScope s_hanging_together) := ⟨rfl, rfl, rfl, by decide +kernel, rfl, by decide +kernel, by decide +kernel⟩
abbrev n_surface_pieces : List Str := ["triangles", "holders", "taken", "found", "k", "piece", "member"]
theorem sc_surface_pieces : FnScope n_surface_pieces ["triangles"] (defScope s_surface_pieces) := ⟨rfl, rfl, rfl, by decide +kernel, rfl, by decide +kernel, by decide +kernel⟩
abbrev n_piece_with : List Str := ["pieces", "k", "number"]
theorem sc_piece_with : FnScope n_piece_with ["pieces", "k"] (defScope s_piece_with) := ⟨rfl, rfl, rfl, by decide +kernel, rfl, by decide +kernel, by decide +kernel⟩
abbrev n_sides_of : List Str := ["triangle", "sides", "at", "before", "behind"]
theorem sc_sides_of : FnScope n_sides_of ["triangle"] (defScope s_sides_of) := ⟨rfl, rfl, rfl, by decide +kernel, rfl, by decide +kernel, by decide +kernel⟩
abbrev n_count_points : List Str := ["piece", "triangles", "points", "k", "point"]
theorem sc_count_points : FnScope n_count_points ["piece", "triangles"] (defScope s_count_points) := ⟨rfl, rfl, rfl, by decide +kernel, rfl, by decide +kernel, by decide +kernel⟩
abbrev n_triangles_by_side : List Str := ["piece", "triangles", "holders", "k", "side"]
theorem sc_triangles_by_side : FnScope n_triangles_by_side ["piece", "triangles"] (defScope s_triangles_by_side) := ⟨rfl, rfl, rfl, by decide +kernel, rfl, by decide +kernel, by decide +kernel⟩
abbrev n_measure_piece : List Str := ["piece", "triangles", "holders", "rim", "side"]
theorem sc_measure_piece : FnScope n_measure_piece ["piece", "triangles"] (defScope s_measure_piece) := ⟨rfl, rfl, rfl, by decide +kernel, rfl, by decide +kernel, by decide +kernel⟩
abbrev n_is_even : List Str := ["order", "wrong", "first", "second"]
theorem sc_is_even : FnScope n_is_even ["order"] (defScope s_is_even) := ⟨rfl, rfl, rfl, by decide +kernel, rfl, by decide +kernel, by decide +kernel⟩
abbrev n_around_corner : List Str := ["alone", "others", "turned", "a", "b", "e"]
theorem sc_around_corner : FnScope n_around_corner ["alone", "others", "turned"] (defScope s_around_corner) := ⟨rfl, rfl, rfl, by decide +kernel, rfl, by decide +kernel, by decide +kernel⟩
abbrev n_between_pairs : List Str := ["inside", "outside", "turned", "i", "j", "k", "m"]
theorem sc_between_pairs : FnScope n_between_pairs ["inside", "outside", "turned"] (defScope s_between_pairs) := ⟨rfl, rfl, rfl, by decide +kernel, rfl, by decide +kernel, by decide +kernel⟩
abbrev n_parting_triangles : List Str := ["inside", "outside", "turned"]
theorem sc_parting_triangles : FnScope n_parting_triangles ["inside", "outside", "turned"] (defScope s_parting_triangles) := ⟨rfl, rfl, rfl, by decide +kernel, rfl, by decide +kernel, by decide +kernel⟩
abbrev n_point_between : List Str := ["cube", "corners", "pair", "low", "high", "start"]
theorem sc_point_between : FnScope n_point_between ["cube", "corners", "pair"] (defScope s_point_between) := ⟨rfl, rfl, rfl, by decide +kernel, rfl, by decide +kernel, by decide +kernel⟩
abbrev n_tetrahedron_triangles : List Str := ["field", "level", "cube", "tetrahedron", "corners", "turned", "inside", "outside", "corner", "found", "pairs", "pair"]
theorem sc_tetrahedron_triangles : FnScope n_tetrahedron_triangles ["field", "level", "cube", "tetrahedron"] (defScope s_tetrahedron_triangles) := ⟨rfl, rfl, rfl, by decide +kernel, rfl, by decide +kernel, by decide +kernel⟩
abbrev n_surface_triangles : List Str := ["field", "level", "found", "cube", "tetrahedron"]
theorem sc_surface_triangles : FnScope n_surface_triangles ["field", "level"] (defScope s_surface_triangles) := ⟨rfl, rfl, rfl, by decide +kernel, rfl, by decide +kernel, by decide +kernel⟩
abbrev n_is_cut : List Str := ["first", "second", "level"]
theorem sc_is_cut : FnScope n_is_cut ["first", "second", "level"] (defScope s_is_cut) := ⟨rfl, rfl, rfl, by decide +kernel, rfl, by decide +kernel, by decide +kernel⟩
abbrev n_common_divisor : List Str := ["larger", "smaller", "rest"]
theorem sc_common_divisor : FnScope n_common_divisor ["larger", "smaller"] (defScope s_common_divisor) := ⟨rfl, rfl, rfl, by decide +kernel, rfl, by decide +kernel, by decide +kernel⟩
abbrev n_part_of_way : List Str := ["first", "second", "level", "gone", "whole", "divisor"]
theorem sc_part_of_way : FnScope n_part_of_way ["first", "second", "level"] (defScope s_part_of_way) := ⟨rfl, rfl, rfl, by decide +kernel, rfl, by decide +kernel, by decide +kernel⟩
abbrev n_Body_init : List Str := ["self"]
theorem sc_Body_init : FnScope n_Body_init ["self"] (defScope s_Body_init) := ⟨rfl, rfl, rfl, by decide +kernel, rfl, by decide +kernel, by decide +kernel⟩
abbrev n_Body_begin : List Str := ["self"]
theorem sc_Body_begin : FnScope n_Body_begin ["self"] (defScope s_Body_begin) := ⟨rfl, rfl, rfl, by decide +kernel, rfl, by decide +kernel, by decide +kernel⟩
abbrev n_Body_lay_field : List Str := ["self", "nx", "ny", "nz", "numbers"]
theorem sc_Body_lay_field : FnScope n_Body_lay_field ["self", "nx", "ny", "nz", "numbers"] (defScope s_Body_lay_field) := ⟨rfl, rfl, rfl, by decide +kernel, rfl, by decide +kernel, by decide +kernel⟩
abbrev n_Body_set_field : List Str := ["self", "field"]
theorem sc_Body_set_field : FnScope n_Body_set_field ["self", "field"] (defScope s_Body_set_field) := ⟨rfl, rfl, rfl, by decide +kernel, rfl, by decide +kernel, by decide +kernel⟩
abbrev n_Body_cut : List Str := ["self", "level"]
theorem sc_Body_cut : FnScope n_Body_cut ["self", "level"] (defScope s_Body_cut) := ⟨rfl, rfl, rfl, by decide +kernel, rfl, by decide +kernel, by decide +kernel⟩
abbrev n_Body_tell_triangle : List Str := ["self", "k", "told", "point"]
theorem sc_Body_tell_triangle : FnScope n_Body_tell_triangle ["self", "k"] (defScope s_Body_tell_triangle) := ⟨rfl, rfl, rfl, by decide +kernel, rfl, by decide +kernel, by decide +kernel⟩
abbrev n_Body_tell_point : List Str := ["self", "x", "y", "z", "direction", "start", "first", "second"]
theorem sc_Body_tell_point : FnScope n_Body_tell_point ["self", "x", "y", "z", "direction"] (defScope s_Body_tell_point) := ⟨rfl, rfl, rfl, by decide +kernel, rfl, by decide +kernel, by decide +kernel⟩
abbrev n_Body_count_pieces : List Str := ["self"]
theorem sc_Body_count_pieces : FnScope n_Body_count_pieces ["self"] (defScope s_Body_count_pieces) := ⟨rfl, rfl, rfl, by decide +kernel, rfl, by decide +kernel, by decide +kernel⟩
abbrev n_Body_tell_piece : List Str := ["self", "k"]
theorem sc_Body_tell_piece : FnScope n_Body_tell_piece ["self", "k"] (defScope s_Body_tell_piece) := ⟨rfl, rfl, rfl, by decide +kernel, rfl, by decide +kernel, by decide +kernel⟩
abbrev n_Body_tell_hangs : List Str := ["self", "k", "number"]
theorem sc_Body_tell_hangs : FnScope n_Body_tell_hangs ["self", "k"] (defScope s_Body_tell_hangs) := ⟨rfl, rfl, rfl, by decide +kernel, rfl, by decide +kernel, by decide +kernel⟩
abbrev n_Reader_init : List Str := ["self", "numbers"]
theorem sc_Reader_init : FnScope n_Reader_init ["self", "numbers"] (defScope s_Reader_init) := ⟨rfl, rfl, rfl, by decide +kernel, rfl, by decide +kernel, by decide +kernel⟩
abbrev n_Reader_has_more : List Str := ["self"]
theorem sc_Reader_has_more : FnScope n_Reader_has_more ["self"] (defScope s_Reader_has_more) := ⟨rfl, rfl, rfl, by decide +kernel, rfl, by decide +kernel, by decide +kernel⟩
abbrev n_Reader_take : List Str := ["self", "number"]
theorem sc_Reader_take : FnScope n_Reader_take ["self"] (defScope s_Reader_take) := ⟨rfl, rfl, rfl, by decide +kernel, rfl, by decide +kernel, by decide +kernel⟩
abbrev n_Reader_take_row : List Str := ["self", "length", "end", "row"]
theorem sc_Reader_take_row : FnScope n_Reader_take_row ["self"] (defScope s_Reader_take_row) := ⟨rfl, rfl, rfl, by decide +kernel, rfl, by decide +kernel, by decide +kernel⟩
abbrev n_answer_call : List Str := ["body", "reader", "call", "nx", "ny", "nz", "x", "y", "z"]
theorem sc_answer_call : FnScope n_answer_call ["body", "reader"] (defScope s_answer_call) := ⟨rfl, rfl, rfl, by decide +kernel, rfl, by decide +kernel, by decide +kernel⟩
abbrev n_answers : List Str := ["calls", "body", "reader", "told", "answer"]
theorem sc_answers : FnScope n_answers ["calls"] (defScope s_answers) := ⟨rfl, rfl, rfl, by decide +kernel, rfl, by decide +kernel, by decide +kernel⟩
section
variable {P : Program} {w : World} {K : PySem.W.Frag} {mg : Str → Option Value} {base : Heap}
theorem Df.prom {x qual : Str} {st : Stmt} {f : Addr} {N ps : List Str} {k : Nat} {sp : Sp} (D : Df K x qual st f ps) (S : FnScope N ps (defScope st)) (len : ∀ vs H Q E, sp vs H Q E → vs.length = ps.length)
    (hbody : ∀ (cdv : Value) (A : Around) (outer : List Env) (s : Shared) (H : Hp) (vs : List V) (Q : VK) (E : XK), Room k (A.deeper (envOfC qual (defScope st) s.heap.objs.size f cdv)) → sp vs H Q E →
      ∃ t, PSs (cxOf CX0 P w K mg base N qual (defScope st) f cdv A outer s H E).nox (defBody st) t ∧ t { nx := fun _ H' => Q .non H', rt := Q } (start N vs) H) : Prom P w K mg base (k + 1) f ps sp := by
  obtain ⟨fd, F, b⟩ := D
  exact ⟨fd, F.ok S len hbody, b, F.kp⟩
end
end Fs
end
section
set_option Elab.async false
set_option linter.all false
set_option maxRecDepth 100000
set_option maxHeartbeats 4000001
namespace Fs
open PySem PySem.Spec PyProof.Rows L2
open PySem.W (WData)
section
variable {K : PySem.W.Frag} {H H' : Hp}
theorem same_refl : Same H H := fun _ _ e => e
theorem same_new {p : Addr} {o : HO} (h : H p = none) : Same H (upd H p o) := fun b u e => by
  rw [upd_ne (ne_of_none e h)]
  exact e
theorem same_tup {a : Addr} {xs : List V} (e : Same H H') (h : SqT K H a xs) : SqT K H' a xs := by
  rcases h with (h | ⟨o, h⟩) | h
  · exact .inl (.inl (e _ _ h))
  · exact .inl (.inr ⟨o, e _ _ h⟩)
  · exact .inr h
def Tups (H H' : Hp) : Prop := ∀ b xs, (H b = some (.tup xs) → H' b = some (.tup xs)) ∧ ∀ o, H b = some (.frz o (.tup xs)) → H' b = some (.frz o (.tup xs))
theorem Tups.of (e : Same H H') : Tups H H' := fun b xs => ⟨e b _, fun o => e b _⟩
theorem Tups.trans {H1 : Hp} (a : Tups H H') (b : Tups H' H1) : Tups H H1 := fun c xs => ⟨fun h => (b c xs).1 ((a c xs).1 h), fun o h => (b c xs).2 o ((a c xs).2 o h)⟩
def NoTup : Option HO → Prop
  | some (.tup _) => False
  | some (.frz _ (.tup _)) => False
  | _ => True
theorem Tups.upd {l : Addr} {o : HO} (h : NoTup (H l)) : Tups H (upd H l o) := fun b xs => ⟨fun e => by
    by_cases q : b = l
    · subst q
      rw [e] at h
      exact h.elim
    · rw [upd_ne q]
      exact e, fun u e => by
    by_cases q : b = l
    · subst q
      rw [e] at h
      exact h.elim
    · rw [upd_ne q]
      exact e⟩
theorem Tups.updL {l : Addr} {ys : List V} {o : HO} (h : H l = some (.lst ys)) : Tups H (L2.upd H l o) := Tups.upd (by rw [h]; exact trivial)
theorem Tups.updN {l : Addr} {o : HO} (h : H l = none) : Tups H (L2.upd H l o) := Tups.upd (by rw [h]; exact trivial)
inductive Dat where
  | bl (b : Bool)
  | int (i : Int)
  | tup (ds : List Dat)
mutual
inductive Im (K : PySem.W.Frag) (H : Hp) : V → Dat → Prop
  | bl (b : Bool) : Im K H (.bl b) (.bl b)
  | int (i : Int) : Im K H (.int i) (.int i)
  | tup {a : Addr} {xs : List V} {ds : List Dat} : SqT K H a xs → ImAll K H xs ds → Im K H (.ref a) (.tup ds)
inductive ImAll (K : PySem.W.Frag) (H : Hp) : List V → List Dat → Prop
  | nil : ImAll K H [] []
  | cons {v : V} {vs : List V} {d : Dat} {ds : List Dat} : Im K H v d → ImAll K H vs ds → ImAll K H (v :: vs) (d :: ds)
end
theorem tups_sq {a : Addr} {xs : List V} (e : Tups H H') (h : SqT K H a xs) : SqT K H' a xs := by
  rcases h with (h | ⟨o, h⟩) | h
  · exact .inl (.inl ((e _ _).1 h))
  · exact .inl (.inr ⟨o, (e _ _).2 o h⟩)
  · exact .inr h
mutual
theorem im_keep (e : Tups H H') : ∀ {v : V} {d : Dat}, Im K H v d → Im K H' v d
  | _, _, .bl b => .bl b
  | _, _, .int i => .int i
  | _, _, .tup h r => .tup (tups_sq e h) (imAll_keep e r)
theorem imAll_keep (e : Tups H H') : ∀ {vs : List V} {ds : List Dat}, ImAll K H vs ds → ImAll K H' vs ds
  | _, _, .nil => .nil
  | _, _, .cons h r => .cons (im_keep e h) (imAll_keep e r)
end
theorem im_same (e : Same H H') {v : V} {d : Dat} (h : Im K H v d) : Im K H' v d := im_keep (Tups.of e) h
theorem imAll_snoc {v : V} {d : Dat} (h : Im K H v d) : ∀ {vs : List V} {ds : List Dat}, ImAll K H vs ds → ImAll K H (vs ++ [v]) (ds ++ [d])
  | _, _, .nil => .cons h .nil
  | _, _, .cons g r => .cons g (imAll_snoc h r)
theorem imAll_len : ∀ {vs : List V} {ds : List Dat}, ImAll K H vs ds → vs.length = ds.length
  | _, _, .nil => rfl
  | _, _, .cons _ r => congrArg Nat.succ (imAll_len r)
theorem imAll_get : ∀ {vs : List V} {ds : List Dat} {i : Nat} {v : V}, ImAll K H vs ds → vs[i]? = some v → ∃ d, ds[i]? = some d ∧ Im K H v d
  | _, _, _, _, .nil, e => by simp at e
  | _, _, 0, _, .cons g _, e => by simp at e; subst e; exact ⟨_, rfl, g⟩
  | _, _, i + 1, v, .cons _ r, e => by
    obtain ⟨d, h1, h2⟩ := imAll_get (i := i) (v := v) r (by simpa using e)
    exact ⟨d, by simpa using h1, h2⟩
theorem im_tup {v : V} {ds : List Dat} (h : Im K H v (.tup ds)) : ∃ a xs, v = .ref a ∧ SqT K H a xs ∧ ImAll K H xs ds := by
  cases h with
  | tup h r => exact ⟨_, _, rfl, h, r⟩
theorem im_int {v : V} {i : Int} (h : Im K H v (.int i)) : v = .int i := by
  cases h
  rfl
theorem im_bl {v : V} {b : Bool} (h : Im K H v (.bl b)) : v = .bl b := by
  cases h
  rfl
theorem im_ints : ∀ ns : List Int, ImAll K H (ns.map V.int) (ns.map Dat.int)
  | [] => .nil
  | n :: r => .cons (.int n) (im_ints r)
theorem ints_im : ∀ (ns : List Int) (xs : List V), ImAll K H xs (ns.map Dat.int) → xs = ns.map V.int
  | [], xs, h => by
    cases h
    rfl
  | n :: r, xs, h => by
    cases h with
    | cons h1 h2 =>
      rw [im_int h1, ints_im r _ h2]
      rfl
mutual
inductive Is (H : Hp) : V → Dat → Prop
  | bl (b : Bool) : Is H (.bl b) (.bl b)
  | int (i : Int) : Is H (.int i) (.int i)
  | tup {a : Addr} {xs : List V} {ds : List Dat} : H a = some (.tup xs) → IsAll H xs ds → Is H (.ref a) (.tup ds)
inductive IsAll (H : Hp) : List V → List Dat → Prop
  | nil : IsAll H [] []
  | cons {v : V} {vs : List V} {d : Dat} {ds : List Dat} : Is H v d → IsAll H vs ds → IsAll H (v :: vs) (d :: ds)
end
mutual
theorem is_keep (e : Tups H H') : ∀ {v : V} {d : Dat}, Is H v d → Is H' v d
  | _, _, .bl b => .bl b
  | _, _, .int i => .int i
  | _, _, .tup h r => .tup ((e _ _).1 h) (isAll_keep e r)
theorem isAll_keep (e : Tups H H') : ∀ {vs : List V} {ds : List Dat}, IsAll H vs ds → IsAll H' vs ds
  | _, _, .nil => .nil
  | _, _, .cons h r => .cons (is_keep e h) (isAll_keep e r)
end
mutual
theorem is_im : ∀ {v : V} {d : Dat}, Is H v d → Im K H v d
  | _, _, .bl b => .bl b
  | _, _, .int i => .int i
  | _, _, .tup h r => .tup (SqT.of h) (isAll_im r)
theorem isAll_im : ∀ {vs : List V} {ds : List Dat}, IsAll H vs ds → ImAll K H vs ds
  | _, _, .nil => .nil
  | _, _, .cons h r => .cons (is_im h) (isAll_im r)
end
theorem isAll_snoc {v : V} {d : Dat} (h : Is H v d) : ∀ {vs : List V} {ds : List Dat}, IsAll H vs ds → IsAll H (vs ++ [v]) (ds ++ [d])
  | _, _, .nil => .cons h .nil
  | _, _, .cons g r => .cons g (isAll_snoc h r)
theorem isAll_append : ∀ {vs : List V} {ds : List Dat} {us : List V} {es : List Dat}, IsAll H vs ds → IsAll H us es → IsAll H (vs ++ us) (ds ++ es)
  | _, _, _, _, .nil, s => s
  | _, _, _, _, .cons g r, s => .cons g (isAll_append r s)
theorem isAll_len : ∀ {vs : List V} {ds : List Dat}, IsAll H vs ds → vs.length = ds.length
  | _, _, .nil => rfl
  | _, _, .cons _ r => congrArg Nat.succ (isAll_len r)
theorem isAll_at : ∀ {vs : List V} {ds : List Dat} {i : Nat} {d : Dat}, IsAll H vs ds → ds[i]? = some d → ∃ v, vs[i]? = some v ∧ Is H v d
  | _, _, _, _, .nil, e => by simp at e
  | _, _, 0, _, .cons g _, e => by simp at e; subst e; exact ⟨_, rfl, g⟩
  | _, _, i + 1, d, .cons _ r, e => by
    obtain ⟨v, h1, h2⟩ := isAll_at (i := i) (d := d) r (by simpa using e)
    exact ⟨v, by simpa using h1, h2⟩
theorem isAll_get : ∀ {vs : List V} {ds : List Dat} {i : Nat} {v : V}, IsAll H vs ds → vs[i]? = some v → ∃ d, ds[i]? = some d ∧ Is H v d
  | _, _, _, _, .nil, e => by simp at e
  | _, _, 0, _, .cons g _, e => by simp at e; subst e; exact ⟨_, rfl, g⟩
  | _, _, i + 1, v, .cons _ r, e => by
    obtain ⟨d, h1, h2⟩ := isAll_get (i := i) (v := v) r (by simpa using e)
    exact ⟨d, by simpa using h1, h2⟩
theorem is_ints : ∀ ns : List Int, IsAll H (ns.map V.int) (ns.map Dat.int)
  | [] => .nil
  | n :: r => .cons (.int n) (is_ints r)
abbrev tI (ns : List Int) : Dat := .tup (ns.map Dat.int)
theorem im_tI {v : V} {ns : List Int} (h : Im K H v (tI ns)) : ∃ a, v = .ref a ∧ SqT K H a (ns.map V.int) := by
  obtain ⟨a, xs, rfl, h, r⟩ := im_tup h
  have e := ints_im ns xs r
  subst e
  exact ⟨a, rfl, h⟩
theorem tI_im {a : Addr} {ns : List Int} (h : SqT K H a (ns.map V.int)) : Im K H (.ref a) (tI ns) := .tup h (im_ints ns)
theorem tI_is {a : Addr} {ns : List Int} (h : H a = some (.tup (ns.map V.int))) : Is H (.ref a) (tI ns) := .tup h (is_ints ns)
theorem is_tI {v : V} {ns : List Int} (h : Is H v (tI ns)) : ∃ a, v = .ref a ∧ H a = some (.tup (ns.map V.int)) := by
  cases h with
  | tup h r =>
    have e := ints_im (K := []) ns _ (isAll_im r)
    subst e
    exact ⟨_, rfl, h⟩
theorem is_tup {v : V} {ds : List Dat} (h : Is H v (.tup ds)) : ∃ a xs, v = .ref a ∧ H a = some (.tup xs) ∧ IsAll H xs ds := by
  cases h with
  | tup h r => exact ⟨_, _, rfl, h, r⟩
theorem at0 {x : V} {xs : List V} : atI (x :: xs) 0 = some x := at_of (j := 0) rfl rfl
theorem at1 {x y : V} {xs : List V} : atI (x :: y :: xs) 1 = some y := at_of (j := 1) rfl rfl
theorem at2 {x y z : V} {xs : List V} : atI (x :: y :: z :: xs) 2 = some z := at_of (j := 2) rfl rfl
theorem small_line {n : Nat} (h : n ≤ 100000) : n ≤ sizeLine := by
  rw [sizeLine_eq]
  omega
theorem small_line' {n : Nat} (h : n < 100000) : n < sizeLine := by
  rw [sizeLine_eq]
  omega
end
structure FieldAt (A : Ad) (H : Hp) (a : Addr) (f : Rc29.Field) : Prop where
  ex : ∃ (dx l : Addr) (fs : List (Str × V)), H a = some (.ins A.C_Field dx fs) ∧ fs.lookup ("nx" : Str) = some (.int f.nx) ∧ fs.lookup ("ny" : Str) = some (.int f.ny) ∧ fs.lookup ("nz" : Str) = some (.int f.nz) ∧ fs.lookup ("numbers" : Str) = some (.ref l) ∧
    (∀ m : Str, m ≠ "nx" → m ≠ "ny" → m ≠ "nz" → m ≠ "numbers" → fs.lookup m = none) ∧ H l = some (.lst (f.values.map V.int))
  bx : 2 ≤ f.nx ∧ f.nx ≤ 32
  bY : 2 ≤ f.ny ∧ f.ny ≤ 32
  bz : 2 ≤ f.nz ∧ f.nz ≤ 32
  len : f.values.length = f.nx * f.ny * f.nz
theorem FieldAt.same {A : Ad} {H H' : Hp} {a : Addr} {f : Rc29.Field} (F : FieldAt A H a f) (e : Same H H') : FieldAt A H' a f := by
  obtain ⟨dx, l, fs, h1, h2, h3, h4, h5, h6, h7⟩ := F.ex
  exact ⟨⟨dx, l, fs, e _ _ h1, h2, h3, h4, h5, h6, e _ _ h7⟩, F.bx, F.bY, F.bz, F.len⟩
def sp_is_size : Sp := fun vs H Q _ => ∃ n : Int, vs = [.int n] ∧ Q (.bl (decide (2 ≤ n ∧ n ≤ 32))) H
def sp_step (K : PySem.W.Frag) : Sp := fun vs H Q _ => ∃ (v : V) (x y z d : Int), vs = [v, .int d] ∧ Im K H v (tI [x, y, z]) ∧
  ∀ (p : V) (H' : Hp), Same H H' → Im K H' p (tI [x + d % 2, y + d / 2 % 2, z + d / 4 % 2]) → Q p H'
def sp_value_at (K : PySem.W.Frag) (A : Ad) : Sp := fun vs H Q _ => ∃ (a : Addr) (v : V) (f : Rc29.Field) (p : Rc29.P), vs = [.ref a, v] ∧ FieldAt A H a f ∧ Im K H v (tI [p.x, p.y, p.z]) ∧ p.x < f.nx ∧ p.y < f.ny ∧ p.z < f.nz ∧ Q (.int (f.at_ p)) H
section
variable {P : Program} {w : World} {K : PySem.W.Frag} {mg : Str → Option Value} {base : Heap} {A : Ad}
theorem ok_is_size (T : Txt K mg A) : Prom P w K mg base 1 A.f_is_size ["size"] sp_is_size := by
  obtain ⟨tk_SMALLEST_SIZE, hk_SMALLEST_SIZE⟩ := T.k_SMALLEST_SIZE
  obtain ⟨tk_LARGEST_SIZE, hk_LARGEST_SIZE⟩ := T.k_LARGEST_SIZE
  refine T.d_is_size.prom sc_is_size (fun vs H Q E h => ?_) (fun cdv A' outer s H vs Q E hr h => ?_)
  · obtain ⟨n, rfl, _⟩ := h
    rfl
  · obtain ⟨n, rfl, k⟩ := h
    refine ⟨_, (pss_one (ps_ret (pe_chain op_le op_le (pe_glob (v := V.int (2)) rfl hk_SMALLEST_SIZE ⟨_, rfl⟩) (pv 0) (pe_glob (v := V.int (32)) rfl hk_LARGEST_SIZE ⟨_, rfl⟩)))), ?_⟩
    refine ⟨_, rfl, _, _, rfl, rfl, _, rfl, ?_⟩
    by_cases h : (2 : Int) ≤ n
    · rw [decide_eq_true h]
      refine ⟨_, _, rfl, rfl, ?_⟩
      have e : decide (n ≤ 32) = decide (2 ≤ n ∧ n ≤ 32) := by simp [h]
      show Q (.bl (decide (n ≤ 32))) H
      rw [e]
      exact k
    · rw [decide_eq_false h]
      have e : decide (2 ≤ n ∧ n ≤ 32) = false := by simp; omega
      rw [e] at k
      exact k
theorem ok_step (T : Txt K mg A) : Prom P w K mg base 1 A.f_step ["place", "direction"] (sp_step K) := by
  skip
  refine T.d_step.prom sc_step (fun vs H Q E h => ?_) (fun cdv A' outer s H vs Q E hr h => ?_)
  · obtain ⟨v, x, y, z, d, rfl, _⟩ := h
    rfl
  · obtain ⟨v, x, y, z, d, rfl, hv, k⟩ := h
    obtain ⟨a, rfl, ha⟩ := im_tI hv
    refine ⟨_, (pss_one (ps_ret (pe_tup (pa_cons (pe_op op_add (pe_ix ix_tup (pv 0) pe_int (fun _ _ => rfl)) (pe_op op_mod (pv 1) pe_int)) (pa_cons (pe_op op_add (pe_ix ix_tup (pv 0) pe_int (fun _ _ => rfl)) (pe_op op_mod (pe_op op_fdiv (pv 1) pe_int) pe_int)) (pa_cons (pe_op op_add (pe_ix ix_tup (pv 0) pe_int (fun _ _ => rfl)) (pe_op op_mod (pe_op op_fdiv (pv 1) pe_int) pe_int)) pa_nil)))))), ?_⟩
    refine ⟨_, rfl, a, _, _, _, rfl, rfl, ha, at0, _, rfl, _, _, rfl, rfl, (by show (0 : Int) < 2; decide), _, _, rfl, rfl, ?_⟩
    refine ⟨_, rfl, a, _, _, _, rfl, rfl, ha, at1, _, rfl, _, _, rfl, rfl, ⟨by decide, by decide⟩, _, _, rfl, rfl, (by show (0 : Int) < 2; decide), _, _, rfl, rfl, ?_⟩
    refine ⟨_, rfl, a, _, _, _, rfl, rfl, ha, at2, _, rfl, _, _, rfl, rfl, ⟨by decide, by decide⟩, _, _, rfl, rfl, (by show (0 : Int) < 2; decide), _, _, rfl, rfl, ?_⟩
    refine ⟨small_line (by simp), fun p hp => ?_⟩
    exact k _ _ (same_new hp) (tI_im (SqT.of upd_same))
theorem ok_Field_value_at (T : Txt K mg A) : Prom P w K mg base 1 A.f_Field_value_at ["self", "place"] (sp_value_at K A) := by
  skip
  refine T.d_Field_value_at.prom sc_Field_value_at (fun vs H Q E h => ?_) (fun cdv A' outer s H vs Q E hr h => ?_)
  · obtain ⟨a, v, f, p, rfl, _⟩ := h
    rfl
  · obtain ⟨a, v, f, p, rfl, F, hv, hx, hy, hz, k⟩ := h
    obtain ⟨q, rfl, hq⟩ := im_tI hv
    obtain ⟨dx, l, fs, h1, h2, h3, h4, h5, h6, h7⟩ := F.ex
    have bx := F.bx
    have bY := F.bY
    have bz := F.bz
    have hlt : f.index p < f.values.length := by
      rw [F.len]
      unfold Rc29.Field.index
      have e1 : p.y + f.ny * p.z + 1 ≤ f.ny * f.nz := by
        have : f.ny * (p.z + 1) ≤ f.ny * f.nz := Nat.mul_le_mul_left _ hz
        rw [Nat.mul_add] at this
        omega
      have e2 : f.nx * (p.y + f.ny * p.z + 1) ≤ f.nx * (f.ny * f.nz) := Nat.mul_le_mul_left _ e1
      rw [Nat.mul_add, ← Nat.mul_assoc] at e2
      omega
    refine ⟨_, (pss_one (ps_ret (pe_ix ix_list (pe_fld (pv 0) rfl) (pe_op op_add (pe_ix ix_tup (pv 1) pe_int (fun _ _ => rfl)) (pe_op op_mul (pe_fld (pv 0) rfl) (pe_op op_add (pe_ix ix_tup (pv 1) pe_int (fun _ _ => rfl)) (pe_op op_mul (pe_fld (pv 0) rfl) (pe_ix ix_tup (pv 1) pe_int (fun _ _ => rfl)))))) (fun _ _ => rfl)))), ?_⟩
    refine ⟨_, rfl, a, A.C_Field, dx, fs, _, rfl, h1, T.c_Field, T.n_Field_numbers, h5, ?_⟩
    refine ⟨_, rfl, q, _, _, _, rfl, rfl, hq, at0, ?_⟩
    refine ⟨_, rfl, a, A.C_Field, dx, fs, _, rfl, h1, T.c_Field, T.n_Field_nx, h2, ?_⟩
    refine ⟨_, rfl, q, _, _, _, rfl, rfl, hq, at1, ?_⟩
    refine ⟨_, rfl, a, A.C_Field, dx, fs, _, rfl, h1, T.c_Field, T.n_Field_ny, h3, ?_⟩
    refine ⟨_, rfl, q, _, _, _, rfl, rfl, hq, at2, ?_⟩
    refine ⟨_, _, rfl, rfl, .inl ⟨by omega, by omega⟩, _, _, rfl, rfl, _, _, rfl, rfl, .inl ⟨by omega, by omega⟩, _, _, rfl, rfl, ?_⟩
    refine ⟨l, _, _, .int (f.at_ p), rfl, rfl, SqL.of h7, at_of (j := f.index p) ?_ ?_, k⟩
    · unfold Rc29.Field.index
      simp only [Int.natCast_add, Int.natCast_mul]
    · unfold Rc29.Field.at_
      rw [List.getElem?_map, List.getElem?_eq_getElem hlt, List.getD_eq_getElem?_getD, List.getElem?_eq_getElem hlt]
      rfl
end
end Fs
end
section
set_option Elab.async false
set_option linter.all false
set_option maxRecDepth 100000
set_option maxHeartbeats 4000001
namespace Fs
open PySem PySem.Spec PyProof.Rows L2
def encG (p : Rc29.P) : Dat := tI [p.x, p.y, p.z]
def rowC (z y : Nat) (n : Nat) : List Rc29.P := (List.range n).map fun x => ⟨x, y, z⟩
def layC (nx z : Nat) (n : Nat) : List Rc29.P := (List.range n).flatMap fun y => rowC z y (nx - 1)
def allC (nx ny : Nat) (n : Nat) : List Rc29.P := (List.range n).flatMap fun z => layC nx z (ny - 1)
theorem cubes_eq (f : Rc29.Field) : f.cubes = allC f.nx f.ny (f.nz - 1) := rfl
theorem rowC_succ (z y n : Nat) : rowC z y (n + 1) = rowC z y n ++ [⟨n, y, z⟩] := by
  unfold rowC
  rw [List.range_succ, List.map_append]
  rfl
theorem layC_succ (nx z n : Nat) : layC nx z (n + 1) = layC nx z n ++ rowC z n (nx - 1) := by
  unfold layC
  rw [List.range_succ, List.flatMap_append]
  simp
theorem allC_succ (nx ny n : Nat) : allC nx ny (n + 1) = allC nx ny n ++ layC nx n (ny - 1) := by
  unfold allC
  rw [List.range_succ, List.flatMap_append]
  simp
theorem rowC_len (z y n : Nat) : (rowC z y n).length = n := by
  unfold rowC
  rw [List.length_map, List.length_range]
theorem layC_len (nx z n : Nat) : (layC nx z n).length = n * (nx - 1) := by
  induction n with
  | zero => simp [layC]
  | succ n ih => rw [layC_succ, List.length_append, ih, rowC_len, Nat.succ_mul]
theorem allC_len (nx ny n : Nat) : (allC nx ny n).length = n * ((ny - 1) * (nx - 1)) := by
  induction n with
  | zero => simp [allC]
  | succ n ih => rw [allC_succ, List.length_append, ih, layC_len, Nat.succ_mul]
def LstAt (K : PySem.W.Frag) (H : Hp) (l : Addr) (ds : List Dat) : Prop := ∃ vs, H l = some (.lst vs) ∧ ImAll K H vs ds
theorem same_own {H H1 : Hp} {q : Addr} {o : HO} (e : Same H H1) (h : H q = none) : Same H (upd H1 q o) := fun b u z => by
  rw [upd_ne (ne_of_none z h)]
  exact e b u z
theorem LstAt.push {K : PySem.W.Frag} {H : Hp} {l : Addr} {vs : List V} {ds : List Dat} {v : V} {d : Dat} (h1 : H l = some (.lst vs)) (h2 : ImAll K H vs ds) (h3 : Im K H v d) : LstAt K (upd H l (.lst (vs ++ [v]))) l (ds ++ [d]) :=
  ⟨_, upd_same, imAll_keep (Tups.updL h1) (imAll_snoc h3 h2)⟩
def LstS (H : Hp) (l : Addr) (ds : List Dat) : Prop := ∃ vs, H l = some (.lst vs) ∧ IsAll H vs ds
theorem LstS.same {H H' : Hp} {l : Addr} {ds : List Dat} (h : LstS H l ds) (e : Same H H') : LstS H' l ds := by
  obtain ⟨vs, h1, h2⟩ := h
  exact ⟨vs, e _ _ h1, isAll_keep (Tups.of e) h2⟩
theorem LstS.push {H : Hp} {l : Addr} {vs : List V} {ds : List Dat} {v : V} {d : Dat} (h1 : H l = some (.lst vs)) (h2 : IsAll H vs ds) (h3 : Is H v d) : LstS (upd H l (.lst (vs ++ [v]))) l (ds ++ [d]) :=
  ⟨_, upd_same, isAll_keep (Tups.updL h1) (isAll_snoc h3 h2)⟩
theorem LstS.grow {H : Hp} {l : Addr} {vs us : List V} {ds es : List Dat} (h1 : H l = some (.lst vs)) (h2 : IsAll H vs ds) (h3 : IsAll H us es) : LstS (upd H l (.lst (vs ++ us))) l (ds ++ es) :=
  ⟨_, upd_same, isAll_keep (Tups.updL h1) (isAll_append h2 h3)⟩
def sp_cubes (K : PySem.W.Frag) (A : Ad) : Sp := fun vs H Q _ => ∃ (a : Addr) (f : Rc29.Field), vs = [.ref a] ∧ FieldAt A H a f ∧ ∀ (l : Addr) (H' : Hp), H l = none → Same H H' → LstAt K H' l (f.cubes.map encG) → Q (.ref l) H'
section
variable {P : Program} {w : World} {K : PySem.W.Frag} {mg : Str → Option Value} {base : Heap} {A : Ad}
theorem ok_Field_cubes (T : Txt K mg A) : Prom P w K mg base 1 A.f_Field_cubes ["self"] (sp_cubes K A) := by
  skip
  refine T.d_Field_cubes.prom sc_Field_cubes (fun vs H Q E h => ?_) (fun cdv A' outer s H vs Q E hr h => ?_)
  · obtain ⟨a, f, rfl, _⟩ := h
    rfl
  · obtain ⟨a, f, rfl, F, k⟩ := h
    obtain ⟨dx, l0, fs, h1, h2, h3, h4, h5, h6, h7⟩ := F.ex
    have bx := F.bx
    have bY := F.bY
    have bz := F.bz
    have ez : ((f.nz : Int) - 1).toNat = f.nz - 1 := by omega
    have ey : ((f.ny : Int) - 1).toNat = f.ny - 1 := by omega
    have ex : ((f.nx : Int) - 1).toNat = f.nx - 1 := by omega
    refine ⟨_, (pss_cons (ps_set (i := 1) sc_Field_cubes.nd rfl (Or.inl rfl) (pe_lst pa_nil))
      (pss_cons (ps_for PassesOwn.never rfl (pi_range1 rfl T.b_range (pa_cons (pe_op op_sub (pe_fld (pv 0) rfl) pe_int) pa_nil)) (pg_name (i := 2) sc_Field_cubes.nd rfl (Or.inl rfl)) (pss_one (ps_for PassesOwn.never rfl (pi_range1 rfl T.b_range (pa_cons (pe_op op_sub (pe_fld (pv 0) rfl) pe_int) pa_nil)) (pg_name (i := 3) sc_Field_cubes.nd rfl (Or.inl rfl)) (pss_one (ps_for PassesOwn.never rfl (pi_range1 rfl T.b_range (pa_cons (pe_op op_sub (pe_fld (pv 0) rfl) pe_int) pa_nil)) (pg_name (i := 4) sc_Field_cubes.nd rfl (Or.inl rfl)) (pss_one (ps_expr (pe_bm PySem.F.plainAttrs_list PySem.F.slot_list_append PySem.F.type_list_append mt_append (pv 1) (pa_cons (pe_tup (pa_cons (pv 4) (pa_cons (pv 3) (pa_cons (pv 2) pa_nil)))) pa_nil)))))))))
      (pss_one (ps_ret (pv 1))))), ?_⟩
    refine ⟨Nat.zero_le _, fun l hl => ?_⟩
    have s0 : Same H (upd H l (.lst [])) := same_new hl
    refine ⟨_, rfl, a, A.C_Field, dx, fs, _, rfl, s0 _ _ h1, T.c_Field, T.n_Field_nz, h4, _, _, rfl, rfl, (f.nz : Int) - 1, rfl, (by omega), (by omega),
      for_range (fun i σ H' => ∃ v2 v3 v4 : Option V, σ = [some (.ref a), some (.ref l), v2, v3, v4] ∧ Same H H' ∧ LstAt K H' l ((allC f.nx f.ny i).map encG)) ⟨none, none, none, rfl, s0, [], upd_same, .nil⟩ ?_ ?_⟩
    · rintro i σ H1 hi ⟨v2, v3, v4, rfl, s1, L1⟩
      refine ⟨_, rfl, a, A.C_Field, dx, fs, _, rfl, s1 _ _ h1, T.c_Field, T.n_Field_ny, h3, _, _, rfl, rfl, (f.ny : Int) - 1, rfl, (by omega), (by omega),
        for_range (fun j σ H' => ∃ v3 v4 : Option V, σ = [some (.ref a), some (.ref l), some (.int (0 + (i : Int))), v3, v4] ∧ Same H H' ∧ LstAt K H' l ((allC f.nx f.ny i ++ layC f.nx i j).map encG)) ⟨v3, v4, rfl, s1, by simpa [layC] using L1⟩ ?_ ?_⟩
      · rintro j σ H2 hj ⟨v3, v4, rfl, s2, L2⟩
        refine ⟨_, rfl, a, A.C_Field, dx, fs, _, rfl, s2 _ _ h1, T.c_Field, T.n_Field_nx, h2, _, _, rfl, rfl, (f.nx : Int) - 1, rfl, (by omega), (by omega),
          for_range (fun m σ H' => ∃ v4 : Option V, σ = [some (.ref a), some (.ref l), some (.int (0 + (i : Int))), some (.int (0 + (j : Int))), v4] ∧ Same H H' ∧ LstAt K H' l ((allC f.nx f.ny i ++ layC f.nx i j ++ rowC i j m).map encG)) ⟨v4, rfl, s2, by simpa [rowC] using L2⟩ ?_ ?_⟩
        · rintro m σ H3 hm ⟨v4, rfl, s3, vs, L3, r3⟩
          have hlen : vs.length < 100000 := by
            have e1 : (i : Nat) * ((f.ny - 1) * (f.nx - 1)) ≤ 31 * (31 * 31) := Nat.mul_le_mul (by omega) (Nat.mul_le_mul (by omega) (by omega))
            have e2 : (j : Nat) * (f.nx - 1) ≤ 31 * 31 := Nat.mul_le_mul (by omega) (by omega)
            rw [imAll_len r3, List.length_map, List.length_append, List.length_append, allC_len, layC_len, rowC_len]
            omega
          refine ⟨_, rfl, .inl ⟨rfl, _, SqL.of L3⟩, _, rfl, _, rfl, _, rfl, small_line (by simp), fun p hp => ?_⟩
          have ne : l ≠ p := ne_of_none L3 hp
          have L4 : (upd H3 p (.tup [.int (0 + (m : Int)), .int (0 + (j : Int)), .int (0 + (i : Int))])) l = some (.lst vs) := by rw [upd_ne ne]; exact L3
          refine ⟨l, vs, _, rfl, rfl, L4, small_line' hlen, ?_⟩
          refine ⟨_, rfl, same_own (s3.trans (same_new hp)) hl, ?_⟩
          rw [rowC_succ, ← List.append_assoc, List.map_append]
          refine LstAt.push L4 (imAll_keep (Tups.updN hp) r3) ?_
          have e : encG ⟨m, j, i⟩ = tI [0 + (m : Int), 0 + (j : Int), 0 + (i : Int)] := by
            unfold encG
            simp
          rw [e]
          exact tI_im (SqT.of upd_same)
        · rintro σ H3 ⟨v4, rfl, s3, L3⟩
          refine ⟨_, _, rfl, s3, ?_⟩
          rw [ex] at L3
          rw [layC_succ, ← List.append_assoc]
          exact L3
      · rintro σ H2 ⟨v3, v4, rfl, s2, L2⟩
        refine ⟨_, _, _, rfl, s2, ?_⟩
        rw [ey] at L2
        rw [allC_succ]
        exact L2
    · rintro σ H1 ⟨v2, v3, v4, rfl, s1, L1⟩
      rw [ez] at L1
      exact ⟨_, rfl, k l H1 hl s1 L1⟩
end
def wrongI (l : List Int) (f : Nat) : Nat → Int
  | 0 => 0
  | k + 1 => wrongI l f k + if l.getD (f + 1 + k) 0 < l.getD f 0 then 1 else 0
def wrongO (l : List Int) : Nat → Int
  | 0 => 0
  | i + 1 => wrongO l i + wrongI l i (l.length - (i + 1))
def evenP (l : List Int) : Bool := decide (wrongO l l.length % 2 = 0)
def sp_is_even (K : PySem.W.Frag) : Sp := fun vs H Q _ => ∃ (a : Addr) (l : List Int), vs = [.ref a] ∧ SqL K H a (l.map V.int) ∧ l.length ≤ 1000 ∧ Q (.bl (evenP l)) H
section
variable {P : Program} {w : World} {K : PySem.W.Frag} {mg : Str → Option Value} {base : Heap} {A : Ad}
theorem at_ints {l : List Int} {z : Int} {j : Nat} (e : z = (j : Int)) (h : j < l.length) : atI (l.map V.int) z = some (.int (l.getD j 0)) := by
  refine at_of e ?_
  rw [List.getElem?_map, List.getElem?_eq_getElem h, List.getD_eq_getElem?_getD, List.getElem?_eq_getElem h]
  rfl
theorem ok_is_even (T : Txt K mg A) : Prom P w K mg base 1 A.f_is_even ["order"] (sp_is_even K) := by
  skip
  refine T.d_is_even.prom sc_is_even (fun vs H Q E h => ?_) (fun cdv A' outer s H vs Q E hr h => ?_)
  · obtain ⟨a, l, rfl, _⟩ := h
    rfl
  · obtain ⟨a, l, rfl, ha, hl, k⟩ := h
    refine ⟨_, (pss_cons (ps_set (i := 1) sc_is_even.nd rfl (Or.inl rfl) pe_int)
      (pss_cons (ps_for PassesOwn.never rfl (pi_range1 rfl T.b_range (pa_cons (pe_callB call_len_seq (by rfl) T.b_len PySem.boot_len (pa_cons (pv 0) pa_nil)) pa_nil)) (pg_name (i := 2) sc_is_even.nd rfl (Or.inl rfl)) (pss_one (ps_for PassesOwn.never rfl (pi_range2 rfl T.b_range (pa_cons (pe_op op_add (pv 2) pe_int) (pa_cons (pe_callB call_len_seq (by rfl) T.b_len PySem.boot_len (pa_cons (pv 0) pa_nil)) pa_nil))) (pg_name (i := 3) sc_is_even.nd rfl (Or.inl rfl)) (pss_one (ps_if (pt_cmpR op_gt (pe_ix ix_list (pv 0) (pv 2) (fun _ _ => rfl)) (pe_ix ix_list (pv 0) (pv 3) (fun _ _ => rfl)) (nomark _)) (pss_one (ps_aug (i := 1) sc_is_even.nd rfl (Or.inl rfl) pe_int ip_add)) pss_nil)))))
      (pss_one (ps_ret (pe_cmpR op_eq (pe_op op_mod (pv 1) pe_int) pe_int (nomark _)))))), ?_⟩
    refine ⟨_, rfl, a, _, rfl, .inl ha, ((l.map V.int).length : Int), rfl, (by rw [List.length_map]; omega), (by rw [List.length_map]; omega),
      for_range (fun i σ H' => ∃ v2 v3 : Option V, σ = [some (.ref a), some (.int (wrongO l i)), v2, v3] ∧ H' = H) ⟨none, none, rfl, rfl⟩ ?_ ?_⟩
    · rintro i σ H1 hi ⟨v2, v3, rfl, rfl⟩
      have hi' : i < l.length := by rw [List.length_map] at hi; omega
      have en : (((l.map V.int).length : Int) - (0 + (i : Int) + 1)).toNat = l.length - (i + 1) := by rw [List.length_map]; omega
      refine ⟨_, rfl, _, _, rfl, rfl, _, rfl, a, _, rfl, .inl ha, 0 + (i : Int) + 1, ((l.map V.int).length : Int), rfl, (by rw [List.length_map]; omega),
        for_range (fun j σ H' => ∃ v3 : Option V, σ = [some (.ref a), some (.int (wrongO l i + wrongI l i j)), some (.int (0 + (i : Int))), v3] ∧ H' = H1) ⟨v3, (by rw [show wrongI l i 0 = 0 from rfl, Int.add_zero]; rfl), rfl⟩ ?_ ?_⟩
      · rintro j σ H2 hj ⟨v3, rfl, rfl⟩
        have hj' : i + 1 + j < l.length := by rw [en] at hj; omega
        refine ⟨_, rfl, _, rfl, a, _, _, _, rfl, rfl, ha, at_ints (j := i) (by omega) hi', _, rfl, _, rfl, a, _, _, _, rfl, rfl, ha, at_ints (j := i + 1 + j) (by omega) hj', _, _, rfl, rfl, _, rfl, ?_⟩
        refine ite2 (fun hc => ?_) (fun hc => ?_)
        · have hc := of_decide_eq_true hc
          refine ⟨_, rfl, _, _, rfl, rfl, some (.int (0 + (i : Int) + 1 + (j : Int))), ?_, rfl⟩
          show [some (.ref a), some (V.int (wrongO l i + wrongI l i j + 1)), some (.int (0 + (i : Int))), _] = _
          rw [show wrongI l i (j + 1) = wrongI l i j + 1 by show wrongI l i j + _ = _; rw [if_pos hc], Int.add_assoc]
        · have hc : ¬ l.getD (i + 1 + j) 0 < l.getD i 0 := fun z => hc (decide_eq_true z)
          refine ⟨some (.int (0 + (i : Int) + 1 + (j : Int))), ?_, rfl⟩
          show [some (.ref a), some (V.int (wrongO l i + wrongI l i j)), some (.int (0 + (i : Int))), _] = _
          rw [show wrongI l i (j + 1) = wrongI l i j by show wrongI l i j + _ = _; rw [if_neg hc, Int.add_zero]]
      · rintro σ H2 ⟨v3, rfl, rfl⟩
        rw [en]
        exact ⟨_, _, rfl, rfl⟩
    · rintro σ H1 ⟨v2, v3, rfl, rfl⟩
      refine ⟨_, rfl, _, _, rfl, rfl, (by show (0 : Int) < 2; decide), rfl, ?_⟩
      have e : decide (V.int (wrongO l (l.map V.int).length % 2) = V.int 0) = evenP l := by
        unfold evenP
        rw [List.length_map]
        by_cases z : wrongO l l.length % 2 = 0
        · rw [decide_eq_true z, z]
          exact decide_eq_true rfl
        · rw [decide_eq_false z]
          exact decide_eq_false fun q => z (V.int.inj q)
      show Q (.bl (decide (V.int (wrongO l (l.map V.int).length % 2) = V.int 0))) H1
      rw [e]
      exact k
end
end Fs
end
section
set_option Elab.async false
set_option linter.all false
set_option maxRecDepth 100000
set_option maxHeartbeats 4000001
namespace Fs
open PySem PySem.Spec PyProof.Rows L2
abbrev Tri2 := List (Nat × Nat)
def datP (l : Tri2) : Dat := .tup (l.map fun p => tI [(p.1 : Int), (p.2 : Int)])
def evN (l : List Nat) : Bool := evenP (l.map fun (n : Nat) => (n : Int))
def cornN (i a b e : Nat) (t : Bool) : Tri2 := if evN [i, a, b, e] = t then [(i, a), (i, b), (i, e)] else [(i, a), (i, e), (i, b)]
def pairN (i j k m : Nat) (t : Bool) : List Tri2 := if evN [i, j, k, m] = t then [[(i, k), (i, m), (j, m)], [(i, k), (j, m), (j, k)]] else [[(i, k), (j, m), (i, m)], [(i, k), (j, k), (j, m)]]
def partN (ins outs : List Nat) (t : Bool) : List Tri2 := match ins, outs with
  | [i], [a, b, e] => [cornN i a b e t]
  | [a, b, e], [o] => [cornN o a b e (!t)]
  | [i, j], [k, m] => pairN i j k m t
  | _, _ => []
abbrev vN (l : List Nat) : List V := l.map fun (n : Nat) => V.int (n : Int)
theorem vN_map (l : List Nat) : vN l = (l.map fun (n : Nat) => (n : Int)).map V.int := by
  simp [vN]
theorem bl_eq {x y : Bool} : (decide (V.bl x = V.bl y) = true) ↔ x = y := by
  constructor
  · intro h
    exact V.bl.inj (of_decide_eq_true h)
  · intro h
    exact decide_eq_true (by rw [h])
theorem int_eq {x y : Int} : (decide (V.int x = V.int y) = true) ↔ x = y := by
  constructor
  · intro h
    exact V.int.inj (of_decide_eq_true h)
  · intro h
    exact decide_eq_true (by rw [h])
theorem len1 {α : Type} : ∀ {l : List α}, l.length = 1 → ∃ a, l = [a]
  | [a], _ => ⟨a, rfl⟩
theorem len2 {α : Type} : ∀ {l : List α}, l.length = 2 → ∃ a b, l = [a, b]
  | [a, b], _ => ⟨a, b, rfl⟩
theorem len3 {α : Type} : ∀ {l : List α}, l.length = 3 → ∃ a b c, l = [a, b, c]
  | [a, b, c], _ => ⟨a, b, c, rfl⟩
section
variable {K : PySem.W.Frag} {H : Hp}
theorem three_new {p1 p2 p3 p4 : Addr} {a1 b1 a2 b2 a3 b3 : Nat} (h1 : H p1 = none) (h2 : (upd H p1 (.tup [.int a1, .int b1])) p2 = none) (h3 : (upd (upd H p1 (.tup [.int a1, .int b1])) p2 (.tup [.int a2, .int b2])) p3 = none)
    (h4 : (upd (upd (upd H p1 (.tup [.int a1, .int b1])) p2 (.tup [.int a2, .int b2])) p3 (.tup [.int a3, .int b3])) p4 = none) :
    Same H (upd (upd (upd (upd H p1 (.tup [.int a1, .int b1])) p2 (.tup [.int a2, .int b2])) p3 (.tup [.int a3, .int b3])) p4 (.tup [.ref p1, .ref p2, .ref p3])) ∧
      Im K (upd (upd (upd (upd H p1 (.tup [.int a1, .int b1])) p2 (.tup [.int a2, .int b2])) p3 (.tup [.int a3, .int b3])) p4 (.tup [.ref p1, .ref p2, .ref p3])) (.ref p4) (datP [(a1, b1), (a2, b2), (a3, b3)]) := by
  refine ⟨((((same_new h1).trans (same_new h2)).trans (same_new h3)).trans (same_new h4)), ?_⟩
  refine .tup (SqT.of upd_same) (.cons ?_ (.cons ?_ (.cons ?_ .nil)))
  · exact im_same (((same_new h2).trans (same_new h3)).trans (same_new h4)) (tI_im (ns := [(a1 : Int), (b1 : Int)]) (SqT.of upd_same))
  · exact im_same ((same_new h3).trans (same_new h4)) (tI_im (ns := [(a2 : Int), (b2 : Int)]) (SqT.of upd_same))
  · exact im_same (same_new h4) (tI_im (ns := [(a3 : Int), (b3 : Int)]) (SqT.of upd_same))
end
def sp_around (K : PySem.W.Frag) : Sp := fun vs H Q _ => ∃ (i a b e : Nat) (o : Addr) (t : Bool), vs = [.int i, .ref o, .bl t] ∧ SqL K H o (vN [a, b, e]) ∧ ∀ (v : V) (H' : Hp), Same H H' → Im K H' v (datP (cornN i a b e t)) → Q v H'
def sp_between (K : PySem.W.Frag) : Sp := fun vs H Q _ => ∃ (i j k m : Nat) (p q : Addr) (t : Bool), vs = [.ref p, .ref q, .bl t] ∧ SqL K H p (vN [i, j]) ∧ SqL K H q (vN [k, m]) ∧ ∀ (l : Addr) (H' : Hp), H l = none → Same H H' → LstAt K H' l ((pairN i j k m t).map datP) → Q (.ref l) H'
def sp_parting (K : PySem.W.Frag) : Sp := fun vs H Q _ => ∃ (ins outs : List Nat) (p q : Addr) (t : Bool), vs = [.ref p, .ref q, .bl t] ∧ SqL K H p (vN ins) ∧ SqL K H q (vN outs) ∧ ins.length + outs.length = 4 ∧ ∀ (l : Addr) (H' : Hp), H l = none → Same H H' → LstAt K H' l ((partN ins outs t).map datP) → Q (.ref l) H'
section
variable {P : Program} {w : World} {K : PySem.W.Frag} {mg : Str → Option Value} {base : Heap} {A : Ad}
theorem ok_around_corner (T : Txt K mg A) : Prom P w K mg base 2 A.f_around_corner ["alone", "others", "turned"] (sp_around K) := by
  obtain ⟨fd_is_even, G_is_even, b_is_even, kp_is_even⟩ := ok_is_even (P := P) (w := w) (base := base) T
  refine T.d_around_corner.prom sc_around_corner (fun vs H Q E h => ?_) (fun cdv A' outer s H vs Q E hr h => ?_)
  · obtain ⟨i, a, b, e, o, t, rfl, _⟩ := h
    rfl
  · obtain ⟨i, a, b, e, o, t, rfl, ho, k⟩ := h
    refine ⟨_, (pss_cons (ps_set (i := 3) sc_around_corner.nd rfl (Or.inl rfl) (pe_ix ix_list (pv 1) pe_int (fun _ _ => rfl)))
      (pss_cons (ps_set (i := 4) sc_around_corner.nd rfl (Or.inl rfl) (pe_ix ix_list (pv 1) pe_int (fun _ _ => rfl)))
      (pss_cons (ps_set (i := 5) sc_around_corner.nd rfl (Or.inl rfl) (pe_ix ix_list (pv 1) pe_int (fun _ _ => rfl)))
      (pss_cons (ps_if (pt_cmpR op_eq (pe_call G_is_even (hr.mono (by decide)) rfl T.g_is_even kp_is_even b_is_even .nil pass0 (pa_cons (pe_lst (pa_cons (pv 0) (pa_cons (pv 3) (pa_cons (pv 4) (pa_cons (pv 5) pa_nil))))) pa_nil)) (pv 2) (nomark _)) (pss_one (ps_ret (pe_tup (pa_cons (pe_tup (pa_cons (pv 0) (pa_cons (pv 3) pa_nil))) (pa_cons (pe_tup (pa_cons (pv 0) (pa_cons (pv 4) pa_nil))) (pa_cons (pe_tup (pa_cons (pv 0) (pa_cons (pv 5) pa_nil))) pa_nil)))))) pss_nil)
      (pss_one (ps_ret (pe_tup (pa_cons (pe_tup (pa_cons (pv 0) (pa_cons (pv 3) pa_nil))) (pa_cons (pe_tup (pa_cons (pv 0) (pa_cons (pv 5) pa_nil))) (pa_cons (pe_tup (pa_cons (pv 0) (pa_cons (pv 4) pa_nil))) pa_nil)))))))))), ?_⟩
    refine ⟨_, rfl, o, _, _, _, rfl, rfl, ho, at0, ?_⟩
    refine ⟨_, rfl, o, _, _, _, rfl, rfl, ho, at1, ?_⟩
    refine ⟨_, rfl, o, _, _, _, rfl, rfl, ho, at2, ?_⟩
    refine ⟨_, rfl, _, rfl, _, rfl, _, rfl, small_line (by simp), fun q hq => ?_⟩
    refine ⟨q, [(i : Int), a, b, e], rfl, SqL.of upd_same, (by simp), ?_⟩
    refine ⟨_, rfl, rfl, _, rfl, ?_⟩
    refine ite2 (fun hc => ?_) (fun hc => ?_)
    · have hc : evN [i, a, b, e] = t := bl_eq.mp hc
      refine ⟨_, rfl, _, rfl, small_line (by simp), fun p1 h1 => ⟨_, rfl, _, rfl, small_line (by simp), fun p2 h2 => ⟨_, rfl, _, rfl, small_line (by simp), fun p3 h3 => ⟨small_line (by simp), fun p4 h4 => ?_⟩⟩⟩⟩
      obtain ⟨s1, m1⟩ := three_new (K := K) h1 h2 h3 h4
      refine k _ _ ((same_new hq).trans s1) ?_
      rw [cornN, if_pos hc]
      exact m1
    · have hc : ¬ evN [i, a, b, e] = t := fun z => hc (bl_eq.mpr z)
      refine ⟨_, rfl, _, rfl, small_line (by simp), fun p1 h1 => ⟨_, rfl, _, rfl, small_line (by simp), fun p2 h2 => ⟨_, rfl, _, rfl, small_line (by simp), fun p3 h3 => ⟨small_line (by simp), fun p4 h4 => ?_⟩⟩⟩⟩
      obtain ⟨s1, m1⟩ := three_new (K := K) h1 h2 h3 h4
      refine k _ _ ((same_new hq).trans s1) ?_
      rw [cornN, if_neg hc]
      exact m1
theorem ok_between_pairs (T : Txt K mg A) : Prom P w K mg base 2 A.f_between_pairs ["inside", "outside", "turned"] (sp_between K) := by
  obtain ⟨fd_is_even, G_is_even, b_is_even, kp_is_even⟩ := ok_is_even (P := P) (w := w) (base := base) T
  refine T.d_between_pairs.prom sc_between_pairs (fun vs H Q E h => ?_) (fun cdv A' outer s H vs Q E hr h => ?_)
  · obtain ⟨i, j, k, m, p, q, t, rfl, _⟩ := h
    rfl
  · obtain ⟨i, j, k', m, p, q, t, rfl, hp, hq, k⟩ := h
    refine ⟨_, (pss_cons (ps_set (i := 3) sc_between_pairs.nd rfl (Or.inl rfl) (pe_ix ix_list (pv 0) pe_int (fun _ _ => rfl)))
      (pss_cons (ps_set (i := 4) sc_between_pairs.nd rfl (Or.inl rfl) (pe_ix ix_list (pv 0) pe_int (fun _ _ => rfl)))
      (pss_cons (ps_set (i := 5) sc_between_pairs.nd rfl (Or.inl rfl) (pe_ix ix_list (pv 1) pe_int (fun _ _ => rfl)))
      (pss_cons (ps_set (i := 6) sc_between_pairs.nd rfl (Or.inl rfl) (pe_ix ix_list (pv 1) pe_int (fun _ _ => rfl)))
      (pss_cons (ps_if (pt_cmpR op_eq (pe_call G_is_even (hr.mono (by decide)) rfl T.g_is_even kp_is_even b_is_even .nil pass0 (pa_cons (pe_lst (pa_cons (pv 3) (pa_cons (pv 4) (pa_cons (pv 5) (pa_cons (pv 6) pa_nil))))) pa_nil)) (pv 2) (nomark _)) (pss_one (ps_ret (pe_lst (pa_cons (pe_tup (pa_cons (pe_tup (pa_cons (pv 3) (pa_cons (pv 5) pa_nil))) (pa_cons (pe_tup (pa_cons (pv 3) (pa_cons (pv 6) pa_nil))) (pa_cons (pe_tup (pa_cons (pv 4) (pa_cons (pv 6) pa_nil))) pa_nil)))) (pa_cons (pe_tup (pa_cons (pe_tup (pa_cons (pv 3) (pa_cons (pv 5) pa_nil))) (pa_cons (pe_tup (pa_cons (pv 4) (pa_cons (pv 6) pa_nil))) (pa_cons (pe_tup (pa_cons (pv 4) (pa_cons (pv 5) pa_nil))) pa_nil)))) pa_nil))))) pss_nil)
      (pss_one (ps_ret (pe_lst (pa_cons (pe_tup (pa_cons (pe_tup (pa_cons (pv 3) (pa_cons (pv 5) pa_nil))) (pa_cons (pe_tup (pa_cons (pv 4) (pa_cons (pv 6) pa_nil))) (pa_cons (pe_tup (pa_cons (pv 3) (pa_cons (pv 6) pa_nil))) pa_nil)))) (pa_cons (pe_tup (pa_cons (pe_tup (pa_cons (pv 3) (pa_cons (pv 5) pa_nil))) (pa_cons (pe_tup (pa_cons (pv 4) (pa_cons (pv 5) pa_nil))) (pa_cons (pe_tup (pa_cons (pv 4) (pa_cons (pv 6) pa_nil))) pa_nil)))) pa_nil)))))))))), ?_⟩
    refine ⟨_, rfl, p, _, _, _, rfl, rfl, hp, at0, ?_⟩
    refine ⟨_, rfl, p, _, _, _, rfl, rfl, hp, at1, ?_⟩
    refine ⟨_, rfl, q, _, _, _, rfl, rfl, hq, at0, ?_⟩
    refine ⟨_, rfl, q, _, _, _, rfl, rfl, hq, at1, ?_⟩
    refine ⟨_, rfl, _, rfl, _, rfl, _, rfl, small_line (by simp), fun o ho => ?_⟩
    refine ⟨o, [(i : Int), j, k', m], rfl, SqL.of upd_same, (by simp), ?_⟩
    refine ⟨_, rfl, rfl, _, rfl, ?_⟩
    refine ite2 (fun hc => ?_) (fun hc => ?_)
    · have hc : evN [i, j, k', m] = t := bl_eq.mp hc
      refine ⟨_, rfl, _, rfl, small_line (by simp), fun p1 h1 => ⟨_, rfl, _, rfl, small_line (by simp), fun p2 h2 => ⟨_, rfl, _, rfl, small_line (by simp), fun p3 h3 => ⟨small_line (by simp), fun p4 h4 => ?_⟩⟩⟩⟩
      obtain ⟨s1, m1⟩ := three_new (K := K) h1 h2 h3 h4
      refine ⟨_, rfl, _, rfl, small_line (by simp), fun r1 g1 => ⟨_, rfl, _, rfl, small_line (by simp), fun r2 g2 => ⟨_, rfl, _, rfl, small_line (by simp), fun r3 g3 => ⟨small_line (by simp), fun r4 g4 => ⟨small_line (by simp), fun l hl => ?_⟩⟩⟩⟩⟩
      obtain ⟨s2, m2⟩ := three_new (K := K) g1 g2 g3 g4
      refine k _ _ ((((same_new ho).trans s1).trans s2).free hl) ((((same_new ho).trans s1).trans s2).trans (same_new hl)) ⟨_, upd_same, ?_⟩
      rw [pairN, if_pos hc]
      exact .cons (im_same (s2.trans (same_new hl)) m1) (.cons (im_same (same_new hl) m2) .nil)
    · have hc : ¬ evN [i, j, k', m] = t := fun z => hc (bl_eq.mpr z)
      refine ⟨_, rfl, _, rfl, small_line (by simp), fun p1 h1 => ⟨_, rfl, _, rfl, small_line (by simp), fun p2 h2 => ⟨_, rfl, _, rfl, small_line (by simp), fun p3 h3 => ⟨small_line (by simp), fun p4 h4 => ?_⟩⟩⟩⟩
      obtain ⟨s1, m1⟩ := three_new (K := K) h1 h2 h3 h4
      refine ⟨_, rfl, _, rfl, small_line (by simp), fun r1 g1 => ⟨_, rfl, _, rfl, small_line (by simp), fun r2 g2 => ⟨_, rfl, _, rfl, small_line (by simp), fun r3 g3 => ⟨small_line (by simp), fun r4 g4 => ⟨small_line (by simp), fun l hl => ?_⟩⟩⟩⟩⟩
      obtain ⟨s2, m2⟩ := three_new (K := K) g1 g2 g3 g4
      refine k _ _ ((((same_new ho).trans s1).trans s2).free hl) ((((same_new ho).trans s1).trans s2).trans (same_new hl)) ⟨_, upd_same, ?_⟩
      rw [pairN, if_neg hc]
      exact .cons (im_same (s2.trans (same_new hl)) m1) (.cons (im_same (same_new hl) m2) .nil)
theorem ok_parting_triangles (T : Txt K mg A) : Prom P w K mg base 3 A.f_parting_triangles ["inside", "outside", "turned"] (sp_parting K) := by
  obtain ⟨fd_around_corner, G_around_corner, b_around_corner, kp_around_corner⟩ := ok_around_corner (P := P) (w := w) (base := base) T
  obtain ⟨fd_between_pairs, G_between_pairs, b_between_pairs, kp_between_pairs⟩ := ok_between_pairs (P := P) (w := w) (base := base) T
  refine T.d_parting_triangles.prom sc_parting_triangles (fun vs H Q E h => ?_) (fun cdv A' outer s H vs Q E hr h => ?_)
  · obtain ⟨ins, outs, p, q, t, rfl, _⟩ := h
    rfl
  · obtain ⟨ins, outs, p, q, t, rfl, hp, hq, hlen, k⟩ := h
    refine ⟨_, (pss_cons (ps_if (pt_cmpR op_eq (pe_callB call_len_seq (by rfl) T.b_len PySem.boot_len (pa_cons (pv 0) pa_nil)) pe_int (nomark _)) (pss_one (ps_ret (pe_lst (pa_cons (pe_call G_around_corner (hr.mono (by decide)) rfl T.g_around_corner kp_around_corner b_around_corner .nil pass0 (pa_cons (pe_ix ix_list (pv 0) pe_int (fun _ _ => rfl)) (pa_cons (pv 1) (pa_cons (pv 2) pa_nil)))) pa_nil)))) pss_nil)
      (pss_cons (ps_if (pt_cmpR op_eq (pe_callB call_len_seq (by rfl) T.b_len PySem.boot_len (pa_cons (pv 1) pa_nil)) pe_int (nomark _)) (pss_one (ps_ret (pe_lst (pa_cons (pe_call G_around_corner (hr.mono (by decide)) rfl T.g_around_corner kp_around_corner b_around_corner .nil pass0 (pa_cons (pe_ix ix_list (pv 1) pe_int (fun _ _ => rfl)) (pa_cons (pv 0) (pa_cons (pe_not (pv 2)) pa_nil)))) pa_nil)))) pss_nil)
      (pss_cons (ps_if (pt_cmpR op_eq (pe_callB call_len_seq (by rfl) T.b_len PySem.boot_len (pa_cons (pv 0) pa_nil)) pe_int (nomark _)) (pss_one (ps_ret (pe_call G_between_pairs (hr.mono (by decide)) rfl T.g_between_pairs kp_between_pairs b_between_pairs .nil pass0 (pa_cons (pv 0) (pa_cons (pv 1) (pa_cons (pv 2) pa_nil)))))) pss_nil)
      (pss_one (ps_ret (pe_lst pa_nil)))))), ?_⟩
    refine ⟨_, rfl, p, _, rfl, .inl hp, rfl, _, rfl, ?_⟩
    refine ite2 (fun hc => ?_) (fun hc => ?_)
    · have hc : ((vN ins).length : Int) = 1 := int_eq.mp hc
      rw [List.length_map] at hc
      obtain ⟨i, rfl⟩ := len1 (l := ins) (by omega)
      obtain ⟨a, b, e, rfl⟩ := len3 (l := outs) (by simp only [List.length_cons, List.length_nil] at hlen; omega)
      · refine ⟨_, rfl, p, _, _, _, rfl, rfl, hp, at0, _, rfl, _, rfl, i, a, b, e, q, t, rfl, hq, fun v H1 s1 m1 => ?_⟩
        exact ⟨small_line (by simp), fun l hl => k l _ (s1.free hl) (s1.trans (same_new hl)) ⟨_, upd_same, .cons (im_same (same_new hl) m1) .nil⟩⟩
    · have hc : ¬ ((vN ins).length : Int) = 1 := fun z => hc (int_eq.mpr z)
      rw [List.length_map] at hc
      refine ⟨_, rfl, q, _, rfl, .inl hq, rfl, _, rfl, ?_⟩
      refine ite2 (fun hd => ?_) (fun hd => ?_)
      · have hd : ((vN outs).length : Int) = 1 := int_eq.mp hd
        rw [List.length_map] at hd
        obtain ⟨o, rfl⟩ := len1 (l := outs) (by omega)
        obtain ⟨a, b, e, rfl⟩ := len3 (l := ins) (by simp only [List.length_cons, List.length_nil] at hlen; omega)
        · refine ⟨_, rfl, q, _, _, _, rfl, rfl, hq, at0, _, rfl, _, rfl, _, rfl, o, a, b, e, p, !t, rfl, hp, fun v H1 s1 m1 => ?_⟩
          exact ⟨small_line (by simp), fun l hl => k l _ (s1.free hl) (s1.trans (same_new hl)) ⟨_, upd_same, .cons (im_same (same_new hl) m1) .nil⟩⟩
      · have hd : ¬ ((vN outs).length : Int) = 1 := fun z => hd (int_eq.mpr z)
        rw [List.length_map] at hd
        refine ⟨_, rfl, p, _, rfl, .inl hp, rfl, _, rfl, ?_⟩
        refine ite2 (fun he => ?_) (fun he => ?_)
        · have he : ((vN ins).length : Int) = 2 := int_eq.mp he
          rw [List.length_map] at he
          obtain ⟨i, j, rfl⟩ := len2 (l := ins) (by omega)
          obtain ⟨k', m, rfl⟩ := len2 (l := outs) (by simp only [List.length_cons, List.length_nil] at hlen; omega)
          · exact ⟨_, rfl, _, rfl, _, rfl, i, j, k', m, p, q, t, rfl, hp, hq, k⟩
        · have he : ¬ ((vN ins).length : Int) = 2 := fun z => he (int_eq.mpr z)
          rw [List.length_map] at he
          refine ⟨small_line (by simp), fun l hl => k l _ hl (same_new hl) ⟨_, upd_same, ?_⟩⟩
          have e : partN ins outs t = [] := by
            unfold partN
            split
            · exact (hc rfl).elim
            · exact (hd rfl).elim
            · exact (he rfl).elim
            · rfl
          rw [e]
          exact .nil
end
end Fs
end
section
set_option Elab.async false
set_option linter.all false
set_option maxRecDepth 100000
set_option maxHeartbeats 4000001
namespace Fs
open PySem PySem.Spec PyProof.Rows L2
open Rc29 (way Cut Triangle)
def encCut (c : Cut) : Dat := tI [c.p.x, c.p.y, c.p.z, c.d]
def encT (t : Triangle) : Dat := .tup [encCut t.1, encCut t.2.1, encCut t.2.2]
abbrev castN (l : List Nat) : List Int := l.map fun (n : Nat) => (n : Int)
def encS (s : List Nat × Bool) : Dat := .tup [tI (castN s.1), .bl s.2]
def ptsN (c : Rc29.P) (t : List Nat) (l : Tri2) : Dat := .tup (l.map fun p => encCut (way c (t.getD p.1 0) (t.getD p.2 0)))
def insL (f : Nat → Bool) (n : Nat) : List Nat := (List.range n).filter f
theorem insL_succ (f : Nat → Bool) (n : Nat) : insL f (n + 1) = insL f n ++ if f n = true then [n] else [] := by
  unfold insL
  rw [List.range_succ, List.filter_append, List.filter_cons, List.filter_nil]
theorem pieces_eq (c : Rc29.P) (t : List Nat) (turned : Bool) (f : Nat → Bool) : (Rc29.pieces c t turned f).map encT = (partN (insL f 4) (insL (fun i => !f i) 4) turned).map (ptsN c t) := by
  unfold Rc29.pieces insL
  rw [show List.range 4 = [0, 1, 2, 3] from rfl]
  cases h0 : f 0 <;> cases h1 : f 1 <;> cases h2 : f 2 <;> cases h3 : f 3 <;> cases turned <;>
    simp only [List.filter_cons, List.filter_nil, h0, h1, h2, h3, Bool.not_true, Bool.not_false, if_true, Bool.false_eq_true, if_false] <;> rfl
theorem part_ok (f : Nat → Bool) (turned : Bool) : ∀ l ∈ partN (insL f 4) (insL (fun i => !f i) 4) turned, l.length = 3 ∧ ∀ p ∈ l, p.1 < 4 ∧ p.2 < 4 ∧ p.1 ≠ p.2 := by
  unfold insL
  rw [show List.range 4 = [0, 1, 2, 3] from rfl]
  cases h0 : f 0 <;> cases h1 : f 1 <;> cases h2 : f 2 <;> cases h3 : f 3 <;> cases turned <;>
    simp only [List.filter_cons, List.filter_nil, h0, h1, h2, h3, Bool.not_true, Bool.not_false, if_true, Bool.false_eq_true, if_false] <;> decide
theorem ins_len (f : Nat → Bool) : ∀ n, (insL f n).length + (insL (fun i => !f i) n).length = n
  | 0 => rfl
  | n + 1 => by
    have ih := ins_len f n
    rw [insL_succ, insL_succ, List.length_append, List.length_append]
    cases f n <;> simp <;> omega
theorem part_len (ins outs : List Nat) (t : Bool) : (partN ins outs t).length ≤ 2 := by
  unfold partN
  split
  · exact Nat.le_succ 1
  · exact Nat.le_succ 1
  · unfold pairN
    split <;> exact Nat.le_refl 2
  · exact Nat.zero_le 2
theorem sorted_at {t : List Nat} (h : t.Pairwise (· < ·)) {i j : Nat} (hij : i < j) (hj : j < t.length) : t.getD i 0 < t.getD j 0 := by
  have hi : i < t.length := by omega
  simp only [List.getD_eq_getElem?_getD, List.getElem?_eq_getElem hi, List.getElem?_eq_getElem hj]
  exact List.pairwise_iff_getElem.mp h i j hi hj hij
def sp_point (K : PySem.W.Frag) : Sp := fun vs H Q _ => ∃ (vc vt vp : V) (c : Rc29.P) (t : List Nat) (i j : Nat), vs = [vc, vt, vp] ∧ Im K H vc (encG c) ∧ Im K H vt (tI (castN t)) ∧ Im K H vp (tI [(i : Int), (j : Int)]) ∧ i < t.length ∧ j < t.length ∧ i ≠ j ∧ t.Pairwise (· < ·) ∧
  ∀ (v : V) (H' : Hp), Same H H' → Is H' v (encCut (way c (t.getD i 0) (t.getD j 0))) → Q v H'
theorem at_cast {t : List Nat} {z : Int} {j : Nat} (e : z = (j : Int)) (h : j < t.length) : atI ((castN t).map V.int) z = some (.int ((t.getD j 0 : Nat) : Int)) := by
  refine at_of e ?_
  rw [List.getElem?_map, List.getElem?_map, List.getElem?_eq_getElem h, List.getD_eq_getElem?_getD, List.getElem?_eq_getElem h]
  rfl
section
variable {P : Program} {w : World} {K : PySem.W.Frag} {mg : Str → Option Value} {base : Heap} {A : Ad}
theorem ok_point_between (T : Txt K mg A) : Prom P w K mg base 2 A.f_point_between ["cube", "corners", "pair"] (sp_point K) := by
  obtain ⟨fd_step, G_step, b_step, kp_step⟩ := ok_step (P := P) (w := w) (base := base) T
  refine T.d_point_between.prom sc_point_between (fun vs H Q E h => ?_) (fun cdv A' outer s H vs Q E hr h => ?_)
  · obtain ⟨vc, vt, vp, c, t, i, j, rfl, _⟩ := h
    rfl
  · obtain ⟨vc, vt, vp, c, t, i, j, rfl, hc, ht, hp, hi, hj, hij, hs, k⟩ := h
    obtain ⟨at', rfl, ht'⟩ := im_tI ht
    obtain ⟨ap, rfl, hp'⟩ := im_tI hp
    refine ⟨_, (pss_cons (ps_set (i := 3) sc_point_between.nd rfl (Or.inl rfl) (pe_ix ix_tup (pv 1) (pe_callB (cr_minT rfl) (by rfl) T.b_min boot_min (pa_cons (pv 2) pa_nil)) (fun _ _ => rfl)))
      (pss_cons (ps_set (i := 4) sc_point_between.nd rfl (Or.inl rfl) (pe_ix ix_tup (pv 1) (pe_callB (cr_maxT rfl) (by rfl) T.b_max boot_max (pa_cons (pv 2) pa_nil)) (fun _ _ => rfl)))
      (pss_cons (ps_set (i := 5) sc_point_between.nd rfl (Or.inl rfl) (pe_call G_step (hr.mono (by decide)) rfl T.g_step kp_step b_step .nil pass0 (pa_cons (pv 0) (pa_cons (pv 3) pa_nil))))
      (pss_one (ps_ret (pe_tup (pa_cons (pe_ix ix_tup (pv 5) pe_int (fun _ _ => rfl)) (pa_cons (pe_ix ix_tup (pv 5) pe_int (fun _ _ => rfl)) (pa_cons (pe_ix ix_tup (pv 5) pe_int (fun _ _ => rfl)) (pa_cons (pe_op op_sub (pv 4) (pv 3)) pa_nil)))))))))), ?_⟩
    refine ⟨_, rfl, _, rfl, ap, [(i : Int), (j : Int)], rfl, hp', (by simp), fun m hm hmin => ?_⟩
    have em : m = ((min i j : Nat) : Int) := by
      have a1 := hmin i (by simp)
      have a2 := hmin j (by simp)
      simp at hm
      omega
    refine ⟨at', _, m, _, rfl, rfl, ht', at_cast (j := min i j) em (by omega), ?_⟩
    refine ⟨_, rfl, _, rfl, ap, [(i : Int), (j : Int)], rfl, hp', (by simp), fun n hn hmax => ?_⟩
    have en : n = ((max i j : Nat) : Int) := by
      have a1 := hmax i (by simp)
      have a2 := hmax j (by simp)
      simp at hn
      omega
    refine ⟨at', _, n, _, rfl, rfl, ht', at_cast (j := max i j) en (by omega), ?_⟩
    refine ⟨_, rfl, _, rfl, vc, (c.x : Int), (c.y : Int), (c.z : Int), _, rfl, hc, fun p H1 s1 m1 => ?_⟩
    obtain ⟨q, rfl, hq⟩ := im_tI m1
    refine ⟨_, rfl, q, _, _, _, rfl, rfl, hq, at0, _, rfl, q, _, _, _, rfl, rfl, hq, at1, _, rfl, q, _, _, _, rfl, rfl, hq, at2, _, rfl, _, rfl, _, _, rfl, rfl, small_line (by simp), fun r hr => ?_⟩
    refine k _ _ (s1.trans (same_new hr)) ?_
    have key : encCut (way c (t.getD i 0) (t.getD j 0)) = tI [(c.x : Int) + ((t.getD (min i j) 0 : Nat) : Int) % 2, (c.y : Int) + ((t.getD (min i j) 0 : Nat) : Int) / 2 % 2, (c.z : Int) + ((t.getD (min i j) 0 : Nat) : Int) / 4 % 2, ((t.getD (max i j) 0 : Nat) : Int) - ((t.getD (min i j) 0 : Nat) : Int)] := by
      unfold encCut way
      by_cases h : i < j
      · have lt := sorted_at hs h hj
        rw [if_pos lt, Nat.min_eq_left (by omega), Nat.max_eq_right (by omega)]
        simp only [Rc29.P.to]
        refine congrArg tI ?_
        simp only [List.cons.injEq, and_true]
        refine ⟨?_, ?_, ?_, ?_⟩ <;> omega
      · have lt := sorted_at hs (show j < i by omega) hi
        rw [if_neg (by omega), Nat.min_eq_right (by omega), Nat.max_eq_left (by omega)]
        simp only [Rc29.P.to]
        refine congrArg tI ?_
        simp only [List.cons.injEq, and_true]
        refine ⟨?_, ?_, ?_, ?_⟩ <;> omega
    rw [key]
    exact tI_is upd_same
abbrev insF (f : Rc29.Field) (level : Int) (c : Rc29.P) (t : List Nat) (i : Nat) : Bool := decide (level ≤ f.at_ (c.to (t.getD i 0)))
def InGrid (f : Rc29.Field) (c : Rc29.P) : Prop := c.x + 1 < f.nx ∧ c.y + 1 < f.ny ∧ c.z + 1 < f.nz
def sp_tetra (K : PySem.W.Frag) (A : Ad) : Sp := fun vs H Q _ => ∃ (af : Addr) (vc vT : V) (f : Rc29.Field) (level : Int) (c : Rc29.P) (s : List Nat × Bool), vs = [.ref af, .int level, vc, vT] ∧ FieldAt A H af f ∧ Im K H vc (encG c) ∧ InGrid f c ∧ Im K H vT (encS s) ∧ s.1.length = 4 ∧ s.1.Pairwise (· < ·) ∧
  ∀ (l : Addr) (H' : Hp), H l = none → Same H H' → LstS H' l ((Rc29.pieces c s.1 s.2 (insF f level c s.1)).map encT) → Q (.ref l) H'
theorem FieldAt.noMeth {H : Hp} {a : Addr} {f : Rc29.Field} (F : FieldAt A H a f) {m : Str} (h1 : m ≠ "nx") (h2 : m ≠ "ny") (h3 : m ≠ "nz") (h4 : m ≠ "numbers") : ∃ (dx : Addr) (fs : List (Str × V)), H a = some (.ins A.C_Field dx fs) ∧ fs.lookup m = none := by
  obtain ⟨dx, l, fs, e1, e2, e3, e4, e5, e6, e7⟩ := F.ex
  exact ⟨dx, fs, e1, e6 m h1 h2 h3 h4⟩
theorem vN_snoc (l : List Nat) (i : Nat) : vN l ++ [V.int ((0 : Int) + (i : Int))] = vN (l ++ [i]) := by
  simp [vN]
theorem ok_tetrahedron_triangles (T : Txt K mg A) : Prom P w K mg base 4 A.f_tetrahedron_triangles ["field", "level", "cube", "tetrahedron"] (sp_tetra K A) := by
  obtain ⟨fd_Field_value_at, G_Field_value_at, b_Field_value_at, kp_Field_value_at⟩ := ok_Field_value_at (P := P) (w := w) (base := base) T
  obtain ⟨fd_step, G_step, b_step, kp_step⟩ := ok_step (P := P) (w := w) (base := base) T
  obtain ⟨fd_parting_triangles, G_parting_triangles, b_parting_triangles, kp_parting_triangles⟩ := ok_parting_triangles (P := P) (w := w) (base := base) T
  obtain ⟨fd_point_between, G_point_between, b_point_between, kp_point_between⟩ := ok_point_between (P := P) (w := w) (base := base) T
  refine T.d_tetrahedron_triangles.prom sc_tetrahedron_triangles (fun vs H Q E h => ?_) (fun cdv A' outer s H vs Q E hr h => ?_)
  · obtain ⟨af, vc, vT, f, level, c, s, rfl, _⟩ := h
    rfl
  · obtain ⟨af, vc, vT, f, level, c, ⟨t, turned⟩, rfl, F, hc, hg, hT, h4, hs, k⟩ := h
    dsimp only at h4 hs k
    obtain ⟨aT, xsT, rfl, qT, rT⟩ := im_tup hT
    cases rT with
    | cons rt r2 =>
    cases r2 with
    | cons rb r3 =>
    cases r3
    cases im_bl rb
    obtain ⟨at', rfl, qt⟩ := im_tI rt
    refine ⟨_, (pss_cons (ps_set (i := 4) sc_tetrahedron_triangles.nd rfl (Or.inr rfl) (pe_ix ix_tup (pv 3) pe_int (fun _ _ => rfl)))
      (pss_cons (ps_set (i := 5) sc_tetrahedron_triangles.nd rfl (Or.inl rfl) (pe_ix ix_tup (pv 3) pe_int (fun _ _ => rfl)))
      (pss_cons (ps_set (i := 6) sc_tetrahedron_triangles.nd rfl (Or.inl rfl) (pe_lst pa_nil))
      (pss_cons (ps_set (i := 7) sc_tetrahedron_triangles.nd rfl (Or.inl rfl) (pe_lst pa_nil))
      (pss_cons (ps_for PassesOwn.never rfl (pi_range1 rfl T.b_range (pa_cons pe_int pa_nil)) (pg_name (i := 8) sc_tetrahedron_triangles.nd rfl (Or.inl rfl)) (pss_one (ps_if (pt_cmpR op_ge (pe_meth (pv 0) T.c_Field T.m_Field_value_at G_Field_value_at (hr.mono (by decide)) b_Field_value_at .nil pass0 (pa_cons (pe_call G_step (hr.mono (by decide)) rfl T.g_step kp_step b_step .nil pass0 (pa_cons (pv 2) (pa_cons (pe_ix ix_tup (pv 4) (pv 8) (fun _ _ => rfl)) pa_nil))) pa_nil)) (pv 1) (nomark _)) (pss_one (ps_expr (pe_bm PySem.F.plainAttrs_list PySem.F.slot_list_append PySem.F.type_list_append mt_append (pv 6) (pa_cons (pv 8) pa_nil)))) (pss_one (ps_expr (pe_bm PySem.F.plainAttrs_list PySem.F.slot_list_append PySem.F.type_list_append mt_append (pv 7) (pa_cons (pv 8) pa_nil)))))))
      (pss_cons (ps_set (i := 9) sc_tetrahedron_triangles.nd rfl (Or.inl rfl) (pe_lst pa_nil))
      (pss_cons (ps_for PassesOwn.never rfl (pi_list (pe_call G_parting_triangles (hr.mono (by decide)) rfl T.g_parting_triangles kp_parting_triangles b_parting_triangles .nil pass0 (pa_cons (pv 6) (pa_cons (pv 7) (pa_cons (pv 5) pa_nil))))) (pg_name (i := 10) sc_tetrahedron_triangles.nd rfl (Or.inl rfl)) (pss_one (ps_expr (pe_bm PySem.F.plainAttrs_list PySem.F.slot_list_append PySem.F.type_list_append mt_append (pv 9) (pa_cons (pe_callTy call_tuple_of (by rfl) T.b_tuple boot_tuple (pa_cons (pe_lc (own := [("pair", 11)]) rfl sc_tetrahedron_triangles.nd (pi_tup (pv 10)) (blkOk_by (by show blkC n_tetrahedron_triangles (defScope s_tetrahedron_triangles) _ _ = true; decide +kernel)) (fun _ _ _ _ _ => (pg_name (i := 11) sc_tetrahedron_triangles.nd rfl (Or.inl rfl))) (fun _ _ _ _ _ => pts_nil) (fun _ _ _ _ _ => (pe_call G_point_between (hr.mono (by decide)) rfl T.g_point_between kp_point_between b_point_between .nil pass0 (pa_cons (pv 2) (pa_cons (pv 4) (pa_cons (pv 11) pa_nil)))))) pa_nil)) pa_nil)))))
      (pss_one (ps_ret (pv 9)))))))))), ?_⟩
    refine ⟨_, rfl, aT, _, _, _, rfl, rfl, qT, at0, ?_⟩
    refine ⟨_, rfl, aT, _, _, _, rfl, rfl, qT, at1, ?_⟩
    refine ⟨Nat.zero_le _, fun l1 h1 => ?_⟩
    refine ⟨Nat.zero_le _, fun l2 h2 => ?_⟩
    have s1 : Same H (upd H l1 (.lst [])) := same_new h1
    have s2 : Same H (upd (upd H l1 (.lst [])) l2 (.lst [])) := s1.trans (same_new h2)
    have n2 : H l2 = none := s1.free h2
    have ne12 : l1 ≠ l2 := ne_of_none upd_same h2
    refine ⟨4, rfl, (by decide), (by decide), for_range (fun i σ H' => ∃ v8 : Option V, σ = [some (.ref af), some (.int level), some vc, some (.ref aT), some (.ref at'), some (.bl turned), some (.ref l1), some (.ref l2), v8, none, none, none] ∧ Same H H' ∧
      H' l1 = some (.lst (vN (insL (insF f level c t) i))) ∧ H' l2 = some (.lst (vN (insL (fun i => !insF f level c t i) i)))) ⟨none, rfl, s2, (by rw [upd_ne ne12]; exact upd_same), upd_same⟩ ?_ ?_⟩
    · rintro i σ H1 hi ⟨v8, rfl, s3, g1, g2⟩
      have hi' : i < t.length := by
        have : i < 4 := hi
        omega
      obtain ⟨dx, fs, e1, e2⟩ := (F.same s3).noMeth (m := "value_at") (by decide +kernel) (by decide +kernel) (by decide +kernel) (by decide +kernel)
      refine ⟨_, rfl, af, dx, fs, rfl, e1, e2, _, rfl, _, rfl, _, rfl, at', _, _, _, rfl, rfl, same_tup s3 qt, at_cast (j := i) (by omega) hi', ?_⟩
      refine ⟨vc, (c.x : Int), (c.y : Int), (c.z : Int), _, rfl, im_same s3 hc, fun p H2 s4 m4 => ?_⟩
      have m5 : Im K H2 p (tI [((c.to (t.getD i 0)).x : Int), ((c.to (t.getD i 0)).y : Int), ((c.to (t.getD i 0)).z : Int)]) := by
        have e : [((c.to (t.getD i 0)).x : Int), ((c.to (t.getD i 0)).y : Int), ((c.to (t.getD i 0)).z : Int)] = [(c.x : Int) + ((t.getD i 0 : Nat) : Int) % 2, (c.y : Int) + ((t.getD i 0 : Nat) : Int) / 2 % 2, (c.z : Int) + ((t.getD i 0 : Nat) : Int) / 4 % 2] := by
          simp only [Rc29.P.to, List.cons.injEq, and_true]
          refine ⟨?_, ?_, ?_⟩ <;> omega
        rw [e]
        exact m4
      have s5 := s3.trans s4
      obtain ⟨gx, gy, gz⟩ := hg
      refine ⟨af, p, f, c.to (t.getD i 0), rfl, F.same s5, m5, (by simp only [Rc29.P.to]; omega), (by simp only [Rc29.P.to]; omega), (by simp only [Rc29.P.to]; omega), _, rfl, _, _, rfl, rfl, _, rfl, ?_⟩
      have a1 := s4 _ _ g1
      have a2 := s4 _ _ g2
      have n1 : H1 l1 ≠ none := by rw [g1]; exact fun z => by cases z
      have b1 : (insL (insF f level c t) i).length ≤ i := by have := ins_len (insF f level c t) i; omega
      have b2 : (insL (fun i => !insF f level c t i) i).length ≤ i := by have := ins_len (insF f level c t) i; omega
      have hi4 : i < 4 := hi
      refine ite2 (fun hd => ?_) (fun hd => ?_)
      · have hd' : insF f level c t i = true := hd
        refine ⟨_, rfl, .inl ⟨rfl, _, SqL.of a1⟩, _, rfl, l1, _, _, rfl, rfl, a1, small_line' (by rw [List.length_map]; omega), ?_⟩
        refine ⟨_, rfl, same_own s5 h1, ?_, ?_⟩
        · rw [upd_same, vN_snoc, insL_succ, hd']
          rfl
        · rw [upd_ne (Ne.symm ne12), insL_succ, hd', a2]
          simp
      · have hd' : insF f level c t i = false := by
          cases q : insF f level c t i with
          | false => rfl
          | true => exact (hd q).elim
        refine ⟨_, rfl, .inl ⟨rfl, _, SqL.of a2⟩, _, rfl, l2, _, _, rfl, rfl, a2, small_line' (by rw [List.length_map]; omega), ?_⟩
        refine ⟨_, rfl, same_own s5 n2, ?_, ?_⟩
        · rw [upd_ne ne12, insL_succ, hd', a1]
          simp
        · rw [upd_same, vN_snoc, insL_succ, hd']
          rfl
    · rintro σ H1 ⟨v8, rfl, s3, g1, g2⟩
      refine ⟨Nat.zero_le _, fun l3 h3 => ?_⟩
      have s4 : Same H1 (upd H1 l3 (.lst [])) := same_new h3
      have hn3 : H l3 = none := s3.free h3
      refine ⟨_, rfl, _, rfl, _, rfl, _, _, l1, l2, turned, rfl, SqL.of (s4 _ _ g1), SqL.of (s4 _ _ g2), ins_len _ 4, fun lp H2 np s5 ⟨vps, gp, rp⟩ => ?_⟩
      have e3 : H2 l3 = some (.lst []) := s5 _ _ upd_same
      have ne3p : lp ≠ l3 := fun z => by
        rw [z, upd_same] at np
        cases np
      have s6 : Same H H2 := (s3.trans s4).trans s5
      have nHp : H lp = none := s3.free (s4.free np)
      have plen : vps.length ≤ 2 := by
        rw [imAll_len rp, List.length_map]
        exact part_len _ _ _
      refine ⟨lp, rfl, ⟨_, SqL.of gp⟩, for_list (a := lp) (xs := vps) (fun i σ H' => ∃ v10 v11 : Option V, σ = [some (.ref af), some (.int level), some vc, some (.ref aT), some (.ref at'), some (.bl turned), some (.ref l1), some (.ref l2), v8, some (.ref l3), v10, v11] ∧ Same H H' ∧ H' lp = some (.lst vps) ∧
        ImAll K H' vps ((partN (insL (insF f level c t) 4) (insL (fun i => !insF f level c t i) 4) turned).map datP) ∧ LstS H' l3 (((partN (insL (insF f level c t) 4) (insL (fun i => !insF f level c t i) 4) turned).take i).map (ptsN c t)))
        ⟨none, none, rfl, s6, gp, rp, [], e3, .nil⟩ (fun i σ H' _ ⟨_, _, _, _, q, _⟩ => SqL.of q) ?_ ?_⟩
      · rintro i x σ H3 hx ⟨v10, v11, rfl, s7, gp3, rp3, vs3, g3, r3⟩
        obtain ⟨d, hd, md⟩ := imAll_get rp3 hx
        rw [List.getElem?_map] at hd
        obtain ⟨tri, htri, rfl⟩ := Option.map_eq_some_iff.mp hd
        have hmem := List.mem_of_getElem? htri
        obtain ⟨tl, tp⟩ := part_ok (insF f level c t) turned tri hmem
        obtain ⟨ax, xs, rfl, qx, rx⟩ := im_tup md
        have xl : xs.length = 3 := by
          rw [imAll_len rx, List.length_map, tl]
        refine ⟨_, rfl, .inl ⟨rfl, _, SqL.of g3⟩, _, rfl, ax, rfl, ⟨_, qx⟩, fun D hD => ?_⟩
        have sD : Same H3 (upd H3 D (.lst [])) := same_new hD
        have neD : l3 ≠ D := ne_of_none g3 hD
        have nepD : lp ≠ D := ne_of_none gp3 hD
        have hHD : H D = none := s7.free hD
        refine lc_tup (K := K) (a := ax) (xs := xs) (fun j H' => Same H3 H' ∧ LstS H' D ((tri.take j).map fun p => encCut (way c (t.getD p.1 0) (t.getD p.2 0)))) ⟨sD, [], upd_same, .nil⟩ (fun j H' _ ⟨q, _⟩ => same_tup q qx) ?_ ?_
        · rintro j y H4 hy ⟨s8, vs4, g4, r4⟩
          refine ⟨rfl, ?_⟩
          obtain ⟨d2, hd2, md2⟩ := imAll_get rx hy
          rw [List.getElem?_map] at hd2
          obtain ⟨pr, hpr, rfl⟩ := Option.map_eq_some_iff.mp hd2
          obtain ⟨p1, p2, p3⟩ := tp pr (List.mem_of_getElem? hpr)
          refine ⟨_, rfl, _, rfl, _, rfl, vc, .ref at', y, c, t, pr.1, pr.2, rfl, im_same (s7.trans s8) hc, im_same (s7.trans s8) rt, im_same s8 md2, (by omega), (by omega), p3, hs, fun v H5 s9 m9 => ?_⟩
          have g5 := s9 _ _ g4
          have l4 : vs4.length ≤ 3 := by
            rw [isAll_len r4, List.length_map, List.length_take]
            omega
          refine ⟨_, g5, small_line' (by omega), same_own (s8.trans s9) hD, ?_⟩
          have et : tri.take (j + 1) = tri.take j ++ [pr] := by
            rw [List.take_succ, hpr]
            rfl
          rw [et, List.map_append]
          exact LstS.push g5 (isAll_keep (Tups.of s9) r4) m9
        · rintro H4 ⟨s8, vs4, g4, r4⟩
          rw [List.take_of_length_le (by omega)] at r4
          refine ⟨D, _, rfl, .inl ⟨SqL.of g4, fun tt htt => ?_⟩⟩
          have g6 : (upd H4 tt (.tup vs4)) l3 = some (.lst vs3) := (s8.trans (same_new htt)) _ _ g3
          refine ⟨l3, vs3, _, rfl, rfl, g6, small_line' (by have pl := part_len (insL (insF f level c t) 4) (insL (fun i => !insF f level c t i) 4) turned; rw [isAll_len r3, List.length_map, List.length_take]; omega), ?_⟩
          have s10 : Same H3 (upd H4 tt (.tup vs4)) := s8.trans (same_new htt)
          refine ⟨_, _, rfl, same_own (s7.trans s10) hn3, ?_, ?_, ?_⟩
          · rw [upd_ne ne3p]
            exact s10 _ _ gp3
          · exact imAll_keep ((Tups.of s10).trans (Tups.updL g6)) rp3
          · have et : (partN (insL (insF f level c t) 4) (insL (fun i => !insF f level c t i) 4) turned).take (i + 1) = (partN (insL (insF f level c t) 4) (insL (fun i => !insF f level c t i) 4) turned).take i ++ [tri] := by
              rw [List.take_succ, htri]
              rfl
            rw [et, List.map_append]
            exact LstS.push g6 (isAll_keep (Tups.of s10) r3) (.tup upd_same (isAll_keep (Tups.updN htt) r4))
      · rintro σ H3 ⟨v10, v11, rfl, s7, gp3, rp3, L3⟩
        rw [List.take_of_length_le (by rw [imAll_len rp, List.length_map]; exact Nat.le_refl _)] at L3
        refine ⟨_, rfl, k l3 H3 hn3 s7 ?_⟩
        rw [pieces_eq]
        exact L3
def Tab (K : PySem.W.Frag) (A : Ad) : Prop := ∀ H : Hp, Im K H (.ref A.t_TETRAHEDRA) (.tup (Rc29.SIX.map encS))
def sp_surface (K : PySem.W.Frag) (A : Ad) : Sp := fun vs H Q _ => ∃ (af : Addr) (f : Rc29.Field) (level : Int), vs = [.ref af, .int level] ∧ FieldAt A H af f ∧
  ∀ (l : Addr) (H' : Hp), H l = none → Same H H' → LstS H' l ((Rc29.surface f level).map encT) → Q (.ref l) H'
abbrev sixF (f : Rc29.Field) (level : Int) (c : Rc29.P) (s : List Nat × Bool) : List Triangle := Rc29.pieces c s.1 s.2 (insF f level c s.1)
theorem surface_eq (f : Rc29.Field) (level : Int) : Rc29.surface f level = f.cubes.flatMap fun c => Rc29.SIX.flatMap (sixF f level c) := rfl
theorem six_ok : ∀ s ∈ Rc29.SIX, s.1.length = 4 ∧ s.1.Pairwise (· < ·) := by decide
theorem six_len (f : Rc29.Field) (level : Int) (c : Rc29.P) (s : List Nat × Bool) : (sixF f level c s).length ≤ 2 := by
  have e := congrArg List.length (pieces_eq c s.1 s.2 (insF f level c s.1))
  rw [List.length_map, List.length_map] at e
  have := part_len (insL (insF f level c s.1) 4) (insL (fun i => !insF f level c s.1 i) 4) s.2
  show (Rc29.pieces c s.1 s.2 (insF f level c s.1)).length ≤ 2
  omega
theorem flat_len {α β : Type} {g : α → List β} {m : Nat} (h : ∀ a, (g a).length ≤ m) : ∀ l : List α, (l.flatMap g).length ≤ m * l.length
  | [] => Nat.zero_le _
  | a :: l => by
    rw [List.flatMap_cons, List.length_append, List.length_cons, Nat.mul_succ]
    have := h a
    have := flat_len h l
    omega
theorem flat_take {α β : Type} {g : α → List β} {l : List α} {i : Nat} {a : α} (h : l[i]? = some a) : (l.take (i + 1)).flatMap g = (l.take i).flatMap g ++ g a := by
  rw [List.take_succ, h, List.flatMap_append]
  simp
theorem cubes_in {f : Rc29.Field} {c : Rc29.P} (h : c ∈ f.cubes) : InGrid f c := by
  unfold Rc29.Field.cubes at h
  obtain ⟨z, hz, h⟩ := List.mem_flatMap.mp h
  obtain ⟨y, hy, h⟩ := List.mem_flatMap.mp h
  obtain ⟨x, hx, rfl⟩ := List.mem_map.mp h
  have := List.mem_range.mp hz
  have := List.mem_range.mp hy
  have := List.mem_range.mp hx
  refine ⟨?_, ?_, ?_⟩ <;> dsimp only <;> omega
theorem ok_surface_triangles (T : Txt K mg A) (B : Tab K A) : Prom P w K mg base 5 A.f_surface_triangles ["field", "level"] (sp_surface K A) := by
  obtain ⟨fd_Field_cubes, G_Field_cubes, b_Field_cubes, kp_Field_cubes⟩ := ok_Field_cubes (P := P) (w := w) (base := base) T
  obtain ⟨fd_tetrahedron_triangles, G_tetrahedron_triangles, b_tetrahedron_triangles, kp_tetrahedron_triangles⟩ := ok_tetrahedron_triangles (P := P) (w := w) (base := base) T
  refine T.d_surface_triangles.prom sc_surface_triangles (fun vs H Q E h => ?_) (fun cdv A' outer s H vs Q E hr h => ?_)
  · obtain ⟨af, f, level, rfl, _⟩ := h
    rfl
  · obtain ⟨af, f, level, rfl, F, k⟩ := h
    refine ⟨_, (pss_cons (ps_set (i := 2) sc_surface_triangles.nd rfl (Or.inl rfl) (pe_lst pa_nil))
      (pss_cons (ps_for PassesOwn.never rfl (pi_list (pe_meth0 (pv 0) T.c_Field T.m_Field_cubes G_Field_cubes (hr.mono (by decide)) b_Field_cubes .nil pass0)) (pg_name (i := 3) sc_surface_triangles.nd rfl (Or.inl rfl)) (pss_one (ps_for PassesOwn.never rfl (pi_tup (pe_glob (v := V.ref A.t_TETRAHEDRA) rfl T.g_TETRAHEDRA rfl)) (pg_name (i := 4) sc_surface_triangles.nd rfl (Or.inl rfl)) (pss_one (ps_expr (pe_bm PySem.F.plainAttrs_list PySem.F.slot_list_extend PySem.F.type_list_extend mt_extend (pv 2) (pa_cons (pe_call G_tetrahedron_triangles (hr.mono (by decide)) rfl T.g_tetrahedron_triangles kp_tetrahedron_triangles b_tetrahedron_triangles .nil pass0 (pa_cons (pv 0) (pa_cons (pv 1) (pa_cons (pv 3) (pa_cons (pv 4) pa_nil))))) pa_nil)))))))
      (pss_one (ps_ret (pv 2))))), ?_⟩
    refine ⟨Nat.zero_le _, fun l hl => ?_⟩
    have s0 : Same H (upd H l (.lst [])) := same_new hl
    obtain ⟨dx, fs, e1, e2⟩ := (F.same s0).noMeth (m := "cubes") (by decide +kernel) (by decide +kernel) (by decide +kernel) (by decide +kernel)
    refine ⟨_, rfl, af, dx, fs, rfl, e1, e2, af, f, rfl, F.same s0, fun lc H1 nc s1 ⟨vcs, gc, rc⟩ => ?_⟩
    have nel : lc ≠ l := fun z => by
      rw [z, upd_same] at nc
      cases nc
    have hcl : f.cubes.length ≤ 31 * (31 * 31) := by
      have bx := F.bx
      have bY := F.bY
      have bz := F.bz
      rw [cubes_eq, allC_len]
      exact Nat.mul_le_mul (by omega) (Nat.mul_le_mul (by omega) (by omega))
    have six2 : ∀ c, (Rc29.SIX.flatMap (sixF f level c)).length ≤ 12 := fun c => flat_len (m := 2) (six_len f level c) Rc29.SIX
    refine ⟨lc, rfl, ⟨_, SqL.of gc⟩, for_list (a := lc) (xs := vcs) (fun i σ H' => ∃ v3 v4 : Option V, σ = [some (.ref af), some (.int level), some (.ref l), v3, v4] ∧ Same H H' ∧ H' lc = some (.lst vcs) ∧ ImAll K H' vcs (f.cubes.map encG) ∧
      LstS H' l (((f.cubes.take i).flatMap fun c => Rc29.SIX.flatMap (sixF f level c)).map encT)) ⟨none, none, rfl, s0.trans s1, gc, rc, [], s1 _ _ upd_same, .nil⟩ (fun i σ H' _ ⟨_, _, _, _, q, _⟩ => SqL.of q) ?_ ?_⟩
    · rintro i x σ H2 hx ⟨v3, v4, rfl, s2, gc2, rc2, L2⟩
      obtain ⟨d, hd, md⟩ := imAll_get rc2 hx
      rw [List.getElem?_map] at hd
      obtain ⟨c, hcc, rfl⟩ := Option.map_eq_some_iff.mp hd
      have hin := cubes_in (List.mem_of_getElem? hcc)
      obtain ⟨at', xst, et, qt, rt⟩ := im_tup (B H2)
      cases et
      have rt0 : ∀ H', Same H H' → True := fun _ _ => trivial
      refine ⟨_, rfl, ⟨_, qt⟩, for_tup (a := A.t_TETRAHEDRA) (xs := xst) (fun j σ H' => ∃ v4 : Option V, σ = [some (.ref af), some (.int level), some (.ref l), some x, v4] ∧ Same H H' ∧ H' lc = some (.lst vcs) ∧ Tups H2 H' ∧
        LstS H' l ((((f.cubes.take i).flatMap fun c => Rc29.SIX.flatMap (sixF f level c)) ++ (Rc29.SIX.take j).flatMap (sixF f level c)).map encT)) ⟨v4, rfl, s2, gc2, Tups.of same_refl, by simpa using L2⟩ (fun j σ H' _ ⟨_, _, _, _, q, _⟩ => tups_sq q qt) ?_ ?_⟩
      · rintro j y σ H3 hy ⟨v4, rfl, s3, gc3, t3, vs3, g3, r3⟩
        obtain ⟨d2, hd2, md2⟩ := imAll_get rt hy
        rw [List.getElem?_map] at hd2
        obtain ⟨sx, hsx, rfl⟩ := Option.map_eq_some_iff.mp hd2
        obtain ⟨q4, qs⟩ := six_ok sx (List.mem_of_getElem? hsx)
        refine ⟨_, rfl, .inl ⟨rfl, _, SqL.of g3⟩, _, rfl, _, rfl, _, rfl, _, rfl, af, x, y, f, level, c, sx, rfl, F.same s3, im_keep t3 md, hin, im_keep t3 md2, q4, qs, fun l5 H4 n5 s4 ⟨vs5, g5, r5⟩ => ?_⟩
        have g6 := s4 _ _ g3
        refine ⟨l, l5, _, _, rfl, rfl, g6, g5, ?_, ?_⟩
        · have c1 : (((f.cubes.take i).flatMap fun c => Rc29.SIX.flatMap (sixF f level c))).length ≤ 12 * (f.cubes.take i).length := flat_len six2 _
          have c2 := six_len f level c sx
          have c3 : ((Rc29.SIX.take j).flatMap (sixF f level c)).length ≤ 2 * (Rc29.SIX.take j).length := flat_len (six_len f level c) _
          have c4 : (Rc29.SIX.take j).length ≤ 6 := by rw [List.length_take]; exact Nat.min_le_right _ _
          have c5 : (f.cubes.take i).length ≤ f.cubes.length := by rw [List.length_take]; exact Nat.min_le_right _ _
          have c6 : (Rc29.pieces c sx.1 sx.2 (insF f level c sx.1)).length ≤ 2 := c2
          rw [isAll_len r3, isAll_len r5, List.length_map, List.length_map, List.length_append, sizeLine_eq]
          omega
        · have s34 := s3.trans s4
          refine ⟨_, rfl, same_own s34 hl, ?_, (t3.trans (Tups.of s4)).trans (Tups.updL g6), ?_⟩
          · rw [upd_ne nel]
            exact s4 _ _ gc3
          · rw [flat_take hsx, ← List.append_assoc, List.map_append]
            exact LstS.grow g6 (isAll_keep (Tups.of s4) r3) r5
      · rintro σ H3 ⟨v4, rfl, s3, gc3, t3, L3⟩
        refine ⟨_, _, rfl, s3, gc3, imAll_keep t3 rc2, ?_⟩
        have el : xst.length = 6 := by
          rw [imAll_len rt]
          rfl
        rw [el, List.take_of_length_le (show Rc29.SIX.length ≤ 6 by decide)] at L3
        rw [flat_take hcc]
        exact L3
    · rintro σ H2 ⟨v3, v4, rfl, s2, gc2, rc2, L2⟩
      rw [List.take_of_length_le (by rw [imAll_len rc, List.length_map]; exact Nat.le_refl _)] at L2
      exact ⟨_, rfl, k l H2 hl s2 L2⟩
end
end Fs
end
section
set_option Elab.async false
set_option linter.all false
set_option maxRecDepth 100000
set_option maxHeartbeats 4000001
namespace Fs
open PySem PySem.Spec PyProof.Rows L2
def SameB (r : Addr) (H H' : Hp) : Prop := ∀ b o, b ≠ r → H b = some o → H' b = some o
theorem SameB.of {r : Addr} {H H' : Hp} (e : Same H H') : SameB r H H' := fun b o _ h => e b o h
theorem SameB.trans {r : Addr} {H H1 H2 : Hp} (a : SameB r H H1) (b : SameB r H1 H2) : SameB r H H2 := fun c o n h => b c o n (a c o n h)
theorem SameB.upd {r : Addr} {H : Hp} {o : HO} : SameB r H (upd H r o) := fun b u n h => by
  rw [upd_ne n]
  exact h
theorem SameB.tups {r C dx : Addr} {fs : List (Str × V)} {H H' : Hp} (e : SameB r H H') (h : H r = some (.ins C dx fs)) : Tups H H' := fun b xs =>
  ⟨fun q => e b _ (ne_of q h (by intro z; cases z)) q, fun o q => e b _ (ne_of q h (by intro z; cases z)) q⟩
theorem SameB.seq {K : PySem.W.Frag} {r C dx : Addr} {fs : List (Str × V)} {H H' : Hp} {a : Addr} {xs : List V} (e : SameB r H H') (h : H r = some (.ins C dx fs)) (s : SqL K H a xs) : SqL K H' a xs := by
  rcases s with (s | ⟨o, s⟩) | s
  · exact .inl (.inl (e _ _ (ne_of s h (by intro z; cases z)) s))
  · exact .inl (.inr ⟨o, e _ _ (ne_of s h (by intro z; cases z)) s⟩)
  · exact .inr s
structure ReaderAt (A : Ad) (H : Hp) (r l : Addr) (pos : Nat) : Prop where
  ex : ∃ (dx : Addr) (fs : List (Str × V)), H r = some (.ins A.C_Reader dx fs) ∧ fs.lookup ("numbers" : Str) = some (.ref l) ∧ fs.lookup ("position" : Str) = some (.int pos) ∧ (∀ m : Str, m ≠ "numbers" → m ≠ "position" → fs.lookup m = none) ∧ fs.length ≤ 100
theorem ReaderAt.keep {A : Ad} {H H' : Hp} {r l : Addr} {pos : Nat} (R : ReaderAt A H r l pos) {b : Addr} (e : SameB b H H') (n : r ≠ b) : ReaderAt A H' r l pos := by
  obtain ⟨dx, fs, h1, h2, h3, h4, h5⟩ := R.ex
  exact ⟨dx, fs, e _ _ n h1, h2, h3, h4, h5⟩
theorem ReaderAt.same {A : Ad} {H H' : Hp} {r l : Addr} {pos : Nat} (R : ReaderAt A H r l pos) (e : Same H H') : ReaderAt A H' r l pos := by
  obtain ⟨dx, fs, h1, h2, h3, h4, h5⟩ := R.ex
  exact ⟨dx, fs, e _ _ h1, h2, h3, h4, h5⟩
def sp_Reader_init (K : PySem.W.Frag) (A : Ad) : Sp := fun vs H Q _ => ∃ (p dx l : Addr), vs = [.ref p, .ref l] ∧ H p = some (.ins A.C_Reader dx []) ∧ ∀ H' : Hp, ReaderAt A H' p l 0 → SameB p H H' → Q .non H'
def sp_has_more (K : PySem.W.Frag) (A : Ad) : Sp := fun vs H Q _ => ∃ (r l : Addr) (pos : Nat) (ns : List Int), vs = [.ref r] ∧ ReaderAt A H r l pos ∧ SqL K H l (ns.map V.int) ∧ Q (.bl (decide (pos < ns.length))) H
def sp_take (K : PySem.W.Frag) (A : Ad) : Sp := fun vs H Q _ => ∃ (r l : Addr) (pos : Nat) (ns : List Int) (z : Int), vs = [.ref r] ∧ ReaderAt A H r l pos ∧ SqL K H l (ns.map V.int) ∧ ns[pos]? = some z ∧ ∀ H' : Hp, ReaderAt A H' r l (pos + 1) → SameB r H H' → Q (.int z) H'
def sp_take_row (K : PySem.W.Frag) (A : Ad) : Sp := fun vs H Q _ => ∃ (r l : Addr) (pos : Nat) (ns row : List Int), vs = [.ref r] ∧ ReaderAt A H r l pos ∧ SqL K H l (ns.map V.int) ∧ (∃ rest, ns.drop pos = (row.length : Int) :: row ++ rest) ∧ ns.length ≤ 100000 ∧
  ∀ (H' : Hp) (p : Addr), ReaderAt A H' r l (pos + 1 + row.length) → SameB r H H' → H p = none → H' p = some (.lst (row.map V.int)) → Q (.ref p) H'
theorem lk_put {f g : Str} {v : V} {fs : List (Str × V)} (h : f = g) : (putF f v fs).lookup g = some v := by
  rw [lookup_putF, if_pos h.symm]
theorem lk_skip {f g : Str} {v : V} {fs : List (Str × V)} (h : g ≠ f) : (putF f v fs).lookup g = fs.lookup g := by
  rw [lookup_putF, if_neg h]
theorem len_put {f : Str} {v x : V} : ∀ {fs : List (Str × V)}, fs.lookup f = some x → (putF f v fs).length = fs.length
  | [], h => by cases h
  | (k, y) :: r, h => by
    rw [show putF f v ((k, y) :: r) = (if k = f then (k, v) :: r else (k, y) :: putF f v r) from rfl]
    by_cases hk : k = f
    · rw [if_pos hk]
      rfl
    · rw [if_neg hk, List.length_cons, List.length_cons]
      refine congrArg (· + 1) (len_put (x := x) ?_)
      have hb : (f == k) = false := beq_eq_false_iff_ne.mpr (fun e => hk e.symm)
      simp only [List.lookup, hb] at h
      exact h
theorem ReaderAt.moved {A : Ad} {H : Hp} {r l dx : Addr} {fs : List (Str × V)} {pos q : Nat} (h1 : H r = some (.ins A.C_Reader dx fs)) (h2 : fs.lookup ("numbers" : Str) = some (.ref l)) (h3 : fs.lookup ("position" : Str) = some (.int pos))
    (h4 : ∀ m : Str, m ≠ "numbers" → m ≠ "position" → fs.lookup m = none) (h5 : fs.length ≤ 100) {z : Int} (e : z = (q : Int)) : ReaderAt A (upd H r (.ins A.C_Reader dx (putF "position" (.int z) fs))) r l q := by
  subst e
  refine ⟨dx, _, upd_same, ?_, ?_, ?_, ?_⟩
  · rw [lk_skip (by decide +kernel)]
    exact h2
  · rw [lk_put rfl]
  · intro m m1 m2
    rw [lk_skip m2]
    exact h4 m m1 m2
  · rw [len_put h3]
    exact h5
section
variable {P : Program} {w : World} {K : PySem.W.Frag} {mg : Str → Option Value} {base : Heap} {A : Ad}
theorem ok_Reader_init (T : Txt K mg A) : Prom P w K mg base 1 A.f_Reader_init ["self", "numbers"] (sp_Reader_init K A) := by
  skip
  refine T.d_Reader_init.prom sc_Reader_init (fun vs H Q E h => ?_) (fun cdv A' outer s H vs Q E hr h => ?_)
  · obtain ⟨p, dx, l, rfl, _⟩ := h
    rfl
  · obtain ⟨p, dx, l, rfl, hp, k⟩ := h
    refine ⟨_, (pss_cons (ps_fld (pv 0) (pv 1) rfl)
      (pss_one (ps_fld (pv 0) pe_int rfl))), ?_⟩
    refine ⟨_, rfl, _, rfl, p, A.C_Reader, dx, [], rfl, hp, T.c_Reader, T.n_Reader_numbers, (by simp), ?_⟩
    refine ⟨_, rfl, p, A.C_Reader, dx, _, rfl, upd_same, T.c_Reader, T.n_Reader_position, (by simp [putF]), ?_⟩
    refine k _ ⟨dx, _, upd_same, ?_, ?_, ?_, ?_⟩ (SameB.upd.trans SameB.upd)
    · rw [lk_skip (by decide +kernel), lk_put rfl]
    · rw [lk_put rfl]
      rfl
    · intro m h1 h2
      rw [lk_skip h2, lk_skip h1]
      rfl
    · refine Nat.le_trans (length_putF _ _ _) (Nat.le_trans (Nat.succ_le_succ (length_putF _ _ _)) ?_)
      decide
theorem ok_Reader_has_more (T : Txt K mg A) : Prom P w K mg base 1 A.f_Reader_has_more ["self"] (sp_has_more K A) := by
  skip
  refine T.d_Reader_has_more.prom sc_Reader_has_more (fun vs H Q E h => ?_) (fun cdv A' outer s H vs Q E hr h => ?_)
  · obtain ⟨r, l, pos, ns, rfl, _⟩ := h
    rfl
  · obtain ⟨r, l, pos, ns, rfl, R, hl, k⟩ := h
    obtain ⟨dx, fs, h1, h2, h3, h4, h5⟩ := R.ex
    refine ⟨_, (pss_one (ps_ret (pe_cmpR op_lt (pe_fld (pv 0) rfl) (pe_callB call_len_seq (by rfl) T.b_len PySem.boot_len (pa_cons (pe_fld (pv 0) rfl) pa_nil)) (nomark _)))), ?_⟩
    refine ⟨_, rfl, r, A.C_Reader, dx, fs, _, rfl, h1, T.c_Reader, T.n_Reader_position, h3, ?_⟩
    refine ⟨_, rfl, r, A.C_Reader, dx, fs, _, rfl, h1, T.c_Reader, T.n_Reader_numbers, h2, l, _, rfl, .inl hl, _, _, rfl, rfl, ?_⟩
    have e : decide ((pos : Int) < ((ns.map V.int).length : Int)) = decide (pos < ns.length) := by
      rw [List.length_map]
      simp
    show Q (.bl (decide ((pos : Int) < ((ns.map V.int).length : Int)))) H
    rw [e]
    exact k
theorem ok_Reader_take (T : Txt K mg A) : Prom P w K mg base 1 A.f_Reader_take ["self"] (sp_take K A) := by
  skip
  refine T.d_Reader_take.prom sc_Reader_take (fun vs H Q E h => ?_) (fun cdv A' outer s H vs Q E hr h => ?_)
  · obtain ⟨r, l, pos, ns, z, rfl, _⟩ := h
    rfl
  · obtain ⟨r, l, pos, ns, z, rfl, R, hl, hz, k⟩ := h
    obtain ⟨dx, fs, h1, h2, h3, h4, h5⟩ := R.ex
    refine ⟨_, (pss_cons (ps_set (i := 1) sc_Reader_take.nd rfl (Or.inl rfl) (pe_ix ix_list (pe_fld (pv 0) rfl) (pe_fld (pv 0) rfl) (fun _ _ => rfl)))
      (pss_cons (ps_fldaug (pv 0) pe_int in_add)
      (pss_one (ps_ret (pv 1))))), ?_⟩
    refine ⟨_, rfl, r, A.C_Reader, dx, fs, _, rfl, h1, T.c_Reader, T.n_Reader_numbers, h2, ?_⟩
    refine ⟨_, rfl, r, A.C_Reader, dx, fs, _, rfl, h1, T.c_Reader, T.n_Reader_position, h3, l, _, _, .int z, rfl, rfl, hl, at_of (j := pos) rfl (by rw [List.getElem?_map, hz]; rfl), ?_⟩
    refine ⟨_, rfl, r, A.C_Reader, dx, fs, _, rfl, h1, T.c_Reader, T.n_Reader_position, h3, _, _, rfl, rfl, ?_⟩
    refine ⟨dx, fs, h1, (by omega), ?_⟩
    refine ⟨_, rfl, ?_⟩
    exact k _ (ReaderAt.moved h1 h2 h3 h4 h5 (by simp)) SameB.upd
theorem ok_Reader_take_row (T : Txt K mg A) : Prom P w K mg base 2 A.f_Reader_take_row ["self"] (sp_take_row K A) := by
  obtain ⟨fd_Reader_take, G_Reader_take, b_Reader_take, kp_Reader_take⟩ := ok_Reader_take (P := P) (w := w) (base := base) T
  refine T.d_Reader_take_row.prom sc_Reader_take_row (fun vs H Q E h => ?_) (fun cdv A' outer s H vs Q E hr h => ?_)
  · obtain ⟨r, l, pos, ns, row, rfl, _⟩ := h
    rfl
  · obtain ⟨r, l, pos, ns, row, rfl, R, hl, ⟨rest, hrest⟩, hn, k⟩ := h
    obtain ⟨dx0, fs0, g1, _⟩ := R.ex
    have hpos : ns[pos]? = some (row.length : Int) := by
      have := congrArg (fun l => l[0]?) hrest
      simpa using this
    have hd1 : ns.drop (pos + 1) = row ++ rest := by
      have := congrArg (fun l => l.drop 1) hrest
      simpa [List.drop_drop, Nat.add_comm] using this
    have nometh : fs0.lookup ("take" : Str) = none := by
      obtain ⟨dx1, fs1, h1, h2, h3, h4, h5⟩ := R.ex
      rw [g1] at h1
      cases h1
      exact h4 _ (by decide +kernel) (by decide +kernel)
    refine ⟨_, (pss_cons (ps_set (i := 1) sc_Reader_take_row.nd rfl (Or.inl rfl) (pe_meth0 (pv 0) T.c_Reader T.m_Reader_take G_Reader_take (hr.mono (by decide)) b_Reader_take .nil pass0))
      (pss_cons (ps_set (i := 2) sc_Reader_take_row.nd rfl (Or.inl rfl) (pe_op op_add (pe_fld (pv 0) rfl) (pv 1)))
      (pss_cons (ps_set (i := 3) sc_Reader_take_row.nd rfl (Or.inl rfl) (pe_slice sl_list (pe_fld (pv 0) rfl) (po_some (pe_fld (pv 0) rfl)) (po_some (pv 2))))
      (pss_cons (ps_fld (pv 0) (pv 2) rfl)
      (pss_one (ps_ret (pv 3))))))), ?_⟩
    refine ⟨_, rfl, r, dx0, fs0, rfl, g1, nometh, r, l, pos, ns, _, rfl, R, hl, hpos, fun H1 R1 s1 => ?_⟩
    obtain ⟨dx, fs, h1, h2, h3, h4, h5⟩ := R1.ex
    have hl1 := s1.seq g1 hl
    refine ⟨_, rfl, r, A.C_Reader, dx, fs, _, rfl, h1, T.c_Reader, T.n_Reader_position, h3, _, rfl, _, _, rfl, rfl, ?_⟩
    refine ⟨_, rfl, r, A.C_Reader, dx, fs, _, rfl, h1, T.c_Reader, T.n_Reader_numbers, h2, ?_⟩
    refine ⟨_, rfl, r, A.C_Reader, dx, fs, _, rfl, h1, T.c_Reader, T.n_Reader_position, h3, _, rfl, _, rfl, _, rfl, l, _, rfl, hl1, fun p hp => ?_⟩
    have hrow : cutV (ns.map V.int) (some ((pos + 1 : Nat) : Int)) (some (((pos + 1 : Nat) : Int) + (row.length : Int))) = row.map V.int := by
      have hp1 : pos < ns.length := (List.getElem?_eq_some_iff.mp hpos).1
      have hln := congrArg List.length hd1
      rw [List.length_drop, List.length_append] at hln
      unfold cutV
      rw [show (((pos + 1 : Nat) : Int) + (row.length : Int)) = ((pos + 1 + row.length : Nat) : Int) by omega, HT.sIx_nat, HT.sIx_nat, List.length_map, Nat.min_eq_left (by omega), Nat.min_eq_left (by omega), ← List.map_drop, hd1,
        show pos + 1 + row.length - (pos + 1) = row.length by omega, ← List.map_take, List.take_left']
      rfl
    have ne : r ≠ p := ne_of_none h1 hp
    refine ⟨_, rfl, _, rfl, r, A.C_Reader, dx, fs, rfl, (by rw [upd_ne ne]; exact h1), T.c_Reader, T.n_Reader_position, (by omega), ?_⟩
    refine ⟨_, rfl, ?_⟩
    refine k _ p ?_ ((s1.trans (SameB.of (same_new hp))).trans SameB.upd) ?_ ?_
    · exact ReaderAt.moved (by rw [upd_ne ne]; exact h1) h2 h3 h4 h5 (by simp)
    · cases q : H p with
      | none => rfl
      | some o =>
        have := s1 p o (Ne.symm ne) q
        rw [hp] at this
        cases this
    · rw [upd_ne (Ne.symm ne), upd_same]
      exact congrArg (fun z => some (HO.lst z)) hrow
def sp_Field_init (K : PySem.W.Frag) (A : Ad) : Sp := fun vs H Q _ => ∃ (p dx l : Addr) (f : Rc29.Field), vs = [.ref p, .int f.nx, .int f.ny, .int f.nz, .ref l] ∧ H p = some (.ins A.C_Field dx []) ∧ SqL K H l (f.values.map V.int) ∧
  (2 ≤ f.nx ∧ f.nx ≤ 32) ∧ (2 ≤ f.ny ∧ f.ny ≤ 32) ∧ (2 ≤ f.nz ∧ f.nz ≤ 32) ∧ f.values.length = f.nx * f.ny * f.nz ∧ ∀ H' : Hp, FieldAt A H' p f → SameB p H H' → Q .non H'
theorem ok_Field_init (T : Txt K mg A) : Prom P w K mg base 1 A.f_Field_init ["self", "nx", "ny", "nz", "numbers"] (sp_Field_init K A) := by
  skip
  refine T.d_Field_init.prom sc_Field_init (fun vs H Q E h => ?_) (fun cdv A' outer s H vs Q E hr h => ?_)
  · obtain ⟨p, dx, l, f, rfl, _⟩ := h
    rfl
  · obtain ⟨p, dx, l, f, rfl, hp, hl, bx, bY, bz, hlen, k⟩ := h
    refine ⟨_, (pss_cons (ps_fld (pv 0) (pv 1) rfl)
      (pss_cons (ps_fld (pv 0) (pv 2) rfl)
      (pss_cons (ps_fld (pv 0) (pv 3) rfl)
      (pss_one (ps_fld (pv 0) (pe_callTy call_list_of (by rfl) T.b_list boot_list (pa_cons (pv 4) pa_nil)) rfl))))), ?_⟩
    refine ⟨_, rfl, _, rfl, p, A.C_Field, dx, [], rfl, hp, T.c_Field, T.n_Field_nx, (by simp), ?_⟩
    refine ⟨_, rfl, _, rfl, p, A.C_Field, dx, _, rfl, upd_same, T.c_Field, T.n_Field_ny, ?_, ?_⟩
    · exact Nat.lt_of_le_of_lt (length_putF _ _ _) (by decide)
    refine ⟨_, rfl, _, rfl, p, A.C_Field, dx, _, rfl, upd_same, T.c_Field, T.n_Field_nz, ?_, ?_⟩
    · exact Nat.lt_of_le_of_lt (Nat.le_trans (length_putF _ _ _) (Nat.succ_le_succ (length_putF _ _ _))) (by decide)
    have s3 := ((SameB.upd (r := p) (H := H) (o := .ins A.C_Field dx (putF "nx" (.int f.nx) []))).trans (SameB.upd (o := .ins A.C_Field dx (putF "ny" (.int f.ny) (putF "nx" (.int f.nx) []))))).trans (SameB.upd (o := .ins A.C_Field dx (putF "nz" (.int f.nz) (putF "ny" (.int f.ny) (putF "nx" (.int f.nx) [])))))
    refine ⟨_, rfl, l, _, rfl, .inl (s3.seq hp hl), fun q hq => ?_⟩
    have ne : p ≠ q := ne_of_none upd_same hq
    refine ⟨_, rfl, p, A.C_Field, dx, _, rfl, (by rw [upd_ne ne]; exact upd_same), T.c_Field, T.n_Field_numbers, ?_, ?_⟩
    · exact Nat.lt_of_le_of_lt (Nat.le_trans (length_putF _ _ _) (Nat.succ_le_succ (Nat.le_trans (length_putF _ _ _) (Nat.succ_le_succ (length_putF _ _ _))))) (by decide)
    refine k _ ⟨⟨dx, q, _, upd_same, ?_, ?_, ?_, ?_, ?_, ?_⟩, bx, bY, bz, hlen⟩ ((s3.trans (SameB.of (same_new hq))).trans SameB.upd)
    · rw [lk_skip (by decide +kernel), lk_skip (by decide +kernel), lk_skip (by decide +kernel), lk_put rfl]
    · rw [lk_skip (by decide +kernel), lk_skip (by decide +kernel), lk_put rfl]
    · rw [lk_skip (by decide +kernel), lk_put rfl]
    · rw [lk_put rfl]
    · intro m h1 h2 h3 h4
      rw [lk_skip h4, lk_skip h3, lk_skip h2, lk_skip h1]
      rfl
    · rw [upd_ne (Ne.symm ne)]
      exact upd_same
end
end Fs
end
section
set_option Elab.async false
set_option linter.all false
set_option maxRecDepth 100000
set_option maxHeartbeats 4000001
namespace Fs
open PySem PySem.Spec PyProof.Rows L2
def inG (f : Rc29.Field) (x y z : Int) : Bool := decide ((0 ≤ x ∧ x < f.nx) ∧ (0 ≤ y ∧ y < f.ny) ∧ 0 ≤ z ∧ z < f.nz)
def sp_has_place (K : PySem.W.Frag) (A : Ad) : Sp := fun vs H Q _ => ∃ (a : Addr) (v : V) (f : Rc29.Field) (x y z : Int), vs = [.ref a, v] ∧ FieldAt A H a f ∧ Im K H v (tI [x, y, z]) ∧ Q (.bl (inG f x y z)) H
def wayOk (f : Rc29.Field) (x y z d : Int) : Bool := decide (1 ≤ d ∧ d ≤ 7) && (inG f x y z && inG f (x + d % 2) (y + d / 2 % 2) (z + d / 4 % 2))
def sp_has_way (K : PySem.W.Frag) (A : Ad) : Sp := fun vs H Q _ => ∃ (a : Addr) (v : V) (f : Rc29.Field) (x y z d : Int), vs = [.ref a, v, .int d] ∧ FieldAt A H a f ∧ Im K H v (tI [x, y, z]) ∧ ∀ H' : Hp, Same H H' → Q (.bl (wayOk f x y z d)) H'
def sp_is_cut : Sp := fun vs H Q _ => ∃ a b l : Int, vs = [.int a, .int b, .int l] ∧ Q (.bl (!decide (decide (l ≤ a) = decide (l ≤ b)))) H
def sp_gcd : Sp := fun vs H Q _ => ∃ a b : Nat, vs = [.int a, .int b] ∧ Q (.int (Nat.gcd a b : Nat)) H
def sp_part : Sp := fun vs H Q _ => ∃ a b l : Int, vs = [.int a, .int b, .int l] ∧ a ≠ b ∧ (-100000 ≤ a ∧ a ≤ 100000) ∧ (-100000 ≤ b ∧ b ≤ 100000) ∧
  ∀ p : Addr, H p = none → Q (.ref p) (upd H p (.lst [.int (((l - a).natAbs / Nat.gcd (l - a).natAbs (b - a).natAbs : Nat) : Int), .int (((b - a).natAbs / Nat.gcd (l - a).natAbs (b - a).natAbs : Nat) : Int)]))
theorem abs_nat (i : Int) : (if i < 0 then -i else i) = (i.natAbs : Int) := by
  split <;> omega
theorem dec_bl2 (x y : Bool) : decide (V.bl x = V.bl y) = decide (x = y) := by
  cases x <;> cases y <;> rfl
section
variable {P : Program} {w : World} {K : PySem.W.Frag} {mg : Str → Option Value} {base : Heap} {A : Ad}
theorem ok_Field_has_place (T : Txt K mg A) : Prom P w K mg base 1 A.f_Field_has_place ["self", "place"] (sp_has_place K A) := by
  skip
  refine T.d_Field_has_place.prom sc_Field_has_place (fun vs H Q E h => ?_) (fun cdv A' outer s H vs Q E hr h => ?_)
  · obtain ⟨a, v, f, x, y, z, rfl, _⟩ := h
    rfl
  · obtain ⟨a, v, f, x, y, z, rfl, F, hv, k⟩ := h
    obtain ⟨q, rfl, hq⟩ := im_tI hv
    obtain ⟨dx, l, fs, h1, h2, h3, h4, h5, h6, h7⟩ := F.ex
    have no : ¬ ((0 ≤ x ∧ x < f.nx) ∧ (0 ≤ y ∧ y < f.ny) ∧ 0 ≤ z ∧ z < f.nz) → Q (.bl false) H := fun c => by
      have e : inG f x y z = false := decide_eq_false c
      rw [← e]
      exact k
    refine ⟨_, (pss_one (ps_ret (pe_and (pe_chain op_le op_lt pe_int (pe_ix ix_tup (pv 1) pe_int (fun _ _ => rfl)) (pe_fld (pv 0) rfl)) (pe_and (pe_chain op_le op_lt pe_int (pe_ix ix_tup (pv 1) pe_int (fun _ _ => rfl)) (pe_fld (pv 0) rfl)) (pe_one (pe_chain op_le op_lt pe_int (pe_ix ix_tup (pv 1) pe_int (fun _ _ => rfl)) (pe_fld (pv 0) rfl))))))), ?_⟩
    refine ⟨_, rfl, q, _, _, _, rfl, rfl, hq, at0, _, _, rfl, rfl, _, rfl, ?_⟩
    by_cases c1 : (0 : Int) ≤ x
    · rw [decide_eq_true c1]
      refine iteT ⟨_, rfl, a, A.C_Field, dx, fs, _, rfl, h1, T.c_Field, T.n_Field_nx, h2, _, _, rfl, rfl, _, rfl, ?_⟩
      by_cases c2 : x < f.nx
      · rw [decide_eq_true c2]
        refine iteT ⟨_, rfl, q, _, _, _, rfl, rfl, hq, at1, _, _, rfl, rfl, _, rfl, ?_⟩
        by_cases c3 : (0 : Int) ≤ y
        · rw [decide_eq_true c3]
          refine iteT ⟨_, rfl, a, A.C_Field, dx, fs, _, rfl, h1, T.c_Field, T.n_Field_ny, h3, _, _, rfl, rfl, _, rfl, ?_⟩
          by_cases c4 : y < f.ny
          · rw [decide_eq_true c4]
            refine iteT ⟨_, rfl, q, _, _, _, rfl, rfl, hq, at2, _, _, rfl, rfl, _, rfl, ?_⟩
            by_cases c5 : (0 : Int) ≤ z
            · rw [decide_eq_true c5]
              refine iteT ⟨_, rfl, a, A.C_Field, dx, fs, _, rfl, h1, T.c_Field, T.n_Field_nz, h4, _, _, rfl, rfl, ?_⟩
              show Q (.bl (decide (z < (f.nz : Int)))) H
              by_cases c6 : z < f.nz
              · have e : inG f x y z = true := decide_eq_true ⟨⟨c1, c2⟩, ⟨c3, c4⟩, c5, c6⟩
                rw [e] at k
                rw [decide_eq_true c6]
                exact k
              · rw [decide_eq_false c6]
                exact no fun c => c6 c.2.2.2
            · rw [decide_eq_false c5]
              exact iteF (no fun c => c5 c.2.2.1)
          · rw [decide_eq_false c4]
            exact iteF (no fun c => c4 c.2.1.2)
        · rw [decide_eq_false c3]
          exact iteF ⟨_, rfl, iteF (no fun c => c3 c.2.1.1)⟩
      · rw [decide_eq_false c2]
        exact iteF (no fun c => c2 c.1.2)
    · rw [decide_eq_false c1]
      exact iteF ⟨_, rfl, iteF (no fun c => c1 c.1.1)⟩
theorem ok_Field_has_way (T : Txt K mg A) : Prom P w K mg base 2 A.f_Field_has_way ["self", "start", "direction"] (sp_has_way K A) := by
  obtain ⟨fd_Field_has_place, G_Field_has_place, b_Field_has_place, kp_Field_has_place⟩ := ok_Field_has_place (P := P) (w := w) (base := base) T
  obtain ⟨fd_step, G_step, b_step, kp_step⟩ := ok_step (P := P) (w := w) (base := base) T
  obtain ⟨tk_LOWEST_WAY, hk_LOWEST_WAY⟩ := T.k_LOWEST_WAY
  obtain ⟨tk_HIGHEST_WAY, hk_HIGHEST_WAY⟩ := T.k_HIGHEST_WAY
  refine T.d_Field_has_way.prom sc_Field_has_way (fun vs H Q E h => ?_) (fun cdv A' outer s H vs Q E hr h => ?_)
  · obtain ⟨a, v, f, x, y, z, d, rfl, _⟩ := h
    rfl
  · obtain ⟨a, v, f, x, y, z, d, rfl, F, hv, k⟩ := h
    have no : decide (1 ≤ d ∧ d ≤ 7) = false → ∀ H', Same H H' → Q (.bl false) H' := fun c H' e => by
      have q := k H' e
      unfold wayOk at q
      rw [c, Bool.false_and] at q
      exact q
    have yes : (1 ≤ d ∧ d ≤ 7) → ∀ H', Same H H' → Q (.bl (inG f x y z && inG f (x + d % 2) (y + d / 2 % 2) (z + d / 4 % 2))) H' := fun c H' e => by
      have q := k H' e
      unfold wayOk at q
      rw [decide_eq_true c, Bool.true_and] at q
      exact q
    have meth : ∀ {H' : Hp}, FieldAt A H' a f → ∃ (dx : Addr) (fs : List (Str × V)), H' a = some (.ins A.C_Field dx fs) ∧ fs.lookup ("has_place" : Str) = none := fun F => F.noMeth (m := "has_place") (by decide +kernel) (by decide +kernel) (by decide +kernel) (by decide +kernel)
    have go : (1 ≤ d ∧ d ≤ 7) → ∃ b, tTest (tChain (rI0 fun i j => .bl (decide (i ≤ j))) (rI0 fun i j => .bl (decide (i ≤ j))) (tC (.int 1)) (tVar 2) (tC (.int 7))) = b := fun _ => ⟨_, rfl⟩
    refine ⟨_, (pss_cons (ps_if (pt_not (pt_chain op_le op_le (pe_glob (v := V.int (1)) rfl hk_LOWEST_WAY ⟨_, rfl⟩) (pv 2) (pe_glob (v := V.int (7)) rfl hk_HIGHEST_WAY ⟨_, rfl⟩))) (pss_one (ps_ret pe_bl)) pss_nil)
      (pss_one (ps_ret (pe_and (pe_meth (pv 0) T.c_Field T.m_Field_has_place G_Field_has_place (hr.mono (by decide)) b_Field_has_place .nil pass0 (pa_cons (pv 1) pa_nil)) (pe_one (pe_meth (pv 0) T.c_Field T.m_Field_has_place G_Field_has_place (hr.mono (by decide)) b_Field_has_place .nil pass0 (pa_cons (pe_call G_step (hr.mono (by decide)) rfl T.g_step kp_step b_step .nil pass0 (pa_cons (pv 1) (pa_cons (pv 2) pa_nil))) pa_nil))))))), ?_⟩
    refine ⟨_, rfl, _, _, rfl, rfl, _, rfl, ?_⟩
    by_cases c1 : (1 : Int) ≤ d
    · rw [decide_eq_true c1]
      refine iteT ⟨_, _, rfl, rfl, _, rfl, ?_⟩
      by_cases c2 : d ≤ 7
      · rw [decide_eq_true c2]
        obtain ⟨dx, fs, e1, e2⟩ := meth F
        refine iteF ⟨_, rfl, a, dx, fs, rfl, e1, e2, _, rfl, a, v, f, x, y, z, rfl, F, hv, _, rfl, ?_⟩
        cases c3 : inG f x y z with
        | false =>
          have q := yes ⟨c1, c2⟩ H same_refl
          rw [c3] at q
          exact iteF q
        | true =>
          refine iteT ⟨_, rfl, a, dx, fs, rfl, e1, e2, _, rfl, _, rfl, v, x, y, z, d, rfl, hv, fun p H1 s1 m1 => ?_⟩
          refine ⟨a, p, f, _, _, _, rfl, F.same s1, m1, ?_⟩
          have q := yes ⟨c1, c2⟩ H1 s1
          rw [c3] at q
          exact q
      · rw [decide_eq_false c2]
        exact iteT (no (decide_eq_false fun c => c2 c.2) H same_refl)
    · rw [decide_eq_false c1]
      exact iteF ⟨_, rfl, iteT (no (decide_eq_false fun c => c1 c.1) H same_refl)⟩
theorem ok_is_cut (T : Txt K mg A) : Prom P w K mg base 1 A.f_is_cut ["first", "second", "level"] sp_is_cut := by
  skip
  refine T.d_is_cut.prom sc_is_cut (fun vs H Q E h => ?_) (fun cdv A' outer s H vs Q E hr h => ?_)
  · obtain ⟨a, b, l, rfl, _⟩ := h
    rfl
  · obtain ⟨a, b, l, rfl, k⟩ := h
    refine ⟨_, (pss_one (ps_ret (pe_cmpR op_ne (pe_cmpR op_ge (pv 0) (pv 2) (nomark _)) (pe_cmpR op_ge (pv 1) (pv 2) (nomark _)) (nomark _)))), ?_⟩
    refine ⟨_, rfl, _, rfl, _, _, rfl, rfl, _, rfl, _, rfl, _, _, rfl, rfl, rfl, ?_⟩
    show Q (.bl (!decide (V.bl (decide (l ≤ a)) = V.bl (decide (l ≤ b))))) H
    rw [dec_bl2]
    exact k
theorem ok_common_divisor (T : Txt K mg A) : Prom P w K mg base 1 A.f_common_divisor ["larger", "smaller"] sp_gcd := by
  skip
  refine T.d_common_divisor.prom sc_common_divisor (fun vs H Q E h => ?_) (fun cdv A' outer s H vs Q E hr h => ?_)
  · obtain ⟨a, b, rfl, _⟩ := h
    rfl
  · obtain ⟨a, b, rfl, k⟩ := h
    refine ⟨_, (pss_cons (ps_while PassesOwn.never (pt_cmpR op_ne (pv 1) pe_int (nomark _)) (pss_cons (ps_set (i := 2) sc_common_divisor.nd rfl (Or.inl rfl) (pe_op op_mod (pv 0) (pv 1)))
      (pss_cons (ps_set (i := 0) sc_common_divisor.nd rfl (Or.inl rfl) (pv 1))
      (pss_one (ps_set (i := 1) sc_common_divisor.nd rfl (Or.inl rfl) (pv 2))))))
      (pss_one (ps_ret (pv 0)))), ?_⟩
    refine while_by (fun σ H' => H' = H ∧ ∃ (c d : Nat) (v2 : Option V), σ = [some (.int c), some (.int d), v2] ∧ Nat.gcd c d = Nat.gcd a b) (fun σ _ => match σ with | [_, some (.int d), _] => d.natAbs | _ => 0) ⟨rfl, a, b, none, rfl, rfl⟩ ?_ ?_
    · rintro σ H' ⟨rfl, c, d, v2, rfl, g⟩
      refine ⟨_, rfl, rfl, _, rfl, ite2 (fun q => ?_) fun q => ?_⟩
      · have nd : d ≠ 0 := fun z => by
          subst z
          exact absurd q (by decide)
        refine ⟨_, rfl, _, rfl, _, _, rfl, rfl, (by show (0 : Int) < (d : Int); omega), _, rfl, _, rfl, ⟨rfl, d, c % d, _, rfl, ?_⟩, ?_⟩
        · rw [← g, Nat.gcd_comm d (c % d), ← Nat.gcd_rec, Nat.gcd_comm]
        · show ((c : Int) % (d : Int)).natAbs < (d : Int).natAbs
          exact Nat.mod_lt c (Nat.pos_of_ne_zero nd)
      · have zd : d = 0 := by
          cases d with
          | zero => rfl
          | succ d =>
            have e : (!decide (V.int ((d + 1 : Nat) : Int) = V.int 0)) = true := by
              rw [decide_eq_false (fun e => by injection e with e; omega)]
              rfl
            exact absurd e q
        subst zd
        refine ⟨_, rfl, ?_⟩
        rw [Nat.gcd_zero_right] at g
        rw [g]
        exact k
    · rintro σ H' R R' hq ⟨v, e, sc, kk, ek, q⟩
      exact ⟨v, e, sc, kk, ek, hq _ _ q⟩
theorem ok_part_of_way (T : Txt K mg A) : Prom P w K mg base 2 A.f_part_of_way ["first", "second", "level"] sp_part := by
  obtain ⟨fd_common_divisor, G_common_divisor, b_common_divisor, kp_common_divisor⟩ := ok_common_divisor (P := P) (w := w) (base := base) T
  refine T.d_part_of_way.prom sc_part_of_way (fun vs H Q E h => ?_) (fun cdv A' outer s H vs Q E hr h => ?_)
  · obtain ⟨a, b, l, rfl, _⟩ := h
    rfl
  · obtain ⟨a, b, l, rfl, ne, ba, bb, k⟩ := h
    have wp : 0 < (b - a).natAbs := by omega
    have gp : 0 < Nat.gcd (b - a).natAbs (l - a).natAbs := Nat.gcd_pos_of_pos_left _ wp
    have gl : Nat.gcd (b - a).natAbs (l - a).natAbs ≤ (b - a).natAbs := Nat.gcd_le_left _ wp
    have cd : CDiv ((l - a).natAbs : Int) (Nat.gcd (b - a).natAbs (l - a).natAbs : Nat) := ⟨by omega, by omega⟩
    have cd2 : CDiv ((b - a).natAbs : Int) (Nat.gcd (b - a).natAbs (l - a).natAbs : Nat) := ⟨by omega, by omega⟩
    refine ⟨_, (pss_cons (ps_set (i := 3) sc_part_of_way.nd rfl (Or.inl rfl) (pe_callB call_abs (by rfl) T.b_abs boot_abs (pa_cons (pe_op op_sub (pv 2) (pv 0)) pa_nil)))
      (pss_cons (ps_set (i := 4) sc_part_of_way.nd rfl (Or.inl rfl) (pe_callB call_abs (by rfl) T.b_abs boot_abs (pa_cons (pe_op op_sub (pv 1) (pv 0)) pa_nil)))
      (pss_cons (ps_set (i := 5) sc_part_of_way.nd rfl (Or.inl rfl) (pe_call G_common_divisor (hr.mono (by decide)) rfl T.g_common_divisor kp_common_divisor b_common_divisor .nil pass0 (pa_cons (pv 4) (pa_cons (pv 3) pa_nil))))
      (pss_one (ps_ret (pe_lst (pa_cons (pe_op op_fdiv (pv 3) (pv 5)) (pa_cons (pe_op op_fdiv (pv 4) (pv 5)) pa_nil)))))))), ?_⟩
    refine ⟨_, rfl, _, rfl, _, _, rfl, rfl, _, rfl, ?_⟩
    refine ⟨_, rfl, _, rfl, _, _, rfl, rfl, _, rfl, ?_⟩
    refine ⟨_, rfl, _, rfl, (b - a).natAbs, (l - a).natAbs, by rw [abs_nat, abs_nat]; rfl, ?_⟩
    refine ⟨_, rfl, _, rfl, _, _, rfl, rfl, by rw [abs_nat]; exact cd, ?_⟩
    refine ⟨_, rfl, _, rfl, _, _, rfl, rfl, by rw [abs_nat]; exact cd2, ?_⟩
    refine ⟨small_line (by simp), fun p hp => ?_⟩
    have q := k p hp
    rw [Nat.gcd_comm (l - a).natAbs] at q
    rw [abs_nat, abs_nat]
    exact q
end
end Fs
end
section
set_option Elab.async false
set_option linter.all false
set_option maxRecDepth 100000
set_option maxHeartbeats 4000001
namespace Fs
open PySem PySem.Spec PyProof.Rows L2
open Rc29 (Cut Triangle corners)
def keyC (c : Cut) : List Key := [Sum.inl (c.p.x : Int), Sum.inl (c.p.y : Int), Sum.inl (c.p.z : Int), Sum.inl (c.d : Int)]
def cI (c : Cut) : List Int := [(c.p.x : Int), (c.p.y : Int), (c.p.z : Int), (c.d : Int)]
theorem keyC_V (c : Cut) : (keyC c).map kV = (cI c).map V.int := rfl
theorem cI_inj {c d : Cut} (h : cI c = cI d) : c = d := by
  obtain ⟨⟨x, y, z⟩, e⟩ := c
  obtain ⟨⟨x', y', z'⟩, e'⟩ := d
  unfold cI at h
  simp only [List.cons.injEq, and_true, Int.natCast_inj] at h
  obtain ⟨rfl, rfl, rfl, rfl⟩ := h
  rfl
theorem keyC_inj {c d : Cut} (h : keyC c = keyC d) : c = d := by
  refine cI_inj ?_
  have e : (keyC c).map kV = (keyC d).map kV := by rw [h]
  rw [keyC_V, keyC_V] at e
  exact (List.map_inj_right (fun a b q => by injection q)).mp e
theorem cut_key {H : Hp} {v : V} {c : Cut} (h : Is H v (encCut c)) : ∃ b, v = .ref b ∧ H b = some (.tup ((keyC c).map kV)) := is_tI h
theorem encT_corners (t : Triangle) : encT t = .tup ((corners t).map encCut) := rfl
theorem tri_at {H : Hp} {vs : List V} {L : List Triangle} {k : Nat} {t : Triangle} (h : IsAll H vs (L.map encT)) (e : L[k]? = some t) : ∃ a xs, vs[k]? = some (.ref a) ∧ H a = some (.tup xs) ∧ IsAll H xs ((corners t).map encCut) := by
  obtain ⟨v, e1, e2⟩ := isAll_at (i := k) (d := encT t) h (by rw [List.getElem?_map, e]; rfl)
  rw [encT_corners] at e2
  obtain ⟨a, xs, rfl, e3, e4⟩ := is_tup e2
  exact ⟨a, xs, e1, e3, e4⟩
theorem corner_at {H : Hp} {xs : List V} {t : Triangle} {i : Nat} {x : V} (h : IsAll H xs ((corners t).map encCut)) (e : xs[i]? = some x) : ∃ (c : Cut) (b : Addr), (corners t)[i]? = some c ∧ x = .ref b ∧ H b = some (.tup ((keyC c).map kV)) := by
  obtain ⟨d, e1, e2⟩ := isAll_get h e
  rw [List.getElem?_map] at e1
  obtain ⟨c, e3, rfl⟩ := Option.map_eq_some_iff.mp e1
  obtain ⟨b, rfl, e4⟩ := cut_key e2
  exact ⟨c, b, e3, rfl, e4⟩
theorem vN_at {l : List Nat} {i : Nat} {x : V} (h : (vN l)[i]? = some x) : ∃ n, l[i]? = some n ∧ x = .int (n : Int) := by
  unfold vN at h
  rw [List.getElem?_map] at h
  obtain ⟨n, e, rfl⟩ := Option.map_eq_some_iff.mp h
  exact ⟨n, e, rfl⟩
theorem vN_push (l : List Nat) (i : Nat) : vN l ++ [V.int (i : Int)] = vN (l ++ [i]) := by
  simp [vN]
theorem vN_len (l : List Nat) : (vN l).length = l.length := by
  simp [vN]
def prs (L : List Triangle) (k : Nat) : List (Nat × Cut) := (List.range k).flatMap fun j => match L[j]? with
  | some t => (corners t).map fun c => (j, c)
  | none => []
theorem prs_succ {L : List Triangle} {k : Nat} {t : Triangle} (h : L[k]? = some t) : prs L (k + 1) = prs L k ++ (corners t).map fun c => (k, c) := by
  unfold prs
  rw [List.range_succ, List.flatMap_append, List.flatMap_cons, List.flatMap_nil, h, List.append_nil]
theorem mem_prs {L : List Triangle} {k j : Nat} {c : Cut} : (j, c) ∈ prs L k ↔ j < k ∧ ∃ t, L[j]? = some t ∧ c ∈ corners t := by
  unfold prs
  rw [List.mem_flatMap]
  constructor
  · rintro ⟨i, hi, h⟩
    cases e : L[i]? with
    | none => rw [e] at h; cases h
    | some t =>
      rw [e] at h
      obtain ⟨d, hd, q⟩ := List.mem_map.mp h
      injection q with q1 q2
      subst q1 q2
      exact ⟨List.mem_range.mp hi, t, e, hd⟩
  · rintro ⟨hj, t, e, hc⟩
    refine ⟨j, List.mem_range.mpr hj, ?_⟩
    rw [e]
    exact List.mem_map.mpr ⟨c, hc, rfl⟩
theorem prs_len (L : List Triangle) : ∀ k, (prs L k).length ≤ 3 * k
  | 0 => Nat.zero_le _
  | k + 1 => by
    have ih := prs_len L k
    unfold prs at ih ⊢
    rw [List.range_succ, List.flatMap_append, List.flatMap_cons, List.flatMap_nil, List.append_nil, List.length_append]
    cases L[k]? with
    | none => simp only [List.length_nil]; omega
    | some t =>
      simp only [List.length_map]
      have : (corners t).length = 3 := rfl
      omega
structure HInv (H : Hp) (d : Addr) (ps : List (Nat × Cut)) (H' : Hp) (kvs : List (List Key × V)) : Prop where
  same : Same H H'
  nd : H d = none
  dt : H' d = some (.dT kvs)
  len : kvs.length ≤ ps.length
  no : ∀ c, valV kvs (keyC c) = none → ∀ j, ¬ (j, c) ∈ ps
  yes : ∀ c v, valV kvs (keyC c) = some v → ∃ (a : Addr) (l : List Nat), v = .ref a ∧ H' a = some (.lst (vN l)) ∧ H a = none ∧ l.length ≤ ps.length ∧ ∀ j, j ∈ l ↔ (j, c) ∈ ps
  inj : ∀ c c' v, valV kvs (keyC c) = some v → valV kvs (keyC c') = some v → c = c'
theorem HInv.tup {H : Hp} {d : Addr} {ps : List (Nat × Cut)} {H' : Hp} {kvs : List (List Key × V)} (I : HInv H d ps H' kvs) {a : Addr} {xs : List V} (h : H a = some (.tup xs)) : H' a = some (.tup xs) := I.same _ _ h
theorem HInv.add {H : Hp} {d : Addr} {ps : List (Nat × Cut)} {H' : Hp} {kvs : List (List Key × V)} (I : HInv H d ps H' kvs) {c : Cut} {a : Addr} {l : List Nat} (k : Nat) (e : valV kvs (keyC c) = some (.ref a)) (ha : H' a = some (.lst (vN l))) (hn : H a = none)
    (hl : l.length ≤ ps.length) (hm : ∀ j, j ∈ l ↔ (j, c) ∈ ps) : HInv H d (ps ++ [(k, c)]) (upd H' a (.lst (vN l ++ [.int (k : Int)]))) kvs := by
  have ned : d ≠ a := ne_of I.dt ha (fun z => nomatch z)
  refine ⟨same_own I.same hn, I.nd, by rw [upd_ne ned]; exact I.dt, by rw [List.length_append]; exact Nat.le_trans I.len (Nat.le_add_right _ _), fun c' q j hj => ?_, fun c' v q => ?_, I.inj⟩
  · rcases List.mem_append.mp hj with hj | hj
    · exact I.no c' q j hj
    · rw [List.mem_singleton] at hj
      injection hj with _ hj
      subst hj
      rw [q] at e
      cases e
  · by_cases ec : c' = c
    · subst ec
      rw [q] at e
      cases e
      refine ⟨a, l ++ [k], rfl, by rw [upd_same, vN_push], hn, by rw [List.length_append, List.length_append]; exact Nat.add_le_add_right hl _, fun j => ?_⟩
      rw [List.mem_append, List.mem_append, hm, List.mem_singleton, List.mem_singleton]
      constructor
      · rintro (z | z)
        · exact .inl z
        · exact .inr (by rw [z])
      · rintro (z | z)
        · exact .inl z
        · injection z with z _
          exact .inr z
    · obtain ⟨a2, l2, rfl, b1, b2, b3, b4⟩ := I.yes c' v q
      have ne2 : a2 ≠ a := fun z => by
        subst z
        exact ec (I.inj _ _ _ q e)
      refine ⟨a2, l2, rfl, by rw [upd_ne ne2]; exact b1, b2, by rw [List.length_append]; exact Nat.le_trans b3 (Nat.le_add_right _ _), fun j => ?_⟩
      rw [b4, List.mem_append, List.mem_singleton]
      constructor
      · exact .inl
      · rintro (z | z)
        · exact z
        · injection z with _ z
          exact absurd z ec
theorem HInv.new {H : Hp} {d : Addr} {ps : List (Nat × Cut)} {H' : Hp} {kvs : List (List Key × V)} (I : HInv H d ps H' kvs) {c : Cut} {a : Addr} (k : Nat) (e : valV kvs (keyC c) = none) (ha : H' a = none) :
    HInv H d (ps ++ [(k, c)]) (upd (upd (upd H' a (.lst [])) d (.dT (putK kvs (keyC c) (.ref a)))) a (.lst [.int (k : Int)])) (putK kvs (keyC c) (.ref a)) := by
  have ned : d ≠ a := ne_of_none I.dt ha
  have hn : H a = none := I.same.free ha
  have nev : ∀ (b : Addr) (l : List Nat), H' b = some (.lst (vN l)) → b ≠ d ∧ b ≠ a := fun b l q => ⟨ne_of q I.dt (fun z => nomatch z), ne_of_none q ha⟩
  refine ⟨same_own (same_own (same_own I.same hn) I.nd) hn, I.nd, by rw [upd_ne ned, upd_same], ?_, fun c' q j hj => ?_, fun c' v q => ?_, fun c1 c2 v q1 q2 => ?_⟩
  · have := length_putK kvs (keyC c) (.ref a)
    rw [List.length_append, List.length_singleton]
    exact Nat.le_trans this (Nat.add_le_add_right I.len 1)
  · rw [valV_put] at q
    by_cases ec : c' = c
    · subst ec
      rw [if_pos rfl] at q
      cases q
    · rw [if_neg (fun z => ec (keyC_inj z))] at q
      rcases List.mem_append.mp hj with hj | hj
      · exact I.no c' q j hj
      · rw [List.mem_singleton] at hj
        injection hj with _ hj
        exact ec hj
  · rw [valV_put] at q
    by_cases ec : c' = c
    · subst ec
      rw [if_pos rfl] at q
      cases q
      refine ⟨a, [k], rfl, by rw [upd_same]; rfl, hn, by rw [List.length_append]; exact Nat.le_add_left _ _, fun j => ?_⟩
      rw [List.mem_append, List.mem_singleton, List.mem_singleton]
      constructor
      · intro z
        exact .inr (by rw [z])
      · rintro (z | z)
        · exact absurd z (I.no c' e j)
        · injection z with z _
    · rw [if_neg (fun z => ec (keyC_inj z))] at q
      obtain ⟨a2, l2, rfl, b1, b2, b3, b4⟩ := I.yes c' v q
      obtain ⟨n1, n2⟩ := nev a2 l2 b1
      refine ⟨a2, l2, rfl, by rw [upd_ne n2, upd_ne n1, upd_ne n2]; exact b1, b2, by rw [List.length_append]; exact Nat.le_trans b3 (Nat.le_add_right _ _), fun j => ?_⟩
      rw [b4, List.mem_append, List.mem_singleton]
      constructor
      · exact .inl
      · rintro (z | z)
        · exact z
        · injection z with _ z
          exact absurd z ec
  · rw [valV_put] at q1 q2
    by_cases e1 : c1 = c
    · by_cases e2 : c2 = c
      · rw [e1, e2]
      · rw [if_pos (by rw [e1])] at q1
        rw [if_neg (fun z => e2 (keyC_inj z))] at q2
        cases q1
        obtain ⟨a2, l2, ea, b1, _⟩ := I.yes c2 _ q2
        cases ea
        rw [ha] at b1
        cases b1
    · by_cases e2 : c2 = c
      · rw [if_pos (by rw [e2])] at q2
        rw [if_neg (fun z => e1 (keyC_inj z))] at q1
        cases q2
        obtain ⟨a2, l2, ea, b1, _⟩ := I.yes c1 _ q1
        cases ea
        rw [ha] at b1
        cases b1
      · rw [if_neg (fun z => e1 (keyC_inj z))] at q1
        rw [if_neg (fun z => e2 (keyC_inj z))] at q2
        exact I.inj _ _ _ q1 q2
def HoldAt (H : Hp) (d : Addr) (L : List Triangle) : Prop := ∃ kvs, H d = some (.dT kvs) ∧ ∀ (c : Cut) (j : Nat) (t : Triangle), L[j]? = some t → c ∈ corners t → ∃ (a : Addr) (l : List Nat), valV kvs (keyC c) = some (.ref a) ∧ H a = some (.lst (vN l)) ∧ ∀ i, i ∈ l ↔ ∃ u, L[i]? = some u ∧ c ∈ corners u
theorem HoldAt.same {H H' : Hp} {d : Addr} {L : List Triangle} (h : HoldAt H d L) (e : Same H H') : HoldAt H' d L := by
  obtain ⟨kvs, h1, h2⟩ := h
  refine ⟨kvs, e _ _ h1, fun c j t a b => ?_⟩
  obtain ⟨q, l, e1, e2, e3⟩ := h2 c j t a b
  exact ⟨q, l, e1, e _ _ e2, e3⟩
def sp_holders (K : PySem.W.Frag) : Sp := fun vs H Q _ => ∃ (lt : Addr) (L : List Triangle), vs = [.ref lt] ∧ LstS H lt (L.map encT) ∧ L.length ≤ 1000 ∧ ∀ (d : Addr) (H' : Hp), H d = none → Same H H' → HoldAt H' d L → Q (.ref d) H'
section
variable {P : Program} {w : World} {K : PySem.W.Frag} {mg : Str → Option Value} {base : Heap} {A : Ad}
theorem ok_triangles_by_point (T : Txt K mg A) : Prom P w K mg base 1 A.f_triangles_by_point ["triangles"] (sp_holders K) := by
  skip
  refine T.d_triangles_by_point.prom sc_triangles_by_point (fun vs H Q E h => ?_) (fun cdv A' outer s H vs Q E hr h => ?_)
  · obtain ⟨lt, L, rfl, _⟩ := h
    rfl
  · obtain ⟨lt, L, rfl, ⟨vt, gt, rt⟩, hL, k⟩ := h
    have lv : vt.length = L.length := by rw [isAll_len rt, List.length_map]
    refine ⟨_, (pss_cons (ps_set (i := 1) sc_triangles_by_point.nd rfl (Or.inl rfl) pe_dnewT)
      (pss_cons (ps_for PassesOwn.never rfl (pi_range1 rfl T.b_range (pa_cons (pe_callB call_len_seq (by rfl) T.b_len PySem.boot_len (pa_cons (pv 0) pa_nil)) pa_nil)) (pg_name (i := 2) sc_triangles_by_point.nd rfl (Or.inl rfl)) (pss_one (ps_for PassesOwn.never rfl (pi_tup (pe_ix ix_list (pv 0) (pv 2) (fun _ _ => rfl))) (pg_name (i := 3) sc_triangles_by_point.nd rfl (Or.inl rfl)) (pss_cons (ps_if (pt_cmp (pc_dnotin (hu_of hr) (pv 3) (pv 1))) (pss_one (ps_dput (hu_of hr) (pv 1) (pv 3) (pe_lst pa_nil) rfl)) pss_nil)
      (pss_one (ps_expr (pe_bm PySem.F.plainAttrs_list PySem.F.slot_list_append PySem.F.type_list_append mt_append (pe_dget (hu_of hr) (pv 1) (pv 3) (fun _ _ => rfl)) (pa_cons (pv 2) pa_nil))))))))
      (pss_one (ps_ret (pv 1))))), ?_⟩
    intro d hd
    have s0 : Same H (upd H d (.dT [])) := same_new hd
    refine ⟨_, rfl, lt, _, rfl, .inl (SqL.of (s0 _ _ gt)), (L.length : Int), (by rw [lv]), (by omega), (by omega), ?_⟩
    rw [Int.toNat_natCast]
    refine for_range (fun i σ H' => ∃ (v2 v3 : Option V) (kvs : List (List Key × V)), σ = [some (.ref lt), some (.ref d), v2, v3] ∧ HInv H d (prs L i) H' kvs) ⟨none, none, [], rfl, s0, hd, upd_same, Nat.le_refl _, fun c _ j q => (by cases q), fun c v q => (by cases q), fun c c' v q => by cases q⟩ ?_ ?_
    · rintro i σ H1 hi ⟨v2, v3, kvs, rfl, I⟩
      obtain ⟨t, ht⟩ : ∃ t, L[i]? = some t := ⟨L[i], List.getElem?_eq_getElem hi⟩
      obtain ⟨a, xs, e1, e2, e3⟩ := tri_at rt ht
      refine ⟨_, rfl, _, rfl, lt, _, _, _, rfl, rfl, SqL.of (I.same _ _ gt), at_of (j := i) (by omega) e1, a, rfl, ⟨_, SqT.of (I.tup e2)⟩, ?_⟩
      have l3 : xs.length = 3 := by rw [isAll_len e3]; rfl
      refine for_tup (a := a) (xs := xs) (fun m σ H' => ∃ (v3 : Option V) (kvs : List (List Key × V)), σ = [some (.ref lt), some (.ref d), some (.int (0 + (i : Int))), v3] ∧ HInv H d (prs L i ++ ((corners t).take m).map fun c => (i, c)) H' kvs) ⟨v3, kvs, rfl, by simpa using I⟩ (fun m σ H' _ ⟨_, _, _, q⟩ => SqT.of (q.tup e2)) ?_ ?_
      · rintro m x σ H2 hx ⟨v3, kv2, rfl, I2⟩
        obtain ⟨c, b, ec, rfl, eb⟩ := corner_at e3 hx
        have eb2 := I2.tup eb
        have et : prs L i ++ ((corners t).take (m + 1)).map (fun c => (i, c)) = (prs L i ++ ((corners t).take m).map fun c => (i, c)) ++ [(i, c)] := by
          rw [List.take_succ, ec, List.map_append, ← List.append_assoc]
          rfl
        have lp : (prs L i ++ ((corners t).take m).map fun c => (i, c)).length ≤ 3003 := by
          have a1 := prs_len L i
          have a2 : ((corners t).take m).length ≤ 3 := by rw [List.length_take]; exact Nat.min_le_right _ _
          rw [List.length_append, List.length_map]
          omega
        have kl := I2.len
        refine ⟨_, rfl, _, rfl, d, _, rfl, DGet.t I2.dt eb2, _, rfl, ?_⟩
        cases e : valV kv2 (keyC c) with
        | none =>
          refine iteT ⟨Nat.zero_le _, fun a0 h0 => ?_⟩
          have ned : d ≠ a0 := ne_of_none I2.dt h0
          have d3 : (upd H2 a0 (.lst [])) d = some (.dT kv2) := by rw [upd_ne ned]; exact I2.dt
          have b3 : (upd H2 a0 (.lst [])) b = some (.tup ((keyC c).map kV)) := by rw [upd_ne (ne_of_none eb2 h0)]; exact eb2
          refine ⟨_, rfl, _, rfl, d, _, rfl, DPut.t d3 b3 (small_line' (by omega)), ?_⟩
          have b4 : (upd (upd H2 a0 (.lst [])) d (.dT (putK kv2 (keyC c) (.ref a0)))) b = some (.tup ((keyC c).map kV)) := by rw [upd_ne (ne_of b3 d3 (fun z => nomatch z))]; exact b3
          have a4 : (upd (upd H2 a0 (.lst [])) d (.dT (putK kv2 (keyC c) (.ref a0)))) a0 = some (.lst []) := by rw [upd_ne (Ne.symm ned)]; exact upd_same
          have g4 : DGet (upd (upd H2 a0 (.lst [])) d (.dT (putK kv2 (keyC c) (.ref a0)))) d (.ref b) (some (.ref a0)) := by
            have q := DGet.t (k := keyC c) (upd_same (H := upd H2 a0 (.lst [])) (a := d) (o := .dT (putK kv2 (keyC c) (.ref a0)))) b4
            rw [valV_put, if_pos rfl] at q
            exact q
          refine ⟨_, rfl, _, rfl, d, _, rfl, g4, .inl ⟨rfl, _, SqL.of a4⟩, _, rfl, a0, _, _, rfl, rfl, a4, small_line' (by simp), ?_⟩
          refine ⟨_, putK kv2 (keyC c) (.ref a0), rfl, ?_⟩
          rw [et]
          have q := I2.new (c := c) (a := a0) i e h0
          rw [show (0 : Int) + (i : Int) = (i : Int) by omega]
          exact q
        | some v =>
          obtain ⟨a1, l1, rfl, b1, b2, b3, b4⟩ := I2.yes c v e
          have g4 : DGet H2 d (.ref b) (some (.ref a1)) := by
            rw [← e]
            exact DGet.t I2.dt eb2
          refine iteF ⟨_, rfl, _, rfl, d, _, rfl, g4, .inl ⟨rfl, _, SqL.of b1⟩, _, rfl, a1, _, _, rfl, rfl, b1, small_line' (by rw [vN_len]; omega), ?_⟩
          refine ⟨_, kv2, rfl, ?_⟩
          rw [et]
          have q := I2.add (c := c) i e b1 b2 b3 b4
          rw [show (0 : Int) + (i : Int) = (i : Int) by omega]
          exact q
      · rintro σ H2 ⟨v3, kv2, rfl, I2⟩
        rw [l3, List.take_of_length_le (show (corners t).length ≤ 3 from Nat.le_refl _)] at I2
        exact ⟨_, _, _, rfl, by rw [prs_succ ht]; exact I2⟩
    · rintro σ H1 ⟨v2, v3, kvs, rfl, I⟩
      refine ⟨_, rfl, k d H1 hd I.same ⟨kvs, I.dt, fun c j t e1 e2 => ?_⟩⟩
      have hj : j < L.length := (List.getElem?_eq_some_iff.mp e1).1
      have hm : (j, c) ∈ prs L L.length := mem_prs.mpr ⟨hj, t, e1, e2⟩
      cases e : valV kvs (keyC c) with
      | none => exact absurd hm (I.no c e j)
      | some v =>
        obtain ⟨a1, l1, rfl, b1, b2, b3, b4⟩ := I.yes c v e
        refine ⟨a1, l1, rfl, b1, fun i => ?_⟩
        rw [b4, mem_prs]
        constructor
        · exact fun q => q.2
        · exact fun ⟨u, q1, q2⟩ => ⟨(List.getElem?_eq_some_iff.mp q1).1, u, q1, q2⟩
end
end Fs
end
section
set_option Elab.async false
set_option linter.all false
set_option maxRecDepth 100000
set_option maxHeartbeats 4000001
namespace Fs
open PySem PySem.Spec PyProof.Rows L2
open Rc29 (Cut Triangle corners)
open RM (Conn tch root pieceL fl)
def kvR (R : List Nat) : List (Key × V) := R.map fun (j : Nat) => (Sum.inl (j : Int), V.bl true)
theorem valV_R (j : Nat) : ∀ R : List Nat, valV (kvR R) (Sum.inl (j : Int)) = if j ∈ R then some (.bl true) else none
  | [] => rfl
  | i :: R => by
    have ih := valV_R j R
    unfold kvR at ih ⊢
    rw [List.map_cons]
    by_cases e : i = j
    · subst e
      rw [valV_pos rfl, if_pos List.mem_cons_self]
    · rw [valV_neg (fun q => e (by injection q with q; omega)), ih]
      by_cases m : j ∈ R
      · rw [if_pos m, if_pos (List.mem_cons_of_mem _ m)]
      · rw [if_neg m, if_neg (fun q => by
          rcases List.mem_cons.mp q with q | q
          · exact e q.symm
          · exact m q)]
theorem put_R {R : List Nat} {j : Nat} (h : ¬ j ∈ R) : putK (kvR R) (Sum.inl (j : Int)) (.bl true) = kvR (R ++ [j]) := by
  rw [putK_new _ (by rw [valV_R, if_neg h])]
  simp [kvR]
theorem kvR_len (R : List Nat) : (kvR R).length = R.length := by
  simp [kvR]
theorem kvR_keys (R : List Nat) : (kvR R).map (·.1) = (castN R).map Sum.inl := by
  simp [kvR, castN]
theorem nodup_lt {R : List Nat} {n : Nat} (hn : R.Nodup) (h : ∀ j ∈ R, j < n) : R.length ≤ n := by
  have q := RK.nodup_le hn (m := List.range n) fun x hx => List.mem_range.mpr (h x hx)
  rw [List.length_range] at q
  exact q
theorem sorted_nats {R : List Nat} {ms : List Int} (hn : R.Nodup) (hp : ms.Perm (castN R)) (hs : ms.Pairwise (· ≤ ·)) : ∃ l : List Nat, ms = castN l ∧ l.Pairwise (· < ·) ∧ ∀ j, j ∈ l ↔ j ∈ R := by
  have pos : ∀ x ∈ ms, ((x.toNat : Nat) : Int) = x := fun x hx => by
    obtain ⟨j, _, rfl⟩ := List.mem_map.mp (hp.mem_iff.mp hx)
    exact Int.toNat_natCast j ▸ rfl
  have back : castN (ms.map Int.toNat) = ms := by
    unfold castN
    rw [List.map_map]
    exact (List.map_congr_left fun x hx => pos x hx).trans (List.map_id _)
  have pm : (ms.map Int.toNat).Perm R := by
    have q := hp.map Int.toNat
    have e : (castN R).map Int.toNat = R := by
      unfold castN
      rw [List.map_map]
      exact (List.map_congr_left fun x _ => Int.toNat_natCast x).trans (List.map_id _)
    rw [e] at q
    exact q
  refine ⟨ms.map Int.toNat, back.symm, ?_, fun j => pm.mem_iff⟩
  have nd : (ms.map Int.toNat).Nodup := pm.nodup_iff.mpr hn
  have le : (ms.map Int.toNat).Pairwise (· ≤ ·) := List.pairwise_map.mpr (hs.imp fun h => by omega)
  exact (List.pairwise_and_iff.mpr ⟨le, nd⟩).imp fun h => by omega
structure Bfs (L : List Triangle) (f : Nat) (R W : List Nat) (ok : Nat → Prop) : Prop where
  nd : R.Nodup
  cn : ∀ j ∈ R, Conn L f j
  f0 : f ∈ R
  sub : ∀ j ∈ W, j ∈ R
  wl : W.length ≤ R.length
  cl : ∀ j ∈ R, j ∈ W ∨ ok j ∨ ∀ i, tch L j i = true → i ∈ R
theorem Bfs.lt {L : List Triangle} {f : Nat} {R W : List Nat} {ok : Nat → Prop} (B : Bfs L f R W ok) (hf : f < L.length) : ∀ j ∈ R, j < L.length := fun j hj => (B.cn j hj).lt hf
theorem Bfs.push {L : List Triangle} {f : Nat} {R W : List Nat} {ok : Nat → Prop} (B : Bfs L f R W ok) {j : Nat} (hj : ¬ j ∈ R) (hc : Conn L f j) : Bfs L f (R ++ [j]) (W ++ [j]) ok := by
  refine ⟨nd_snoc B.nd hj, fun i hi => ?_, List.mem_append_left _ B.f0, fun i hi => ?_, by rw [List.length_append, List.length_append]; exact Nat.add_le_add_right B.wl _, fun i hi => ?_⟩
  · rcases List.mem_append.mp hi with hi | hi
    · exact B.cn i hi
    · rw [List.mem_singleton.mp hi]
      exact hc
  · rcases List.mem_append.mp hi with hi | hi
    · exact List.mem_append_left _ (B.sub i hi)
    · exact List.mem_append_right _ hi
  · rcases List.mem_append.mp hi with hi | hi
    · rcases B.cl i hi with q | q | q
      · exact .inl (List.mem_append_left _ q)
      · exact .inr (.inl q)
      · exact .inr (.inr fun m hm => List.mem_append_left _ (q m hm))
    · exact .inl (List.mem_append_right _ hi)
def sp_hang (K : PySem.W.Frag) : Sp := fun vs H Q _ => ∃ (lt d : Addr) (L : List Triangle) (f : Nat), vs = [.int (f : Int), .ref lt, .ref d] ∧ f < L.length ∧ LstS H lt (L.map encT) ∧ L.length ≤ 1000 ∧ HoldAt H d L ∧
  ∀ (p : Addr) (H' : Hp), H p = none → Same H H' → H' p = some (.lst (vN (pieceL L (root L f)))) → Q (.ref p) H'
def mu (n : Nat) (r wt : Addr) (H : Hp) : Nat := match H r, H wt with
  | some (.dK kvs), some (.lst ws) => 2 * (n - kvs.length) + ws.length
  | _, _ => 0
theorem mu_eq {n : Nat} {r wt : Addr} {H : Hp} {R W : List Nat} (h1 : H r = some (.dK (kvR R))) (h2 : H wt = some (.lst (vN W))) : mu n r wt H = 2 * (n - R.length) + W.length := by
  unfold mu
  rw [h1, h2]
  simp only [kvR_len, vN_len]
section
variable {P : Program} {w : World} {K : PySem.W.Frag} {mg : Str → Option Value} {base : Heap} {A : Ad}
theorem ok_hanging_together (T : Txt K mg A) : Prom P w K mg base 1 A.f_hanging_together ["first", "triangles", "holders"] (sp_hang K) := by
  skip
  refine T.d_hanging_together.prom sc_hanging_together (fun vs H Q E h => ?_) (fun cdv A' outer s H vs Q E hr h => ?_)
  · obtain ⟨lt, d, L, f, rfl, _⟩ := h
    rfl
  · obtain ⟨lt, d, L, f, rfl, hf, ⟨vt, gt, rt⟩, hL, hh, k⟩ := h
    have lv : vt.length = L.length := by rw [isAll_len rt, List.length_map]
    refine ⟨_, (pss_cons (ps_set (i := 3) sc_hanging_together.nd rfl (Or.inl rfl) (pe_disp (pps_cons (pv 0) pe_bl pps_nil) rfl rfl (by simp) (by decide)))
      (pss_cons (ps_set (i := 4) sc_hanging_together.nd rfl (Or.inl rfl) (pe_lst (pa_cons (pv 0) pa_nil)))
      (pss_cons (ps_while PassesOwn.never (pt_cmpR op_gt (pe_callB call_len_seq (by rfl) T.b_len PySem.boot_len (pa_cons (pv 4) pa_nil)) pe_int (nomark _)) (pss_cons (ps_set (i := 5) sc_hanging_together.nd rfl (Or.inl rfl) (pe_bm0 PySem.F.plainAttrs_list PySem.F.slot_list_pop PySem.F.type_list_pop mt_pop (pv 4)))
      (pss_one (ps_for PassesOwn.never rfl (pi_tup (pe_ix ix_list (pv 1) (pv 5) (fun _ _ => rfl))) (pg_name (i := 6) sc_hanging_together.nd rfl (Or.inl rfl)) (pss_one (ps_for PassesOwn.never rfl (pi_list (pe_dget (hu_of hr) (pv 2) (pv 6) (fun _ _ => rfl))) (pg_name (i := 7) sc_hanging_together.nd rfl (Or.inl rfl)) (pss_one (ps_if (pt_cmp (pc_dnotin (hu_of hr) (pv 7) (pv 3))) (pss_cons (ps_dput (hu_of hr) (pv 3) (pv 7) pe_bl rfl)
      (pss_one (ps_expr (pe_bm PySem.F.plainAttrs_list PySem.F.slot_list_append PySem.F.type_list_append mt_append (pv 4) (pa_cons (pv 7) pa_nil))))) pss_nil))))))))
      (pss_one (ps_ret (pe_callB (cr_sortedD rfl) (by rfl) T.b_sorted boot_sorted (pa_cons (pv 3) pa_nil))))))), ?_⟩
    intro r hr0
    refine ⟨_, rfl, upd_same, [(Sum.inl (f : Int), V.bl true)], rfl, (by simp), ?_⟩
    refine ⟨_, rfl, small_line (by simp), fun wt hw => ?_⟩
    have s1 : Same H (upd (upd H r (.dK [])) r (.dK (mergeK [] [(Sum.inl (f : Int), V.bl true)]))) := same_own (same_new hr0) hr0
    have hwH : H wt = none := s1.free hw
    have nrw : r ≠ wt := ne_of_none upd_same hw
    refine while_by (fun σ H' => ∃ (R W : List Nat) (v5 v6 v7 : Option V), σ = [some (.int (f : Int)), some (.ref lt), some (.ref d), some (.ref r), some (.ref wt), v5, v6, v7] ∧ Same H H' ∧ H' r = some (.dK (kvR R)) ∧ H' wt = some (.lst (vN W)) ∧ Bfs L f R W (fun _ => False))
      (fun _ H' => mu L.length r wt H') ⟨[f], [f], none, none, none, rfl, s1.trans (same_new hw), by rw [upd_ne nrw]; exact upd_same, upd_same, ?_⟩ ?_ ?_
    · refine ⟨by simp, fun j hj => ?_, List.mem_cons_self, fun j hj => hj, Nat.le_refl _, fun j hj => .inl hj⟩
      rw [List.mem_singleton.mp hj]
      exact .refl f
    · rintro σ H1 ⟨R, W, v5, v6, v7, rfl, s3, g1, g2, B⟩
      refine ⟨_, rfl, wt, _, rfl, .inl (SqL.of g2), _, _, rfl, rfl, _, rfl, ite2 (fun q => ?_) fun q => ?_⟩
      · rcases List.eq_nil_or_concat W with z | ⟨W0, kk, z⟩
        · subst z
          exact absurd q (by decide)
        rw [List.concat_eq_append] at z
        subst z
        have hkR : kk ∈ R := B.sub kk (List.mem_append_right _ List.mem_cons_self)
        have hkn : kk < L.length := B.lt hf kk hkR
        obtain ⟨t, ht⟩ : ∃ t, L[kk]? = some t := ⟨L[kk], List.getElem?_eq_getElem hkn⟩
        obtain ⟨a, xs, e1, e2, e3⟩ := tri_at rt ht
        have l3 : xs.length = 3 := by rw [isAll_len e3]; rfl
        have lw : (vN (W0 ++ [kk])).length = W0.length + 1 := by rw [vN_len, List.length_append]; rfl
        have dl : (vN (W0 ++ [kk])).dropLast = vN W0 := by rw [← vN_push, List.dropLast_concat]
        have hlast : (vN (W0 ++ [kk]))[(vN (W0 ++ [kk])).length - 1]? = some (.int (kk : Int)) := by
          rw [lw, ← vN_push, Nat.add_sub_cancel, List.getElem?_append_right (by rw [vN_len]; exact Nat.le_refl _), vN_len, Nat.sub_self]
          rfl
        refine ⟨_, rfl, .inl ⟨rfl, _, SqL.of g2⟩, wt, _, _, rfl, rfl, g2, hlast, ?_⟩
        rw [dl]
        have s4 : Same H (upd H1 wt (.lst (vN W0))) := same_own s3 hwH
        have g3 : (upd H1 wt (.lst (vN W0))) r = some (.dK (kvR R)) := by rw [upd_ne nrw]; exact g1
        have B0 : Bfs L f R W0 (fun j => j = kk) := by
          refine ⟨B.nd, B.cn, B.f0, fun j hj => B.sub j (List.mem_append_left _ hj), by have := B.wl; rw [List.length_append] at this; exact Nat.le_of_succ_le this, fun j hj => ?_⟩
          rcases B.cl j hj with z | z | z
          · rcases List.mem_append.mp z with z | z
            · exact .inl z
            · exact .inr (.inl (List.mem_singleton.mp z))
          · exact z.elim
          · exact .inr (.inr z)
        refine ⟨_, rfl, _, rfl, lt, _, _, _, rfl, rfl, SqL.of (s4 _ _ gt), at_of (j := kk) rfl e1, a, rfl, ⟨_, SqT.of (s4 _ _ e2)⟩, ?_⟩
        refine for_tup (a := a) (xs := xs) (fun m σ H' => ∃ (R' W' : List Nat) (v6 v7 : Option V), σ = [some (.int (f : Int)), some (.ref lt), some (.ref d), some (.ref r), some (.ref wt), some (.int (kk : Int)), v6, v7] ∧ Same H H' ∧ H' r = some (.dK (kvR R')) ∧ H' wt = some (.lst (vN W')) ∧
          Bfs L f R' W' (fun j => j = kk) ∧ kk ∈ R' ∧ 2 * (L.length - R'.length) + W'.length < 2 * (L.length - R.length) + (W0.length + 1) ∧ ∀ c ∈ (corners t).take m, ∀ i u, L[i]? = some u → c ∈ corners u → i ∈ R')
          ⟨R, W0, v6, v7, rfl, s4, g3, upd_same, B0, hkR, Nat.lt_succ_self _, fun c hc => by cases hc⟩ (fun m σ H' _ ⟨_, _, _, _, _, q, _⟩ => SqT.of (q _ _ e2)) ?_ ?_
        · rintro m x σ H2 hx ⟨R', W', v6, v7, rfl, s5, g4, g5, B1, hk1, hmu, hcl⟩
          obtain ⟨c, b, ec, rfl, eb⟩ := corner_at e3 hx
          have hct : c ∈ corners t := List.mem_of_getElem? ec
          obtain ⟨kvs, hd, hold⟩ := hh.same s5
          obtain ⟨a1, l1, ev, gl, hm⟩ := hold c kk t ht hct
          have g6 : DGet H2 d (.ref b) (some (.ref a1)) := by
            rw [← ev]
            exact DGet.t hd (s5 _ _ eb)
          have gl0 : ∃ l0, l0 = l1 := ⟨l1, rfl⟩
          obtain ⟨kvs0, hd0, hold0⟩ := hh
          obtain ⟨a2, l2, ev2, gl2, hm2⟩ := hold0 c kk t ht hct
          have ea : a2 = a1 := by
            have := s5 _ _ hd0
            rw [hd] at this
            cases this
            rw [ev] at ev2
            cases ev2
            rfl
          subst ea
          have el : vN l2 = vN l1 := by
            have := s5 _ _ gl2
            rw [gl] at this
            injection this with this
            injection this with this
            exact this.symm
          rw [el] at gl2
          refine ⟨_, rfl, _, rfl, d, _, rfl, g6, a2, rfl, ⟨_, SqL.of gl⟩, ?_⟩
          refine for_list (a := a2) (xs := vN l1) (fun q σ H' => ∃ (R' W' : List Nat) (v7 : Option V), σ = [some (.int (f : Int)), some (.ref lt), some (.ref d), some (.ref r), some (.ref wt), some (.int (kk : Int)), some (.ref b), v7] ∧ Same H H' ∧ H' r = some (.dK (kvR R')) ∧ H' wt = some (.lst (vN W')) ∧
            Bfs L f R' W' (fun j => j = kk) ∧ kk ∈ R' ∧ 2 * (L.length - R'.length) + W'.length < 2 * (L.length - R.length) + (W0.length + 1) ∧ (∀ c ∈ (corners t).take m, ∀ i u, L[i]? = some u → c ∈ corners u → i ∈ R') ∧ ∀ i ∈ l1.take q, i ∈ R')
            ⟨R', W', v7, rfl, s5, g4, g5, B1, hk1, hmu, hcl, fun i hi => by cases hi⟩ (fun q σ H' _ ⟨_, _, _, _, z, _⟩ => SqL.of (z _ _ gl2)) ?_ ?_
          · rintro q x σ H3 hx2 ⟨R2, W2, v7, rfl, s6, g7, g8, B2, hk2, hmu2, hcl2, hq2⟩
            obtain ⟨i, hi, rfl⟩ := vN_at hx2
            have et : l1.take (q + 1) = l1.take q ++ [i] := by
              rw [List.take_succ, hi]
              rfl
            refine ⟨_, rfl, _, rfl, r, _, rfl, DGet.k (k := Sum.inl (i : Int)) g7, _, rfl, ?_⟩
            rw [valV_R]
            by_cases hin : i ∈ R2
            · rw [if_pos hin]
              refine iteF ⟨R2, W2, _, rfl, s6, g7, g8, B2, hk2, hmu2, hcl2, fun y hy => ?_⟩
              rw [et] at hy
              rcases List.mem_append.mp hy with hy | hy
              · exact hq2 y hy
              · rw [List.mem_singleton.mp hy]
                exact hin
            · rw [if_neg hin]
              obtain ⟨u, hu, hcu⟩ := (hm i).mp (List.mem_of_getElem? hi)
              have hci : Conn L f i := (B2.cn kk hk2).trans (.one (RM.tch_corner.mpr ⟨t, u, c, ht, hu, hct, hcu⟩))
              have B3 := B2.push hin hci
              have ln : (R2 ++ [i]).length ≤ L.length := nodup_lt B3.nd (B3.lt hf)
              have ln2 : R2.length + 1 ≤ L.length := by rw [List.length_append] at ln; exact ln
              have wl2 := B2.wl
              have nrw2 : wt ≠ r := Ne.symm nrw
              have g9 : (upd H3 r (.dK (putK (kvR R2) (Sum.inl (i : Int)) (.bl true)))) wt = some (.lst (vN W2)) := by rw [upd_ne nrw2]; exact g8
              refine iteT ⟨_, rfl, _, rfl, r, _, rfl, DPut.k (k := Sum.inl (i : Int)) g7 (small_line' (by rw [kvR_len]; omega)), ?_⟩
              refine ⟨_, rfl, .inl ⟨rfl, _, SqL.of g9⟩, _, rfl, wt, _, _, rfl, rfl, g9, small_line' (by rw [vN_len]; omega), ?_⟩
              refine ⟨R2 ++ [i], W2 ++ [i], _, rfl, same_own (same_own s6 hr0) hwH, ?_, ?_, B3, List.mem_append_left _ hk2, ?_, fun c' hc' y u' h1 h2 => List.mem_append_left _ (hcl2 c' hc' y u' h1 h2), fun y hy => ?_⟩
              · rw [upd_ne nrw, upd_same, put_R hin]
              · rw [upd_same, vN_push]
              · rw [List.length_append, List.length_append, List.length_singleton]
                omega
              · rw [et] at hy
                rcases List.mem_append.mp hy with hy | hy
                · exact List.mem_append_left _ (hq2 y hy)
                · exact List.mem_append_right _ hy
          · rintro σ H3 ⟨R2, W2, v7, rfl, s6, g7, g8, B2, hk2, hmu2, hcl2, hq2⟩
            refine ⟨R2, W2, _, _, rfl, s6, g7, g8, B2, hk2, hmu2, fun c' hc' i u h1 h2 => ?_⟩
            rw [List.take_succ, ec] at hc'
            rcases List.mem_append.mp hc' with z | z
            · exact hcl2 c' z i u h1 h2
            · have ec' : c' = c := by simpa using z
              subst ec'
              refine hq2 i ?_
              rw [vN_len, List.take_length]
              exact (hm i).mpr ⟨u, h1, h2⟩
        · rintro σ H2 ⟨R', W', v6, v7, rfl, s5, g4, g5, B1, hk1, hmu, hcl⟩
          rw [l3, List.take_of_length_le (show (corners t).length ≤ 3 from Nat.le_refl _)] at hcl
          refine ⟨⟨R', W', _, _, _, rfl, s5, g4, g5, ⟨B1.nd, B1.cn, B1.f0, B1.sub, B1.wl, fun j hj => ?_⟩⟩, ?_⟩
          · rcases B1.cl j hj with z | z | z
            · exact .inl z
            · subst z
              refine .inr (.inr fun i hi => ?_)
              obtain ⟨x, y, c, h1, h2, h3, h4⟩ := RM.tch_corner.mp hi
              rw [ht] at h1
              cases h1
              exact hcl c h3 i y h2 h4
            · exact .inr (.inr z)
          · rw [mu_eq g4 g5, mu_eq g1 g2, List.length_append]
            exact hmu
      · have hW : W = [] := by
          cases W with
          | nil => rfl
          | cons a W => exact absurd (decide_eq_true (show (0 : Int) < ((vN (a :: W)).length : Int) by rw [vN_len, List.length_cons]; omega)) q
        subst hW
        refine ⟨_, rfl, r, _, castN R, rfl, g1, kvR_keys R, fun ms p hp hs hn => ?_⟩
        obtain ⟨l, rfl, ls, lm⟩ := sorted_nats B.nd hp hs
        have e : l = pieceL L (root L f) := RM.piece_of hf ls fun j => by
          rw [lm]
          constructor
          · exact B.cn j
          · intro c
            refine RM.closed_conn (R := fun j => j ∈ R) B.f0 (fun x hx i hi => ?_) c
            rcases B.cl x hx with z | z | z
            · cases z
            · exact z.elim
            · exact z i hi
        refine k p _ (s3.free hn) (s3.trans (same_new hn)) ?_
        rw [upd_same, ← e, vN_map]
    · rintro σ H' S S' hq ⟨v, e, p, ys, e2, sq, i, j, e3, e4, kk, ek, q⟩
      exact ⟨v, e, p, ys, e2, sq, i, j, e3, e4, kk, ek, hq _ _ q⟩
end
end Fs
end
section
set_option Elab.async false
set_option linter.all false
set_option maxRecDepth 100000
set_option maxHeartbeats 4000001
namespace Fs
open PySem PySem.Spec PyProof.Rows L2
open Rc29 (Cut Triangle corners)
open RM (root pieceL fl)
theorem paired_snoc {α β : Type} {R : α → β → Prop} {a : α} {b : β} (h : R a b) : ∀ {l : List α} {m : List β}, Paired R l m → Paired R (l ++ [a]) (m ++ [b])
  | _, _, .nil => .cons h .nil
  | _, _, .cons g r => .cons g (paired_snoc h r)
def PcAt (H : Hp) (l : Addr) (L : List Triangle) (fs : List Nat) : Prop := ∃ bs : List Addr, H l = some (.lst (bs.map V.ref)) ∧ Paired (fun (f : Nat) (a : Addr) => a ≠ l ∧ H a = some (.lst (vN (pieceL L f)))) fs bs
theorem PcAt.same {H H' : Hp} {l : Addr} {L : List Triangle} {fs : List Nat} (h : PcAt H l L fs) (e : Same H H') : PcAt H' l L fs := by
  obtain ⟨bs, h1, h2⟩ := h
  exact ⟨bs, e _ _ h1, Paired.mapP h2 fun _ _ q => ⟨q.1, e _ _ q.2⟩⟩
def sp_pieces (K : PySem.W.Frag) : Sp := fun vs H Q _ => ∃ (lt : Addr) (L : List Triangle), vs = [.ref lt] ∧ LstS H lt (L.map encT) ∧ L.length ≤ 1000 ∧ ∀ (l : Addr) (H' : Hp), H l = none → Same H H' → PcAt H' l L (Rc29.firstsOf L) → Q (.ref l) H'
def withV (L : List Triangle) (k : Int) : V := if 0 ≤ k ∧ k < (L.length : Int) then .int ((Rc29.firstsOf L).idxOf (root L k.toNat) : Nat) else .non
def sp_with (K : PySem.W.Frag) : Sp := fun vs H Q _ => ∃ (l : Addr) (L : List Triangle) (k : Int), vs = [.ref l, .int k] ∧ PcAt H l L (Rc29.firstsOf L) ∧ L.length ≤ 1000 ∧ Q (withV L k) H
theorem in_vN (k : Int) : ∀ l : List Nat, inV (.int k) (vN l) = true ↔ ∃ j ∈ l, (j : Int) = k
  | [] => by simp [inV]
  | i :: l => by
    have ih := in_vN k l
    unfold inV at ih ⊢
    show ((eqV (.int (i : Int)) (.int k)) || ((vN l).any fun y => eqV y (.int k))) = true ↔ _
    rw [Bool.or_eq_true, ih]
    constructor
    · rintro (h | ⟨j, hj, e⟩)
      · exact ⟨i, List.mem_cons_self, beq_iff_eq.mp h⟩
      · exact ⟨j, List.mem_cons_of_mem _ hj, e⟩
    · rintro ⟨j, hj, e⟩
      rcases List.mem_cons.mp hj with z | z
      · subst z
        exact .inl (beq_iff_eq.mpr e)
      · exact .inr ⟨j, z, e⟩
theorem flat_vN (l : List Nat) : (vN l).all flatV = true := by
  rw [List.all_eq_true]
  intro x hx
  obtain ⟨n, _, rfl⟩ := List.mem_map.mp hx
  rfl
section
variable {P : Program} {w : World} {K : PySem.W.Frag} {mg : Str → Option Value} {base : Heap} {A : Ad}
theorem ok_surface_pieces (T : Txt K mg A) : Prom P w K mg base 2 A.f_surface_pieces ["triangles"] (sp_pieces K) := by
  obtain ⟨fd_triangles_by_point, G_triangles_by_point, b_triangles_by_point, kp_triangles_by_point⟩ := ok_triangles_by_point (P := P) (w := w) (base := base) T
  obtain ⟨fd_hanging_together, G_hanging_together, b_hanging_together, kp_hanging_together⟩ := ok_hanging_together (P := P) (w := w) (base := base) T
  refine T.d_surface_pieces.prom sc_surface_pieces (fun vs H Q E h => ?_) (fun cdv A' outer s H vs Q E hr h => ?_)
  · obtain ⟨lt, L, rfl, _⟩ := h
    rfl
  · obtain ⟨lt, L, rfl, hT, hL, k⟩ := h
    obtain ⟨vt, gt, rt⟩ := id hT
    have lv : vt.length = L.length := by rw [isAll_len rt, List.length_map]
    refine ⟨_, (pss_cons (ps_set (i := 1) sc_surface_pieces.nd rfl (Or.inl rfl) (pe_call G_triangles_by_point (hr.mono (by decide)) rfl T.g_triangles_by_point kp_triangles_by_point b_triangles_by_point .nil pass0 (pa_cons (pv 0) pa_nil)))
      (pss_cons (ps_set (i := 2) sc_surface_pieces.nd rfl (Or.inl rfl) pe_dnewK)
      (pss_cons (ps_set (i := 3) sc_surface_pieces.nd rfl (Or.inl rfl) (pe_lst pa_nil))
      (pss_cons (ps_for PassesOwn.never rfl (pi_range1 rfl T.b_range (pa_cons (pe_callB call_len_seq (by rfl) T.b_len PySem.boot_len (pa_cons (pv 0) pa_nil)) pa_nil)) (pg_name (i := 4) sc_surface_pieces.nd rfl (Or.inl rfl)) (pss_one (ps_if (pt_cmp (pc_dnotin (hu_of hr) (pv 4) (pv 2))) (pss_cons (ps_set (i := 5) sc_surface_pieces.nd rfl (Or.inl rfl) (pe_call G_hanging_together (hr.mono (by decide)) rfl T.g_hanging_together kp_hanging_together b_hanging_together .nil pass0 (pa_cons (pv 4) (pa_cons (pv 0) (pa_cons (pv 1) pa_nil)))))
      (pss_cons (ps_expr (pe_bm PySem.F.plainAttrs_list PySem.F.slot_list_append PySem.F.type_list_append mt_append (pv 3) (pa_cons (pv 5) pa_nil)))
      (pss_one (ps_for PassesOwn.never rfl (pi_list (pv 5)) (pg_name (i := 6) sc_surface_pieces.nd rfl (Or.inl rfl)) (pss_one (ps_dput (hu_of hr) (pv 2) (pv 6) pe_bl rfl)))))) pss_nil)))
      (pss_one (ps_ret (pv 3))))))), ?_⟩
    refine ⟨_, rfl, lt, L, rfl, hT, hL, fun d H1 nd s1 hold => ?_⟩
    intro tk htk
    refine ⟨Nat.zero_le _, fun fd hfd => ?_⟩
    have s2 : Same H1 (upd H1 tk (.dK [])) := same_new htk
    have s3 : Same H1 (upd (upd H1 tk (.dK [])) fd (.lst [])) := s2.trans (same_new hfd)
    have nfd : H1 fd = none := s2.free hfd
    have ntf : tk ≠ fd := ne_of_none upd_same hfd
    refine ⟨_, rfl, lt, _, rfl, .inl (SqL.of ((s1.trans s3) _ _ gt)), (L.length : Int), (by rw [lv]), (by omega), (by omega), ?_⟩
    rw [Int.toNat_natCast]
    refine for_range (fun i σ H' => ∃ (v4 v5 v6 : Option V) (kvs : List (Key × V)), σ = [some (.ref lt), some (.ref d), some (.ref tk), some (.ref fd), v4, v5, v6] ∧ Same H1 H' ∧ H' tk = some (.dK kvs) ∧ kvs.length ≤ i * 1000 ∧
      (∀ j, j < L.length → ((valV kvs (Sum.inl (j : Int))).isSome = true ↔ root L j < i)) ∧ PcAt H' fd L (fl L i))
      ⟨none, none, none, [], rfl, s3, by rw [upd_ne ntf]; exact upd_same, Nat.zero_le _, fun j _ => ⟨fun q => (by cases q), fun q => absurd q (Nat.not_lt_zero _)⟩, [], upd_same, .nil⟩ ?_ ?_
    · rintro i σ H2 hi ⟨v4, v5, v6, kvs, rfl, s4, g1, ln, hv, pc⟩
      rw [show (0 : Int) + (i : Int) = (i : Int) by omega]
      refine ⟨_, rfl, _, rfl, tk, _, rfl, DGet.k (k := Sum.inl (i : Int)) g1, _, rfl, ?_⟩
      have hvi := hv i hi
      have le : root L i ≤ i := RM.roots_le hi
      cases e : valV kvs (Sum.inl (i : Int)) with
      | none =>
        rw [e] at hvi
        have re : root L i = i := by
          rcases Nat.lt_or_ge (root L i) i with z | z
          · exact absurd (hvi.mpr z) (by simp)
          · omega
        refine iteT ⟨_, rfl, _, rfl, _, rfl, lt, d, L, i, rfl, hi, hT.same (s1.trans s4), hL, hold.same s4, fun p H3 np s5 gp => ?_⟩
        rw [re] at gp
        obtain ⟨bs, gf, rf⟩ := pc
        have lb : bs.length ≤ 1000 := by
          have a1 := Paired.length rf
          have a2 := RM.fl_len L i
          omega
        have gf2 := s5 _ _ gf
        have nef : p ≠ fd := fun z => by
          rw [z, gf] at np
          cases np
        refine ⟨_, rfl, .inl ⟨rfl, _, SqL.of gf2⟩, _, rfl, fd, _, _, rfl, rfl, gf2, small_line' (by rw [List.length_map]; omega), ?_⟩
        have s6 : Same H1 (upd H3 fd (.lst (bs.map V.ref ++ [.ref p]))) := same_own (s4.trans s5) nfd
        have gp2 : (upd H3 fd (.lst (bs.map V.ref ++ [.ref p]))) p = some (.lst (vN (pieceL L i))) := by rw [upd_ne nef]; exact gp
        have g2 : (upd H3 fd (.lst (bs.map V.ref ++ [.ref p]))) tk = some (.dK kvs) := by rw [upd_ne ntf]; exact s5 _ _ g1
        have pc2 : PcAt (upd H3 fd (.lst (bs.map V.ref ++ [.ref p]))) fd L (fl L i ++ [i]) := by
          refine ⟨bs ++ [p], by rw [upd_same, List.map_append]; rfl, paired_snoc ⟨nef, gp2⟩ (Paired.mapP rf fun f a q => ⟨q.1, ?_⟩)⟩
          rw [upd_ne q.1]
          exact s5 _ _ q.2
        have hp : Same H1 (upd H3 fd (.lst (bs.map V.ref ++ [.ref p]))) := s6
        have npl : (pieceL L i).length ≤ 1000 := Nat.le_trans (RM.piece_len L i) hL
        have npt : p ≠ tk := ne_of gp (s5 _ _ g1) (fun z => nomatch z)
        refine ⟨_, rfl, p, rfl, ⟨_, SqL.of gp2⟩, ?_⟩
        refine for_list (a := p) (xs := vN (pieceL L i)) (fun m σ H' => ∃ (v6 : Option V) (kvs : List (Key × V)), σ = [some (.ref lt), some (.ref d), some (.ref tk), some (.ref fd), some (.int (i : Int)), some (.ref p), v6] ∧ Same H1 H' ∧ H' tk = some (.dK kvs) ∧ H' p = some (.lst (vN (pieceL L i))) ∧ kvs.length ≤ i * 1000 + m ∧
          (∀ j, j < L.length → ((valV kvs (Sum.inl (j : Int))).isSome = true ↔ root L j < i ∨ j ∈ (pieceL L i).take m)) ∧ PcAt H' fd L (fl L i ++ [i]))
          ⟨v6, kvs, rfl, s6, g2, gp2, ln, fun j hj => by rw [hv j hj]; simp, pc2⟩ (fun m σ H' _ ⟨_, _, _, _, _, q, _⟩ => SqL.of q) ?_ ?_
        · rintro m x σ H4 hx ⟨v6, kv2, rfl, s7, g3, gp3, ln2, hv2, pc3⟩
          obtain ⟨y, hy, rfl⟩ := vN_at hx
          have ml : m < (pieceL L i).length := (List.getElem?_eq_some_iff.mp hy).1
          have nft : fd ≠ tk := Ne.symm ntf
          refine ⟨_, rfl, _, rfl, tk, _, rfl, DPut.k (k := Sum.inl (y : Int)) g3 (by rw [sizeLine_eq]; omega), ?_⟩
          obtain ⟨bs3, gf3, rf3⟩ := pc3
          refine ⟨_, _, rfl, same_own s7 htk, upd_same, by rw [upd_ne npt]; exact gp3, ?_, fun j hj => ?_, bs3, by rw [upd_ne nft]; exact gf3, Paired.mapP rf3 fun f a q => ⟨q.1, ?_⟩⟩
          · have := length_putK kv2 (Sum.inl (y : Int)) (.bl true)
            omega
          · rw [valV_put, List.take_succ, hy]
            by_cases ej : j = y
            · subst ej
              rw [if_pos rfl]
              constructor
              · intro _
                exact .inr (List.mem_append_right _ (by simp))
              · intro _
                rfl
            · rw [if_neg (fun z => ej (by injection z with z; omega)), hv2 j hj]
              constructor
              · rintro (z | z)
                · exact .inl z
                · exact .inr (List.mem_append_left _ z)
              · rintro (z | z)
                · exact .inl z
                · rcases List.mem_append.mp z with z | z
                  · exact .inr z
                  · exact absurd (by simpa using z) ej
          · rw [upd_ne (ne_of q.2 g3 (fun z => nomatch z))]
            exact q.2
        · rintro σ H4 ⟨v6, kv2, rfl, s7, g3, gp3, ln2, hv2, pc3⟩
          rw [vN_len] at ln2 hv2
          rw [List.take_length] at hv2
          refine ⟨_, _, _, kv2, rfl, s7, g3, by omega, fun j hj => ?_, by rw [RM.fl_succ, if_pos re]; exact pc3⟩
          rw [hv2 j hj, RM.mem_piece]
          constructor
          · rintro (z | ⟨_, z⟩) <;> omega
          · intro z
            rcases Nat.lt_or_ge (root L j) i with y | y
            · exact .inl y
            · exact .inr ⟨hj, by omega⟩
      | some v =>
        rw [e] at hvi
        have lt' : root L i < i := hvi.mp rfl
        refine iteF ⟨_, _, _, kvs, rfl, s4, g1, by omega, fun j hj => ?_, by rw [RM.fl_succ, if_neg (by omega), List.append_nil]; exact pc⟩
        rw [hv j hj]
        constructor
        · intro z
          omega
        · intro z
          rcases Nat.lt_or_ge (root L j) i with y | y
          · exact y
          · have ej : root L j = i := by omega
            have rr := RM.root_root hj
            rw [ej] at rr
            omega
    · rintro σ H2 ⟨v4, v5, v6, kvs, rfl, s4, g1, ln, hv, pc⟩
      refine ⟨_, rfl, k fd H2 (s1.free nfd) (s1.trans s4) ?_⟩
      rw [RM.fl_all]
      exact pc
theorem ok_piece_with (T : Txt K mg A) : Prom P w K mg base 1 A.f_piece_with ["pieces", "k"] (sp_with K) := by
  skip
  refine T.d_piece_with.prom sc_piece_with (fun vs H Q E h => ?_) (fun cdv A' outer s H vs Q E hr h => ?_)
  · obtain ⟨l, L, k, rfl, _⟩ := h
    rfl
  · obtain ⟨l, L, k, rfl, ⟨bs, gl, rf⟩, hL, q⟩ := h
    have lb : bs.length = (Rc29.firstsOf L).length := (Paired.length rf).symm
    have lf : (Rc29.firstsOf L).length ≤ 1000 := by
      rw [RM.fl_all]
      exact Nat.le_trans (RM.fl_len L _) hL
    refine ⟨_, (pss_cons (ps_for PassesOwn.never rfl (pi_range1 rfl T.b_range (pa_cons (pe_callB call_len_seq (by rfl) T.b_len PySem.boot_len (pa_cons (pv 0) pa_nil)) pa_nil)) (pg_name (i := 2) sc_piece_with.nd rfl (Or.inl rfl)) (pss_one (ps_if (pt_cmpR op_in_seq (pv 1) (pe_ix ix_list (pv 0) (pv 2) (fun _ _ => rfl)) rfl) (pss_one (ps_ret (pv 2))) pss_nil)))
      (pss_one (ps_ret pe_non))), ?_⟩
    refine ⟨_, rfl, l, _, rfl, .inl (SqL.of gl), (bs.length : Int), (by rw [List.length_map]), (by omega), (by omega), ?_⟩
    rw [Int.toNat_natCast]
    refine for_range (fun m σ H' => H' = H ∧ ∃ v2 : Option V, σ = [some (.ref l), some (.int k), v2] ∧ ∀ i, i < m → ∀ f, (Rc29.firstsOf L)[i]? = some f → ¬ (0 ≤ k ∧ k < (L.length : Int) ∧ root L k.toNat = f)) ⟨rfl, none, rfl, fun i hi => absurd hi (Nat.not_lt_zero _)⟩ ?_ ?_
    · rintro m σ H' hm ⟨rfl, v2, rfl, hno⟩
      obtain ⟨f, hf⟩ : ∃ f, (Rc29.firstsOf L)[m]? = some f := ⟨(Rc29.firstsOf L)[m]'(by omega), List.getElem?_eq_getElem _⟩
      obtain ⟨a, ea, na, ga⟩ := paired_get rf hf
      rw [show (0 : Int) + (m : Int) = (m : Int) by omega]
      refine ⟨_, rfl, _, rfl, _, rfl, l, _, _, _, rfl, rfl, SqL.of gl, at_of (j := m) (v := .ref a) rfl (by rw [List.getElem?_map, ea]; rfl), a, _, rfl, .inl (SqL.of ga), rfl, flat_vN _, _, rfl, ite2 (fun h => ?_) fun h => ?_⟩
      · obtain ⟨j, hj, e⟩ := (in_vN k _).mp h
        obtain ⟨j1, j2⟩ := RM.mem_piece.mp hj
        subst e
        have hk : (0 : Int) ≤ (j : Int) ∧ (j : Int) < (L.length : Int) := by omega
        have idx : (Rc29.firstsOf L).idxOf (root L j) = m := RM.idx_of (fun i hi z => hno i hi _ z ⟨hk.1, hk.2, by rw [Int.toNat_natCast]⟩) (by rw [j2]; exact hf)
        unfold withV at q
        rw [if_pos hk, Int.toNat_natCast, idx] at q
        exact ⟨_, rfl, q⟩
      · refine ⟨rfl, _, rfl, fun i hi f' hf' ⟨k1, k2, k3⟩ => ?_⟩
        rcases Nat.lt_or_ge i m with z | z
        · exact hno i z f' hf' ⟨k1, k2, k3⟩
        · have ei : i = m := by omega
          subst ei
          rw [hf] at hf'
          cases hf'
          exact h ((in_vN k _).mpr ⟨k.toNat, RM.mem_piece.mpr ⟨by omega, k3⟩, by omega⟩)
    · rintro σ H' ⟨rfl, v2, rfl, hno⟩
      have none : ¬ (0 ≤ k ∧ k < (L.length : Int)) := fun ⟨k1, k2⟩ => by
        have mem := RM.root_mem (l := L) (i := k.toNat) (by omega)
        obtain ⟨i, hi⟩ := List.mem_iff_getElem?.mp mem
        have lt := (List.getElem?_eq_some_iff.mp hi).1
        exact hno i (by omega) _ hi ⟨k1, k2, rfl⟩
      unfold withV at q
      rw [if_neg none] at q
      exact q
end
end Fs
end
section
set_option Elab.async false
set_option linter.all false
set_option maxRecDepth 100000
set_option maxHeartbeats 4000001
namespace Fs
open PySem PySem.Spec PyProof.Rows L2
open Rc29 (Cut Triangle corners these)
open RM (root pieceL fl sidesP)
theorem lex_asymm : ∀ {a b : List Int}, HT.lexLt a b = true → HT.lexLt b a = false
  | [], [], h => by cases h
  | [], _ :: _, _ => rfl
  | _ :: _, [], h => by cases h
  | x :: xs, y :: ys, h => by
    rw [HT.lexLt_cons] at h ⊢
    by_cases e : x = y
    · rw [if_pos e] at h
      rw [if_pos e.symm]
      exact lex_asymm h
    · rw [if_neg e] at h
      rw [if_neg (fun z => e z.symm)]
      exact decide_eq_false (by have := of_decide_eq_true h; omega)
theorem lex_total : ∀ {a b : List Int}, a.length = b.length → HT.lexLt a b = false → HT.lexLt b a = false → a = b
  | [], [], _, _, _ => rfl
  | [], _ :: _, h, _, _ => by cases h
  | _ :: _, [], h, _, _ => by cases h
  | x :: xs, y :: ys, h, h1, h2 => by
    rw [HT.lexLt_cons] at h1 h2
    by_cases e : x = y
    · subst e
      rw [if_pos rfl] at h1 h2
      rw [lex_total (by simpa using h) h1 h2]
    · rw [if_neg e] at h1
      rw [if_neg (fun z => e z.symm)] at h2
      have := of_decide_eq_false h1
      have := of_decide_eq_false h2
      omega
def mnC (e : Cut × Cut) : Cut := if HT.lexLt (cI e.2) (cI e.1) = true then e.2 else e.1
def mxC (e : Cut × Cut) : Cut := if HT.lexLt (cI e.1) (cI e.2) = true then e.2 else e.1
def nmK (e : Cut × Cut) : Key2 := [keyC (mnC e), keyC (mxC e)]
theorem mm_cases (e : Cut × Cut) : (mnC e, mxC e) = e ∨ (mnC e, mxC e) = RK.swap e := by
  unfold mnC mxC
  cases h1 : HT.lexLt (cI e.1) (cI e.2) with
  | true =>
    rw [lex_asymm h1]
    exact .inl rfl
  | false =>
    cases h2 : HT.lexLt (cI e.2) (cI e.1) with
    | true => exact .inr rfl
    | false =>
      have q : e.1 = e.2 := cI_inj (lex_total (show (cI e.1).length = (cI e.2).length from rfl) h1 h2)
      exact .inl (by obtain ⟨x, y⟩ := e; cases q; rfl)
theorem mm_swap (e : Cut × Cut) : mnC (RK.swap e) = mnC e ∧ mxC (RK.swap e) = mxC e := by
  show (if HT.lexLt (cI e.1) (cI e.2) = true then e.1 else e.2) = (if HT.lexLt (cI e.2) (cI e.1) = true then e.2 else e.1) ∧ (if HT.lexLt (cI e.2) (cI e.1) = true then e.1 else e.2) = (if HT.lexLt (cI e.1) (cI e.2) = true then e.2 else e.1)
  cases h1 : HT.lexLt (cI e.1) (cI e.2) with
  | true =>
    rw [lex_asymm h1]
    exact ⟨rfl, rfl⟩
  | false =>
    cases h2 : HT.lexLt (cI e.2) (cI e.1) with
    | true => exact ⟨rfl, rfl⟩
    | false =>
      have q : e.1 = e.2 := cI_inj (lex_total (show (cI e.1).length = (cI e.2).length from rfl) h1 h2)
      exact ⟨q.symm, q.symm⟩
theorem nm_swap (e : Cut × Cut) : nmK (RK.swap e) = nmK e := by
  unfold nmK
  rw [(mm_swap e).1, (mm_swap e).2]
theorem nm_inj {e e' : Cut × Cut} (h : nmK e = nmK e') : e = e' ∨ e = RK.swap e' := by
  unfold nmK at h
  simp only [List.cons.injEq, and_true] at h
  have p : (mnC e, mxC e) = (mnC e', mxC e') := by rw [keyC_inj h.1, keyC_inj h.2]
  rcases mm_cases e with a | a <;> rcases mm_cases e' with b | b
  · exact .inl (a.symm.trans (p.trans b))
  · exact .inr (a.symm.trans (p.trans b))
  · exact .inr (by rw [← b, ← p, a]; rfl)
  · left
    have q : RK.swap e = RK.swap e' := a.symm.trans (p.trans b)
    have := congrArg RK.swap q
    exact this
theorem these_succ {L : List Triangle} {p : List Nat} {m j : Nat} {t : Triangle} (h1 : p[m]? = some j) (h2 : L[j]? = some t) : these L (p.take (m + 1)) = these L (p.take m) ++ [t] := by
  unfold these
  rw [List.take_succ, h1, List.filterMap_append]
  simp [h2]
theorem these_len (L : List Triangle) (p : List Nat) : (these L p).length ≤ p.length := List.length_filterMap_le _ _
def kvC (u : List Cut) : List (List Key × V) := u.map fun c => (keyC c, V.bl true)
theorem any_C (c : Cut) : ∀ u : List Cut, ((kvC u).any fun kv => decide (kv.1 = keyC c)) = decide (c ∈ u)
  | [] => rfl
  | d :: u => by
    have ih := any_C c u
    unfold kvC at ih ⊢
    rw [List.map_cons, List.any_cons, ih]
    by_cases e : d = c
    · subst e
      simp
    · rw [decide_eq_false (fun z => e (keyC_inj z)), Bool.false_or]
      have : c ∈ d :: u ↔ c ∈ u := by
        rw [List.mem_cons]
        exact ⟨fun z => z.resolve_left fun y => e y.symm, .inr⟩
      simp only [this]
theorem put_C (u : List Cut) (c : Cut) : putK (kvC u) (keyC c) (.bl true) = kvC (if c ∈ u then u else u ++ [c]) := by
  unfold putK
  rw [any_C]
  by_cases m : c ∈ u
  · rw [decide_eq_true m, if_pos rfl, if_pos m]
    unfold kvC
    rw [List.map_map]
    refine List.map_congr_left fun d _ => ?_
    show (if keyC d = keyC c then (keyC d, V.bl true) else (keyC d, V.bl true)) = _
    rw [ite_self]
  · rw [decide_eq_false m, if_neg Bool.false_ne_true, if_neg m]
    simp [kvC]
def sp_count (K : PySem.W.Frag) : Sp := fun vs H Q _ => ∃ (lp lt : Addr) (L : List Triangle) (p : List Nat), vs = [.ref lp, .ref lt] ∧ H lp = some (.lst (vN p)) ∧ LstS H lt (L.map encT) ∧ (∀ j ∈ p, j < L.length) ∧ p.length ≤ 1000 ∧ ∀ H' : Hp, Same H H' → Q (.int (Rc29.pointsOf (these L p) : Nat)) H'
def sp_sides (K : PySem.W.Frag) : Sp := fun vs H Q _ => ∃ (a : Addr) (xs : List V) (t : Triangle), vs = [.ref a] ∧ H a = some (.tup xs) ∧ IsAll H xs ((corners t).map encCut) ∧
  ∀ (l : Addr) (H' : Hp) (bs : List Addr), H l = none → Same H H' → H' l = some (.lst (bs.map V.ref)) → Paired (fun e b => PKey H' (nmK e) b) (sidesP t) bs → Q (.ref l) H'
theorem three_of {H : Hp} {xs : List V} {t : Triangle} (h : IsAll H xs ((corners t).map encCut)) : ∃ b1 b2 b3 : Addr, xs = [.ref b1, .ref b2, .ref b3] ∧ H b1 = some (.tup ((keyC t.1).map kV)) ∧ H b2 = some (.tup ((keyC t.2.1).map kV)) ∧ H b3 = some (.tup ((keyC t.2.2).map kV)) := by
  have l3 : xs.length = 3 := by rw [isAll_len h]; rfl
  obtain ⟨x, y, z, rfl⟩ := len3 l3
  obtain ⟨c1, b1, e1, rfl, g1⟩ := corner_at (i := 0) h rfl
  obtain ⟨c2, b2, e2, rfl, g2⟩ := corner_at (i := 1) h rfl
  obtain ⟨c3, b3, e3, rfl, g3⟩ := corner_at (i := 2) h rfl
  cases e1
  cases e2
  cases e3
  exact ⟨b1, b2, b3, rfl, g1, g2, g3⟩
theorem atm1 {x y z : V} : atI [x, y, z] (-1) = some z := atI_last [x, y] z
theorem side_at {H : Hp} {xs : List V} {t : Triangle} (h : IsAll H xs ((corners t).map encCut)) {m : Nat} (hm : m < 3) : ∃ (b c : Addr) (e : Cut × Cut), atI xs ((m : Int) - 1) = some (.ref b) ∧ atI xs (m : Int) = some (.ref c) ∧ (sidesP t)[m]? = some e ∧ H b = some (.tup ((keyC e.1).map kV)) ∧ H c = some (.tup ((keyC e.2).map kV)) := by
  obtain ⟨b1, b2, b3, rfl, g1, g2, g3⟩ := three_of h
  match m, hm with
  | 0, _ => exact ⟨b3, b1, _, atm1, at0, rfl, g3, g1⟩
  | 1, _ => exact ⟨b1, b2, _, at0, at1, rfl, g1, g2⟩
  | 2, _ => exact ⟨b2, b3, _, at1, at2, rfl, g2, g3⟩
section
variable {P : Program} {w : World} {K : PySem.W.Frag} {mg : Str → Option Value} {base : Heap} {A : Ad}
theorem ok_count_points (T : Txt K mg A) : Prom P w K mg base 1 A.f_count_points ["piece", "triangles"] (sp_count K) := by
  skip
  refine T.d_count_points.prom sc_count_points (fun vs H Q E h => ?_) (fun cdv A' outer s H vs Q E hr h => ?_)
  · obtain ⟨lp, lt, L, p, rfl, _⟩ := h
    rfl
  · obtain ⟨lp, lt, L, p, rfl, gp, ⟨vt, gt, rt⟩, hlt, hp, k⟩ := h
    refine ⟨_, (pss_cons (ps_set (i := 2) sc_count_points.nd rfl (Or.inl rfl) pe_dnewT)
      (pss_cons (ps_for PassesOwn.never rfl (pi_list (pv 0)) (pg_name (i := 3) sc_count_points.nd rfl (Or.inl rfl)) (pss_one (ps_for PassesOwn.never rfl (pi_tup (pe_ix ix_list (pv 1) (pv 3) (fun _ _ => rfl))) (pg_name (i := 4) sc_count_points.nd rfl (Or.inl rfl)) (pss_one (ps_dput (hu_of hr) (pv 2) (pv 4) pe_bl rfl)))))
      (pss_one (ps_ret (pe_callB call_lenT (by rfl) T.b_len PySem.boot_len (pa_cons (pv 2) pa_nil)))))), ?_⟩
    intro d hd
    have s0 : Same H (upd H d (.dT [])) := same_new hd
    refine ⟨_, rfl, lp, rfl, ⟨_, SqL.of (s0 _ _ gp)⟩, ?_⟩
    refine for_list (a := lp) (xs := vN p) (fun m σ H' => ∃ (v3 v4 : Option V) (u : List Cut), σ = [some (.ref lp), some (.ref lt), some (.ref d), v3, v4] ∧ Same H H' ∧ H' d = some (.dT (kvC u)) ∧ u.Nodup ∧ u.length ≤ 3 * m ∧ ∀ c, c ∈ u ↔ ∃ t ∈ these L (p.take m), c ∈ corners t)
      ⟨none, none, [], rfl, s0, upd_same, List.nodup_nil, Nat.zero_le _, fun c => ⟨fun z => (by cases z), fun ⟨t, z, _⟩ => by cases z⟩⟩ (fun m σ H' _ ⟨_, _, _, _, q, _⟩ => SqL.of (q _ _ gp)) ?_ ?_
    · rintro m x σ H1 hx ⟨v3, v4, u, rfl, s1, g1, nu, lu, hu⟩
      obtain ⟨j, hj, rfl⟩ := vN_at hx
      have ml : m < p.length := (List.getElem?_eq_some_iff.mp hj).1
      have hjn := hlt j (List.mem_of_getElem? hj)
      obtain ⟨t, ht⟩ : ∃ t, L[j]? = some t := ⟨L[j], List.getElem?_eq_getElem hjn⟩
      obtain ⟨a, xs, e1, e2, e3⟩ := tri_at rt ht
      have l3 : xs.length = 3 := by rw [isAll_len e3]; rfl
      refine ⟨_, rfl, _, rfl, lt, _, _, _, rfl, rfl, SqL.of (s1 _ _ gt), at_of (j := j) rfl e1, a, rfl, ⟨_, SqT.of (s1 _ _ e2)⟩, ?_⟩
      refine for_tup (a := a) (xs := xs) (fun q σ H' => ∃ (v4 : Option V) (u : List Cut), σ = [some (.ref lp), some (.ref lt), some (.ref d), some (.int (j : Int)), v4] ∧ Same H H' ∧ H' d = some (.dT (kvC u)) ∧ u.Nodup ∧ u.length ≤ 3 * m + q ∧ ∀ c, c ∈ u ↔ (∃ t ∈ these L (p.take m), c ∈ corners t) ∨ c ∈ (corners t).take q)
        ⟨v4, u, rfl, s1, g1, nu, lu, fun c => by rw [hu]; simp⟩ (fun q σ H' _ ⟨_, _, _, z, _⟩ => SqT.of (z _ _ e2)) ?_ ?_
      · rintro q x σ H2 hx2 ⟨v4, u2, rfl, s2, g2, nu2, lu2, hu2⟩
        obtain ⟨c, b, ec, rfl, eb⟩ := corner_at e3 hx2
        have hq3 : q < 3 := (List.getElem?_eq_some_iff.mp ec).1
        refine ⟨_, rfl, _, rfl, d, _, rfl, DPut.t (k := keyC c) g2 (s2 _ _ eb) (small_line' (by unfold kvC; rw [List.length_map]; omega)), ?_⟩
        refine ⟨_, if c ∈ u2 then u2 else u2 ++ [c], rfl, same_own s2 hd, by rw [upd_same, put_C], ?_, ?_, fun c' => ?_⟩
        · split
          · exact nu2
          · next z => exact nd_snoc nu2 z
        · split
          · omega
          · rw [List.length_append, List.length_singleton]
            omega
        · rw [List.take_succ, ec]
          split
          · next z =>
            rw [hu2]
            constructor
            · rintro (y | y)
              · exact .inl y
              · exact .inr (List.mem_append_left _ y)
            · rintro (y | y)
              · exact .inl y
              · rcases List.mem_append.mp y with y | y
                · exact .inr y
                · have : c' = c := by simpa using y
                  rw [this]
                  exact (hu2 c).mp z
          · rw [List.mem_append, hu2, List.mem_append]
            constructor
            · rintro ((y | y) | y)
              · exact .inl y
              · exact .inr (.inl y)
              · exact .inr (.inr (by simpa using y))
            · rintro (y | y | y)
              · exact .inl (.inl y)
              · exact .inl (.inr y)
              · exact .inr (by simpa using y)
      · rintro σ H2 ⟨v4, u2, rfl, s2, g2, nu2, lu2, hu2⟩
        rw [l3] at lu2 hu2
        rw [List.take_of_length_le (show (corners t).length ≤ 3 from Nat.le_refl _)] at hu2
        refine ⟨_, _, u2, rfl, s2, g2, nu2, by omega, fun c => ?_⟩
        rw [hu2, these_succ hj ht]
        constructor
        · rintro (⟨x, hx, hc⟩ | hc)
          · exact ⟨x, List.mem_append_left _ hx, hc⟩
          · exact ⟨t, List.mem_append_right _ List.mem_cons_self, hc⟩
        · rintro ⟨x, hx, hc⟩
          rcases List.mem_append.mp hx with z | z
          · exact .inl ⟨x, z, hc⟩
          · rw [List.mem_singleton] at z
            subst z
            exact .inr hc
    · rintro σ H1 ⟨v3, v4, u, rfl, s1, g1, nu, lu, hu⟩
      rw [vN_len, List.take_length] at hu
      have q := k H1 s1
      rw [RK.pointsOf_eq nu hu] at q
      refine ⟨_, rfl, d, _, rfl, g1, ?_⟩
      unfold kvC
      rw [List.length_map]
      exact q
theorem ok_sides_of (T : Txt K mg A) : Prom P w K mg base 1 A.f_sides_of ["triangle"] (sp_sides K) := by
  skip
  refine T.d_sides_of.prom sc_sides_of (fun vs H Q E h => ?_) (fun cdv A' outer s H vs Q E hr h => ?_)
  · obtain ⟨a, xs, t, rfl, _⟩ := h
    rfl
  · obtain ⟨a, xs, t, rfl, ga, rx, k⟩ := h
    refine ⟨_, (pss_cons (ps_set (i := 1) sc_sides_of.nd rfl (Or.inl rfl) (pe_lst pa_nil))
      (pss_cons (ps_for PassesOwn.never rfl (pi_range1 rfl T.b_range (pa_cons pe_int pa_nil)) (pg_name (i := 2) sc_sides_of.nd rfl (Or.inl rfl)) (pss_cons (ps_set (i := 3) sc_sides_of.nd rfl (Or.inl rfl) (pe_ix ix_tup (pv 0) (pe_op op_sub (pv 2) pe_int) (fun _ _ => rfl)))
      (pss_cons (ps_set (i := 4) sc_sides_of.nd rfl (Or.inl rfl) (pe_ix ix_tup (pv 0) (pv 2) (fun _ _ => rfl)))
      (pss_one (ps_expr (pe_bm PySem.F.plainAttrs_list PySem.F.slot_list_append PySem.F.type_list_append mt_append (pv 1) (pa_cons (pe_tup (pa_cons (pe_callB (call_min2T rfl hr.units) (by rfl) T.b_min boot_min (pa_cons (pv 3) (pa_cons (pv 4) pa_nil))) (pa_cons (pe_callB (call_max2T rfl hr.units) (by rfl) T.b_max boot_max (pa_cons (pv 3) (pa_cons (pv 4) pa_nil))) pa_nil))) pa_nil)))))))
      (pss_one (ps_ret (pv 1))))), ?_⟩
    refine ⟨Nat.zero_le _, fun l hl => ?_⟩
    have s0 : Same H (upd H l (.lst [])) := same_new hl
    refine ⟨3, rfl, (by decide), (by decide), ?_⟩
    refine for_range (n := 3) (fun m σ H' => ∃ (v2 v3 v4 : Option V) (bs : List Addr), σ = [some (.ref a), some (.ref l), v2, v3, v4] ∧ Same H H' ∧ H' l = some (.lst (bs.map V.ref)) ∧ Paired (fun e b => PKey H' (nmK e) b) ((sidesP t).take m) bs) ⟨none, none, none, [], rfl, s0, upd_same, .nil⟩ ?_ ?_
    · rintro m σ H1 hm ⟨v2, v3, v4, bs, rfl, s1, g1, r1⟩
      rw [show (0 : Int) + (m : Int) = (m : Int) by omega]
      obtain ⟨b, c, e, at1', at2', es, gb, gc⟩ := side_at rx hm
      have gb1 := s1 _ _ gb
      have gc1 := s1 _ _ gc
      refine ⟨_, rfl, _, rfl, _, _, rfl, rfl, a, _, _, _, rfl, rfl, SqT.of (s1 _ _ ga), at1', ?_⟩
      refine ⟨_, rfl, _, rfl, a, _, _, _, rfl, rfl, SqT.of (s1 _ _ ga), at2', ?_⟩
      have lb : bs.length ≤ 3 := by
        have := Paired.length r1
        rw [List.length_take] at this
        omega
      refine ⟨_, rfl, .inl ⟨rfl, _, SqL.of g1⟩, ?_⟩
      refine ⟨_, rfl, _, rfl, b, c, cI e.1, cI e.2, rfl, SqT.of gb1, SqT.of gc1, ?_⟩
      refine ⟨_, rfl, _, rfl, b, c, cI e.1, cI e.2, rfl, SqT.of gb1, SqT.of gc1, ?_⟩
      refine ⟨small_line (by simp), fun p hp => ?_⟩
      have s2 := same_new (o := HO.tup [V.ref (if HT.lexLt (cI e.2) (cI e.1) = true then c else b), V.ref (if HT.lexLt (cI e.1) (cI e.2) = true then c else b)]) hp
      have g2 := s2 _ _ g1
      refine ⟨l, _, _, rfl, rfl, g2, small_line' (by rw [List.length_map]; omega), ?_⟩
      have key : PKey (upd H1 p (HO.tup [V.ref (if HT.lexLt (cI e.2) (cI e.1) = true then c else b), V.ref (if HT.lexLt (cI e.1) (cI e.2) = true then c else b)])) (nmK e) p := by
        refine ⟨[if HT.lexLt (cI e.2) (cI e.1) = true then c else b, if HT.lexLt (cI e.1) (cI e.2) = true then c else b], upd_same, .cons (s2 _ _ ?_) (.cons (s2 _ _ ?_) .nil)⟩
        · unfold mnC
          split
          · exact gc1
          · exact gb1
        · unfold mxC
          split
          · exact gc1
          · exact gb1
      have tp : ∀ {c' : Addr} {ys : List V}, H1 c' = some (.tup ys) → (upd (upd H1 p (HO.tup [V.ref (if HT.lexLt (cI e.2) (cI e.1) = true then c else b), V.ref (if HT.lexLt (cI e.1) (cI e.2) = true then c else b)])) l (.lst (bs.map V.ref ++ [V.ref p]))) c' = some (.tup ys) := fun q => by
        rw [upd_ne (ne_of (s2 _ _ q) g2 (fun z => nomatch z))]
        exact s2 _ _ q
      refine ⟨_, _, _, bs ++ [p], rfl, same_own (s1.trans s2) hl, by rw [upd_same, List.map_append]; rfl, ?_⟩
      have et : (sidesP t).take (m + 1) = (sidesP t).take m ++ [e] := by
        rw [List.take_succ, es]
        rfl
      rw [et]
      have key2 : PKey (upd (upd H1 p (HO.tup [V.ref (if HT.lexLt (cI e.2) (cI e.1) = true then c else b), V.ref (if HT.lexLt (cI e.1) (cI e.2) = true then c else b)])) l (.lst (bs.map V.ref ++ [V.ref p]))) (nmK e) p := key.keep fun c' ys q => by
        rw [upd_ne (ne_of q g2 (fun z => nomatch z))]
        exact q
      exact paired_snoc (R := fun e b => PKey _ (nmK e) b) key2 (Paired.mapP r1 fun e' b' (q : PKey H1 (nmK e') b') => q.keep fun c' ys z => tp z)
    · rintro σ H1 ⟨v2, v3, v4, bs, rfl, s1, g1, r1⟩
      rw [List.take_of_length_le (show (sidesP t).length ≤ 3 from Nat.le_refl _)] at r1
      exact ⟨_, rfl, k l H1 bs hl s1 g1 r1⟩
end
end Fs
end
section
set_option Elab.async false
set_option linter.all false
set_option maxRecDepth 100000
set_option maxHeartbeats 600001
namespace Fs
open PySem PySem.Spec PyProof.Rows L2
open Rc29 (Cut Triangle corners these sides)
open RM (root pieceL fl sidesP)
def cnt (q : List (Cut × Cut)) (ks : Key2) : Nat := (q.filter fun e => decide (nmK e = ks)).length
theorem cnt_snoc (q : List (Cut × Cut)) (e : Cut × Cut) (ks : Key2) : cnt (q ++ [e]) ks = cnt q ks + if ks = nmK e then 1 else 0 := by
  unfold cnt
  rw [List.filter_append, List.length_append, List.filter_cons, List.filter_nil]
  by_cases h : ks = nmK e
  · rw [if_pos h, if_pos (decide_eq_true h.symm)]
    rfl
  · rw [if_neg h, if_neg (fun z => h (of_decide_eq_true z).symm)]
    rfl
abbrev SX := List (Key2 × Addr × V)
theorem sVal_none {xs : SX} {k : Key2} (h : sVal xs k = none) : ¬ k ∈ xs.map (·.1) := fun m => by
  obtain ⟨x, hx, e⟩ := List.mem_map.mp m
  unfold sVal at h
  rw [Option.map_eq_none_iff, List.find?_eq_none] at h
  exact h x hx (decide_eq_true e)
theorem sVal_of : ∀ {xs : SX}, (xs.map (·.1)).Nodup → ∀ x ∈ xs, sVal xs x.1 = some x.2.2
  | [], _, x, hx => by cases hx
  | y :: xs, nd, x, hx => by
    rw [List.map_cons] at nd
    obtain ⟨nh, nt⟩ := List.nodup_cons.mp nd
    have cons : ∀ k, sVal (y :: xs) k = if y.1 = k then some y.2.2 else sVal xs k := fun k => by
      unfold sVal
      rw [List.find?_cons]
      by_cases e : y.1 = k
      · rw [decide_eq_true e, if_pos e]
        rfl
      · rw [decide_eq_false e, if_neg e]
    rw [cons]
    rcases List.mem_cons.mp hx with z | z
    · rw [z, if_pos rfl]
    · rw [if_neg (fun e => nh (by rw [e]; exact List.mem_map.mpr ⟨x, z, rfl⟩))]
      exact sVal_of nt x z
theorem sPut_nodup {xs : SX} {k : Key2} {b : Addr} {v : V} (h : (xs.map (·.1)).Nodup) : ((sPut xs k b v).map (·.1)).Nodup := by
  unfold sPut
  split
  · rw [List.map_map]
    have e : ((fun x : Key2 × Addr × V => x.1) ∘ fun x => if x.1 = k then (x.1, x.2.1, v) else x) = fun x => x.1 := by
      funext x
      show (if x.1 = k then (x.1, x.2.1, v) else x).1 = x.1
      split <;> rfl
    rw [e]
    exact h
  · next z =>
    rw [List.map_append]
    refine nd_snoc h (sVal_none ?_)
    cases q : sVal xs k with
    | none => rfl
    | some y => rw [q] at z; exact absurd rfl z
structure SInv (P : Program) (w : World) (H' : Hp) (h : Addr) (q : List (Cut × Cut)) (xs : SX) : Prop where
  at_ : H' h = some (SD P w h xs)
  dict : SDict P w H' h xs
  nd : (xs.map (·.1)).Nodup
  len : xs.length ≤ q.length
  val : ∀ ks, sVal xs ks = if cnt q ks = 0 then none else some (.int (cnt q ks : Nat))
theorem SInv.keys {P : Program} {w : World} {H' : Hp} {h : Addr} {q : List (Cut × Cut)} {xs : SX} (I : SInv P w H' h q xs) (y : Key2) : y ∈ xs.map (·.1) ↔ ∃ e ∈ q, nmK e = y := by
  have pos : (∃ e ∈ q, nmK e = y) ↔ cnt q y ≠ 0 := by
    unfold cnt
    constructor
    · rintro ⟨e, he, z⟩ h0
      have := List.length_pos_of_mem (l := q.filter fun e => decide (nmK e = y)) (List.mem_filter.mpr ⟨he, decide_eq_true z⟩)
      omega
    · intro h0
      obtain ⟨e, he⟩ := List.exists_mem_of_length_pos (Nat.pos_of_ne_zero h0)
      obtain ⟨h1, h2⟩ := List.mem_filter.mp he
      exact ⟨e, h1, of_decide_eq_true h2⟩
  rw [pos]
  constructor
  · intro m h0
    have v := I.val y
    rw [if_pos h0] at v
    exact sVal_none v m
  · intro h0
    have v := I.val y
    rw [if_neg h0] at v
    unfold sVal at v
    obtain ⟨x, hx, _⟩ := Option.map_eq_some_iff.mp v
    have e := List.find?_some hx
    have m := List.mem_of_find?_eq_some hx
    exact List.mem_map.mpr ⟨x, m, of_decide_eq_true e⟩
theorem sd_put {P : Program} {w : World} {H : Hp} {a b : Addr} {xs : SX} {ks : Key2} (g : SDict P w H a xs) (kb : PKey H ks b) (e : H a = some (SD P w a xs)) (v : V) : SDict P w (upd H a (SD P w a (sPut xs ks b v))) a (sPut xs ks b v) := by
  have nt : ∀ c ys, H c = some (.tup ys) → (upd H a (SD P w a (sPut xs ks b v))) c = some (.tup ys) := fun c ys q => by
    rw [upd_ne (ne_of q e (fun z => nomatch z))]
    exact q
  exact ⟨.inl upd_same, sPut_keys (P' := fun k c => PKey _ k c) (fun x hx => (g.keys x hx).keep nt) (kb.keep nt)⟩
theorem pe_sgetP {X : Cx} {P : Program} {w : World} {o i : Expr} {pos : Pos} {td ty : TE} (hP : X.prog = P) (hw : X.w = w) (hu : X.A.units + 64 < cLine) (ho : PE X o td) (hi : PE X i ty) (hs : NoSl i) : PE X (.Subscript o i pos) (tSGet P w td ty) := by
  subst hP hw
  exact pe_sget hu ho hi hs
def sp_bySide (P : Program) (w : World) (K : PySem.W.Frag) : Sp := fun vs H Q _ => ∃ (lp lt : Addr) (L : List Triangle) (p : List Nat), vs = [.ref lp, .ref lt] ∧ H lp = some (.lst (vN p)) ∧ LstS H lt (L.map encT) ∧ (∀ j ∈ p, j < L.length) ∧ p.length ≤ 1000 ∧
  ∀ (h : Addr) (H' : Hp) (xs : SX), H h = none → Same H H' → SInv P w H' h ((these L p).flatMap sidesP) xs → Q (.ref h) H'
section
variable {P : Program} {w : World} {K : PySem.W.Frag} {mg : Str → Option Value} {base : Heap} {A : Ad}
theorem ok_triangles_by_side (T : Txt K mg A) : Prom P w K mg base 2 A.f_triangles_by_side ["piece", "triangles"] (sp_bySide P w K) := by
  obtain ⟨fd_sides_of, G_sides_of, b_sides_of, kp_sides_of⟩ := ok_sides_of (P := P) (w := w) (base := base) T
  refine T.d_triangles_by_side.prom sc_triangles_by_side (fun vs H Q E h => ?_) (fun cdv A' outer s H vs Q E hr h => ?_)
  · obtain ⟨lp, lt, L, p, rfl, _⟩ := h
    rfl
  · obtain ⟨lp, lt, L, p, rfl, gp, ⟨vt, gt, rt⟩, hlt, hp, k⟩ := h
    refine ⟨_, (pss_cons (ps_set (i := 2) sc_triangles_by_side.nd rfl (Or.inl rfl) pe_snew)
      (pss_cons (ps_for PassesOwn.never rfl (pi_list (pv 0)) (pg_name (i := 3) sc_triangles_by_side.nd rfl (Or.inl rfl)) (pss_one (ps_for PassesOwn.never rfl (pi_list (pe_call G_sides_of (hr.mono (by decide)) rfl T.g_sides_of kp_sides_of b_sides_of .nil pass0 (pa_cons (pe_ix ix_list (pv 1) (pv 3) (fun _ _ => rfl)) pa_nil))) (pg_name (i := 4) sc_triangles_by_side.nd rfl (Or.inl rfl)) (pss_one (ps_sput hr.units (pv 2) (pv 4) (pe_op op_add (pe_sget2 hr.units (pv 2) (pv 4) pe_int ⟨rfl, rfl, rfl, rfl⟩) pe_int) rfl)))))
      (pss_one (ps_ret (pv 2))))), ?_⟩
    intro d hd
    have s0 : Same H (upd H d (SD P w d [])) := same_new hd
    refine ⟨_, rfl, lp, rfl, ⟨_, SqL.of (s0 _ _ gp)⟩, ?_⟩
    refine for_list (a := lp) (xs := vN p) (fun m σ H' => ∃ (v3 v4 : Option V) (xs : SX), σ = [some (.ref lp), some (.ref lt), some (.ref d), v3, v4] ∧ Same H H' ∧ SInv P w H' d ((these L (p.take m)).flatMap sidesP) xs)
      ⟨none, none, [], rfl, s0, upd_same, ⟨.inl upd_same, fun x hx => by cases hx⟩, List.nodup_nil, Nat.zero_le _, fun ks => rfl⟩ (fun m σ H' _ ⟨_, _, _, _, q, _⟩ => SqL.of (q _ _ gp)) ?_ ?_
    · rintro m x σ H1 hx ⟨v3, v4, xs, rfl, s1, I⟩
      obtain ⟨j, hj, rfl⟩ := vN_at hx
      have ml : m < p.length := (List.getElem?_eq_some_iff.mp hj).1
      have hjn := hlt j (List.mem_of_getElem? hj)
      obtain ⟨t, ht⟩ : ∃ t, L[j]? = some t := ⟨L[j], List.getElem?_eq_getElem hjn⟩
      obtain ⟨a, ys, e1, e2, e3⟩ := tri_at rt ht
      have ql : ((these L (p.take m)).flatMap sidesP).length ≤ 3000 := by
        have a1 := flat_len (g := sidesP) (m := 3) (fun _ => Nat.le_refl _) (these L (p.take m))
        have a2 := these_len L (p.take m)
        rw [List.length_take] at a2
        omega
      refine ⟨_, rfl, _, rfl, lt, _, _, _, rfl, rfl, SqL.of (s1 _ _ gt), at_of (j := j) rfl e1, a, ys, t, rfl, s1 _ _ e2, isAll_keep (Tups.of s1) e3, fun l H2 bs nl s2 gl rl => ?_⟩
      have ned : l ≠ d := fun z => by
        rw [z, I.at_] at nl
        cases nl
      have I2 : SInv P w H2 d ((these L (p.take m)).flatMap sidesP) xs := ⟨s2 _ _ I.at_, ⟨.inl (s2 _ _ I.at_), fun x hx => (I.dict.keys x hx).keep fun c ys q => s2 _ _ q⟩, I.nd, I.len, I.val⟩
      have lb : bs.length = 3 := by
        have := Paired.length rl
        exact this.symm
      refine ⟨l, rfl, ⟨_, SqL.of gl⟩, ?_⟩
      refine for_list (a := l) (xs := bs.map V.ref) (fun q σ H' => ∃ (v4 : Option V) (xs : SX), σ = [some (.ref lp), some (.ref lt), some (.ref d), some (.int (j : Int)), v4] ∧ Same H H' ∧ H' l = some (.lst (bs.map V.ref)) ∧ (∀ c ys, H2 c = some (.tup ys) → H' c = some (.tup ys)) ∧ SInv P w H' d ((these L (p.take m)).flatMap sidesP ++ (sidesP t).take q) xs)
        ⟨v4, xs, rfl, s1.trans s2, gl, fun _ _ q => q, by rw [List.take_zero, List.append_nil]; exact I2⟩ (fun q σ H' _ ⟨_, _, _, _, z, _⟩ => SqL.of z) ?_ ?_
      · rintro q x σ H3 hx2 ⟨v4, xs3, rfl, s3, g3, tp3, I3⟩
        rw [List.getElem?_map] at hx2
        obtain ⟨b, hb, rfl⟩ := Option.map_eq_some_iff.mp hx2
        have hq3 : q < 3 := by
          have := (List.getElem?_eq_some_iff.mp hb).1
          omega
        obtain ⟨e, he⟩ : ∃ e, (sidesP t)[q]? = some e := ⟨(sidesP t)[q]'hq3, List.getElem?_eq_getElem _⟩
        obtain ⟨b', hb', kb⟩ := paired_get rl he
        rw [hb] at hb'
        cases hb'
        have kb3 := kb.keep tp3
        have xl : xs3.length ≤ 3003 := by
          have := I3.len
          rw [List.length_append, List.length_take] at this
          omega
        refine ⟨_, rfl, d, xs3, rfl, I3.dict, _, rfl, b, xs3, nmK e, rfl, I3.dict, kb3, ?_⟩
        have hv := I3.val (nmK e)
        have hg : (sVal xs3 (nmK e)).getD (.int 0) = .int ((cnt ((these L (p.take m)).flatMap sidesP ++ (sidesP t).take q) (nmK e) : Nat) : Int) := by
          rw [hv]
          split
          · next z => rw [z]; rfl
          · rfl
        rw [hg]
        refine ⟨_, _, rfl, rfl, _, rfl, _, rfl, d, b, xs3, nmK e, rfl, rfl, I3.at_, I3.dict, kb3, small_line' (by omega), ?_⟩
        have nld : l ≠ d := ned
        have et : (these L (p.take m)).flatMap sidesP ++ (sidesP t).take (q + 1) = ((these L (p.take m)).flatMap sidesP ++ (sidesP t).take q) ++ [e] := by
          rw [List.take_succ, he, ← List.append_assoc]
          rfl
        refine ⟨_, sPut xs3 (nmK e) b (.int ((cnt ((these L (p.take m)).flatMap sidesP ++ (sidesP t).take q) (nmK e) : Nat) + 1)), rfl, same_own s3 hd, by rw [upd_ne nld]; exact g3, fun c ys z => ?_, ?_⟩
        · have z3 := tp3 c ys z
          rw [upd_ne (ne_of z3 I3.at_ (fun y => nomatch y))]
          exact z3
        · rw [et]
          refine ⟨upd_same, sd_put I3.dict kb3 I3.at_ _, sPut_nodup I3.nd, ?_, fun ks => ?_⟩
          · have := sPut_len xs3 (nmK e) b (.int ((cnt ((these L (p.take m)).flatMap sidesP ++ (sidesP t).take q) (nmK e) : Nat) + 1))
            rw [List.length_append, List.length_singleton]
            exact Nat.le_trans this (Nat.add_le_add_right I3.len 1)
          · rw [sVal_put, cnt_snoc]
            by_cases z : ks = nmK e
            · rw [if_pos z, if_pos z, if_neg (Nat.succ_ne_zero _), z]
              rfl
            · rw [if_neg z, if_neg z, Nat.add_zero]
              exact I3.val ks
      · rintro σ H3 ⟨v4, xs3, rfl, s3, g3, tp3, I3⟩
        rw [List.length_map, lb, List.take_of_length_le (show (sidesP t).length ≤ 3 from Nat.le_refl _)] at I3
        refine ⟨_, _, xs3, rfl, s3, ?_⟩
        rw [these_succ hj ht, List.flatMap_append, List.flatMap_cons, List.flatMap_nil, List.append_nil]
        exact I3
    · rintro σ H1 ⟨v3, v4, xs, rfl, s1, I⟩
      rw [vN_len, List.take_length] at I
      exact ⟨_, rfl, k d H1 xs hd s1 I⟩
def five (L : List Triangle) (i : Nat) : List Nat := [i, (pieceL L i).length, Rc29.pointsOf (these L (pieceL L i)), Rc29.sidesOf (these L (pieceL L i)), Rc29.rim (these L (pieceL L i))]
def sp_measure (K : PySem.W.Frag) : Sp := fun vs H Q _ => ∃ (lp lt : Addr) (L : List Triangle) (i : Nat), vs = [.ref lp, .ref lt] ∧ H lp = some (.lst (vN (pieceL L i))) ∧ LstS H lt (L.map encT) ∧ L.length ≤ 1000 ∧ i ∈ Rc29.firstsOf L ∧ (L.flatMap sides).Nodup ∧ (∀ e ∈ L.flatMap sides, e.1 ≠ e.2) ∧
  ∀ (l : Addr) (H' : Hp), H l = none → Same H H' → H' l = some (.lst (vN (five L i))) → Q (.ref l) H'
theorem cnt_perm {q q' : List (Cut × Cut)} (h : q.Perm q') (ks : Key2) : cnt q ks = cnt q' ks := (h.filter _).length_eq
theorem dec_one (n : Nat) : decide (V.int ((n : Nat) : Int) = V.int 1) = decide (n = 1) := by
  by_cases h : n = 1
  · subst h
    rfl
  · rw [decide_eq_false h, decide_eq_false (fun z => h (by injection z with z; omega))]
theorem ok_measure_piece (T : Txt K mg A) : Prom P w K mg base 3 A.f_measure_piece ["piece", "triangles"] (sp_measure K) := by
  obtain ⟨fd_triangles_by_side, G_triangles_by_side, b_triangles_by_side, kp_triangles_by_side⟩ := ok_triangles_by_side (P := P) (w := w) (base := base) T
  obtain ⟨fd_count_points, G_count_points, b_count_points, kp_count_points⟩ := ok_count_points (P := P) (w := w) (base := base) T
  refine T.d_measure_piece.prom sc_measure_piece (fun vs H Q E h => ?_) (fun cdv A' outer s H vs Q E hr h => ?_)
  · obtain ⟨lp, lt, L, i, rfl, _⟩ := h
    rfl
  · obtain ⟨lp, lt, L, i, rfl, gp, hT, hL, hi, nd, ne, k⟩ := h
    have hlt : ∀ j ∈ pieceL L i, j < L.length := fun j hj => (RM.mem_piece.mp hj).1
    have hpl : (pieceL L i).length ≤ 1000 := Nat.le_trans (RM.piece_len L i) hL
    refine ⟨_, (pss_cons (ps_set (i := 2) sc_measure_piece.nd rfl (Or.inr rfl) (pe_call G_triangles_by_side (hr.mono (by decide)) rfl T.g_triangles_by_side kp_triangles_by_side b_triangles_by_side .nil pass0 (pa_cons (pv 0) (pa_cons (pv 1) pa_nil))))
      (pss_cons (ps_lock (ps_setLc (i := 3) (own := [("side", 4)]) rfl sc_measure_piece.nd rfl rfl (sw_true rfl rfl rfl rfl) (pi_keysS (pv 2)) (blkOk_by (by show blkC n_measure_piece (defScope s_measure_piece) _ _ = true; decide +kernel)) (fun _ _ _ _ _ => (pg_name (i := 4) sc_measure_piece.nd rfl (Or.inl rfl))) (fun _ _ _ _ _ => (pts_one (pt_cmpR op_eq (pe_sgetP (P := P) (w := w) rfl rfl hr.units (pv 2) (pv 4) (fun _ _ => rfl)) pe_int (nomark _)))) (fun _ _ _ _ _ => (pv 4))))
      (pss_one (ps_ret (pe_lst (pa_cons (pe_ix ix_list (pv 0) pe_int (fun _ _ => rfl)) (pa_cons (pe_callB call_len_seq (by rfl) T.b_len PySem.boot_len (pa_cons (pv 0) pa_nil)) (pa_cons (pe_call G_count_points (hr.mono (by decide)) rfl T.g_count_points kp_count_points b_count_points .nil pass0 (pa_cons (pv 0) (pa_cons (pv 1) pa_nil))) (pa_cons (pe_callB call_lenS (by rfl) T.b_len PySem.boot_len (pa_cons (pv 2) pa_nil)) (pa_cons (pe_callB call_len_seq (by rfl) T.b_len PySem.boot_len (pa_cons (pv 3) pa_nil)) pa_nil)))))))))), ?_⟩
    refine ⟨_, rfl, _, rfl, lp, lt, L, pieceL L i, rfl, gp, hT, hlt, hpl, fun h H1 xs nh s1 I => ?_⟩
    have gp1 := s1 _ _ gp
    have nhp : lp ≠ h := fun z => by
      rw [z, nh] at gp
      cases gp
    have mtb : Mut (some (SD P w h xs)) := trivial
    refine ⟨h, SD P w h xs, I.at_, mtb, fun od => ?_⟩
    refine ⟨_, rfl, h, od, xs, rfl, upd_same, fun D hD => ?_⟩
    have nDh : h ≠ D := ne_of_none upd_same hD
    have hD1 : H1 D = none := by
      rw [upd_ne (Ne.symm nDh)] at hD
      exact hD
    have frd : ∀ {H' : Hp}, H' h = some (.frz od (SD P w h xs)) → (∀ c ys, H1 c = some (.tup ys) → H' c = some (.tup ys)) → SDict P w H' h xs := fun e tp => ⟨.inr ⟨od, e⟩, fun x hx => (I.dict.keys x hx).keep tp⟩
    refine lc_keysS (fun m H' => H' h = some (.frz od (SD P w h xs)) ∧ (∀ b o, b ≠ h → b ≠ D → H1 b = some o → H' b = some o) ∧ ∃ bs : List V, H' D = some (.lst bs) ∧ bs.length = ((xs.take m).filter fun x => decide (cnt ((these L (pieceL L i)).flatMap sidesP) x.1 = 1)).length)
      ⟨by rw [upd_ne nDh]; exact upd_same, fun b o n1 n2 e => by rw [upd_ne n2, upd_ne n1]; exact e, [], upd_same, rfl⟩ (fun m H' _ q => q.1) ?_ ?_
    · rintro m p H2 hp ⟨g1, kp, bs, gD, lb⟩
      refine ⟨rfl, ?_⟩
      have tp : ∀ c ys, H1 c = some (.tup ys) → H2 c = some (.tup ys) := fun c ys q => kp c _ (ne_of q I.at_ (fun z => nomatch z)) (ne_of_none q hD1) q
      have pm := List.mem_of_getElem? hp
      have v1 := sVal_of I.nd p pm
      have v2 := I.val p.1
      rw [v1] at v2
      have c0 : cnt ((these L (pieceL L i)).flatMap sidesP) p.1 ≠ 0 := fun z => by
        rw [if_pos z] at v2
        cases v2
      rw [if_neg c0] at v2
      have ev : p.2.2 = .int (cnt ((these L (pieceL L i)).flatMap sidesP) p.1 : Nat) := Option.some.inj v2
      refine ⟨_, rfl, _, rfl, h, p.2.1, xs, p.1, _, rfl, rfl, frd g1 tp, (I.dict.keys p pm).keep tp, v1, by rw [ev]; rfl, _, rfl, ?_⟩
      rw [ev, dec_one]
      have et : (xs.take (m + 1)).filter (fun x => decide (cnt ((these L (pieceL L i)).flatMap sidesP) x.1 = 1)) = (xs.take m).filter (fun x => decide (cnt ((these L (pieceL L i)).flatMap sidesP) x.1 = 1)) ++ if cnt ((these L (pieceL L i)).flatMap sidesP) p.1 = 1 then [p] else [] := by
        rw [List.take_succ, hp, List.filter_append]
        refine congrArg _ ?_
        show List.filter _ [p] = _
        rw [List.filter_cons, List.filter_nil]
        simp only [decide_eq_true_eq]
      have xl : xs.length ≤ 3000 := by
        have a1 := I.len
        have a2 := flat_len (g := sidesP) (m := 3) (fun _ => Nat.le_refl _) (these L (pieceL L i))
        have a3 := these_len L (pieceL L i)
        omega
      have bl : bs.length ≤ 3000 := by
        rw [lb]
        have a1 := List.length_filter_le (fun x : Key2 × Addr × V => decide (cnt ((these L (pieceL L i)).flatMap sidesP) x.1 = 1)) (xs.take m)
        rw [List.length_take] at a1
        omega
      by_cases c1 : cnt ((these L (pieceL L i)).flatMap sidesP) p.1 = 1
      · rw [decide_eq_true c1]
        refine iteT ⟨_, rfl, bs, gD, small_line' (by omega), by rw [upd_ne nDh]; exact g1, fun b o n1 n2 e => by rw [upd_ne n2]; exact kp b o n1 n2 e, _, upd_same, ?_⟩
        rw [et, if_pos c1, List.length_append, List.length_append, lb]
        rfl
      · rw [decide_eq_false c1]
        refine iteF ⟨g1, kp, bs, gD, ?_⟩
        rw [et, if_neg c1, List.append_nil]
        exact lb
    · rintro H2 ⟨g1, kp, bs, gD, lb⟩
      rw [List.take_length] at lb
      refine ⟨g1, ?_⟩
      have s2 : Same H1 (upd H2 h (SD P w h xs)) := fun b o e => by
        by_cases z : b = h
        · rw [z, I.at_] at e
          rw [z, upd_same]
          exact e
        · rw [upd_ne z]
          exact kp b o z (ne_of_none e hD1) e
      have gD2 : (upd H2 h (SD P w h xs)) D = some (.lst bs) := by rw [upd_ne (Ne.symm nDh)]; exact gD
      have I2 : SDict P w (upd H2 h (SD P w h xs)) h xs := ⟨.inl upd_same, fun x hx => (I.dict.keys x hx).keep fun c ys q => s2 _ _ q⟩
      refine ⟨_, rfl, lp, _, _, _, rfl, rfl, SqL.of (s2 _ _ gp1), at_of (j := 0) (v := .int (i : Int)) rfl ?_, ?_⟩
      · unfold vN
        rw [List.getElem?_map, RM.piece_ne hi]
        rfl
      refine ⟨_, rfl, lp, _, rfl, .inl (SqL.of (s2 _ _ gp1)), ?_⟩
      refine ⟨_, rfl, _, rfl, lp, lt, L, pieceL L i, rfl, s2 _ _ gp1, hT.same (s1.trans s2), hlt, hpl, fun H3 s3 => ?_⟩
      have I3 : SDict P w H3 h xs := ⟨.inl (s3 _ _ upd_same), fun x hx => (I2.keys x hx).keep fun c ys q => s3 _ _ q⟩
      refine ⟨_, rfl, h, xs, rfl, I3, ?_⟩
      refine ⟨_, rfl, D, _, rfl, .inl (SqL.of (s3 _ _ gD2)), ?_⟩
      refine ⟨small_line (by simp), fun l hl => ?_⟩
      have s4 := (s1.trans s2).trans s3
      refine k l _ (s4.free hl) (s4.trans (same_new hl)) ?_
      rw [upd_same]
      have ns : ((these L (pieceL L i)).flatMap sides).Nodup := RK.these_sub ((RM.piece_sorted L i).imp fun h => Nat.ne_of_lt h) nd
      have nn := RK.these_ne (m := pieceL L i) ne
      have pm : ((these L (pieceL L i)).flatMap sidesP).Perm ((these L (pieceL L i)).flatMap sides) := RM.flat_perm RM.sidesP_perm _
      have h3 : ∀ y, y ∈ xs.map (·.1) ↔ ∃ e ∈ (these L (pieceL L i)).flatMap sides, nmK e = y := fun y => by
        rw [I.keys]
        constructor
        · exact fun ⟨e, he, q⟩ => ⟨e, pm.mem_iff.mp he, q⟩
        · exact fun ⟨e, he, q⟩ => ⟨e, pm.mem_iff.mpr he, q⟩
      have c1 : Rc29.sidesOf (these L (pieceL L i)) = xs.length := by
        have q := RK.sidesOf_eq (nm := nmK) ns nn I.nd nm_swap (fun e e' => nm_inj) h3
        rw [List.length_map] at q
        exact q
      have c2 : bs.length = Rc29.rim (these L (pieceL L i)) := by
        have q := RM.rim_count (nm := nmK) ns nn I.nd nm_swap (fun e e' => nm_inj) h3
        rw [List.filter_map, List.length_map] at q
        rw [lb]
        refine Eq.trans ?_ q
        refine congrArg List.length (List.filter_congr fun x _ => ?_)
        show decide (cnt ((these L (pieceL L i)).flatMap sidesP) x.1 = 1) = decide (((these L (pieceL L i)).flatMap sides |>.filter fun e => decide (nmK e = x.1)).length = 1)
        rw [cnt_perm pm]
        rfl
      show some (HO.lst [.int (i : Int), .int ((vN (pieceL L i)).length : Int), .int (Rc29.pointsOf (these L (pieceL L i)) : Nat), .int (xs.length : Nat), .int (bs.length : Int)]) = _
      rw [vN_len, c2, ← c1]
      rfl
end
end Fs
end
section
set_option Elab.async false
set_option linter.all false
set_option maxRecDepth 100000
set_option maxHeartbeats 1000001
namespace Fs
open PySem PySem.Spec PyProof.Rows L2
open Rc29 (Cut Triangle corners surface firstsOf Abs)
structure BF (fs : List (Str × V)) (vf vl vt vp : V) : Prop where
  f : fs.lookup ("field" : Str) = some vf
  l : fs.lookup ("level" : Str) = some vl
  t : fs.lookup ("triangles" : Str) = some vt
  p : fs.lookup ("pieces" : Str) = some vp
  no : ∀ m : Str, m ≠ "field" → m ≠ "level" → m ≠ "triangles" → m ≠ "pieces" → fs.lookup m = none
  len : fs.length ≤ 100
theorem BF.putf {fs : List (Str × V)} {vf vl vt vp : V} (B : BF fs vf vl vt vp) (v : V) : BF (putF "field" v fs) v vl vt vp :=
  ⟨lk_put rfl, (lk_skip (by decide +kernel)).trans B.l, (lk_skip (by decide +kernel)).trans B.t, (lk_skip (by decide +kernel)).trans B.p, fun m a b c d => (lk_skip a).trans (B.no m a b c d), by rw [len_put B.f]; exact B.len⟩
theorem BF.putl {fs : List (Str × V)} {vf vl vt vp : V} (B : BF fs vf vl vt vp) (v : V) : BF (putF "level" v fs) vf v vt vp :=
  ⟨(lk_skip (by decide +kernel)).trans B.f, lk_put rfl, (lk_skip (by decide +kernel)).trans B.t, (lk_skip (by decide +kernel)).trans B.p, fun m a b c d => (lk_skip b).trans (B.no m a b c d), by rw [len_put B.l]; exact B.len⟩
theorem BF.putt {fs : List (Str × V)} {vf vl vt vp : V} (B : BF fs vf vl vt vp) (v : V) : BF (putF "triangles" v fs) vf vl v vp :=
  ⟨(lk_skip (by decide +kernel)).trans B.f, (lk_skip (by decide +kernel)).trans B.l, lk_put rfl, (lk_skip (by decide +kernel)).trans B.p, fun m a b c d => (lk_skip c).trans (B.no m a b c d), by rw [len_put B.t]; exact B.len⟩
theorem BF.putp {fs : List (Str × V)} {vf vl vt vp : V} (B : BF fs vf vl vt vp) (v : V) : BF (putF "pieces" v fs) vf vl vt v :=
  ⟨(lk_skip (by decide +kernel)).trans B.f, (lk_skip (by decide +kernel)).trans B.l, (lk_skip (by decide +kernel)).trans B.t, lk_put rfl, fun m a b c d => (lk_skip d).trans (B.no m a b c d), by rw [len_put B.p]; exact B.len⟩
theorem BF.few {fs : List (Str × V)} {vf vl vt vp : V} (B : BF fs vf vl vt vp) : fs.length < 1000 := Nat.lt_of_le_of_lt B.len (by decide)
structure AbsOk (s : Abs) : Prop where
  lf : ∀ l, s.level = some l → (∃ f, s.field = some f) ∧ -32767 ≤ l ∧ l ≤ 32768
  vals : ∀ f, s.field = some f → f.values.length ≤ 48 ∧ ∀ x ∈ f.values, -32768 ≤ x ∧ x ≤ 32767
def FldV (A : Ad) (H : Hp) (v : V) : Option Rc29.Field → Prop
  | none => v = .non
  | some f => ∃ a, v = .ref a ∧ FieldAt A H a f
def lvlV : Option Int → V
  | none => .non
  | some l => .int l
structure BodyAt (A : Ad) (H : Hp) (b : Addr) (s : Abs) : Prop where
  ex : ∃ (dx lt lp : Addr) (fs : List (Str × V)) (vf : V), H b = some (.ins A.C_Body dx fs) ∧ BF fs vf (lvlV s.level) (.ref lt) (.ref lp) ∧ FldV A H vf s.field ∧ ∀ f l, s.field = some f → s.level = some l → LstS H lt ((surface f l).map encT) ∧ PcAt H lp (surface f l) (firstsOf (surface f l))
  ok : AbsOk s
theorem FieldAt.keep {A : Ad} {H H' : Hp} {a b C dx : Addr} {fs : List (Str × V)} {f : Rc29.Field} (F : FieldAt A H a f) (e : SameB b H H') (hb : H b = some (.ins C dx fs)) (hn : fs.lookup ("nx" : Str) = none) : FieldAt A H' a f := by
  obtain ⟨dx', l, fs', h1, h2, h3, h4, h5, h6, h7⟩ := F.ex
  have na : a ≠ b := fun z => by
    rw [z, hb] at h1
    cases h1
    rw [hn] at h2
    cases h2
  exact ⟨⟨dx', l, fs', e _ _ na h1, h2, h3, h4, h5, h6, e _ _ (ne_of h7 hb (by intro z; cases z)) h7⟩, F.bx, F.bY, F.bz, F.len⟩
theorem FldV.keep {A : Ad} {H H' : Hp} {b C dx : Addr} {fs : List (Str × V)} {v : V} {o : Option Rc29.Field} (F : FldV A H v o) (e : SameB b H H') (hb : H b = some (.ins C dx fs)) (hn : fs.lookup ("nx" : Str) = none) : FldV A H' v o := by
  cases o with
  | none => exact F
  | some f =>
    obtain ⟨a, rfl, F⟩ := F
    exact ⟨a, rfl, F.keep e hb hn⟩
theorem LstS.keep {H H' : Hp} {b C dx l : Addr} {fs : List (Str × V)} {ds : List Dat} (h : LstS H l ds) (e : SameB b H H') (hb : H b = some (.ins C dx fs)) : LstS H' l ds := by
  obtain ⟨vs, h1, h2⟩ := h
  exact ⟨vs, e _ _ (ne_of h1 hb (by intro z; cases z)) h1, isAll_keep (SameB.tups e hb) h2⟩
theorem PcAt.keep {H H' : Hp} {b C dx l : Addr} {fs : List (Str × V)} {L : List Triangle} {is : List Nat} (h : PcAt H l L is) (e : SameB b H H') (hb : H b = some (.ins C dx fs)) : PcAt H' l L is := by
  obtain ⟨bs, h1, h2⟩ := h
  exact ⟨bs, e _ _ (ne_of h1 hb (by intro z; cases z)) h1, Paired.mapP h2 fun _ _ q => ⟨q.1, e _ _ (ne_of q.2 hb (by intro z; cases z)) q.2⟩⟩
theorem BF.nx {fs : List (Str × V)} {vf vl vt vp : V} (B : BF fs vf vl vt vp) : fs.lookup ("nx" : Str) = none := B.no _ (by decide +kernel) (by decide +kernel) (by decide +kernel) (by decide +kernel)
theorem BodyAt.same {A : Ad} {H H' : Hp} {b : Addr} {s : Abs} (B : BodyAt A H b s) (e : Same H H') : BodyAt A H' b s := by
  obtain ⟨dx, lt, lp, fs, vf, h1, h2, h3, h4⟩ := B.ex
  refine ⟨⟨dx, lt, lp, fs, vf, e _ _ h1, h2, ?_, fun f l a c => ⟨(h4 f l a c).1.same e, (h4 f l a c).2.same e⟩⟩, B.ok⟩
  cases q : s.field with
  | none => rw [q] at h3; exact h3
  | some f =>
    rw [q] at h3
    obtain ⟨a, rfl, F⟩ := h3
    exact ⟨a, rfl, F.same e⟩
theorem BodyAt.keep {A : Ad} {H H' : Hp} {b r C dx : Addr} {gs : List (Str × V)} {s : Abs} (B : BodyAt A H b s) (e : SameB r H H') (hr : H r = some (.ins C dx gs)) (nb : b ≠ r) (hn : gs.lookup ("nx" : Str) = none) : BodyAt A H' b s := by
  obtain ⟨dx', lt, lp, fs, vf, h1, h2, h3, h4⟩ := B.ex
  exact ⟨⟨dx', lt, lp, fs, vf, e _ _ nb h1, h2, h3.keep e hr hn, fun f l a c => ⟨(h4 f l a c).1.keep e hr, (h4 f l a c).2.keep e hr⟩⟩, B.ok⟩
def Told (A : Ad) (H : Hp) (b : Addr) (s : Abs) (c : Rc29.Call) (Q : VK) : Prop := ∀ (p : Addr) (H' : Hp), H p = none → SameB b H H' → BodyAt A H' b (RC.next s c) → H' p = some (.lst ((RC.ans s c).map V.int)) → Q (.ref p) H'
theorem Told.here {A : Ad} {H H1 : Hp} {b : Addr} {s : Abs} {c : Rc29.Call} {Q : VK} (k : Told A H b s c Q) (B : BodyAt A H b s) (e : Same H H1) (hn : RC.next s c = s) {ns : List Int} (ha : RC.ans s c = ns) : ∀ p, H1 p = none → Q (.ref p) (upd H1 p (.lst (ns.map V.int))) := fun p hp => by
  have s1 := e.trans (same_new (o := HO.lst (ns.map V.int)) hp)
  exact k p _ (e.free hp) (SameB.of s1) (by rw [hn]; exact B.same s1) (by rw [ha]; exact upd_same)
def sp_Body_init (A : Ad) : Sp := fun vs H Q _ => ∃ (p dx : Addr), vs = [.ref p] ∧ H p = some (.ins A.C_Body dx []) ∧ ∀ H' : Hp, BodyAt A H' p {} → SameB p H H' → Q .non H'
def sp_set_field (A : Ad) : Sp := fun vs H Q _ => ∃ (b dx : Addr) (fs : List (Str × V)) (v vf vl vt vp : V), vs = [.ref b, v] ∧ H b = some (.ins A.C_Body dx fs) ∧ BF fs vf vl vt vp ∧
  ∀ (H' : Hp) (fs' : List (Str × V)) (lt lp : Addr), H' b = some (.ins A.C_Body dx fs') → BF fs' v .non (.ref lt) (.ref lp) → SameB b H H' → Q .non H'
def sp_call0 (A : Ad) (c : Rc29.Call) : Sp := fun vs H Q _ => ∃ (b : Addr) (s : Abs), vs = [.ref b] ∧ BodyAt A H b s ∧ Told A H b s c Q
def sp_call1 (A : Ad) (c : Int → Rc29.Call) : Sp := fun vs H Q _ => ∃ (b : Addr) (s : Abs) (k : Int), vs = [.ref b, .int k] ∧ BodyAt A H b s ∧ Told A H b s (c k) Q
def sp_lay (K : PySem.W.Frag) (A : Ad) : Sp := fun vs H Q _ => ∃ (b l : Addr) (s : Abs) (x y z : Int) (v : List Int), vs = [.ref b, .int x, .int y, .int z, .ref l] ∧ BodyAt A H b s ∧ H l = some (.lst (v.map V.int)) ∧ RC.OkC (.field x y z v) ∧ Told A H b s (.field x y z v) Q
def sp_point4 (A : Ad) : Sp := fun vs H Q _ => ∃ (b : Addr) (s : Abs) (x y z d : Int), vs = [.ref b, .int x, .int y, .int z, .int d] ∧ BodyAt A H b s ∧ Told A H b s (.point x y z d) Q
theorem emp_ok : AbsOk ({} : Abs) := ⟨fun l h => (by cases h), fun f h => (by cases h)⟩
section
variable {P : Program} {w : World} {K : PySem.W.Frag} {mg : Str → Option Value} {base : Heap} {A : Ad}
theorem ok_Body_init (T : Txt K mg A) : Prom P w K mg base 1 A.f_Body_init ["self"] (sp_Body_init A) := by
  skip
  refine T.d_Body_init.prom sc_Body_init (fun vs H Q E h => ?_) (fun cdv A' outer s H vs Q E hr h => ?_)
  · obtain ⟨p, dx, rfl, _⟩ := h
    rfl
  · obtain ⟨p, dx, rfl, hp, k⟩ := h
    refine ⟨_, (pss_cons (ps_fld (pv 0) pe_non rfl)
      (pss_cons (ps_fld (pv 0) pe_non rfl)
      (pss_cons (ps_fld (pv 0) (pe_lst pa_nil) rfl)
      (pss_one (ps_fld (pv 0) (pe_lst pa_nil) rfl))))), ?_⟩
    refine ⟨_, rfl, p, A.C_Body, dx, [], rfl, hp, T.c_Body, T.n_Body_field, (by simp), ?_⟩
    refine ⟨_, rfl, p, A.C_Body, dx, _, rfl, upd_same, T.c_Body, T.n_Body_level, Nat.lt_of_le_of_lt (length_putF _ _ _) (by decide), ?_⟩
    have f2 : (putF "level" V.non (putF "field" V.non [])).length ≤ 2 := Nat.le_trans (length_putF _ _ _) (Nat.succ_le_succ (length_putF _ _ _))
    refine ⟨Nat.zero_le _, fun lt hlt => ?_⟩
    have n1 : p ≠ lt := ne_of_none upd_same hlt
    refine ⟨_, rfl, p, A.C_Body, dx, _, rfl, (by rw [upd_ne n1]; exact upd_same), T.c_Body, T.n_Body_triangles, Nat.lt_of_le_of_lt f2 (by decide), ?_⟩
    refine ⟨Nat.zero_le _, fun lp hlp => ?_⟩
    have n2 : p ≠ lp := ne_of_none upd_same hlp
    have f3 : (putF "triangles" (V.ref lt) (putF "level" V.non (putF "field" V.non []))).length ≤ 3 := Nat.le_trans (length_putF _ _ _) (Nat.succ_le_succ f2)
    refine ⟨_, rfl, p, A.C_Body, dx, _, rfl, (by rw [upd_ne n2]; exact upd_same), T.c_Body, T.n_Body_pieces, Nat.lt_of_le_of_lt f3 (by decide), ?_⟩
    refine k _ ⟨⟨dx, lt, lp, _, .non, upd_same, ⟨?_, ?_, ?_, ?_, ?_, ?_⟩, rfl, fun f l h => by cases h⟩, emp_ok⟩ (((((SameB.upd.trans SameB.upd).trans (SameB.of (same_new hlt))).trans SameB.upd).trans (SameB.of (same_new hlp))).trans SameB.upd)
    · rw [lk_skip (by decide +kernel), lk_skip (by decide +kernel), lk_skip (by decide +kernel), lk_put rfl]
    · rw [lk_skip (by decide +kernel), lk_skip (by decide +kernel), lk_put rfl]
      rfl
    · rw [lk_skip (by decide +kernel), lk_put rfl]
    · rw [lk_put rfl]
    · intro m a b c d
      rw [lk_skip d, lk_skip c, lk_skip b, lk_skip a]
      rfl
    · exact Nat.le_trans (length_putF _ _ _) (Nat.le_trans (Nat.succ_le_succ f3) (by decide))
theorem ok_Body_set_field (T : Txt K mg A) : Prom P w K mg base 1 A.f_Body_set_field ["self", "field"] (sp_set_field A) := by
  skip
  refine T.d_Body_set_field.prom sc_Body_set_field (fun vs H Q E h => ?_) (fun cdv A' outer s H vs Q E hr h => ?_)
  · obtain ⟨b, dx, fs, v, vf, vl, vt, vp, rfl, _⟩ := h
    rfl
  · obtain ⟨b, dx, fs, v, vf, vl, vt, vp, rfl, hb, B, k⟩ := h
    refine ⟨_, (pss_cons (ps_fld (pv 0) (pv 1) rfl)
      (pss_cons (ps_fld (pv 0) pe_non rfl)
      (pss_cons (ps_fld (pv 0) (pe_lst pa_nil) rfl)
      (pss_one (ps_fld (pv 0) (pe_lst pa_nil) rfl))))), ?_⟩
    have B1 := B.putf v
    have B2 := B1.putl .non
    refine ⟨_, rfl, _, rfl, b, A.C_Body, dx, _, rfl, hb, T.c_Body, T.n_Body_field, B.few, ?_⟩
    refine ⟨_, rfl, b, A.C_Body, dx, _, rfl, upd_same, T.c_Body, T.n_Body_level, B1.few, ?_⟩
    refine ⟨Nat.zero_le _, fun lt hlt => ?_⟩
    have n1 : b ≠ lt := ne_of_none upd_same hlt
    refine ⟨_, rfl, b, A.C_Body, dx, _, rfl, (by rw [upd_ne n1]; exact upd_same), T.c_Body, T.n_Body_triangles, B2.few, ?_⟩
    refine ⟨Nat.zero_le _, fun lp hlp => ?_⟩
    have n2 : b ≠ lp := ne_of_none upd_same hlp
    have B3 := B2.putt (.ref lt)
    refine ⟨_, rfl, b, A.C_Body, dx, _, rfl, (by rw [upd_ne n2]; exact upd_same), T.c_Body, T.n_Body_pieces, B3.few, ?_⟩
    exact k _ _ lt lp upd_same (B3.putp (.ref lp)) (((((SameB.upd.trans SameB.upd).trans (SameB.of (same_new hlt))).trans SameB.upd).trans (SameB.of (same_new hlp))).trans SameB.upd)
theorem ok_Body_begin (T : Txt K mg A) : Prom P w K mg base 2 A.f_Body_begin ["self"] (sp_call0 A .init) := by
  obtain ⟨fd_Body_set_field, G_Body_set_field, b_Body_set_field, kp_Body_set_field⟩ := ok_Body_set_field (P := P) (w := w) (base := base) T
  obtain ⟨tk_DONE, hk_DONE⟩ := T.k_DONE
  refine T.d_Body_begin.prom sc_Body_begin (fun vs H Q E h => ?_) (fun cdv A' outer s H vs Q E hr h => ?_)
  · obtain ⟨b, st, rfl, _⟩ := h
    rfl
  · obtain ⟨b, st, rfl, B, k⟩ := h
    obtain ⟨dx, lt, lp, fs, vf, h1, h2, h3, h4⟩ := B.ex
    refine ⟨_, (pss_cons (ps_expr (pe_meth (pv 0) T.c_Body T.m_Body_set_field G_Body_set_field (hr.mono (by decide)) b_Body_set_field .nil pass0 (pa_cons pe_non pa_nil)))
      (pss_one (ps_ret (pe_lst (pa_cons (pe_glob (v := V.int (0)) rfl hk_DONE ⟨_, rfl⟩) pa_nil))))), ?_⟩
    refine ⟨_, rfl, b, dx, fs, rfl, h1, h2.no _ (by decide +kernel) (by decide +kernel) (by decide +kernel) (by decide +kernel), ?_⟩
    refine ⟨b, dx, fs, .non, vf, _, _, _, rfl, h1, h2, fun H1 fs1 lt1 lp1 g1 B1 s1 => ?_⟩
    refine ⟨small_line (by simp), fun p hp => ?_⟩
    have np : b ≠ p := ne_of_none g1 hp
    have hpH : H p = none := by
      cases q : H p with
      | none => rfl
      | some o =>
        have z := s1 p o (Ne.symm np) q
        rw [hp] at z
        cases z
    refine k p _ hpH (s1.trans (SameB.of (same_new hp))) ⟨⟨dx, lt1, lp1, fs1, .non, by rw [upd_ne np]; exact g1, B1, rfl, fun f l z => by cases z⟩, emp_ok⟩ upd_same
end
end Fs
end
section
set_option Elab.async false
set_option linter.all false
set_option maxRecDepth 100000
set_option maxHeartbeats 1000001
namespace Fs
open PySem PySem.Spec PyProof.Rows L2
open Rc29 (Cut Triangle corners surface firstsOf Abs)
theorem free_of {b : Addr} {H H' : Hp} {o : HO} (e : SameB b H H') (hb : H' b = some o) {p : Addr} (hp : H' p = none) : H p = none := by
  cases q : H p with
  | none => rfl
  | some u =>
    have n : p ≠ b := fun z => by
      rw [z, hb] at hp
      cases hp
    rw [e p u n q] at hp
    cases hp
theorem cubes_few {f : Rc29.Field} (hx : 1 ≤ f.nx) (hy : 1 ≤ f.ny) (hz : 1 ≤ f.nz) (h : f.nx * f.ny * f.nz ≤ 48) : f.cubes.length ≤ 48 := by
  rw [cubes_eq, allC_len]
  refine Nat.le_trans ?_ h
  rw [Nat.mul_comm (f.nx * f.ny) f.nz, Nat.mul_comm f.nx f.ny]
  exact Nat.mul_le_mul (Nat.sub_le _ _) (Nat.mul_le_mul (Nat.sub_le _ _) (Nat.sub_le _ _))
theorem surface_few {f : Rc29.Field} (l : Int) (h : f.cubes.length ≤ 48) : (surface f l).length ≤ 1000 := by
  rw [surface_eq]
  have a := flat_len (g := fun c => Rc29.SIX.flatMap (sixF f l c)) (m := 12) (fun c => flat_len (m := 2) (six_len f l c) Rc29.SIX) f.cubes
  omega
theorem FieldAt.few {A : Ad} {H : Hp} {a : Addr} {f : Rc29.Field} (F : FieldAt A H a f) (h : f.values.length ≤ 48) (l : Int) : (surface f l).length ≤ 1000 := by
  have b1 := F.bx
  have b2 := F.bY
  have b3 := F.bz
  exact surface_few l (cubes_few (by omega) (by omega) (by omega) (by rw [← F.len]; exact h))
section
variable {P : Program} {w : World} {K : PySem.W.Frag} {mg : Str → Option Value} {base : Heap} {A : Ad}
theorem ok_Body_lay_field (T : Txt K mg A) : Prom P w K mg base 3 A.f_Body_lay_field ["self", "nx", "ny", "nz", "numbers"] (sp_lay K A) := by
  obtain ⟨fd_is_size, G_is_size, b_is_size, kp_is_size⟩ := ok_is_size (P := P) (w := w) (base := base) T
  obtain ⟨fd_Body_set_field, G_Body_set_field, b_Body_set_field, kp_Body_set_field⟩ := ok_Body_set_field (P := P) (w := w) (base := base) T
  obtain ⟨fd_Field_init, G_Field_init, b_Field_init, kp_Field_init⟩ := ok_Field_init (P := P) (w := w) (base := base) T
  obtain ⟨tk_REFUSED, hk_REFUSED⟩ := T.k_REFUSED
  obtain ⟨tk_DONE, hk_DONE⟩ := T.k_DONE
  refine T.d_Body_lay_field.prom sc_Body_lay_field (fun vs H Q E h => ?_) (fun cdv A' outer s H vs Q E hr h => ?_)
  · obtain ⟨b, l, st, x, y, z, v, rfl, _⟩ := h
    rfl
  · obtain ⟨b, l, st, x, y, z, v, rfl, B, hl, ok, k⟩ := h
    have no : ¬ ((2 ≤ x ∧ x ≤ 32) ∧ (2 ≤ y ∧ y ≤ 32) ∧ 2 ≤ z ∧ z ≤ 32) → ∀ p, H p = none → Q (.ref p) (upd H p (.lst [.int (-1)])) := fun c => k.here B same_refl (RC.field_no c).2 (RC.field_no c).1
    refine ⟨_, (pss_cons (ps_if (pt_not (PW.pt (pw_and (pt_val (pe_call G_is_size (hr.mono (by decide)) rfl T.g_is_size kp_is_size b_is_size .nil pass0 (pa_cons (pv 1) pa_nil))) (pw_and (pt_val (pe_call G_is_size (hr.mono (by decide)) rfl T.g_is_size kp_is_size b_is_size .nil pass0 (pa_cons (pv 2) pa_nil))) (pw_and1 (pt_val (pe_call G_is_size (hr.mono (by decide)) rfl T.g_is_size kp_is_size b_is_size .nil pass0 (pa_cons (pv 3) pa_nil)))))))) (pss_one (ps_ret (pe_lst (pa_cons (pe_glob (v := V.int (-1)) rfl hk_REFUSED ⟨_, rfl⟩) pa_nil)))) pss_nil)
      (pss_cons (ps_expr (pe_meth (pv 0) T.c_Body T.m_Body_set_field G_Body_set_field (hr.mono (by decide)) b_Body_set_field .nil pass0 (pa_cons (pe_make T.mk_Field G_Field_init (hr.mono (by decide)) rfl T.g_Field b_Field_init .nil pass0 (pa_cons (pv 1) (pa_cons (pv 2) (pa_cons (pv 3) (pa_cons (pv 4) pa_nil))))) pa_nil)))
      (pss_one (ps_ret (pe_lst (pa_cons (pe_glob (v := V.int (0)) rfl hk_DONE ⟨_, rfl⟩) pa_nil)))))), ?_⟩
    refine ⟨_, rfl, x, rfl, _, rfl, ?_⟩
    by_cases cx : 2 ≤ x ∧ x ≤ 32
    · rw [decide_eq_true cx]
      refine iteT ⟨_, rfl, y, rfl, _, rfl, ?_⟩
      by_cases cy : 2 ≤ y ∧ y ≤ 32
      · rw [decide_eq_true cy]
        refine iteT ⟨_, rfl, z, rfl, _, rfl, ?_⟩
        by_cases cz : 2 ≤ z ∧ z ≤ 32
        · rw [decide_eq_true cz]
          refine iteF ?_
          obtain ⟨nx, rfl⟩ := Int.eq_ofNat_of_zero_le (show 0 ≤ x by omega)
          obtain ⟨ny, rfl⟩ := Int.eq_ofNat_of_zero_le (show 0 ≤ y by omega)
          obtain ⟨nz, rfl⟩ := Int.eq_ofNat_of_zero_le (show 0 ≤ z by omega)
          obtain ⟨okv, okl⟩ := ok
          obtain ⟨vl1, vl2⟩ := okl ⟨cx, cy, cz⟩
          have vlen : v.length = nx * ny * nz := by
            have e : ((nx * ny * nz : Nat) : Int) = (nx : Int) * (ny : Int) * (nz : Int) := by
              rw [Int.natCast_mul, Int.natCast_mul]
            have e2 : (v.length : Int) = ((nx * ny * nz : Nat) : Int) := by rw [e]; exact vl1
            exact Int.ofNat_inj.mp e2
          obtain ⟨ha, hn⟩ := RC.field_yes (s := st) (v := v) ⟨cx, cy, cz⟩
          obtain ⟨dx, lt, lp, fs, vf, h1, h2, h3, h4⟩ := B.ex
          refine ⟨_, rfl, b, dx, fs, rfl, h1, h2.no _ (by decide +kernel) (by decide +kernel) (by decide +kernel) (by decide +kernel), ?_⟩
          refine ⟨_, rfl, _, rfl, _, rfl, _, rfl, fun a da na nda nad => ?_⟩
          have nba : b ≠ a := ne_of_none h1 na
          have nbd : b ≠ da := ne_of_none h1 nda
          have old : ∀ c o, H c = some o → (upd (upd H da (.own a)) a (.ins A.C_Field da [])) c = some o := fun c o e => by
            rw [upd_ne (ne_of_none e na), upd_ne (ne_of_none e nda)]
            exact e
          refine ⟨a, da, l, ⟨nx, ny, nz, v⟩, rfl, upd_same, SqL.of (old _ _ hl), (by dsimp only; omega), (by dsimp only; omega), (by dsimp only; omega), vlen, fun H1 F1 s1 => ⟨rfl, ?_⟩⟩
          have hb1 := s1 _ _ nba (old _ _ h1)
          refine ⟨b, dx, fs, .ref a, vf, _, _, _, rfl, hb1, h2, fun H2 fs2 lt2 lp2 g2 B2 s2 => ?_⟩
          refine ⟨small_line (by simp), fun p hp => ?_⟩
          have np : b ≠ p := ne_of_none g2 hp
          have sB : SameB b H H2 := fun c o n e => s2 _ _ n (s1 _ _ (ne_of_none e na) (old _ _ e))
          refine k p _ (free_of sB g2 hp) (sB.trans (SameB.of (same_new hp))) ?_ ?_
          · rw [hn]
            refine ⟨⟨dx, lt2, lp2, fs2, .ref a, by rw [upd_ne np]; exact g2, B2, ⟨a, rfl, ?_⟩, fun f l' e => by intro z; cases z⟩, ⟨fun l' z => (by cases z), fun f z => ?_⟩⟩
            · rw [Int.toNat_natCast, Int.toNat_natCast, Int.toNat_natCast]
              exact (F1.keep s2 hb1 h2.nx).same (same_new hp)
            · injection z with z
              subst z
              exact ⟨vl2, okv⟩
          · rw [ha]
            exact upd_same
        · rw [decide_eq_false cz]
          exact iteT ⟨small_line (by simp), no fun c => cz c.2.2⟩
      · rw [decide_eq_false cy]
        exact iteF (iteT ⟨small_line (by simp), no fun c => cy c.2.1⟩)
    · rw [decide_eq_false cx]
      exact iteF (iteT ⟨small_line (by simp), no fun c => cx c.1⟩)
theorem ok_Body_cut (T : Txt K mg A) (TB : Tab K A) : Prom P w K mg base 6 A.f_Body_cut ["self", "level"] (sp_call1 A .cut) := by
  obtain ⟨fd_surface_triangles, G_surface_triangles, b_surface_triangles, kp_surface_triangles⟩ := ok_surface_triangles (P := P) (w := w) (base := base) T TB
  obtain ⟨fd_surface_pieces, G_surface_pieces, b_surface_pieces, kp_surface_pieces⟩ := ok_surface_pieces (P := P) (w := w) (base := base) T
  obtain ⟨tk_LOWEST_LEVEL, hk_LOWEST_LEVEL⟩ := T.k_LOWEST_LEVEL
  obtain ⟨tk_HIGHEST_LEVEL, hk_HIGHEST_LEVEL⟩ := T.k_HIGHEST_LEVEL
  obtain ⟨tk_REFUSED, hk_REFUSED⟩ := T.k_REFUSED
  refine T.d_Body_cut.prom sc_Body_cut (fun vs H Q E h => ?_) (fun cdv A' outer s H vs Q E hr h => ?_)
  · obtain ⟨b, st, l, rfl, _⟩ := h
    rfl
  · obtain ⟨b, st, l, rfl, B, k⟩ := h
    obtain ⟨dx, lt, lp, fs, vf, h1, h2, h3, h4⟩ := B.ex
    refine ⟨_, (pss_cons (ps_if (PW.pt (pw_or (pt_cmpR op_isN (pe_fld (pv 0) rfl) pe_non (nomark _)) (pw_or1 (pt_not (pt_chain op_le op_le (pe_glob (v := V.int (-32767)) rfl hk_LOWEST_LEVEL ⟨_, rfl⟩) (pv 1) (pe_glob (v := V.int (32768)) rfl hk_HIGHEST_LEVEL ⟨_, rfl⟩)))))) (pss_one (ps_ret (pe_lst (pa_cons (pe_glob (v := V.int (-1)) rfl hk_REFUSED ⟨_, rfl⟩) pa_nil)))) pss_nil)
      (pss_cons (ps_fld (pv 0) (pv 1) rfl)
      (pss_cons (ps_fld (pv 0) (pe_call G_surface_triangles (hr.mono (by decide)) rfl T.g_surface_triangles kp_surface_triangles b_surface_triangles .nil pass0 (pa_cons (pe_fld (pv 0) rfl) (pa_cons (pv 1) pa_nil))) rfl)
      (pss_cons (ps_fld (pv 0) (pe_call G_surface_pieces (hr.mono (by decide)) rfl T.g_surface_pieces kp_surface_pieces b_surface_pieces .nil pass0 (pa_cons (pe_fld (pv 0) rfl) pa_nil)) rfl)
      (pss_one (ps_ret (pe_lst (pa_cons (pe_callB call_len_seq (by rfl) T.b_len PySem.boot_len (pa_cons (pe_fld (pv 0) rfl) pa_nil)) pa_nil)))))))), ?_⟩
    refine ⟨_, rfl, b, A.C_Body, dx, fs, _, rfl, h1, T.c_Body, T.n_Body_field, h2.f, rfl, _, rfl, ?_⟩
    cases q : st.field with
    | none =>
      rw [q] at h3
      cases (show vf = .non from h3)
      exact iteT (iteT ⟨small_line (by simp), k.here B same_refl (RC.cut_none q).2 (RC.cut_none q).1⟩)
    | some f =>
      rw [q] at h3
      obtain ⟨a, rfl, F⟩ := h3
      refine iteF ⟨_, rfl, _, _, rfl, rfl, _, rfl, ?_⟩
      have out : ¬ (-32767 ≤ l ∧ l ≤ 32768) → ∀ p, H p = none → Q (.ref p) (upd H p (.lst [.int (-1)])) := fun c => k.here B same_refl (RC.cut_out q c).2 (RC.cut_out q c).1
      by_cases c1 : (-32767 : Int) ≤ l
      · rw [decide_eq_true c1]
        refine iteT ⟨_, _, rfl, rfl, _, rfl, ?_⟩
        by_cases c2 : l ≤ 32768
        · rw [decide_eq_true c2]
          refine iteF ?_
          obtain ⟨ha, hn⟩ := RC.cut_in q ⟨c1, c2⟩
          obtain ⟨vl, vb⟩ := B.ok.vals f q
          have few := F.few vl l
          have B1 := h2.putl (.int l)
          refine ⟨_, rfl, _, rfl, b, A.C_Body, dx, fs, rfl, h1, T.c_Body, T.n_Body_level, h2.few, ?_⟩
          have s1 : SameB b H (upd H b (.ins A.C_Body dx (putF "level" (.int l) fs))) := SameB.upd
          refine ⟨_, rfl, b, A.C_Body, dx, _, _, rfl, upd_same, T.c_Body, T.n_Body_field, B1.f, _, rfl, ?_⟩
          refine ⟨a, f, l, rfl, F.keep s1 h1 h2.nx, fun l2 H2 n2 s2 L2 => ?_⟩
          have g2 := s2 _ _ (upd_same (H := H) (a := b) (o := .ins A.C_Body dx (putF "level" (.int l) fs)))
          refine ⟨_, rfl, b, A.C_Body, dx, _, rfl, g2, T.c_Body, T.n_Body_triangles, B1.few, ?_⟩
          have B2 := B1.putt (.ref l2)
          have s3 : SameB b H2 (upd H2 b (.ins A.C_Body dx (putF "triangles" (.ref l2) (putF "level" (.int l) fs)))) := SameB.upd
          have L3 := L2.keep s3 g2
          refine ⟨_, rfl, b, A.C_Body, dx, _, _, rfl, upd_same, T.c_Body, T.n_Body_triangles, B2.t, ?_⟩
          refine ⟨l2, surface f l, rfl, L3, few, fun l4 H4 n4 s4 P4 => ?_⟩
          have g4 := s4 _ _ (upd_same (H := H2) (a := b) (o := .ins A.C_Body dx (putF "triangles" (.ref l2) (putF "level" (.int l) fs))))
          refine ⟨_, rfl, b, A.C_Body, dx, _, rfl, g4, T.c_Body, T.n_Body_pieces, B2.few, ?_⟩
          have B3 := B2.putp (.ref l4)
          have s5 : SameB b H4 (upd H4 b (.ins A.C_Body dx (putF "pieces" (.ref l4) (putF "triangles" (.ref l2) (putF "level" (.int l) fs))))) := SameB.upd
          have L5 := (L3.same s4).keep s5 g4
          obtain ⟨vs5, gl5, rl5⟩ := id L5
          refine ⟨_, rfl, b, A.C_Body, dx, _, _, rfl, upd_same, T.c_Body, T.n_Body_triangles, B3.t, l2, _, rfl, .inl (SqL.of gl5), ?_⟩
          refine ⟨small_line (by simp), fun p hp => ?_⟩
          have np : b ≠ p := ne_of_none upd_same hp
          have sB : SameB b H (upd H4 b (.ins A.C_Body dx (putF "pieces" (.ref l4) (putF "triangles" (.ref l2) (putF "level" (.int l) fs))))) := (((s1.trans (SameB.of s2)).trans s3).trans (SameB.of s4)).trans s5
          refine k p _ (free_of sB upd_same hp) (sB.trans (SameB.of (same_new hp))) ?_ ?_
          · rw [hn]
            have s6 := same_new (o := HO.lst [V.int (vs5.length : Int)]) hp
            refine ⟨⟨dx, l2, l4, _, .ref a, by rw [upd_ne np]; exact upd_same, B3, ?_, fun f' l' e1 e2 => ?_⟩, ⟨fun l' z => ?_, B.ok.vals⟩⟩
            · show FldV A _ (.ref a) st.field
              rw [q]
              exact ⟨a, rfl, (F.keep sB h1 h2.nx).same s6⟩
            · have e1 : st.field = some f' := e1
              rw [q] at e1
              cases e1
              injection e2 with e2
              subst e2
              exact ⟨L5.same s6, (P4.keep s5 g4).same s6⟩
            · injection z with z
              subst z
              exact ⟨⟨f, q⟩, c1, c2⟩
          · rw [ha, upd_same, isAll_len rl5, List.length_map]
            rfl
        · rw [decide_eq_false c2]
          exact iteT ⟨small_line (by simp), out fun c => c2 c.2⟩
      · rw [decide_eq_false c1]
        exact iteF ⟨_, rfl, iteT ⟨small_line (by simp), out fun c => c1 c.1⟩⟩
theorem ok_Body_tell_triangle (T : Txt K mg A) : Prom P w K mg base 1 A.f_Body_tell_triangle ["self", "k"] (sp_call1 A .triangle) := by
  obtain ⟨tk_NO_LEVEL, hk_NO_LEVEL⟩ := T.k_NO_LEVEL
  obtain ⟨tk_REFUSED, hk_REFUSED⟩ := T.k_REFUSED
  obtain ⟨tk_DONE, hk_DONE⟩ := T.k_DONE
  refine T.d_Body_tell_triangle.prom sc_Body_tell_triangle (fun vs H Q E h => ?_) (fun cdv A' outer s H vs Q E hr h => ?_)
  · obtain ⟨b, st, i, rfl, _⟩ := h
    rfl
  · obtain ⟨b, st, i, rfl, B, k⟩ := h
    obtain ⟨dx, lt, lp, fs, vf, h1, h2, h3, h4⟩ := B.ex
    refine ⟨_, (pss_cons (ps_if (pt_cmpR op_isN (pe_fld (pv 0) rfl) pe_non (nomark _)) (pss_one (ps_ret (pe_lst (pa_cons (pe_glob (v := V.int (-4)) rfl hk_NO_LEVEL ⟨_, rfl⟩) pa_nil)))) pss_nil)
      (pss_cons (ps_if (pt_not (pt_chain op_le op_lt pe_int (pv 1) (pe_callB call_len_seq (by rfl) T.b_len PySem.boot_len (pa_cons (pe_fld (pv 0) rfl) pa_nil)))) (pss_one (ps_ret (pe_lst (pa_cons (pe_glob (v := V.int (-1)) rfl hk_REFUSED ⟨_, rfl⟩) pa_nil)))) pss_nil)
      (pss_cons (ps_set (i := 2) sc_Body_tell_triangle.nd rfl (Or.inl rfl) (pe_lst (pa_cons (pe_glob (v := V.int (0)) rfl hk_DONE ⟨_, rfl⟩) pa_nil)))
      (pss_cons (ps_for PassesOwn.never rfl (pi_tup (pe_ix ix_list (pe_fld (pv 0) rfl) (pv 1) (fun _ _ => rfl))) (pg_name (i := 3) sc_Body_tell_triangle.nd rfl (Or.inl rfl)) (pss_one (ps_expr (pe_bm PySem.F.plainAttrs_list PySem.F.slot_list_extend PySem.F.type_list_extend mt_extT (pv 2) (pa_cons (pv 3) pa_nil)))))
      (pss_one (ps_ret (pv 2))))))), ?_⟩
    refine ⟨_, rfl, b, A.C_Body, dx, fs, _, rfl, h1, T.c_Body, T.n_Body_level, h2.l, rfl, _, rfl, ?_⟩
    cases q : st.level with
    | none =>
      have nl := RC.no_level (c := .triangle i) q trivial
      exact iteT ⟨small_line (by simp), k.here B same_refl nl.2 nl.1⟩
    | some l =>
      obtain ⟨⟨f, hf⟩, _, _⟩ := B.ok.lf l q
      obtain ⟨⟨vt, gt, rt⟩, _⟩ := h4 f l hf q
      have st' := RC.stays (s := st) (c := .triangle i) trivial
      have lv : vt.length = (surface f l).length := by rw [isAll_len rt, List.length_map]
      have out : ¬ (0 ≤ i ∧ i < ((surface f l).length : Int)) → ∀ p, H p = none → Q (.ref p) (upd H p (.lst [.int (-1)])) := fun c => k.here B same_refl st' (RC.tri_out hf q c)
      refine iteF ⟨_, rfl, _, _, rfl, rfl, _, rfl, ?_⟩
      by_cases c1 : (0 : Int) ≤ i
      · rw [decide_eq_true c1]
        refine iteT ⟨_, rfl, b, A.C_Body, dx, fs, _, rfl, h1, T.c_Body, T.n_Body_triangles, h2.t, lt, _, rfl, .inl (SqL.of gt), _, _, rfl, rfl, _, rfl, ?_⟩
        rw [lv]
        by_cases c2 : i < ((surface f l).length : Int)
        · rw [decide_eq_true c2]
          obtain ⟨t, ht⟩ : ∃ t, (surface f l)[i.toNat]? = some t := ⟨(surface f l)[i.toNat]'(by omega), List.getElem?_eq_getElem _⟩
          obtain ⟨a, xs, e1, e2, e3⟩ := tri_at rt ht
          have l3 : xs.length = 3 := by rw [isAll_len e3]; rfl
          refine iteF ⟨small_line (by simp), fun p hp => ?_⟩
          have s0 := same_new (o := HO.lst [V.int 0]) hp
          refine ⟨_, rfl, b, A.C_Body, dx, fs, _, rfl, s0 _ _ h1, T.c_Body, T.n_Body_triangles, h2.t, _, rfl, lt, _, _, _, rfl, rfl, SqL.of (s0 _ _ gt), at_of (j := i.toNat) (by omega) e1, a, rfl, ⟨_, SqT.of (s0 _ _ e2)⟩, ?_⟩
          refine for_tup (a := a) (xs := xs) (fun m σ H' => ∃ v3 : Option V, σ = [some (.ref b), some (.int i), some (.ref p), v3] ∧ Same H H' ∧ H' p = some (.lst ((0 :: (((corners t).take m).flatMap Rc29.cutNumbers).map fun (n : Nat) => (n : Int)).map V.int))) ⟨none, rfl, s0, upd_same⟩ (fun m σ H' _ ⟨_, _, z, _⟩ => SqT.of (z _ _ e2)) ?_ ?_
          · rintro m x σ H2 hx ⟨v3, rfl, s2, g2⟩
            obtain ⟨c, b', ec, rfl, eb⟩ := corner_at e3 hx
            refine ⟨_, rfl, .inl ⟨rfl, _, SqL.of g2⟩, _, rfl, p, b', _, _, rfl, rfl, g2, SqT.of (s2 _ _ eb), ?_, ?_⟩
            · refine small_line ?_
              have a1 := flat_len (g := Rc29.cutNumbers) (m := 4) (fun _ => Nat.le_refl _) ((corners t).take m)
              have a2 : ((corners t).take m).length ≤ 3 := by rw [List.length_take]; exact Nat.min_le_right _ _
              have a3 : ((keyC c).map kV).length = 4 := rfl
              rw [List.length_map, List.length_cons, List.length_map, a3]
              omega
            · refine ⟨_, rfl, same_own s2 hp, ?_⟩
              rw [upd_same, List.take_succ, ec, List.flatMap_append, List.map_append, ← List.cons_append, List.map_append]
              rfl
          · rintro σ H2 ⟨v3, rfl, s2, g2⟩
            rw [l3, List.take_of_length_le (show (corners t).length ≤ 3 from Nat.le_refl _)] at g2
            refine ⟨_, rfl, k p H2 hp (SameB.of s2) (by rw [st']; exact B.same s2) ?_⟩
            rw [RC.tri_in hf q c1 ht]
            exact g2
        · rw [decide_eq_false c2]
          exact iteT ⟨small_line (by simp), out fun c => c2 c.2⟩
      · rw [decide_eq_false c1]
        exact iteF ⟨_, rfl, iteT ⟨small_line (by simp), out fun c => c1 c.1⟩⟩
theorem ok_Body_count_pieces (T : Txt K mg A) : Prom P w K mg base 1 A.f_Body_count_pieces ["self"] (sp_call0 A .count) := by
  obtain ⟨tk_NO_LEVEL, hk_NO_LEVEL⟩ := T.k_NO_LEVEL
  refine T.d_Body_count_pieces.prom sc_Body_count_pieces (fun vs H Q E h => ?_) (fun cdv A' outer s H vs Q E hr h => ?_)
  · obtain ⟨b, st, rfl, _⟩ := h
    rfl
  · obtain ⟨b, st, rfl, B, k⟩ := h
    obtain ⟨dx, lt, lp, fs, vf, h1, h2, h3, h4⟩ := B.ex
    refine ⟨_, (pss_cons (ps_if (pt_cmpR op_isN (pe_fld (pv 0) rfl) pe_non (nomark _)) (pss_one (ps_ret (pe_lst (pa_cons (pe_glob (v := V.int (-4)) rfl hk_NO_LEVEL ⟨_, rfl⟩) pa_nil)))) pss_nil)
      (pss_one (ps_ret (pe_lst (pa_cons (pe_callB call_len_seq (by rfl) T.b_len PySem.boot_len (pa_cons (pe_fld (pv 0) rfl) pa_nil)) pa_nil))))), ?_⟩
    refine ⟨_, rfl, b, A.C_Body, dx, fs, _, rfl, h1, T.c_Body, T.n_Body_level, h2.l, rfl, _, rfl, ?_⟩
    cases q : st.level with
    | none =>
      have nl := RC.no_level (c := .count) q trivial
      exact iteT ⟨small_line (by simp), k.here B same_refl nl.2 nl.1⟩
    | some l =>
      obtain ⟨⟨f, hf⟩, _, _⟩ := B.ok.lf l q
      obtain ⟨_, ⟨bs, gp, rp⟩⟩ := h4 f l hf q
      have lb : bs.length = (firstsOf (surface f l)).length := (Paired.length rp).symm
      refine iteF ⟨_, rfl, b, A.C_Body, dx, fs, _, rfl, h1, T.c_Body, T.n_Body_pieces, h2.p, lp, _, rfl, .inl (SqL.of gp), ?_⟩
      refine ⟨small_line (by simp), ?_⟩
      rw [List.length_map, lb]
      exact k.here B same_refl (RC.stays (s := st) (c := .count) trivial) (RC.count_eq hf q)
theorem ok_Body_tell_piece (T : Txt K mg A) : Prom P w K mg base 4 A.f_Body_tell_piece ["self", "k"] (sp_call1 A .piece) := by
  obtain ⟨fd_measure_piece, G_measure_piece, b_measure_piece, kp_measure_piece⟩ := ok_measure_piece (P := P) (w := w) (base := base) T
  obtain ⟨tk_NO_LEVEL, hk_NO_LEVEL⟩ := T.k_NO_LEVEL
  obtain ⟨tk_REFUSED, hk_REFUSED⟩ := T.k_REFUSED
  obtain ⟨tk_DONE, hk_DONE⟩ := T.k_DONE
  refine T.d_Body_tell_piece.prom sc_Body_tell_piece (fun vs H Q E h => ?_) (fun cdv A' outer s H vs Q E hr h => ?_)
  · obtain ⟨b, st, i, rfl, _⟩ := h
    rfl
  · obtain ⟨b, st, i, rfl, B, k⟩ := h
    obtain ⟨dx, lt, lp, fs, vf, h1, h2, h3, h4⟩ := B.ex
    refine ⟨_, (pss_cons (ps_if (pt_cmpR op_isN (pe_fld (pv 0) rfl) pe_non (nomark _)) (pss_one (ps_ret (pe_lst (pa_cons (pe_glob (v := V.int (-4)) rfl hk_NO_LEVEL ⟨_, rfl⟩) pa_nil)))) pss_nil)
      (pss_cons (ps_if (pt_not (pt_chain op_le op_lt pe_int (pv 1) (pe_callB call_len_seq (by rfl) T.b_len PySem.boot_len (pa_cons (pe_fld (pv 0) rfl) pa_nil)))) (pss_one (ps_ret (pe_lst (pa_cons (pe_glob (v := V.int (-1)) rfl hk_REFUSED ⟨_, rfl⟩) pa_nil)))) pss_nil)
      (pss_one (ps_ret (pe_op op_cat (pe_lst (pa_cons (pe_glob (v := V.int (0)) rfl hk_DONE ⟨_, rfl⟩) pa_nil)) (pe_call G_measure_piece (hr.mono (by decide)) rfl T.g_measure_piece kp_measure_piece b_measure_piece .nil pass0 (pa_cons (pe_ix ix_list (pe_fld (pv 0) rfl) (pv 1) (fun _ _ => rfl)) (pa_cons (pe_fld (pv 0) rfl) pa_nil)))))))), ?_⟩
    refine ⟨_, rfl, b, A.C_Body, dx, fs, _, rfl, h1, T.c_Body, T.n_Body_level, h2.l, rfl, _, rfl, ?_⟩
    cases q : st.level with
    | none =>
      have nl := RC.no_level (c := .piece i) q trivial
      exact iteT ⟨small_line (by simp), k.here B same_refl nl.2 nl.1⟩
    | some l =>
      obtain ⟨⟨f, hf⟩, _, _⟩ := B.ok.lf l q
      obtain ⟨LT, ⟨bs, gp, rp⟩⟩ := h4 f l hf q
      have st' := RC.stays (s := st) (c := .piece i) trivial
      have lb : bs.length = (firstsOf (surface f l)).length := (Paired.length rp).symm
      have few : (surface f l).length ≤ 1000 := by
        rw [hf] at h3
        obtain ⟨a, rfl, F⟩ := h3
        exact F.few (B.ok.vals f hf).1 l
      have out : ¬ (0 ≤ i ∧ i < ((firstsOf (surface f l)).length : Int)) → ∀ p, H p = none → Q (.ref p) (upd H p (.lst [.int (-1)])) := fun c => k.here B same_refl st' (RC.piece_out hf q c)
      refine iteF ⟨_, rfl, _, _, rfl, rfl, _, rfl, ?_⟩
      by_cases c1 : (0 : Int) ≤ i
      · rw [decide_eq_true c1]
        refine iteT ⟨_, rfl, b, A.C_Body, dx, fs, _, rfl, h1, T.c_Body, T.n_Body_pieces, h2.p, lp, _, rfl, .inl (SqL.of gp), _, _, rfl, rfl, _, rfl, ?_⟩
        rw [List.length_map, lb]
        by_cases c2 : i < ((firstsOf (surface f l)).length : Int)
        · rw [decide_eq_true c2]
          obtain ⟨j, hj⟩ : ∃ j, (firstsOf (surface f l))[i.toNat]? = some j := ⟨(firstsOf (surface f l))[i.toNat]'(by omega), List.getElem?_eq_getElem _⟩
          obtain ⟨a, ea, na, ga⟩ := paired_get rp hj
          refine iteF ⟨small_line (by simp), fun p hp => ?_⟩
          have s0 := same_new (o := HO.lst [V.int 0]) hp
          refine ⟨_, rfl, b, A.C_Body, dx, fs, _, rfl, s0 _ _ h1, T.c_Body, T.n_Body_pieces, h2.p, _, rfl, lp, _, _, _, rfl, rfl, SqL.of (s0 _ _ gp), at_of (j := i.toNat) (v := .ref a) (by omega) (by rw [List.getElem?_map, ea]; rfl), ?_⟩
          refine ⟨_, rfl, b, A.C_Body, dx, fs, _, rfl, s0 _ _ h1, T.c_Body, T.n_Body_triangles, h2.t, ?_⟩
          refine ⟨a, lt, surface f l, j, rfl, s0 _ _ ga, LT.same s0, few, List.mem_of_getElem? hj, RS.sides_nodup f l, RS.sides_ne f l, fun l5 H5 n5 s5 g5 => ?_⟩
          refine ⟨p, l5, _, _, rfl, rfl, s5 _ _ upd_same, g5, ?_, ?_⟩
          · exact small_line (by rw [vN_len]; simp [five])
          · have e : ([V.int 0] : List V) ++ vN (five (surface f l) j) = (RC.ans st (.piece i)).map V.int := by
              rw [RC.piece_in hf q c1 hj]
              rfl
            rw [e]
            exact k.here B (s0.trans s5) st' rfl
        · rw [decide_eq_false c2]
          exact iteT ⟨small_line (by simp), out fun c => c2 c.2⟩
      · rw [decide_eq_false c1]
        exact iteF ⟨_, rfl, iteT ⟨small_line (by simp), out fun c => c1 c.1⟩⟩
theorem ok_Body_tell_hangs (T : Txt K mg A) : Prom P w K mg base 2 A.f_Body_tell_hangs ["self", "k"] (sp_call1 A .hangs) := by
  obtain ⟨fd_piece_with, G_piece_with, b_piece_with, kp_piece_with⟩ := ok_piece_with (P := P) (w := w) (base := base) T
  obtain ⟨tk_NO_LEVEL, hk_NO_LEVEL⟩ := T.k_NO_LEVEL
  obtain ⟨tk_REFUSED, hk_REFUSED⟩ := T.k_REFUSED
  refine T.d_Body_tell_hangs.prom sc_Body_tell_hangs (fun vs H Q E h => ?_) (fun cdv A' outer s H vs Q E hr h => ?_)
  · obtain ⟨b, st, i, rfl, _⟩ := h
    rfl
  · obtain ⟨b, st, i, rfl, B, k⟩ := h
    obtain ⟨dx, lt, lp, fs, vf, h1, h2, h3, h4⟩ := B.ex
    refine ⟨_, (pss_cons (ps_if (pt_cmpR op_isN (pe_fld (pv 0) rfl) pe_non (nomark _)) (pss_one (ps_ret (pe_lst (pa_cons (pe_glob (v := V.int (-4)) rfl hk_NO_LEVEL ⟨_, rfl⟩) pa_nil)))) pss_nil)
      (pss_cons (ps_set (i := 2) sc_Body_tell_hangs.nd rfl (Or.inl rfl) (pe_call G_piece_with (hr.mono (by decide)) rfl T.g_piece_with kp_piece_with b_piece_with .nil pass0 (pa_cons (pe_fld (pv 0) rfl) (pa_cons (pv 1) pa_nil))))
      (pss_cons (ps_if (pt_cmpR op_isN (pv 2) pe_non (nomark _)) (pss_one (ps_ret (pe_lst (pa_cons (pe_glob (v := V.int (-1)) rfl hk_REFUSED ⟨_, rfl⟩) pa_nil)))) pss_nil)
      (pss_one (ps_ret (pe_lst (pa_cons (pv 2) pa_nil))))))), ?_⟩
    refine ⟨_, rfl, b, A.C_Body, dx, fs, _, rfl, h1, T.c_Body, T.n_Body_level, h2.l, rfl, _, rfl, ?_⟩
    cases q : st.level with
    | none =>
      have nl := RC.no_level (c := .hangs i) q trivial
      exact iteT ⟨small_line (by simp), k.here B same_refl nl.2 nl.1⟩
    | some l =>
      obtain ⟨⟨f, hf⟩, _, _⟩ := B.ok.lf l q
      obtain ⟨_, PT⟩ := h4 f l hf q
      have st' := RC.stays (s := st) (c := .hangs i) trivial
      have few : (surface f l).length ≤ 1000 := by
        rw [hf] at h3
        obtain ⟨a, rfl, F⟩ := h3
        exact F.few (B.ok.vals f hf).1 l
      refine iteF ⟨_, rfl, b, A.C_Body, dx, fs, _, rfl, h1, T.c_Body, T.n_Body_pieces, h2.p, _, rfl, ?_⟩
      refine ⟨lp, surface f l, i, rfl, PT, few, ?_⟩
      unfold withV
      by_cases c : 0 ≤ i ∧ i < ((surface f l).length : Int)
      · rw [if_pos c]
        refine ⟨_, rfl, rfl, _, rfl, iteF ⟨_, rfl, small_line (by simp), ?_⟩⟩
        exact k.here B same_refl st' (RC.hangs_in hf q c)
      · rw [if_neg c]
        refine ⟨_, rfl, rfl, _, rfl, iteT ⟨small_line (by simp), ?_⟩⟩
        exact k.here B same_refl st' (RC.hangs_out hf q c)
theorem ok_Body_tell_point (T : Txt K mg A) : Prom P w K mg base 3 A.f_Body_tell_point ["self", "x", "y", "z", "direction"] (sp_point4 A) := by
  obtain ⟨fd_Field_has_way, G_Field_has_way, b_Field_has_way, kp_Field_has_way⟩ := ok_Field_has_way (P := P) (w := w) (base := base) T
  obtain ⟨fd_Field_value_at, G_Field_value_at, b_Field_value_at, kp_Field_value_at⟩ := ok_Field_value_at (P := P) (w := w) (base := base) T
  obtain ⟨fd_step, G_step, b_step, kp_step⟩ := ok_step (P := P) (w := w) (base := base) T
  obtain ⟨fd_is_cut, G_is_cut, b_is_cut, kp_is_cut⟩ := ok_is_cut (P := P) (w := w) (base := base) T
  obtain ⟨fd_part_of_way, G_part_of_way, b_part_of_way, kp_part_of_way⟩ := ok_part_of_way (P := P) (w := w) (base := base) T
  obtain ⟨tk_NO_LEVEL, hk_NO_LEVEL⟩ := T.k_NO_LEVEL
  obtain ⟨tk_REFUSED, hk_REFUSED⟩ := T.k_REFUSED
  obtain ⟨tk_DONE, hk_DONE⟩ := T.k_DONE
  refine T.d_Body_tell_point.prom sc_Body_tell_point (fun vs H Q E h => ?_) (fun cdv A' outer s H vs Q E hr h => ?_)
  · obtain ⟨b, st, x, y, z, d, rfl, _⟩ := h
    rfl
  · obtain ⟨b, st, x, y, z, d, rfl, B, k⟩ := h
    obtain ⟨dx, lt, lp, fs, vf, h1, h2, h3, h4⟩ := B.ex
    refine ⟨_, (pss_cons (ps_if (pt_cmpR op_isN (pe_fld (pv 0) rfl) pe_non (nomark _)) (pss_one (ps_ret (pe_lst (pa_cons (pe_glob (v := V.int (-4)) rfl hk_NO_LEVEL ⟨_, rfl⟩) pa_nil)))) pss_nil)
      (pss_cons (ps_set (i := 5) sc_Body_tell_point.nd rfl (Or.inl rfl) (pe_tup (pa_cons (pv 1) (pa_cons (pv 2) (pa_cons (pv 3) pa_nil)))))
      (pss_cons (ps_if (pt_not (pt_val (pe_meth (pe_fld (pv 0) rfl) T.c_Field T.m_Field_has_way G_Field_has_way (hr.mono (by decide)) b_Field_has_way .nil pass0 (pa_cons (pv 5) (pa_cons (pv 4) pa_nil))))) (pss_one (ps_ret (pe_lst (pa_cons (pe_glob (v := V.int (-1)) rfl hk_REFUSED ⟨_, rfl⟩) pa_nil)))) pss_nil)
      (pss_cons (ps_set (i := 6) sc_Body_tell_point.nd rfl (Or.inl rfl) (pe_meth (pe_fld (pv 0) rfl) T.c_Field T.m_Field_value_at G_Field_value_at (hr.mono (by decide)) b_Field_value_at .nil pass0 (pa_cons (pv 5) pa_nil)))
      (pss_cons (ps_set (i := 7) sc_Body_tell_point.nd rfl (Or.inl rfl) (pe_meth (pe_fld (pv 0) rfl) T.c_Field T.m_Field_value_at G_Field_value_at (hr.mono (by decide)) b_Field_value_at .nil pass0 (pa_cons (pe_call G_step (hr.mono (by decide)) rfl T.g_step kp_step b_step .nil pass0 (pa_cons (pv 5) (pa_cons (pv 4) pa_nil))) pa_nil)))
      (pss_cons (ps_if (pt_not (pt_val (pe_call G_is_cut (hr.mono (by decide)) rfl T.g_is_cut kp_is_cut b_is_cut .nil pass0 (pa_cons (pv 6) (pa_cons (pv 7) (pa_cons (pe_fld (pv 0) rfl) pa_nil)))))) (pss_one (ps_ret (pe_lst (pa_cons (pe_glob (v := V.int (-1)) rfl hk_REFUSED ⟨_, rfl⟩) pa_nil)))) pss_nil)
      (pss_one (ps_ret (pe_op op_cat (pe_lst (pa_cons (pe_glob (v := V.int (0)) rfl hk_DONE ⟨_, rfl⟩) pa_nil)) (pe_call G_part_of_way (hr.mono (by decide)) rfl T.g_part_of_way kp_part_of_way b_part_of_way .nil pass0 (pa_cons (pv 6) (pa_cons (pv 7) (pa_cons (pe_fld (pv 0) rfl) pa_nil))))))))))))), ?_⟩
    refine ⟨_, rfl, b, A.C_Body, dx, fs, _, rfl, h1, T.c_Body, T.n_Body_level, h2.l, rfl, _, rfl, ?_⟩
    cases q : st.level with
    | none =>
      have nl := RC.no_level (c := .point x y z d) q trivial
      exact iteT ⟨small_line (by simp), k.here B same_refl nl.2 nl.1⟩
    | some l =>
      obtain ⟨⟨f, hf⟩, lv1, lv2⟩ := B.ok.lf l q
      have st' := RC.stays (s := st) (c := .point x y z d) trivial
      obtain ⟨vl, vb⟩ := B.ok.vals f hf
      rw [q] at h2
      rw [hf] at h3
      obtain ⟨a, rfl, F⟩ := h3
      refine iteF ⟨_, rfl, _, rfl, _, rfl, small_line (by simp), fun sp hsp => ?_⟩
      have s0 := same_new (o := HO.tup [V.int x, V.int y, V.int z]) hsp
      have m0 : Im K (upd H sp (.tup [V.int x, V.int y, V.int z])) (.ref sp) (tI [x, y, z]) := tI_im (SqT.of upd_same)
      have meth : ∀ {H' : Hp} (m : Str), Same H H' → m ≠ "nx" → m ≠ "ny" → m ≠ "nz" → m ≠ "numbers" → ∃ (dx : Addr) (fs : List (Str × V)), H' a = some (.ins A.C_Field dx fs) ∧ fs.lookup m = none := fun m e n1 n2 n3 n4 => (F.same e).noMeth n1 n2 n3 n4
      obtain ⟨df, ff, ef1, ef2⟩ := meth "has_way" s0 (by decide +kernel) (by decide +kernel) (by decide +kernel) (by decide +kernel)
      refine ⟨_, rfl, b, A.C_Body, dx, fs, _, rfl, s0 _ _ h1, T.c_Body, T.n_Body_field, h2.f, a, df, ff, rfl, ef1, ef2, _, rfl, _, rfl, ?_⟩
      refine ⟨a, .ref sp, f, x, y, z, d, rfl, F.same s0, m0, fun H1 s1 => ⟨_, rfl, ?_⟩⟩
      have s01 := s0.trans s1
      cases hw : wayOk f x y z d with
      | false =>
        have nw : ¬ RC.ways f x y z d := fun c => by
          obtain ⟨⟨a1, a2, a3⟩, a4, a6, a7, a8⟩ := c
          have e : wayOk f x y z d = true := by
            unfold wayOk inG
            rw [decide_eq_true a4, decide_eq_true (show (0 ≤ x ∧ x < f.nx) ∧ (0 ≤ y ∧ y < f.ny) ∧ 0 ≤ z ∧ z < f.nz by omega), decide_eq_true (by omega)]
            rfl
          rw [hw] at e
          cases e
        exact iteT ⟨small_line (by simp), k.here B s01 st' (RC.point_out hf q nw)⟩
      | true =>
        have hw2 : (1 ≤ d ∧ d ≤ 7) ∧ ((0 ≤ x ∧ x < f.nx) ∧ (0 ≤ y ∧ y < f.ny) ∧ 0 ≤ z ∧ z < f.nz) ∧ ((0 ≤ x + d % 2 ∧ x + d % 2 < f.nx) ∧ (0 ≤ y + d / 2 % 2 ∧ y + d / 2 % 2 < f.ny) ∧ 0 ≤ z + d / 4 % 2 ∧ z + d / 4 % 2 < f.nz) := by
          unfold wayOk inG at hw
          rw [Bool.and_eq_true, Bool.and_eq_true] at hw
          exact ⟨of_decide_eq_true hw.1, of_decide_eq_true hw.2.1, of_decide_eq_true hw.2.2⟩
        obtain ⟨w1, ⟨w2, w3, w4⟩, w5, w6, w7⟩ := hw2
        have wy : RC.ways f x y z d := ⟨⟨w2.1, w3.1, w4.1⟩, w1, w5.2, w6.2, w7.2⟩
        obtain ⟨e1, e2, e3⟩ := RC.to_eq hf q w2.1 w3.1 w4.1 (show 0 ≤ d by omega)
        obtain ⟨df1, ff1, eg1, eg2⟩ := meth "value_at" s01 (by decide +kernel) (by decide +kernel) (by decide +kernel) (by decide +kernel)
        refine iteF ⟨_, rfl, b, A.C_Body, dx, fs, _, rfl, s01 _ _ h1, T.c_Body, T.n_Body_field, h2.f, a, df1, ff1, rfl, eg1, eg2, _, rfl, ?_⟩
        have m1 : Im K H1 (.ref sp) (tI [((⟨x.toNat, y.toNat, z.toNat⟩ : Rc29.P).x : Int), ((⟨x.toNat, y.toNat, z.toNat⟩ : Rc29.P).y : Int), ((⟨x.toNat, y.toNat, z.toNat⟩ : Rc29.P).z : Int)]) := by
          have e : [((⟨x.toNat, y.toNat, z.toNat⟩ : Rc29.P).x : Int), ((⟨x.toNat, y.toNat, z.toNat⟩ : Rc29.P).y : Int), ((⟨x.toNat, y.toNat, z.toNat⟩ : Rc29.P).z : Int)] = [x, y, z] := by
            simp only [List.cons.injEq, and_true]
            exact ⟨by omega, by omega, by omega⟩
          rw [e]
          exact im_same s1 m0
        refine ⟨a, .ref sp, f, ⟨x.toNat, y.toNat, z.toNat⟩, rfl, F.same s01, m1, (by dsimp only; omega), (by dsimp only; omega), (by dsimp only; omega), ?_⟩
        refine ⟨_, rfl, b, A.C_Body, dx, fs, _, rfl, s01 _ _ h1, T.c_Body, T.n_Body_field, h2.f, a, df1, ff1, rfl, eg1, eg2, _, rfl, _, rfl, ?_⟩
        refine ⟨.ref sp, x, y, z, d, rfl, im_same s1 m0, fun p2 H2 s2 m2 => ?_⟩
        have s02 := s01.trans s2
        have m3 : Im K H2 p2 (tI [(((⟨x.toNat, y.toNat, z.toNat⟩ : Rc29.P).to d.toNat).x : Int), (((⟨x.toNat, y.toNat, z.toNat⟩ : Rc29.P).to d.toNat).y : Int), (((⟨x.toNat, y.toNat, z.toNat⟩ : Rc29.P).to d.toNat).z : Int)]) := by
          rw [e1, e2, e3]
          exact m2
        refine ⟨a, p2, f, (⟨x.toNat, y.toNat, z.toNat⟩ : Rc29.P).to d.toNat, rfl, F.same s02, m3, (by omega), (by omega), (by omega), ?_⟩
        refine ⟨_, rfl, _, rfl, _, rfl, b, A.C_Body, dx, fs, _, rfl, s02 _ _ h1, T.c_Body, T.n_Body_level, h2.l, ?_⟩
        refine ⟨_, _, l, rfl, _, rfl, ?_⟩
        have bnd : ∀ p : Rc29.P, -100000 ≤ f.at_ p ∧ f.at_ p ≤ 100000 := fun p => by
          unfold Rc29.Field.at_
          simp only [List.getD_eq_getElem?_getD]
          cases e : f.values[f.index p]? with
          | none => exact ⟨by decide, by decide⟩
          | some v =>
            have := vb v (List.mem_of_getElem? e)
            exact ⟨by simp only [Option.getD_some]; omega, by simp only [Option.getD_some]; omega⟩
        by_cases hc : decide (l ≤ f.at_ ⟨x.toNat, y.toNat, z.toNat⟩) = decide (l ≤ f.at_ ((⟨x.toNat, y.toNat, z.toNat⟩ : Rc29.P).to d.toNat))
        · rw [decide_eq_true hc]
          exact iteT ⟨small_line (by simp), k.here B s02 st' (RC.point_uncut hf q wy hc)⟩
        · rw [decide_eq_false hc]
          have ne : f.at_ ⟨x.toNat, y.toNat, z.toNat⟩ ≠ f.at_ ((⟨x.toNat, y.toNat, z.toNat⟩ : Rc29.P).to d.toNat) := fun e => hc (by rw [e])
          refine iteF ⟨small_line (by simp), fun p hp => ?_⟩
          have s3 := same_new (o := HO.lst [V.int 0]) hp
          have s03 := s02.trans s3
          refine ⟨_, rfl, _, rfl, _, rfl, b, A.C_Body, dx, fs, _, rfl, s03 _ _ h1, T.c_Body, T.n_Body_level, h2.l, ?_⟩
          refine ⟨_, _, l, rfl, ne, bnd _, bnd _, fun p5 hp5 => ?_⟩
          have s5 := same_new (o := HO.lst [V.int (((l - f.at_ ⟨x.toNat, y.toNat, z.toNat⟩).natAbs / Nat.gcd (l - f.at_ ⟨x.toNat, y.toNat, z.toNat⟩).natAbs (f.at_ ((⟨x.toNat, y.toNat, z.toNat⟩ : Rc29.P).to d.toNat) - f.at_ ⟨x.toNat, y.toNat, z.toNat⟩).natAbs : Nat) : Int), V.int (((f.at_ ((⟨x.toNat, y.toNat, z.toNat⟩ : Rc29.P).to d.toNat) - f.at_ ⟨x.toNat, y.toNat, z.toNat⟩).natAbs / Nat.gcd (l - f.at_ ⟨x.toNat, y.toNat, z.toNat⟩).natAbs (f.at_ ((⟨x.toNat, y.toNat, z.toNat⟩ : Rc29.P).to d.toNat) - f.at_ ⟨x.toNat, y.toNat, z.toNat⟩).natAbs : Nat) : Int)]) hp5
          refine ⟨p, p5, _, _, rfl, rfl, s5 _ _ upd_same, upd_same, small_line (by simp), ?_⟩
          have e := RC.point_in hf q wy hc
          exact k.here B (s03.trans s5) st' e
end
end Fs
end
section
set_option Elab.async false
set_option linter.all false
set_option maxRecDepth 100000
set_option maxHeartbeats 1000001
namespace Fs
open PySem PySem.Spec PyProof.Rows L2
open Rc29 (Abs Call)
theorem drop_cons {ns t : List Int} {pos : Nat} {a : Int} (h : ns.drop pos = a :: t) : ns[pos]? = some a ∧ ns.drop (pos + 1) = t := by
  constructor
  · have e : (ns.drop pos)[0]? = some a := by rw [h]; rfl
    rw [List.getElem?_drop] at e
    simpa using e
  · have e : (ns.drop pos).drop 1 = t := by rw [h]; rfl
    rw [List.drop_drop] at e
    exact e
theorem skip {n m : Int} {X Y : Prop} (h : n ≠ m) (hb : Y) : if decide (V.int n = V.int m) = true then X else Y := by
  rw [decide_eq_false (fun e => h (by injection e))]
  exact iteF hb
theorem hit {n : Int} {X Y : Prop} (ha : X) : if decide (V.int n = V.int n) = true then X else Y := by
  rw [decide_eq_true rfl]
  exact iteT ha
structure Desk (K : PySem.W.Frag) (A : Ad) (H : Hp) (b r l : Addr) (s : Abs) (pos : Nat) (ns : List Int) : Prop where
  body : BodyAt A H b s
  rdr : ReaderAt A H r l pos
  seq : SqL K H l (ns.map V.int)
  ne : b ≠ r
def But2 (b r : Addr) (H H' : Hp) : Prop := ∀ x o, x ≠ b → x ≠ r → H x = some o → H' x = some o
theorem But2.trans {b r : Addr} {H H1 H2 : Hp} (e : But2 b r H H1) (f : But2 b r H1 H2) : But2 b r H H2 := fun x o n m h => f x o n m (e x o n m h)
theorem But2.r {b r : Addr} {H H' : Hp} (e : SameB r H H') : But2 b r H H' := fun x o _ m h => e x o m h
theorem But2.b {b r : Addr} {H H' : Hp} (e : SameB b H H') : But2 b r H H' := fun x o n _ h => e x o n h
section
variable {K : PySem.W.Frag} {A : Ad} {H H1 : Hp} {b r l : Addr} {s : Abs} {pos : Nat} {ns : List Int}
theorem ReaderAt.ins (R : ReaderAt A H r l pos) : ∃ (dx : Addr) (fs : List (Str × V)), H r = some (.ins A.C_Reader dx fs) ∧ ∀ m : Str, m ≠ "numbers" → m ≠ "position" → fs.lookup m = none := by
  obtain ⟨dx, fs, h1, h2, h3, h4, h5⟩ := R.ex
  exact ⟨dx, fs, h1, h4⟩
theorem BodyAt.ins (B : BodyAt A H b s) : ∃ (dx : Addr) (fs : List (Str × V)), H b = some (.ins A.C_Body dx fs) ∧ ∀ m : Str, m ≠ "field" → m ≠ "level" → m ≠ "triangles" → m ≠ "pieces" → fs.lookup m = none := by
  obtain ⟨dx, lt, lp, fs, vf, h1, h2, h3, h4⟩ := B.ex
  exact ⟨dx, fs, h1, h2.no⟩
theorem Desk.took (D : Desk K A H b r l s pos ns) {q : Nat} (e : SameB r H H1) (R : ReaderAt A H1 r l q) : Desk K A H1 b r l s q ns := by
  obtain ⟨dx, fs, h1, h4⟩ := D.rdr.ins
  exact ⟨D.body.keep e h1 D.ne (h4 _ (by decide +kernel) (by decide +kernel)), R, e.seq h1 D.seq, D.ne⟩
theorem Desk.told (D : Desk K A H b r l s pos ns) {s' : Abs} (e : SameB b H H1) (B : BodyAt A H1 b s') : Desk K A H1 b r l s' pos ns := by
  obtain ⟨dx, fs, h1, h4⟩ := D.body.ins
  exact ⟨B, D.rdr.keep e (Ne.symm D.ne), e.seq h1 D.seq, D.ne⟩
end
def sp_answer_call (K : PySem.W.Frag) (A : Ad) : Sp := fun vs H Q _ => ∃ (b r l : Addr) (s : Abs) (pos : Nat) (ns rest : List Int) (c : Call), vs = [.ref b, .ref r] ∧ Desk K A H b r l s pos ns ∧ RC.OkC c ∧ ns.drop pos = RC.enc c ++ rest ∧ ns.length ≤ 100000 ∧
  ∀ (p : Addr) (H' : Hp), H p = none → But2 b r H H' → Desk K A H' b r l (RC.next s c) (pos + (RC.enc c).length) ns → H' p = some (.lst ((RC.ans s c).map V.int)) → Q (.ref p) H'
section
variable {P : Program} {w : World} {K : PySem.W.Frag} {mg : Str → Option Value} {base : Heap} {A : Ad}
theorem ok_answer_call (T : Txt K mg A) (TB : Tab K A) : Prom P w K mg base 7 A.f_answer_call ["body", "reader"] (sp_answer_call K A) := by
  obtain ⟨fd_Reader_take, G_Reader_take, b_Reader_take, kp_Reader_take⟩ := ok_Reader_take (P := P) (w := w) (base := base) T
  obtain ⟨fd_Body_begin, G_Body_begin, b_Body_begin, kp_Body_begin⟩ := ok_Body_begin (P := P) (w := w) (base := base) T
  obtain ⟨fd_Body_lay_field, G_Body_lay_field, b_Body_lay_field, kp_Body_lay_field⟩ := ok_Body_lay_field (P := P) (w := w) (base := base) T
  obtain ⟨fd_Reader_take_row, G_Reader_take_row, b_Reader_take_row, kp_Reader_take_row⟩ := ok_Reader_take_row (P := P) (w := w) (base := base) T
  obtain ⟨fd_Body_cut, G_Body_cut, b_Body_cut, kp_Body_cut⟩ := ok_Body_cut (P := P) (w := w) (base := base) T TB
  obtain ⟨fd_Body_tell_triangle, G_Body_tell_triangle, b_Body_tell_triangle, kp_Body_tell_triangle⟩ := ok_Body_tell_triangle (P := P) (w := w) (base := base) T
  obtain ⟨fd_Body_tell_point, G_Body_tell_point, b_Body_tell_point, kp_Body_tell_point⟩ := ok_Body_tell_point (P := P) (w := w) (base := base) T
  obtain ⟨fd_Body_count_pieces, G_Body_count_pieces, b_Body_count_pieces, kp_Body_count_pieces⟩ := ok_Body_count_pieces (P := P) (w := w) (base := base) T
  obtain ⟨fd_Body_tell_piece, G_Body_tell_piece, b_Body_tell_piece, kp_Body_tell_piece⟩ := ok_Body_tell_piece (P := P) (w := w) (base := base) T
  obtain ⟨fd_Body_tell_hangs, G_Body_tell_hangs, b_Body_tell_hangs, kp_Body_tell_hangs⟩ := ok_Body_tell_hangs (P := P) (w := w) (base := base) T
  obtain ⟨tk_BEGIN, hk_BEGIN⟩ := T.k_BEGIN
  obtain ⟨tk_FIELD, hk_FIELD⟩ := T.k_FIELD
  obtain ⟨tk_CUT, hk_CUT⟩ := T.k_CUT
  obtain ⟨tk_TRIANGLE, hk_TRIANGLE⟩ := T.k_TRIANGLE
  obtain ⟨tk_POINT, hk_POINT⟩ := T.k_POINT
  obtain ⟨tk_COUNT, hk_COUNT⟩ := T.k_COUNT
  obtain ⟨tk_PIECE, hk_PIECE⟩ := T.k_PIECE
  obtain ⟨tk_HANGS, hk_HANGS⟩ := T.k_HANGS
  refine T.d_answer_call.prom sc_answer_call (fun vs H Q E h => ?_) (fun cdv A' outer s H vs Q E hr h => ?_)
  · obtain ⟨b, r, l, st, pos, ns, rest, c, rfl, _⟩ := h
    rfl
  · obtain ⟨b, r, l, st, pos, ns, rest, c, rfl, D, ok, hd, hn, k⟩ := h
    have fin : ∀ {H1 H2 : Hp} {q : Nat} {p : Addr}, But2 b r H H1 → Desk K A H1 b r l st q ns → q = pos + (RC.enc c).length → H1 p = none → SameB b H1 H2 → BodyAt A H2 b (RC.next st c) → H2 p = some (.lst ((RC.ans st c).map V.int)) → Q (.ref p) H2 := fun {H1 H2 q p} e1 D1 eq np e2 B2 g2 => by
      have hp : H p = none := by
        cases z : H p with
        | none => rfl
        | some o =>
          obtain ⟨dxb, fsb, hb, _⟩ := D1.body.ins
          obtain ⟨dxr, fsr, hr', _⟩ := D1.rdr.ins
          have n1 : p ≠ b := fun y => by rw [y, hb] at np; cases np
          have n2 : p ≠ r := fun y => by rw [y, hr'] at np; cases np
          rw [e1 p o n1 n2 z] at np
          cases np
      have D2 := D1.told e2 B2
      rw [eq] at D2
      exact k p H2 hp (e1.trans (.b e2)) D2 g2
    have rmeth : ∀ {H' : Hp} {q : Nat} (m : Str), Desk K A H' b r l st q ns → m ≠ "numbers" → m ≠ "position" → ∃ (dx : Addr) (fs : List (Str × V)), H' r = some (.ins A.C_Reader dx fs) ∧ fs.lookup m = none := fun m D n1 n2 => by
      obtain ⟨dx, fs, h1, h4⟩ := D.rdr.ins
      exact ⟨dx, fs, h1, h4 m n1 n2⟩
    have bmeth : ∀ {H' : Hp} {q : Nat} (m : Str), Desk K A H' b r l st q ns → m ≠ "field" → m ≠ "level" → m ≠ "triangles" → m ≠ "pieces" → ∃ (dx : Addr) (fs : List (Str × V)), H' b = some (.ins A.C_Body dx fs) ∧ fs.lookup m = none := fun m D n1 n2 n3 n4 => by
      obtain ⟨dx, fs, h1, h4⟩ := D.body.ins
      exact ⟨dx, fs, h1, h4 m n1 n2 n3 n4⟩
    refine ⟨_, (pss_cons (ps_set (i := 2) sc_answer_call.nd rfl (Or.inl rfl) (pe_meth0 (pv 1) T.c_Reader T.m_Reader_take G_Reader_take (hr.mono (by decide)) b_Reader_take .nil pass0))
      (pss_cons (ps_if (pt_cmpR op_eq (pv 2) (pe_glob (v := V.int (0)) rfl hk_BEGIN ⟨_, rfl⟩) (nomark _)) (pss_one (ps_ret (pe_meth0 (pv 0) T.c_Body T.m_Body_begin G_Body_begin (hr.mono (by decide)) b_Body_begin .nil pass0))) pss_nil)
      (pss_cons (ps_if (pt_cmpR op_eq (pv 2) (pe_glob (v := V.int (1)) rfl hk_FIELD ⟨_, rfl⟩) (nomark _)) (pss_cons (ps_set (i := 3) sc_answer_call.nd rfl (Or.inl rfl) (pe_meth0 (pv 1) T.c_Reader T.m_Reader_take G_Reader_take (hr.mono (by decide)) b_Reader_take .nil pass0))
      (pss_cons (ps_set (i := 4) sc_answer_call.nd rfl (Or.inl rfl) (pe_meth0 (pv 1) T.c_Reader T.m_Reader_take G_Reader_take (hr.mono (by decide)) b_Reader_take .nil pass0))
      (pss_cons (ps_set (i := 5) sc_answer_call.nd rfl (Or.inl rfl) (pe_meth0 (pv 1) T.c_Reader T.m_Reader_take G_Reader_take (hr.mono (by decide)) b_Reader_take .nil pass0))
      (pss_one (ps_ret (pe_meth (pv 0) T.c_Body T.m_Body_lay_field G_Body_lay_field (hr.mono (by decide)) b_Body_lay_field .nil pass0 (pa_cons (pv 3) (pa_cons (pv 4) (pa_cons (pv 5) (pa_cons (pe_meth0 (pv 1) T.c_Reader T.m_Reader_take_row G_Reader_take_row (hr.mono (by decide)) b_Reader_take_row .nil pass0) pa_nil)))))))))) pss_nil)
      (pss_cons (ps_if (pt_cmpR op_eq (pv 2) (pe_glob (v := V.int (2)) rfl hk_CUT ⟨_, rfl⟩) (nomark _)) (pss_one (ps_ret (pe_meth (pv 0) T.c_Body T.m_Body_cut G_Body_cut (hr.mono (by decide)) b_Body_cut .nil pass0 (pa_cons (pe_meth0 (pv 1) T.c_Reader T.m_Reader_take G_Reader_take (hr.mono (by decide)) b_Reader_take .nil pass0) pa_nil)))) pss_nil)
      (pss_cons (ps_if (pt_cmpR op_eq (pv 2) (pe_glob (v := V.int (3)) rfl hk_TRIANGLE ⟨_, rfl⟩) (nomark _)) (pss_one (ps_ret (pe_meth (pv 0) T.c_Body T.m_Body_tell_triangle G_Body_tell_triangle (hr.mono (by decide)) b_Body_tell_triangle .nil pass0 (pa_cons (pe_meth0 (pv 1) T.c_Reader T.m_Reader_take G_Reader_take (hr.mono (by decide)) b_Reader_take .nil pass0) pa_nil)))) pss_nil)
      (pss_cons (ps_if (pt_cmpR op_eq (pv 2) (pe_glob (v := V.int (4)) rfl hk_POINT ⟨_, rfl⟩) (nomark _)) (pss_cons (ps_set (i := 6) sc_answer_call.nd rfl (Or.inl rfl) (pe_meth0 (pv 1) T.c_Reader T.m_Reader_take G_Reader_take (hr.mono (by decide)) b_Reader_take .nil pass0))
      (pss_cons (ps_set (i := 7) sc_answer_call.nd rfl (Or.inl rfl) (pe_meth0 (pv 1) T.c_Reader T.m_Reader_take G_Reader_take (hr.mono (by decide)) b_Reader_take .nil pass0))
      (pss_cons (ps_set (i := 8) sc_answer_call.nd rfl (Or.inl rfl) (pe_meth0 (pv 1) T.c_Reader T.m_Reader_take G_Reader_take (hr.mono (by decide)) b_Reader_take .nil pass0))
      (pss_one (ps_ret (pe_meth (pv 0) T.c_Body T.m_Body_tell_point G_Body_tell_point (hr.mono (by decide)) b_Body_tell_point .nil pass0 (pa_cons (pv 6) (pa_cons (pv 7) (pa_cons (pv 8) (pa_cons (pe_meth0 (pv 1) T.c_Reader T.m_Reader_take G_Reader_take (hr.mono (by decide)) b_Reader_take .nil pass0) pa_nil)))))))))) pss_nil)
      (pss_cons (ps_if (pt_cmpR op_eq (pv 2) (pe_glob (v := V.int (5)) rfl hk_COUNT ⟨_, rfl⟩) (nomark _)) (pss_one (ps_ret (pe_meth0 (pv 0) T.c_Body T.m_Body_count_pieces G_Body_count_pieces (hr.mono (by decide)) b_Body_count_pieces .nil pass0))) pss_nil)
      (pss_cons (ps_if (pt_cmpR op_eq (pv 2) (pe_glob (v := V.int (6)) rfl hk_PIECE ⟨_, rfl⟩) (nomark _)) (pss_one (ps_ret (pe_meth (pv 0) T.c_Body T.m_Body_tell_piece G_Body_tell_piece (hr.mono (by decide)) b_Body_tell_piece .nil pass0 (pa_cons (pe_meth0 (pv 1) T.c_Reader T.m_Reader_take G_Reader_take (hr.mono (by decide)) b_Reader_take .nil pass0) pa_nil)))) pss_nil)
      (pss_cons (ps_if (pt_cmpR op_eq (pv 2) (pe_glob (v := V.int (7)) rfl hk_HANGS ⟨_, rfl⟩) (nomark _)) (pss_one (ps_ret (pe_meth (pv 0) T.c_Body T.m_Body_tell_hangs G_Body_tell_hangs (hr.mono (by decide)) b_Body_tell_hangs .nil pass0 (pa_cons (pe_meth0 (pv 1) T.c_Reader T.m_Reader_take G_Reader_take (hr.mono (by decide)) b_Reader_take .nil pass0) pa_nil)))) pss_nil)
      (pss_one ps_never)))))))))), ?_⟩
    obtain ⟨dx0, fs0, r1, r2⟩ := rmeth "take" D (by decide +kernel) (by decide +kernel)
    cases c with
    | init =>
      obtain ⟨z0, d1⟩ := drop_cons (show ns.drop pos = (0 : Int) :: rest from hd)
      refine ⟨_, rfl, r, dx0, fs0, rfl, r1, r2, r, l, pos, ns, _, rfl, D.rdr, D.seq, z0, fun H1 R1 s1 => ?_⟩
      have D1 := D.took s1 R1
      obtain ⟨dxb, fsb, b1, b2⟩ := bmeth "begin" D1 (by decide +kernel) (by decide +kernel) (by decide +kernel) (by decide +kernel)
      refine ⟨_, rfl, rfl, _, rfl, hit ⟨_, rfl, b, dxb, fsb, rfl, b1, b2, b, st, rfl, D1.body, fun p H2 np e2 B2 g2 => fin (.r s1) D1 rfl np e2 B2 g2⟩⟩
    | field x y z v =>
      obtain ⟨z0, d1⟩ := drop_cons (show ns.drop pos = (1 : Int) :: (x :: y :: z :: ((v.length : Int) :: v ++ rest)) from by rw [hd]; simp [RC.enc, RC.flat, RC.rows])
      obtain ⟨z1, d2⟩ := drop_cons d1
      obtain ⟨z2, d3⟩ := drop_cons d2
      obtain ⟨z3, d4⟩ := drop_cons d3
      refine ⟨_, rfl, r, dx0, fs0, rfl, r1, r2, r, l, pos, ns, _, rfl, D.rdr, D.seq, z0, fun H1 R1 s1 => ?_⟩
      have D1 := D.took s1 R1
      refine ⟨_, rfl, rfl, _, rfl, skip (by decide) ⟨_, rfl, rfl, _, rfl, hit ?_⟩⟩
      obtain ⟨dx1, fs1, p1, p2⟩ := rmeth "take" D1 (by decide +kernel) (by decide +kernel)
      refine ⟨_, rfl, r, dx1, fs1, rfl, p1, p2, r, l, _, ns, _, rfl, D1.rdr, D1.seq, z1, fun H2 R2 s2 => ?_⟩
      have D2 := D1.took s2 R2
      obtain ⟨dx2, fs2, q1, q2⟩ := rmeth "take" D2 (by decide +kernel) (by decide +kernel)
      refine ⟨_, rfl, r, dx2, fs2, rfl, q1, q2, r, l, _, ns, _, rfl, D2.rdr, D2.seq, z2, fun H3 R3 s3 => ?_⟩
      have D3 := D2.took s3 R3
      obtain ⟨dx3, fs3, o1, o2⟩ := rmeth "take" D3 (by decide +kernel) (by decide +kernel)
      refine ⟨_, rfl, r, dx3, fs3, rfl, o1, o2, r, l, _, ns, _, rfl, D3.rdr, D3.seq, z3, fun H4 R4 s4 => ?_⟩
      have D4 := D3.took s4 R4
      obtain ⟨dxb, fsb, b1, b2⟩ := bmeth "lay_field" D4 (by decide +kernel) (by decide +kernel) (by decide +kernel) (by decide +kernel)
      obtain ⟨dx4, fs4, t1, t2⟩ := rmeth "take_row" D4 (by decide +kernel) (by decide +kernel)
      refine ⟨_, rfl, b, dxb, fsb, rfl, b1, b2, _, rfl, _, rfl, _, rfl, _, rfl, r, dx4, fs4, rfl, t1, t2, r, l, _, ns, v, rfl, D4.rdr, D4.seq, ⟨rest, d4⟩, hn, fun H5 lr R5 s5 n5 g5 => ?_⟩
      have D5 := D4.took s5 R5
      refine ⟨b, lr, st, x, y, z, v, rfl, D5.body, g5, ok, fun p H6 np e6 B6 g6 => fin ((((But2.r s1).trans (.r s2)).trans (.r s3)).trans ((But2.r s4).trans (.r s5))) D5 ?_ np e6 B6 g6⟩
      show pos + 1 + 1 + 1 + 1 + 1 + v.length = pos + (RC.enc (.field x y z v)).length
      simp [RC.enc, RC.flat, RC.rows]
      omega
    | cut x =>
      obtain ⟨z0, d1⟩ := drop_cons (show ns.drop pos = (2 : Int) :: (x :: rest) from hd)
      obtain ⟨z1, d2⟩ := drop_cons d1
      refine ⟨_, rfl, r, dx0, fs0, rfl, r1, r2, r, l, pos, ns, _, rfl, D.rdr, D.seq, z0, fun H1 R1 s1 => ?_⟩
      have D1 := D.took s1 R1
      refine ⟨_, rfl, rfl, _, rfl, skip (by decide) ⟨_, rfl, rfl, _, rfl, skip (by decide) ⟨_, rfl, rfl, _, rfl, hit ?_⟩⟩⟩
      obtain ⟨dxb, fsb, b1, b2⟩ := bmeth "cut" D1 (by decide +kernel) (by decide +kernel) (by decide +kernel) (by decide +kernel)
      obtain ⟨dx1, fs1, p1, p2⟩ := rmeth "take" D1 (by decide +kernel) (by decide +kernel)
      refine ⟨_, rfl, b, dxb, fsb, rfl, b1, b2, _, rfl, r, dx1, fs1, rfl, p1, p2, r, l, _, ns, _, rfl, D1.rdr, D1.seq, z1, fun H2 R2 s2 => ?_⟩
      have D2 := D1.took s2 R2
      exact ⟨b, st, x, rfl, D2.body, fun p H3 np e3 B3 g3 => fin ((But2.r s1).trans (.r s2)) D2 rfl np e3 B3 g3⟩
    | triangle x =>
      obtain ⟨z0, d1⟩ := drop_cons (show ns.drop pos = (3 : Int) :: (x :: rest) from hd)
      obtain ⟨z1, d2⟩ := drop_cons d1
      refine ⟨_, rfl, r, dx0, fs0, rfl, r1, r2, r, l, pos, ns, _, rfl, D.rdr, D.seq, z0, fun H1 R1 s1 => ?_⟩
      have D1 := D.took s1 R1
      refine ⟨_, rfl, rfl, _, rfl, skip (by decide) ⟨_, rfl, rfl, _, rfl, skip (by decide) ⟨_, rfl, rfl, _, rfl, skip (by decide) ⟨_, rfl, rfl, _, rfl, hit ?_⟩⟩⟩⟩
      obtain ⟨dxb, fsb, b1, b2⟩ := bmeth "tell_triangle" D1 (by decide +kernel) (by decide +kernel) (by decide +kernel) (by decide +kernel)
      obtain ⟨dx1, fs1, p1, p2⟩ := rmeth "take" D1 (by decide +kernel) (by decide +kernel)
      refine ⟨_, rfl, b, dxb, fsb, rfl, b1, b2, _, rfl, r, dx1, fs1, rfl, p1, p2, r, l, _, ns, _, rfl, D1.rdr, D1.seq, z1, fun H2 R2 s2 => ?_⟩
      have D2 := D1.took s2 R2
      exact ⟨b, st, x, rfl, D2.body, fun p H3 np e3 B3 g3 => fin ((But2.r s1).trans (.r s2)) D2 rfl np e3 B3 g3⟩
    | point x y z d =>
      obtain ⟨z0, d1⟩ := drop_cons (show ns.drop pos = (4 : Int) :: (x :: y :: z :: d :: rest) from hd)
      obtain ⟨z1, d2⟩ := drop_cons d1
      obtain ⟨z2, d3⟩ := drop_cons d2
      obtain ⟨z3, d4⟩ := drop_cons d3
      obtain ⟨z4, d5⟩ := drop_cons d4
      refine ⟨_, rfl, r, dx0, fs0, rfl, r1, r2, r, l, pos, ns, _, rfl, D.rdr, D.seq, z0, fun H1 R1 s1 => ?_⟩
      have D1 := D.took s1 R1
      refine ⟨_, rfl, rfl, _, rfl, skip (by decide) ⟨_, rfl, rfl, _, rfl, skip (by decide) ⟨_, rfl, rfl, _, rfl, skip (by decide) ⟨_, rfl, rfl, _, rfl, skip (by decide) ⟨_, rfl, rfl, _, rfl, hit ?_⟩⟩⟩⟩⟩
      obtain ⟨dx1, fs1, p1, p2⟩ := rmeth "take" D1 (by decide +kernel) (by decide +kernel)
      refine ⟨_, rfl, r, dx1, fs1, rfl, p1, p2, r, l, _, ns, _, rfl, D1.rdr, D1.seq, z1, fun H2 R2 s2 => ?_⟩
      have D2 := D1.took s2 R2
      obtain ⟨dx2, fs2, q1, q2⟩ := rmeth "take" D2 (by decide +kernel) (by decide +kernel)
      refine ⟨_, rfl, r, dx2, fs2, rfl, q1, q2, r, l, _, ns, _, rfl, D2.rdr, D2.seq, z2, fun H3 R3 s3 => ?_⟩
      have D3 := D2.took s3 R3
      obtain ⟨dx3, fs3, o1, o2⟩ := rmeth "take" D3 (by decide +kernel) (by decide +kernel)
      refine ⟨_, rfl, r, dx3, fs3, rfl, o1, o2, r, l, _, ns, _, rfl, D3.rdr, D3.seq, z3, fun H4 R4 s4 => ?_⟩
      have D4 := D3.took s4 R4
      obtain ⟨dxb, fsb, b1, b2⟩ := bmeth "tell_point" D4 (by decide +kernel) (by decide +kernel) (by decide +kernel) (by decide +kernel)
      obtain ⟨dx4, fs4, t1, t2⟩ := rmeth "take" D4 (by decide +kernel) (by decide +kernel)
      refine ⟨_, rfl, b, dxb, fsb, rfl, b1, b2, _, rfl, _, rfl, _, rfl, _, rfl, r, dx4, fs4, rfl, t1, t2, r, l, _, ns, _, rfl, D4.rdr, D4.seq, z4, fun H5 R5 s5 => ?_⟩
      have D5 := D4.took s5 R5
      exact ⟨b, st, x, y, z, d, rfl, D5.body, fun p H6 np e6 B6 g6 => fin ((((But2.r s1).trans (.r s2)).trans (.r s3)).trans ((But2.r s4).trans (.r s5))) D5 rfl np e6 B6 g6⟩
    | count =>
      obtain ⟨z0, d1⟩ := drop_cons (show ns.drop pos = (5 : Int) :: rest from hd)
      refine ⟨_, rfl, r, dx0, fs0, rfl, r1, r2, r, l, pos, ns, _, rfl, D.rdr, D.seq, z0, fun H1 R1 s1 => ?_⟩
      have D1 := D.took s1 R1
      obtain ⟨dxb, fsb, b1, b2⟩ := bmeth "count_pieces" D1 (by decide +kernel) (by decide +kernel) (by decide +kernel) (by decide +kernel)
      refine ⟨_, rfl, rfl, _, rfl, skip (by decide) ⟨_, rfl, rfl, _, rfl, skip (by decide) ⟨_, rfl, rfl, _, rfl, skip (by decide) ⟨_, rfl, rfl, _, rfl, skip (by decide) ⟨_, rfl, rfl, _, rfl, skip (by decide) ⟨_, rfl, rfl, _, rfl, hit ?_⟩⟩⟩⟩⟩⟩
      exact ⟨_, rfl, b, dxb, fsb, rfl, b1, b2, b, st, rfl, D1.body, fun p H2 np e2 B2 g2 => fin (.r s1) D1 rfl np e2 B2 g2⟩
    | piece x =>
      obtain ⟨z0, d1⟩ := drop_cons (show ns.drop pos = (6 : Int) :: (x :: rest) from hd)
      obtain ⟨z1, d2⟩ := drop_cons d1
      refine ⟨_, rfl, r, dx0, fs0, rfl, r1, r2, r, l, pos, ns, _, rfl, D.rdr, D.seq, z0, fun H1 R1 s1 => ?_⟩
      have D1 := D.took s1 R1
      refine ⟨_, rfl, rfl, _, rfl, skip (by decide) ⟨_, rfl, rfl, _, rfl, skip (by decide) ⟨_, rfl, rfl, _, rfl, skip (by decide) ⟨_, rfl, rfl, _, rfl, skip (by decide) ⟨_, rfl, rfl, _, rfl, skip (by decide) ⟨_, rfl, rfl, _, rfl, skip (by decide) ⟨_, rfl, rfl, _, rfl, hit ?_⟩⟩⟩⟩⟩⟩⟩
      obtain ⟨dxb, fsb, b1, b2⟩ := bmeth "tell_piece" D1 (by decide +kernel) (by decide +kernel) (by decide +kernel) (by decide +kernel)
      obtain ⟨dx1, fs1, p1, p2⟩ := rmeth "take" D1 (by decide +kernel) (by decide +kernel)
      refine ⟨_, rfl, b, dxb, fsb, rfl, b1, b2, _, rfl, r, dx1, fs1, rfl, p1, p2, r, l, _, ns, _, rfl, D1.rdr, D1.seq, z1, fun H2 R2 s2 => ?_⟩
      have D2 := D1.took s2 R2
      exact ⟨b, st, x, rfl, D2.body, fun p H3 np e3 B3 g3 => fin ((But2.r s1).trans (.r s2)) D2 rfl np e3 B3 g3⟩
    | hangs x =>
      obtain ⟨z0, d1⟩ := drop_cons (show ns.drop pos = (7 : Int) :: (x :: rest) from hd)
      obtain ⟨z1, d2⟩ := drop_cons d1
      refine ⟨_, rfl, r, dx0, fs0, rfl, r1, r2, r, l, pos, ns, _, rfl, D.rdr, D.seq, z0, fun H1 R1 s1 => ?_⟩
      have D1 := D.took s1 R1
      refine ⟨_, rfl, rfl, _, rfl, skip (by decide) ⟨_, rfl, rfl, _, rfl, skip (by decide) ⟨_, rfl, rfl, _, rfl, skip (by decide) ⟨_, rfl, rfl, _, rfl, skip (by decide) ⟨_, rfl, rfl, _, rfl, skip (by decide) ⟨_, rfl, rfl, _, rfl, skip (by decide) ⟨_, rfl, rfl, _, rfl, skip (by decide) ⟨_, rfl, rfl, _, rfl, hit ?_⟩⟩⟩⟩⟩⟩⟩⟩
      obtain ⟨dxb, fsb, b1, b2⟩ := bmeth "tell_hangs" D1 (by decide +kernel) (by decide +kernel) (by decide +kernel) (by decide +kernel)
      obtain ⟨dx1, fs1, p1, p2⟩ := rmeth "take" D1 (by decide +kernel) (by decide +kernel)
      refine ⟨_, rfl, b, dxb, fsb, rfl, b1, b2, _, rfl, r, dx1, fs1, rfl, p1, p2, r, l, _, ns, _, rfl, D1.rdr, D1.seq, z1, fun H2 R2 s2 => ?_⟩
      have D2 := D1.took s2 R2
      exact ⟨b, st, x, rfl, D2.body, fun p H3 np e3 B3 g3 => fin ((But2.r s1).trans (.r s2)) D2 rfl np e3 B3 g3⟩
end
end Fs
end
section
set_option Elab.async false
set_option linter.all false
set_option maxRecDepth 100000
set_option maxHeartbeats 1000001
namespace Fs
open PySem PySem.Spec PyProof.Rows L2
open Rc29 (Abs Call)
def sp_answers (K : PySem.W.Frag) : Sp := fun vs H Q _ => ∃ (l : Addr) (ns : List Int), vs = [.ref l] ∧ SqL K H l (ns.map V.int) ∧ PyRc29.answers_asked ns = true ∧ ns.length ≤ 6000 ∧ ∀ (H' : Hp) (p : Addr), H' p = some (.lst ((PyRc29.answers ns).map V.int)) → Q (.ref p) H'
theorem FieldAt.frz {A : Ad} {H : Hp} {a t : Addr} {f : Rc29.Field} {od : Obj} {u o : HO} (F : FieldAt A H a f) (ht : H t = some (.frz od u)) : FieldAt A (upd H t o) a f := by
  obtain ⟨dx, l, fs, h1, h2, h3, h4, h5, h6, h7⟩ := F.ex
  exact ⟨⟨dx, l, fs, by rw [upd_ne (ne_of h1 ht (by intro z; cases z))]; exact h1, h2, h3, h4, h5, h6, by rw [upd_ne (ne_of h7 ht (by intro z; cases z))]; exact h7⟩, F.bx, F.bY, F.bz, F.len⟩
mutual
theorem is_frz {H : Hp} {t : Addr} {od : Obj} {u o : HO} (ht : H t = some (.frz od u)) : ∀ {v : V} {d : Dat}, Is H v d → Is (upd H t o) v d
  | _, _, .bl b => .bl b
  | _, _, .int i => .int i
  | _, _, .tup h r => .tup (by rw [upd_ne (ne_of h ht (by intro z; cases z))]; exact h) (isAll_frz ht r)
theorem isAll_frz {H : Hp} {t : Addr} {od : Obj} {u o : HO} (ht : H t = some (.frz od u)) : ∀ {vs : List V} {ds : List Dat}, IsAll H vs ds → IsAll (upd H t o) vs ds
  | _, _, .nil => .nil
  | _, _, .cons h r => .cons (is_frz ht h) (isAll_frz ht r)
end
theorem BodyAt.frz {A : Ad} {H : Hp} {b t : Addr} {s : Abs} {od : Obj} {u o : HO} (B : BodyAt A H b s) (ht : H t = some (.frz od u)) : BodyAt A (upd H t o) b s := by
  obtain ⟨dx, lt, lp, fs, vf, h1, h2, h3, h4⟩ := B.ex
  refine ⟨⟨dx, lt, lp, fs, vf, by rw [upd_ne (ne_of h1 ht (by intro z; cases z))]; exact h1, h2, ?_, fun f l a c => ?_⟩, B.ok⟩
  · cases q : s.field with
    | none => rw [q] at h3; exact h3
    | some f =>
      rw [q] at h3
      obtain ⟨a, rfl, F⟩ := h3
      exact ⟨a, rfl, F.frz ht⟩
  · obtain ⟨⟨vs, g1, g2⟩, ⟨bs, g3, g4⟩⟩ := h4 f l a c
    exact ⟨⟨vs, by rw [upd_ne (ne_of g1 ht (by intro z; cases z))]; exact g1, isAll_frz ht g2⟩, ⟨bs, by rw [upd_ne (ne_of g3 ht (by intro z; cases z))]; exact g3, Paired.mapP g4 fun _ _ q => ⟨q.1, by rw [upd_ne (ne_of q.2 ht (by intro z; cases z))]; exact q.2⟩⟩⟩
theorem ReaderAt.frz {A : Ad} {H : Hp} {r l t : Addr} {pos : Nat} {od : Obj} {u o : HO} (R : ReaderAt A H r l pos) (ht : H t = some (.frz od u)) : ReaderAt A (upd H t o) r l pos := by
  obtain ⟨dx, fs, h1, h2, h3, h4, h5⟩ := R.ex
  exact ⟨dx, fs, by rw [upd_ne (ne_of h1 ht (by intro z; cases z))]; exact h1, h2, h3, h4, h5⟩
def left (n : Nat) (r : Addr) (H : Hp) : Nat := match H r with
  | some (.ins _ _ fs) => (match fs.lookup ("position" : Str) with
    | some (.int p) => n - p.toNat
    | _ => 0)
  | _ => 0
theorem left_eq {A : Ad} {H : Hp} {r l : Addr} {pos n : Nat} (R : ReaderAt A H r l pos) : left n r H = n - pos := by
  obtain ⟨dx, fs, h1, h2, h3, h4, h5⟩ := R.ex
  unfold left
  rw [h1]
  simp only [h3, Int.toNat_natCast]
abbrev encs (cs : List Call) : List Int := cs.flatMap RC.enc
theorem encs_snoc (cs : List Call) (c : Call) : encs (cs ++ [c]) = encs cs ++ RC.enc c := by
  unfold encs
  rw [List.flatMap_append, List.flatMap_cons, List.flatMap_nil, List.append_nil]
section
variable {P : Program} {w : World} {K : PySem.W.Frag} {mg : Str → Option Value} {base : Heap} {A : Ad}
theorem fn_answers (T : Txt K mg A) (TB : Tab K A) {fd : FuncData} (F : Fun K "answers" "answers" s_answers A.f_answers fd) : FnOk P w K mg base CX0 8 A.f_answers fd ["calls"] (sp_answers K) := by
  obtain ⟨fd_Body_init, G_Body_init, b_Body_init, kp_Body_init⟩ := ok_Body_init (P := P) (w := w) (base := base) T
  obtain ⟨fd_Reader_init, G_Reader_init, b_Reader_init, kp_Reader_init⟩ := ok_Reader_init (P := P) (w := w) (base := base) T
  obtain ⟨fd_Reader_has_more, G_Reader_has_more, b_Reader_has_more, kp_Reader_has_more⟩ := ok_Reader_has_more (P := P) (w := w) (base := base) T
  obtain ⟨fd_answer_call, G_answer_call, b_answer_call, kp_answer_call⟩ := ok_answer_call (P := P) (w := w) (base := base) T TB
  refine F.ok sc_answers (fun vs H Q E h => ?_) (fun cdv A' outer s H vs Q E hr h => ?_)
  · obtain ⟨l, ns, rfl, _⟩ := h
    rfl
  · obtain ⟨l, ns, rfl, hl, hask, hn, k⟩ := h
    obtain ⟨cs, ecs, okc, lc, edue⟩ := RC.asked_calls hask
    refine ⟨_, (pss_cons (ps_set (i := 1) sc_answers.nd rfl (Or.inl rfl) (pe_make0 T.mk_Body G_Body_init (hr.mono (by decide)) rfl T.g_Body b_Body_init .nil pass0))
      (pss_cons (ps_set (i := 2) sc_answers.nd rfl (Or.inl rfl) (pe_make T.mk_Reader G_Reader_init (hr.mono (by decide)) rfl T.g_Reader b_Reader_init .nil pass0 (pa_cons (pv 0) pa_nil)))
      (pss_cons (ps_set (i := 3) sc_answers.nd rfl (Or.inl rfl) (pe_lst pa_nil))
      (pss_cons (ps_while PassesOwn.never (pt_val (pe_meth0 (pv 2) T.c_Reader T.m_Reader_has_more G_Reader_has_more (hr.mono (by decide)) b_Reader_has_more .nil pass0)) (pss_cons (ps_lock (ps_set (i := 4) sc_answers.nd rfl (Or.inl rfl) (pe_call G_answer_call (hr.mono (by decide)) rfl T.g_answer_call kp_answer_call b_answer_call .nil pass0 (pa_cons (pv 1) (pa_cons (pv 2) pa_nil)))))
      (pss_cons (ps_expr (pe_bm PySem.F.plainAttrs_list PySem.F.slot_list_append PySem.F.type_list_append mt_append (pv 3) (pa_cons (pe_callB call_len_seq (by rfl) T.b_len PySem.boot_len (pa_cons (pv 4) pa_nil)) pa_nil)))
      (pss_one (ps_expr (pe_bm PySem.F.plainAttrs_list PySem.F.slot_list_extend PySem.F.type_list_extend mt_extend (pv 3) (pa_cons (pv 4) pa_nil)))))))
      (pss_one (ps_ret (pv 3))))))), ?_⟩
    intro b db nb ndb neb
    refine ⟨b, db, rfl, upd_same, fun H1 B1 s1 => ⟨rfl, ?_⟩⟩
    have t1 : Same H H1 := Same.made nb ndb fun x o e n => s1 x o n e
    refine ⟨_, rfl, fun r dr nr ndr ner => ?_⟩
    refine ⟨r, dr, l, rfl, upd_same, fun H2 R2 s2 => ⟨rfl, ?_⟩⟩
    have t2 : Same H1 H2 := Same.made nr ndr fun x o e n => s2 x o n e
    obtain ⟨dxb, fsb, hb1, _⟩ := B1.ins
    have nbr : b ≠ r := ne_of_none hb1 nr
    have B2 : BodyAt A H2 b {} := by
      refine (B1.same (H' := upd (upd H1 dr (.own r)) r (.ins A.C_Reader dr [])) fun x o e => ?_).keep s2 upd_same nbr rfl
      rw [upd_ne (ne_of_none e nr), upd_ne (ne_of_none e ndr)]
      exact e
    refine ⟨Nat.zero_le _, fun tl htl => ?_⟩
    have t3 : Same H2 (upd H2 tl (.lst [])) := same_new htl
    have nr0 : H r = none := t1.free nr
    have ntl0 : H tl = none := (t1.trans t2).free htl
    have t123 := (t1.trans t2).trans t3
    have D0 : ∀ od, Desk K A (upd (upd H2 tl (.lst [])) tl (.frz od (.lst []))) b r l {} 0 ns := fun od => by
      have t4 : Same H2 (upd (upd H2 tl (.lst [])) tl (.frz od (.lst []))) := same_own t3 htl
      exact ⟨B2.same t4, R2.same t4, ((t1.trans t2).trans t4).seq hl, nbr⟩
    refine while_by (fun σ H' => ∃ (done todo : List Call) (v4 : Option V), σ = [some (.ref l), some (.ref b), some (.ref r), some (.ref tl), v4] ∧ cs = done ++ todo ∧ Same H H' ∧ (∀ od, Desk K A (upd H' tl (.frz od (.lst ((RC.told {} done).map V.int)))) b r l (RC.after {} done) (encs done).length ns) ∧ H' tl = some (.lst ((RC.told {} done).map V.int)))
      (fun _ H' => left ns.length r H') ⟨[], cs, none, rfl, rfl, t123, D0, upd_same⟩ ?_ ?_
    · rintro σ H3 ⟨done, todo, v4, rfl, ec, t4, DF, g⟩
      have back : ∀ od, upd (upd H3 tl (.frz od (.lst ((RC.told {} done).map V.int)))) tl (.lst ((RC.told {} done).map V.int)) = H3 := fun od => by
        funext x
        by_cases z : x = tl
        · rw [z, upd_same, g]
        · rw [upd_ne z, upd_ne z]
      have R3 : ReaderAt A H3 r l (encs done).length := by
        have q := (DF ⟨.none, none, .fields #[], #[]⟩).rdr.frz (o := .lst ((RC.told {} done).map V.int)) upd_same
        rw [back] at q
        exact q
      obtain ⟨dxr, fsr, hr3, nor⟩ := R3.ins
      refine ⟨_, rfl, r, dxr, fsr, rfl, hr3, nor _ (by decide +kernel) (by decide +kernel), r, l, _, ns, rfl, R3, t4.seq hl, _, rfl, ?_⟩
      have en : ns = encs done ++ encs todo := by
        rw [ecs, ec]
        unfold encs
        rw [List.flatMap_append]
      cases todo with
      | nil =>
        have e : decide ((encs done).length < ns.length) = false := decide_eq_false (by rw [en]; unfold encs; simp)
        rw [e]
        refine iteF ⟨_, rfl, k H3 tl ?_⟩
        rw [edue, ec, List.append_nil]
        exact g
      | cons c todo =>
        have cp := RC.enc_pos c
        have enl : ns.length = (encs done).length + ((RC.enc c).length + (encs todo).length) := by
          rw [en, List.length_append]
          unfold encs
          rw [List.flatMap_cons, List.length_append]
        have e : decide ((encs done).length < ns.length) = true := decide_eq_true (by omega)
        rw [e]
        have hd : ns.drop (encs done).length = RC.enc c ++ encs todo := by
          rw [en, List.drop_left]
          unfold encs
          rw [List.flatMap_cons]
        have okx : RC.OkC c := okc c (by rw [ec]; simp)
        have dl : done.length < 100 := by
          rw [ec, List.length_append, List.length_cons] at lc
          omega
        have mtb : Mut (some (HO.lst ((RC.told {} done).map V.int))) := trivial
        refine iteT ⟨tl, _, g, mtb, fun od => ?_⟩
        have D := DF od
        refine ⟨_, rfl, _, rfl, b, r, l, RC.after {} done, _, ns, encs todo, c, rfl, D, okx, hd, by omega, fun p H4 np e4 D4 g4 => ?_⟩
        have ntb : tl ≠ b := fun z => by
          obtain ⟨dxb3, fsb3, hb3, _⟩ := D.body.ins
          rw [← z, upd_same] at hb3
          cases hb3
        have ntr : tl ≠ r := fun z => by
          rw [← z, g] at hr3
          cases hr3
        have g5 : H4 tl = some (.frz od (.lst ((RC.told {} done).map V.int))) := e4 _ _ ntb ntr upd_same
        have npt : p ≠ tl := fun z => by
          rw [z, upd_same] at np
          cases np
        have t5 : Same H H4 := fun x o e => by
          have n1 : x ≠ tl := ne_of_none e ntl0
          refine e4 x o (ne_of_none e nb) (ne_of_none e nr0) ?_
          rw [upd_ne n1]
          exact t4 x o e
        refine ⟨g5, ?_⟩
        have l1 := RC.told_len {} done
        have l2 := RC.ans_len (RC.after {} done) c
        have g4' : (upd H4 tl (.lst ((RC.told {} done).map V.int))) p = some (.lst ((RC.ans (RC.after {} done) c).map V.int)) := by
          rw [upd_ne npt]
          exact g4
        refine ⟨_, rfl, .inl ⟨rfl, _, SqL.of upd_same⟩, _, rfl, p, _, rfl, .inl (SqL.of g4'), tl, _, _, rfl, rfl, upd_same, small_line' (by rw [List.length_map]; omega), ?_⟩
        rw [upd_upd]
        have g6 : (upd H4 tl (.lst ((RC.told {} done).map V.int ++ [V.int (((RC.ans (RC.after {} done) c).map V.int).length : Int)]))) p = some (.lst ((RC.ans (RC.after {} done) c).map V.int)) := by
          rw [upd_ne npt]
          exact g4
        refine ⟨_, rfl, .inl ⟨rfl, _, SqL.of upd_same⟩, _, rfl, tl, p, _, _, rfl, rfl, upd_same, g6, small_line (by rw [List.length_append, List.length_map, List.length_map, List.length_singleton]; omega), ?_⟩
        rw [upd_upd]
        have et : (RC.told {} done).map V.int ++ [V.int (((RC.ans (RC.after {} done) c).map V.int).length : Int)] ++ (RC.ans (RC.after {} done) c).map V.int = (RC.told {} (done ++ [c])).map V.int := by
          rw [RC.told_snoc, List.map_append, List.map_cons, List.length_map, List.append_assoc]
          rfl
        rw [et]
        have D6 : ∀ o, Desk K A (upd H4 tl o) b r l (RC.after {} (done ++ [c])) (encs (done ++ [c])).length ns := fun o => by
          rw [encs_snoc, List.length_append, RC.after_snoc]
          exact ⟨D4.body.frz g5, D4.rdr.frz g5, (same_own t5 ntl0).seq hl, nbr⟩
        refine ⟨⟨done ++ [c], todo, _, rfl, by rw [ec]; simp, same_own t5 ntl0, fun od' => ?_, upd_same⟩, ?_⟩
        · rw [upd_upd]
          exact D6 _
        · rw [left_eq (D6 _).rdr, left_eq R3, encs_snoc, List.length_append]
          omega
    · rintro σ H3 S S' hq ⟨v, e, a, dx, fs, e1, e2, e3, r', l', pos', ns', e4, R', hl', c, ec, q⟩
      exact ⟨v, e, a, dx, fs, e1, e2, e3, r', l', pos', ns', e4, R', hl', c, ec, hq _ _ q⟩
end
end Fs
end
section
set_option Elab.async false
set_option linter.all false
set_option maxRecDepth 100000
set_option maxHeartbeats 4000001
/-! What the top has written. -/
namespace Fs
open PySem PySem.Spec PyProof.Rows L2
theorem all_mk {P : Program} {w : World} {K : PySem.W.Frag} {h : Heap} {mg : Str → Option Value} {fa : Addr} (X : K.In h) (G : h.Ns mainGlobals mg) (hfa : mg "answers" = some (.ref fa)) {f_is_size f_step f_Field_init f_Field_value_at f_Field_has_place f_Field_has_way f_Field_cubes f_triangles_by_point f_hanging_together f_surface_pieces f_piece_with f_sides_of f_count_points f_triangles_by_side f_measure_piece f_is_even f_around_corner f_between_pairs f_parting_triangles f_point_between f_tetrahedron_triangles f_surface_triangles f_is_cut f_common_divisor f_part_of_way f_Body_init f_Body_begin f_Body_lay_field f_Body_set_field f_Body_cut f_Body_tell_triangle f_Body_tell_point f_Body_count_pieces f_Body_tell_piece f_Body_tell_hangs f_Reader_init f_Reader_has_more f_Reader_take f_Reader_take_row f_answer_call f_answers C_Field C_Body C_Reader C_UnknownCall p_TETRAHEDRA p_TETRAHEDRA_0 p_TETRAHEDRA_0_0 p_TETRAHEDRA_1 p_TETRAHEDRA_1_0 p_TETRAHEDRA_2 p_TETRAHEDRA_2_0 p_TETRAHEDRA_3 p_TETRAHEDRA_3_0 p_TETRAHEDRA_4 p_TETRAHEDRA_4_0 p_TETRAHEDRA_5 p_TETRAHEDRA_5_0 : Addr}
    {oc_is_size kV_is_size dc_is_size pm_is_size cd_is_size ct_is_size : Value} {od_is_size an_is_size : Option Addr} {sl_is_size : Array (Option Value)}
    {oc_step kV_step dc_step pm_step cd_step ct_step : Value} {od_step an_step : Option Addr} {sl_step : Array (Option Value)}
    {oc_Field_init kV_Field_init dc_Field_init pm_Field_init cd_Field_init ct_Field_init : Value} {od_Field_init an_Field_init : Option Addr} {sl_Field_init : Array (Option Value)}
    {oc_Field_value_at kV_Field_value_at dc_Field_value_at pm_Field_value_at cd_Field_value_at ct_Field_value_at : Value} {od_Field_value_at an_Field_value_at : Option Addr} {sl_Field_value_at : Array (Option Value)}
    {oc_Field_has_place kV_Field_has_place dc_Field_has_place pm_Field_has_place cd_Field_has_place ct_Field_has_place : Value} {od_Field_has_place an_Field_has_place : Option Addr} {sl_Field_has_place : Array (Option Value)}
    {oc_Field_has_way kV_Field_has_way dc_Field_has_way pm_Field_has_way cd_Field_has_way ct_Field_has_way : Value} {od_Field_has_way an_Field_has_way : Option Addr} {sl_Field_has_way : Array (Option Value)}
    {oc_Field_cubes kV_Field_cubes dc_Field_cubes pm_Field_cubes cd_Field_cubes ct_Field_cubes : Value} {od_Field_cubes an_Field_cubes : Option Addr} {sl_Field_cubes : Array (Option Value)}
    {oc_triangles_by_point kV_triangles_by_point dc_triangles_by_point pm_triangles_by_point cd_triangles_by_point ct_triangles_by_point : Value} {od_triangles_by_point an_triangles_by_point : Option Addr} {sl_triangles_by_point : Array (Option Value)}
    {oc_hanging_together kV_hanging_together dc_hanging_together pm_hanging_together cd_hanging_together ct_hanging_together : Value} {od_hanging_together an_hanging_together : Option Addr} {sl_hanging_together : Array (Option Value)}
    {oc_surface_pieces kV_surface_pieces dc_surface_pieces pm_surface_pieces cd_surface_pieces ct_surface_pieces : Value} {od_surface_pieces an_surface_pieces : Option Addr} {sl_surface_pieces : Array (Option Value)}
    {oc_piece_with kV_piece_with dc_piece_with pm_piece_with cd_piece_with ct_piece_with : Value} {od_piece_with an_piece_with : Option Addr} {sl_piece_with : Array (Option Value)}
    {oc_sides_of kV_sides_of dc_sides_of pm_sides_of cd_sides_of ct_sides_of : Value} {od_sides_of an_sides_of : Option Addr} {sl_sides_of : Array (Option Value)}
    {oc_count_points kV_count_points dc_count_points pm_count_points cd_count_points ct_count_points : Value} {od_count_points an_count_points : Option Addr} {sl_count_points : Array (Option Value)}
    {oc_triangles_by_side kV_triangles_by_side dc_triangles_by_side pm_triangles_by_side cd_triangles_by_side ct_triangles_by_side : Value} {od_triangles_by_side an_triangles_by_side : Option Addr} {sl_triangles_by_side : Array (Option Value)}
    {oc_measure_piece kV_measure_piece dc_measure_piece pm_measure_piece cd_measure_piece ct_measure_piece : Value} {od_measure_piece an_measure_piece : Option Addr} {sl_measure_piece : Array (Option Value)}
    {oc_is_even kV_is_even dc_is_even pm_is_even cd_is_even ct_is_even : Value} {od_is_even an_is_even : Option Addr} {sl_is_even : Array (Option Value)}
    {oc_around_corner kV_around_corner dc_around_corner pm_around_corner cd_around_corner ct_around_corner : Value} {od_around_corner an_around_corner : Option Addr} {sl_around_corner : Array (Option Value)}
    {oc_between_pairs kV_between_pairs dc_between_pairs pm_between_pairs cd_between_pairs ct_between_pairs : Value} {od_between_pairs an_between_pairs : Option Addr} {sl_between_pairs : Array (Option Value)}
    {oc_parting_triangles kV_parting_triangles dc_parting_triangles pm_parting_triangles cd_parting_triangles ct_parting_triangles : Value} {od_parting_triangles an_parting_triangles : Option Addr} {sl_parting_triangles : Array (Option Value)}
    {oc_point_between kV_point_between dc_point_between pm_point_between cd_point_between ct_point_between : Value} {od_point_between an_point_between : Option Addr} {sl_point_between : Array (Option Value)}
    {oc_tetrahedron_triangles kV_tetrahedron_triangles dc_tetrahedron_triangles pm_tetrahedron_triangles cd_tetrahedron_triangles ct_tetrahedron_triangles : Value} {od_tetrahedron_triangles an_tetrahedron_triangles : Option Addr} {sl_tetrahedron_triangles : Array (Option Value)}
    {oc_surface_triangles kV_surface_triangles dc_surface_triangles pm_surface_triangles cd_surface_triangles ct_surface_triangles : Value} {od_surface_triangles an_surface_triangles : Option Addr} {sl_surface_triangles : Array (Option Value)}
    {oc_is_cut kV_is_cut dc_is_cut pm_is_cut cd_is_cut ct_is_cut : Value} {od_is_cut an_is_cut : Option Addr} {sl_is_cut : Array (Option Value)}
    {oc_common_divisor kV_common_divisor dc_common_divisor pm_common_divisor cd_common_divisor ct_common_divisor : Value} {od_common_divisor an_common_divisor : Option Addr} {sl_common_divisor : Array (Option Value)}
    {oc_part_of_way kV_part_of_way dc_part_of_way pm_part_of_way cd_part_of_way ct_part_of_way : Value} {od_part_of_way an_part_of_way : Option Addr} {sl_part_of_way : Array (Option Value)}
    {oc_Body_init kV_Body_init dc_Body_init pm_Body_init cd_Body_init ct_Body_init : Value} {od_Body_init an_Body_init : Option Addr} {sl_Body_init : Array (Option Value)}
    {oc_Body_begin kV_Body_begin dc_Body_begin pm_Body_begin cd_Body_begin ct_Body_begin : Value} {od_Body_begin an_Body_begin : Option Addr} {sl_Body_begin : Array (Option Value)}
    {oc_Body_lay_field kV_Body_lay_field dc_Body_lay_field pm_Body_lay_field cd_Body_lay_field ct_Body_lay_field : Value} {od_Body_lay_field an_Body_lay_field : Option Addr} {sl_Body_lay_field : Array (Option Value)}
    {oc_Body_set_field kV_Body_set_field dc_Body_set_field pm_Body_set_field cd_Body_set_field ct_Body_set_field : Value} {od_Body_set_field an_Body_set_field : Option Addr} {sl_Body_set_field : Array (Option Value)}
    {oc_Body_cut kV_Body_cut dc_Body_cut pm_Body_cut cd_Body_cut ct_Body_cut : Value} {od_Body_cut an_Body_cut : Option Addr} {sl_Body_cut : Array (Option Value)}
    {oc_Body_tell_triangle kV_Body_tell_triangle dc_Body_tell_triangle pm_Body_tell_triangle cd_Body_tell_triangle ct_Body_tell_triangle : Value} {od_Body_tell_triangle an_Body_tell_triangle : Option Addr} {sl_Body_tell_triangle : Array (Option Value)}
    {oc_Body_tell_point kV_Body_tell_point dc_Body_tell_point pm_Body_tell_point cd_Body_tell_point ct_Body_tell_point : Value} {od_Body_tell_point an_Body_tell_point : Option Addr} {sl_Body_tell_point : Array (Option Value)}
    {oc_Body_count_pieces kV_Body_count_pieces dc_Body_count_pieces pm_Body_count_pieces cd_Body_count_pieces ct_Body_count_pieces : Value} {od_Body_count_pieces an_Body_count_pieces : Option Addr} {sl_Body_count_pieces : Array (Option Value)}
    {oc_Body_tell_piece kV_Body_tell_piece dc_Body_tell_piece pm_Body_tell_piece cd_Body_tell_piece ct_Body_tell_piece : Value} {od_Body_tell_piece an_Body_tell_piece : Option Addr} {sl_Body_tell_piece : Array (Option Value)}
    {oc_Body_tell_hangs kV_Body_tell_hangs dc_Body_tell_hangs pm_Body_tell_hangs cd_Body_tell_hangs ct_Body_tell_hangs : Value} {od_Body_tell_hangs an_Body_tell_hangs : Option Addr} {sl_Body_tell_hangs : Array (Option Value)}
    {oc_Reader_init kV_Reader_init dc_Reader_init pm_Reader_init cd_Reader_init ct_Reader_init : Value} {od_Reader_init an_Reader_init : Option Addr} {sl_Reader_init : Array (Option Value)}
    {oc_Reader_has_more kV_Reader_has_more dc_Reader_has_more pm_Reader_has_more cd_Reader_has_more ct_Reader_has_more : Value} {od_Reader_has_more an_Reader_has_more : Option Addr} {sl_Reader_has_more : Array (Option Value)}
    {oc_Reader_take kV_Reader_take dc_Reader_take pm_Reader_take cd_Reader_take ct_Reader_take : Value} {od_Reader_take an_Reader_take : Option Addr} {sl_Reader_take : Array (Option Value)}
    {oc_Reader_take_row kV_Reader_take_row dc_Reader_take_row pm_Reader_take_row cd_Reader_take_row ct_Reader_take_row : Value} {od_Reader_take_row an_Reader_take_row : Option Addr} {sl_Reader_take_row : Array (Option Value)}
    {oc_answer_call kV_answer_call dc_answer_call pm_answer_call cd_answer_call ct_answer_call : Value} {od_answer_call an_answer_call : Option Addr} {sl_answer_call : Array (Option Value)}
    {oc_answers kV_answers dc_answers pm_answers cd_answers ct_answers : Value} {od_answers an_answers : Option Addr} {sl_answers : Array (Option Value)}
    {tk_SMALLEST_SIZE : Tok}
    {tk_LARGEST_SIZE : Tok}
    {tk_LOWEST_WAY : Tok}
    {tk_HIGHEST_WAY : Tok}
    {tk_LOWEST_LEVEL : Tok}
    {tk_HIGHEST_LEVEL : Tok}
    {tk_DONE : Tok}
    {tk_REFUSED : Tok}
    {tk_NO_LEVEL : Tok}
    {tk_BEGIN : Tok}
    {tk_FIELD : Tok}
    {tk_CUT : Tok}
    {tk_TRIANGLE : Tok}
    {tk_POINT : Tok}
    {tk_COUNT : Tok}
    {tk_PIECE : Tok}
    {tk_HANGS : Tok}
    {tk_TETRAHEDRA_0_0_0 : Tok}
    {tk_TETRAHEDRA_0_0_1 : Tok}
    {tk_TETRAHEDRA_0_0_2 : Tok}
    {tk_TETRAHEDRA_0_0_3 : Tok}
    {od_p_TETRAHEDRA_0_0 : Option Addr} {n_p_TETRAHEDRA_0_0 : Nat} {sl_p_TETRAHEDRA_0_0 : Array (Option Value)}
    {od_p_TETRAHEDRA_0 : Option Addr} {n_p_TETRAHEDRA_0 : Nat} {sl_p_TETRAHEDRA_0 : Array (Option Value)}
    {tk_TETRAHEDRA_1_0_0 : Tok}
    {tk_TETRAHEDRA_1_0_1 : Tok}
    {tk_TETRAHEDRA_1_0_2 : Tok}
    {tk_TETRAHEDRA_1_0_3 : Tok}
    {od_p_TETRAHEDRA_1_0 : Option Addr} {n_p_TETRAHEDRA_1_0 : Nat} {sl_p_TETRAHEDRA_1_0 : Array (Option Value)}
    {od_p_TETRAHEDRA_1 : Option Addr} {n_p_TETRAHEDRA_1 : Nat} {sl_p_TETRAHEDRA_1 : Array (Option Value)}
    {tk_TETRAHEDRA_2_0_0 : Tok}
    {tk_TETRAHEDRA_2_0_1 : Tok}
    {tk_TETRAHEDRA_2_0_2 : Tok}
    {tk_TETRAHEDRA_2_0_3 : Tok}
    {od_p_TETRAHEDRA_2_0 : Option Addr} {n_p_TETRAHEDRA_2_0 : Nat} {sl_p_TETRAHEDRA_2_0 : Array (Option Value)}
    {od_p_TETRAHEDRA_2 : Option Addr} {n_p_TETRAHEDRA_2 : Nat} {sl_p_TETRAHEDRA_2 : Array (Option Value)}
    {tk_TETRAHEDRA_3_0_0 : Tok}
    {tk_TETRAHEDRA_3_0_1 : Tok}
    {tk_TETRAHEDRA_3_0_2 : Tok}
    {tk_TETRAHEDRA_3_0_3 : Tok}
    {od_p_TETRAHEDRA_3_0 : Option Addr} {n_p_TETRAHEDRA_3_0 : Nat} {sl_p_TETRAHEDRA_3_0 : Array (Option Value)}
    {od_p_TETRAHEDRA_3 : Option Addr} {n_p_TETRAHEDRA_3 : Nat} {sl_p_TETRAHEDRA_3 : Array (Option Value)}
    {tk_TETRAHEDRA_4_0_0 : Tok}
    {tk_TETRAHEDRA_4_0_1 : Tok}
    {tk_TETRAHEDRA_4_0_2 : Tok}
    {tk_TETRAHEDRA_4_0_3 : Tok}
    {od_p_TETRAHEDRA_4_0 : Option Addr} {n_p_TETRAHEDRA_4_0 : Nat} {sl_p_TETRAHEDRA_4_0 : Array (Option Value)}
    {od_p_TETRAHEDRA_4 : Option Addr} {n_p_TETRAHEDRA_4 : Nat} {sl_p_TETRAHEDRA_4 : Array (Option Value)}
    {tk_TETRAHEDRA_5_0_0 : Tok}
    {tk_TETRAHEDRA_5_0_1 : Tok}
    {tk_TETRAHEDRA_5_0_2 : Tok}
    {tk_TETRAHEDRA_5_0_3 : Tok}
    {od_p_TETRAHEDRA_5_0 : Option Addr} {n_p_TETRAHEDRA_5_0 : Nat} {sl_p_TETRAHEDRA_5_0 : Array (Option Value)}
    {od_p_TETRAHEDRA_5 : Option Addr} {n_p_TETRAHEDRA_5 : Nat} {sl_p_TETRAHEDRA_5 : Array (Option Value)}
    {od_p_TETRAHEDRA : Option Addr} {n_p_TETRAHEDRA : Nat} {sl_p_TETRAHEDRA : Array (Option Value)}
    (aC_Field : PySem.W.nsIn K mainGlobals "Field" = some (some (.ref C_Field)))
    (aC_Body : PySem.W.nsIn K mainGlobals "Body" = some (some (.ref C_Body)))
    (aC_Reader : PySem.W.nsIn K mainGlobals "Reader" = some (some (.ref C_Reader)))
    (aC_UnknownCall : PySem.W.nsIn K mainGlobals "UnknownCall" = some (some (.ref C_UnknownCall)))
    (a_is_size : PySem.W.nsIn K mainGlobals "is_size" = some (some (.ref f_is_size)))
    (l_is_size : K.lookup f_is_size = some ⟨oc_is_size, od_is_size, .func (PySem.W.fnOf "is_size" "is_size" (defArgs s_is_size) (defBody s_is_size) (defScope s_is_size) .none kV_is_size dc_is_size pm_is_size an_is_size cd_is_size ct_is_size), sl_is_size⟩)
    (c_is_size : PySem.W.codeIn K cd_is_size "is_size" = true)
    (k_is_size : PySem.W.keepIn K (.ref f_is_size) = true)
    (a_step : PySem.W.nsIn K mainGlobals "step" = some (some (.ref f_step)))
    (l_step : K.lookup f_step = some ⟨oc_step, od_step, .func (PySem.W.fnOf "step" "step" (defArgs s_step) (defBody s_step) (defScope s_step) .none kV_step dc_step pm_step an_step cd_step ct_step), sl_step⟩)
    (c_step : PySem.W.codeIn K cd_step "step" = true)
    (k_step : PySem.W.keepIn K (.ref f_step) = true)
    (a_Field_init : PySem.W.findIn K (.ref C_Field) "__init__" = some (some (.ref f_Field_init)))
    (i_Field_init : PySem.W.isFn K (.ref f_Field_init) = true)
    (l_Field_init : K.lookup f_Field_init = some ⟨oc_Field_init, od_Field_init, .func (PySem.W.fnOf "__init__" "Field.__init__" (defArgs s_Field_init) (defBody s_Field_init) (defScope s_Field_init) .none kV_Field_init dc_Field_init pm_Field_init an_Field_init cd_Field_init ct_Field_init), sl_Field_init⟩)
    (c_Field_init : PySem.W.codeIn K cd_Field_init "Field.__init__" = true)
    (k_Field_init : PySem.W.keepIn K (.ref f_Field_init) = true)
    (a_Field_value_at : PySem.W.findIn K (.ref C_Field) "value_at" = some (some (.ref f_Field_value_at)))
    (i_Field_value_at : PySem.W.isFn K (.ref f_Field_value_at) = true)
    (l_Field_value_at : K.lookup f_Field_value_at = some ⟨oc_Field_value_at, od_Field_value_at, .func (PySem.W.fnOf "value_at" "Field.value_at" (defArgs s_Field_value_at) (defBody s_Field_value_at) (defScope s_Field_value_at) .none kV_Field_value_at dc_Field_value_at pm_Field_value_at an_Field_value_at cd_Field_value_at ct_Field_value_at), sl_Field_value_at⟩)
    (c_Field_value_at : PySem.W.codeIn K cd_Field_value_at "Field.value_at" = true)
    (k_Field_value_at : PySem.W.keepIn K (.ref f_Field_value_at) = true)
    (a_Field_has_place : PySem.W.findIn K (.ref C_Field) "has_place" = some (some (.ref f_Field_has_place)))
    (i_Field_has_place : PySem.W.isFn K (.ref f_Field_has_place) = true)
    (l_Field_has_place : K.lookup f_Field_has_place = some ⟨oc_Field_has_place, od_Field_has_place, .func (PySem.W.fnOf "has_place" "Field.has_place" (defArgs s_Field_has_place) (defBody s_Field_has_place) (defScope s_Field_has_place) .none kV_Field_has_place dc_Field_has_place pm_Field_has_place an_Field_has_place cd_Field_has_place ct_Field_has_place), sl_Field_has_place⟩)
    (c_Field_has_place : PySem.W.codeIn K cd_Field_has_place "Field.has_place" = true)
    (k_Field_has_place : PySem.W.keepIn K (.ref f_Field_has_place) = true)
    (a_Field_has_way : PySem.W.findIn K (.ref C_Field) "has_way" = some (some (.ref f_Field_has_way)))
    (i_Field_has_way : PySem.W.isFn K (.ref f_Field_has_way) = true)
    (l_Field_has_way : K.lookup f_Field_has_way = some ⟨oc_Field_has_way, od_Field_has_way, .func (PySem.W.fnOf "has_way" "Field.has_way" (defArgs s_Field_has_way) (defBody s_Field_has_way) (defScope s_Field_has_way) .none kV_Field_has_way dc_Field_has_way pm_Field_has_way an_Field_has_way cd_Field_has_way ct_Field_has_way), sl_Field_has_way⟩)
    (c_Field_has_way : PySem.W.codeIn K cd_Field_has_way "Field.has_way" = true)
    (k_Field_has_way : PySem.W.keepIn K (.ref f_Field_has_way) = true)
    (a_Field_cubes : PySem.W.findIn K (.ref C_Field) "cubes" = some (some (.ref f_Field_cubes)))
    (i_Field_cubes : PySem.W.isFn K (.ref f_Field_cubes) = true)
    (l_Field_cubes : K.lookup f_Field_cubes = some ⟨oc_Field_cubes, od_Field_cubes, .func (PySem.W.fnOf "cubes" "Field.cubes" (defArgs s_Field_cubes) (defBody s_Field_cubes) (defScope s_Field_cubes) .none kV_Field_cubes dc_Field_cubes pm_Field_cubes an_Field_cubes cd_Field_cubes ct_Field_cubes), sl_Field_cubes⟩)
    (c_Field_cubes : PySem.W.codeIn K cd_Field_cubes "Field.cubes" = true)
    (k_Field_cubes : PySem.W.keepIn K (.ref f_Field_cubes) = true)
    (a_triangles_by_point : PySem.W.nsIn K mainGlobals "triangles_by_point" = some (some (.ref f_triangles_by_point)))
    (l_triangles_by_point : K.lookup f_triangles_by_point = some ⟨oc_triangles_by_point, od_triangles_by_point, .func (PySem.W.fnOf "triangles_by_point" "triangles_by_point" (defArgs s_triangles_by_point) (defBody s_triangles_by_point) (defScope s_triangles_by_point) .none kV_triangles_by_point dc_triangles_by_point pm_triangles_by_point an_triangles_by_point cd_triangles_by_point ct_triangles_by_point), sl_triangles_by_point⟩)
    (c_triangles_by_point : PySem.W.codeIn K cd_triangles_by_point "triangles_by_point" = true)
    (k_triangles_by_point : PySem.W.keepIn K (.ref f_triangles_by_point) = true)
    (a_hanging_together : PySem.W.nsIn K mainGlobals "hanging_together" = some (some (.ref f_hanging_together)))
    (l_hanging_together : K.lookup f_hanging_together = some ⟨oc_hanging_together, od_hanging_together, .func (PySem.W.fnOf "hanging_together" "hanging_together" (defArgs s_hanging_together) (defBody s_hanging_together) (defScope s_hanging_together) .none kV_hanging_together dc_hanging_together pm_hanging_together an_hanging_together cd_hanging_together ct_hanging_together), sl_hanging_together⟩)
    (c_hanging_together : PySem.W.codeIn K cd_hanging_together "hanging_together" = true)
    (k_hanging_together : PySem.W.keepIn K (.ref f_hanging_together) = true)
    (a_surface_pieces : PySem.W.nsIn K mainGlobals "surface_pieces" = some (some (.ref f_surface_pieces)))
    (l_surface_pieces : K.lookup f_surface_pieces = some ⟨oc_surface_pieces, od_surface_pieces, .func (PySem.W.fnOf "surface_pieces" "surface_pieces" (defArgs s_surface_pieces) (defBody s_surface_pieces) (defScope s_surface_pieces) .none kV_surface_pieces dc_surface_pieces pm_surface_pieces an_surface_pieces cd_surface_pieces ct_surface_pieces), sl_surface_pieces⟩)
    (c_surface_pieces : PySem.W.codeIn K cd_surface_pieces "surface_pieces" = true)
    (k_surface_pieces : PySem.W.keepIn K (.ref f_surface_pieces) = true)
    (a_piece_with : PySem.W.nsIn K mainGlobals "piece_with" = some (some (.ref f_piece_with)))
    (l_piece_with : K.lookup f_piece_with = some ⟨oc_piece_with, od_piece_with, .func (PySem.W.fnOf "piece_with" "piece_with" (defArgs s_piece_with) (defBody s_piece_with) (defScope s_piece_with) .none kV_piece_with dc_piece_with pm_piece_with an_piece_with cd_piece_with ct_piece_with), sl_piece_with⟩)
    (c_piece_with : PySem.W.codeIn K cd_piece_with "piece_with" = true)
    (k_piece_with : PySem.W.keepIn K (.ref f_piece_with) = true)
    (a_sides_of : PySem.W.nsIn K mainGlobals "sides_of" = some (some (.ref f_sides_of)))
    (l_sides_of : K.lookup f_sides_of = some ⟨oc_sides_of, od_sides_of, .func (PySem.W.fnOf "sides_of" "sides_of" (defArgs s_sides_of) (defBody s_sides_of) (defScope s_sides_of) .none kV_sides_of dc_sides_of pm_sides_of an_sides_of cd_sides_of ct_sides_of), sl_sides_of⟩)
    (c_sides_of : PySem.W.codeIn K cd_sides_of "sides_of" = true)
    (k_sides_of : PySem.W.keepIn K (.ref f_sides_of) = true)
    (a_count_points : PySem.W.nsIn K mainGlobals "count_points" = some (some (.ref f_count_points)))
    (l_count_points : K.lookup f_count_points = some ⟨oc_count_points, od_count_points, .func (PySem.W.fnOf "count_points" "count_points" (defArgs s_count_points) (defBody s_count_points) (defScope s_count_points) .none kV_count_points dc_count_points pm_count_points an_count_points cd_count_points ct_count_points), sl_count_points⟩)
    (c_count_points : PySem.W.codeIn K cd_count_points "count_points" = true)
    (k_count_points : PySem.W.keepIn K (.ref f_count_points) = true)
    (a_triangles_by_side : PySem.W.nsIn K mainGlobals "triangles_by_side" = some (some (.ref f_triangles_by_side)))
    (l_triangles_by_side : K.lookup f_triangles_by_side = some ⟨oc_triangles_by_side, od_triangles_by_side, .func (PySem.W.fnOf "triangles_by_side" "triangles_by_side" (defArgs s_triangles_by_side) (defBody s_triangles_by_side) (defScope s_triangles_by_side) .none kV_triangles_by_side dc_triangles_by_side pm_triangles_by_side an_triangles_by_side cd_triangles_by_side ct_triangles_by_side), sl_triangles_by_side⟩)
    (c_triangles_by_side : PySem.W.codeIn K cd_triangles_by_side "triangles_by_side" = true)
    (k_triangles_by_side : PySem.W.keepIn K (.ref f_triangles_by_side) = true)
    (a_measure_piece : PySem.W.nsIn K mainGlobals "measure_piece" = some (some (.ref f_measure_piece)))
    (l_measure_piece : K.lookup f_measure_piece = some ⟨oc_measure_piece, od_measure_piece, .func (PySem.W.fnOf "measure_piece" "measure_piece" (defArgs s_measure_piece) (defBody s_measure_piece) (defScope s_measure_piece) .none kV_measure_piece dc_measure_piece pm_measure_piece an_measure_piece cd_measure_piece ct_measure_piece), sl_measure_piece⟩)
    (c_measure_piece : PySem.W.codeIn K cd_measure_piece "measure_piece" = true)
    (k_measure_piece : PySem.W.keepIn K (.ref f_measure_piece) = true)
    (a_is_even : PySem.W.nsIn K mainGlobals "is_even" = some (some (.ref f_is_even)))
    (l_is_even : K.lookup f_is_even = some ⟨oc_is_even, od_is_even, .func (PySem.W.fnOf "is_even" "is_even" (defArgs s_is_even) (defBody s_is_even) (defScope s_is_even) .none kV_is_even dc_is_even pm_is_even an_is_even cd_is_even ct_is_even), sl_is_even⟩)
    (c_is_even : PySem.W.codeIn K cd_is_even "is_even" = true)
    (k_is_even : PySem.W.keepIn K (.ref f_is_even) = true)
    (a_around_corner : PySem.W.nsIn K mainGlobals "around_corner" = some (some (.ref f_around_corner)))
    (l_around_corner : K.lookup f_around_corner = some ⟨oc_around_corner, od_around_corner, .func (PySem.W.fnOf "around_corner" "around_corner" (defArgs s_around_corner) (defBody s_around_corner) (defScope s_around_corner) .none kV_around_corner dc_around_corner pm_around_corner an_around_corner cd_around_corner ct_around_corner), sl_around_corner⟩)
    (c_around_corner : PySem.W.codeIn K cd_around_corner "around_corner" = true)
    (k_around_corner : PySem.W.keepIn K (.ref f_around_corner) = true)
    (a_between_pairs : PySem.W.nsIn K mainGlobals "between_pairs" = some (some (.ref f_between_pairs)))
    (l_between_pairs : K.lookup f_between_pairs = some ⟨oc_between_pairs, od_between_pairs, .func (PySem.W.fnOf "between_pairs" "between_pairs" (defArgs s_between_pairs) (defBody s_between_pairs) (defScope s_between_pairs) .none kV_between_pairs dc_between_pairs pm_between_pairs an_between_pairs cd_between_pairs ct_between_pairs), sl_between_pairs⟩)
    (c_between_pairs : PySem.W.codeIn K cd_between_pairs "between_pairs" = true)
    (k_between_pairs : PySem.W.keepIn K (.ref f_between_pairs) = true)
    (a_parting_triangles : PySem.W.nsIn K mainGlobals "parting_triangles" = some (some (.ref f_parting_triangles)))
    (l_parting_triangles : K.lookup f_parting_triangles = some ⟨oc_parting_triangles, od_parting_triangles, .func (PySem.W.fnOf "parting_triangles" "parting_triangles" (defArgs s_parting_triangles) (defBody s_parting_triangles) (defScope s_parting_triangles) .none kV_parting_triangles dc_parting_triangles pm_parting_triangles an_parting_triangles cd_parting_triangles ct_parting_triangles), sl_parting_triangles⟩)
    (c_parting_triangles : PySem.W.codeIn K cd_parting_triangles "parting_triangles" = true)
    (k_parting_triangles : PySem.W.keepIn K (.ref f_parting_triangles) = true)
    (a_point_between : PySem.W.nsIn K mainGlobals "point_between" = some (some (.ref f_point_between)))
    (l_point_between : K.lookup f_point_between = some ⟨oc_point_between, od_point_between, .func (PySem.W.fnOf "point_between" "point_between" (defArgs s_point_between) (defBody s_point_between) (defScope s_point_between) .none kV_point_between dc_point_between pm_point_between an_point_between cd_point_between ct_point_between), sl_point_between⟩)
    (c_point_between : PySem.W.codeIn K cd_point_between "point_between" = true)
    (k_point_between : PySem.W.keepIn K (.ref f_point_between) = true)
    (a_tetrahedron_triangles : PySem.W.nsIn K mainGlobals "tetrahedron_triangles" = some (some (.ref f_tetrahedron_triangles)))
    (l_tetrahedron_triangles : K.lookup f_tetrahedron_triangles = some ⟨oc_tetrahedron_triangles, od_tetrahedron_triangles, .func (PySem.W.fnOf "tetrahedron_triangles" "tetrahedron_triangles" (defArgs s_tetrahedron_triangles) (defBody s_tetrahedron_triangles) (defScope s_tetrahedron_triangles) .none kV_tetrahedron_triangles dc_tetrahedron_triangles pm_tetrahedron_triangles an_tetrahedron_triangles cd_tetrahedron_triangles ct_tetrahedron_triangles), sl_tetrahedron_triangles⟩)
    (c_tetrahedron_triangles : PySem.W.codeIn K cd_tetrahedron_triangles "tetrahedron_triangles" = true)
    (k_tetrahedron_triangles : PySem.W.keepIn K (.ref f_tetrahedron_triangles) = true)
    (a_surface_triangles : PySem.W.nsIn K mainGlobals "surface_triangles" = some (some (.ref f_surface_triangles)))
    (l_surface_triangles : K.lookup f_surface_triangles = some ⟨oc_surface_triangles, od_surface_triangles, .func (PySem.W.fnOf "surface_triangles" "surface_triangles" (defArgs s_surface_triangles) (defBody s_surface_triangles) (defScope s_surface_triangles) .none kV_surface_triangles dc_surface_triangles pm_surface_triangles an_surface_triangles cd_surface_triangles ct_surface_triangles), sl_surface_triangles⟩)
    (c_surface_triangles : PySem.W.codeIn K cd_surface_triangles "surface_triangles" = true)
    (k_surface_triangles : PySem.W.keepIn K (.ref f_surface_triangles) = true)
    (a_is_cut : PySem.W.nsIn K mainGlobals "is_cut" = some (some (.ref f_is_cut)))
    (l_is_cut : K.lookup f_is_cut = some ⟨oc_is_cut, od_is_cut, .func (PySem.W.fnOf "is_cut" "is_cut" (defArgs s_is_cut) (defBody s_is_cut) (defScope s_is_cut) .none kV_is_cut dc_is_cut pm_is_cut an_is_cut cd_is_cut ct_is_cut), sl_is_cut⟩)
    (c_is_cut : PySem.W.codeIn K cd_is_cut "is_cut" = true)
    (k_is_cut : PySem.W.keepIn K (.ref f_is_cut) = true)
    (a_common_divisor : PySem.W.nsIn K mainGlobals "common_divisor" = some (some (.ref f_common_divisor)))
    (l_common_divisor : K.lookup f_common_divisor = some ⟨oc_common_divisor, od_common_divisor, .func (PySem.W.fnOf "common_divisor" "common_divisor" (defArgs s_common_divisor) (defBody s_common_divisor) (defScope s_common_divisor) .none kV_common_divisor dc_common_divisor pm_common_divisor an_common_divisor cd_common_divisor ct_common_divisor), sl_common_divisor⟩)
    (c_common_divisor : PySem.W.codeIn K cd_common_divisor "common_divisor" = true)
    (k_common_divisor : PySem.W.keepIn K (.ref f_common_divisor) = true)
    (a_part_of_way : PySem.W.nsIn K mainGlobals "part_of_way" = some (some (.ref f_part_of_way)))
    (l_part_of_way : K.lookup f_part_of_way = some ⟨oc_part_of_way, od_part_of_way, .func (PySem.W.fnOf "part_of_way" "part_of_way" (defArgs s_part_of_way) (defBody s_part_of_way) (defScope s_part_of_way) .none kV_part_of_way dc_part_of_way pm_part_of_way an_part_of_way cd_part_of_way ct_part_of_way), sl_part_of_way⟩)
    (c_part_of_way : PySem.W.codeIn K cd_part_of_way "part_of_way" = true)
    (k_part_of_way : PySem.W.keepIn K (.ref f_part_of_way) = true)
    (a_Body_init : PySem.W.findIn K (.ref C_Body) "__init__" = some (some (.ref f_Body_init)))
    (i_Body_init : PySem.W.isFn K (.ref f_Body_init) = true)
    (l_Body_init : K.lookup f_Body_init = some ⟨oc_Body_init, od_Body_init, .func (PySem.W.fnOf "__init__" "Body.__init__" (defArgs s_Body_init) (defBody s_Body_init) (defScope s_Body_init) .none kV_Body_init dc_Body_init pm_Body_init an_Body_init cd_Body_init ct_Body_init), sl_Body_init⟩)
    (c_Body_init : PySem.W.codeIn K cd_Body_init "Body.__init__" = true)
    (k_Body_init : PySem.W.keepIn K (.ref f_Body_init) = true)
    (a_Body_begin : PySem.W.findIn K (.ref C_Body) "begin" = some (some (.ref f_Body_begin)))
    (i_Body_begin : PySem.W.isFn K (.ref f_Body_begin) = true)
    (l_Body_begin : K.lookup f_Body_begin = some ⟨oc_Body_begin, od_Body_begin, .func (PySem.W.fnOf "begin" "Body.begin" (defArgs s_Body_begin) (defBody s_Body_begin) (defScope s_Body_begin) .none kV_Body_begin dc_Body_begin pm_Body_begin an_Body_begin cd_Body_begin ct_Body_begin), sl_Body_begin⟩)
    (c_Body_begin : PySem.W.codeIn K cd_Body_begin "Body.begin" = true)
    (k_Body_begin : PySem.W.keepIn K (.ref f_Body_begin) = true)
    (a_Body_lay_field : PySem.W.findIn K (.ref C_Body) "lay_field" = some (some (.ref f_Body_lay_field)))
    (i_Body_lay_field : PySem.W.isFn K (.ref f_Body_lay_field) = true)
    (l_Body_lay_field : K.lookup f_Body_lay_field = some ⟨oc_Body_lay_field, od_Body_lay_field, .func (PySem.W.fnOf "lay_field" "Body.lay_field" (defArgs s_Body_lay_field) (defBody s_Body_lay_field) (defScope s_Body_lay_field) .none kV_Body_lay_field dc_Body_lay_field pm_Body_lay_field an_Body_lay_field cd_Body_lay_field ct_Body_lay_field), sl_Body_lay_field⟩)
    (c_Body_lay_field : PySem.W.codeIn K cd_Body_lay_field "Body.lay_field" = true)
    (k_Body_lay_field : PySem.W.keepIn K (.ref f_Body_lay_field) = true)
    (a_Body_set_field : PySem.W.findIn K (.ref C_Body) "set_field" = some (some (.ref f_Body_set_field)))
    (i_Body_set_field : PySem.W.isFn K (.ref f_Body_set_field) = true)
    (l_Body_set_field : K.lookup f_Body_set_field = some ⟨oc_Body_set_field, od_Body_set_field, .func (PySem.W.fnOf "set_field" "Body.set_field" (defArgs s_Body_set_field) (defBody s_Body_set_field) (defScope s_Body_set_field) .none kV_Body_set_field dc_Body_set_field pm_Body_set_field an_Body_set_field cd_Body_set_field ct_Body_set_field), sl_Body_set_field⟩)
    (c_Body_set_field : PySem.W.codeIn K cd_Body_set_field "Body.set_field" = true)
    (k_Body_set_field : PySem.W.keepIn K (.ref f_Body_set_field) = true)
    (a_Body_cut : PySem.W.findIn K (.ref C_Body) "cut" = some (some (.ref f_Body_cut)))
    (i_Body_cut : PySem.W.isFn K (.ref f_Body_cut) = true)
    (l_Body_cut : K.lookup f_Body_cut = some ⟨oc_Body_cut, od_Body_cut, .func (PySem.W.fnOf "cut" "Body.cut" (defArgs s_Body_cut) (defBody s_Body_cut) (defScope s_Body_cut) .none kV_Body_cut dc_Body_cut pm_Body_cut an_Body_cut cd_Body_cut ct_Body_cut), sl_Body_cut⟩)
    (c_Body_cut : PySem.W.codeIn K cd_Body_cut "Body.cut" = true)
    (k_Body_cut : PySem.W.keepIn K (.ref f_Body_cut) = true)
    (a_Body_tell_triangle : PySem.W.findIn K (.ref C_Body) "tell_triangle" = some (some (.ref f_Body_tell_triangle)))
    (i_Body_tell_triangle : PySem.W.isFn K (.ref f_Body_tell_triangle) = true)
    (l_Body_tell_triangle : K.lookup f_Body_tell_triangle = some ⟨oc_Body_tell_triangle, od_Body_tell_triangle, .func (PySem.W.fnOf "tell_triangle" "Body.tell_triangle" (defArgs s_Body_tell_triangle) (defBody s_Body_tell_triangle) (defScope s_Body_tell_triangle) .none kV_Body_tell_triangle dc_Body_tell_triangle pm_Body_tell_triangle an_Body_tell_triangle cd_Body_tell_triangle ct_Body_tell_triangle), sl_Body_tell_triangle⟩)
    (c_Body_tell_triangle : PySem.W.codeIn K cd_Body_tell_triangle "Body.tell_triangle" = true)
    (k_Body_tell_triangle : PySem.W.keepIn K (.ref f_Body_tell_triangle) = true)
    (a_Body_tell_point : PySem.W.findIn K (.ref C_Body) "tell_point" = some (some (.ref f_Body_tell_point)))
    (i_Body_tell_point : PySem.W.isFn K (.ref f_Body_tell_point) = true)
    (l_Body_tell_point : K.lookup f_Body_tell_point = some ⟨oc_Body_tell_point, od_Body_tell_point, .func (PySem.W.fnOf "tell_point" "Body.tell_point" (defArgs s_Body_tell_point) (defBody s_Body_tell_point) (defScope s_Body_tell_point) .none kV_Body_tell_point dc_Body_tell_point pm_Body_tell_point an_Body_tell_point cd_Body_tell_point ct_Body_tell_point), sl_Body_tell_point⟩)
    (c_Body_tell_point : PySem.W.codeIn K cd_Body_tell_point "Body.tell_point" = true)
    (k_Body_tell_point : PySem.W.keepIn K (.ref f_Body_tell_point) = true)
    (a_Body_count_pieces : PySem.W.findIn K (.ref C_Body) "count_pieces" = some (some (.ref f_Body_count_pieces)))
    (i_Body_count_pieces : PySem.W.isFn K (.ref f_Body_count_pieces) = true)
    (l_Body_count_pieces : K.lookup f_Body_count_pieces = some ⟨oc_Body_count_pieces, od_Body_count_pieces, .func (PySem.W.fnOf "count_pieces" "Body.count_pieces" (defArgs s_Body_count_pieces) (defBody s_Body_count_pieces) (defScope s_Body_count_pieces) .none kV_Body_count_pieces dc_Body_count_pieces pm_Body_count_pieces an_Body_count_pieces cd_Body_count_pieces ct_Body_count_pieces), sl_Body_count_pieces⟩)
    (c_Body_count_pieces : PySem.W.codeIn K cd_Body_count_pieces "Body.count_pieces" = true)
    (k_Body_count_pieces : PySem.W.keepIn K (.ref f_Body_count_pieces) = true)
    (a_Body_tell_piece : PySem.W.findIn K (.ref C_Body) "tell_piece" = some (some (.ref f_Body_tell_piece)))
    (i_Body_tell_piece : PySem.W.isFn K (.ref f_Body_tell_piece) = true)
    (l_Body_tell_piece : K.lookup f_Body_tell_piece = some ⟨oc_Body_tell_piece, od_Body_tell_piece, .func (PySem.W.fnOf "tell_piece" "Body.tell_piece" (defArgs s_Body_tell_piece) (defBody s_Body_tell_piece) (defScope s_Body_tell_piece) .none kV_Body_tell_piece dc_Body_tell_piece pm_Body_tell_piece an_Body_tell_piece cd_Body_tell_piece ct_Body_tell_piece), sl_Body_tell_piece⟩)
    (c_Body_tell_piece : PySem.W.codeIn K cd_Body_tell_piece "Body.tell_piece" = true)
    (k_Body_tell_piece : PySem.W.keepIn K (.ref f_Body_tell_piece) = true)
    (a_Body_tell_hangs : PySem.W.findIn K (.ref C_Body) "tell_hangs" = some (some (.ref f_Body_tell_hangs)))
    (i_Body_tell_hangs : PySem.W.isFn K (.ref f_Body_tell_hangs) = true)
    (l_Body_tell_hangs : K.lookup f_Body_tell_hangs = some ⟨oc_Body_tell_hangs, od_Body_tell_hangs, .func (PySem.W.fnOf "tell_hangs" "Body.tell_hangs" (defArgs s_Body_tell_hangs) (defBody s_Body_tell_hangs) (defScope s_Body_tell_hangs) .none kV_Body_tell_hangs dc_Body_tell_hangs pm_Body_tell_hangs an_Body_tell_hangs cd_Body_tell_hangs ct_Body_tell_hangs), sl_Body_tell_hangs⟩)
    (c_Body_tell_hangs : PySem.W.codeIn K cd_Body_tell_hangs "Body.tell_hangs" = true)
    (k_Body_tell_hangs : PySem.W.keepIn K (.ref f_Body_tell_hangs) = true)
    (a_Reader_init : PySem.W.findIn K (.ref C_Reader) "__init__" = some (some (.ref f_Reader_init)))
    (i_Reader_init : PySem.W.isFn K (.ref f_Reader_init) = true)
    (l_Reader_init : K.lookup f_Reader_init = some ⟨oc_Reader_init, od_Reader_init, .func (PySem.W.fnOf "__init__" "Reader.__init__" (defArgs s_Reader_init) (defBody s_Reader_init) (defScope s_Reader_init) .none kV_Reader_init dc_Reader_init pm_Reader_init an_Reader_init cd_Reader_init ct_Reader_init), sl_Reader_init⟩)
    (c_Reader_init : PySem.W.codeIn K cd_Reader_init "Reader.__init__" = true)
    (k_Reader_init : PySem.W.keepIn K (.ref f_Reader_init) = true)
    (a_Reader_has_more : PySem.W.findIn K (.ref C_Reader) "has_more" = some (some (.ref f_Reader_has_more)))
    (i_Reader_has_more : PySem.W.isFn K (.ref f_Reader_has_more) = true)
    (l_Reader_has_more : K.lookup f_Reader_has_more = some ⟨oc_Reader_has_more, od_Reader_has_more, .func (PySem.W.fnOf "has_more" "Reader.has_more" (defArgs s_Reader_has_more) (defBody s_Reader_has_more) (defScope s_Reader_has_more) .none kV_Reader_has_more dc_Reader_has_more pm_Reader_has_more an_Reader_has_more cd_Reader_has_more ct_Reader_has_more), sl_Reader_has_more⟩)
    (c_Reader_has_more : PySem.W.codeIn K cd_Reader_has_more "Reader.has_more" = true)
    (k_Reader_has_more : PySem.W.keepIn K (.ref f_Reader_has_more) = true)
    (a_Reader_take : PySem.W.findIn K (.ref C_Reader) "take" = some (some (.ref f_Reader_take)))
    (i_Reader_take : PySem.W.isFn K (.ref f_Reader_take) = true)
    (l_Reader_take : K.lookup f_Reader_take = some ⟨oc_Reader_take, od_Reader_take, .func (PySem.W.fnOf "take" "Reader.take" (defArgs s_Reader_take) (defBody s_Reader_take) (defScope s_Reader_take) .none kV_Reader_take dc_Reader_take pm_Reader_take an_Reader_take cd_Reader_take ct_Reader_take), sl_Reader_take⟩)
    (c_Reader_take : PySem.W.codeIn K cd_Reader_take "Reader.take" = true)
    (k_Reader_take : PySem.W.keepIn K (.ref f_Reader_take) = true)
    (a_Reader_take_row : PySem.W.findIn K (.ref C_Reader) "take_row" = some (some (.ref f_Reader_take_row)))
    (i_Reader_take_row : PySem.W.isFn K (.ref f_Reader_take_row) = true)
    (l_Reader_take_row : K.lookup f_Reader_take_row = some ⟨oc_Reader_take_row, od_Reader_take_row, .func (PySem.W.fnOf "take_row" "Reader.take_row" (defArgs s_Reader_take_row) (defBody s_Reader_take_row) (defScope s_Reader_take_row) .none kV_Reader_take_row dc_Reader_take_row pm_Reader_take_row an_Reader_take_row cd_Reader_take_row ct_Reader_take_row), sl_Reader_take_row⟩)
    (c_Reader_take_row : PySem.W.codeIn K cd_Reader_take_row "Reader.take_row" = true)
    (k_Reader_take_row : PySem.W.keepIn K (.ref f_Reader_take_row) = true)
    (a_answer_call : PySem.W.nsIn K mainGlobals "answer_call" = some (some (.ref f_answer_call)))
    (l_answer_call : K.lookup f_answer_call = some ⟨oc_answer_call, od_answer_call, .func (PySem.W.fnOf "answer_call" "answer_call" (defArgs s_answer_call) (defBody s_answer_call) (defScope s_answer_call) .none kV_answer_call dc_answer_call pm_answer_call an_answer_call cd_answer_call ct_answer_call), sl_answer_call⟩)
    (c_answer_call : PySem.W.codeIn K cd_answer_call "answer_call" = true)
    (k_answer_call : PySem.W.keepIn K (.ref f_answer_call) = true)
    (a_answers : PySem.W.nsIn K mainGlobals "answers" = some (some (.ref f_answers)))
    (l_answers : K.lookup f_answers = some ⟨oc_answers, od_answers, .func (PySem.W.fnOf "answers" "answers" (defArgs s_answers) (defBody s_answers) (defScope s_answers) .none kV_answers dc_answers pm_answers an_answers cd_answers ct_answers), sl_answers⟩)
    (c_answers : PySem.W.codeIn K cd_answers "answers" = true)
    (k_answers : PySem.W.keepIn K (.ref f_answers) = true)
    (pg_Field : PySem.W.plainGet K C_Field Str.empty = true)
    (hd_Field : PySem.W.hasDictIn K C_Field = true)
    (po_Field : PySem.W.plainOver K C_Field = true)
    (sa_Field : PySem.W.findIn K (.ref C_Field) "__setattr__" = some (some (.builtin "object.__setattr__")))
    (mk_Field : PySem.W.makesIn K C_Field = true)
    (kc_Field : PySem.W.keepIn K (.ref C_Field) = true)
    (n_Field_nx : PySem.W.findIn K (.ref C_Field) "nx" = some none)
    (n_Field_ny : PySem.W.findIn K (.ref C_Field) "ny" = some none)
    (n_Field_nz : PySem.W.findIn K (.ref C_Field) "nz" = some none)
    (n_Field_numbers : PySem.W.findIn K (.ref C_Field) "numbers" = some none)
    (pg_Body : PySem.W.plainGet K C_Body Str.empty = true)
    (hd_Body : PySem.W.hasDictIn K C_Body = true)
    (po_Body : PySem.W.plainOver K C_Body = true)
    (sa_Body : PySem.W.findIn K (.ref C_Body) "__setattr__" = some (some (.builtin "object.__setattr__")))
    (mk_Body : PySem.W.makesIn K C_Body = true)
    (kc_Body : PySem.W.keepIn K (.ref C_Body) = true)
    (n_Body_field : PySem.W.findIn K (.ref C_Body) "field" = some none)
    (n_Body_level : PySem.W.findIn K (.ref C_Body) "level" = some none)
    (n_Body_triangles : PySem.W.findIn K (.ref C_Body) "triangles" = some none)
    (n_Body_pieces : PySem.W.findIn K (.ref C_Body) "pieces" = some none)
    (pg_Reader : PySem.W.plainGet K C_Reader Str.empty = true)
    (hd_Reader : PySem.W.hasDictIn K C_Reader = true)
    (po_Reader : PySem.W.plainOver K C_Reader = true)
    (sa_Reader : PySem.W.findIn K (.ref C_Reader) "__setattr__" = some (some (.builtin "object.__setattr__")))
    (mk_Reader : PySem.W.makesIn K C_Reader = true)
    (kc_Reader : PySem.W.keepIn K (.ref C_Reader) = true)
    (n_Reader_numbers : PySem.W.findIn K (.ref C_Reader) "numbers" = some none)
    (n_Reader_position : PySem.W.findIn K (.ref C_Reader) "position" = some none)
    (v_SMALLEST_SIZE : PySem.W.nsIn K mainGlobals "SMALLEST_SIZE" = some (some (.int (2) tk_SMALLEST_SIZE)))
    (v_LARGEST_SIZE : PySem.W.nsIn K mainGlobals "LARGEST_SIZE" = some (some (.int (32) tk_LARGEST_SIZE)))
    (v_LOWEST_WAY : PySem.W.nsIn K mainGlobals "LOWEST_WAY" = some (some (.int (1) tk_LOWEST_WAY)))
    (v_HIGHEST_WAY : PySem.W.nsIn K mainGlobals "HIGHEST_WAY" = some (some (.int (7) tk_HIGHEST_WAY)))
    (v_LOWEST_LEVEL : PySem.W.nsIn K mainGlobals "LOWEST_LEVEL" = some (some (.int (-32767) tk_LOWEST_LEVEL)))
    (v_HIGHEST_LEVEL : PySem.W.nsIn K mainGlobals "HIGHEST_LEVEL" = some (some (.int (32768) tk_HIGHEST_LEVEL)))
    (v_DONE : PySem.W.nsIn K mainGlobals "DONE" = some (some (.int (0) tk_DONE)))
    (v_REFUSED : PySem.W.nsIn K mainGlobals "REFUSED" = some (some (.int (-1) tk_REFUSED)))
    (v_NO_LEVEL : PySem.W.nsIn K mainGlobals "NO_LEVEL" = some (some (.int (-4) tk_NO_LEVEL)))
    (v_BEGIN : PySem.W.nsIn K mainGlobals "BEGIN" = some (some (.int (0) tk_BEGIN)))
    (v_FIELD : PySem.W.nsIn K mainGlobals "FIELD" = some (some (.int (1) tk_FIELD)))
    (v_CUT : PySem.W.nsIn K mainGlobals "CUT" = some (some (.int (2) tk_CUT)))
    (v_TRIANGLE : PySem.W.nsIn K mainGlobals "TRIANGLE" = some (some (.int (3) tk_TRIANGLE)))
    (v_POINT : PySem.W.nsIn K mainGlobals "POINT" = some (some (.int (4) tk_POINT)))
    (v_COUNT : PySem.W.nsIn K mainGlobals "COUNT" = some (some (.int (5) tk_COUNT)))
    (v_PIECE : PySem.W.nsIn K mainGlobals "PIECE" = some (some (.int (6) tk_PIECE)))
    (v_HANGS : PySem.W.nsIn K mainGlobals "HANGS" = some (some (.int (7) tk_HANGS)))
    (z_len : PySem.W.nsIn K mainGlobals "len" = some none)
    (z_range : PySem.W.nsIn K mainGlobals "range" = some none)
    (z_min : PySem.W.nsIn K mainGlobals "min" = some none)
    (z_max : PySem.W.nsIn K mainGlobals "max" = some none)
    (z_abs : PySem.W.nsIn K mainGlobals "abs" = some none)
    (z_sorted : PySem.W.nsIn K mainGlobals "sorted" = some none)
    (z_list : PySem.W.nsIn K mainGlobals "list" = some none)
    (z_tuple : PySem.W.nsIn K mainGlobals "tuple" = some none)
    (g_TETRAHEDRA : PySem.W.nsIn K mainGlobals "TETRAHEDRA" = some (some (.ref p_TETRAHEDRA)))
    (l_p_TETRAHEDRA : K.lookup p_TETRAHEDRA = some ⟨.type "tuple", od_p_TETRAHEDRA, .seq #[.ref p_TETRAHEDRA_0, .ref p_TETRAHEDRA_1, .ref p_TETRAHEDRA_2, .ref p_TETRAHEDRA_3, .ref p_TETRAHEDRA_4, .ref p_TETRAHEDRA_5] n_p_TETRAHEDRA, sl_p_TETRAHEDRA⟩)
    (l_p_TETRAHEDRA_0 : K.lookup p_TETRAHEDRA_0 = some ⟨.type "tuple", od_p_TETRAHEDRA_0, .seq #[.ref p_TETRAHEDRA_0_0, .bool true] n_p_TETRAHEDRA_0, sl_p_TETRAHEDRA_0⟩)
    (l_p_TETRAHEDRA_1 : K.lookup p_TETRAHEDRA_1 = some ⟨.type "tuple", od_p_TETRAHEDRA_1, .seq #[.ref p_TETRAHEDRA_1_0, .bool false] n_p_TETRAHEDRA_1, sl_p_TETRAHEDRA_1⟩)
    (l_p_TETRAHEDRA_2 : K.lookup p_TETRAHEDRA_2 = some ⟨.type "tuple", od_p_TETRAHEDRA_2, .seq #[.ref p_TETRAHEDRA_2_0, .bool false] n_p_TETRAHEDRA_2, sl_p_TETRAHEDRA_2⟩)
    (l_p_TETRAHEDRA_3 : K.lookup p_TETRAHEDRA_3 = some ⟨.type "tuple", od_p_TETRAHEDRA_3, .seq #[.ref p_TETRAHEDRA_3_0, .bool true] n_p_TETRAHEDRA_3, sl_p_TETRAHEDRA_3⟩)
    (l_p_TETRAHEDRA_4 : K.lookup p_TETRAHEDRA_4 = some ⟨.type "tuple", od_p_TETRAHEDRA_4, .seq #[.ref p_TETRAHEDRA_4_0, .bool true] n_p_TETRAHEDRA_4, sl_p_TETRAHEDRA_4⟩)
    (l_p_TETRAHEDRA_5 : K.lookup p_TETRAHEDRA_5 = some ⟨.type "tuple", od_p_TETRAHEDRA_5, .seq #[.ref p_TETRAHEDRA_5_0, .bool false] n_p_TETRAHEDRA_5, sl_p_TETRAHEDRA_5⟩)
    (l_p_TETRAHEDRA_0_0 : K.lookup p_TETRAHEDRA_0_0 = some ⟨.type "tuple", od_p_TETRAHEDRA_0_0, .seq #[.int (0) tk_TETRAHEDRA_0_0_0, .int (1) tk_TETRAHEDRA_0_0_1, .int (3) tk_TETRAHEDRA_0_0_2, .int (7) tk_TETRAHEDRA_0_0_3] n_p_TETRAHEDRA_0_0, sl_p_TETRAHEDRA_0_0⟩)
    (l_p_TETRAHEDRA_1_0 : K.lookup p_TETRAHEDRA_1_0 = some ⟨.type "tuple", od_p_TETRAHEDRA_1_0, .seq #[.int (0) tk_TETRAHEDRA_1_0_0, .int (1) tk_TETRAHEDRA_1_0_1, .int (5) tk_TETRAHEDRA_1_0_2, .int (7) tk_TETRAHEDRA_1_0_3] n_p_TETRAHEDRA_1_0, sl_p_TETRAHEDRA_1_0⟩)
    (l_p_TETRAHEDRA_2_0 : K.lookup p_TETRAHEDRA_2_0 = some ⟨.type "tuple", od_p_TETRAHEDRA_2_0, .seq #[.int (0) tk_TETRAHEDRA_2_0_0, .int (2) tk_TETRAHEDRA_2_0_1, .int (3) tk_TETRAHEDRA_2_0_2, .int (7) tk_TETRAHEDRA_2_0_3] n_p_TETRAHEDRA_2_0, sl_p_TETRAHEDRA_2_0⟩)
    (l_p_TETRAHEDRA_3_0 : K.lookup p_TETRAHEDRA_3_0 = some ⟨.type "tuple", od_p_TETRAHEDRA_3_0, .seq #[.int (0) tk_TETRAHEDRA_3_0_0, .int (2) tk_TETRAHEDRA_3_0_1, .int (6) tk_TETRAHEDRA_3_0_2, .int (7) tk_TETRAHEDRA_3_0_3] n_p_TETRAHEDRA_3_0, sl_p_TETRAHEDRA_3_0⟩)
    (l_p_TETRAHEDRA_4_0 : K.lookup p_TETRAHEDRA_4_0 = some ⟨.type "tuple", od_p_TETRAHEDRA_4_0, .seq #[.int (0) tk_TETRAHEDRA_4_0_0, .int (4) tk_TETRAHEDRA_4_0_1, .int (5) tk_TETRAHEDRA_4_0_2, .int (7) tk_TETRAHEDRA_4_0_3] n_p_TETRAHEDRA_4_0, sl_p_TETRAHEDRA_4_0⟩)
    (l_p_TETRAHEDRA_5_0 : K.lookup p_TETRAHEDRA_5_0 = some ⟨.type "tuple", od_p_TETRAHEDRA_5_0, .seq #[.int (0) tk_TETRAHEDRA_5_0_0, .int (4) tk_TETRAHEDRA_5_0_1, .int (6) tk_TETRAHEDRA_5_0_2, .int (7) tk_TETRAHEDRA_5_0_3] n_p_TETRAHEDRA_5_0, sl_p_TETRAHEDRA_5_0⟩)
    : ∃ fd : FuncData, (∀ (s : Shared) (us : List Value), us.length = (["calls"] : List Str).length → BindsTo s fd ⟨us, []⟩ ((["calls"] : List Str).zip us)) ∧ ∀ base : Heap, K.In base → base.Ns mainGlobals mg → FnOk P w K mg base CX0 8 fa fd ["calls"] (sp_answers K) := by
  have e := hfa.symm.trans (PySem.W.mg_of X G a_answers)
  cases e
  have F_is_size := fun_mk (st := s_is_size) l_is_size c_is_size k_is_size
  have b_is_size := F_is_size.binds (ps := ["size"]) fun _ _ _ _ _ _ us hl => match us, hl with | [_], _ => rfl
  have F_step := fun_mk (st := s_step) l_step c_step k_step
  have b_step := F_step.binds (ps := ["place", "direction"]) fun _ _ _ _ _ _ us hl => match us, hl with | [_, _], _ => rfl
  have F_Field_init := fun_mk (st := s_Field_init) l_Field_init c_Field_init k_Field_init
  have b_Field_init := F_Field_init.binds (ps := ["self", "nx", "ny", "nz", "numbers"]) fun _ _ _ _ _ _ us hl => match us, hl with | [_, _, _, _, _], _ => rfl
  have F_Field_value_at := fun_mk (st := s_Field_value_at) l_Field_value_at c_Field_value_at k_Field_value_at
  have b_Field_value_at := F_Field_value_at.binds (ps := ["self", "place"]) fun _ _ _ _ _ _ us hl => match us, hl with | [_, _], _ => rfl
  have F_Field_has_place := fun_mk (st := s_Field_has_place) l_Field_has_place c_Field_has_place k_Field_has_place
  have b_Field_has_place := F_Field_has_place.binds (ps := ["self", "place"]) fun _ _ _ _ _ _ us hl => match us, hl with | [_, _], _ => rfl
  have F_Field_has_way := fun_mk (st := s_Field_has_way) l_Field_has_way c_Field_has_way k_Field_has_way
  have b_Field_has_way := F_Field_has_way.binds (ps := ["self", "start", "direction"]) fun _ _ _ _ _ _ us hl => match us, hl with | [_, _, _], _ => rfl
  have F_Field_cubes := fun_mk (st := s_Field_cubes) l_Field_cubes c_Field_cubes k_Field_cubes
  have b_Field_cubes := F_Field_cubes.binds (ps := ["self"]) fun _ _ _ _ _ _ us hl => match us, hl with | [_], _ => rfl
  have F_triangles_by_point := fun_mk (st := s_triangles_by_point) l_triangles_by_point c_triangles_by_point k_triangles_by_point
  have b_triangles_by_point := F_triangles_by_point.binds (ps := ["triangles"]) fun _ _ _ _ _ _ us hl => match us, hl with | [_], _ => rfl
  have F_hanging_together := fun_mk (st := s_hanging_together) l_hanging_together c_hanging_together k_hanging_together
  have b_hanging_together := F_hanging_together.binds (ps := ["first", "triangles", "holders"]) fun _ _ _ _ _ _ us hl => match us, hl with | [_, _, _], _ => rfl
  have F_surface_pieces := fun_mk (st := s_surface_pieces) l_surface_pieces c_surface_pieces k_surface_pieces
  have b_surface_pieces := F_surface_pieces.binds (ps := ["triangles"]) fun _ _ _ _ _ _ us hl => match us, hl with | [_], _ => rfl
  have F_piece_with := fun_mk (st := s_piece_with) l_piece_with c_piece_with k_piece_with
  have b_piece_with := F_piece_with.binds (ps := ["pieces", "k"]) fun _ _ _ _ _ _ us hl => match us, hl with | [_, _], _ => rfl
  have F_sides_of := fun_mk (st := s_sides_of) l_sides_of c_sides_of k_sides_of
  have b_sides_of := F_sides_of.binds (ps := ["triangle"]) fun _ _ _ _ _ _ us hl => match us, hl with | [_], _ => rfl
  have F_count_points := fun_mk (st := s_count_points) l_count_points c_count_points k_count_points
  have b_count_points := F_count_points.binds (ps := ["piece", "triangles"]) fun _ _ _ _ _ _ us hl => match us, hl with | [_, _], _ => rfl
  have F_triangles_by_side := fun_mk (st := s_triangles_by_side) l_triangles_by_side c_triangles_by_side k_triangles_by_side
  have b_triangles_by_side := F_triangles_by_side.binds (ps := ["piece", "triangles"]) fun _ _ _ _ _ _ us hl => match us, hl with | [_, _], _ => rfl
  have F_measure_piece := fun_mk (st := s_measure_piece) l_measure_piece c_measure_piece k_measure_piece
  have b_measure_piece := F_measure_piece.binds (ps := ["piece", "triangles"]) fun _ _ _ _ _ _ us hl => match us, hl with | [_, _], _ => rfl
  have F_is_even := fun_mk (st := s_is_even) l_is_even c_is_even k_is_even
  have b_is_even := F_is_even.binds (ps := ["order"]) fun _ _ _ _ _ _ us hl => match us, hl with | [_], _ => rfl
  have F_around_corner := fun_mk (st := s_around_corner) l_around_corner c_around_corner k_around_corner
  have b_around_corner := F_around_corner.binds (ps := ["alone", "others", "turned"]) fun _ _ _ _ _ _ us hl => match us, hl with | [_, _, _], _ => rfl
  have F_between_pairs := fun_mk (st := s_between_pairs) l_between_pairs c_between_pairs k_between_pairs
  have b_between_pairs := F_between_pairs.binds (ps := ["inside", "outside", "turned"]) fun _ _ _ _ _ _ us hl => match us, hl with | [_, _, _], _ => rfl
  have F_parting_triangles := fun_mk (st := s_parting_triangles) l_parting_triangles c_parting_triangles k_parting_triangles
  have b_parting_triangles := F_parting_triangles.binds (ps := ["inside", "outside", "turned"]) fun _ _ _ _ _ _ us hl => match us, hl with | [_, _, _], _ => rfl
  have F_point_between := fun_mk (st := s_point_between) l_point_between c_point_between k_point_between
  have b_point_between := F_point_between.binds (ps := ["cube", "corners", "pair"]) fun _ _ _ _ _ _ us hl => match us, hl with | [_, _, _], _ => rfl
  have F_tetrahedron_triangles := fun_mk (st := s_tetrahedron_triangles) l_tetrahedron_triangles c_tetrahedron_triangles k_tetrahedron_triangles
  have b_tetrahedron_triangles := F_tetrahedron_triangles.binds (ps := ["field", "level", "cube", "tetrahedron"]) fun _ _ _ _ _ _ us hl => match us, hl with | [_, _, _, _], _ => rfl
  have F_surface_triangles := fun_mk (st := s_surface_triangles) l_surface_triangles c_surface_triangles k_surface_triangles
  have b_surface_triangles := F_surface_triangles.binds (ps := ["field", "level"]) fun _ _ _ _ _ _ us hl => match us, hl with | [_, _], _ => rfl
  have F_is_cut := fun_mk (st := s_is_cut) l_is_cut c_is_cut k_is_cut
  have b_is_cut := F_is_cut.binds (ps := ["first", "second", "level"]) fun _ _ _ _ _ _ us hl => match us, hl with | [_, _, _], _ => rfl
  have F_common_divisor := fun_mk (st := s_common_divisor) l_common_divisor c_common_divisor k_common_divisor
  have b_common_divisor := F_common_divisor.binds (ps := ["larger", "smaller"]) fun _ _ _ _ _ _ us hl => match us, hl with | [_, _], _ => rfl
  have F_part_of_way := fun_mk (st := s_part_of_way) l_part_of_way c_part_of_way k_part_of_way
  have b_part_of_way := F_part_of_way.binds (ps := ["first", "second", "level"]) fun _ _ _ _ _ _ us hl => match us, hl with | [_, _, _], _ => rfl
  have F_Body_init := fun_mk (st := s_Body_init) l_Body_init c_Body_init k_Body_init
  have b_Body_init := F_Body_init.binds (ps := ["self"]) fun _ _ _ _ _ _ us hl => match us, hl with | [_], _ => rfl
  have F_Body_begin := fun_mk (st := s_Body_begin) l_Body_begin c_Body_begin k_Body_begin
  have b_Body_begin := F_Body_begin.binds (ps := ["self"]) fun _ _ _ _ _ _ us hl => match us, hl with | [_], _ => rfl
  have F_Body_lay_field := fun_mk (st := s_Body_lay_field) l_Body_lay_field c_Body_lay_field k_Body_lay_field
  have b_Body_lay_field := F_Body_lay_field.binds (ps := ["self", "nx", "ny", "nz", "numbers"]) fun _ _ _ _ _ _ us hl => match us, hl with | [_, _, _, _, _], _ => rfl
  have F_Body_set_field := fun_mk (st := s_Body_set_field) l_Body_set_field c_Body_set_field k_Body_set_field
  have b_Body_set_field := F_Body_set_field.binds (ps := ["self", "field"]) fun _ _ _ _ _ _ us hl => match us, hl with | [_, _], _ => rfl
  have F_Body_cut := fun_mk (st := s_Body_cut) l_Body_cut c_Body_cut k_Body_cut
  have b_Body_cut := F_Body_cut.binds (ps := ["self", "level"]) fun _ _ _ _ _ _ us hl => match us, hl with | [_, _], _ => rfl
  have F_Body_tell_triangle := fun_mk (st := s_Body_tell_triangle) l_Body_tell_triangle c_Body_tell_triangle k_Body_tell_triangle
  have b_Body_tell_triangle := F_Body_tell_triangle.binds (ps := ["self", "k"]) fun _ _ _ _ _ _ us hl => match us, hl with | [_, _], _ => rfl
  have F_Body_tell_point := fun_mk (st := s_Body_tell_point) l_Body_tell_point c_Body_tell_point k_Body_tell_point
  have b_Body_tell_point := F_Body_tell_point.binds (ps := ["self", "x", "y", "z", "direction"]) fun _ _ _ _ _ _ us hl => match us, hl with | [_, _, _, _, _], _ => rfl
  have F_Body_count_pieces := fun_mk (st := s_Body_count_pieces) l_Body_count_pieces c_Body_count_pieces k_Body_count_pieces
  have b_Body_count_pieces := F_Body_count_pieces.binds (ps := ["self"]) fun _ _ _ _ _ _ us hl => match us, hl with | [_], _ => rfl
  have F_Body_tell_piece := fun_mk (st := s_Body_tell_piece) l_Body_tell_piece c_Body_tell_piece k_Body_tell_piece
  have b_Body_tell_piece := F_Body_tell_piece.binds (ps := ["self", "k"]) fun _ _ _ _ _ _ us hl => match us, hl with | [_, _], _ => rfl
  have F_Body_tell_hangs := fun_mk (st := s_Body_tell_hangs) l_Body_tell_hangs c_Body_tell_hangs k_Body_tell_hangs
  have b_Body_tell_hangs := F_Body_tell_hangs.binds (ps := ["self", "k"]) fun _ _ _ _ _ _ us hl => match us, hl with | [_, _], _ => rfl
  have F_Reader_init := fun_mk (st := s_Reader_init) l_Reader_init c_Reader_init k_Reader_init
  have b_Reader_init := F_Reader_init.binds (ps := ["self", "numbers"]) fun _ _ _ _ _ _ us hl => match us, hl with | [_, _], _ => rfl
  have F_Reader_has_more := fun_mk (st := s_Reader_has_more) l_Reader_has_more c_Reader_has_more k_Reader_has_more
  have b_Reader_has_more := F_Reader_has_more.binds (ps := ["self"]) fun _ _ _ _ _ _ us hl => match us, hl with | [_], _ => rfl
  have F_Reader_take := fun_mk (st := s_Reader_take) l_Reader_take c_Reader_take k_Reader_take
  have b_Reader_take := F_Reader_take.binds (ps := ["self"]) fun _ _ _ _ _ _ us hl => match us, hl with | [_], _ => rfl
  have F_Reader_take_row := fun_mk (st := s_Reader_take_row) l_Reader_take_row c_Reader_take_row k_Reader_take_row
  have b_Reader_take_row := F_Reader_take_row.binds (ps := ["self"]) fun _ _ _ _ _ _ us hl => match us, hl with | [_], _ => rfl
  have F_answer_call := fun_mk (st := s_answer_call) l_answer_call c_answer_call k_answer_call
  have b_answer_call := F_answer_call.binds (ps := ["body", "reader"]) fun _ _ _ _ _ _ us hl => match us, hl with | [_, _], _ => rfl
  have F_answers := fun_mk (st := s_answers) l_answers c_answers k_answers
  have b_answers := F_answers.binds (ps := ["calls"]) fun _ _ _ _ _ _ us hl => match us, hl with | [_], _ => rfl
  have T : Txt K mg ⟨f_is_size, f_step, f_Field_init, f_Field_value_at, f_Field_has_place, f_Field_has_way, f_Field_cubes, f_triangles_by_point, f_hanging_together, f_surface_pieces, f_piece_with, f_sides_of, f_count_points, f_triangles_by_side, f_measure_piece, f_is_even, f_around_corner, f_between_pairs, f_parting_triangles, f_point_between, f_tetrahedron_triangles, f_surface_triangles, f_is_cut, f_common_divisor, f_part_of_way, f_Body_init, f_Body_begin, f_Body_lay_field, f_Body_set_field, f_Body_cut, f_Body_tell_triangle, f_Body_tell_point, f_Body_count_pieces, f_Body_tell_piece, f_Body_tell_hangs, f_Reader_init, f_Reader_has_more, f_Reader_take, f_Reader_take_row, f_answer_call, fa, C_Field, C_Body, C_Reader, C_UnknownCall, p_TETRAHEDRA⟩ := { d_is_size := ⟨_, F_is_size, b_is_size⟩, g_is_size := PySem.W.mg_of X G a_is_size, d_step := ⟨_, F_step, b_step⟩, g_step := PySem.W.mg_of X G a_step, d_Field_init := ⟨_, F_Field_init, b_Field_init⟩, d_Field_value_at := ⟨_, F_Field_value_at, b_Field_value_at⟩, m_Field_value_at := ⟨a_Field_value_at, i_Field_value_at, k_Field_value_at⟩, d_Field_has_place := ⟨_, F_Field_has_place, b_Field_has_place⟩, m_Field_has_place := ⟨a_Field_has_place, i_Field_has_place, k_Field_has_place⟩, d_Field_has_way := ⟨_, F_Field_has_way, b_Field_has_way⟩, m_Field_has_way := ⟨a_Field_has_way, i_Field_has_way, k_Field_has_way⟩, d_Field_cubes := ⟨_, F_Field_cubes, b_Field_cubes⟩, m_Field_cubes := ⟨a_Field_cubes, i_Field_cubes, k_Field_cubes⟩, d_triangles_by_point := ⟨_, F_triangles_by_point, b_triangles_by_point⟩, g_triangles_by_point := PySem.W.mg_of X G a_triangles_by_point, d_hanging_together := ⟨_, F_hanging_together, b_hanging_together⟩, g_hanging_together := PySem.W.mg_of X G a_hanging_together, d_surface_pieces := ⟨_, F_surface_pieces, b_surface_pieces⟩, g_surface_pieces := PySem.W.mg_of X G a_surface_pieces, d_piece_with := ⟨_, F_piece_with, b_piece_with⟩, g_piece_with := PySem.W.mg_of X G a_piece_with, d_sides_of := ⟨_, F_sides_of, b_sides_of⟩, g_sides_of := PySem.W.mg_of X G a_sides_of, d_count_points := ⟨_, F_count_points, b_count_points⟩, g_count_points := PySem.W.mg_of X G a_count_points, d_triangles_by_side := ⟨_, F_triangles_by_side, b_triangles_by_side⟩, g_triangles_by_side := PySem.W.mg_of X G a_triangles_by_side, d_measure_piece := ⟨_, F_measure_piece, b_measure_piece⟩, g_measure_piece := PySem.W.mg_of X G a_measure_piece, d_is_even := ⟨_, F_is_even, b_is_even⟩, g_is_even := PySem.W.mg_of X G a_is_even, d_around_corner := ⟨_, F_around_corner, b_around_corner⟩, g_around_corner := PySem.W.mg_of X G a_around_corner, d_between_pairs := ⟨_, F_between_pairs, b_between_pairs⟩, g_between_pairs := PySem.W.mg_of X G a_between_pairs, d_parting_triangles := ⟨_, F_parting_triangles, b_parting_triangles⟩, g_parting_triangles := PySem.W.mg_of X G a_parting_triangles, d_point_between := ⟨_, F_point_between, b_point_between⟩, g_point_between := PySem.W.mg_of X G a_point_between, d_tetrahedron_triangles := ⟨_, F_tetrahedron_triangles, b_tetrahedron_triangles⟩, g_tetrahedron_triangles := PySem.W.mg_of X G a_tetrahedron_triangles, d_surface_triangles := ⟨_, F_surface_triangles, b_surface_triangles⟩, g_surface_triangles := PySem.W.mg_of X G a_surface_triangles, d_is_cut := ⟨_, F_is_cut, b_is_cut⟩, g_is_cut := PySem.W.mg_of X G a_is_cut, d_common_divisor := ⟨_, F_common_divisor, b_common_divisor⟩, g_common_divisor := PySem.W.mg_of X G a_common_divisor, d_part_of_way := ⟨_, F_part_of_way, b_part_of_way⟩, g_part_of_way := PySem.W.mg_of X G a_part_of_way, d_Body_init := ⟨_, F_Body_init, b_Body_init⟩, d_Body_begin := ⟨_, F_Body_begin, b_Body_begin⟩, m_Body_begin := ⟨a_Body_begin, i_Body_begin, k_Body_begin⟩, d_Body_lay_field := ⟨_, F_Body_lay_field, b_Body_lay_field⟩, m_Body_lay_field := ⟨a_Body_lay_field, i_Body_lay_field, k_Body_lay_field⟩, d_Body_set_field := ⟨_, F_Body_set_field, b_Body_set_field⟩, m_Body_set_field := ⟨a_Body_set_field, i_Body_set_field, k_Body_set_field⟩, d_Body_cut := ⟨_, F_Body_cut, b_Body_cut⟩, m_Body_cut := ⟨a_Body_cut, i_Body_cut, k_Body_cut⟩, d_Body_tell_triangle := ⟨_, F_Body_tell_triangle, b_Body_tell_triangle⟩, m_Body_tell_triangle := ⟨a_Body_tell_triangle, i_Body_tell_triangle, k_Body_tell_triangle⟩, d_Body_tell_point := ⟨_, F_Body_tell_point, b_Body_tell_point⟩, m_Body_tell_point := ⟨a_Body_tell_point, i_Body_tell_point, k_Body_tell_point⟩, d_Body_count_pieces := ⟨_, F_Body_count_pieces, b_Body_count_pieces⟩, m_Body_count_pieces := ⟨a_Body_count_pieces, i_Body_count_pieces, k_Body_count_pieces⟩, d_Body_tell_piece := ⟨_, F_Body_tell_piece, b_Body_tell_piece⟩, m_Body_tell_piece := ⟨a_Body_tell_piece, i_Body_tell_piece, k_Body_tell_piece⟩, d_Body_tell_hangs := ⟨_, F_Body_tell_hangs, b_Body_tell_hangs⟩, m_Body_tell_hangs := ⟨a_Body_tell_hangs, i_Body_tell_hangs, k_Body_tell_hangs⟩, d_Reader_init := ⟨_, F_Reader_init, b_Reader_init⟩, d_Reader_has_more := ⟨_, F_Reader_has_more, b_Reader_has_more⟩, m_Reader_has_more := ⟨a_Reader_has_more, i_Reader_has_more, k_Reader_has_more⟩, d_Reader_take := ⟨_, F_Reader_take, b_Reader_take⟩, m_Reader_take := ⟨a_Reader_take, i_Reader_take, k_Reader_take⟩, d_Reader_take_row := ⟨_, F_Reader_take_row, b_Reader_take_row⟩, m_Reader_take_row := ⟨a_Reader_take_row, i_Reader_take_row, k_Reader_take_row⟩, d_answer_call := ⟨_, F_answer_call, b_answer_call⟩, g_answer_call := PySem.W.mg_of X G a_answer_call, d_answers := ⟨_, F_answers, b_answers⟩, g_answers := PySem.W.mg_of X G a_answers, g_Field := PySem.W.mg_of X G aC_Field, c_Field := ⟨pg_Field, hd_Field, po_Field, sa_Field⟩, mk_Field := ⟨mk_Field, a_Field_init, i_Field_init, kc_Field⟩, n_Field_nx := n_Field_nx, n_Field_ny := n_Field_ny, n_Field_nz := n_Field_nz, n_Field_numbers := n_Field_numbers, g_Body := PySem.W.mg_of X G aC_Body, c_Body := ⟨pg_Body, hd_Body, po_Body, sa_Body⟩, mk_Body := ⟨mk_Body, a_Body_init, i_Body_init, kc_Body⟩, n_Body_field := n_Body_field, n_Body_level := n_Body_level, n_Body_triangles := n_Body_triangles, n_Body_pieces := n_Body_pieces, g_Reader := PySem.W.mg_of X G aC_Reader, c_Reader := ⟨pg_Reader, hd_Reader, po_Reader, sa_Reader⟩, mk_Reader := ⟨mk_Reader, a_Reader_init, i_Reader_init, kc_Reader⟩, n_Reader_numbers := n_Reader_numbers, n_Reader_position := n_Reader_position, g_UnknownCall := PySem.W.mg_of X G aC_UnknownCall, k_SMALLEST_SIZE := ⟨_, PySem.W.mg_of X G v_SMALLEST_SIZE⟩, k_LARGEST_SIZE := ⟨_, PySem.W.mg_of X G v_LARGEST_SIZE⟩, k_LOWEST_WAY := ⟨_, PySem.W.mg_of X G v_LOWEST_WAY⟩, k_HIGHEST_WAY := ⟨_, PySem.W.mg_of X G v_HIGHEST_WAY⟩, k_LOWEST_LEVEL := ⟨_, PySem.W.mg_of X G v_LOWEST_LEVEL⟩, k_HIGHEST_LEVEL := ⟨_, PySem.W.mg_of X G v_HIGHEST_LEVEL⟩, k_DONE := ⟨_, PySem.W.mg_of X G v_DONE⟩, k_REFUSED := ⟨_, PySem.W.mg_of X G v_REFUSED⟩, k_NO_LEVEL := ⟨_, PySem.W.mg_of X G v_NO_LEVEL⟩, k_BEGIN := ⟨_, PySem.W.mg_of X G v_BEGIN⟩, k_FIELD := ⟨_, PySem.W.mg_of X G v_FIELD⟩, k_CUT := ⟨_, PySem.W.mg_of X G v_CUT⟩, k_TRIANGLE := ⟨_, PySem.W.mg_of X G v_TRIANGLE⟩, k_POINT := ⟨_, PySem.W.mg_of X G v_POINT⟩, k_COUNT := ⟨_, PySem.W.mg_of X G v_COUNT⟩, k_PIECE := ⟨_, PySem.W.mg_of X G v_PIECE⟩, k_HANGS := ⟨_, PySem.W.mg_of X G v_HANGS⟩, g_TETRAHEDRA := PySem.W.mg_of X G g_TETRAHEDRA, b_len := PySem.W.mg_none_of X G z_len, b_range := PySem.W.mg_none_of X G z_range, b_min := PySem.W.mg_none_of X G z_min, b_max := PySem.W.mg_none_of X G z_max, b_abs := PySem.W.mg_none_of X G z_abs, b_sorted := PySem.W.mg_none_of X G z_sorted, b_list := PySem.W.mg_none_of X G z_list, b_tuple := PySem.W.mg_none_of X G z_tuple }
  have TB : Tab K ⟨f_is_size, f_step, f_Field_init, f_Field_value_at, f_Field_has_place, f_Field_has_way, f_Field_cubes, f_triangles_by_point, f_hanging_together, f_surface_pieces, f_piece_with, f_sides_of, f_count_points, f_triangles_by_side, f_measure_piece, f_is_even, f_around_corner, f_between_pairs, f_parting_triangles, f_point_between, f_tetrahedron_triangles, f_surface_triangles, f_is_cut, f_common_divisor, f_part_of_way, f_Body_init, f_Body_begin, f_Body_lay_field, f_Body_set_field, f_Body_cut, f_Body_tell_triangle, f_Body_tell_point, f_Body_count_pieces, f_Body_tell_piece, f_Body_tell_hangs, f_Reader_init, f_Reader_has_more, f_Reader_take, f_Reader_take_row, f_answer_call, fa, C_Field, C_Body, C_Reader, C_UnknownCall, p_TETRAHEDRA⟩ := fun H => .tup (xs := [V.ref p_TETRAHEDRA_0, V.ref p_TETRAHEDRA_1, V.ref p_TETRAHEDRA_2, V.ref p_TETRAHEDRA_3, V.ref p_TETRAHEDRA_4, V.ref p_TETRAHEDRA_5]) (.inr ⟨_, _, _, l_p_TETRAHEDRA, rfl, rfl, (by show 6 ≤ sizeLine; decide), (.cons rfl (.cons rfl (.cons rfl (.cons rfl (.cons rfl (.cons rfl .nil))))))⟩) (.cons (.tup (xs := [V.ref p_TETRAHEDRA_0_0, V.bl true]) (.inr ⟨_, _, _, l_p_TETRAHEDRA_0, rfl, rfl, (by show 2 ≤ sizeLine; decide), (.cons rfl (.cons rfl .nil))⟩) (.cons (.tup (xs := [V.int (0), V.int (1), V.int (3), V.int (7)]) (.inr ⟨_, _, _, l_p_TETRAHEDRA_0_0, rfl, rfl, (by show 4 ≤ sizeLine; decide), (.cons ⟨_, rfl⟩ (.cons ⟨_, rfl⟩ (.cons ⟨_, rfl⟩ (.cons ⟨_, rfl⟩ .nil))))⟩) (.cons (.int _) (.cons (.int _) (.cons (.int _) (.cons (.int _) .nil))))) (.cons (.bl _) .nil))) (.cons (.tup (xs := [V.ref p_TETRAHEDRA_1_0, V.bl false]) (.inr ⟨_, _, _, l_p_TETRAHEDRA_1, rfl, rfl, (by show 2 ≤ sizeLine; decide), (.cons rfl (.cons rfl .nil))⟩) (.cons (.tup (xs := [V.int (0), V.int (1), V.int (5), V.int (7)]) (.inr ⟨_, _, _, l_p_TETRAHEDRA_1_0, rfl, rfl, (by show 4 ≤ sizeLine; decide), (.cons ⟨_, rfl⟩ (.cons ⟨_, rfl⟩ (.cons ⟨_, rfl⟩ (.cons ⟨_, rfl⟩ .nil))))⟩) (.cons (.int _) (.cons (.int _) (.cons (.int _) (.cons (.int _) .nil))))) (.cons (.bl _) .nil))) (.cons (.tup (xs := [V.ref p_TETRAHEDRA_2_0, V.bl false]) (.inr ⟨_, _, _, l_p_TETRAHEDRA_2, rfl, rfl, (by show 2 ≤ sizeLine; decide), (.cons rfl (.cons rfl .nil))⟩) (.cons (.tup (xs := [V.int (0), V.int (2), V.int (3), V.int (7)]) (.inr ⟨_, _, _, l_p_TETRAHEDRA_2_0, rfl, rfl, (by show 4 ≤ sizeLine; decide), (.cons ⟨_, rfl⟩ (.cons ⟨_, rfl⟩ (.cons ⟨_, rfl⟩ (.cons ⟨_, rfl⟩ .nil))))⟩) (.cons (.int _) (.cons (.int _) (.cons (.int _) (.cons (.int _) .nil))))) (.cons (.bl _) .nil))) (.cons (.tup (xs := [V.ref p_TETRAHEDRA_3_0, V.bl true]) (.inr ⟨_, _, _, l_p_TETRAHEDRA_3, rfl, rfl, (by show 2 ≤ sizeLine; decide), (.cons rfl (.cons rfl .nil))⟩) (.cons (.tup (xs := [V.int (0), V.int (2), V.int (6), V.int (7)]) (.inr ⟨_, _, _, l_p_TETRAHEDRA_3_0, rfl, rfl, (by show 4 ≤ sizeLine; decide), (.cons ⟨_, rfl⟩ (.cons ⟨_, rfl⟩ (.cons ⟨_, rfl⟩ (.cons ⟨_, rfl⟩ .nil))))⟩) (.cons (.int _) (.cons (.int _) (.cons (.int _) (.cons (.int _) .nil))))) (.cons (.bl _) .nil))) (.cons (.tup (xs := [V.ref p_TETRAHEDRA_4_0, V.bl true]) (.inr ⟨_, _, _, l_p_TETRAHEDRA_4, rfl, rfl, (by show 2 ≤ sizeLine; decide), (.cons rfl (.cons rfl .nil))⟩) (.cons (.tup (xs := [V.int (0), V.int (4), V.int (5), V.int (7)]) (.inr ⟨_, _, _, l_p_TETRAHEDRA_4_0, rfl, rfl, (by show 4 ≤ sizeLine; decide), (.cons ⟨_, rfl⟩ (.cons ⟨_, rfl⟩ (.cons ⟨_, rfl⟩ (.cons ⟨_, rfl⟩ .nil))))⟩) (.cons (.int _) (.cons (.int _) (.cons (.int _) (.cons (.int _) .nil))))) (.cons (.bl _) .nil))) (.cons (.tup (xs := [V.ref p_TETRAHEDRA_5_0, V.bl false]) (.inr ⟨_, _, _, l_p_TETRAHEDRA_5, rfl, rfl, (by show 2 ≤ sizeLine; decide), (.cons rfl (.cons rfl .nil))⟩) (.cons (.tup (xs := [V.int (0), V.int (4), V.int (6), V.int (7)]) (.inr ⟨_, _, _, l_p_TETRAHEDRA_5_0, rfl, rfl, (by show 4 ≤ sizeLine; decide), (.cons ⟨_, rfl⟩ (.cons ⟨_, rfl⟩ (.cons ⟨_, rfl⟩ (.cons ⟨_, rfl⟩ .nil))))⟩) (.cons (.int _) (.cons (.int _) (.cons (.int _) (.cons (.int _) .nil))))) (.cons (.bl _) .nil))) .nil))))))
  exact ⟨PySem.W.fnOf "answers" "answers" (defArgs s_answers) (defBody s_answers) (defScope s_answers) .none kV_answers dc_answers pm_answers an_answers cd_answers ct_answers, fun s us hu => match us, hu with | [_], _ => .of_eq rfl, fun base _ _ => fn_answers T TB F_answers⟩
end Fs
end
set_option Elab.async false
set_option linter.all false
open PySem PySem.W PyProof.Rows
theorem PySem.W.Fast.tw13183465535751290967 : True := trivial
theorem PySem.W.Fast.tw4546007877577033824 : True := trivial
theorem PySem.W.Fast.tw16203815491140544768 : True := trivial
theorem PySem.W.Fast.tw14991908731501886784 : True := trivial
theorem PySem.W.Fast.tw16891552848981719424 : True := trivial
theorem PySem.W.Fast.tw12322575534813207040 : True := trivial
theorem PySem.W.Fast.tw9542667565635353216 : True := trivial
theorem PySem.W.Fast.tw9233536861096589984 : True := trivial
theorem PySem.W.Fast.tw9756083025405284256 : True := trivial
theorem PySem.W.Fast.tw18140243114296134721 : True := trivial
theorem PySem.W.Fast.tw4853741493073542433 : True := trivial
theorem PySem.W.Fast.tw16313279631313002817 : True := trivial
theorem PySem.W.Fast.tw1772652194206890369 : True := trivial
theorem PySem.W.Fast.tw2654097602068462977 : True := trivial
theorem PySem.W.Fast.tw2929366656930116353 : True := trivial
theorem PySem.W.Fast.tw12704149268109403041 : True := trivial
theorem PySem.W.Fast.tw16336357086676005793 : True := trivial
theorem PySem.W.Fast.tw3692567105592983457 : True := trivial
theorem PySem.W.Fast.tw10089592596614038562 : True := trivial
theorem PySem.W.Fast.tw1333683545211409538 : True := trivial
theorem PySem.W.Fast.tw4442025644287893730 : True := trivial
theorem PySem.W.Fast.tw4024850041113284898 : True := trivial
theorem PySem.W.Fast.tw3989276662560620962 : True := trivial
theorem PySem.W.Fast.tw13506317017298274754 : True := trivial
theorem PySem.W.Fast.tw14864316505795633634 : True := trivial
theorem PySem.W.Fast.tw16770339919001271842 : True := trivial
theorem PySem.W.Fast.tw11484164061857642050 : True := trivial
theorem PySem.W.Fast.tw6104329351715719778 : True := trivial
theorem PySem.W.Fast.tw5276098728945181378 : True := trivial
theorem PySem.W.Fast.tw17651027403024664322 : True := trivial
theorem PySem.W.Fast.tw10839945913029379874 : True := trivial
theorem PySem.W.Fast.tw13542630894447492962 : True := trivial
theorem PySem.W.Fast.tw11988138761362471043 : True := trivial
theorem PySem.W.Fast.tw14178093156627149987 : True := trivial
theorem PySem.W.Fast.tw14531352340686725283 : True := trivial
theorem PySem.W.Fast.tw5638506701580562723 : True := trivial
theorem PySem.W.Fast.tw11886274341297743139 : True := trivial
theorem PySem.W.Fast.tw242727290730832195 : True := trivial
theorem PySem.W.Fast.tw6385937851165842755 : True := trivial
theorem PySem.W.Fast.tw11177742372624177539 : True := trivial
theorem PySem.W.Fast.tw6604251131685798435 : True := trivial
theorem PySem.W.Fast.tw1592524459901291139 : True := trivial
theorem PySem.W.Fast.tw11103918124766663299 : True := trivial
theorem PySem.W.Fast.tw3095400009745792643 : True := trivial
theorem PySem.W.Fast.tw7628307476805963459 : True := trivial
theorem PySem.W.Fast.tw15071802170936156995 : True := trivial
theorem PySem.W.Fast.tw18184676729541839811 : True := trivial
theorem PySem.W.Fast.tw16748768653816868 : True := trivial
theorem PySem.W.Fast.tw2528855570296625316 : True := trivial
theorem PySem.W.Fast.tw2814497966933108932 : True := trivial
theorem PySem.W.Fast.tw17388366339020091780 : True := trivial
theorem PySem.W.Fast.tw10002120218658496932 : True := trivial
theorem PySem.W.Fast.tw15964385341645332036 : True := trivial
theorem PySem.W.Fast.tw9805157660306037380 : True := trivial
theorem PySem.W.Fast.tw2770506106282160932 : True := trivial
theorem PySem.W.Fast.tw13285847618379064357 : True := trivial
theorem PySem.W.Fast.tw3683876499479427109 : True := trivial
theorem PySem.W.Fast.tw1514998659150721285 : True := trivial
theorem PySem.W.Fast.tw1896393159911187781 : True := trivial
theorem PySem.W.Fast.tw11661848882765932869 : True := trivial
theorem PySem.W.Fast.tw10556883731005880677 : True := trivial
theorem PySem.W.Fast.tw13123997259183820197 : True := trivial
theorem PySem.W.Fast.tw8063396552857873861 : True := trivial
theorem PySem.W.Fast.tw9473276916028018245 : True := trivial
theorem PySem.W.Fast.tw6563632591621729061 : True := trivial
theorem PySem.W.Fast.tw4994100642936692742 : True := trivial
theorem PySem.W.Fast.tw9617998001885147686 : True := trivial
theorem PySem.W.Fast.tw12322732450020980262 : True := trivial
theorem PySem.W.Fast.tw12638671128530218566 : True := trivial
theorem PySem.W.Fast.tw7542155385174708838 : True := trivial
theorem PySem.W.Fast.tw7617533080545123078 : True := trivial
theorem PySem.W.Fast.tw4055877582796164135 : True := trivial
theorem PySem.W.Fast.tw2578145706919156775 : True := trivial
theorem PySem.W.Fast.tw14536895365258503271 : True := trivial
theorem PySem.W.Fast.tw14229721205483054407 : True := trivial
theorem PySem.W.Fast.tw16645556947980118407 : True := trivial
theorem PySem.W.Fast.tw3365365126228013479 : True := trivial
theorem PySem.W.Fast.tw9233681552004963783 : True := trivial
theorem PySem.W.Fast.tw15496731272720942631 : True := trivial
theorem PySem.W.Fast.tw3871986896092463847 : True := trivial
theorem PySem.W.Fast.tw15241723181303657576 : True := trivial
theorem PySem.W.Fast.tw8446350241763591336 : True := trivial
theorem PySem.W.Fast.tw2833231872535308552 : True := trivial
theorem PySem.W.Fast.tw17742324772553833768 : True := trivial
theorem PySem.W.Fast.tw10535616327309205288 : True := trivial
theorem PySem.W.Fast.tw10045100994795400008 : True := trivial
theorem PySem.W.Fast.tw13057870178748054376 : True := trivial
theorem PySem.W.Fast.tw12012377406636305384 : True := trivial
theorem PySem.W.Fast.tw4548880270376513545 : True := trivial
theorem PySem.W.Fast.tw15529486866586489225 : True := trivial
theorem PySem.W.Fast.tw18367720418171242953 : True := trivial
theorem PySem.W.Fast.tw14823353894777617897 : True := trivial
theorem PySem.W.Fast.tw14728771796415311337 : True := trivial
theorem PySem.W.Fast.tw8704399908482928233 : True := trivial
theorem PySem.W.Fast.tw13344348674639723145 : True := trivial
theorem PySem.W.Fast.tw3014122566464969641 : True := trivial
theorem PySem.W.Fast.tw234802819630675978 : True := trivial
theorem PySem.W.Fast.tw5034189185062765642 : True := trivial
theorem PySem.W.Fast.tw12644397902469204074 : True := trivial
theorem PySem.W.Fast.tw9809565479567769770 : True := trivial
theorem PySem.W.Fast.tw8296363747956036970 : True := trivial
theorem PySem.W.Fast.tw7978470680429709674 : True := trivial
theorem PySem.W.Fast.tw9579527140032767370 : True := trivial
theorem PySem.W.Fast.tw8609851115496935946 : True := trivial
theorem PySem.W.Fast.tw4011065339601130026 : True := trivial
theorem PySem.W.Fast.tw6921922569613590122 : True := trivial
theorem PySem.W.Fast.tw5534090600966127242 : True := trivial
theorem PySem.W.Fast.tw9573622286101569258 : True := trivial
theorem PySem.W.Fast.tw6575791292674407338 : True := trivial
theorem PySem.W.Fast.tw9836074257345786923 : True := trivial
theorem PySem.W.Fast.tw15726333550767250507 : True := trivial
theorem PySem.W.Fast.tw17108881058034016331 : True := trivial
theorem PySem.W.Fast.tw12420803570440765547 : True := trivial
theorem PySem.W.Fast.tw11414084218617462955 : True := trivial
theorem PySem.W.Fast.tw15537389415166700811 : True := trivial
theorem PySem.W.Fast.tw7612732640863419659 : True := trivial
theorem PySem.W.Fast.tw4195151209967970603 : True := trivial
theorem PySem.W.Fast.tw3081453559727552875 : True := trivial
theorem PySem.W.Fast.tw14525800946111418763 : True := trivial
theorem PySem.W.Fast.tw17354826160577182411 : True := trivial
theorem PySem.W.Fast.tw17315503281380930251 : True := trivial
theorem PySem.W.Fast.tw7324682108499153803 : True := trivial
theorem PySem.W.Fast.tw15338804528276738987 : True := trivial
theorem PySem.W.Fast.tw16213258006598851692 : True := trivial
theorem PySem.W.Fast.tw8842230531133513836 : True := trivial
theorem PySem.W.Fast.tw18171012163178979436 : True := trivial
theorem PySem.W.Fast.tw10170096722094067916 : True := trivial
theorem PySem.W.Fast.tw1716509781517395180 : True := trivial
theorem PySem.W.Fast.tw2614528777804059340 : True := trivial
theorem PySem.W.Fast.tw11522440109546454892 : True := trivial
theorem PySem.W.Fast.tw6272570081858360397 : True := trivial
theorem PySem.W.Fast.tw3621945402831729165 : True := trivial
theorem PySem.W.Fast.tw3747181229510744621 : True := trivial
theorem PySem.W.Fast.tw1163709691891325613 : True := trivial
theorem PySem.W.Fast.tw634468482510063309 : True := trivial
theorem PySem.W.Fast.tw2852425927893121805 : True := trivial
theorem PySem.W.Fast.tw998481531826446221 : True := trivial
theorem PySem.W.Fast.tw13081436512261142638 : True := trivial
theorem PySem.W.Fast.tw7318309720313403598 : True := trivial
theorem PySem.W.Fast.tw1963510814474240270 : True := trivial
theorem PySem.W.Fast.tw6930667083699606798 : True := trivial
theorem PySem.W.Fast.tw16732907822504011054 : True := trivial
theorem PySem.W.Fast.tw6345610541551390030 : True := trivial
theorem PySem.W.Fast.tw17664399897516620206 : True := trivial
theorem PySem.W.Fast.tw9003160555319519694 : True := trivial
theorem PySem.W.Fast.tw12811366795408040718 : True := trivial
theorem PySem.W.Fast.tw17937748881549228942 : True := trivial
theorem PySem.W.Fast.tw11457694621723176015 : True := trivial
theorem PySem.W.Fast.tw147157274711535695 : True := trivial
theorem PySem.W.Fast.tw10281331472678379631 : True := trivial
theorem PySem.W.Fast.tw3234204923542556815 : True := trivial
theorem PySem.W.Fast.tw297261696297256079 : True := trivial
theorem PySem.W.Fast.tw11746811721351314575 : True := trivial
theorem PySem.W.Fast.tw17580845396397745327 : True := trivial
theorem PySem.W.Fast.tw9194844028952210639 : True := trivial
theorem PySem.W.Fast.tw2212461964790012335 : True := trivial
theorem PySem.W.Fast.tw10640135489270667791 : True := trivial
theorem PySem.W.Fast.tw5037377377426685455 : True := trivial
theorem PySem.W.Fast.tw6110370418931889775 : True := trivial
theorem PySem.W.Fast.tw15981608757477880463 : True := trivial
theorem PySem.W.Fast.tw13121189423122068143 : True := trivial
theorem PySem.W.Fast.tw14361150097940993935 : True := trivial
theorem PySem.W.Fast.tw4732486819840015311 : True := trivial
theorem PySem.W.Fast.tw1209043332172494928 : True := trivial
theorem PySem.W.Fast.tw1101508047632906352 : True := trivial
theorem PySem.W.Fast.tw11221430718692075664 : True := trivial
theorem PySem.W.Fast.tw17135363723762671824 : True := trivial
theorem PySem.W.Fast.tw3914930742514852304 : True := trivial
theorem PySem.W.Fast.tw2614123664819439088 : True := trivial
theorem PySem.W.Fast.tw4639904765526830608 : True := trivial
theorem PySem.W.Fast.tw14168048156981249584 : True := trivial
theorem PySem.W.Fast.tw18018119924875125328 : True := trivial
theorem PySem.W.Fast.tw7099193796009290320 : True := trivial
theorem PySem.W.Fast.tw14446568760835183216 : True := trivial
theorem PySem.W.Fast.tw17185637848261736144 : True := trivial
theorem PySem.W.Fast.tw2699638348922860336 : True := trivial
theorem PySem.W.Fast.tw18254361174443434928 : True := trivial
theorem PySem.W.Fast.tw9102473049405916144 : True := trivial
theorem PySem.W.Fast.tw13896821815078187153 : True := trivial
theorem PySem.W.Fast.tw5396641095146262705 : True := trivial
theorem PySem.W.Fast.tw13743892940148790481 : True := trivial
theorem PySem.W.Fast.tw8446090983482408209 : True := trivial
theorem PySem.W.Fast.tw5169144063963680017 : True := trivial
theorem PySem.W.Fast.tw10347275303873930545 : True := trivial
theorem PySem.W.Fast.tw13144347264956042929 : True := trivial
theorem PySem.W.Fast.tw6087702313279480529 : True := trivial
theorem PySem.W.Fast.tw2292833972158412657 : True := trivial
theorem PySem.W.Fast.tw14502863019051125617 : True := trivial
theorem PySem.W.Fast.tw3464694074273150865 : True := trivial
theorem PySem.W.Fast.tw10749969706762133554 : True := trivial
theorem PySem.W.Fast.tw9644597000260000914 : True := trivial
theorem PySem.W.Fast.tw9999768313247782066 : True := trivial
theorem PySem.W.Fast.tw16785588820946144434 : True := trivial
theorem PySem.W.Fast.tw2431727221479984530 : True := trivial
theorem PySem.W.Fast.tw13583228282458844722 : True := trivial
theorem PySem.W.Fast.tw1539259732544005714 : True := trivial
theorem PySem.W.Fast.tw10839615520352094802 : True := trivial
theorem PySem.W.Fast.tw3312771809060491890 : True := trivial
theorem PySem.W.Fast.tw15911773588324149938 : True := trivial
theorem PySem.W.Fast.tw11583855586513250066 : True := trivial
theorem PySem.W.Fast.tw2271897788471995314 : True := trivial
theorem PySem.W.Fast.tw164662531296083987 : True := trivial
theorem PySem.W.Fast.tw14558212542846096563 : True := trivial
theorem PySem.W.Fast.tw18084616296853269875 : True := trivial
theorem PySem.W.Fast.tw1539441075360574899 : True := trivial
theorem PySem.W.Fast.tw15229196336885995987 : True := trivial
theorem PySem.W.Fast.tw2219974706250247891 : True := trivial
theorem PySem.W.Fast.tw14790573776204709715 : True := trivial
theorem PySem.W.Fast.tw15065484730262954867 : True := trivial
theorem PySem.W.Fast.tw15417459084279548915 : True := trivial
theorem PySem.W.Fast.tw2834993893251692692 : True := trivial
theorem PySem.W.Fast.tw16379455608130963732 : True := trivial
theorem PySem.W.Fast.tw17962423283346297268 : True := trivial
theorem PySem.W.Fast.tw4281286252204118484 : True := trivial
theorem PySem.W.Fast.tw6268581375423883828 : True := trivial
theorem PySem.W.Fast.tw6819658447787454196 : True := trivial
theorem PySem.W.Fast.tw2657232414630254420 : True := trivial
theorem PySem.W.Fast.tw2261499605545721844 : True := trivial
theorem PySem.W.Fast.tw9159700250849157141 : True := trivial
theorem PySem.W.Fast.tw3485920775418326069 : True := trivial
theorem PySem.W.Fast.tw5288359463050463509 : True := trivial
theorem PySem.W.Fast.tw12476859228169696565 : True := trivial
theorem PySem.W.Fast.tw13203232081940665749 : True := trivial
theorem PySem.W.Fast.tw6653898729301158357 : True := trivial
theorem PySem.W.Fast.tw7756899243154050581 : True := trivial
theorem PySem.W.Fast.tw2504425290412751381 : True := trivial
theorem PySem.W.Fast.tw12398558816218090133 : True := trivial
theorem PySem.W.Fast.tw11503399310128130741 : True := trivial
theorem PySem.W.Fast.tw9190282751708758741 : True := trivial
theorem PySem.W.Fast.tw2725422440861869845 : True := trivial
theorem PySem.W.Fast.tw4635542291517469525 : True := trivial
theorem PySem.W.Fast.tw5135329236953461653 : True := trivial
theorem PySem.W.Fast.tw15502047657229108149 : True := trivial
theorem PySem.W.Fast.tw13815370828535700437 : True := trivial
theorem PySem.W.Fast.tw3541111992789732341 : True := trivial
theorem PySem.W.Fast.tw2590794651649217558 : True := trivial
theorem PySem.W.Fast.tw15033452574858832918 : True := trivial
theorem PySem.W.Fast.tw3630273329988586550 : True := trivial
theorem PySem.W.Fast.tw14648790973661833302 : True := trivial
theorem PySem.W.Fast.tw17371661098466787478 : True := trivial
theorem PySem.W.Fast.tw11891946682717119702 : True := trivial
theorem PySem.W.Fast.tw12604756485117876598 : True := trivial
theorem PySem.W.Fast.tw11650846682651939318 : True := trivial
theorem PySem.W.Fast.tw3480774668799548950 : True := trivial
theorem PySem.W.Fast.tw6794885661882597910 : True := trivial
theorem PySem.W.Fast.tw17061741673001926358 : True := trivial
theorem PySem.W.Fast.tw8285815140424328182 : True := trivial
theorem PySem.W.Fast.tw2800228670445476983 : True := trivial
theorem PySem.W.Fast.tw16049312261980009623 : True := trivial
theorem PySem.W.Fast.tw16685312248525600247 : True := trivial
theorem PySem.W.Fast.tw7598759601666127479 : True := trivial
theorem PySem.W.Fast.tw5934980916290431735 : True := trivial
theorem PySem.W.Fast.tw16775317183126344471 : True := trivial
theorem PySem.W.Fast.tw6207907184605846455 : True := trivial
theorem PySem.W.Fast.tw16349012826069370072 : True := trivial
theorem PySem.W.Fast.tw6958025370242403704 : True := trivial
theorem PySem.W.Fast.tw190554890952853944 : True := trivial
theorem PySem.W.Fast.tw97322064551490040 : True := trivial
theorem PySem.W.Fast.tw4162188432142171704 : True := trivial
theorem PySem.W.Fast.tw11830402755762256504 : True := trivial
theorem PySem.W.Fast.tw13627692326739266168 : True := trivial
theorem PySem.W.Fast.tw13901954327985812120 : True := trivial
theorem PySem.W.Fast.tw15131674251515438008 : True := trivial
theorem PySem.W.Fast.tw9491222643779437657 : True := trivial
theorem PySem.W.Fast.tw17098133207414491225 : True := trivial
theorem PySem.W.Fast.tw17072646233215694969 : True := trivial
theorem PySem.W.Fast.tw10651176394786792729 : True := trivial
theorem PySem.W.Fast.tw11183992328852049497 : True := trivial
theorem PySem.W.Fast.tw17566762744541724698 : True := trivial
theorem PySem.W.Fast.tw17207231819094234138 : True := trivial
theorem PySem.W.Fast.tw7912500241094734010 : True := trivial
theorem PySem.W.Fast.tw5201068514613054650 : True := trivial
theorem PySem.W.Fast.tw7638310299644309786 : True := trivial
theorem PySem.W.Fast.tw8576035758282208570 : True := trivial
theorem PySem.W.Fast.tw4813298504365500762 : True := trivial
theorem PySem.W.Fast.tw15240130932175340922 : True := trivial
theorem PySem.W.Fast.tw964803997268559258 : True := trivial
theorem PySem.W.Fast.tw16798787175921411514 : True := trivial
theorem PySem.W.Fast.tw8078837973417832090 : True := trivial
theorem PySem.W.Fast.tw11453864931490695962 : True := trivial
theorem PySem.W.Fast.tw5665962606643066682 : True := trivial
theorem PySem.W.Fast.tw1103570083865891674 : True := trivial
theorem PySem.W.Fast.tw4295259501926790171 : True := trivial
theorem PySem.W.Fast.tw4389992414009417819 : True := trivial
theorem PySem.W.Fast.tw9918279989484986459 : True := trivial
theorem PySem.W.Fast.tw16026241330952298075 : True := trivial
theorem PySem.W.Fast.tw2712811532667115099 : True := trivial
theorem PySem.W.Fast.tw10498168239925826171 : True := trivial
theorem PySem.W.Fast.tw13899491432938524347 : True := trivial
theorem PySem.W.Fast.tw14777976988402886363 : True := trivial
theorem PySem.W.Fast.tw18437734045194453787 : True := trivial
theorem PySem.W.Fast.tw8470092323648763707 : True := trivial
theorem PySem.W.Fast.tw1811494034868654971 : True := trivial
theorem PySem.W.Fast.tw12696260659024582555 : True := trivial
theorem PySem.W.Fast.tw6127880300489934908 : True := trivial
theorem PySem.W.Fast.tw8961294745484493980 : True := trivial
theorem PySem.W.Fast.tw15141814605396030748 : True := trivial
theorem PySem.W.Fast.tw16498601781907259740 : True := trivial
theorem PySem.W.Fast.tw15050699626942172764 : True := trivial
theorem PySem.W.Fast.tw2579291909784731260 : True := trivial
theorem PySem.W.Fast.tw6644629250345660060 : True := trivial
theorem PySem.W.Fast.tw8627600437767391900 : True := trivial
theorem PySem.W.Fast.tw6038136529641802460 : True := trivial
theorem PySem.W.Fast.tw13285003824510179132 : True := trivial
theorem PySem.W.Fast.tw2052929760288710492 : True := trivial
theorem PySem.W.Fast.tw1655896605441842076 : True := trivial
theorem PySem.W.Fast.tw8975490709871578108 : True := trivial
theorem PySem.W.Fast.tw3484566527562018845 : True := trivial
theorem PySem.W.Fast.tw13139694869403232509 : True := trivial
theorem PySem.W.Fast.tw10815939875127490813 : True := trivial
theorem PySem.W.Fast.tw17598519885778542013 : True := trivial
theorem PySem.W.Fast.tw195879615431443069 : True := trivial
theorem PySem.W.Fast.tw14777202942762572445 : True := trivial
theorem PySem.W.Fast.tw5310982229276263165 : True := trivial
theorem PySem.W.Fast.tw9848920381254598589 : True := trivial
theorem PySem.W.Fast.tw16575237179256462430 : True := trivial
theorem PySem.W.Fast.tw13519854617753652318 : True := trivial
theorem PySem.W.Fast.tw17126544182587953246 : True := trivial
theorem PySem.W.Fast.tw11809937855055704222 : True := trivial
theorem PySem.W.Fast.tw18109107521163613374 : True := trivial
theorem PySem.W.Fast.tw5886923736549768446 : True := trivial
theorem PySem.W.Fast.tw7408641780550486334 : True := trivial
theorem PySem.W.Fast.tw1530307545715009982 : True := trivial
theorem PySem.W.Fast.tw17986009307737095678 : True := trivial
theorem PySem.W.Fast.tw346717963133593086 : True := trivial
theorem PySem.W.Fast.tw11562147949453881886 : True := trivial
theorem PySem.W.Fast.tw5495762292526736990 : True := trivial
theorem PySem.W.Fast.tw1988407453627848286 : True := trivial
theorem PySem.W.Fast.tw16356862220512630815 : True := trivial
theorem PySem.W.Fast.tw5081581807532009599 : True := trivial
theorem PySem.W.Fast.tw5776217911227806975 : True := trivial
theorem PySem.W.Fast.tw6161016914951162143 : True := trivial
theorem PySem.W.Fast.tw9956498898276369791 : True := trivial
theorem PySem.W.Fast.tw11360211360304659839 : True := trivial
theorem PySem.W.Fast.tw1561510652379961151 : True := trivial
theorem PySem.W.Fast.tw6029962039680045023 : True := trivial
theorem PySem.W.Fast.tw13947686586554891263 : True := trivial
set_option maxRecDepth 100000 in
set_option maxHeartbeats 0 in
theorem PySem.Challenge.cw_fieldsurface_s01_answers_holds : PySem.Challenge.rw_fieldsurface_s01_answers.Holds := by
  w_on; k_headS; (case hw => exact ⟨[.list []], by decide +kernel, by decide +kernel⟩)
  k_fillS
  refine L2.walk_specK (r := PySem.Challenge.rw_fieldsurface_s01_answers) (k := 8) (CX := L2.CX0) (ps := ["calls"]) (sp := Fs.sp_answers) (by decide +kernel) rfl rfl ⟨rfl, by decide, by decide⟩ (fun w h Y => PySem.W.kIn_of Y) ?F ?S (fun _ _ _ _ z => z)
  case F =>
    intro w mg fa h Y KX G hmg
    refine' Fs.all_mk KX G hmg ?aC_Field ?aC_Body ?aC_Reader ?aC_UnknownCall ?a_is_size ?l_is_size ?c_is_size ?k_is_size ?a_step ?l_step ?c_step ?k_step ?a_Field_init ?i_Field_init ?l_Field_init ?c_Field_init ?k_Field_init ?a_Field_value_at ?i_Field_value_at ?l_Field_value_at ?c_Field_value_at ?k_Field_value_at ?a_Field_has_place ?i_Field_has_place ?l_Field_has_place ?c_Field_has_place ?k_Field_has_place ?a_Field_has_way ?i_Field_has_way ?l_Field_has_way ?c_Field_has_way ?k_Field_has_way ?a_Field_cubes ?i_Field_cubes ?l_Field_cubes ?c_Field_cubes ?k_Field_cubes ?a_triangles_by_point ?l_triangles_by_point ?c_triangles_by_point ?k_triangles_by_point ?a_hanging_together ?l_hanging_together ?c_hanging_together ?k_hanging_together ?a_surface_pieces ?l_surface_pieces ?c_surface_pieces ?k_surface_pieces ?a_piece_with ?l_piece_with ?c_piece_with ?k_piece_with ?a_sides_of ?l_sides_of ?c_sides_of ?k_sides_of ?a_count_points ?l_count_points ?c_count_points ?k_count_points ?a_triangles_by_side ?l_triangles_by_side ?c_triangles_by_side ?k_triangles_by_side ?a_measure_piece ?l_measure_piece ?c_measure_piece ?k_measure_piece ?a_is_even ?l_is_even ?c_is_even ?k_is_even ?a_around_corner ?l_around_corner ?c_around_corner ?k_around_corner ?a_between_pairs ?l_between_pairs ?c_between_pairs ?k_between_pairs ?a_parting_triangles ?l_parting_triangles ?c_parting_triangles ?k_parting_triangles ?a_point_between ?l_point_between ?c_point_between ?k_point_between ?a_tetrahedron_triangles ?l_tetrahedron_triangles ?c_tetrahedron_triangles ?k_tetrahedron_triangles ?a_surface_triangles ?l_surface_triangles ?c_surface_triangles ?k_surface_triangles ?a_is_cut ?l_is_cut ?c_is_cut ?k_is_cut ?a_common_divisor ?l_common_divisor ?c_common_divisor ?k_common_divisor ?a_part_of_way ?l_part_of_way ?c_part_of_way ?k_part_of_way ?a_Body_init ?i_Body_init ?l_Body_init ?c_Body_init ?k_Body_init ?a_Body_begin ?i_Body_begin ?l_Body_begin ?c_Body_begin ?k_Body_begin ?a_Body_lay_field ?i_Body_lay_field ?l_Body_lay_field ?c_Body_lay_field ?k_Body_lay_field ?a_Body_set_field ?i_Body_set_field ?l_Body_set_field ?c_Body_set_field ?k_Body_set_field ?a_Body_cut ?i_Body_cut ?l_Body_cut ?c_Body_cut ?k_Body_cut ?a_Body_tell_triangle ?i_Body_tell_triangle ?l_Body_tell_triangle ?c_Body_tell_triangle ?k_Body_tell_triangle ?a_Body_tell_point ?i_Body_tell_point ?l_Body_tell_point ?c_Body_tell_point ?k_Body_tell_point ?a_Body_count_pieces ?i_Body_count_pieces ?l_Body_count_pieces ?c_Body_count_pieces ?k_Body_count_pieces ?a_Body_tell_piece ?i_Body_tell_piece ?l_Body_tell_piece ?c_Body_tell_piece ?k_Body_tell_piece ?a_Body_tell_hangs ?i_Body_tell_hangs ?l_Body_tell_hangs ?c_Body_tell_hangs ?k_Body_tell_hangs ?a_Reader_init ?i_Reader_init ?l_Reader_init ?c_Reader_init ?k_Reader_init ?a_Reader_has_more ?i_Reader_has_more ?l_Reader_has_more ?c_Reader_has_more ?k_Reader_has_more ?a_Reader_take ?i_Reader_take ?l_Reader_take ?c_Reader_take ?k_Reader_take ?a_Reader_take_row ?i_Reader_take_row ?l_Reader_take_row ?c_Reader_take_row ?k_Reader_take_row ?a_answer_call ?l_answer_call ?c_answer_call ?k_answer_call ?a_answers ?l_answers ?c_answers ?k_answers ?pg_Field ?hd_Field ?po_Field ?sa_Field ?mk_Field ?kc_Field ?n_Field_nx ?n_Field_ny ?n_Field_nz ?n_Field_numbers ?pg_Body ?hd_Body ?po_Body ?sa_Body ?mk_Body ?kc_Body ?n_Body_field ?n_Body_level ?n_Body_triangles ?n_Body_pieces ?pg_Reader ?hd_Reader ?po_Reader ?sa_Reader ?mk_Reader ?kc_Reader ?n_Reader_numbers ?n_Reader_position ?v_SMALLEST_SIZE ?v_LARGEST_SIZE ?v_LOWEST_WAY ?v_HIGHEST_WAY ?v_LOWEST_LEVEL ?v_HIGHEST_LEVEL ?v_DONE ?v_REFUSED ?v_NO_LEVEL ?v_BEGIN ?v_FIELD ?v_CUT ?v_TRIANGLE ?v_POINT ?v_COUNT ?v_PIECE ?v_HANGS ?z_len ?z_range ?z_min ?z_max ?z_abs ?z_sorted ?z_list ?z_tuple ?g_TETRAHEDRA ?l_p_TETRAHEDRA ?l_p_TETRAHEDRA_0 ?l_p_TETRAHEDRA_1 ?l_p_TETRAHEDRA_2 ?l_p_TETRAHEDRA_3 ?l_p_TETRAHEDRA_4 ?l_p_TETRAHEDRA_5 ?l_p_TETRAHEDRA_0_0 ?l_p_TETRAHEDRA_1_0 ?l_p_TETRAHEDRA_2_0 ?l_p_TETRAHEDRA_3_0 ?l_p_TETRAHEDRA_4_0 ?l_p_TETRAHEDRA_5_0
    (case aC_Field => k_is)
    (case aC_Body => k_is)
    (case aC_Reader => k_is)
    (case aC_UnknownCall => k_is)
    (case a_is_size => k_is)
    (case l_is_size => k_is)
    (case c_is_size => k_is)
    (case k_is_size => k_is)
    (case a_step => k_is)
    (case l_step => k_is)
    (case c_step => k_is)
    (case k_step => k_is)
    (case a_Field_init => k_is)
    (case i_Field_init => k_is)
    (case l_Field_init => k_is)
    (case c_Field_init => k_is)
    (case k_Field_init => k_is)
    (case a_Field_value_at => k_is)
    (case i_Field_value_at => k_is)
    (case l_Field_value_at => k_is)
    (case c_Field_value_at => k_is)
    (case k_Field_value_at => k_is)
    (case a_Field_has_place => k_is)
    (case i_Field_has_place => k_is)
    (case l_Field_has_place => k_is)
    (case c_Field_has_place => k_is)
    (case k_Field_has_place => k_is)
    (case a_Field_has_way => k_is)
    (case i_Field_has_way => k_is)
    (case l_Field_has_way => k_is)
    (case c_Field_has_way => k_is)
    (case k_Field_has_way => k_is)
    (case a_Field_cubes => k_is)
    (case i_Field_cubes => k_is)
    (case l_Field_cubes => k_is)
    (case c_Field_cubes => k_is)
    (case k_Field_cubes => k_is)
    (case a_triangles_by_point => k_is)
    (case l_triangles_by_point => k_is)
    (case c_triangles_by_point => k_is)
    (case k_triangles_by_point => k_is)
    (case a_hanging_together => k_is)
    (case l_hanging_together => k_is)
    (case c_hanging_together => k_is)
    (case k_hanging_together => k_is)
    (case a_surface_pieces => k_is)
    (case l_surface_pieces => k_is)
    (case c_surface_pieces => k_is)
    (case k_surface_pieces => k_is)
    (case a_piece_with => k_is)
    (case l_piece_with => k_is)
    (case c_piece_with => k_is)
    (case k_piece_with => k_is)
    (case a_sides_of => k_is)
    (case l_sides_of => k_is)
    (case c_sides_of => k_is)
    (case k_sides_of => k_is)
    (case a_count_points => k_is)
    (case l_count_points => k_is)
    (case c_count_points => k_is)
    (case k_count_points => k_is)
    (case a_triangles_by_side => k_is)
    (case l_triangles_by_side => k_is)
    (case c_triangles_by_side => k_is)
    (case k_triangles_by_side => k_is)
    (case a_measure_piece => k_is)
    (case l_measure_piece => k_is)
    (case c_measure_piece => k_is)
    (case k_measure_piece => k_is)
    (case a_is_even => k_is)
    (case l_is_even => k_is)
    (case c_is_even => k_is)
    (case k_is_even => k_is)
    (case a_around_corner => k_is)
    (case l_around_corner => k_is)
    (case c_around_corner => k_is)
    (case k_around_corner => k_is)
    (case a_between_pairs => k_is)
    (case l_between_pairs => k_is)
    (case c_between_pairs => k_is)
    (case k_between_pairs => k_is)
    (case a_parting_triangles => k_is)
    (case l_parting_triangles => k_is)
    (case c_parting_triangles => k_is)
    (case k_parting_triangles => k_is)
    (case a_point_between => k_is)
    (case l_point_between => k_is)
    (case c_point_between => k_is)
    (case k_point_between => k_is)
    (case a_tetrahedron_triangles => k_is)
    (case l_tetrahedron_triangles => k_is)
    (case c_tetrahedron_triangles => k_is)
    (case k_tetrahedron_triangles => k_is)
    (case a_surface_triangles => k_is)
    (case l_surface_triangles => k_is)
    (case c_surface_triangles => k_is)
    (case k_surface_triangles => k_is)
    (case a_is_cut => k_is)
    (case l_is_cut => k_is)
    (case c_is_cut => k_is)
    (case k_is_cut => k_is)
    (case a_common_divisor => k_is)
    (case l_common_divisor => k_is)
    (case c_common_divisor => k_is)
    (case k_common_divisor => k_is)
    (case a_part_of_way => k_is)
    (case l_part_of_way => k_is)
    (case c_part_of_way => k_is)
    (case k_part_of_way => k_is)
    (case a_Body_init => k_is)
    (case i_Body_init => k_is)
    (case l_Body_init => k_is)
    (case c_Body_init => k_is)
    (case k_Body_init => k_is)
    (case a_Body_begin => k_is)
    (case i_Body_begin => k_is)
    (case l_Body_begin => k_is)
    (case c_Body_begin => k_is)
    (case k_Body_begin => k_is)
    (case a_Body_lay_field => k_is)
    (case i_Body_lay_field => k_is)
    (case l_Body_lay_field => k_is)
    (case c_Body_lay_field => k_is)
    (case k_Body_lay_field => k_is)
    (case a_Body_set_field => k_is)
    (case i_Body_set_field => k_is)
    (case l_Body_set_field => k_is)
    (case c_Body_set_field => k_is)
    (case k_Body_set_field => k_is)
    (case a_Body_cut => k_is)
    (case i_Body_cut => k_is)
    (case l_Body_cut => k_is)
    (case c_Body_cut => k_is)
    (case k_Body_cut => k_is)
    (case a_Body_tell_triangle => k_is)
    (case i_Body_tell_triangle => k_is)
    (case l_Body_tell_triangle => k_is)
    (case c_Body_tell_triangle => k_is)
    (case k_Body_tell_triangle => k_is)
    (case a_Body_tell_point => k_is)
    (case i_Body_tell_point => k_is)
    (case l_Body_tell_point => k_is)
    (case c_Body_tell_point => k_is)
    (case k_Body_tell_point => k_is)
    (case a_Body_count_pieces => k_is)
    (case i_Body_count_pieces => k_is)
    (case l_Body_count_pieces => k_is)
    (case c_Body_count_pieces => k_is)
    (case k_Body_count_pieces => k_is)
    (case a_Body_tell_piece => k_is)
    (case i_Body_tell_piece => k_is)
    (case l_Body_tell_piece => k_is)
    (case c_Body_tell_piece => k_is)
    (case k_Body_tell_piece => k_is)
    (case a_Body_tell_hangs => k_is)
    (case i_Body_tell_hangs => k_is)
    (case l_Body_tell_hangs => k_is)
    (case c_Body_tell_hangs => k_is)
    (case k_Body_tell_hangs => k_is)
    (case a_Reader_init => k_is)
    (case i_Reader_init => k_is)
    (case l_Reader_init => k_is)
    (case c_Reader_init => k_is)
    (case k_Reader_init => k_is)
    (case a_Reader_has_more => k_is)
    (case i_Reader_has_more => k_is)
    (case l_Reader_has_more => k_is)
    (case c_Reader_has_more => k_is)
    (case k_Reader_has_more => k_is)
    (case a_Reader_take => k_is)
    (case i_Reader_take => k_is)
    (case l_Reader_take => k_is)
    (case c_Reader_take => k_is)
    (case k_Reader_take => k_is)
    (case a_Reader_take_row => k_is)
    (case i_Reader_take_row => k_is)
    (case l_Reader_take_row => k_is)
    (case c_Reader_take_row => k_is)
    (case k_Reader_take_row => k_is)
    (case a_answer_call => k_is)
    (case l_answer_call => k_is)
    (case c_answer_call => k_is)
    (case k_answer_call => k_is)
    (case a_answers => k_is)
    (case l_answers => k_is)
    (case c_answers => k_is)
    (case k_answers => k_is)
    (case pg_Field => k_is)
    (case hd_Field => k_is)
    (case po_Field => k_is)
    (case sa_Field => k_is)
    (case mk_Field => k_is)
    (case kc_Field => k_is)
    (case n_Field_nx => k_is)
    (case n_Field_ny => k_is)
    (case n_Field_nz => k_is)
    (case n_Field_numbers => k_is)
    (case pg_Body => k_is)
    (case hd_Body => k_is)
    (case po_Body => k_is)
    (case sa_Body => k_is)
    (case mk_Body => k_is)
    (case kc_Body => k_is)
    (case n_Body_field => k_is)
    (case n_Body_level => k_is)
    (case n_Body_triangles => k_is)
    (case n_Body_pieces => k_is)
    (case pg_Reader => k_is)
    (case hd_Reader => k_is)
    (case po_Reader => k_is)
    (case sa_Reader => k_is)
    (case mk_Reader => k_is)
    (case kc_Reader => k_is)
    (case n_Reader_numbers => k_is)
    (case n_Reader_position => k_is)
    (case v_SMALLEST_SIZE => k_is)
    (case v_LARGEST_SIZE => k_is)
    (case v_LOWEST_WAY => k_is)
    (case v_HIGHEST_WAY => k_is)
    (case v_LOWEST_LEVEL => k_is)
    (case v_HIGHEST_LEVEL => k_is)
    (case v_DONE => k_is)
    (case v_REFUSED => k_is)
    (case v_NO_LEVEL => k_is)
    (case v_BEGIN => k_is)
    (case v_FIELD => k_is)
    (case v_CUT => k_is)
    (case v_TRIANGLE => k_is)
    (case v_POINT => k_is)
    (case v_COUNT => k_is)
    (case v_PIECE => k_is)
    (case v_HANGS => k_is)
    (case z_len => k_is)
    (case z_range => k_is)
    (case z_min => k_is)
    (case z_max => k_is)
    (case z_abs => k_is)
    (case z_sorted => k_is)
    (case z_list => k_is)
    (case z_tuple => k_is)
    (case g_TETRAHEDRA => k_is)
    (case l_p_TETRAHEDRA => k_is)
    (case l_p_TETRAHEDRA_0 => k_is)
    (case l_p_TETRAHEDRA_1 => k_is)
    (case l_p_TETRAHEDRA_2 => k_is)
    (case l_p_TETRAHEDRA_3 => k_is)
    (case l_p_TETRAHEDRA_4 => k_is)
    (case l_p_TETRAHEDRA_5 => k_is)
    (case l_p_TETRAHEDRA_0_0 => k_is)
    (case l_p_TETRAHEDRA_1_0 => k_is)
    (case l_p_TETRAHEDRA_2_0 => k_is)
    (case l_p_TETRAHEDRA_3_0 => k_is)
    (case l_p_TETRAHEDRA_4_0 => k_is)
    (case l_p_TETRAHEDRA_5_0 => k_is)
  case S =>
    intro K H xs a hO hwi hask hx
    cases hx with
    | cons h1 h2 =>
      cases h2
      cases h1 with
      | lst hs ha =>
        have e := L2.ints_dw a.1 _ ha
        subst e
        have q : ((Codec.inLen 0 6000 a.1 && a.1.all (Codec.inInt (-2147483648) 2147483647)) && true) = true := hwi
        rw [Bool.and_eq_true, Bool.and_eq_true] at q
        exact ⟨_, a.1, rfl, hs, hask, (Codec.inNat_iff.mp q.1.1).2, fun H' p hp => .lst (L2.SqL.of hp) (L2.dw_ints _)⟩
