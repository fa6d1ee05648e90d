import PyProof.Rows.All
import Wide.All
import OpenK.AllK
import Wide.FinOn
import PyProof.EqAt
import PyProof.EqKinds
import PyProof.TupleCall
import KE.BitLaws
import KE.OsGo
import Open.SpecLaws
import PyProof.Rows.SortShellAny
import PyProof.ListRange
import PyProof.SetKind
import PyProof.Rows.SetFrom
import KE.KDictSum
import KE.KSortKeyAny
import KE.KBoundM
import PyProof.Rows.CallKwBuiltin
import PySem.Challenge.RW_pooledtests_s01_answers
set_option Elab.async false
set_option linter.all false
set_option maxRecDepth 100000
namespace L2
open PySem PySem.Spec PyProof.Rows
abbrev Key := Sum Int Str
def keyIs : Key → Value → Bool
  | .inl k, v => Value.isInt k v
  | .inr x, v => Value.isStrOf x v
def keyH (w : World) : Key → Int
  | .inl k => hashInt k
  | .inr x => hashStr w x
theorem keyIs_shape : ∀ {k : Key} {v : Value}, keyIs k v = true → (∃ i t, k = Sum.inl i ∧ v = Value.int i t) ∨ (∃ x t, k = Sum.inr x ∧ v = Value.str x t)
  | .inl i, v, h => by
    obtain ⟨t, e⟩ := Value.isInt_shape (k := i) (v := v) h
    exact .inl ⟨i, t, rfl, e⟩
  | .inr x, v, h => by
    obtain ⟨t, e⟩ := Value.isStrOf_shape (x := x) (v := v) h
    exact .inr ⟨x, t, rfl, e⟩
theorem keyIs_int (i : Int) (t : Tok) : keyIs (.inl i) (.int i t) = true := by simp [keyIs, Value.isInt]
theorem keyIs_str (x : Str) (t : Tok) : keyIs (.inr x) (.str x t) = true := by simp [keyIs, Value.isStrOf]
theorem key_ll (a b : Int) : decide ((Sum.inl a : Key) = Sum.inl b) = (a == b) := by
  by_cases e : a = b
  · subst e; simp
  · have h : ¬ (Sum.inl a : Key) = Sum.inl b := fun q => e (Sum.inl.inj q)
    rw [decide_eq_false h]
    exact (beq_eq_false_iff_ne.mpr e).symm
theorem key_rr (a b : Str) : decide ((Sum.inr a : Key) = Sum.inr b) = decide (a = b) := by
  by_cases e : a = b
  · subst e; simp
  · have h : ¬ (Sum.inr a : Key) = Sum.inr b := fun q => e (Sum.inr.inj q)
    rw [decide_eq_false h, decide_eq_false e]
theorem key_lr (a : Int) (b : Str) : decide ((Sum.inl a : Key) = Sum.inr b) = false := decide_eq_false (fun q => nomatch q)
theorem key_rl (a : Str) (b : Int) : decide ((Sum.inr a : Key) = Sum.inl b) = false := decide_eq_false (fun q => nomatch q)
def mixKind (prog : Program) (w : World) : PySem.KeyKind prog w Key where
  is := keyIs
  hash := keyH w
  inj := fun v a b ha hb => by
    rcases keyIs_shape ha with ⟨i, t, rfl, rfl⟩ | ⟨x, t, rfl, rfl⟩
    · rcases keyIs_shape hb with ⟨j, u, rfl, e⟩ | ⟨y, u, rfl, e⟩
      · injection e with e1 _; rw [e1]
      · exact nomatch e
    · rcases keyIs_shape hb with ⟨j, u, rfl, e⟩ | ⟨y, u, rfl, e⟩
      · exact nomatch e
      · injection e with e1 _; rw [e1]
  byValue := fun k v h => by
    rcases keyIs_shape h with ⟨i, t, rfl, rfl⟩ | ⟨x, t, rfl, rfl⟩ <;> rfl
  pyHash := fun hv h => by
    rcases keyIs_shape hv with ⟨i, t, rfl, rfl⟩ | ⟨x, t, rfl, rfl⟩
    · exact wpAny_pyHash_int h
    · exact wpAny_pyHash_str h
  eqBool := fun hu hv h => by
    rcases keyIs_shape hu with ⟨i, t, rfl, rfl⟩ | ⟨x, t, rfl, rfl⟩
    · rcases keyIs_shape hv with ⟨j, u, rfl, rfl⟩ | ⟨y, u, rfl, rfl⟩
      · rw [key_ll] at h; exact wpAny_eqBool_int h
      · rw [key_lr] at h; exact SeqAt.EqAt.int_str i t y u _ _ _ _ h
    · rcases keyIs_shape hv with ⟨j, u, rfl, rfl⟩ | ⟨y, u, rfl, rfl⟩
      · rw [key_rl] at h; exact SeqAt.EqAt.str_int x t j u _ _ _ _ h
      · rw [key_rr] at h; exact wpAny_eqBool_str h
  «strs» := fun k x t v h => by
    rcases keyIs_shape h with ⟨i, u, rfl, e⟩ | ⟨y, u, rfl, e⟩
    · exact nomatch e
    · injection e with e1 _
      subst e1
      cases v <;> rfl
theorem mixKind_int (prog : Program) (w : World) (i : Int) (t : Tok) : (mixKind prog w).is (.inl i) (.int i t) = true := keyIs_int i t
theorem mixKind_str (prog : Program) (w : World) (x : Str) (t : Tok) : (mixKind prog w).is (.inr x) (.str x t) = true := keyIs_str x t
end L2
namespace L2
open PySem PySem.Spec PyProof.Rows
inductive V where
  | non | bl (b : Bool) | int (i : Int) | str (x : Str) | byt (b : Array UInt8) | flt (b : UInt64) | ref (a : Addr) | ty (n : String)
  deriving DecidableEq
def RelV : V → Value → Prop
  | .non, u => u = Value.none
  | .bl b, u => u = Value.bool b
  | .int i, u => ∃ t, u = Value.int i t
  | .str x, u => ∃ t, u = Value.str x t
  | .byt b, u => ∃ t, u = Value.bytes b t
  | .flt b, u => ∃ t, u = Value.float b t
  | .ref a, u => u = Value.ref a
  | .ty n, u => u = Value.type n
abbrev Vals : List V → List Value → Prop := Paired RelV
theorem Vals.length {xs : List V} {us : List Value} (r : Vals xs us) : xs.length = us.length := Paired.length r
theorem Vals.get : ∀ {xs : List V} {us : List Value} {i : Nat} {x : V}, Vals xs us → xs[i]? = some x → ∃ u, us[i]? = some u ∧ RelV x u
  | _, _, _, _, .nil, e => by simp at e
  | _, _, 0, _, .cons r _, e => by simp at e; subst e; exact ⟨_, rfl, r⟩
  | _, _, i + 1, x, .cons _ t, e => by
    obtain ⟨u, h1, h2⟩ := Vals.get (i := i) (x := x) t (by simpa using e)
    exact ⟨u, by simpa using h1, h2⟩
theorem Vals.set {x : V} {u : Value} (r : RelV x u) : ∀ {xs : List V} {us : List Value} (i : Nat), Vals xs us → Vals (xs.set i x) (us.set i u)
  | _, _, _, .nil => .nil
  | _, _, 0, .cons _ t => .cons r t
  | _, _, i + 1, .cons q t => .cons q (Vals.set r i t)
theorem Vals.append : ∀ {xs ys : List V} {us ws : List Value}, Vals xs us → Vals ys ws → Vals (xs ++ ys) (us ++ ws)
  | _, _, _, _, .nil, s => s
  | _, _, _, _, .cons r t, s => .cons r (Vals.append t s)
theorem Vals.take : ∀ {xs : List V} {us : List Value} (n : Nat), Vals xs us → Vals (xs.take n) (us.take n)
  | _, _, 0, _ => .nil
  | _, _, _ + 1, .nil => .nil
  | _, _, n + 1, .cons r t => .cons r (Vals.take n t)
theorem Vals.drop : ∀ {xs : List V} {us : List Value} (n : Nat), Vals xs us → Vals (xs.drop n) (us.drop n)
  | _, _, 0, r => r
  | _, _, _ + 1, .nil => .nil
  | _, _, n + 1, .cons _ t => Vals.drop n t
def RelO : Option V → Option Value → Prop
  | some v, some u => RelV v u
  | none, none => True
  | _, _ => False
def KV {κ : Type} : List (κ × V) → List (κ × Value) → Prop := Paired fun (p : κ × V) (q : κ × Value) => p.1 = q.1 ∧ RelV p.2 q.2
def kV : Key → V
  | .inl i => .int i
  | .inr x => .str x
inductive HO where
  /-- a list -/
  | lst (xs : List V)
  /-- a tuple (never changes) -/
  | tup (xs : List V)
  /-- a dict whose keys are ints and texts; one whose keys are tuples of ints and texts (the empty one is both) -/
  | dK (kvs : List (Key × V)) | dT (kvs : List (List Key × V))
  /-- a set of ints: its members, its size -/
  | set (S : Int → Bool) (n : Nat)
  /-- an instance of the class at C, its dict at dx, its attributes -/
  | ins (C dx : Addr) (fs : List (Str × V))
  /-- the dict of the instance at x -/
  | own (x : Addr)
  /-- the dict of an exception -/
  | xd (fs : List (Str × V))
  /-- a bound method, f of x -/
  | met (f x : Addr)
  /-- a range object lo, lo + 1, .. below hi -/
  | rng (lo hi : Int)
  /-- a thing that is known to the object (the script; a dict while a loop walks it): read, never written while it is so -/
  | frz (o : Obj) (u : HO)
  /-- a code object's table -/
  | tbl (ps : Array Value)
  /-- any other thing, by what is true of its one object (a def of one's own: SetO a S n := HO.ext fun h => ..) -/
  | ext (φ : Heap → Prop)
abbrev Hp := Addr → Option HO
def upd (H : Hp) (a : Addr) (o : HO) : Hp := fun b => if b = a then some o else H b
theorem upd_same {H : Hp} {a : Addr} {o : HO} : upd H a o a = some o := by unfold upd; rw [if_pos rfl]
theorem upd_ne {H : Hp} {a b : Addr} {o : HO} (h : b ≠ a) : upd H a o b = H b := by unfold upd; rw [if_neg h]
theorem upd_upd {H : Hp} {a : Addr} {o u : HO} : upd (upd H a o) a u = upd H a u := by
  funext b; unfold upd; split <;> rfl
theorem ne_of {H : Hp} {a b : Addr} {o u : HO} (h : H a = some o) (h' : H b = some u) (d : o ≠ u) : a ≠ b := by
  intro e; subst e; rw [h] at h'; exact d (Option.some.inj h')
theorem ne_of_none {H : Hp} {a b : Addr} {o : HO} (h : H a = some o) (h' : H b = none) : a ≠ b := by
  intro e; subst e; rw [h] at h'; cases h'
section
variable (P : Program) (w : World)
def ObjOk (H : Hp) (h : Heap) (a : Addr) : HO → Prop
  | .lst xs => xs.length ≤ sizeLine ∧ ∃ (its : List Value) (n : Nat), Vals xs its ∧ h.get? a = some { cls := .type "list", data := .seq its.toArray n }
  | .tup xs => xs.length ≤ sizeLine ∧ ∃ its : List Value, Vals xs its ∧ IsTup h a its.toArray
  | .dK kvs => kvs.length ≤ sizeLine ∧ (a == sysModules) = false ∧ ∃ vs, KV kvs vs ∧ h.DictOf (mixKind P w) a vs
  | .dT kvs => kvs.length ≤ sizeLine ∧ (a == sysModules) = false ∧ ∃ xs : List (List Key × Addr × Value),
      Paired (fun (p : List Key × V) (q : List Key × Addr × Value) => p.1 = q.1 ∧ H q.2.1 = some (.tup (p.1.map kV)) ∧ RelV p.2 q.2.2) kvs xs ∧
      ∃ o es ep, h.get? a = some o ∧ o.ExactDict ∧ o.data = .dict es ep ∧ es.toList = xs.map (entryOfKey (tupleKind (mixKind P w))) ∧ (xs.map (·.1)).Nodup
  | .set S n => h.SetOf (intKind P w) a S n
  | .ins C dx fs => H dx = some (.own a) ∧ fs.length ≤ 1000 ∧ dx ≠ a ∧ h.get? a = some (PySem.W.instObj C dx) ∧
      ∃ mA, h.Ns1 dx mA ∧ (∀ f, RelO (fs.lookup f) (mA f)) ∧ PySem.Within mA (fs.map (·.1))
  | .own _ => ∃ o, h.get? a = some o
  | .xd fs => ∃ mA, h.Ns1 a mA ∧ ∀ f, RelO (fs.lookup f) (mA f)
  | .rng lo hi => ∃ t u v, h.get? a = some { cls := .type "range", data := .fields #[.int lo t, .int hi u, .int 1 v] }
  | .frz o u => h.get? a = some o ∧ ObjOk H h a u
  | .tbl ps => h.get? a = some { cls := .none, data := .fields ps }
  | .met f x => h.get? a = some (PySem.W.methodObj (.ref f) (.ref x))
  | .ext φ => φ h ∧ (∃ o, h.get? a = some o) ∧ ∀ h1 h2 : Heap, φ h1 → (∀ o, h1.get? a = some o → h2.get? a = some o) → φ h2
def HOk (H : Hp) (h : Heap) : Prop := ∀ a o, H a = some o → ObjOk P w H h a o
end
section
variable {P : Program} {w : World} {H H' : Hp} {h h' : Heap} {a : Addr} {o : HO}
theorem ObjOk.lt (x : ObjOk P w H h a o) : a < h.objs.size := by
  cases o with
  | lst xs => obtain ⟨_, _, _, _, e⟩ := x; exact Heap.lt_size e
  | tup xs => obtain ⟨_, _, _, p⟩ := x; exact p.lt
  | dK kvs => obtain ⟨_, _, _, _, o, _, _, e, _⟩ := x; exact Heap.lt_size e
  | dT kvs => obtain ⟨_, _, _, _, o, _, _, e, _⟩ := x; exact Heap.lt_size e
  | set S n => obtain ⟨o, _, _, _, e, _⟩ := x; exact Heap.lt_size e
  | ins C dx fs => obtain ⟨_, _, _, e, _⟩ := x; exact Heap.lt_size e
  | own y => obtain ⟨_, e⟩ := x; exact Heap.lt_size e
  | xd fs => obtain ⟨_, ⟨_, _, _, e, _⟩, _⟩ := x; exact Heap.lt_size e
  | rng lo hi => obtain ⟨_, _, _, e⟩ := x; exact Heap.lt_size e
  | frz ob u => obtain ⟨e, _⟩ := x; exact Heap.lt_size e
  | tbl ps => exact Heap.lt_size (show h.get? a = some _ from x)
  | met f y => exact Heap.lt_size (show h.get? a = some _ from x)
  | ext φ => obtain ⟨_, ⟨_, e⟩, _⟩ := x; exact Heap.lt_size e
theorem Paired.mapP {α β : Type} {F G : α → β → Prop} : ∀ {l₁ : List α} {l₂ : List β}, Paired F l₁ l₂ → (∀ a b, F a b → G a b) → Paired G l₁ l₂
  | _, _, .nil, _ => .nil
  | _, _, .cons r t, f => .cons (f _ _ r) (Paired.mapP t f)
theorem ObjOk.stay (x : ObjOk P w H h a o) (k : ∀ b u, (b = a ∨ H b = some (.own a)) → h.get? b = some u → h'.get? b = some u)
    (ho : ∀ b, H b = some (.own a) → H' b = some (.own a)) (ht : ∀ b xs, H b = some (.tup xs) → H' b = some (.tup xs)) : ObjOk P w H' h' a o := by
  induction o with
  | lst xs => obtain ⟨z, its, n, r, e⟩ := x; exact ⟨z, its, n, r, k _ _ (.inl rfl) e⟩
  | tup xs => obtain ⟨z, its, r, ob, e, c⟩ := x; exact ⟨z, its, r, ob, k _ _ (.inl rfl) e, c⟩
  | dK kvs => obtain ⟨z, y, vs, r, ob, es, ep, e, c⟩ := x; exact ⟨z, y, vs, r, ob, es, ep, k _ _ (.inl rfl) e, c⟩
  | dT kvs =>
    obtain ⟨z, y, xs, r, ob, es, ep, e, c⟩ := x
    exact ⟨z, y, xs, Paired.mapP r fun p q z => ⟨z.1, ht _ _ z.2.1, z.2.2⟩, ob, es, ep, k _ _ (.inl rfl) e, c⟩
  | set S n => obtain ⟨ob, es, ep, t, e, c⟩ := x; exact ⟨ob, es, ep, t, k _ _ (.inl rfl) e, c⟩
  | ins C dx fs =>
    obtain ⟨d, z, ne, e, mA, ⟨od, es, ep, e2, c⟩, r⟩ := x
    exact ⟨ho _ d, z, ne, k _ _ (.inl rfl) e, mA, ⟨od, es, ep, k _ _ (.inr d) e2, c⟩, r⟩
  | own y => obtain ⟨ob, e⟩ := x; exact ⟨ob, k _ _ (.inl rfl) e⟩
  | xd fs => obtain ⟨mA, ⟨od, es, ep, e, c⟩, r⟩ := x; exact ⟨mA, ⟨od, es, ep, k _ _ (.inl rfl) e, c⟩, r⟩
  | rng lo hi => obtain ⟨t, u, v, e⟩ := x; exact ⟨t, u, v, k _ _ (.inl rfl) e⟩
  | frz ob u ih => obtain ⟨e, q⟩ := x; exact ⟨k _ _ (.inl rfl) e, ih q⟩
  | tbl ps =>
    have e : h.get? a = some { cls := .none, data := .fields ps } := x
    show h'.get? a = some { cls := .none, data := .fields ps }
    exact k a _ (.inl rfl) e
  | met f y =>
    have e : h.get? a = some (PySem.W.methodObj (.ref f) (.ref y)) := x
    show h'.get? a = some (PySem.W.methodObj (.ref f) (.ref y))
    exact k a _ (.inl rfl) e
  | ext φ => obtain ⟨p, ⟨o, e⟩, st⟩ := x; exact ⟨st _ _ p fun o q => k _ _ (.inl rfl) q, ⟨o, k _ _ (.inl rfl) e⟩, st⟩
theorem HOk.lt (x : HOk P w H h) (e : H a = some o) : a < h.objs.size := (x a o e).lt
theorem HOk.fresh (x : HOk P w H h) (e : h.objs.size ≤ a) : H a = none := by
  cases q : H a with
  | none => rfl
  | some u => exact absurd (Nat.lt_of_lt_of_le (x.lt q) e) (Nat.lt_irrefl _)
theorem HOk.kept (x : HOk P w H h) (k : ∀ b u, h.get? b = some u → h'.get? b = some u) : HOk P w H h' := fun a o e =>
  (x a o e).stay (fun b u _ q => k b u q) (fun _ q => q) fun _ _ q => q
theorem HOk.laid (x : HOk P w H h) (k : ∀ b u, h.get? b = some u → h'.get? b = some u) (hp : h.objs.size ≤ a) (new : ObjOk P w (upd H a o) h' a o) : HOk P w (upd H a o) h' := fun b u e => by
  have hn := x.fresh hp
  by_cases hb : b = a
  · subst hb; rw [upd_same] at e; cases e; exact new
  · rw [upd_ne hb] at e
    exact (x b u e).stay (fun c v _ q => k c v q) (fun c q => by rw [upd_ne (ne_of_none q hn)]; exact q) fun c xs q => by rw [upd_ne (ne_of_none q hn)]; exact q
end
def Rd (H : Hp) (a : Addr) (u : HO) : Prop := H a = some u ∨ ∃ o, H a = some (.frz o u)
theorem Rd.ok {P : Program} {w : World} {H : Hp} {h : Heap} {a : Addr} {u : HO} (r : Rd H a u) (x : HOk P w H h) : ObjOk P w H h a u := by
  rcases r with r | ⟨o, r⟩
  · exact x a u r
  · obtain ⟨_, q⟩ := x a _ r
    exact q
def Mut : Option HO → Prop
  | some (.lst _) => True
  | some (.dK _) => True
  | some (.dT _) => True
  | some (.set _ _) => True
  | some (.ins _ _ _) => True
  | some (.ext _) => True
  | _ => False
section
variable {P : Program} {w : World} {H : Hp} {h h' : Heap} {x e : Addr} {o' : HO}
theorem HOk.write (ok : HOk P w H h) (mu : Mut (H x)) (he : e = x ∨ H e = some (.own x)) (k : ∀ b u, b ≠ e → h.get? b = some u → h'.get? b = some u) (heo : ∃ u, h'.get? e = some u)
    (new : ObjOk P w (upd H x o') h' x o') : HOk P w (upd H x o') h' := fun b u q => by
  have nown : ∀ c y, H c = some (.own y) → c ≠ x := fun c y r z => by subst z; rw [r] at mu; exact mu
  have ntup : ∀ c xs, H c = some (.tup xs) → c ≠ x := fun c xs r z => by subst z; rw [r] at mu; exact mu
  by_cases hb : b = x
  · subst hb; rw [upd_same] at q; cases q; exact new
  · rw [upd_ne hb] at q
    by_cases hbe : b = e
    · have q' : H b = some (.own x) := by
        rcases he with z | z
        · exact absurd (hbe.trans z) hb
        · rw [hbe]; exact z
      rw [q] at q'; cases q'
      obtain ⟨v, hv⟩ := heo
      exact ⟨v, by rw [hbe]; exact hv⟩
    · refine (ok b u q).stay (fun c v hc r => k c v ?_ r) (fun c r => by rw [upd_ne (nown c b r)]; exact r) fun c xs r => by rw [upd_ne (ntup c xs r)]; exact r
      rcases hc with rfl | hc
      · exact hbe
      · rintro rfl
        rcases he with z | z
        · exact nown c b hc z
        · rw [hc] at z; cases z; exact hb rfl
end
structure Un (fs ex : List Addr) (H H' : Hp) (h h' : Heap) : Prop where
  keep : ∀ b o, h.get? b = some o → H b = none → b ∉ fs → b ∉ ex → h'.get? b = some o
  slot : ∀ b o, h.get? b = some o → H b = none → b ∈ fs → b ∉ ex → ∃ sl, h'.get? b = some { o with slots := sl }
  free : ∀ b o, h.get? b = some o → H b = none → b ∉ ex → H' b = none
  there : ∀ b o, h.get? b = some o → b ∉ ex → ∃ o', h'.get? b = some o'
  tups : ∀ b xs, H b = some (.tup xs) → H' b = some (.tup xs)
  frzs : ∀ b o u, H b = some (.frz o u) → H' b = some (.frz o u)
  tbls : ∀ b ps, H b = some (.tbl ps) → ∃ more, H' b = some (.tbl (ps ++ more))
section
variable {fs fs' ex ex' : List Addr} {H H1 H2 : Hp} {h h1 h2 h' : Heap} {a x e : Addr} {o : HO}
theorem Un.any (u : Un fs ex H H1 h h1) {b : Addr} {ob : Obj} (q : h.get? b = some ob) (n : H b = none) (hx : b ∉ ex) : ∃ sl, h1.get? b = some { ob with slots := sl } := by
  by_cases hb : b ∈ fs
  · exact u.slot b ob q n hb hx
  · exact ⟨ob.slots, u.keep b ob q n hb hx⟩
theorem Un.kept (k : ∀ b u, h.get? b = some u → h'.get? b = some u) : Un fs ex H H h h' :=
  ⟨fun b ob q _ _ _ => k b ob q, fun b ob q _ _ _ => ⟨ob.slots, k b ob q⟩, fun _ _ _ n _ => n, fun b ob q _ => ⟨ob, k b ob q⟩, fun _ _ q => q, fun _ _ _ q => q, fun _ ps q => ⟨#[], by rw [q]; simp⟩⟩
theorem Un.refl : Un fs ex H H h h := Un.kept fun _ _ q => q
theorem Un.laid (k : ∀ b u, h.get? b = some u → h'.get? b = some u) (hp : h.objs.size ≤ a) (hn : H a = none) : Un fs ex H (upd H a o) h h' where
  keep := fun b u q _ _ _ => k b u q
  slot := fun b u q _ _ _ => ⟨u.slots, k b u q⟩
  free := fun b u q n _ => by rw [upd_ne (Nat.ne_of_lt (Nat.lt_of_lt_of_le (Heap.lt_size q) hp))]; exact n
  there := fun b u q _ => ⟨u, k b u q⟩
  tups := fun b xs q => by rw [upd_ne (ne_of_none q hn)]; exact q
  frzs := fun b u xs q => by rw [upd_ne (ne_of_none q hn)]; exact q
  tbls := fun b ps q => ⟨#[], by rw [upd_ne (ne_of_none q hn), q]; simp⟩
theorem Un.write (mu : Mut (H x)) (he : e = x ∨ H e = some (.own x)) (k : ∀ b u, b ≠ e → h.get? b = some u → h'.get? b = some u) (heo : ∃ u, h'.get? e = some u) : Un fs ex H (upd H x o) h h' := by
  have hx : ∀ b, H b = none → b ≠ x := fun b n z => by subst z; rw [n] at mu; exact mu
  have hb : ∀ b, H b = none → b ≠ e := fun b n z => by
    subst z
    rcases he with r | r
    · exact hx b n r
    · rw [n] at r; cases r
  have hm : ∀ b u, H b = some u → ¬ Mut (some u) → b ≠ x := fun b u q nm z => by subst z; rw [q] at mu; exact nm mu
  refine ⟨fun b u q n _ _ => k b u (hb b n) q, fun b u q n _ _ => ⟨u.slots, k b u (hb b n) q⟩, fun b u q n _ => by rw [upd_ne (hx b n)]; exact n, fun b u q _ => ?_,
    fun b xs q => by rw [upd_ne (hm b _ q fun z => z)]; exact q, fun b u xs q => by rw [upd_ne (hm b _ q fun z => z)]; exact q, fun b ps q => ⟨#[], by rw [upd_ne (hm b _ q fun z => z), q]; simp⟩⟩
  by_cases hbe : b = e
  · subst hbe; exact heo
  · exact ⟨u, k b u hbe q⟩
end
def trk (h : Heap) (H : Hp) : List Addr := (List.range h.objs.size).filter fun a => (H a).isSome
def hidT (h : Heap) (H : Hp) : Heap := PySem.W.hideAll h (trk h H)
theorem hidT_size (h : Heap) (H : Hp) : (hidT h H).objs.size = h.objs.size := PySem.W.hideAll_size _ _
theorem hidT_get {h : Heap} {H : Hp} {b : Addr} {o : Obj} (e : h.get? b = some o) (n : H b = none) : (hidT h H).get? b = some o :=
  PySem.W.hideAll_get _ e fun hm => by
    have q : (H b).isSome = true := (List.mem_filter.mp hm).2
    rw [n] at q; simp at q
theorem of_hidT {h : Heap} {H : Hp} {b : Addr} {o : Obj} (e : (hidT h H).get? b = some o) : h.get? b = some o ∧ H b = none := by
  have e' : h.get? b = some o := PySem.W.of_hideAll (trk h H) e
  refine ⟨e', ?_⟩
  cases q : H b with
  | none => rfl
  | some x =>
    have hm : b ∈ trk h H := List.mem_filter.mpr ⟨List.mem_range.mpr (Heap.lt_size e'), by simp [q]⟩
    have z : (hidT h H).get? b = none := PySem.W.hideAll_none (trk h H) hm
    rw [z] at e; cases e
end L2
namespace L2
open PySem PySem.Spec PyProof.Rows
structure Mod (K : PySem.W.Frag) (mg : Str → Option Value) (base : Heap) : Prop where
  kin : K.In base
  glob : base.Ns mainGlobals mg
  blt : ∃ mb, base.Ns builtinsNs mb ∧ ∀ x : Str, x ≠ "__name__" → mb x = bootBuiltins x
  nolimit : base.NoLimit
structure Cx where
  prog : Program
  w : World
  K : PySem.W.Frag
  mg : Str → Option Value
  base : Heap
  A : Around
  N : List Str
  s₀ : Shared
  H₀ : Hp
  env : Env
  outer : List Env
  stack : List Env
  ex : List Addr
  fn : Str → Bool
  calm : Bool
  pn : List (Addr × Obj)
  xe : Value → Shared → Prop
def frs (l : List Env) : List Addr := l.filterMap (·.frame)
abbrev Cx.fs (X : Cx) : List Addr := frs X.outer
def Vis (sc : Scope) (x : Str) : Prop := sc.names.lookup x = some .local ∨ sc.names.lookup x = some .cell ∨ sc.names.lookup x = some .free
def Loc (sc : Scope) (x : Str) : Prop := sc.names.lookup x = some .local ∨ sc.names.lookup x = some .cell
def Look (env : Env) (h : Heap) (m : Str → Option Value) (x : Str) (u : Value) : Prop :=
  (env.kindOf x = some .local ∧ m x = some u) ∨ ((env.kindOf x = some .cell ∨ env.kindOf x = some .free) ∧ ∃ c, env.cells.lookup x = some c ∧ h.IsCell c (some u))
structure Cx.Ok (X : Cx) : Prop where
  mod : Mod X.K X.mg X.base
  kind : X.env.scope.kind = .function
  glob : X.env.globals = mainGlobals
  blt : X.env.builtins = builtinsNs
  above : X.s₀.heap.objs.size ≤ X.env.locals
  inj : ∀ x y c, X.env.cells.lookup x = some c → X.env.cells.lookup y = some c → x = y
  has : ∀ x, (X.env.kindOf x = some .cell ∨ X.env.kindOf x = some .free) → ∃ c, X.env.cells.lookup x = some c
  cab : ∀ x c, X.fn x = true → X.env.cells.lookup x = some c → X.s₀.heap.objs.size ≤ c
  hd : X.calm = true → X.A.handled = none
  frames : X.A.frames = some X.stack
  stk : X.stack = X.outer ∨ (X.stack = X.env :: X.outer ∧ X.env.frame = some X.env.locals)
  exf : ∀ b ∈ X.ex, b ≠ X.env.locals ∧ ∀ x c, X.env.cells.lookup x = some c → c ≠ b
  bs : ∀ b o, X.base.get? b = some o → X.s₀.heap.get? b = some o ∧ X.H₀ b = none
  bsz : X.base.objs.size ≤ X.s₀.heap.objs.size
  noex : ∀ b o, X.base.get? b = some o → b ∉ X.ex
  exfs : ∀ b ∈ X.ex, b ∉ X.fs
  funs : X.s₀.heap.FunFrames X.base X.outer
  frf : ∀ b ∈ X.fs, X.H₀ b = none
structure Inv (X : Cx) (pins : List (Addr × Obj)) (σ : List (Option V)) (H : Hp) (s : Shared) : Prop where
  ok : X.Ok
  os : s.os = X.s₀.os
  bare : AllBare s.gens
  base : Un X.fs X.ex X.H₀ H X.s₀.heap s.heap
  loc : ∃ m, s.heap.Ns X.env.locals m ∧ ∀ (i : Nat) (x : Str) (v : V), X.N[i]? = some x → σ[i]? = some (some v) → Vis X.env.scope x → ∃ u, RelV v u ∧ Look X.env s.heap m x u
  cell : ∀ x c, X.env.cells.lookup x = some c → ∃ v, s.heap.IsCell c v
  free : H X.env.locals = none
  freeC : ∀ x c, X.env.cells.lookup x = some c → H c = none
  pin : ∀ p ∈ X.pn ++ pins, s.heap.get? p.1 = some p.2 ∧ H p.1 = none ∧ p.1 ≠ X.env.locals ∧ p.1 ∉ X.fs ∧ ∀ v, p.2.data ≠ .cell v
  hok : HOk X.prog X.w H s.heap
  len : σ.length = X.N.length
section
variable {X : Cx} {pins : List (Addr × Obj)} {σ : List (Option V)} {H H' : Hp} {s : Shared} {h' : Heap}
theorem Cx.Ok.nofr (ok : X.Ok) {b : Addr} {o : Obj} (e : X.base.get? b = some o) : b ∉ X.fs := fun hb => by
  have := (ok.funs.mem hb).1
  rw [e] at this; cases this
theorem Inv.bs (I : Inv X pins σ H s) : ∀ b o, X.base.get? b = some o → s.heap.get? b = some o ∧ H b = none := fun b o e =>
  ⟨I.base.keep b o (I.ok.bs b o e).1 (I.ok.bs b o e).2 (I.ok.nofr e) (I.ok.noex b o e), I.base.free b o (I.ok.bs b o e).1 (I.ok.bs b o e).2 (I.ok.noex b o e)⟩
theorem Inv.bk (I : Inv X pins σ H s) : ∀ b o, X.base.get? b = some o → s.heap.get? b = some o := fun b o e => (I.bs b o e).1
theorem Inv.mod (I : Inv X pins σ H s) : Mod X.K X.mg X.base := I.ok.mod
theorem Inv.kIn (I : Inv X pins σ H s) : X.K.In s.heap := I.ok.mod.kin.keeps I.bk
theorem Inv.fr (I : Inv X pins σ H s) : ∃ m, Fr X.base X.env.locals s.heap m :=
  let ⟨m, hn, _⟩ := I.loc
  ⟨m, hn, I.bk, Nat.le_trans I.ok.bsz I.ok.above⟩
theorem Inv.lt (I : Inv X pins σ H s) : X.env.locals < s.heap.objs.size := let ⟨_, hn, _⟩ := I.loc; hn.lt
theorem Inv.sz (I : Inv X pins σ H s) : X.s₀.heap.objs.size ≤ s.heap.objs.size := Nat.le_trans I.ok.above (Nat.le_of_lt I.lt)
theorem Inv.nofs (I : Inv X pins σ H s) {a : Addr} (h : s.heap.objs.size ≤ a) : a ∉ X.fs := fun hb => by
  obtain ⟨_, o, ho, _⟩ := I.ok.funs.mem hb
  exact absurd (Nat.lt_of_lt_of_le (Heap.lt_size ho) (Nat.le_trans I.sz h)) (Nat.lt_irrefl _)
theorem Inv.cne (I : Inv X pins σ H s) : ∀ x c, X.env.cells.lookup x = some c → c ≠ X.env.locals := fun x c e z => by
  obtain ⟨v, o, ho, hd⟩ := I.cell x c e
  obtain ⟨m, ⟨o', es, ep, ho', hd', _⟩, _⟩ := I.loc
  rw [z, ho'] at ho; cases ho; rw [hd'] at hd; cases hd
theorem Inv.funs (I : Inv X pins σ H s) : s.heap.FunFrames X.base X.outer := by
  have all : ∀ (l : List Env), (∀ b ∈ frs l, b ∈ X.fs) → X.s₀.heap.FunFrames X.base l → s.heap.FunFrames X.base l := by
    intro l
    induction l with
    | nil => intro _ _; trivial
    | cons env r ih =>
      intro hs hl
      obtain ⟨hk, ⟨L, o, hf, hn, ho, hd⟩, hr⟩ := hl
      have hL : L ∈ X.fs := hs L (by unfold frs; rw [List.filterMap_cons, hf]; exact List.mem_cons_self)
      obtain ⟨sl, e⟩ := I.base.slot L o ho (I.ok.frf L hL) hL fun z => I.ok.exfs L z hL
      exact ⟨hk, ⟨L, _, hf, hn, e, hd⟩, ih (fun b hb => hs b (by unfold frs; rw [List.filterMap_cons, hf]; exact List.mem_cons_of_mem _ hb)) hr⟩
  exact all X.outer (fun _ hb => hb) I.ok.funs
theorem Inv.stack (I : Inv X pins σ H s) : s.heap.FunFrames X.base X.stack := by
  rcases I.ok.stk with e | ⟨e, hf⟩
  · rw [e]; exact I.funs
  · rw [e]
    obtain ⟨m, hn, _⟩ := I.loc
    refine .cons (by rw [I.ok.kind]; decide) hf hn ?_ I.funs
    exact Heap.get?_none_of_le (Nat.le_trans I.ok.bsz I.ok.above)
theorem Inv.stkSub (I : Inv X pins σ H s) : ∀ b ∈ frs X.stack, b ∈ X.env.locals :: X.fs := fun b hb => by
  rcases I.ok.stk with e | ⟨e, hf⟩
  · rw [e] at hb; exact List.mem_cons_of_mem _ hb
  · rw [e] at hb
    unfold frs at hb
    rw [List.filterMap_cons, hf] at hb
    exact hb
theorem Inv.stkFree (I : Inv X pins σ H s) : ∀ b ∈ frs X.stack, H b = none := fun b hb => by
  rcases List.mem_cons.mp (I.stkSub b hb) with e | hb
  · rw [e]; exact I.free
  · obtain ⟨_, o, ho, _⟩ := I.ok.funs.mem hb
    exact I.base.free b o ho (I.ok.frf b hb) fun z => I.ok.exfs b z hb
theorem Inv.step {g' : Array GenState} {t' : Nat} {d' : Drawn} {ch : List Addr} (I : Inv X pins σ H s)
    (hch : ∀ b ∈ ch, (b ∈ X.ex ∨ X.s₀.heap.objs.size ≤ b) ∧ b ≠ X.env.locals ∧ (∀ x c, X.env.cells.lookup x = some c → c ≠ b) ∧ ∀ p ∈ X.pn ++ pins, p.1 ≠ b)
    (keep : ∀ b o, b ≠ X.env.locals → b ∉ X.fs → b ∉ ch → s.heap.get? b = some o → H b = none → h'.get? b = some o)
    (slot : ∀ b o, b ≠ X.env.locals → b ∈ X.fs → b ∉ ch → s.heap.get? b = some o → H b = none → ∃ sl, h'.get? b = some { o with slots := sl }) (free : ∀ b o, b ∉ ch → s.heap.get? b = some o → H b = none → H' b = none)
    (there : ∀ b o, b ∉ ch → s.heap.get? b = some o → ∃ o', h'.get? b = some o')
    (tups : ∀ b xs, H b = some (.tup xs) → H' b = some (.tup xs)) (frzs : ∀ b o u, H b = some (.frz o u) → H' b = some (.frz o u)) (tbls : ∀ b ps, H b = some (.tbl ps) → ∃ more, H' b = some (.tbl (ps ++ more)))
    (ns : ∀ m, s.heap.Ns X.env.locals m → h'.Ns X.env.locals m) (hok : HOk X.prog X.w H' h') (hg : AllBare g') :
    Inv X pins σ H' { s with heap := h', gens := g', drawn := d', toks := t' } := by
  have neL : ∀ b o, X.s₀.heap.get? b = some o → b ≠ X.env.locals := fun b o e => Nat.ne_of_lt (Nat.lt_of_lt_of_le (Heap.lt_size e) I.ok.above)
  have neC : ∀ b o, X.s₀.heap.get? b = some o → b ∉ X.ex → b ∉ ch := fun b o e hx hb => by
    rcases (hch b hb).1 with z | z
    · exact hx z
    · exact absurd (Nat.lt_of_lt_of_le (Heap.lt_size e) z) (Nat.lt_irrefl _)
  have cellK : ∀ x c, X.env.cells.lookup x = some c → ∀ v, s.heap.IsCell c v → h'.IsCell c v := fun x c e v ⟨o, ho, hd⟩ => by
    have nch : c ∉ ch := fun z => (hch c z).2.2.1 x c e rfl
    by_cases hc : c ∈ X.fs
    · obtain ⟨sl, q⟩ := slot c o (I.cne x c e) hc nch ho (I.freeC x c e)
      exact ⟨_, q, hd⟩
    · exact ⟨o, keep c o (I.cne x c e) hc nch ho (I.freeC x c e), hd⟩
  refine ⟨I.ok, I.os, hg, ⟨fun b o e n hb hx => ?_, fun b o e n hb hx => ?_, fun b o e n hx => ?_, fun b o e hx => ?_, fun b xs e => tups b xs (I.base.tups b xs e), fun b o xs e => frzs b o xs (I.base.frzs b o xs e), fun b ps e => ?_⟩, ?_, fun x c e => ?_, ?_, fun x c e => ?_, fun p hp => ?_, hok, I.len⟩
  · exact keep b o (neL b o e) hb (neC b o e hx) (I.base.keep b o e n hb hx) (I.base.free b o e n hx)
  · obtain ⟨sl, e1⟩ := I.base.slot b o e n hb hx
    obtain ⟨sl', e2⟩ := slot b _ (neL b o e) hb (neC b o e hx) e1 (I.base.free b o e n hx)
    exact ⟨sl', e2⟩
  · obtain ⟨o', e1⟩ := I.base.there b o e hx
    exact free b o' (neC b o e hx) e1 (I.base.free b o e n hx)
  · obtain ⟨o', e1⟩ := I.base.there b o e hx
    exact there b o' (neC b o e hx) e1
  · obtain ⟨m1, e1⟩ := I.base.tbls b ps e
    obtain ⟨m2, e2⟩ := tbls b _ e1
    exact ⟨m1 ++ m2, by rw [e2, Array.append_assoc]⟩
  · obtain ⟨m, hn, hl⟩ := I.loc
    refine ⟨m, ns m hn, fun i x v e1 e2 e3 => ?_⟩
    obtain ⟨u, r, l⟩ := hl i x v e1 e2 e3
    refine ⟨u, r, ?_⟩
    rcases l with l | ⟨k, c, e, z⟩
    · exact .inl l
    · exact .inr ⟨k, c, e, cellK x c e _ z⟩
  · obtain ⟨v, z⟩ := I.cell x c e
    exact ⟨v, cellK x c e v z⟩
  · obtain ⟨m, ⟨o, _, _, ho, _⟩, _⟩ := I.loc
    exact free _ o (fun z => (hch _ z).2.1 rfl) ho I.free
  · obtain ⟨v, o, ho, hd⟩ := I.cell x c e
    exact free c o (fun z => (hch c z).2.2.1 x c e rfl) ho (I.freeC x c e)
  · obtain ⟨e, n, ne, nf, d⟩ := I.pin p hp
    have nch : p.1 ∉ ch := fun z => (hch p.1 z).2.2.2 p hp rfl
    exact ⟨keep p.1 p.2 ne nf nch e n, free p.1 p.2 nch e n, ne, nf, d⟩
theorem Inv.un {t' : Nat} (I : Inv X pins σ H s) (u : Un X.fs [] H H' s.heap h') (hok : HOk X.prog X.w H' h') : Inv X pins σ H' { s with heap := h', toks := t' } := by
  obtain ⟨m, ⟨o, es, ep, ho, r⟩, _⟩ := id I.loc
  obtain ⟨sl, hL⟩ := u.any ho I.free (by simp)
  exact I.step (g' := s.gens) (d' := s.drawn) (ch := []) (fun _ z => nomatch z) (fun b o _ hb _ e n => u.keep b o e n hb (by simp)) (fun b o _ hb _ e n => u.slot b o e n hb (by simp)) (fun b o _ e n => u.free b o e n (by simp)) (fun b o _ e => u.there b o e (by simp)) u.tups u.frzs u.tbls (fun m' hm => by
    obtain ⟨o', es', ep', ho', r'⟩ := hm
    rw [ho] at ho'; cases ho'
    exact ⟨_, es', ep', hL, r'⟩) hok I.bare
theorem Inv.call {g' : Array GenState} {t' : Nat} {d' : Drawn} {ch : List Addr} (I : Inv X pins σ H s) (u : Un (frs X.stack) ch H H' s.heap h') (hok : HOk X.prog X.w H' h') (hg : AllBare g')
    (hch : ∀ b ∈ ch, (b ∈ X.ex ∨ X.s₀.heap.objs.size ≤ b) ∧ b ≠ X.env.locals ∧ (∀ x c, X.env.cells.lookup x = some c → c ≠ b) ∧ ∀ p ∈ X.pn ++ pins, p.1 ≠ b) :
    Inv X pins σ H' { s with heap := h', gens := g', drawn := d', toks := t' } := by
  obtain ⟨m, ⟨o, es, ep, ho, r⟩, _⟩ := id I.loc
  obtain ⟨sl, hL⟩ := u.any ho I.free fun z => (hch _ z).2.1 rfl
  exact I.step (ch := ch) hch (fun b o hL hb hc e n => u.keep b o e n (fun z => (List.mem_cons.mp (I.stkSub b z)).elim hL hb) hc) (fun b o _ _ hc e n => u.any e n hc) (fun b o hc e n => u.free b o e n hc) (fun b o hc e => u.there b o e hc) u.tups u.frzs u.tbls (fun m' hm => by
    obtain ⟨o', es', ep', ho', r'⟩ := hm
    rw [ho] at ho'; cases ho'
    exact ⟨_, es', ep', hL, r'⟩) hok hg
theorem Inv.turned {t' : Nat} {it : Addr} (I : Inv X pins σ H s) (k : ∀ b o, b ≠ it → s.heap.get? b = some o → h'.get? b = some o) (hn : H it = none) (hL : it ≠ X.env.locals)
    (h1 : it ∈ X.ex ∨ X.s₀.heap.objs.size ≤ it) (h2 : ∀ x c, X.env.cells.lookup x = some c → c ≠ it) (h3 : ∀ p ∈ X.pn ++ pins, p.1 ≠ it) : Inv X pins σ H { s with heap := h', toks := t' } := by
  have nit : ∀ b u, H b = some u → b ≠ it := fun b u e z => by rw [z, hn] at e; cases e
  refine I.step (g' := s.gens) (d' := s.drawn) (ch := [it]) (fun b hb => ?_) (fun b o _ _ hc e _ => k b o (fun z => hc (by simp [z])) e) (fun b o _ _ hc e _ => ⟨o.slots, k b o (fun z => hc (by simp [z])) e⟩) (fun _ _ _ _ n => n)
    (fun b o hc e => ⟨o, k b o (fun z => hc (by simp [z])) e⟩) (fun _ _ e => e) (fun _ _ _ e => e) (fun b ps e => ⟨#[], by rw [e]; simp⟩) (fun m hm => ?_) (fun b u e => ?_) I.bare
  · have e : b = it := by simpa using hb
    subst e
    exact ⟨h1, hL, h2, h3⟩
  · obtain ⟨o, es, ep, ho, r⟩ := hm
    exact ⟨o, es, ep, k _ o (Ne.symm hL) ho, r⟩
  · refine (I.hok b u e).stay (fun c v hc q => k c v ?_ q) (fun _ q => q) fun _ _ q => q
    rcases hc with z | z
    · rw [z]; exact nit b u e
    · exact nit c _ z
theorem Inv.tok (I : Inv X pins σ H s) (t : Nat) : Inv X pins σ H { s with toks := t } := I.un (h' := s.heap) (t' := t) Un.refl I.hok
theorem Inv.kept {t' : Nat} (I : Inv X pins σ H s) (k : ∀ b u, s.heap.get? b = some u → h'.get? b = some u) : Inv X pins σ H { s with heap := h', toks := t' } := I.un (Un.kept k) (I.hok.kept k)
theorem Inv.laid {a : Addr} {o : HO} {t' : Nat} (I : Inv X pins σ H s) (k : ∀ b u, s.heap.get? b = some u → h'.get? b = some u) (hp : s.heap.objs.size ≤ a) (new : ObjOk X.prog X.w (upd H a o) h' a o) :
    Inv X pins σ (upd H a o) { s with heap := h', toks := t' } := I.un (Un.laid k hp (I.hok.fresh hp)) (I.hok.laid k hp new)
theorem Inv.write {x e : Addr} {o : HO} {t' : Nat} (I : Inv X pins σ H s) (mu : Mut (H x)) (he : e = x ∨ H e = some (.own x)) (k : ∀ b u, b ≠ e → s.heap.get? b = some u → h'.get? b = some u) (heo : ∃ u, h'.get? e = some u)
    (new : ObjOk X.prog X.w (upd H x o) h' x o) : Inv X pins σ (upd H x o) { s with heap := h', toks := t' } := I.un (Un.write mu he k heo) (I.hok.write mu he k heo new)
theorem Inv.weak {σ' : List (Option V)} (I : Inv X pins σ H s) (hl : σ'.length = σ.length) (w : ∀ (i : Nat) v, σ'[i]? = some (some v) → σ[i]? = some (some v)) : Inv X pins σ' H s :=
  ⟨I.ok, I.os, I.bare, I.base, let ⟨m, hn, hl'⟩ := I.loc; ⟨m, hn, fun i x v e1 e2 e3 => hl' i x v e1 (w i v e2) e3⟩, I.cell, I.free, I.freeC, I.pin, I.hok, hl.trans I.len⟩
theorem Inv.pins_of {pins' : List (Addr × Obj)} (I : Inv X pins σ H s) (h : ∀ p ∈ pins', s.heap.get? p.1 = some p.2 ∧ H p.1 = none ∧ p.1 ≠ X.env.locals ∧ p.1 ∉ X.fs ∧ ∀ v, p.2.data ≠ .cell v) : Inv X pins' σ H s :=
  ⟨I.ok, I.os, I.bare, I.base, I.loc, I.cell, I.free, I.freeC, fun p hp => (List.mem_append.mp hp).elim (fun z => I.pin p (List.mem_append_left _ z)) (h p), I.hok, I.len⟩
theorem nodup_ix {N : List Str} (hN : N.Nodup) {i j : Nat} {x : Str} (a : N[i]? = some x) (b : N[j]? = some x) : i = j := by
  obtain ⟨h1, e1⟩ := List.getElem?_eq_some_iff.mp a
  obtain ⟨h2, e2⟩ := List.getElem?_eq_some_iff.mp b
  exact (List.getElem_inj hN).mp (e1.trans e2.symm)
theorem store_ok2 {M : Model} {A : Around} {E : Value → Shared → Prop} {i : Nat} {x : Str} {v : V} {u : Value} {Q : Unit → Shared → Prop} (I : Inv X pins σ H s) (hN : X.N.Nodup) (hi : X.N[i]? = some x) (hx : Loc X.env.scope x) (r : RelV v u)
    (h : ∀ s', Inv X pins (σ.set i (some v)) H s' → (∃ a, Heap.SameBut a s.heap s'.heap ∧ (a = X.env.locals ∨ X.env.cells.lookup x = some a)) → Q () s') (hf : X.fn x = true ∨ X.env.scope.names.lookup x = some .local := by first | exact .inl rfl | exact .inr rfl | assumption) : wpAny M A (storeName X.env x u) Q E s := by
  obtain ⟨m, hn, hl⟩ := id I.loc
  have hcls : (X.env.scope.kind == .class || (X.env.scope.kind == .module && X.env.locals != X.env.globals)) = false := by rw [I.ok.kind]; rfl
  have hiσ : i < σ.length := by rw [I.len]; exact (List.getElem?_eq_some_iff.mp hi).1
  have cne := I.cne
  have tracked : ∀ {a : Addr} {h' : Heap}, (∃ o, s.heap.get? a = some o ∧ H a = none) → Heap.SameBut a s.heap h' → HOk X.prog X.w H h' := fun {a h'} ha hs b ob e => by
    obtain ⟨_, _, hfree⟩ := ha
    refine (I.hok b ob e).stay (fun c w' hc q => (hs.2 c ?_).trans q) (fun _ q => q) fun _ _ q => q
    rintro rfl
    rcases hc with rfl | hc
    · rw [hfree] at e; cases e
    · rw [hfree] at hc; cases hc
  rcases hx with hk | hk
  · refine wpAny_storeName_local hk hn (fun h' hn' hs => ?_) hcls
    obtain ⟨oL, _, _, hoL, _⟩ := id hn
    refine h _ ⟨I.ok, I.os, I.bare, ⟨fun b o e n hb hx => ?_, fun b o e n hb hx => ?_, I.base.free, fun b o e hx => ?_, I.base.tups, I.base.frzs, I.base.tbls⟩, ⟨_, hn', fun j y v' e1 e2 e3 => ?_⟩, fun y c e => ?_, I.free, I.freeC, fun p hp => ?_, tracked ⟨oL, hoL, I.free⟩ hs, by simpa using I.len⟩ ⟨_, hs, .inl rfl⟩
    · exact (hs.2 b (Nat.ne_of_lt (Nat.lt_of_lt_of_le (Heap.lt_size e) I.ok.above))).trans (I.base.keep b o e n hb hx)
    · obtain ⟨sl, e1⟩ := I.base.slot b o e n hb hx
      exact ⟨sl, (hs.2 b (Nat.ne_of_lt (Nat.lt_of_lt_of_le (Heap.lt_size e) I.ok.above))).trans e1⟩
    · obtain ⟨o', e1⟩ := I.base.there b o e hx
      exact ⟨o', (hs.2 b (Nat.ne_of_lt (Nat.lt_of_lt_of_le (Heap.lt_size e) I.ok.above))).trans e1⟩
    · by_cases hj : j = i
      · subst hj
        rw [hi] at e1; cases e1
        rw [List.getElem?_set_self hiσ] at e2
        cases e2
        exact ⟨u, r, .inl ⟨hk, by simp⟩⟩
      · rw [List.getElem?_set_ne (Ne.symm hj)] at e2
        obtain ⟨u', r', q⟩ := hl j y v' e1 e2 e3
        refine ⟨u', r', ?_⟩
        rcases q with ⟨k, e⟩ | ⟨k, c, e, z⟩
        · refine .inl ⟨k, ?_⟩
          have : y ≠ x := fun e => hj (nodup_ix hN e1 (e ▸ hi))
          simp [this, e]
        · exact .inr ⟨k, c, e, z.sameBut hs (cne y c e)⟩
    · obtain ⟨w', z⟩ := I.cell y c e
      exact ⟨w', z.sameBut hs (cne y c e)⟩
    · obtain ⟨e, n, ne, nf, d⟩ := I.pin p hp
      exact ⟨(hs.2 p.1 ne).trans e, n, ne, nf, d⟩
  · have hfn : X.fn x = true := by
      rcases hf with z | z
      · exact z
      · rw [z] at hk; cases hk
    obtain ⟨c, hc⟩ := I.ok.has x (.inl hk)
    obtain ⟨w', z⟩ := I.cell x c hc
    refine wpAny_storeName_cell I.ok.kind hk hc z (fun h' hc' hs => ?_)
    obtain ⟨oc, hoc, hocd⟩ := id z
    refine h { s with heap := h' } ⟨I.ok, I.os, I.bare, ⟨fun b o e n hb hx => ?_, fun b o e n hb hx => ?_, I.base.free, fun b o e hx => ?_, I.base.tups, I.base.frzs, I.base.tbls⟩, ⟨m, hn.sameBut hs (Ne.symm (cne x c hc)), fun j y v' e1 e2 e3 => ?_⟩, fun y c' e => ?_, I.free, I.freeC, fun p hp => ?_, tracked ⟨oc, hoc, I.freeC x c hc⟩ hs, by simpa using I.len⟩ ⟨c, hs, .inr hc⟩
    · exact (hs.2 b (Nat.ne_of_lt (Nat.lt_of_lt_of_le (Heap.lt_size e) (I.ok.cab x c hfn hc)))).trans (I.base.keep b o e n hb hx)
    · obtain ⟨sl, e1⟩ := I.base.slot b o e n hb hx
      exact ⟨sl, (hs.2 b (Nat.ne_of_lt (Nat.lt_of_lt_of_le (Heap.lt_size e) (I.ok.cab x c hfn hc)))).trans e1⟩
    · obtain ⟨o', e1⟩ := I.base.there b o e hx
      exact ⟨o', (hs.2 b (Nat.ne_of_lt (Nat.lt_of_lt_of_le (Heap.lt_size e) (I.ok.cab x c hfn hc)))).trans e1⟩
    · by_cases hj : j = i
      · subst hj
        rw [hi] at e1; cases e1
        rw [List.getElem?_set_self hiσ] at e2
        cases e2
        exact ⟨u, r, .inr ⟨.inl hk, c, hc, hc'⟩⟩
      · rw [List.getElem?_set_ne (Ne.symm hj)] at e2
        obtain ⟨u', r', q⟩ := hl j y v' e1 e2 e3
        refine ⟨u', r', ?_⟩
        rcases q with q | ⟨k, c', e, z'⟩
        · exact .inl q
        · refine .inr ⟨k, c', e, z'.sameBut hs ?_⟩
          rintro rfl
          exact hj (nodup_ix hN e1 (I.ok.inj _ _ _ e hc ▸ hi))
    · by_cases hcc : c' = c
      · subst hcc; exact ⟨_, hc'⟩
      · obtain ⟨w2, z2⟩ := I.cell y c' e
        exact ⟨w2, z2.sameBut hs hcc⟩
    · obtain ⟨e, n, ne, nf, d⟩ := I.pin p hp
      refine ⟨(hs.2 p.1 ?_).trans e, n, ne, nf, d⟩
      intro q
      rw [q, hoc] at e
      have q' : oc = p.2 := Option.some.inj e
      exact d w' (by rw [← q']; exact hocd)
theorem store_ok {M : Model} {A : Around} {E : Value → Shared → Prop} {i : Nat} {x : Str} {v : V} {u : Value} {Q : Unit → Shared → Prop} (I : Inv X pins σ H s) (hN : X.N.Nodup) (hi : X.N[i]? = some x) (hx : Loc X.env.scope x) (r : RelV v u)
    (h : ∀ s', Inv X pins (σ.set i (some v)) H s' → Q () s') (hf : X.fn x = true ∨ X.env.scope.names.lookup x = some .local := by first | exact .inl rfl | exact .inr rfl | assumption) : wpAny M A (storeName X.env x u) Q E s :=
  store_ok2 I hN hi hx r (fun s' I' _ => h s' I') hf
theorem Inv.call' {s' : Shared} {ch : List Addr} (I : Inv X pins σ H s) (ho : s'.os = s.os) (u : Un (frs X.stack) ch H H' s.heap s'.heap) (hok : HOk X.prog X.w H' s'.heap) (hg : AllBare s'.gens)
    (hch : ∀ b ∈ ch, (b ∈ X.ex ∨ X.s₀.heap.objs.size ≤ b) ∧ b ≠ X.env.locals ∧ (∀ x c, X.env.cells.lookup x = some c → c ≠ b) ∧ ∀ p ∈ X.pn ++ pins, p.1 ≠ b) : Inv X pins σ H' s' := by
  obtain ⟨h', g', d', t', o'⟩ := s'
  have e : o' = s.os := ho
  subst e
  exact I.call (g' := g') (t' := t') (d' := d') u hok hg hch
end
abbrev XK := Value → Option Addr → Hp → Prop
abbrev St := List (Option V)
abbrev VK := V → Hp → Prop
abbrev TE := St → Hp → VK → Prop
abbrev TT := St → Hp → (Bool → Hp → Prop) → Prop
abbrev TA := St → Hp → (List V → Hp → Prop) → Prop
structure Ends where
  nx : St → Hp → Prop
  rt : VK
  bk : St → Hp → Prop := fun _ _ => False
  ct : St → Hp → Prop := fun _ _ => False
abbrev TS := Ends → St → Hp → Prop
def EP (X : Cx) (pins : List (Addr × Obj)) (σ : St) (Q : VK) (u : Value) (s' : Shared) : Prop := ∃ v H', Inv X pins σ H' s' ∧ RelV v u ∧ Q v H'
def TP (X : Cx) (pins : List (Addr × Obj)) (σ : St) (Q : Bool → Hp → Prop) (b : Bool) (s' : Shared) : Prop := ∃ H', Inv X pins σ H' s' ∧ Q b H'
def AP (X : Cx) (pins : List (Addr × Obj)) (σ : St) (Q : List V → Hp → Prop) (us : List Value) (s' : Shared) : Prop := ∃ vs H', Inv X pins σ H' s' ∧ Vals vs us ∧ Q vs H'
def SP (X : Cx) (pins : List (Addr × Obj)) (D : Ends) (f : Flow) (s' : Shared) : Prop :=
  match f with
  | .next => ∃ σ' H', Inv X pins σ' H' s' ∧ D.nx σ' H'
  | .brk => ∃ σ' H', Inv X pins σ' H' s' ∧ D.bk σ' H'
  | .cont => ∃ σ' H', Inv X pins σ' H' s' ∧ D.ct σ' H'
  | .ret u => ∃ v σ' H', Inv X pins σ' H' s' ∧ RelV v u ∧ D.rt v H'
def PE (X : Cx) (e : Expr) (t : TE) : Prop :=
  ∀ (pins : List (Addr × Obj)) (s : Shared) (σ : St) (H : Hp) (Q : VK), Inv X pins σ H s → t σ H Q → wpAny (model X.prog X.w) X.A (eval e X.env) (EP X pins σ Q) X.xe s
def PT (X : Cx) (e : Expr) (t : TT) : Prop :=
  ∀ (pins : List (Addr × Obj)) (s : Shared) (σ : St) (H : Hp) (Q : Bool → Hp → Prop), Inv X pins σ H s → t σ H Q → wpAny (model X.prog X.w) X.A (isTrue e X.env (eval e X.env)) (TP X pins σ Q) X.xe s
def PW (X : Cx) (e : Expr) (t : TT) : Prop :=
  ∀ (whole : Sem Value) (pins : List (Addr × Obj)) (s : Shared) (σ : St) (H : Hp) (Q : Bool → Hp → Prop), Inv X pins σ H s → t σ H Q → wpAny (model X.prog X.w) X.A (isTrue e X.env whole) (TP X pins σ Q) X.xe s
theorem PW.pt {X : Cx} {e : Expr} {t : TT} (h : PW X e t) : PT X e t := h _
def PA (X : Cx) (es : List Expr) (t : TA) : Prop :=
  ∀ (pos : Pos) (pins : List (Addr × Obj)) (s : Shared) (σ : St) (H : Hp) (Q : List V → Hp → Prop), Inv X pins σ H s → t σ H Q → wpAny (model X.prog X.w) X.A (spliced (backTo pos (starEach es X.env))) (AP X pins σ Q) X.xe s
def PS (X : Cx) (st : Stmt) (t : TS) : Prop :=
  ∀ (pins : List (Addr × Obj)) (s : Shared) (σ : St) (H : Hp) (D : Ends), Inv X pins σ H s → t D σ H → wpAny (model X.prog X.w) X.A (exec st X.env) (SP X pins D) X.xe s
def PSs (X : Cx) (st : List Stmt) (t : TS) : Prop :=
  ∀ (pins : List (Addr × Obj)) (s : Shared) (σ : St) (H : Hp) (D : Ends), Inv X pins σ H s → t D σ H → wpAny (model X.prog X.w) X.A (execs st X.env) (SP X pins D) X.xe s
theorem thn {α : Type} {t : Sem α} {Q Q' : α → Shared → Prop} {M : Model} {A : Around} {E : Value → Shared → Prop} {s : Shared} (h : wpAny M A t Q E s) (hQ : ∀ a s, Q a s → Q' a s) : wpAny M A t Q' E s := wpAny_mono h hQ fun _ _ x => x
end L2
namespace L2
open PySem PySem.Spec PyProof.Rows
section
variable {X : Cx}
theorem bin {a b : Expr} {ta tb : TE} (ha : PE X a ta) (hb : PE X b tb) {pins : List (Addr × Obj)} {s : Shared} {σ : St} {H : Hp} {R : V → V → Hp → Prop} (I : Inv X pins σ H s) (h : ta σ H fun x H1 => tb σ H1 fun y H2 => R x y H2)
    {α : Type} {Q : α → Shared → Prop} {f : Value → Value → Sem α}
    (hf : ∀ v u s2 x y H2, Inv X pins σ H2 s2 → RelV x v → RelV y u → R x y H2 → wpAny (model X.prog X.w) X.A (f v u) Q X.xe s2) :
    wpAny (model X.prog X.w) X.A (eval a X.env) (fun v s₁ => wpAny (model X.prog X.w) X.A (eval b X.env) (fun u s₂ => wpAny (model X.prog X.w) X.A (f v u) Q X.xe s₂) X.xe s₁) X.xe s := by
  refine thn (ha pins s σ H _ I h) fun v s1 ⟨x, H1, I1, r1, q1⟩ => ?_
  refine thn (hb pins s1 σ H1 _ I1 q1) fun u s2 ⟨y, H2, I2, r2, q2⟩ => ?_
  exact hf v u s2 x y H2 I2 r1 r2 q2
def tVar (i : Nat) : TE := fun σ H Q => ∃ v, σ[i]? = some (some v) ∧ Q v H
def tC (v : V) : TE := fun _ H Q => Q v H
theorem pe_var {i : Nat} {x : Str} {pos : Pos} (hN : X.N[i]? = some x) (hv : Vis X.env.scope x) (hd : (x == ("__debug__" : Str)) = false := by decide) (hcd : (x == ("__classdict__" : Str)) = false := by decide) : PE X (.Name x pos) (tVar i) := by
  intro pins s σ H Q I h
  obtain ⟨v, e, h⟩ := h
  obtain ⟨m, hn, hl⟩ := I.loc
  obtain ⟨u, r, l⟩ := hl i x v hN e hv
  have fin : EP X pins σ Q u s := ⟨v, H, I, r, h⟩
  rcases l with ⟨hk, hm⟩ | ⟨hk, c, hc, hcell⟩
  · exact wpAny_Name (wpAny_loadName_local I.ok.kind hk hn hm fin) hd
  · rcases hk with hk | hk
    · exact wpAny_Name (wpAny_loadName_cell I.ok.kind hk hc hcell fin) hd
    · exact wpAny_Name (wpAny_loadName_free I.ok.kind hk hc hcell fin hcd) hd
theorem pe_int {i j pos} : PE X (.Constant (.int i) j pos) (tC (.int i)) := fun _ _ _ H _ I h => wpAny_Constant_int ⟨.int i, H, I.tok _, ⟨_, rfl⟩, h⟩
theorem pe_bl {b j pos} : PE X (.Constant (.bool b) j pos) (tC (.bl b)) := fun _ _ _ H _ I h => Constant_bool ⟨.bl b, H, I, rfl, h⟩
theorem pe_non {j pos} : PE X (.Constant .none j pos) (tC .non) := fun _ _ _ H _ I h => Constant_none ⟨.non, H, I, rfl, h⟩
def Gl (X : Cx) (x : Str) : Prop := X.env.kindOf x = some .globalImplicit
theorem ld_glob {E : Value → Shared → Prop} {pins : List (Addr × Obj)} {s : Shared} {σ : St} {H : Hp} {x : Str} {u : Value} {pos : Pos} {Q : Value → Shared → Prop} (I : Inv X pins σ H s) (hg : Gl X x) (hm : X.mg x = some u) (h : Q u s)
    (hd : (x == ("__debug__" : Str)) = false := by decide) : wpAny (model X.prog X.w) X.A (eval (.Name x pos) X.env) Q E s :=
  Calls.Name_function_global I.ok.kind hg (Calls.loadGlobal_global (by rw [I.ok.glob]; exact I.mod.glob.keeps I.bk) hm h) hd
theorem ld_blt {E : Value → Shared → Prop} {pins : List (Addr × Obj)} {s : Shared} {σ : St} {H : Hp} {x : Str} {u : Value} {pos : Pos} {Q : Value → Shared → Prop} (I : Inv X pins σ H s) (hg : Gl X x) (hm : X.mg x = none) (hv : bootBuiltins x = some u) (h : Q u s)
    (hn : x ≠ "__name__" := by decide) (hd : (x == ("__debug__" : Str)) = false := by decide) : wpAny (model X.prog X.w) X.A (eval (.Name x pos) X.env) Q E s := by
  obtain ⟨mb, h1, h2⟩ := I.mod.blt
  exact Calls.Name_function_global I.ok.kind hg (Calls.loadGlobal_builtin (by rw [I.ok.glob]; exact I.mod.glob.keeps I.bk) hm (by rw [I.ok.blt]; exact h1.keeps I.bk) ((h2 x hn).trans hv) h) hd
theorem pe_glob {x : Str} {v : V} {u : Value} {pos : Pos} (hg : Gl X x) (hm : X.mg x = some u) (r : RelV v u) (hd : (x == ("__debug__" : Str)) = false := by decide) : PE X (.Name x pos) (tC v) :=
  fun _ _ _ H _ I h => ld_glob I hg hm ⟨v, H, I, r, h⟩ hd
variable {a b : Expr} {ta tb : TE} {pos : Pos}
def PC (X : Cx) (op : CmpOp) (a b : Expr) (t : TE) : Prop :=
  ∀ (pins : List (Addr × Obj)) (s : Shared) (σ : St) (H : Hp) (Q : VK), Inv X pins σ H s → t σ H Q →
    wpAny (model X.prog X.w) X.A (eval a X.env) (fun v s₁ => wpAny (model X.prog X.w) X.A (eval b X.env) (fun u s₂ => wpAny (model X.prog X.w) X.A (compareOp op v u) (EP X pins σ Q) X.xe s₂) X.xe s₁) X.xe s
def tB (t : TE) : TT := fun σ H Q => t σ H fun x H1 => ∃ c, x = .bl c ∧ Q c H1
theorem pt_cmp {op : CmpOp} {t : TE} (h : PC X op a b t) (h1 : behindInMarks op b = false := by first | exact nobehind _ (by decide) (by decide) | rfl) : PT X (.Compare a [op] [b] pos) (tB t) := by
  intro pins s σ H Q I hw
  refine wpAny_isTrue_Compare1 (thn (h pins s σ H _ I hw) fun v s1 h1 => thn h1 fun u s2 h2 => thn h2 fun c s3 ⟨x, H1, I1, r1, q1⟩ => ?_) h1
  obtain ⟨d, rfl, q⟩ := q1
  cases r1
  exact wpAny_truthy_bool ⟨H1, I1, q⟩
variable {tA tB' : TT} {rest : List Expr}
def tAnd (t u : TT) : TT := fun σ H Q => t σ H fun c H1 => if c = true then u σ H1 Q else Q false H1
def tOr (t u : TT) : TT := fun σ H Q => t σ H fun c H1 => if c = true then Q true H1 else u σ H1 Q
def tNot (t : TT) : TT := fun σ H Q => t σ H fun c H1 => Q (!c) H1
theorem pw_and1 (ha : PT X a tA) : PW X (.BoolOp .And [a] pos) tA := by
  intro wh pins s σ H Q I h
  refine isTrue_and (thn (ha pins s σ H Q I h) fun c s1 e => ?_)
  cases c with
  | true => exact isTrue_and_nil e
  | false => exact e
theorem pw_or1 (ha : PT X a tA) : PW X (.BoolOp .Or [a] pos) tA := by
  intro wh pins s σ H Q I h
  refine isTrue_or (thn (ha pins s σ H Q I h) fun c s1 e => ?_)
  cases c with
  | false => exact isTrue_or_nil e
  | true => exact e
theorem pw_and (ha : PT X a tA) (hb : PW X (.BoolOp .And (b :: rest) pos) tB') : PW X (.BoolOp .And (a :: b :: rest) pos) (tAnd tA tB') := by
  intro wh pins s σ H Q I h
  refine isTrue_and (thn (ha pins s σ H _ I h) fun c s1 ⟨H1, I1, q1⟩ => ?_)
  cases c with
  | true => exact hb wh pins s1 σ H1 Q I1 q1
  | false => exact ⟨H1, I1, q1⟩
theorem pw_or (ha : PT X a tA) (hb : PW X (.BoolOp .Or (b :: rest) pos) tB') : PW X (.BoolOp .Or (a :: b :: rest) pos) (tOr tA tB') := by
  intro wh pins s σ H Q I h
  refine isTrue_or (thn (ha pins s σ H _ I h) fun c s1 ⟨H1, I1, q1⟩ => ?_)
  cases c with
  | true => exact ⟨H1, I1, q1⟩
  | false => exact hb wh pins s1 σ H1 Q I1 q1
theorem pt_not (ha : PT X a tA) : PT X (.UnaryOp .Not a pos) (tNot tA) := by
  intro pins s σ H Q I h
  exact isTrue_not (ha pins s σ H (fun c H1 => Q (!c) H1) I h)
def tAndV (ta tb : TE) : TE := fun σ H Q => ta σ H fun x H1 => ∃ c, x = .bl c ∧ if c = true then tb σ H1 Q else Q (.bl false) H1
def tOrV (ta tb : TE) : TE := fun σ H Q => ta σ H fun x H1 => ∃ c, x = .bl c ∧ if c = true then Q (.bl true) H1 else tb σ H1 Q
theorem pe_one {op} {t : TE} (h : PE X a t) : PE X (.BoolOp op [a] pos) t := fun pins s σ H Q I hw => BoolOp_one (h pins s σ H Q I hw)
theorem pe_and (ha : PE X a ta) (hb : PE X (.BoolOp .And (b :: rest) pos) tb) : PE X (.BoolOp .And (a :: b :: rest) pos) (tAndV ta tb) := by
  intro pins s σ H Q I h
  refine BoolOp_and (thn (ha pins s σ H _ I h) fun v s1 ⟨x, H1, I1, r1, q1⟩ => ?_)
  obtain ⟨c, rfl, q1⟩ := q1
  cases r1
  refine wpAny_truthy_bool ?_
  cases c with
  | true => exact hb pins s1 σ H1 Q I1 q1
  | false => exact ⟨.bl false, H1, I1, rfl, q1⟩
theorem pe_or (ha : PE X a ta) (hb : PE X (.BoolOp .Or (b :: rest) pos) tb) : PE X (.BoolOp .Or (a :: b :: rest) pos) (tOrV ta tb) := by
  intro pins s σ H Q I h
  refine BoolOp_or (thn (ha pins s σ H _ I h) fun v s1 ⟨x, H1, I1, r1, q1⟩ => ?_)
  obtain ⟨c, rfl, q1⟩ := q1
  cases r1
  refine wpAny_truthy_bool ?_
  cases c with
  | false => exact hb pins s1 σ H1 Q I1 q1
  | true => exact ⟨.bl true, H1, I1, rfl, q1⟩
def tIf (t : TT) (ta tb : TE) : TE := fun σ H Q => t σ H fun c H1 => if c = true then ta σ H1 Q else tb σ H1 Q
theorem pe_ifExp {c : Expr} (hc : PT X c tA) (ha : PE X a ta) (hb : PE X b tb) : PE X (.IfExp c a b pos) (tIf tA ta tb) := by
  intro pins s σ H Q I h
  refine wpAny_IfExp (thn (hc pins s σ H _ I h) fun d s1 ⟨H1, I1, q1⟩ => ?_)
  cases d with
  | true => exact ha pins s1 σ H1 Q I1 q1
  | false => exact hb pins s1 σ H1 Q I1 q1
end
end L2
namespace L2
open PySem PySem.Spec PyProof.Rows
def SqL (K : PySem.W.Frag) (H : Hp) (a : Addr) (xs : List V) : Prop :=
  Rd H a (.lst xs) ∨
    ∃ (o : Obj) (its : Array Value) (n : Nat), K.lookup a = some o ∧ o.cls = .type "list" ∧ o.dict = none ∧ o.data = .seq its n ∧ its.size ≤ sizeLine ∧ Vals xs its.toList
def SqT (K : PySem.W.Frag) (H : Hp) (a : Addr) (xs : List V) : Prop :=
  Rd H a (.tup xs) ∨
    ∃ (o : Obj) (its : Array Value) (n : Nat), K.lookup a = some o ∧ o.cls = .type "tuple" ∧ o.data = .seq its n ∧ its.size ≤ sizeLine ∧ Vals xs its.toList
def absV : Value → Option V
  | .none => some .non
  | .bool b => some (.bl b)
  | .int i _ => some (.int i)
  | .str x _ => some (.str x)
  | .bytes b _ => some (.byt b)
  | .float b _ => some (.flt b)
  | .ref a => some (.ref a)
  | .type n => some (.ty n)
  | _ => none
theorem RelV.abs {x : V} {u : Value} (r : RelV x u) : absV u = some x := by
  cases x with
  | non => cases r; rfl
  | bl _ => cases r; rfl
  | int _ => obtain ⟨t, rfl⟩ := r; rfl
  | str _ => obtain ⟨t, rfl⟩ := r; rfl
  | byt _ => obtain ⟨t, rfl⟩ := r; rfl
  | flt _ => obtain ⟨t, rfl⟩ := r; rfl
  | ref _ => cases r; rfl
  | ty _ => cases r; rfl
theorem RelV.inj {x y : V} {u : Value} (r : RelV x u) (q : RelV y u) : x = y := Option.some.inj (r.abs.symm.trans q.abs)
theorem Vals.inj : ∀ {xs ys : List V} {us : List Value}, Vals xs us → Vals ys us → xs = ys
  | _, _, _, .nil, .nil => rfl
  | _, _, _, .cons r t, .cons r' t' => by rw [r.inj r', Vals.inj t t']
section
variable {X : Cx} {pins : List (Addr × Obj)} {σ : St} {H : Hp} {s : Shared} {a : Addr} {xs ys : List V}
theorem SqL.of {K : PySem.W.Frag} (h : H a = some (.lst xs)) : SqL K H a xs := .inl (.inl h)
theorem SqT.of {K : PySem.W.Frag} (h : H a = some (.tup xs)) : SqT K H a xs := .inl (.inl h)
theorem Inv.list (I : Inv X pins σ H s) (h : SqL X.K H a xs) : ∃ its : List Value, Vals xs its ∧ PlainL s.heap a its.toArray ∧ xs.length ≤ sizeLine := by
  rcases h with h | ⟨o, its, n, hk, hc, hd, hs, hz, r⟩
  · obtain ⟨z, its, n, r, e⟩ := h.ok I.hok
    exact ⟨its, r, ⟨_, n, e, rfl, rfl, rfl⟩, z⟩
  · refine ⟨its.toList, r, ⟨o, n, I.kIn a o hk, hc, hd, by simpa using hs⟩, ?_⟩
    have e := r.length
    simp only [Array.length_toList] at e
    omega
theorem Inv.tuple (I : Inv X pins σ H s) (h : SqT X.K H a xs) : ∃ its : List Value, Vals xs its ∧ IsTup s.heap a its.toArray ∧ xs.length ≤ sizeLine := by
  rcases h with h | ⟨o, its, n, hk, hc, hs, hz, r⟩
  · obtain ⟨z, its, r, p⟩ := h.ok I.hok
    exact ⟨its, r, p, z⟩
  · refine ⟨its.toList, r, ⟨o, I.kIn a o hk, hc, n, by simpa using hs⟩, ?_⟩
    have e := r.length
    simp only [Array.length_toList] at e
    omega
theorem Inv.list_inj (I : Inv X pins σ H s) (h : SqL X.K H a xs) (h' : SqL X.K H a ys) : xs = ys := by
  obtain ⟨its, r, ⟨o, n, e, _, _, d⟩, _⟩ := I.list h
  obtain ⟨its', r', ⟨o', n', e', _, _, d'⟩, _⟩ := I.list h'
  rw [e] at e'; cases e'
  rw [d] at d'
  injection d' with d1 _
  have : its = its' := by simpa using congrArg Array.toList d1
  subst this
  exact r.inj r'
end
abbrev Cx.wish (X : Cx) (E : Value → Shared → Prop) : Cx := { X with xe := E }
abbrev Cx.nox (X : Cx) : Cx := X.wish fun _ _ => False
theorem Cx.Ok.wish {X : Cx} (ok : X.Ok) (E : Value → Shared → Prop) : (X.wish E).Ok :=
  ⟨ok.mod, ok.kind, ok.glob, ok.blt, ok.above, ok.inj, ok.has, ok.cab, ok.hd, ok.frames, ok.stk, ok.exf, ok.bs, ok.bsz, ok.noex, ok.exfs, ok.funs, ok.frf⟩
theorem Cx.Ok.unwish {X : Cx} {E : Value → Shared → Prop} (ok : (X.wish E).Ok) : X.Ok :=
  ⟨ok.mod, ok.kind, ok.glob, ok.blt, ok.above, ok.inj, ok.has, ok.cab, ok.hd, ok.frames, ok.stk, ok.exf, ok.bs, ok.bsz, ok.noex, ok.exfs, ok.funs, ok.frf⟩
section
variable {X : Cx} {pins : List (Addr × Obj)} {σ : St} {H : Hp} {s : Shared} {E : Value → Shared → Prop}
theorem Inv.wish (I : Inv X pins σ H s) (E : Value → Shared → Prop) : Inv (X.wish E) pins σ H s := ⟨I.ok.wish E, I.os, I.bare, I.base, I.loc, I.cell, I.free, I.freeC, I.pin, I.hok, I.len⟩
theorem Inv.unwish (I : Inv (X.wish E) pins σ H s) : Inv X pins σ H s := ⟨I.ok.unwish, I.os, I.bare, I.base, I.loc, I.cell, I.free, I.freeC, I.pin, I.hok, I.len⟩
theorem SP.unwish {D : Ends} {f : Flow} {s' : Shared} (h : SP (X.wish E) pins D f s') : SP X pins D f s' := by
  cases f with
  | next => obtain ⟨σ', H', I, q⟩ := h; exact ⟨σ', H', I.unwish, q⟩
  | brk => obtain ⟨σ', H', I, q⟩ := h; exact ⟨σ', H', I.unwish, q⟩
  | cont => obtain ⟨σ', H', I, q⟩ := h; exact ⟨σ', H', I.unwish, q⟩
  | ret u => obtain ⟨v, σ', H', I, r, q⟩ := h; exact ⟨v, σ', H', I.unwish, r, q⟩
theorem PSs.nox {st : List Stmt} {t : TS} (h : PSs X.nox st t) : PSs X st t := fun pins s σ H D I hw =>
  wpAny_mono (h pins s σ H D (I.wish _) hw) (fun _ _ q => q.unwish) fun _ _ z => False.elim z
end
section
variable {X : Cx} {st : Stmt} {rest : List Stmt} {t u : TS} {e : Expr} {te : TE} {pos : Pos}
def tNext : TS := fun D σ H => D.nx σ H
def tSeq (t u : TS) : TS := fun D σ H => t { D with nx := u D } σ H
theorem pss_nil : PSs X [] tNext := fun _ _ σ H _ I h => wpAny_execs_nil ⟨σ, H, I, h⟩
theorem pss_cons (h1 : PS X st t) (h2 : PSs X rest u) : PSs X (st :: rest) (tSeq t u) := by
  intro pins s σ H D I h
  refine wpAny_execs_cons (thn (h1 pins s σ H { D with nx := u D } I h) fun f s1 q => ?_)
  cases f with
  | next =>
    obtain ⟨σ', H', I', q⟩ := q
    exact h2 pins s1 σ' H' D I' q
  | ret v => exact q
  | brk => exact q
  | cont => exact q
theorem pss_one (h1 : PS X st t) : PSs X [st] t := by
  intro pins s σ H D I h
  refine wpAny_execs_cons (thn (h1 pins s σ H D I h) fun f s1 q => ?_)
  cases f with
  | next => exact wpAny_execs_nil q
  | ret v => exact q
  | brk => exact q
  | cont => exact q
def tBreak : TS := fun D σ H => D.bk σ H
theorem ps_break : PS X (.Break pos) tBreak := fun _ _ σ H _ I h => wpAny_Break ⟨σ, H, I, h⟩
theorem Inv.quiet {pins : List (Addr × Obj)} {σ : St} {H : Hp} {s : Shared} (I : Inv X pins σ H s) : interactive X.env = false := by simp [interactive, I.ok.kind]
def tDrop (te : TE) : TS := fun D σ H => te σ H fun _ H1 => D.nx σ H1
theorem ps_expr (he : PE X e te) (hs : swapsWith e none pos.line X.env = pure false := by rfl) : PS X (.Expr e pos) (tDrop te) := by
  intro pins s σ H D I h
  exact wpAny_Expr_any (thn (he pins s σ H _ I h) fun v s1 ⟨x, H1, I1, r1, q1⟩ => ⟨σ, H1, I1, q1⟩) I.quiet hs
def tRet (te : TE) : TS := fun D σ H => te σ H D.rt
theorem ps_ret (he : PE X e te) : PS X (.Return (some e) pos) (tRet te) := by
  intro pins s σ H D I h
  exact wpAny_Return_some (thn (he pins s σ H _ I h) fun v s1 ⟨x, H1, I1, r1, q1⟩ => ⟨x, σ, H1, I1, r1, q1⟩)
def tIfS (c : TT) (t u : TS) : TS := fun D σ H => c σ H fun b H1 => if b = true then t D σ H1 else u D σ H1
theorem ps_if {c : Expr} {a b : List Stmt} {tc : TT} (hc : PT X c tc) (ha : PSs X a t) (hb : PSs X b u) : PS X (.If c a b pos) (tIfS tc t u) := by
  intro pins s σ H D I h
  refine wpAny_If (thn (hc pins s σ H _ I h) fun d s1 ⟨H1, I1, q1⟩ => ?_)
  cases d with
  | true => exact ha pins s1 σ H1 D I1 q1
  | false => exact hb pins s1 σ H1 D I1 q1
end
abbrev TG := V → St → Hp → (St → Hp → Prop) → Prop
abbrev TGs := List V → St → Hp → (St → Hp → Prop) → Prop
def PG (X : Cx) (target : Expr) (t : TG) : Prop :=
  ∀ (pins : List (Addr × Obj)) (s : Shared) (σ : St) (H : Hp) (v : V) (u : Value) (Q : St → Hp → Prop), Inv X pins σ H s → RelV v u → t v σ H Q →
    wpAny (model X.prog X.w) X.A (assign target X.env u) (fun _ s' => ∃ σ' H', Inv X pins σ' H' s' ∧ Q σ' H') X.xe s
def PGs (X : Cx) (ts : List Expr) (t : TGs) : Prop :=
  ∀ (pins : List (Addr × Obj)) (s : Shared) (σ : St) (H : Hp) (vs : List V) (us : List Value) (Q : St → Hp → Prop), Inv X pins σ H s → Vals vs us → t vs σ H Q →
    wpAny (model X.prog X.w) X.A (assignInOrder ((assignEach ts X.env).map (·.2)) us) (fun _ s' => ∃ σ' H', Inv X pins σ' H' s' ∧ Q σ' H') X.xe s
abbrev TIp := V → V → Hp → VK → Prop
def PIp (X : Cx) (op : Operator) (t : TIp) : Prop :=
  ∀ (pins : List (Addr × Obj)) (s : Shared) (σ : St) (H : Hp) (x y : V) (v u : Value) (Q : VK), Inv X pins σ H s → RelV x v → RelV y u → t x y H Q →
    wpAny (model X.prog X.w) X.A (inplaceOp op v u) (EP X pins σ Q) X.xe s
section
variable {X : Cx} {pos : Pos}
def gName (i : Nat) : TG := fun v σ H Q => Q (σ.set i (some v)) H
theorem pg_name {i : Nat} {x : Str} (hN : X.N.Nodup) (hi : X.N[i]? = some x) (hx : Loc X.env.scope x) (hf : X.fn x = true ∨ X.env.scope.names.lookup x = some .local := by first | exact .inl rfl | exact .inr rfl | assumption) : PG X (.Name x pos) (gName i) := by
  intro pins s σ H v u Q I r h
  exact wpAny_assign_Name (store_ok I hN hi hx r (fun s' I' => ⟨_, H, I', h⟩) hf)
def gNil : TGs := fun vs σ H Q => vs = [] ∧ Q σ H
def gCons (t : TG) (u : TGs) : TGs := fun vs σ H Q => ∃ v r, vs = v :: r ∧ t v σ H fun σ' H' => u r σ' H' Q
theorem pgs_nil : PGs X [] gNil := by
  intro pins s σ H vs us Q I r h
  obtain ⟨e, h⟩ := h
  subst e
  cases r
  exact assignInOrder_nil ⟨σ, H, I, h⟩
theorem pgs_cons {e : Expr} {es : List Expr} {t : TG} {u : TGs} (h1 : PG X e t) (h2 : PGs X es u)
    (hs : (assignEach (e :: es) X.env).map (·.2) = assign e X.env :: (assignEach es X.env).map (·.2) := by rfl) : PGs X (e :: es) (gCons t u) := by
  intro pins s σ H vs us Q I r h
  obtain ⟨v, vr, e1, h⟩ := h
  subst e1
  cases r with
  | cons r rr =>
    rw [hs]
    refine assignInOrder_cons (thn (h1 pins s σ H _ _ _ I r h) fun _ s1 ⟨σ1, H1, I1, q1⟩ => ?_)
    exact h2 pins s1 σ1 H1 _ _ Q I1 rr q1
def gTup (K : PySem.W.Frag) (n : Nat) (t : TGs) : TG := fun v σ H Q => ∃ a xs, v = .ref a ∧ SqT K H a xs ∧ xs.length = n ∧ t xs σ H Q
theorem pg_tup {es : List Expr} {k : Nat} {t : TGs} {n : Nat} (hc : X.calm = true) (h : PGs X es t)
    (hn : (assignEach es X.env).length = n := by rfl) (hst : (assignEach es X.env).findIdx? (·.1) = none := by rfl) : PG X (.Tuple es k pos) (gTup X.K n t) := by
  intro pins s σ H v u Q I r hw
  obtain ⟨a, xs, e1, hq, hl, hw⟩ := hw
  subst e1
  cases r
  obtain ⟨its, rv, ht, hz⟩ := I.tuple hq
  refine assign_Tuple_tuple (I.ok.hd hc) ht (by simp [hn, ← hl, rv.length]) hst fun h' hx => ?_
  have I1 : Inv X pins σ H { s with heap := h' } := I.kept (t' := s.toks) fun b o e => hx b o (Nat.ne_of_lt (Heap.lt_size e)) e
  exact h pins _ σ H xs _ Q I1 (by simpa using rv) hw
def tAsg (te : TE) (g : TG) : TS := fun D σ H => te σ H fun x H1 => g x σ H1 D.nx
theorem ps_set {i : Nat} {x : Str} {e : Expr} {te : TE} {pos' : Pos} (hN : X.N.Nodup) (hi : X.N[i]? = some x) (hx : Loc X.env.scope x) (he : PE X e te) (hs : swapsWith e (some (.Name x pos')) pos.line X.env = pure false := by rfl) (hf : X.fn x = true ∨ X.env.scope.names.lookup x = some .local := by first | exact .inl rfl | exact .inr rfl | assumption) :
    PS X (.Assign [.Name x pos'] e pos) (tAsg te (gName i)) := by
  intro pins s σ H D I h
  refine wpAny_Assign_Name (thn (he pins s σ H _ I h) fun v s1 ⟨y, H1, I1, r1, q1⟩ => ?_) hs
  exact store_ok I1 hN hi hx r1 (fun s2 I2 => ⟨_, H1, I2, q1⟩) hf
def tAug (i : Nat) (te : TE) (ti : TIp) : TS := fun D σ H => ∃ x, σ[i]? = some (some x) ∧ te σ H fun y H1 => ti x y H1 fun z H2 => D.nx (σ.set i (some z)) H2
theorem ps_aug {i : Nat} {x : Str} {e : Expr} {te : TE} {op : Operator} {ti : TIp} {pos' : Pos} (hN : X.N.Nodup) (hi : X.N[i]? = some x) (hx : Loc X.env.scope x) (he : PE X e te) (ho : PIp X op ti) (hf : X.fn x = true ∨ X.env.scope.names.lookup x = some .local := by first | exact .inl rfl | exact .inr rfl | assumption) :
    PS X (.AugAssign (.Name x pos') op e pos) (tAug i te ti) := by
  intro pins s σ H D I h
  obtain ⟨v, e1, h⟩ := h
  obtain ⟨m, hn, hl⟩ := I.loc
  have vis : Vis X.env.scope x := by rcases hx with k | k; exact .inl k; exact .inr (.inl k)
  obtain ⟨u, r, l⟩ := hl i x v hi e1 vis
  refine wpAny_AugAssign_Name ?_
  have go : wpAny (model X.prog X.w) X.A (eval e X.env) (fun w s₂ => wpAny (model X.prog X.w) X.A (inplaceOp op u w) (fun r s₃ => wpAny (model X.prog X.w) X.A (storeName X.env x r) (fun _ => SP X pins D .next) X.xe s₃) X.xe s₂) X.xe s := by
    refine thn (he pins s σ H _ I h) fun w s1 ⟨y, H1, I1, r1, q1⟩ => ?_
    refine thn (ho pins s1 σ H1 v y u w _ I1 r r1 q1) fun z s2 ⟨zv, H2, I2, r2, q2⟩ => ?_
    exact store_ok I2 hN hi hx r2 (fun s3 I3 => ⟨_, H2, I3, q2⟩) hf
  rcases l with ⟨hk, hm⟩ | ⟨hk, c, hc, hcell⟩
  · exact wpAny_loadName_local I.ok.kind hk hn hm go
  · rcases hk with hk | hk
    · exact wpAny_loadName_cell I.ok.kind hk hc hcell go
    · rcases hx with k | k
      · have : X.env.scope.names.lookup x = some .free := hk
        rw [k] at this; cases this
      · have : X.env.scope.names.lookup x = some .free := hk
        rw [k] at this; cases this
end
section
variable {X : Cx} {pos : Pos}
def tWhile (c : TT) (tb : TS) : TS := fun D σ H => ∃ W : Nat → St → Hp → Prop, (∃ m, W m σ H) ∧ ∀ m σ H, W m σ H →
  c σ H fun b H1 => if b = true then ∃ N : St → Hp → Prop, (∀ σ' H', N σ' H' → ∃ m', m' < m ∧ W m' σ' H') ∧ tb { D with nx := N, ct := N, bk := D.nx } σ H1 else D.nx σ H1
theorem ps_while {c : Expr} {body : List Stmt} {tc : TT} {tb : TS} (hp : PassesOwn (model X.prog X.w) X.A X.env X.xe) (hc : PT X c tc) (hb : PSs X body tb) : PS X (.While c body [] pos) (tWhile tc tb) := by
  intro pins s σ H D I h
  obtain ⟨W, ⟨m0, w0⟩, turn⟩ := h
  refine wpAny_While (codeAny_whileLoop (fun n s' => ∃ σ' H', Inv X pins σ' H' s' ∧ W n σ' H') ?_ m0 ⟨σ, H, I, w0⟩)
  rintro n s1 ⟨σ1, H1, I1, w1⟩
  refine wpAny_passesOwn hp (thn (hc pins s1 σ1 H1 _ I1 (turn n σ1 H1 w1)) fun b s2 ⟨H2, I2, q2⟩ => ?_)
  cases b with
  | true =>
    obtain ⟨N, hN, q2⟩ := q2
    rw [if_pos rfl]
    refine wpAny_passesOwn hp (thn (hb pins s2 σ1 H2 _ I2 q2) fun f s3 q3 => ?_)
    cases f with
    | next =>
      obtain ⟨σ3, H3, I3, n3⟩ := q3
      obtain ⟨m', hm, w3⟩ := hN σ3 H3 n3
      exact ⟨m', hm, σ3, H3, I3, w3⟩
    | cont =>
      obtain ⟨σ3, H3, I3, n3⟩ := q3
      obtain ⟨m', hm, w3⟩ := hN σ3 H3 n3
      exact ⟨m', hm, σ3, H3, I3, w3⟩
    | brk => exact q3
    | ret v => exact q3
  | false =>
    rw [if_neg Bool.false_ne_true]
    exact wpAny_execs_nil ⟨σ1, H2, I2, q2⟩
end
structure It where
  go : Nat → Hp → Prop
  yld : Nat → Hp → V → Hp → Prop
  stop : Nat → Hp → Prop
def FpOk (X : Cx) (pins : List (Addr × Obj)) (H : Hp) (b : Addr) : Prop :=
  H b = none ∧ b ≠ X.env.locals ∧ b ∉ X.fs ∧ (b ∈ X.ex ∨ X.s₀.heap.objs.size ≤ b) ∧ (∀ x c, X.env.cells.lookup x = some c → c ≠ b) ∧ ∀ p ∈ X.pn ++ pins, p.1 ≠ b
theorem Inv.fpOk {X : Cx} {pins : List (Addr × Obj)} {σ : St} {H H' : Hp} {s : Shared} {b : Addr} (I : Inv X pins σ H s) (hb : s.heap.objs.size ≤ b) (hn : H' b = none) : FpOk X pins H' b := by
  refine ⟨hn, Nat.ne_of_gt (Nat.lt_of_lt_of_le I.lt hb), I.nofs hb, .inr (Nat.le_trans I.sz hb), fun x c e z => ?_, fun p hp z => ?_⟩
  · obtain ⟨v, q⟩ := I.cell x c e
    exact absurd (Nat.lt_of_lt_of_le q.lt (by rw [z]; exact hb)) (Nat.lt_irrefl _)
  · exact absurd (Nat.lt_of_lt_of_le (Heap.lt_size (I.pin p hp).1) (by rw [z]; exact hb)) (Nat.lt_irrefl _)
structure Turn (P : Program) (w : World) (K : PySem.W.Frag) (tg : Expr) (J : It) (fp : List Addr) (it : Addr) (tn : Nat → Heap → Prop) : Prop where
  mem : it ∈ fp
  obj : ∀ i h, tn i h → ∀ b ∈ fp, ∃ o, h.get? b = some o ∧ ∀ v, o.data ≠ .cell v
  keep : ∀ i h h', tn i h → (∀ b ∈ fp, ∀ o, h.get? b = some o → h'.get? b = some o) → tn i h'
  item : ∀ (X : Cx), X.prog = P → X.w = w → X.K = K → X.calm = true → ∀ (i : Nat) (pins : List (Addr × Obj)) (s : Shared) (σ : St) (H : Hp) (E : Value → Shared → Prop), Inv X pins σ H s → (∀ b ∈ fp, FpOk X pins H b) → tn i s.heap → J.go i H →
    wpAny (model P w) X.A (pyNext (.ref it)) (fun r s1 => ∃ u, r = some u ∧
      wpAny (model P w) X.A (letOwnedTupleGo tg (.ref it) u) (fun _ s2 => ∃ x H', Inv X pins σ H' s2 ∧ RelV x u ∧ J.yld i H x H' ∧ tn (i + 1) s2.heap ∧ ∀ b ∈ fp, H' b = none) E s1) E s
  done : ∀ (X : Cx), X.prog = P → X.w = w → X.K = K → X.calm = true → ∀ (i : Nat) (pins : List (Addr × Obj)) (s : Shared) (σ : St) (H : Hp) (E : Value → Shared → Prop), Inv X pins σ H s → (∀ b ∈ fp, FpOk X pins H b) → tn i s.heap → J.stop i H →
    wpAny (model P w) X.A (pyNext (.ref it)) (fun r s1 => r = none ∧ Inv X pins σ H s1) E s
  self : ∀ (A : Around) (i : Nat) (s : Shared) (Q : Value → Shared → Prop) (E : Value → Shared → Prop), tn i s.heap → Q (.ref it) s → wpAny (model P w) A (pyIter (.ref it)) Q E s
abbrev TI := St → Hp → (It → Hp → Prop) → Prop
def PIE (X : Cx) (pins : List (Addr × Obj)) (σ : St) (tg : Expr) (R : It → Hp → Prop) (itv : Value) (s2 : Shared) : Prop :=
  ∃ (it : Addr) (fp : List Addr) (tn : Nat → Heap → Prop) (J : It) (H' : Hp), itv = .ref it ∧ Inv X pins σ H' s2 ∧ Turn X.prog X.w X.K tg J fp it tn ∧ tn 0 s2.heap ∧ (∀ b ∈ fp, FpOk X pins H' b) ∧ R J H'
def PI (X : Cx) (tg iter : Expr) (wi : TI) : Prop :=
  ∀ (pins : List (Addr × Obj)) (s : Shared) (σ : St) (H : Hp) (R : It → Hp → Prop), Inv X pins σ H s → wi σ H R →
    wpAny (model X.prog X.w) X.A (eval iter X.env) (fun v s1 => wpAny (model X.prog X.w) X.A (pyIter v) (PIE X pins σ tg R) X.xe s1) X.xe s
theorem go_of {M : Model} {A : Around} {E : Value → Shared → Prop} {s : Shared} {tg : Expr} {it : Addr} {u : Value} {o : Obj} {n : String} {vs : Array Value} {Q : Unit → Shared → Prop} (ho : s.heap.get? it = some o) (hc : o.cls = .type n) (hd : o.data = .fields vs)
    (hn : ["enumerate", "zip", "dict_itemiterator", "dict_reverseitemiterator", "odict_iterator", "itertools.zip_longest", "itertools.pairwise"].contains n = false) (hQ : Q () s) : wpAny M A (letOwnedTupleGo tg (.ref it) u) Q E s := by
  unfold letOwnedTupleGo
  cases tg <;> first
    | exact wpAny_pure hQ
    | (cases u <;> first
        | exact wpAny_pure hQ
        | (refine wpAny_bind (wpAny_load ho ?_)
           rw [hc, hd]
           show wpAny M A (if (["enumerate", "zip", "dict_itemiterator", "dict_reverseitemiterator", "odict_iterator", "itertools.zip_longest", "itertools.pairwise"].contains n && vs[0]? == some (rawInt _)) = true then _ else _) Q E s
           rw [if_neg (by intro h; rw [hn, Bool.false_and] at h; cases h)]
           exact wpAny_pure hQ))
def Itl (K : PySem.W.Frag) (a : Addr) : It :=
  ⟨fun i H => ∃ xs x, SqL K H a xs ∧ xs[i]? = some x, fun i H x H' => H' = H ∧ ∀ xs, SqL K H a xs → xs[i]? = some x, fun i H => ∃ xs, SqL K H a xs ∧ xs.length ≤ i⟩
def Itr (lo : Int) (n : Nat) : It := ⟨fun i _ => i < n, fun i H x H' => H' = H ∧ x = .int (lo + i), fun i _ => n ≤ i⟩
theorem turn_list {P : Program} {w : World} {K : PySem.W.Frag} {tg : Expr} (a it : Addr) : Turn P w K tg (Itl K a) [it] it (fun i h => h.IsListIter it a i) where
  mem := by simp
  obj := fun i h st b hb => by
    have e : b = it := by simpa using hb
    subst e
    obtain ⟨o, e, c, d⟩ := st
    exact ⟨o, e, fun v z => by rw [d] at z; cases z⟩
  keep := fun i h h' st k => st.at fun o e => k it (by simp) o e
  item := by
    intro X hP hw hK hc i pins s σ H E I hf st hg
    subst hP hw hK
    obtain ⟨xs, x, hq, hx⟩ := hg
    obtain ⟨its, rv, p, hz⟩ := I.list hq
    obtain ⟨u, hu, ru⟩ := rv.get hx
    obtain ⟨f0, f1, f2, f3, f4, f5⟩ := hf it (by simp)
    refine wpAny_pyNext_list_item st p.isList (x := u) (by simpa using hu) fun h' st' sb => ?_
    have I1 : Inv X pins σ H { s with heap := h' } := I.turned (t' := s.toks) (fun b o hb e => (sb.2 b hb).trans e) f0 f1 f3 f4 f5
    obtain ⟨o, e, c, d⟩ := id st'
    exact ⟨u, rfl, go_of (s := { s with heap := h' }) e c d (by decide) ⟨x, H, I1, ru, ⟨rfl, fun ys hy => by rw [I.list_inj hy hq]; exact hx⟩, st', fun b hb => (hf b hb).1⟩⟩
  done := by
    intro X hP hw hK hc i pins s σ H E I hf st hg
    subst hP hw hK
    obtain ⟨xs, hq, hx⟩ := hg
    obtain ⟨its, rv, p, hz⟩ := I.list hq
    obtain ⟨f0, f1, f2, f3, f4, f5⟩ := hf it (by simp)
    have hl := rv.length
    exact wpAny_pyNext_list_end (I.ok.hd hc) st p.isList (by simp; omega) fun h' eb => ⟨rfl, I.turned (t' := s.toks) (fun b o hb e => eb b o hb e) f0 f1 f3 f4 f5⟩
  self := fun _ _ _ _ _ st h => wpAny_pyIter_listiter st h
theorem turn_range {P : Program} {w : World} {K : PySem.W.Frag} {tg : Expr} (it : Addr) (lo : Int) (n : Nat) : Turn P w K tg (Itr lo n) [it] it (fun i h => IsRangeIter h it (lo + (i : Nat) * 1) ((n : Int) - (i : Nat)) 1) where
  mem := by simp
  obj := fun i h st b hb => by
    have e : b = it := by simpa using hb
    subst e
    exact ⟨_, st, fun v z => by
      have z' : Data.fields _ = Data.cell v := z
      cases z'⟩
  keep := fun i h h' st k => k it (by simp) _ st
  item := by
    intro X hP hw hK hc i pins s σ H E I hf st hg
    subst hP hw hK
    obtain ⟨f0, f1, f2, f3, f4, f5⟩ := hf it (by simp)
    have W := Walks.range (prog := X.prog) (w := X.w) (I.ok.hd hc) it lo 1 n
    refine W.item i s _ _ hg st fun v h' tk hv st' kk => ?_
    obtain ⟨t, rfl⟩ := hv
    have I1 : Inv X pins σ H { s with heap := h', toks := tk } := I.turned (fun b o hb e => kk b o (by simpa using hb) e) f0 f1 f3 f4 f5
    refine ⟨_, rfl, go_of (s := { s with heap := h', toks := tk }) (n := "range_iterator") st' rfl rfl (by decide) ⟨.int (lo + i), H, I1, ⟨t, ?_⟩, ⟨rfl, rfl⟩, st', fun b hb => (hf b hb).1⟩⟩
    rw [Int.mul_one]
  done := by
    intro X hP hw hK hc i pins s σ H E I hf st hg
    subst hP hw hK
    obtain ⟨f0, f1, f2, f3, f4, f5⟩ := hf it (by simp)
    exact wpAny_pyNext_range_end (I.ok.hd hc) st (by have : n ≤ i := hg; omega) fun h' eb => ⟨rfl, I.turned (t' := s.toks) (fun b o hb e => eb b o hb e) f0 f1 f3 f4 f5⟩
  self := fun _ _ _ _ _ st h => wpAny_pyIter_rangeiter st h
end L2
namespace L2
open PySem PySem.Spec PyProof.Rows
section
variable {X : Cx} {tg : Expr}
def iList (K : PySem.W.Frag) (tl : TE) : TI := fun σ H R => tl σ H fun x H1 => ∃ a, x = .ref a ∧ (∃ xs, SqL K H1 a xs) ∧ R (Itl K a) H1
theorem pi_list {l : Expr} {tl : TE} (hl : PE X l tl) : PI X tg l (iList X.K tl) := by
  intro pins s σ H R I h
  refine thn (hl pins s σ H _ I h) fun v s1 ⟨x, H1, I1, r1, q1⟩ => ?_
  obtain ⟨a, e, ⟨xs, hq⟩, q⟩ := q1
  subst e
  cases r1
  obtain ⟨its, rv, p, hz⟩ := I1.list hq
  refine wpAny_pyIter_list p.isList ?_
  refine ⟨s1.heap.objs.size, [s1.heap.objs.size], _, _, H1, rfl, I1.kept (t' := s1.toks) fun b o e => Heap.get?_push_of_some _ e, turn_list a _, ⟨_, Heap.get?_push_size _ rfl, rfl, rfl⟩, fun b hb => ?_, q⟩
  have e : b = s1.heap.objs.size := by simpa using hb
  subst e
  exact I1.fpOk (Nat.le_refl _) (I1.hok.fresh (Nat.le_refl _))
theorem range_it {pins : List (Addr × Obj)} {σ : St} {H : Hp} {s : Shared} {R : It → Hp → Prop} {E : Value → Shared → Prop} {lo hi : Int} {t u v : Tok} {tk : Nat} (I : Inv X pins σ H s) (h1 : -(2 ^ 62) ≤ lo) (h2 : lo < 2 ^ 62) (h3 : -(2 ^ 62) ≤ hi) (h4 : hi < 2 ^ 62)
    (q : R (Itr lo (hi - lo).toNat) H) : wpAny (model X.prog X.w) X.A (pyIter (.ref s.heap.objs.size)) (PIE X pins σ tg R) E { s with heap := s.heap.push { cls := .type "range", data := .fields #[.int lo t, .int hi u, .int 1 v] }, toks := tk } := by
  refine wpAny_pyIter_range (IsRange.new ..) (small_one h1 h2 h3 h4) ?_
  have I1 : Inv X pins σ H { s with heap := s.heap.push { cls := .type "range", data := .fields #[.int lo t, .int hi u, .int 1 v] }, toks := tk } := I.kept fun b o e => Heap.get?_push_of_some _ e
  refine ⟨(s.heap.push { cls := .type "range", data := .fields #[.int lo t, .int hi u, .int 1 v] }).objs.size, [(s.heap.push { cls := .type "range", data := .fields #[.int lo t, .int hi u, .int 1 v] }).objs.size], _, _, H, rfl,
    I1.kept (t' := tk) fun b o e => Heap.get?_push_of_some _ e, turn_range _ lo (hi - lo).toNat, ?_, fun b hb => ?_, q⟩
  · have e1 : lo + ((0 : Nat) : Int) * 1 = lo := by simp
    have e2 : (((hi - lo).toNat : Nat) : Int) - ((0 : Nat) : Int) = Builtin.Range.rangeSize lo hi 1 := by rw [rangeSize_one]; split <;> omega
    show IsRangeIter _ _ (lo + ((0 : Nat) : Int) * 1) ((((hi - lo).toNat : Nat) : Int) - ((0 : Nat) : Int)) 1
    rw [e1, e2]
    exact Heap.get?_push_size _ rfl
  · have e : b = (s.heap.push { cls := .type "range", data := .fields #[.int lo t, .int hi u, .int 1 v] }).objs.size := by simpa using hb
    subst e
    exact I1.fpOk (Nat.le_refl _) (I1.hok.fresh (Nat.le_refl _))
def iRng1 (ta : TA) : TI := fun σ H R => ta σ H fun vs H1 => ∃ j : Int, vs = [.int j] ∧ -(2 ^ 62) ≤ j ∧ j < 2 ^ 62 ∧ R (Itr 0 j.toNat) H1
def iRng2 (ta : TA) : TI := fun σ H R => ta σ H fun vs H1 => ∃ i j : Int, vs = [.int i, .int j] ∧ (-(2 ^ 62) ≤ i ∧ i < 2 ^ 62 ∧ -(2 ^ 62) ≤ j ∧ j < 2 ^ 62) ∧ R (Itr i (j - i).toNat) H1
theorem pi_range1 {a : Expr} {ta : TA} {p pos : Pos} (hg : Gl X "range") (hm : X.mg "range" = none) (ha : PA X [a] ta) (hs : starEach [a] X.env = [(false, eval a X.env)] := by rfl) : PI X tg (.Call (.Name "range" p) [a] [] pos) (iRng1 ta) := by
  intro pins s σ H R I h
  refine Call_ (ld_blt I hg hm boot_range (PyProof.Rows.callWith_type1 (thn (ha pos pins s σ H _ I h) fun us s1 ⟨vs, H1, I1, r1, q1⟩ => ?_) hs rfl))
  obtain ⟨j, e, q1, q2, q⟩ := q1
  subst e
  cases r1 with
  | cons r rr =>
    cases rr
    obtain ⟨t, rfl⟩ := r
    exact call_range_1 (range_it I1 (by omega) (by omega) q1 q2 (by simpa using q))
theorem pi_range2 {a b : Expr} {ta : TA} {p pos : Pos} (hg : Gl X "range") (hm : X.mg "range" = none) (ha : PA X [a, b] ta) (hs : starEach [a, b] X.env = [(false, eval a X.env), (false, eval b X.env)] := by rfl) (hs2 : starEach [b] X.env = [(false, eval b X.env)] := by rfl) :
    PI X tg (.Call (.Name "range" p) [a, b] [] pos) (iRng2 ta) := by
  intro pins s σ H R I h
  refine Call_ (ld_blt I hg hm boot_range (PyProof.Rows.callWith_type1 (thn (ha pos pins s σ H _ I h) fun us s1 ⟨vs, H1, I1, r1, q1⟩ => ?_) (by rw [hs, hs2]) (by rw [hs2]; rfl)))
  obtain ⟨i, j, e, ⟨q1, q2, q3, q4⟩, q⟩ := q1
  subst e
  cases r1 with
  | cons r rr =>
    cases rr with
    | cons r' rr =>
      cases rr
      obtain ⟨t, rfl⟩ := r
      obtain ⟨t', rfl⟩ := r'
      exact call_range_2 (range_it I1 q1 q2 q3 q4 q)
def tFor (wi : TI) (g : TG) (tb : TS) : TS := fun D σ H => wi σ H fun J H1 => ∃ W : Nat → Nat → St → Hp → Prop, (∃ m, W 0 m σ H1) ∧ ∀ i m σ H, W i m σ H →
  (J.stop i H ∧ D.nx σ H) ∨ (J.go i H ∧ ∃ N : St → Hp → Prop, (∀ σ' H', N σ' H' → ∃ m', m' < m ∧ W (i + 1) m' σ' H') ∧ ∀ x H', J.yld i H x H' → g x σ H' fun σ2 H2 => tb { D with nx := N, ct := N, bk := D.nx } σ2 H2)
def pinsAt (fp : List Addr) (h : Heap) : List (Addr × Obj) := fp.filterMap fun b => (h.get? b).map fun o => (b, o)
theorem mem_pinsAt {fp : List Addr} {h : Heap} {b : Addr} {o : Obj} (hb : b ∈ fp) (e : h.get? b = some o) : (b, o) ∈ pinsAt fp h := List.mem_filterMap.mpr ⟨b, hb, by rw [e]; rfl⟩
theorem of_pinsAt {fp : List Addr} {h : Heap} {p : Addr × Obj} (hp : p ∈ pinsAt fp h) : p.1 ∈ fp ∧ h.get? p.1 = some p.2 := by
  obtain ⟨b, hb, e⟩ := List.mem_filterMap.mp hp
  cases q : h.get? b with
  | none => rw [q] at e; cases e
  | some o =>
    rw [q] at e
    have e' : (b, o) = p := Option.some.inj e
    subst e'
    exact ⟨hb, q⟩
theorem Inv.pinned {pins : List (Addr × Obj)} {σ : St} {H : Hp} {s : Shared} {fp : List Addr} (I : Inv X pins σ H s) (hf : ∀ b ∈ fp, FpOk X pins H b) (ho : ∀ b ∈ fp, ∃ o, s.heap.get? b = some o ∧ ∀ v, o.data ≠ .cell v) : Inv X (pins ++ pinsAt fp s.heap) σ H s :=
  I.pins_of fun p hp => (List.mem_append.mp hp).elim (fun z => I.pin p (List.mem_append_right _ z)) fun z => by
    obtain ⟨hb, e⟩ := of_pinsAt z
    obtain ⟨f0, f1, f2, _⟩ := hf p.1 hb
    obtain ⟨o, e', d⟩ := ho p.1 hb
    rw [e] at e'; cases e'
    exact ⟨e, f0, f1, f2, d⟩
theorem Inv.unpinned {pins pl : List (Addr × Obj)} {σ : St} {H : Hp} {s : Shared} (I : Inv X (pins ++ pl) σ H s) : Inv X pins σ H s := I.pins_of fun p hp => I.pin p (List.mem_append_right _ (List.mem_append_left _ hp))
theorem ps_for {iter : Expr} {body : List Stmt} {wi : TI} {g : TG} {tb : TS} {pos : Pos} (hp : PassesOwn (model X.prog X.w) X.A X.env X.xe) (hc : X.calm = true) (hi : PI X tg iter wi) (hg : PG X tg g) (hb : PSs X body tb)
    (hs : ∀ x, foldedSetIterable iter X.env x = pure x := by intro _; rfl) : PS X (.For tg iter body [] pos) (tFor wi g tb) := by
  intro pins s σ H D I h
  refine wpAny_For (thn (hi pins s σ H _ I h) fun v s1 h1 => thn h1 fun itv s2 h2 => ?_) hs
  obtain ⟨it, fp, tn, J, H2, e, I2, T, st2, f2, W, ⟨m0, w0⟩, turn⟩ := h2
  subst e
  have stat : ∀ {H' : Hp}, (∀ b ∈ fp, H' b = none) → ∀ b ∈ fp, FpOk X pins H' b := fun hn b hb => ⟨hn b hb, (f2 b hb).2⟩
  refine codeAny_forLoop_any (fun n s' => ∃ i σ' H', Inv X pins σ' H' s' ∧ tn i s'.heap ∧ (∀ b ∈ fp, H' b = none) ∧ W i n σ' H') ?_ m0 ⟨0, σ, H2, I2, st2, fun b hb => (f2 b hb).1, w0⟩
  rintro n s3 ⟨i, σ3, H3, I3, st3, fr3, w3⟩
  rcases turn i n σ3 H3 w3 with ⟨stop, qn⟩ | ⟨go, N, hN, step⟩
  · refine wpAny_passesOwn hp (thn (T.done X rfl rfl rfl hc i pins s3 σ3 H3 X.xe I3 (stat fr3) st3 stop) fun r s4 ⟨hr, I4⟩ => ?_)
    subst hr
    exact wpAny_execs_nil ⟨σ3, H3, I4, qn⟩
  · refine wpAny_passesOwn hp (thn (T.item X rfl rfl rfl hc i pins s3 σ3 H3 X.xe I3 (stat fr3) st3 go) fun r s4 ⟨u, hr, h4⟩ => ?_)
    subst hr
    refine wpAny_passesOwn hp (thn h4 fun _ s5 ⟨x, H5, I5, r5, y5, st5, fr5⟩ => ?_)
    have I5' := I5.pinned (stat fr5) (T.obj _ _ st5)
    refine wpAny_passesOwn hp (thn (hg _ s5 σ3 H5 x u _ I5' r5 (step x H5 y5)) fun _ s6 ⟨σ6, H6, I6, q6⟩ => ?_)
    refine wpAny_passesOwn hp (thn (hb _ s6 σ6 H6 _ I6 q6) fun f s7 q7 => ?_)
    have again : ∀ {σ7 : St} {H7 : Hp}, Inv X (pins ++ pinsAt fp s5.heap) σ7 H7 s7 → N σ7 H7 → ∃ m, m < n ∧ ∃ i σ' H', Inv X pins σ' H' s7 ∧ tn i s7.heap ∧ (∀ b ∈ fp, H' b = none) ∧ W i m σ' H' := fun {σ7 H7} I7 n7 => by
      obtain ⟨m', hm, w7⟩ := hN σ7 H7 n7
      refine ⟨m', hm, i + 1, σ7, H7, I7.unpinned, T.keep _ _ _ st5 fun b hb o e => (I7.pin (b, o) (List.mem_append_right _ (List.mem_append_right _ (mem_pinsAt hb e)))).1, fun b hb => ?_, w7⟩
      obtain ⟨o, e, d⟩ := T.obj _ _ st5 b hb
      exact (I7.pin (b, o) (List.mem_append_right _ (List.mem_append_right _ (mem_pinsAt hb e)))).2.1
    cases f with
    | next => obtain ⟨σ7, H7, I7, n7⟩ := q7; exact again I7 n7
    | cont => obtain ⟨σ7, H7, I7, n7⟩ := q7; exact again I7 n7
    | brk => obtain ⟨σ7, H7, I7, q7⟩ := q7; exact ⟨σ7, H7, I7.unpinned, q7⟩
    | ret v => obtain ⟨x7, σ7, H7, I7, r7, q7⟩ := q7; exact ⟨x7, σ7, H7, I7.unpinned, r7, q7⟩
end
theorem for_list {K : PySem.W.Frag} {a : Addr} {xs : List V} {g : TG} {tb : TS} {D : Ends} {σ : St} {H : Hp} (Pv : Nat → St → Hp → Prop) (h0 : Pv 0 σ H) (hl : ∀ i σ H, i ≤ xs.length → Pv i σ H → SqL K H a xs)
    (hs : ∀ i x σ H, xs[i]? = some x → Pv i σ H → g x σ H fun σ2 H2 => tb { D with nx := Pv (i + 1), ct := Pv (i + 1), bk := D.nx } σ2 H2) (hd : ∀ σ H, Pv xs.length σ H → D.nx σ H) :
    ∃ W : Nat → Nat → St → Hp → Prop, (∃ m, W 0 m σ H) ∧ ∀ i m σ H, W i m σ H →
      ((Itl K a).stop i H ∧ D.nx σ H) ∨ ((Itl K a).go i H ∧ ∃ N : St → Hp → Prop, (∀ σ' H', N σ' H' → ∃ m', m' < m ∧ W (i + 1) m' σ' H') ∧ ∀ x H', (Itl K a).yld i H x H' → g x σ H' fun σ2 H2 => tb { D with nx := N, ct := N, bk := D.nx } σ2 H2) := by
  refine ⟨fun i m σ H => m = xs.length - i ∧ i ≤ xs.length ∧ Pv i σ H, ⟨xs.length, by simp, Nat.zero_le _, h0⟩, ?_⟩
  rintro i m σ H ⟨rfl, hi, p⟩
  have q := hl i σ H hi p
  by_cases hlt : i < xs.length
  · refine .inr ⟨⟨xs, xs[i], q, by simp [hlt]⟩, Pv (i + 1), fun σ' H' p' => ⟨xs.length - (i + 1), by omega, rfl, hlt, p'⟩, fun x H' y => ?_⟩
    obtain ⟨e, y⟩ := y
    subst e
    exact hs i x σ _ (y xs q) p
  · have e : i = xs.length := by omega
    subst e
    exact .inl ⟨⟨xs, q, Nat.le_refl _⟩, hd σ H p⟩
theorem for_range {lo : Int} {n : Nat} {g : TG} {tb : TS} {D : Ends} {σ : St} {H : Hp} (Pv : Nat → St → Hp → Prop) (h0 : Pv 0 σ H)
    (hs : ∀ i σ H, i < n → Pv i σ H → g (.int (lo + i)) σ H fun σ2 H2 => tb { D with nx := Pv (i + 1), ct := Pv (i + 1), bk := D.nx } σ2 H2) (hd : ∀ σ H, Pv n σ H → D.nx σ H) :
    ∃ W : Nat → Nat → St → Hp → Prop, (∃ m, W 0 m σ H) ∧ ∀ i m σ H, W i m σ H →
      ((Itr lo n).stop i H ∧ D.nx σ H) ∨ ((Itr lo n).go i H ∧ ∃ N : St → Hp → Prop, (∀ σ' H', N σ' H' → ∃ m', m' < m ∧ W (i + 1) m' σ' H') ∧ ∀ x H', (Itr lo n).yld i H x H' → g x σ H' fun σ2 H2 => tb { D with nx := N, ct := N, bk := D.nx } σ2 H2) := by
  refine ⟨fun i m σ H => m = n - i ∧ i ≤ n ∧ Pv i σ H, ⟨n, by simp, Nat.zero_le _, h0⟩, ?_⟩
  rintro i m σ H ⟨rfl, hi, p⟩
  by_cases hlt : i < n
  · refine .inr ⟨hlt, Pv (i + 1), fun σ' H' p' => ⟨n - (i + 1), by omega, rfl, hlt, p'⟩, fun x H' y => ?_⟩
    obtain ⟨e, y⟩ := y
    subst e y
    exact hs i σ _ hlt p
  · have e : i = n := by omega
    subst e
    exact .inl ⟨Nat.le_refl _, hd σ H p⟩
end L2
namespace L2
open PySem PySem.Spec PyProof.Rows
abbrev R2 := V → V → Hp → VK → Prop
def OpR (X : Cx) (f : Value → Value → Sem Value) (r : R2) : Prop :=
  ∀ (pins : List (Addr × Obj)) (s : Shared) (σ : St) (H : Hp) (x y : V) (v u : Value) (Q : VK), Inv X pins σ H s → RelV x v → RelV y u → r x y H Q →
    wpAny (model X.prog X.w) X.A (f v u) (EP X pins σ Q) X.xe s
def UnR (X : Cx) (f : Value → Sem Value) (r : V → Hp → VK → Prop) : Prop :=
  ∀ (pins : List (Addr × Obj)) (s : Shared) (σ : St) (H : Hp) (x : V) (v : Value) (Q : VK), Inv X pins σ H s → RelV x v → r x H Q →
    wpAny (model X.prog X.w) X.A (f v) (EP X pins σ Q) X.xe s
def CallR (X : Cx) (f : Value) (r : List V → Hp → VK → Prop) : Prop :=
  ∀ (pins : List (Addr × Obj)) (s : Shared) (σ : St) (H : Hp) (xs : List V) (us : List Value) (Q : VK), Inv X pins σ H s → Vals xs us → r xs H Q →
    wpAny (model X.prog X.w) X.A (call f us) (EP X pins σ Q) X.xe s
def TruR (X : Cx) (r : V → Hp → (Bool → Hp → Prop) → Prop) : Prop :=
  ∀ (pins : List (Addr × Obj)) (s : Shared) (σ : St) (H : Hp) (x : V) (v : Value) (Q : Bool → Hp → Prop), Inv X pins σ H s → RelV x v → r x H Q →
    wpAny (model X.prog X.w) X.A (truthy v) (TP X pins σ Q) X.xe s
def tOp (r : R2) (ta tb : TE) : TE := fun σ H Q => ta σ H fun x H1 => tb σ H1 fun y H2 => r x y H2 Q
def tUn (r : V → Hp → VK → Prop) (ta : TE) : TE := fun σ H Q => ta σ H fun x H1 => r x H1 Q
def rI (C : Int → Int → Prop) (g : Int → Int → V) : R2 := fun x y H Q => ∃ i j, x = .int i ∧ y = .int j ∧ C i j ∧ Q (g i j) H
def rI0 (g : Int → Int → V) : R2 := fun x y H Q => ∃ i j, x = .int i ∧ y = .int j ∧ Q (g i j) H
def rU (g : Int → V) : V → Hp → VK → Prop := fun x H Q => ∃ i, x = .int i ∧ Q (g i) H
section
variable {X : Cx} {a b c : Expr} {ta tb tc : TE} {pos : Pos}
theorem binT (ha : PE X a ta) (hb : PE X b tb) {pins : List (Addr × Obj)} {s : Shared} {σ : St} {H : Hp} {R : V → V → Hp → Prop} (I : Inv X pins σ H s)
    (h : ta σ H fun x H1 => tb σ H1 fun y H2 => R x y H2) {Q : Value → Shared → Prop} {f : Value → Value → Sem Value}
    (hf : ∀ v u s2 x y H2, Inv X pins σ H2 s2 → RelV x v → RelV y u → R x y H2 → wpAny (model X.prog X.w) X.A (f v u) Q X.xe s2) :
    wpAny (model X.prog X.w) X.A (eval a X.env) (fun v s₁ => wpAny (model X.prog X.w) X.A (eval b X.env) (fun u s₂ => wpAny (model X.prog X.w) X.A (f v u) Q X.xe s₂) X.xe s₁) X.xe s := by
  refine thn (ha pins s σ H _ I h) fun v s1 ⟨x, H1, I1, r1, q1⟩ => ?_
  refine thn (hb pins s1 σ H1 _ I1 q1) fun u s2 ⟨y, H2, I2, r2, q2⟩ => ?_
  exact hf v u s2 x y H2 I2 r1 r2 q2
theorem pe_op {op : Operator} {r : R2} (ho : OpR X (binaryOp op) r) (ha : PE X a ta) (hb : PE X b tb) : PE X (.BinOp a op b pos) (tOp r ta tb) := by
  intro pins s σ H Q I h
  exact wpAny_BinOp (binT ha hb I h fun v u s2 x y H2 I2 rx ry q => ho pins s2 σ H2 x y v u Q I2 rx ry q)
theorem pe_un {op : UnaryOp} {r : V → Hp → VK → Prop} (ho : UnR X (unaryOp op) r) (ha : PE X a ta) : PE X (.UnaryOp op a pos) (tUn r ta) := by
  intro pins s σ H Q I h
  exact UnaryOp_ (thn (ha pins s σ H _ I h) fun v s1 ⟨x, H1, I1, r1, q1⟩ => ho pins s1 σ H1 x v Q I1 r1 q1)
theorem opI {f : Value → Value → Sem Value} {C : Int → Int → Prop} {g : Int → Int → Int}
    (rule : ∀ (i j : Int) (t u : Tok) (s : Shared) (Q : Value → Shared → Prop) (E : Value → Shared → Prop), C i j → Q (.int (g i j) s.toks) { s with toks := s.toks + 1 } → wpAny (model X.prog X.w) X.A (f (.int i t) (.int j u)) Q E s) :
    OpR X f (rI C fun i j => .int (g i j)) := by
  intro pins s σ H x y v u Q I rx ry h
  obtain ⟨i, j, rfl, rfl, hc, q⟩ := h
  obtain ⟨t, rfl⟩ := rx
  obtain ⟨t', rfl⟩ := ry
  exact rule i j t t' s _ _ hc ⟨.int (g i j), H, I.tok _, ⟨_, rfl⟩, q⟩
theorem opI0 {f : Value → Value → Sem Value} {g : Int → Int → Int}
    (rule : ∀ (i j : Int) (t u : Tok) (s : Shared) (Q : Value → Shared → Prop) (E : Value → Shared → Prop), Q (.int (g i j) s.toks) { s with toks := s.toks + 1 } → wpAny (model X.prog X.w) X.A (f (.int i t) (.int j u)) Q E s) :
    OpR X f (rI0 fun i j => .int (g i j)) := by
  intro pins s σ H x y v u Q I rx ry h
  obtain ⟨i, j, rfl, rfl, q⟩ := h
  obtain ⟨t, rfl⟩ := rx
  obtain ⟨t', rfl⟩ := ry
  exact rule i j t t' s _ _ ⟨.int (g i j), H, I.tok _, ⟨_, rfl⟩, q⟩
theorem opB0 {f : Value → Value → Sem Value} {g : Int → Int → Bool}
    (rule : ∀ (i j : Int) (t u : Tok) (s : Shared) (Q : Value → Shared → Prop) (E : Value → Shared → Prop), Q (.bool (g i j)) s → wpAny (model X.prog X.w) X.A (f (.int i t) (.int j u)) Q E s) :
    OpR X f (rI0 fun i j => .bl (g i j)) := by
  intro pins s σ H x y v u Q I rx ry h
  obtain ⟨i, j, rfl, rfl, q⟩ := h
  obtain ⟨t, rfl⟩ := rx
  obtain ⟨t', rfl⟩ := ry
  exact rule i j t t' s _ _ ⟨.bl (g i j), H, I, rfl, q⟩
def CDiv (i j : Int) : Prop := 0 < j ∧ j < 1073741824
def CPow (i j : Int) : Prop := 0 ≤ j ∧ j ≤ 1000000 ∧ i.natAbs < 2 ^ 64
def CMul (i j : Int) : Prop := (-(2 ^ 64) < i ∧ i < 2 ^ 64) ∨ (-(2 ^ 64) < j ∧ j < 2 ^ 64)
theorem CMul.ok {i j : Int} (h : CMul i j) : IntMulOk i j := by
  rcases h with ⟨h1, h2⟩ | ⟨h1, h2⟩
  · exact .of_left (intBits_le_64 h1 h2)
  · exact .of_right (intBits_le_64 h1 h2)
theorem two_pow_nn (k : Nat) : (0 : Int) ≤ 2 ^ k := by
  rw [two_pow_cast]
  exact Int.natCast_nonneg _
theorem op_add : OpR X (binaryOp .Add) (rI0 fun i j => .int (i + j)) := opI0 fun _ _ _ _ _ _ _ q => add_int q
theorem op_sub : OpR X (binaryOp .Sub) (rI0 fun i j => .int (i - j)) := opI0 fun _ _ _ _ _ _ _ q => sub_int q
theorem op_mul : OpR X (binaryOp .Mult) (rI CMul fun i j => .int (i * j)) := opI fun _ _ _ _ _ _ _ hc q => mul_int q hc.ok
theorem op_fdiv : OpR X (binaryOp .FloorDiv) (rI CDiv fun i j => .int (i / j)) := opI fun i j _ _ _ _ _ hc q => by
  have h1 : (0 : Int) < j := hc.1
  have h2 : j < 1073741824 := hc.2
  exact floordiv_int (by omega) (by rw [Int.fdiv_eq_ediv_of_nonneg i (by omega)]; exact q) (.inl (PyProof.noPylong_small (by omega)))
theorem op_mod : OpR X (binaryOp .Mod) (rI (fun _ j => 0 < j) fun i j => .int (i % j)) := opI fun i j _ _ _ _ _ hc q => by
  have h1 : (0 : Int) < j := hc
  exact mod_int' (by omega) (by rw [Int.fmod_eq_emod_of_nonneg i (by omega)]; exact q)
theorem op_shl : OpR X (binaryOp .LShift) (rI CPow fun i j => .int (i * 2 ^ j.toNat)) := opI fun _ _ _ _ _ _ _ hc q => lshift_int_small hc.1 hc.2.1 hc.2.2 q
theorem op_shr : OpR X (binaryOp .RShift) (rI (fun _ j => 0 ≤ j) fun i j => .int (i / 2 ^ j.toNat)) := opI fun i j _ _ _ _ _ hc q =>
  rshift_int hc (by rw [Int.fdiv_eq_ediv_of_nonneg i (two_pow_nn _)]; exact q)
theorem op_and : OpR X (binaryOp .BitAnd) (rI0 fun i j => .int (Builtin.bitAnd i j)) := opI0 fun _ _ _ _ _ _ _ q => and_int q
theorem op_or : OpR X (binaryOp .BitOr) (rI0 fun i j => .int (Builtin.bitOr i j)) := opI0 fun _ _ _ _ _ _ _ q => or_int q
theorem op_xor : OpR X (binaryOp .BitXor) (rI0 fun i j => .int (Builtin.bitXor i j)) := opI0 fun _ _ _ _ _ _ _ q => xor_int q
theorem iop_add : OpR X (inplaceOp .Add) (rI0 fun i j => .int (i + j)) := opI0 fun _ _ _ _ _ _ _ q => iadd_int q
theorem iop_sub : OpR X (inplaceOp .Sub) (rI0 fun i j => .int (i - j)) := opI0 fun _ _ _ _ _ _ _ q => isub_int q
theorem iop_mul : OpR X (inplaceOp .Mult) (rI CMul fun i j => .int (i * j)) := opI fun _ _ _ _ _ _ _ hc q => imul_int q hc.ok
theorem iop_and : OpR X (inplaceOp .BitAnd) (rI0 fun i j => .int (Builtin.bitAnd i j)) := opI0 fun _ _ _ _ _ _ _ q => iand_int q
theorem iop_or : OpR X (inplaceOp .BitOr) (rI0 fun i j => .int (Builtin.bitOr i j)) := opI0 fun _ _ _ _ _ _ _ q => ior_int q
theorem iop_xor : OpR X (inplaceOp .BitXor) (rI0 fun i j => .int (Builtin.bitXor i j)) := opI0 fun _ _ _ _ _ _ _ q => ixor_int q
theorem unI {f : Value → Sem Value} {g : Int → Int}
    (rule : ∀ (i : Int) (t : Tok) (s : Shared) (Q : Value → Shared → Prop) (E : Value → Shared → Prop), Q (.int (g i) s.toks) { s with toks := s.toks + 1 } → wpAny (model X.prog X.w) X.A (f (.int i t)) Q E s) :
    UnR X f (rU fun i => .int (g i)) := by
  intro pins s σ H x v Q I rx h
  obtain ⟨i, rfl, q⟩ := h
  obtain ⟨t, rfl⟩ := rx
  exact rule i t s _ _ ⟨.int (g i), H, I.tok _, ⟨_, rfl⟩, q⟩
theorem un_neg : UnR X (unaryOp .USub) (rU fun i => .int (-i)) := unI fun _ _ _ _ _ q => neg_int q
theorem un_inv : UnR X (unaryOp .Invert) (rU fun i => .int (Builtin.bitNot i)) := unI fun _ _ _ _ _ q => invert_int q
end
def scal : V → V → Bool
  | .non, .non => true | .non, .int _ => true | .int _, .non => true | .non, .bl _ => true | .bl _, .non => true | .non, .str _ => true | .str _, .non => true
  | .int _, .int _ => true | .bl _, .bl _ => true | .str _, .str _ => true | .byt _, .byt _ => true
  | .int _, .str _ => true | .str _, .int _ => true | .bl _, .str _ => true | .str _, .bl _ => true
  | _, _ => false
def rEq : R2 := fun x y H Q => scal x y = true ∧ Q (.bl (decide (x = y))) H
def rNe : R2 := fun x y H Q => scal x y = true ∧ Q (.bl (!decide (x = y))) H
theorem dec_int {i j : Int} : decide (V.int i = V.int j) = (i == j) := by
  rw [Bool.eq_iff_iff]
  simp
theorem dec_bl {i j : Bool} : decide (V.bl i = V.bl j) = (i == j) := by
  rw [Bool.eq_iff_iff]
  simp
theorem dec_str {i j : Str} : decide (V.str i = V.str j) = (i == j) := by
  rw [Bool.eq_iff_iff]
  simp
theorem dec_byt {i j : Array UInt8} : decide (V.byt i = V.byt j) = (i.toList == j.toList) := by
  rw [Bool.eq_iff_iff]
  cases i
  cases j
  simp
section
variable {X : Cx} {a b c : Expr} {ta tb tc : TE} {pos : Pos}
theorem fin_bl {pins : List (Addr × Obj)} {σ : St} {H : Hp} {s : Shared} {Q : VK} {k k' : Bool} (I : Inv X pins σ H s) (q : Q (.bl k) H) (e : k = k') : EP X pins σ Q (.bool k') s := by
  subst e
  exact ⟨.bl k, H, I, rfl, q⟩
theorem op_eq : OpR X (compareOp .Eq) rEq := by
  intro pins s σ H x y v u Q I rx ry h
  obtain ⟨hs, q⟩ := h
  cases x with
  | non =>
    cases rx
    cases y with
    | non => cases ry; exact PySem.EqNone.eq_none_none (fin_bl I q (by simp))
    | bl j => cases ry; exact PySem.EqNone.eq_none_bool (fin_bl I q (by simp))
    | int j => obtain ⟨t', rfl⟩ := ry; exact PySem.EqNone.eq_none_int (fin_bl I q (by simp))
    | str j => obtain ⟨t', rfl⟩ := ry; exact PySem.EqNone.eq_none_str (fin_bl I q (by simp))
    | _ => exact absurd (show false = true from hs) Bool.false_ne_true
  | bl i =>
    cases rx
    cases y with
    | non => cases ry; exact PySem.EqNone.eq_bool_none (fin_bl I q (by simp))
    | bl j => cases ry; exact eq_bool (fin_bl I q dec_bl)
    | str j => obtain ⟨t', rfl⟩ := ry; exact PySem.EqMixed.eq_bool_str (fin_bl I q (by simp))
    | _ => exact absurd (show false = true from hs) Bool.false_ne_true
  | int i =>
    obtain ⟨t, rfl⟩ := rx
    cases y with
    | non => cases ry; exact PySem.EqNone.eq_int_none (fin_bl I q (by simp))
    | int j => obtain ⟨t', rfl⟩ := ry; exact eq_int (fin_bl I q dec_int)
    | str j => obtain ⟨t', rfl⟩ := ry; exact PySem.EqMixed.eq_int_str (fin_bl I q (by simp))
    | _ => exact absurd (show false = true from hs) Bool.false_ne_true
  | str i =>
    obtain ⟨t, rfl⟩ := rx
    cases y with
    | non => cases ry; exact PySem.EqNone.eq_str_none (fin_bl I q (by simp))
    | bl j => cases ry; exact PySem.EqMixed.eq_str_bool (fin_bl I q (by simp))
    | int j => obtain ⟨t', rfl⟩ := ry; exact PySem.EqMixed.eq_str_int (fin_bl I q (by simp))
    | str j => obtain ⟨t', rfl⟩ := ry; exact eq_str (fin_bl I q dec_str)
    | _ => exact absurd (show false = true from hs) Bool.false_ne_true
  | byt i =>
    obtain ⟨t, rfl⟩ := rx
    cases y with
    | byt j => obtain ⟨t', rfl⟩ := ry; exact PySem.W.eq_bytes (fin_bl I q dec_byt)
    | _ => exact absurd (show false = true from hs) Bool.false_ne_true
  | _ => cases y <;> exact absurd (show false = true from hs) Bool.false_ne_true
theorem op_ne : OpR X (compareOp .NotEq) rNe := by
  intro pins s σ H x y v u Q I rx ry h
  obtain ⟨hs, q⟩ := h
  cases x with
  | non =>
    cases rx
    cases y with
    | non => cases ry; exact PySem.EqNone.ne_none_none (fin_bl I q (by simp))
    | bl j => cases ry; exact PySem.EqNone.ne_none_bool (fin_bl I q (by simp))
    | int j => obtain ⟨t', rfl⟩ := ry; exact PySem.EqNone.ne_none_int (fin_bl I q (by simp))
    | str j => obtain ⟨t', rfl⟩ := ry; exact PySem.EqNone.ne_none_str (fin_bl I q (by simp))
    | _ => exact absurd (show false = true from hs) Bool.false_ne_true
  | bl i =>
    cases rx
    cases y with
    | non => cases ry; exact PySem.EqNone.ne_bool_none (fin_bl I q (by simp))
    | bl j => cases ry; exact ne_bool (fin_bl I q (congrArg not dec_bl))
    | str j => obtain ⟨t', rfl⟩ := ry; exact PySem.EqMixed.ne_bool_str (fin_bl I q (by simp))
    | _ => exact absurd (show false = true from hs) Bool.false_ne_true
  | int i =>
    obtain ⟨t, rfl⟩ := rx
    cases y with
    | non => cases ry; exact PySem.EqNone.ne_int_none (fin_bl I q (by simp))
    | int j => obtain ⟨t', rfl⟩ := ry; exact ne_int (fin_bl I q (congrArg not dec_int))
    | str j => obtain ⟨t', rfl⟩ := ry; exact PySem.EqMixed.ne_int_str (fin_bl I q (by simp))
    | _ => exact absurd (show false = true from hs) Bool.false_ne_true
  | str i =>
    obtain ⟨t, rfl⟩ := rx
    cases y with
    | non => cases ry; exact PySem.EqNone.ne_str_none (fin_bl I q (by simp))
    | bl j => cases ry; exact PySem.EqMixed.ne_str_bool (fin_bl I q (by simp))
    | int j => obtain ⟨t', rfl⟩ := ry; exact PySem.EqMixed.ne_str_int (fin_bl I q (by simp))
    | str j => obtain ⟨t', rfl⟩ := ry; exact ne_str (fin_bl I q (congrArg not dec_str))
    | _ => exact absurd (show false = true from hs) Bool.false_ne_true
  | byt i =>
    obtain ⟨t, rfl⟩ := rx
    cases y with
    | byt j => obtain ⟨t', rfl⟩ := ry; exact PySem.W.ne_bytes (fin_bl I q (congrArg not dec_byt))
    | _ => exact absurd (show false = true from hs) Bool.false_ne_true
  | _ => cases y <;> exact absurd (show false = true from hs) Bool.false_ne_true
theorem op_lt : OpR X (compareOp .Lt) (rI0 fun i j => .bl (decide (i < j))) := opB0 fun _ _ _ _ _ _ _ q => lt_int q
theorem op_le : OpR X (compareOp .LtE) (rI0 fun i j => .bl (decide (i ≤ j))) := opB0 fun _ _ _ _ _ _ _ q => le_int q
theorem op_gt : OpR X (compareOp .Gt) (rI0 fun i j => .bl (decide (j < i))) := opB0 fun _ _ _ _ _ _ _ q => gt_int q
theorem op_ge : OpR X (compareOp .GtE) (rI0 fun i j => .bl (decide (j ≤ i))) := opB0 fun _ _ _ _ _ _ _ q => ge_int q
theorem op_isN : OpR X (compareOp .Is) (fun x y H Q => y = .non ∧ Q (.bl (decide (x = .non))) H) := by
  intro pins s σ H x y v u Q I rx ry h
  obtain ⟨rfl, q⟩ := h
  cases ry
  refine is_none_gen (fin_bl I q ?_)
  cases x <;> first
    | (cases rx; rfl)
    | (obtain ⟨t, rfl⟩ := rx; rfl)
theorem op_notN : OpR X (compareOp .IsNot) (fun x y H Q => y = .non ∧ Q (.bl (!decide (x = .non))) H) := by
  intro pins s σ H x y v u Q I rx ry h
  obtain ⟨rfl, q⟩ := h
  cases ry
  refine isnot_none_gen (fin_bl I q ?_)
  cases x <;> first
    | (cases rx; rfl)
    | (obtain ⟨t, rfl⟩ := rx; rfl)
theorem nomark (b : Expr) {op : CmpOp} (h : op ≠ .In := by decide) (h2 : op ≠ .NotIn := by decide) : behindInMarks op b = false := by
  have e1 : (op == CmpOp.In) = false := by cases op <;> first | rfl | exact absurd rfl h
  have e2 : (op == CmpOp.NotIn) = false := by cases op <;> first | rfl | exact absurd rfl h2
  cases b <;> simp [behindInMarks, e1, e2]
theorem pe_cmpR {op : CmpOp} {r : R2} (ho : OpR X (compareOp op) r) (ha : PE X a ta) (hb : PE X b tb) (hm : behindInMarks op b = false) : PE X (.Compare a [op] [b] pos) (tOp r ta tb) := by
  intro pins s σ H Q I h
  exact wpAny_Compare1 (binT ha hb I h fun v u s2 x y H2 I2 rx ry q => ho pins s2 σ H2 x y v u Q I2 rx ry q) hm
def tTest (t : TE) : TT := fun σ H Q => t σ H fun x H' => ∃ k, x = .bl k ∧ Q k H'
theorem pt_cmpR {op : CmpOp} {r : R2} (ho : OpR X (compareOp op) r) (ha : PE X a ta) (hb : PE X b tb) (hm : behindInMarks op b = false) : PT X (.Compare a [op] [b] pos) (tTest (tOp r ta tb)) := by
  intro pins s σ H Q I h
  refine wpAny_isTrue_Compare1 (thn (ha pins s σ H _ I h) fun v s1 ⟨x, H1, I1, r1, q1⟩ => thn (hb pins s1 σ H1 _ I1 q1) fun u s2 ⟨y, H2, I2, r2, q2⟩ =>
    thn (ho pins s2 σ H2 x y v u _ I2 r1 r2 q2) fun c s3 ⟨z, H3, I3, r3, k, e, q3⟩ => ?_) hm
  subst e
  cases r3
  exact wpAny_truthy_bool ⟨H3, I3, q3⟩
def TruV (K : PySem.W.Frag) (x : V) (H : Hp) (k : Bool) : Prop :=
  match x with
  | .non => k = false
  | .bl b => k = b
  | .int i => k = (i != 0)
  | .str y => y.length ≤ sizeLine ∧ k = ((y.length : Int) != 0)
  | .byt y => y.size ≤ sizeLine ∧ k = ((y.size : Int) != 0)
  | .ref p => (∃ xs, SqL K H p xs ∧ k = !xs.isEmpty) ∨ (∃ xs, SqT K H p xs ∧ k = !xs.isEmpty) ∨ ∃ kvs, H p = some (.dK kvs) ∧ k = !kvs.isEmpty
  | _ => False
theorem isEmpty_kv {κ : Type} {kvs : List (κ × V)} {vs : List (κ × Value)} (r : KV kvs vs) : (!vs.isEmpty) = !kvs.isEmpty := by
  cases r <;> rfl
theorem isEmpty_of {xs : List V} {its : List Value} (r : Vals xs its) : (!its.toArray.isEmpty) = !xs.isEmpty := by
  cases r <;> simp
theorem line63 : (sizeLine : Nat) < 2 ^ 63 := by rw [sizeLine_eq]; decide
theorem tru_ok : TruR X (fun x H Q => ∃ k, TruV X.K x H k ∧ Q k H) := by
  intro pins s σ H x v Q I rx h
  obtain ⟨k, e, q⟩ := h
  have hl := line63
  have hs : sizeLine = 16777216 := sizeLine_eq
  cases x with
  | non =>
    cases rx
    have e' : k = false := e
    subst e'
    exact truthy_none ⟨H, I, q⟩
  | bl b =>
    cases rx
    have e' : k = b := e
    subst e'
    exact wpAny_truthy_bool ⟨H, I, q⟩
  | int i =>
    obtain ⟨t, rfl⟩ := rx
    have e' : k = (i != 0) := e
    subst e'
    exact PySem.P.truthy_int ⟨H, I, q⟩
  | str y =>
    obtain ⟨t, rfl⟩ := rx
    obtain ⟨hy, e'⟩ : y.length ≤ sizeLine ∧ k = ((y.length : Int) != 0) := e
    subst e'
    exact PySem.P.truthy_str (by omega) ⟨H, I.tok _, q⟩
  | byt y =>
    obtain ⟨t, rfl⟩ := rx
    obtain ⟨hy, e'⟩ : y.size ≤ sizeLine ∧ k = ((y.size : Int) != 0) := e
    subst e'
    exact PySem.W.truthy_bytes (by omega) ⟨H, I.tok _, q⟩
  | ref p =>
    cases rx
    have e' : (∃ xs, SqL X.K H p xs ∧ k = !xs.isEmpty) ∨ (∃ xs, SqT X.K H p xs ∧ k = !xs.isEmpty) ∨ ∃ kvs, H p = some (.dK kvs) ∧ k = !kvs.isEmpty := e
    rcases e' with ⟨xs, hx, e'⟩ | ⟨xs, hx, e'⟩ | ⟨kvs, hx, e'⟩
    · subst e'
      obtain ⟨its, r, pl, hz⟩ := I.list hx
      have hlen := r.length
      exact wpAny_truthy_list pl.isList (by simp only [List.size_toArray]; omega) ⟨H, I.tok _, by rw [isEmpty_of r]; exact q⟩
    · subst e'
      obtain ⟨its, r, pl, hz⟩ := I.tuple hx
      have hlen := r.length
      exact truthy_tuple pl (by simp only [List.size_toArray]; omega) ⟨H, I.tok _, by rw [isEmpty_of r]; exact q⟩
    · subst e'
      obtain ⟨hz, hS, vs, r, m⟩ : kvs.length ≤ sizeLine ∧ (p == sysModules) = false ∧ ∃ vs, KV kvs vs ∧ s.heap.DictOf (mixKind X.prog X.w) p vs := I.hok p _ hx
      have hlen : kvs.length = vs.length := Paired.length r
      exact wpAny_truthy_dict hS m (by omega) ⟨H, I.tok _, by rw [isEmpty_kv r]; exact q⟩
  | _ => exact (show False from e).elim
theorem pt_truth (ha : PE X a ta) (he : ∀ whole, isTrue a X.env whole = (do let v ← whole; standAt a.pos; holding [v] (truthy v))) :
    PT X a (fun σ H Q => ta σ H fun x H' => ∃ k, TruV X.K x H' k ∧ Q k H') := by
  intro pins s σ H Q I h
  exact isTrue_plain (thn (ha pins s σ H _ I h) fun v s1 ⟨x, H1, I1, r1, q1⟩ => tru_ok pins s1 σ H1 x v Q I1 r1 q1) (he _)
theorem vals1 {x : V} {us : List Value} (r : Vals [x] us) : ∃ u, us = [u] ∧ RelV x u := by
  cases r with
  | cons r1 r2 => cases r2; exact ⟨_, rfl, r1⟩
theorem vals2 {x y : V} {us : List Value} (r : Vals [x, y] us) : ∃ u w', us = [u, w'] ∧ RelV x u ∧ RelV y w' := by
  cases r with
  | cons r1 r2 =>
    cases r2 with
    | cons r3 r4 => cases r4; exact ⟨_, _, rfl, r1, r3⟩
theorem call_max2 (hc : X.calm = true) : CallR X (.builtin "max") (fun xs H Q => ∃ i j, xs = [.int i, .int j] ∧ Q (.int (if j > i then j else i)) H) := by
  intro pins s σ H xs us Q I r h
  obtain ⟨i, j, rfl, q⟩ := h
  obtain ⟨u, w', rfl, ⟨t, rfl⟩, ⟨t', rfl⟩⟩ := vals2 r
  refine max_two_ints (I.ok.hd hc) fun h' tk k => ⟨_, H, I.kept k, ?_, q⟩
  by_cases hj : j > i
  · rw [if_pos hj, if_pos hj]; exact ⟨_, rfl⟩
  · rw [if_neg hj, if_neg hj]; exact ⟨_, rfl⟩
theorem call_min2 (hc : X.calm = true) : CallR X (.builtin "min") (fun xs H Q => ∃ i j, xs = [.int i, .int j] ∧ Q (.int (if j < i then j else i)) H) := by
  intro pins s σ H xs us Q I r h
  obtain ⟨i, j, rfl, q⟩ := h
  obtain ⟨u, w', rfl, ⟨t, rfl⟩, ⟨t', rfl⟩⟩ := vals2 r
  refine min_two_ints (I.ok.hd hc) fun h' tk k => ⟨_, H, I.kept k, ?_, q⟩
  by_cases hj : j < i
  · rw [if_pos hj, if_pos hj]; exact ⟨_, rfl⟩
  · rw [if_neg hj, if_neg hj]; exact ⟨_, rfl⟩
end
end L2
namespace L2
open PySem PySem.Spec PyProof.Rows
structure ObjM (h : Heap) (x dx C : Addr) (mA : Str → Option Value) : Prop where
  obj : h.get? x = some (PySem.W.instObj C dx)
  ns : h.Ns1 dx mA
  ne : dx ≠ x
theorem lookIn_ns {h : Heap} {dx : Addr} {mA : Str → Option Value} (n : h.Ns1 dx mA) : ∃ od, h.get? dx = some od ∧ ∀ name, PySem.W.lookIn name od = some (mA name) := by
  obtain ⟨o, es, ep, ho, hd, hk, _, hm⟩ := n
  refine ⟨o, ho, fun name => ?_⟩
  have e := hm name
  unfold nsFind findBy at e
  rw [← Array.find?_toList] at e
  unfold PySem.W.lookIn
  rw [hd]
  dsimp only
  split
  · rename_i y q
    rw [q] at e
    exact congrArg some e
  · rename_i q
    rw [q] at e
    have a : es.toList.any (·.refKey) = false := by
      rw [List.any_eq_false]
      intro y hy
      obtain ⟨z, t, hkey⟩ := hk y (Array.mem_toList_iff.mp hy)
      simp [DictEntry.refKey, hkey]
    have a' : ¬ es.toList.any (·.refKey) = true := by rw [a]; exact Bool.false_ne_true
    rw [if_neg a']
    exact congrArg some e
theorem ObjM.look {h : Heap} {x dx C : Addr} {mA : Str → Option Value} (I : ObjM h x dx C mA) : ∃ od, PySem.W.InstAt h x (PySem.W.instObj C dx) C (some od) ∧ ∀ name, PySem.W.lookIn name od = some (mA name) :=
  let ⟨od, ho, hl⟩ := lookIn_ns I.ns
  ⟨od, ⟨I.obj, rfl, rfl, ho⟩, hl⟩
section
variable {prog : Program} {w : World} {A : Around} {E : Value → Shared → Prop} {s : Shared} {K : PySem.W.Frag} {x dx C f : Addr} {mA : Str → Option Value} {name : Str} {v : Value}
theorem get_map {expr : Bool} {Q : Value → Shared → Prop} (X : K.In s.heap) (I : ObjM s.heap x dx C mA) (hg : PySem.W.plainGet K C name = true) (hh : PySem.W.hasDictIn K C = true)
    (ha : PySem.W.findIn K (.ref C) name = some none) (hv : mA name = some v) (hv' : PySem.W.handedIn v = true) (h : Q v { s with toks := s.toks + 1 }) :
    wpAny (model prog w) A (getAttr (.ref x) name expr) Q E s := by
  obtain ⟨od, J, hl⟩ := I.look
  exact PySem.W.get_value X J (PySem.W.plainGet_of hg).1 (PySem.W.findObj_own hh ha rfl (by rw [hl, hv])) hv' h
theorem get_meth {pl : Sem Bool} {Q : Value × List Value → Shared → Prop} (X : K.In s.heap) (I : ObjM s.heap x dx C mA) (hg : PySem.W.plainGet K C name = true)
    (hf : PySem.W.findIn K (.ref C) name = some (some (.ref f))) (ht : PySem.W.isFn K (.ref f) = true) (hv : mA name = none) (h : Q (.ref f, [.ref x]) s) :
    wpAny (model prog w) A (getMethod (.ref x) name pl) Q E s := by
  obtain ⟨od, J, hl⟩ := I.look
  exact PySem.W.method_fn X J (PySem.W.plainGet_of hg).1 (PySem.W.plainGet_of hg).2 hf (beq_iff_eq.mp ht) (by show (PySem.W.lookIn name od).map (·.isSome) = some false; rw [hl, hv]; rfl) h
theorem set_map {ns : List Str} {Q : Unit → Shared → Prop} (X : K.In s.heap) (I : ObjM s.heap x dx C mA)
    (hs : PySem.W.findIn K (.ref C) "__setattr__" = some (some (.builtin "object.__setattr__"))) (hp : PySem.W.plainOver K C = true) (ht : PySem.W.takerIn K C name = some none) (hh : PySem.W.hasDictIn K C = true)
    (hw : PySem.Within mA ns) (hsz : ns.length ≤ sizeLine)
    (h : ∀ h', ObjM h' x dx C (fun y => if y = name then some v else mA y) → Heap.SameBut dx s.heap h' → Q () { s with heap := h', toks := s.toks + 2 }) :
    wpAny (model prog w) A (setAttr (.ref x) name v) Q E s := by
  obtain ⟨od, J, hl⟩ := I.look
  refine PySem.W.set_plain X J hs (PySem.W.osa_open (s := { s with toks := s.toks + 1 }) (r := none) X J hp ht fun b => ?_)
  obtain ⟨cd, hc, hd'⟩ := PySem.W.any_some hh
  have hx : s.heap.get? x = some ⟨.ref C, some dx, .plain, #[]⟩ := I.obj
  refine wpAny_bind (wpAny_pure (wpAny_bind (wpAny_bind (wpAny_loadPart hx (wpAny_bind (PySem.W.Looks.here (s := { s with toks := s.toks + 1 }) (PySem.W.looks_clsIn X hc) ?_))))))
  rw [hd']
  refine wpAny_pure (a := some dx) (wpAny_bind (wpAny_pure (wpAny_bind ?_)))
  refine wpAny_nsSet1 (s := { s with toks := s.toks + 1 }) I.ns fun h' hn2 hs2 => ?_
  obtain ⟨oD, esD, epD, hoD, hdD, hcD⟩ := hn2.count (PySem.Within.cons name v hw)
  refine wpAny_bind (wpAny_lookBehind hoD (by rw [hdD]; exact pastItsLine_dict (Nat.le_trans hcD (by rw [List.length_cons]; omega))) ?_)
  exact wpAny_pure (h _ ⟨(hs2.2 _ (Ne.symm I.ne)).trans I.obj, hn2, I.ne⟩ hs2)
theorem make_map {R : Result → Shared → Prop} {vs : List Value} {kw : List (Str × Value)} (X : K.In s.heap) (hm : PySem.W.makesIn K C = true)
    (hi : PySem.W.findIn K (.ref C) "__init__" = some (some (.ref f))) (hf : PySem.W.typeIn K (.ref f) = some (.type "function"))
    (h : codeAny (model prog w) (A.under (.builtin "type.__call__" ⟨.ref C :: vs, kw⟩)) (.call (.ref f) ⟨.ref (s.heap.objs.size + 1) :: vs, kw⟩) (PySem.W.InitBack (s.heap.objs.size + 1) R)
      { s with heap := (s.heap.push PySem.W.emptyDict).push (PySem.W.instObj C s.heap.objs.size) }) :
    codeAny (model prog w) A (.call (.ref C) ⟨vs, kw⟩) R s := by
  obtain ⟨hh, g, d, t, os⟩ := s
  exact PySem.W.make_core (PySem.W.makes_of X hm) (PySem.W.looks_findIn X hi) (fun self => PySem.W.bind_fn X self hf) (.inl rfl) h
end
def putF (f : Str) (v : V) : List (Str × V) → List (Str × V)
  | [] => [(f, v)]
  | (g, x) :: r => if g = f then (g, v) :: r else (g, x) :: putF f v r
theorem lookup_putF (f g : Str) (v : V) : ∀ fs : List (Str × V), (putF f v fs).lookup g = if g = f then some v else fs.lookup g
  | [] => by
    show List.lookup g [(f, v)] = _
    by_cases h : g = f
    · have hb : (g == f) = true := beq_iff_eq.mpr h
      simp only [List.lookup, hb, if_pos h]
    · have hb : (g == f) = false := beq_eq_false_iff_ne.mpr h
      simp only [List.lookup, hb, if_neg h]
  | (k, x) :: r => by
    have ih := lookup_putF f g v r
    rw [show putF f v ((k, x) :: r) = (if k = f then (k, v) :: r else (k, x) :: putF f v r) from rfl]
    by_cases hk : k = f
    · rw [if_pos hk]
      by_cases h : g = k
      · have hb : (g == k) = true := beq_iff_eq.mpr h
        simp only [List.lookup, hb, if_pos (h.trans hk)]
      · have hb : (g == k) = false := beq_eq_false_iff_ne.mpr h
        simp only [List.lookup, hb, if_neg (fun e : g = f => h (e.trans hk.symm))]
    · rw [if_neg hk]
      by_cases h : g = k
      · have hb : (g == k) = true := beq_iff_eq.mpr h
        simp only [List.lookup, hb, if_neg (fun e : g = f => hk (h.symm.trans e))]
      · have hb : (g == k) = false := beq_eq_false_iff_ne.mpr h
        simp only [List.lookup, hb]
        exact ih
theorem keys_putF (f : Str) (v : V) : ∀ fs : List (Str × V), f ∈ (putF f v fs).map (·.1) ∧ ∀ g, g ∈ fs.map (·.1) → g ∈ (putF f v fs).map (·.1)
  | [] => ⟨by simp [putF], fun g h => by simp at h⟩
  | (k, x) :: r => by
    obtain ⟨i1, i2⟩ := keys_putF f v r
    rw [show putF f v ((k, x) :: r) = (if k = f then (k, v) :: r else (k, x) :: putF f v r) from rfl]
    by_cases hk : k = f
    · rw [if_pos hk]
      subst hk
      exact ⟨by simp, fun g h => by simpa using h⟩
    · rw [if_neg hk]
      refine ⟨?_, fun g h => ?_⟩
      · rw [List.map_cons]
        exact List.mem_cons_of_mem _ i1
      · rw [List.map_cons] at h ⊢
        rcases List.mem_cons.mp h with e | e
        · exact List.mem_cons.mpr (.inl e)
        · exact List.mem_cons_of_mem _ (i2 g e)
theorem length_putF (f : Str) (v : V) : ∀ fs : List (Str × V), (putF f v fs).length ≤ fs.length + 1
  | [] => by simp [putF]
  | (k, x) :: r => by
    have ih := length_putF f v r
    rw [show putF f v ((k, x) :: r) = (if k = f then (k, v) :: r else (k, x) :: putF f v r) from rfl]
    by_cases hk : k = f
    · rw [if_pos hk, List.length_cons, List.length_cons]; omega
    · rw [if_neg hk, List.length_cons, List.length_cons]; omega
theorem RelO.some_of {v : V} {o : Option Value} (r : RelO (some v) o) : ∃ u, o = some u ∧ RelV v u := by
  cases o with
  | none => exact (show False from r).elim
  | some u => exact ⟨u, rfl, r⟩
theorem RelO.none_of {o : Option Value} (r : RelO none o) : o = none := by
  cases o with
  | none => rfl
  | some u => exact (show False from r).elim
theorem handed_of {v : V} {u : Value} (r : RelV v u) : PySem.W.handedIn u = true := by
  cases v with
  | non => cases (show u = Value.none from r); rfl
  | bl b => cases (show u = Value.bool b from r); rfl
  | int i => obtain ⟨t, e⟩ := (show ∃ t, u = Value.int i t from r); cases e; rfl
  | str x => obtain ⟨t, e⟩ := (show ∃ t, u = Value.str x t from r); cases e; rfl
  | byt b => obtain ⟨t, e⟩ := (show ∃ t, u = Value.bytes b t from r); cases e; rfl
  | flt b => obtain ⟨t, e⟩ := (show ∃ t, u = Value.float b t from r); cases e; rfl
  | ref a => cases (show u = Value.ref a from r); rfl
  | ty n => cases (show u = Value.type n from r); rfl
section
variable {P : Program} {w : World} {H H' : Hp} {h h' : Heap} {a C dx : Addr} {fs fs' : List (Str × V)}
theorem ins_get (hok : HOk P w H h) (e : H a = some (.ins C dx fs)) : ∃ mA, ObjM h a dx C mA ∧ (∀ f, RelO (fs.lookup f) (mA f)) ∧ PySem.Within mA (fs.map (·.1)) ∧ fs.length ≤ 1000 ∧ H dx = some (.own a) := by
  obtain ⟨d, z, ne, ob, mA, n, r, q⟩ := (show ObjOk P w H h a (.ins C dx fs) from hok a _ e)
  exact ⟨mA, ⟨ob, n, ne⟩, r, q, z, d⟩
end
structure Cls (K : PySem.W.Frag) (C : Addr) : Prop where
  pg : PySem.W.plainGet K C Str.empty = true
  hd : PySem.W.hasDictIn K C = true
  po : PySem.W.plainOver K C = true
  sa : PySem.W.findIn K (.ref C) "__setattr__" = some (some (.builtin "object.__setattr__"))
theorem Cls.get {K : PySem.W.Frag} {C : Addr} (c : Cls K C) (f : Str) : PySem.W.plainGet K C f = true := c.pg
def NoAttr (K : PySem.W.Frag) (C : Addr) (f : Str) : Prop := PySem.W.findIn K (.ref C) f = some none
theorem NoAttr.taker {K : PySem.W.Frag} {C : Addr} {f : Str} (n : NoAttr K C f) : PySem.W.takerIn K C f = some none := by
  unfold PySem.W.takerIn
  rw [show PySem.W.findIn K (.ref C) f = some none from n]
  rfl
structure Meth (K : PySem.W.Frag) (C : Addr) (m : Str) (f : Addr) : Prop where
  at_ : PySem.W.findIn K (.ref C) m = some (some (.ref f))
  fn : PySem.W.isFn K (.ref f) = true
  kp : PySem.W.keepIn K (.ref f) = true
section
variable {X : Cx} {pins : List (Addr × Obj)} {σ : St} {H : Hp} {s : Shared} {a C dx : Addr} {fs : List (Str × V)} {f : Str} {v : V} {A : Around} {E : Value → Shared → Prop}
theorem getattr_ok {b : Bool} {Q : Value → Shared → Prop} (I : Inv X pins σ H s) (e : H a = some (.ins C dx fs)) (c : Cls X.K C) (n : NoAttr X.K C f) (l : fs.lookup f = some v)
    (h : ∀ u s', Inv X pins σ H s' → RelV v u → Q u s') : wpAny (model X.prog X.w) A (getAttr (.ref a) f b) Q E s := by
  obtain ⟨mA, O, r, _, _, _⟩ := ins_get I.hok e
  obtain ⟨u, hu, ru⟩ := RelO.some_of (v := v) (o := mA f) (by rw [← l]; exact r f)
  exact get_map I.kIn O (c.get f) c.hd n hu (handed_of ru) (h u _ (I.tok _) ru)
theorem getmeth_ok {m : Str} {g : Addr} {pl : Sem Bool} {Q : Value × List Value → Shared → Prop} (I : Inv X pins σ H s) (e : H a = some (.ins C dx fs)) (c : Cls X.K C) (k : Meth X.K C m g) (l : fs.lookup m = none)
    (h : Q (.ref g, [.ref a]) s) : wpAny (model X.prog X.w) A (getMethod (.ref a) m pl) Q E s := by
  obtain ⟨mA, O, r, _, _, _⟩ := ins_get I.hok e
  have hn : mA m = none := RelO.none_of (by rw [← l]; exact r m)
  exact get_meth I.kIn O (c.get m) k.at_ k.fn hn h
theorem setattr_ok {y : V} {u : Value} {Q : Unit → Shared → Prop} (I : Inv X pins σ H s) (e : H a = some (.ins C dx fs)) (c : Cls X.K C) (n : NoAttr X.K C f) (hl : fs.length < 1000) (ry : RelV y u)
    (h : ∀ s', Inv X pins σ (upd H a (.ins C dx (putF f y fs))) s' → Q () s') : wpAny (model X.prog X.w) A (setAttr (.ref a) f u) Q E s := by
  obtain ⟨mA, O, r, wi, _, ho⟩ := ins_get I.hok e
  have hz : (fs.map (·.1)).length ≤ sizeLine := by rw [List.length_map, sizeLine_eq]; omega
  refine set_map I.kIn O c.sa c.po n.taker c.hd wi hz fun h' O' sb => h _ ?_
  have hd : ∃ o, h'.get? dx = some o := let ⟨o, _, _, e', _⟩ := O'.ns; ⟨o, e'⟩
  refine I.write (x := a) (e := dx) (by rw [e]; exact True.intro) (.inr ho) (fun b q hb z => (sb.2 b hb).trans z) hd ?_
  refine ⟨by rw [upd_ne O.ne]; exact ho, ?_, O.ne, O'.obj, _, O'.ns, fun g => ?_, fun g hg => ?_⟩
  · have := length_putF f y fs; omega
  · show RelO ((putF f y fs).lookup g) (if g = f then some u else mA g)
    rw [lookup_putF]
    by_cases q : g = f
    · rw [if_pos q, if_pos q]; exact ry
    · rw [if_neg q, if_neg q]; exact r g
  · by_cases q : g = f
    · rw [q]; exact (keys_putF f y fs).1
    · refine (keys_putF f y fs).2 g (wi g fun z => hg ?_)
      show (if g = f then some u else mA g) = none
      rw [if_neg q]; exact z
theorem Inv.made (I : Inv X pins σ H s) : Inv X pins σ (upd (upd H s.heap.objs.size (.own (s.heap.objs.size + 1))) (s.heap.objs.size + 1) (.ins C s.heap.objs.size []))
    { s with heap := (s.heap.push PySem.W.emptyDict).push (PySem.W.instObj C s.heap.objs.size) } := by
  have e1 : (s.heap.push PySem.W.emptyDict).get? s.heap.objs.size = some PySem.W.emptyDict := Heap.get?_push_size s.heap rfl
  have e2 : ((s.heap.push PySem.W.emptyDict).push (PySem.W.instObj C s.heap.objs.size)).get? (s.heap.objs.size + 1) = some (PySem.W.instObj C s.heap.objs.size) := by
    have := Heap.get?_push_size (s.heap.push PySem.W.emptyDict) (o := PySem.W.instObj C s.heap.objs.size) rfl
    rwa [Heap.size_push] at this
  have e3 : (s.heap.push PySem.W.emptyDict).Ns s.heap.objs.size (fun _ => none) := ⟨PySem.W.emptyDict, #[], _, e1, rfl, (fun e he => absurd he (by simp)), fun _ => rfl⟩
  have I1 := I.laid (a := s.heap.objs.size) (o := .own (s.heap.objs.size + 1)) (h' := s.heap.push PySem.W.emptyDict) (t' := s.toks) (fun b u q => Heap.get?_push_of_some _ q) (Nat.le_refl _) ⟨_, e1⟩
  refine I1.laid (a := s.heap.objs.size + 1) (o := .ins C s.heap.objs.size []) (t' := s.toks) (fun b u q => Heap.get?_push_of_some _ q) (Nat.le_of_eq (Heap.size_push _ _)) ?_
  have ne : s.heap.objs.size ≠ s.heap.objs.size + 1 := Nat.ne_of_lt (Nat.lt_succ_self _)
  refine ⟨by rw [upd_ne ne, upd_same], Nat.zero_le _, ne, e2, fun _ => none, (Heap.Ns1.of_empty e3).at fun o q => Heap.get?_push_of_some _ q, fun _ => True.intro, fun y hy => absurd rfl hy⟩
theorem attr_of {prog : Program} {w : World} {env : Env} {e : Expr} {f : Str} {pos : Pos} {s : Shared} {Q : Value → Shared → Prop} (hb : attributeBase e f env (eval e env) = eval e env)
    (h : wpAny (model prog w) A (eval e env) (fun o s₁ => wpAny (model prog w) A (getAttr o f true) Q E s₁) E s) : wpAny (model prog w) A (eval (.Attribute e f pos) env) Q E s :=
  Attribute_any_ h (by rw [arm_eval_Attribute, hb])
end
def tFld (K : PySem.W.Frag) (ta : TE) (f : Str) : TE := fun σ H Q => ta σ H fun x H1 => ∃ a C dx fs v, x = .ref a ∧ H1 a = some (.ins C dx fs) ∧ Cls K C ∧ NoAttr K C f ∧ fs.lookup f = some v ∧ Q v H1
def sFld (K : PySem.W.Frag) (ta tv : TE) (f : Str) : TS := fun D σ H => tv σ H fun y H1 => ta σ H1 fun x H2 => ∃ a C dx fs, x = .ref a ∧ H2 a = some (.ins C dx fs) ∧ Cls K C ∧ NoAttr K C f ∧ fs.length < 1000 ∧
  D.nx σ (upd H2 a (.ins C dx (putF f y fs)))
def InOp (X : Cx) (op : Operator) (rd : V → V → Hp → VK → Prop) : Prop :=
  ∀ (pins : List (Addr × Obj)) (s : Shared) (σ : St) (H : Hp) (x y : V) (u v : Value) (Q : VK), Inv X pins σ H s → RelV x u → RelV y v → rd x y H Q → wpAny (model X.prog X.w) X.A (inplaceOp op u v) (EP X pins σ Q) X.xe s
def sFldAug (K : PySem.W.Frag) (ta tv : TE) (rd : V → V → Hp → VK → Prop) (f : Str) : TS := fun D σ H => ta σ H fun x H1 => ∃ a C dx fs v, x = .ref a ∧ H1 a = some (.ins C dx fs) ∧ Cls K C ∧ NoAttr K C f ∧ fs.lookup f = some v ∧
  tv σ H1 fun y H2 => rd v y H2 fun z H3 => ∃ dx' fs', H3 a = some (.ins C dx' fs') ∧ fs'.length < 1000 ∧ D.nx σ (upd H3 a (.ins C dx' (putF f z fs')))
section
variable {X : Cx} {o e value : Expr} {f : Str} {pos pos' tpos : Pos} {ta tv : TE}
theorem pe_fld (he : PE X e ta) (hb : attributeBase e f X.env (eval e X.env) = eval e X.env) : PE X (.Attribute e f pos) (tFld X.K ta f) := by
  intro pins s σ H Q I h
  refine attr_of hb (thn (he pins s σ H _ I h) fun u s1 ⟨x, H1, I1, rx, a, C, dx, fs, v, ex, ea, c, n, l, q⟩ => ?_)
  subst ex
  obtain rfl : u = Value.ref a := rx
  exact getattr_ok I1 ea c n l fun u' s2 I2 ru => ⟨v, H1, I2, ru, q⟩
theorem ps_fld (ha : PE X o ta) (hv : PE X value tv) (hs : swapsWith value (some (.Attribute o f pos')) pos.line X.env = pure false) : PS X (.Assign [.Attribute o f pos'] value pos) (sFld X.K ta tv f) := by
  intro pins s σ H D I h
  refine plainObj_wpAny_Assign_Attribute (thn (hv pins s σ H _ I h) fun u s1 ⟨y, H1, I1, ry, q⟩ => thn (ha pins s1 σ H1 _ I1 q) fun ov s2 ⟨x, H2, I2, rx, a, C, dx, fs, ex, ea, c, n, l, q2⟩ => ?_) hs
  subst ex
  obtain rfl : ov = Value.ref a := rx
  exact setattr_ok I2 ea c n l ry fun s3 I3 => ⟨σ, _, I3, q2⟩
theorem ps_fldaug {op : Operator} {rd : V → V → Hp → VK → Prop} (ha : PE X o ta) (hv : PE X value tv) (hop : InOp X op rd) : PS X (.AugAssign (.Attribute o f tpos) op value pos) (sFldAug X.K ta tv rd f) := by
  intro pins s σ H D I h
  refine wpAny_AugAssign_AttributeAny (thn (ha pins s σ H _ I h) fun ov s1 ⟨x, H1, I1, rx, a, C, dx, fs, v, ex, ea, c, n, l, q⟩ => ?_)
  subst ex
  obtain rfl : ov = Value.ref a := rx
  refine getattr_ok I1 ea c n l fun u s2 I2 ru => thn (hv pins s2 σ H1 _ I2 q) fun w3 s3 ⟨y, H2, I3, ry, q3⟩ => thn (hop pins s3 σ H2 v y u w3 _ I3 ru ry q3) fun w4 s4 ⟨z, H3, I4, rz, dx', fs', ea', l', q4⟩ => ?_
  exact setattr_ok I4 ea' c n l' rz fun s5 I5 => ⟨σ, _, I5, q4⟩
def rAdd : V → V → Hp → VK → Prop := fun x y H Q => ∃ i j, x = .int i ∧ y = .int j ∧ Q (.int (i + j)) H
def rSub : V → V → Hp → VK → Prop := fun x y H Q => ∃ i j, x = .int i ∧ y = .int j ∧ Q (.int (i - j)) H
theorem in_add : InOp X .Add rAdd := by
  rintro pins s σ H x y u v Q I rx ry ⟨i, j, rfl, rfl, q⟩
  obtain ⟨t, rfl⟩ := (show ∃ t, u = Value.int i t from rx)
  obtain ⟨t', rfl⟩ := (show ∃ t', v = Value.int j t' from ry)
  exact PyProof.Rows.iadd_int ⟨.int (i + j), H, I.tok _, ⟨_, rfl⟩, q⟩
theorem in_sub : InOp X .Sub rSub := by
  rintro pins s σ H x y u v Q I rx ry ⟨i, j, rfl, rfl, q⟩
  obtain ⟨t, rfl⟩ := (show ∃ t, u = Value.int i t from rx)
  obtain ⟨t', rfl⟩ := (show ∃ t', v = Value.int j t' from ry)
  exact PyProof.Rows.isub_int ⟨.int (i - j), H, I.tok _, ⟨_, rfl⟩, q⟩
theorem methcall_of {pl : Sem Bool} {m : Str} {apos : Pos} {args : List Expr} {pins : List (Addr × Obj)} {s : Shared} {σ : St} {H : Hp} {Q : Value → Shared → Prop} {te : TE} (he : PE X e te) (I : Inv X pins σ H s)
    (h : te σ H fun x H1 => ∃ a C dx fs g, x = .ref a ∧ H1 a = some (.ins C dx fs) ∧ Cls X.K C ∧ Meth X.K C m g ∧ fs.lookup m = none ∧
      ∀ s1, Inv X pins σ H1 s1 → wpAny (model X.prog X.w) X.A (callWith pos (.ref g) [.ref a] (backTo pos (starEach args X.env)) (backToKw pos (keywordEach [] X.env))) Q X.xe s1)
    (ht : eval (.Call (.Attribute e m apos) args [] pos) X.env = (do
      let ov ← eval e X.env
      standAt apos.atName
      let (f, first) ← holding [ov] (getMethod ov m pl)
      callWith pos f first (backTo pos (starEach args X.env)) (backToKw pos (keywordEach [] X.env)))) :
    wpAny (model X.prog X.w) X.A (eval (.Call (.Attribute e m apos) args [] pos) X.env) Q X.xe s := by
  refine PySem.W.methodCall_KW (pl := pl) (thn (he pins s σ H _ I h) fun u s1 ⟨x, H1, I1, rx, a, C, dx, fs, g, ex, ea, c, k, l, q⟩ => ?_) ht
  subst ex
  obtain rfl : u = Value.ref a := rx
  exact getmeth_ok I1 ea c k l (q s1 I1)
end
end L2
namespace L2
open PySem PySem.Spec PyProof.Rows
structure Room (k : Nat) (A : Around) : Prop where
  hd : A.handled = none
  dp : A.depth + 3 * k + 5 < recursionLimit
  un : A.units + 16 * k + 200 < cLine
theorem Room.mono {j k : Nat} {A : Around} (r : Room k A) (h : j ≤ k) : Room j A := ⟨r.hd, by have := r.dp; omega, by have := r.un; omega⟩
theorem Room.deeper {k : Nat} {A : Around} (r : Room (k + 1) A) (env : Env) : Room k (A.deeper env) :=
  ⟨r.hd, by have := r.dp; show A.depth + 1 + 3 * k + 5 < _; omega, by have := r.un; show A.units + 3 + 16 * k + 200 < _; omega⟩
theorem Room.in1 {k : Nat} {A : Around} (r : Room (k + 1) A) : Room k A.in1 :=
  ⟨r.hd, by have := r.dp; show A.depth + 3 * k + 5 < _; omega, by have := r.un; show A.units + 1 + 16 * k + 200 < _; omega⟩
theorem make_depth {A : Around} {C : Addr} {us : List Value} {kw : List (Str × Value)} : (A.under (.builtin "type.__call__" ⟨.ref C :: us, kw⟩)).depth = A.depth + 1 := by
  first | rfl | simp [Around.under, Code.weight, Code.isCreation, Code.isGuard, Code.isCaller, Code.frames, Code.isFrame, guardIds]
theorem make_units {A : Around} {C : Addr} {us : List Value} {kw : List (Str × Value)} : (A.under (.builtin "type.__call__" ⟨.ref C :: us, kw⟩)).units = A.units + 1 := by
  first | rfl | simp [Around.under, Code.cUnits, Code.frames, Code.isFrame]
theorem Room.make {k : Nat} {A : Around} (r : Room (k + 1) A) (C : Addr) (us : List Value) (kw : List (Str × Value)) : Room k (A.under (.builtin "type.__call__" ⟨.ref C :: us, kw⟩)) :=
  ⟨r.hd, by have := r.dp; rw [make_depth]; omega, by have := r.un; rw [make_units]; omega⟩
theorem Room.depth {k : Nat} {A : Around} (r : Room k A) : A.depth < recursionLimit := by have := r.dp; omega
theorem Room.units {k : Nat} {A : Around} (r : Room k A) : A.units + 64 < cLine := by have := r.un; omega
def tNil : TA := fun _ H Q => Q [] H
def tCons (ta : TE) (tr : TA) : TA := fun σ H Q => ta σ H fun x H1 => tr σ H1 fun xs H2 => Q (x :: xs) H2
section
variable {X : Cx} {e : Expr} {es : List Expr} {te : TE} {t : TA} {pos : Pos}
theorem pa_nil : PA X [] tNil := fun _ _ _ _ H Q I h => Calls.spliced_nil ⟨[], H, I, .nil, h⟩
theorem pa_cons (ha : PE X e te) (hr : PA X es t) (hs : starEach (e :: es) X.env = (false, eval e X.env) :: starEach es X.env := by rfl) : PA X (e :: es) (tCons te t) := by
  intro pos pins s σ H Q I h
  rw [hs]
  show wpAny _ _ (spliced ((false, eval e X.env) :: backTo pos (starEach es X.env))) _ _ s
  refine Calls.spliced_cons (thn (ha pins s σ H _ I h) fun u s1 ⟨x, H1, I1, r1, q1⟩ => ?_)
  exact thn (hr pos pins s1 σ H1 _ I1 q1) fun us s2 ⟨xs, H2, I2, r2, q2⟩ => ⟨x :: xs, H2, I2, .cons r1 r2, q2⟩
def tTup (t : TA) : TE := fun σ H Q => t σ H fun xs H1 => xs.length ≤ sizeLine ∧ ∀ p, H1 p = none → Q (.ref p) (upd H1 p (.tup xs))
def tLst (t : TA) : TE := fun σ H Q => t σ H fun xs H1 => xs.length ≤ sizeLine ∧ ∀ p, H1 p = none → Q (.ref p) (upd H1 p (.lst xs))
theorem pe_tup {x1} (h : PA X es t) : PE X (.Tuple es x1 pos) (tTup t) := by
  intro pins s σ H Q I hq
  refine wpAny_Tuple_spliced (thn (h pos pins s σ H _ I hq) fun us s1 ⟨xs, H1, I1, r, z, q⟩ => ⟨by rw [← r.length]; exact z, ?_⟩)
  have hf : H1 s1.heap.objs.size = none := I1.hok.fresh (Nat.le_refl _)
  refine ⟨.ref s1.heap.objs.size, upd H1 s1.heap.objs.size (.tup xs), I1.laid (t' := s1.toks) (fun b u e => Heap.get?_push_of_some _ e) (Nat.le_refl _) ?_, rfl, q _ hf⟩
  exact ⟨z, us, r, ⟨_, Heap.get?_push_size _ rfl, rfl, _, rfl⟩⟩
theorem pe_lst (h : PA X es t) : PE X (.List es pos) (tLst t) := by
  intro pins s σ H Q I hq
  refine wpAny_List_spliced (thn (h pos pins s σ H _ I hq) fun us s1 ⟨xs, H1, I1, r, z, q⟩ => ⟨by rw [← r.length]; exact z, ?_⟩)
  have hf : H1 s1.heap.objs.size = none := I1.hok.fresh (Nat.le_refl _)
  refine ⟨.ref s1.heap.objs.size, upd H1 s1.heap.objs.size (.lst xs), I1.laid (t' := s1.toks) (fun b u e => Heap.get?_push_of_some _ e) (Nat.le_refl _) ?_, rfl, q _ hf⟩
  exact ⟨z, us, 0, r, Heap.get?_push_size _ rfl⟩
end
abbrev Sp := List V → Hp → VK → XK → Prop
abbrev CXT := List Env → Hp → Shared → XK → Value → Shared → Prop
structure Env0 (P : Program) (w : World) (K : PySem.W.Frag) (mg : Str → Option Value) (base : Heap) (A : Around) (outer : List Env) (s : Shared) (H : Hp) : Prop where
  frames : A.frames = some outer
  mod : Mod K mg base
  bs : ∀ b o, base.get? b = some o → s.heap.get? b = some o ∧ H b = none
  bsz : base.objs.size ≤ s.heap.objs.size
  funs : s.heap.FunFrames base outer
  frf : ∀ b ∈ frs outer, H b = none
  hok : HOk P w H s.heap
  bare : AllBare s.gens
def CE (outer : List Env) (P : Program) (w : World) (H : Hp) (s : Shared) (Q : VK) (u : Value) (s' : Shared) : Prop :=
  ∃ v H', s'.os = s.os ∧ AllBare s'.gens ∧ Un (frs outer) [] H H' s.heap s'.heap ∧ HOk P w H' s'.heap ∧ RelV v u ∧ Q v H'
def CR (CX : CXT) (outer : List Env) (P : Program) (w : World) (H : Hp) (s : Shared) (Q : VK) (E : XK) (r : Result) (s' : Shared) : Prop :=
  match r with
  | .ok (.ret u) => CE outer P w H s Q u s'
  | .ok _ => False
  | .error e => CX outer H s E e s'
structure FnOk (P : Program) (w : World) (K : PySem.W.Frag) (mg : Str → Option Value) (base : Heap) (CX : CXT) (k : Nat) (f : Addr) (fd : FuncData) (ps : List Str) (sp : Sp) : Prop where
  len : ∀ vs H Q E, sp vs H Q E → vs.length = ps.length
  run : ∀ (A : Around) (outer : List Env) (s : Shared) (H : Hp) (args : Args) (us : List Value) (vs : List V) (Q : VK) (E : XK), Room k A → Env0 P w K mg base A outer s H → BindsTo s fd args (ps.zip us) → Vals vs us → sp vs H Q E →
    codeAny (model P w) A (.call (.ref f) args) (CR CX outer P w H s Q E) s
theorem Env0.make {P : Program} {w : World} {K : PySem.W.Frag} {mg : Str → Option Value} {base : Heap} {A : Around} {outer : List Env} {s : Shared} {H : Hp} (e : Env0 P w K mg base A outer s H) (C : Addr) (us : List Value) (kw : List (Str × Value)) :
    Env0 P w K mg base (A.under (.builtin "type.__call__" ⟨.ref C :: us, kw⟩)) outer s H := ⟨by first | exact e.frames | (simpa [Around.under, Code.envs, Code.isFrame, pushEnvs] using e.frames), e.mod, e.bs, e.bsz, e.funs, e.frf, e.hok, e.bare⟩
theorem Env0.in1 {P : Program} {w : World} {K : PySem.W.Frag} {mg : Str → Option Value} {base : Heap} {A : Around} {outer : List Env} {s : Shared} {H : Hp} (e : Env0 P w K mg base A outer s H) :
    Env0 P w K mg base A.in1 outer s H := ⟨e.frames, e.mod, e.bs, e.bsz, e.funs, e.frf, e.hok, e.bare⟩
section
variable {X : Cx} {pins : List (Addr × Obj)} {σ : St} {H : Hp} {s s' : Shared}
theorem Inv.env0 (I : Inv X pins σ H s) : Env0 X.prog X.w X.K X.mg X.base X.A X.stack s H :=
  ⟨I.ok.frames, I.ok.mod, I.bs, Nat.le_trans I.ok.bsz I.sz, I.stack, I.stkFree, I.hok, I.bare⟩
theorem Inv.after {Q : VK} {u : Value} (I : Inv X pins σ H s) (h : CE X.stack X.prog X.w H s Q u s') : EP X pins σ Q u s' := by
  obtain ⟨v, H', os, bare, un, hok, r, q⟩ := h
  obtain ⟨hh, g, d, t, os'⟩ := s'
  obtain rfl : os' = s.os := os
  exact ⟨v, H', I.call (h' := hh) (g' := g) (d' := d) (t' := t) (ch := []) un hok bare (fun b z => absurd z (by simp)), r, q⟩
end
def tCall (sp : Sp) (dvs : List V) (E : XK) (t : TA) : TE := fun σ H Q => t σ H fun vs H1 => sp (vs ++ dvs) H1 Q E
def tMeth (C : Addr) (m : Str) (sp : Sp) (dvs : List V) (E : XK) (ta : TE) (t : TA) : TE := fun σ H Q => ta σ H fun x H1 => ∃ a dx fs, x = .ref a ∧ H1 a = some (.ins C dx fs) ∧ fs.lookup m = none ∧
  t σ H1 fun vs H2 => sp (x :: (vs ++ dvs)) H2 Q E
def tMake (C : Addr) (sp : Sp) (dvs : List V) (E : XK) (t : TA) : TE := fun σ H Q => t σ H fun vs H1 => ∀ x dx, H1 x = none → H1 dx = none → dx ≠ x →
  sp (.ref x :: (vs ++ dvs)) (upd (upd H1 dx (.own x)) x (.ins C dx [])) (fun v H2 => v = .non ∧ Q (.ref x) H2) E
def Binds (K : PySem.W.Frag) (fd : FuncData) (ps : List Str) (ds : List Value) : Prop :=
  ∀ (s : Shared) (us : List Value), K.In s.heap → (us ++ ds).length = ps.length → BindsTo s fd ⟨us, []⟩ (ps.zip (us ++ ds))
theorem Binds.all {K : PySem.W.Frag} {fd : FuncData} {ps : List Str} (h : ∀ us : List Value, us.length = ps.length → bindArgs fd ⟨us, []⟩ = pure (ps.zip us)) : Binds K fd ps [] := fun s us _ hl => by
  rw [List.append_nil] at hl ⊢
  exact .of_eq (h us hl)
def Passes (CX : CXT) (X : Cx) (E : XK) : Prop := ∀ (pins : List (Addr × Obj)) (σ : St) (H : Hp) (s : Shared) (e : Value) (s' : Shared), Inv X pins σ H s → CX X.stack H s E e s' → X.xe e s'
section
variable {X : Cx} {CX : CXT} {k : Nat} {f C : Addr} {fd : FuncData} {ps : List Str} {sp : Sp} {dvs : List V} {ds : List Value} {E : XK} {x m : Str} {p pos apos : Pos} {e o : Expr} {es : List Expr} {ta : TE} {t : TA}
theorem run_fn {pins : List (Addr × Obj)} {σ : St} {H : Hp} {s : Shared} {Q : VK} {us : List Value} {vs : List V} (F : FnOk X.prog X.w X.K X.mg X.base CX k f fd ps sp) (hr : Room k X.A) (hb : Binds X.K fd ps ds) (hd : Vals dvs ds) (hx : Passes CX X E)
    (I : Inv X pins σ H s) (r : Vals vs us) (h : sp (vs ++ dvs) H Q E) : wpAny (model X.prog X.w) X.A (call (.ref f) us) (EP X pins σ Q) X.xe s := by
  have r2 : Vals (vs ++ dvs) (us ++ ds) := r.append hd
  have hl : (us ++ ds).length = ps.length := by rw [← r2.length]; exact F.len _ _ _ _ h
  refine wpAny_call (codeAny_mono (F.run X.A X.stack s H ⟨us, []⟩ (us ++ ds) (vs ++ dvs) Q E hr I.env0 (hb s us I.kIn hl) r2 h) fun r s' hq => ?_)
  cases r with
  | error e => exact hx pins σ H s e s' I hq
  | ok fl =>
    cases fl with
    | ret u => exact I.after hq
    | next => exact False.elim hq
    | brk => exact False.elim hq
    | cont => exact False.elim hq
theorem pe_call (F : FnOk X.prog X.w X.K X.mg X.base CX k f fd ps sp) (hr : Room k X.A) (hg : Gl X x) (hm : X.mg x = some (.ref f)) (hk : PySem.W.keepIn X.K (.ref f) = true) (hb : Binds X.K fd ps ds) (hd : Vals dvs ds) (hx : Passes CX X E)
    (ha : PA X (e :: es) t) (hdb : (x == ("__debug__" : Str)) = false := by decide) (he : starEach (e :: es) X.env = (false, eval e X.env) :: starEach es X.env := by rfl) (hpl : (backTo pos (starEach es X.env)).any (·.1) = false := by rfl) :
    PE X (.Call (.Name x p) (e :: es) [] pos) (tCall sp dvs E t) := by
  intro pins s σ H Q I h
  refine wpAny_Call_Name_kw (ld_glob I hg hm ?_ hdb)
  refine PySem.W.callWith_K (h₀ := X.base) I.ok.mod.kin hk (thn (ha pos pins s σ H _ I h) fun us s1 ⟨vs, H1, I1, r, q⟩ => ⟨I1.kIn, ?_⟩) he hpl
  exact run_fn F hr hb hd hx I1 r q
theorem pe_meth {pl : Sem Bool} (he : PE X o ta) (c : Cls X.K C) (hm : Meth X.K C m f) (F : FnOk X.prog X.w X.K X.mg X.base CX k f fd ps sp) (hr : Room k X.A) (hb : Binds X.K fd ps ds) (hd : Vals dvs ds) (hx : Passes CX X E) (ha : PA X (e :: es) t)
    (hst : starEach (e :: es) X.env = (false, eval e X.env) :: starEach es X.env := by rfl) (hpl : (backTo pos (starEach es X.env)).any (·.1) = false := by rfl)
    (ht : eval (.Call (.Attribute o m apos) (e :: es) [] pos) X.env = (do
      let ov ← eval o X.env
      standAt apos.atName
      let (f, first) ← holding [ov] (getMethod ov m pl)
      callWith pos f first (backTo pos (starEach (e :: es) X.env)) (backToKw pos (keywordEach [] X.env))) := by rfl) :
    PE X (.Call (.Attribute o m apos) (e :: es) [] pos) (tMeth C m sp dvs E ta t) := by
  intro pins s σ H Q I h
  refine PySem.W.methodCall_KW (pl := pl) (thn (he pins s σ H _ I h) fun u s1 ⟨x, H1, I1, rx, a, dx, fs, ex, ea, l, q⟩ => ?_) ht
  subst ex
  obtain rfl : u = Value.ref a := rx
  refine getmeth_ok I1 ea c hm l ?_
  refine PySem.W.callWith_K (first := [.ref a]) (h₀ := X.base) I.ok.mod.kin hm.kp (thn (ha pos pins s1 σ H1 _ I1 q) fun us s2 ⟨vs, H2, I2, r, q2⟩ => ⟨I2.kIn, ?_⟩) hst hpl
  exact run_fn (us := .ref a :: us) (vs := .ref a :: vs) F hr hb hd hx I2 (.cons rfl r) q2
theorem pe_meth0 {pl : Sem Bool} (he : PE X o ta) (c : Cls X.K C) (hm : Meth X.K C m f) (F : FnOk X.prog X.w X.K X.mg X.base CX k f fd ps sp) (hr : Room k X.A) (hb : Binds X.K fd ps ds) (hd : Vals dvs ds) (hx : Passes CX X E)
    (ht : eval (.Call (.Attribute o m apos) [] [] pos) X.env = (do
      let ov ← eval o X.env
      standAt apos.atName
      let (f, first) ← holding [ov] (getMethod ov m pl)
      callWith pos f first (backTo pos (starEach [] X.env)) (backToKw pos (keywordEach [] X.env))) := by rfl) :
    PE X (.Call (.Attribute o m apos) [] [] pos) (tMeth C m sp dvs E ta tNil) := by
  intro pins s σ H Q I h
  refine PySem.W.methodCall_KW (pl := pl) (thn (he pins s σ H _ I h) fun u s1 ⟨x, H1, I1, rx, a, dx, fs, ex, ea, l, q⟩ => ?_) ht
  subst ex
  obtain rfl : u = Value.ref a := rx
  refine getmeth_ok I1 ea c hm l ?_
  exact PySem.W.callWith_K0 (first := [.ref a]) I1.kIn hm.kp (run_fn (us := [.ref a]) (vs := [.ref a]) F hr hb hd hx I1 (.cons rfl .nil) q)
structure Mk (K : PySem.W.Frag) (C f : Addr) : Prop where
  makes : PySem.W.makesIn K C = true
  init : PySem.W.findIn K (.ref C) "__init__" = some (some (.ref f))
  fn : PySem.W.isFn K (.ref f) = true
  kp : PySem.W.keepIn K (.ref C) = true
theorem run_make {pins : List (Addr × Obj)} {σ : St} {H : Hp} {s : Shared} {Q : VK} {us : List Value} {vs : List V} (M : Mk X.K C f) (F : FnOk X.prog X.w X.K X.mg X.base CX k f fd ps sp) (hr : Room (k + 1) X.A) (hb : Binds X.K fd ps ds) (hd : Vals dvs ds)
    (hx : Passes CX X E) (I : Inv X pins σ H s) (r : Vals vs us)
    (h : ∀ x dx, H x = none → H dx = none → dx ≠ x → sp (.ref x :: (vs ++ dvs)) (upd (upd H dx (.own x)) x (.ins C dx [])) (fun v H2 => v = .non ∧ Q (.ref x) H2) E) :
    wpAny (model X.prog X.w) X.A (call (.ref C) us) (EP X pins σ Q) X.xe s := by
  have hq := h (s.heap.objs.size + 1) s.heap.objs.size (I.hok.fresh (Nat.le_succ _)) (I.hok.fresh (Nat.le_refl _)) (Nat.ne_of_lt (Nat.lt_succ_self _))
  have I2 := Inv.made (C := C) I
  have r2 : Vals (V.ref (s.heap.objs.size + 1) :: (vs ++ dvs)) (Value.ref (s.heap.objs.size + 1) :: (us ++ ds)) := .cons rfl (r.append hd)
  have hl : (Value.ref (s.heap.objs.size + 1) :: us ++ ds).length = ps.length := by
    have e := r2.length
    rw [F.len _ _ _ _ hq] at e
    exact e.symm
  refine wpAny_call (make_map (f := f) I.kIn M.makes M.init (beq_iff_eq.mp M.fn) (codeAny_mono (F.run _ X.stack _ _ ⟨Value.ref (s.heap.objs.size + 1) :: us, []⟩ (Value.ref (s.heap.objs.size + 1) :: (us ++ ds)) _ _ E (hr.make C us [])
    (I2.env0.make C us []) (hb _ (Value.ref (s.heap.objs.size + 1) :: us) I2.kIn hl) r2 hq) fun r s' hq' => ?_))
  cases r with
  | error e => exact hx pins σ _ _ e s' I2 hq'
  | ok fl =>
    cases fl with
    | ret u =>
      obtain ⟨v, H', I3, rv, ev, q3⟩ := I2.after hq'
      subst ev
      exact ⟨rv, ⟨V.ref (s.heap.objs.size + 1), H', I3, rfl, q3⟩⟩
    | next => exact False.elim hq'
    | brk => exact False.elim hq'
    | cont => exact False.elim hq'
theorem pe_make (M : Mk X.K C f) (F : FnOk X.prog X.w X.K X.mg X.base CX k f fd ps sp) (hr : Room (k + 1) X.A) (hg : Gl X x) (hm : X.mg x = some (.ref C)) (hb : Binds X.K fd ps ds) (hd : Vals dvs ds) (hx : Passes CX X E)
    (ha : PA X (e :: es) t) (hdb : (x == ("__debug__" : Str)) = false := by decide) (he : starEach (e :: es) X.env = (false, eval e X.env) :: starEach es X.env := by rfl) (hpl : (backTo pos (starEach es X.env)).any (·.1) = false := by rfl) :
    PE X (.Call (.Name x p) (e :: es) [] pos) (tMake C sp dvs E t) := by
  intro pins s σ H Q I h
  refine wpAny_Call_Name_kw (ld_glob I hg hm ?_ hdb)
  refine PySem.W.callWith_K (h₀ := X.base) I.ok.mod.kin M.kp (thn (ha pos pins s σ H _ I h) fun us s1 ⟨vs, H1, I1, r, q⟩ => ⟨I1.kIn, ?_⟩) he hpl
  exact run_make M F hr hb hd hx I1 r q
theorem pe_make0 (M : Mk X.K C f) (F : FnOk X.prog X.w X.K X.mg X.base CX k f fd ps sp) (hr : Room (k + 1) X.A) (hg : Gl X x) (hm : X.mg x = some (.ref C)) (hb : Binds X.K fd ps ds) (hd : Vals dvs ds) (hx : Passes CX X E)
    (hdb : (x == ("__debug__" : Str)) = false := by decide) : PE X (.Call (.Name x p) [] [] pos) (tMake C sp dvs E tNil) := by
  intro pins s σ H Q I h
  refine wpAny_Call_Name_kw (ld_glob I hg hm ?_ hdb)
  exact PySem.W.callWith_K0 I.kIn M.kp (run_make (us := []) M F hr hb hd hx I .nil h)
end
structure FnScope (N P : List Str) (sc : Scope) : Prop where
  kind : sc.kind = .function
  co : sc.isCoroutine = false
  gen : sc.isGenerator = false
  nd : N.Nodup
  pre : N.take P.length = P
  par : ∀ x ∈ P, sc.names.lookup x = some .local ∨ sc.names.lookup x = some .cell
  nofree : ∀ y ∈ sc.names, y.2 ≠ .free
theorem bindL_out {kindOf : Str → Option NameKind} {x : Str} : ∀ {binds : List (Str × Value)} {m : Str → Option Value}, (∀ v, (x, v) ∉ binds) → bindL kindOf binds m x = m x
  | [], _, _ => rfl
  | (n, v) :: r, m, h => by
    unfold bindL
    rw [bindL_out fun w hw => h w (List.mem_cons_of_mem _ hw)]
    split
    · have : x ≠ n := by rintro rfl; exact h v List.mem_cons_self
      simp [this]
    · rfl
theorem bindC_out {kindOf : Str → Option NameKind} {x : Str} : ∀ {binds : List (Str × Value)} {m : Str → Option Value}, (∀ v, (x, v) ∉ binds) → bindC kindOf binds m x = m x
  | [], _, _ => rfl
  | (n, v) :: r, m, h => by
    unfold bindC
    rw [bindC_out fun w hw => h w (List.mem_cons_of_mem _ hw)]
    split
    · rfl
    · have : x ≠ n := by rintro rfl; exact h v List.mem_cons_self
      simp [this]
theorem bindL_get {kindOf : Str → Option NameKind} {x : Str} {v : Value} : ∀ {P : List Str} {vs : List Value} {i : Nat} {m : Str → Option Value}, P.Nodup → P[i]? = some x → vs[i]? = some v → kindOf x = some .local →
    bindL kindOf (P.zip vs) m x = some v
  | [], _, _, _, _, h, _, _ => by simp at h
  | _ :: _, [], _, _, _, _, h, _ => by simp at h
  | p :: P, w :: vs, 0, m, nd, h1, h2, hk => by
    simp at h1 h2; subst h1; subst h2
    show bindL kindOf ((p, w) :: P.zip vs) m p = _
    unfold bindL
    rw [bindL_out fun v hv => (List.nodup_cons.mp nd).1 (List.of_mem_zip hv).1, if_pos hk]
    simp
  | p :: P, w :: vs, i + 1, m, nd, h1, h2, hk => by
    show bindL kindOf ((p, w) :: P.zip vs) m x = _
    unfold bindL
    exact bindL_get (i := i) (List.nodup_cons.mp nd).2 (by simpa using h1) (by simpa using h2) hk
theorem bindC_get {kindOf : Str → Option NameKind} {x : Str} {v : Value} : ∀ {P : List Str} {vs : List Value} {i : Nat} {m : Str → Option Value}, P.Nodup → P[i]? = some x → vs[i]? = some v → kindOf x ≠ some .local →
    bindC kindOf (P.zip vs) m x = some v
  | [], _, _, _, _, h, _, _ => by simp at h
  | _ :: _, [], _, _, _, _, h, _ => by simp at h
  | p :: P, w :: vs, 0, m, nd, h1, h2, hk => by
    simp at h1 h2; subst h1; subst h2
    show bindC kindOf ((p, w) :: P.zip vs) m p = _
    unfold bindC
    rw [bindC_out fun v hv => (List.nodup_cons.mp nd).1 (List.of_mem_zip hv).1, if_neg hk]
    simp
  | p :: P, w :: vs, i + 1, m, nd, h1, h2, hk => by
    show bindC kindOf ((p, w) :: P.zip vs) m x = _
    unfold bindC
    exact bindC_get (i := i) (List.nodup_cons.mp nd).2 (by simpa using h1) (by simpa using h2) hk
def start (N : List Str) (vs : List V) : St := vs.map some ++ List.replicate (N.length - vs.length) none
def cxOf (CX : CXT) (P : Program) (w : World) (K : PySem.W.Frag) (mg : Str → Option Value) (base : Heap) (N : List Str) (qual : Str) (scope : Scope) (f : Addr) (cd : Value) (A : Around) (outer : List Env) (s : Shared) (H : Hp) (E : XK) : Cx where
  prog := P
  w := w
  K := K
  mg := mg
  base := base
  A := A.deeper (envOfC qual scope s.heap.objs.size f cd)
  N := N
  s₀ := s
  H₀ := H
  env := envOfC qual scope s.heap.objs.size f cd
  outer := outer
  stack := envOfC qual scope s.heap.objs.size f cd :: outer
  ex := []
  calm := true
  fn := fun _ => true
  pn := []
  xe := fun e s' => wpAny (model P w) (A.deeper (envOfC qual scope s.heap.objs.size f cd)) (leaving (envOfC qual scope s.heap.objs.size f cd) e) (fun _ s'' => CX outer H s E e s'') (fun e' s'' => CX outer H s E e' s'') s'
theorem cell_has {sc : Scope} {n : Nat} {x : Str} (h : sc.names.lookup x = some .cell) : ∃ c, (cellsFrom n sc.names []).lookup x = some c := by
  have q := PySem.W.cellsFrom_some sc.names n [] (.inl h)
  exact Option.isSome_iff_exists.mp q
theorem inv_start {CX : CXT} {P : Program} {w : World} {K : PySem.W.Frag} {mg : Str → Option Value} {base : Heap} {N ps : List Str} {qual : Str} {scope : Scope} {f : Addr} {cd : Value} {A : Around} {outer : List Env} {s s1 : Shared} {H : Hp} {E : XK} {us : List Value} {vs : List V}
    (S : FnScope N ps scope) (hd : A.handled = none) (e0 : Env0 P w K mg base A outer s H) (hl : vs.length = ps.length) (r : Vals vs us)
    (x : InCallC s s.heap.objs.size (bindL (envOfC qual scope s.heap.objs.size f cd).kindOf (ps.zip us) fun _ => none) (cellsFrom (s.heap.objs.size + 1) scope.names []) (bindC (envOfC qual scope s.heap.objs.size f cd).kindOf (ps.zip us) fun _ => none) s1) :
    Inv (cxOf CX P w K mg base N qual scope f cd A outer s H E) [] (start N vs) H s1 := by
  have hpl : ps.length ≤ N.length := by have := congrArg List.length S.pre; rw [List.length_take] at this; omega
  obtain ⟨h1, tk, rfl, hk⟩ := x.done
  have noA : ∀ b : Addr, b ∉ (cxOf CX P w K mg base N qual scope f cd A outer s H E).ex := fun b z => absurd (show b ∈ ([] : List Addr) from z) (by simp)
  refine ⟨⟨e0.mod, S.kind, rfl, rfl, Nat.le_refl _, fun y z c h1 h2 => ?_, fun y hy => ?_, fun y c _ h => ?_, fun _ => hd, Around.frames_deeper e0.frames, .inr ⟨rfl, rfl⟩, fun b z => absurd z (noA b), e0.bs, e0.bsz, fun b _ _ => noA b, fun b z => absurd z (noA b), e0.funs, e0.frf⟩,
    rfl, e0.bare, Un.kept hk, ⟨_, x.toInCall.ns, fun i y v h1 h2 h3 => ?_⟩, fun y c h => ⟨_, x.cell y c h⟩, e0.hok.fresh (Nat.le_refl _), fun y c h => ?_, fun p hp => absurd (show p ∈ ([] : List (Addr × Obj)) from hp) (by simp), e0.hok.kept hk, ?_⟩
  · exact name_of_addr x.apart (PySem.mem_of_lookup h1) (PySem.mem_of_lookup h2)
  · have hy : scope.names.lookup y = some .cell ∨ scope.names.lookup y = some .free := hy
    rcases hy with hy | hy
    · exact cell_has hy
    · exact absurd rfl (S.nofree _ (PySem.mem_of_lookup hy))
  · exact Nat.le_of_lt (x.above y c (PySem.mem_of_lookup h))
  · have hi : i < vs.length := by
      unfold start at h2
      by_cases hi : i < vs.length
      · exact hi
      · rw [List.getElem?_append_right (by simpa using hi)] at h2
        rw [List.getElem?_replicate] at h2
        split at h2 <;> cases h2
    have ha : vs[i]? = some v := by
      unfold start at h2
      rw [List.getElem?_append_left (by simpa using hi), List.getElem?_map] at h2
      cases e : vs[i]? with
      | none => rw [e] at h2; cases h2
      | some a => rw [e] at h2; cases h2; rfl
    obtain ⟨u, hu, rv⟩ := r.get ha
    have hp : ps[i]? = some y := by
      rw [← S.pre, List.getElem?_take_of_lt (by omega)]; exact h1
    have ndP : ps.Nodup := by rw [← S.pre]; exact S.nd.sublist (List.take_sublist _ _)
    refine ⟨u, rv, ?_⟩
    rcases S.par y (List.mem_of_getElem? hp) with k | k
    · exact .inl ⟨k, bindL_get ndP hp hu k⟩
    · obtain ⟨c, e⟩ := cell_has (n := s.heap.objs.size + 1) k
      refine .inr ⟨.inl k, c, e, ?_⟩
      have q := x.cell y c e
      rw [bindC_get ndP hp hu (by show scope.names.lookup y ≠ _; rw [k]; decide)] at q
      exact q
  · exact e0.hok.fresh (Nat.le_of_lt (x.above y c (PySem.mem_of_lookup h)))
  · unfold start
    show _ = N.length
    rw [List.length_append, List.length_map, List.length_replicate]
    omega
theorem fn_of {CX : CXT} {P : Program} {w : World} {K : PySem.W.Frag} {mg : Str → Option Value} {base : Heap} {k : Nat} {f : Addr} {name qual : Str} {params : Arguments} {body : List Stmt} {scope : Scope} {dV kV doc pm cdv ct oc : Value} {an od : Option Addr}
    {osl : Array (Option Value)} {N ps : List Str} {sp : Sp} (lk : K.lookup f = some ⟨oc, od, .func (PySem.W.fnOf name qual params body scope dV kV doc pm an cdv ct), osl⟩) (hcd : PySem.W.codeIn K cdv qual = true) (S : FnScope N ps scope)
    (len : ∀ vs H Q E, sp vs H Q E → vs.length = ps.length)
    (hbody : ∀ (A : Around) (outer : List Env) (s : Shared) (H : Hp) (vs : List V) (Q : VK) (E : XK), Room k (A.deeper (envOfC qual scope s.heap.objs.size f cdv)) → sp vs H Q E →
      ∃ t, PSs (cxOf CX P w K mg base N qual scope f cdv A outer s H E) body t ∧ t { nx := fun _ H' => Q .non H', rt := Q } (start N vs) H) :
    FnOk P w K mg base CX (k + 1) f (PySem.W.fnOf name qual params body scope dV kV doc pm an cdv ct) ps sp := by
  refine ⟨len, fun A outer s H args us vs Q E hr e0 hb r hsp => ?_⟩
  have hl := len _ _ _ _ hsp
  have KX : K.In s.heap := e0.mod.kin.keeps fun b o e => (e0.bs b o e).1
  have lim : s.heap.NoLimit := e0.mod.nolimit.keeps fun b o e => (e0.bs b o e).1
  have hkind : ∀ y ∈ ps.zip us, scope.names.lookup y.1 = some .local ∨ (scope.names.lookup y.1 = some .cell ∧ ((cellsFrom (s.heap.objs.size + 1) scope.names []).lookup y.1).isSome = true) := fun ⟨n, v⟩ hy => by
    rcases S.par n (List.of_mem_zip hy).1 with q | q
    · exact .inl q
    · exact .inr ⟨q, PySem.W.cellsFrom_some _ _ _ (.inl q)⟩
  refine codeAny_call_function hr.depth (KX _ _ lk) rfl S.co S.gen rfl (PySem.W.codeRec_of KX hcd) (hb _ _ _ _ ?_)
  refine wpAny_newFunctionEnv_cells S.kind hkind fun env he s1 x => ?_
  subst he
  refine ⟨lim.keeps x.toInCall.keep, codeAny_func ?_⟩
  obtain ⟨t, ht, hq⟩ := hbody A outer s H vs Q E (hr.deeper _) hsp
  have I : Inv (cxOf CX P w K mg base N qual scope f cdv A outer s H E) [] (start N vs) H s1 := inv_start S hr.hd e0 hl r x
  refine wpAny_mono (ht [] s1 (start N vs) H _ I hq) (fun fl s' hs => ?_) fun e s' hs => hs
  have fin : ∀ {σ' : St} {H' : Hp} {v : V} {u : Value}, Inv (cxOf CX P w K mg base N qual scope f cdv A outer s H E) [] σ' H' s' → RelV v u → Q v H' → CE outer P w H s Q u s' :=
    fun {σ' H' v u} J rv q => ⟨v, H', J.os, J.bare, J.base, J.hok, rv, q⟩
  cases fl with
  | ret u =>
    obtain ⟨v, σ', H', J, rv, q⟩ := hs
    exact fin J rv q
  | next =>
    obtain ⟨σ', H', J, q⟩ := hs
    exact fin (v := V.non) (u := Value.none) J rfl q
  | brk =>
    obtain ⟨_, _, _, q⟩ := hs
    exact False.elim q
  | cont =>
    obtain ⟨_, _, _, q⟩ := hs
    exact False.elim q
end L2
namespace L2
open PySem PySem.Spec PyProof.Rows
section
variable {X : Cx} {x : Str} {p pos : Pos} {e : Expr} {es : List Expr} {t : TA} {id T : String} {r : List V → Hp → VK → Prop}
def tCB (r : List V → Hp → VK → Prop) (t : TA) : TE := fun σ H Q => t σ H fun vs H1 => r vs H1 Q
theorem pe_callB (hc : CallR X (.builtin id) r) (hg : Gl X x) (hm : X.mg x = none) (hv : bootBuiltins x = some (.builtin id)) (ha : PA X (e :: es) t) (hn : x ≠ "__name__" := by decide) (hdb : (x == ("__debug__" : Str)) = false := by decide)
    (he : starEach (e :: es) X.env = (false, eval e X.env) :: starEach es X.env := by rfl) (hpl : (backTo pos (starEach es X.env)).any (·.1) = false := by rfl) : PE X (.Call (.Name x p) (e :: es) [] pos) (tCB r t) := by
  intro pins s σ H Q I h
  refine wpAny_Call_Name_kw (ld_blt I hg hm hv ?_ hn hdb)
  exact PyProof.Rows.callWith_builtin1 (thn (ha pos pins s σ H _ I h) fun us s1 ⟨vs, H1, I1, r1, q1⟩ => hc pins s1 σ H1 vs us Q I1 r1 q1) he hpl
theorem pe_callTy (hc : CallR X (.type T) r) (hg : Gl X x) (hm : X.mg x = none) (hv : bootBuiltins x = some (.type T)) (ha : PA X (e :: es) t) (hn : x ≠ "__name__" := by decide) (hdb : (x == ("__debug__" : Str)) = false := by decide)
    (he : starEach (e :: es) X.env = (false, eval e X.env) :: starEach es X.env := by rfl) (hpl : (backTo pos (starEach es X.env)).any (·.1) = false := by rfl) : PE X (.Call (.Name x p) (e :: es) [] pos) (tCB r t) := by
  intro pins s σ H Q I h
  refine wpAny_Call_Name_kw (ld_blt I hg hm hv ?_ hn hdb)
  exact PyProof.Rows.callWith_type1 (thn (ha pos pins s σ H _ I h) fun us s1 ⟨vs, H1, I1, r1, q1⟩ => hc pins s1 σ H1 vs us Q I1 r1 q1) he hpl
end
end L2
namespace HT
open PySem PyProof.Rows
section
open PySem.SeqAt
open PySem.AutoSeq1 (wpAny_loadPart')
open PySem.MeetsSeq PySem.MeetsSeq2 PySem.MeetsSeq3
end
section
variable {prog : Program} {w : World} {A : Around} {E : Value → Shared → Prop} {s : Shared}
def sIx (n d : Nat) : Option Int → Nat
  | none => d
  | some v => if v < 0 then (v + (n : Int)).toNat else min v.toNat n
theorem sIx_none (n d : Nat) : sIx n d none = d := rfl
theorem sIx_nat (n d k : Nat) : sIx n d (some (k : Int)) = min k n := by
  show (if (k : Int) < 0 then ((k : Int) + (n : Int)).toNat else min (k : Int).toNat n) = min k n
  rw [if_neg (by omega), Int.toNat_natCast]
end
end HT
namespace L2
open PySem PySem.Spec PyProof.Rows
abbrev TO := St → Hp → (Option Int → Hp → Prop) → Prop
def PO (X : Cx) (e : Option Expr) (t : TO) : Prop :=
  ∀ (pins : List (Addr × Obj)) (s : Shared) (σ : St) (H : Hp) (Q : Option Int → Hp → Prop), Inv X pins σ H s → t σ H Q →
    wpAny (model X.prog X.w) X.A (evalPart e X.env) (fun u s' => ∃ o H', Inv X pins σ H' s' ∧ IsPart u o ∧ Q o H') X.xe s
def tNoPart : TO := fun _ H Q => Q none H
def tPart (t : TE) : TO := fun σ H Q => t σ H fun x H1 => ∃ i, x = .int i ∧ Q (some i) H1
section
variable {X : Cx} {e : Expr} {te : TE} {lo hi : Option Expr} {tl th : TO} {pos p2 : Pos}
theorem po_none : PO X none tNoPart := by
  intro pins s σ H Q I h
  rw [evalPart_none]
  exact wpAny_pure ⟨none, H, I, .none, h⟩
theorem po_some (h : PE X e te) : PO X (some e) (tPart te) := by
  intro pins s σ H Q I hw
  rw [evalPart_some]
  refine thn (h pins s σ H _ I hw) fun u s1 ⟨x, H1, I1, r1, q1⟩ => ?_
  obtain ⟨i, rfl, q⟩ := q1
  obtain ⟨t, rfl⟩ := r1
  exact ⟨some i, H1, I1, .int i t, q⟩
def SlR (X : Cx) (r : V → Option Int → Option Int → Hp → VK → Prop) : Prop :=
  ∀ (pins : List (Addr × Obj)) (s : Shared) (σ : St) (H : Hp) (x : V) (v vl vu : Value) (lo hi : Option Int) (sl : Addr) (Q : VK), Inv X pins σ H s → RelV x v → s.heap.IsSliceOf sl vl vu .none → IsPart vl lo → IsPart vu hi → r x lo hi H Q →
    ∃ T id, typeLookup (.type T) "__getitem__" = pure (some (.builtin id)) ∧ s.TypeIs v T ∧ wpAny (model X.prog X.w) X.A (getItem v (.ref sl)) (EP X pins σ Q) X.xe s
def tSl (r : V → Option Int → Option Int → Hp → VK → Prop) (te : TE) (tl th : TO) : TE := fun σ H Q => te σ H fun x H1 => tl σ H1 fun l H2 => th σ H2 fun u H3 => r x l u H3 Q
theorem pe_slice {r : V → Option Int → Option Int → Hp → VK → Prop} (hr : SlR X r) (he : PE X e te) (hl : PO X lo tl) (hu : PO X hi th) : PE X (.Subscript e (.Slice lo hi none p2) pos) (tSl r te tl th) := by
  intro pins s σ H Q I h
  refine Subscript_ (thn (he pins s σ H _ I h) fun v s1 ⟨x, H1, I1, r1, q1⟩ => ?_)
  refine wpAny_Slice (thn (hl pins s1 σ H1 _ I1 q1) fun vl s2 ⟨l, H2, I2, pl, q2⟩ => thn (hu pins s2 σ H2 _ I2 q2) fun vu s3 ⟨u, H3, I3, pu, q3⟩ => ?_)
  rw [evalPart_none]
  refine wpAny_pure ?_
  have I4 : Inv X pins σ H3 { s3 with heap := s3.heap.push { cls := .type "slice", data := .fields #[vl, vu, .none] } } := I3.kept (t' := s3.toks) fun b ob q => Heap.get?_push_of_some _ q
  obtain ⟨T, id, hT, ht, hg⟩ := hr pins { s3 with heap := s3.heap.push { cls := .type "slice", data := .fields #[vl, vu, .none] } } σ H3 x v vl vu l u s3.heap.objs.size Q I4 r1 (Heap.IsSliceOf.new ..) pl pu q3
  show wpAny (model X.prog X.w) X.A (subscriptTail e (.Slice lo hi none p2) v (.ref s3.heap.objs.size)) (EP X pins σ Q) X.xe { s3 with heap := s3.heap.push { cls := .type "slice", data := .fields #[vl, vu, .none] } }
  exact tail_any (ops := [.ref s3.heap.objs.size, v]) ht hT hg (by with_unfolding_all rfl)
def cutV (xs : List V) (lo hi : Option Int) : List V := (xs.drop (HT.sIx xs.length 0 lo)).take (HT.sIx xs.length xs.length hi - HT.sIx xs.length 0 lo)
theorem cutV_length (xs : List V) (lo hi : Option Int) : (cutV xs lo hi).length ≤ xs.length := by
  unfold cutV
  rw [List.length_take, List.length_drop]
  omega
end
end L2
namespace L2
open PySem PySem.Spec PyProof.Rows
def ixN (n : Nat) (i : Int) : Option Nat := if 0 ≤ i then (if i < n then some i.toNat else none) else if -(n : Int) ≤ i then some (i + n).toNat else none
def atI {α : Type} (xs : List α) (i : Int) : Option α := (ixN xs.length i).bind fun j => xs[j]?
theorem ixN_seq {n : Nat} {i : Int} {j : Nat} (h : ixN n i = some j) : seqIndex? i n = some j ∧ j < n ∧ -(n : Int) ≤ i ∧ i < n := by
  unfold ixN at h
  by_cases h0 : 0 ≤ i
  · rw [if_pos h0] at h
    by_cases h1 : i < n
    · rw [if_pos h1] at h
      have e : i.toNat = j := Option.some.inj h
      exact ⟨by rw [seqIndex_of h0 h1, e], by omega, by omega, h1⟩
    · rw [if_neg h1] at h; cases h
  · rw [if_neg h0] at h
    by_cases h1 : -(n : Int) ≤ i
    · rw [if_pos h1] at h
      have e : (i + n).toNat = j := Option.some.inj h
      exact ⟨by rw [seqIndex_neg (by omega) h1, e], by omega, h1, by omega⟩
    · rw [if_neg h1] at h; cases h
theorem atI_get {α : Type} {xs : List α} {i : Int} {v : α} (h : atI xs i = some v) : ∃ j, seqIndex? i xs.length = some j ∧ xs[j]? = some v ∧ j < xs.length ∧ -(xs.length : Int) ≤ i ∧ i < xs.length := by
  unfold atI at h
  cases e : ixN xs.length i with
  | none => rw [e] at h; cases h
  | some j =>
    rw [e] at h
    obtain ⟨h1, h2, h3, h4⟩ := ixN_seq e
    exact ⟨j, h1, h, h2, h3, h4⟩
theorem atI_nat {α : Type} {xs : List α} {j : Nat} {v : α} (h : xs[j]? = some v) : atI xs (j : Int) = some v := by
  have hj : j < xs.length := (List.getElem?_eq_some_iff.mp h).1
  have e : ixN xs.length (j : Int) = some j := by
    unfold ixN
    rw [if_pos (by omega), if_pos (by omega)]; simp
  unfold atI; rw [e]; exact h
def PlainIx (b : Expr) : Prop := ∀ o i, subscripted b false o i = operate [o, i] (getItem o i)
def IxR (X : Cx) (r : R2) : Prop :=
  ∀ (value slice : Expr) (pins : List (Addr × Obj)) (s : Shared) (σ : St) (H : Hp) (x y : V) (v u : Value) (Q : VK), Inv X pins σ H s → RelV x v → RelV y u → r x y H Q →
    subscripted slice false v u = operate [v, u] (getItem v u) → wpAny (model X.prog X.w) X.A (subscriptTail value slice v u) (EP X pins σ Q) X.xe s
def MtR (X : Cx) (id : String) (r : V → List V → Hp → VK → Prop) : Prop :=
  ∀ (pins : List (Addr × Obj)) (s : Shared) (σ : St) (H : Hp) (x : V) (xs : List V) (v : Value) (us : List Value) (Q : VK), Inv X pins σ H s → RelV x v → Vals xs us → r x xs H Q →
    wpAny (model X.prog X.w) X.A (call (.builtin id) (v :: us)) (EP X pins σ Q) X.xe s
section
variable {X : Cx} {a b : Expr} {ta tb : TE} {pos : Pos}
theorem pe_ix {r : R2} (hr : IxR X r) (ha : PE X a ta) (hb : PE X b tb) (hs : PlainIx b) : PE X (.Subscript a b pos) (tOp r ta tb) := by
  intro pins s σ H Q I h
  exact Subscript_ (binT ha hb I h fun v u s2 x y H2 I2 rx ry q => hr a b pins s2 σ H2 x y v u Q I2 rx ry q (hs _ _))
def rIxL (K : PySem.W.Frag) : R2 := fun x y H Q => ∃ p xs i v, x = .ref p ∧ y = .int i ∧ SqL K H p xs ∧ atI xs i = some v ∧ Q v H
theorem ix_list : IxR X (rIxL X.K) := by
  intro value slice pins s σ H x y v u Q I rx ry h hs
  obtain ⟨p, xs, i, z, rfl, rfl, hq, he, q⟩ := h
  cases rx
  obtain ⟨t, rfl⟩ := ry
  obtain ⟨its, r, pl, hz⟩ := I.list hq
  obtain ⟨j, h1, h2, h3, h4, h5⟩ := atI_get he
  obtain ⟨w, ew, rw'⟩ := r.get h2
  have hl := r.length
  have hn := line63
  have fin : EP X pins σ Q w s := ⟨z, H, I, rw', q⟩
  by_cases h0 : 0 ≤ i
  · have hj : i.toNat = j := by
      rw [seqIndex_of h0 h5] at h1
      exact Option.some.inj h1
    exact item_listR pl.isList h0 (by omega) (by rw [hj]; simpa using ew) fin hs
  · have hj : (i + (its.toArray.size : Int)).toNat = j := by
      rw [seqIndex_neg (by omega) h4] at h1
      rw [List.size_toArray, ← hl]
      exact Option.some.inj h1
    exact subscriptTail_builtinR (x := w) pl.isList.typeIs slot_list_getitem.lookup
      (wpAny_getItem_list_neg (Q := fun r s' => r = w ∧ EP X pins σ Q r s') pl.isList (by omega) (by rw [List.size_toArray] <;> omega) (by omega) (by rw [hj]; simpa using ew) ⟨rfl, fin⟩) hs
theorem slice_bounds (lo hi : Option Int) (n : Nat) : (sliceBounds lo hi none n).1 = ((HT.sIx n 0 lo : Nat) : Int) ∧ (sliceBounds lo hi none n).2.1 = ((HT.sIx n n hi : Nat) : Int) ∧ (sliceBounds lo hi none n).2.2 = 1 := by
  refine ⟨?_, ?_, rfl⟩
  · cases lo with
    | none => simp [sliceBounds, HT.sIx]
    | some i =>
      simp only [sliceBounds, HT.sIx, Option.getD_none, show (1 : Int) > 0 by decide, if_true]
      by_cases h : i < 0
      · simp only [h, if_true] <;> omega
      · simp only [h, if_false] <;> omega
  · cases hi with
    | none => simp [sliceBounds, HT.sIx]
    | some i =>
      simp only [sliceBounds, HT.sIx, Option.getD_none, show (1 : Int) > 0 by decide, if_true]
      by_cases h : i < 0
      · simp only [h, if_true] <;> omega
      · simp only [h, if_false] <;> omega
theorem slicePick_cut (its : List Value) (lo hi : Option Int) : slicePick its.toArray lo hi none = ((its.drop (HT.sIx its.length 0 lo)).take (HT.sIx its.length its.length hi - HT.sIx its.length 0 lo)).toArray := by
  obtain ⟨h1, h2, h3⟩ := slice_bounds lo hi its.toArray.size
  unfold slicePick
  rw [h1, h2, h3]
  simp only [sliceRange_one, pick_run, List.size_toArray] <;> rfl
def rSlL (K : PySem.W.Frag) : V → Option Int → Option Int → Hp → VK → Prop := fun x lo hi H Q => ∃ a xs, x = .ref a ∧ SqL K H a xs ∧ ∀ p, H p = none → Q (.ref p) (upd H p (.lst (cutV xs lo hi)))
theorem sl_list : SlR X (rSlL X.K) := by
  intro pins s σ H x v vl vu lo hi sl Q I rx hs pl pu h
  obtain ⟨a, xs, rfl, hx, q⟩ := h
  cases rx
  obtain ⟨its, r, ht, hz⟩ := I.list hx
  have hlen := r.length
  refine ⟨"list", _, slot_list_getitem.lookup, ht.isList.typeIs, ?_⟩
  refine wpAny_getItem_list_slice ht.isList hs pl pu .none (by simp) ?_ (by rw [List.size_toArray] <;> omega)
  rw [slicePick_cut, ← hlen]
  refine ⟨.ref s.heap.objs.size, _, I.laid (t' := s.toks) (o := .lst (cutV xs lo hi)) (fun b ob q => Heap.get?_push_of_some _ q) (Nat.le_refl _) ?_, rfl, q _ (I.hok.fresh (Nat.le_refl _))⟩
  exact ⟨Nat.le_trans (cutV_length xs lo hi) hz, _, 0, (r.drop (HT.sIx xs.length 0 lo)).take (HT.sIx xs.length xs.length hi - HT.sIx xs.length 0 lo), Heap.get?_push_size _ rfl⟩
theorem call_len_seq : CallR X (.builtin "len") (fun xs H Q => ∃ p ys, xs = [.ref p] ∧ (SqL X.K H p ys ∨ SqT X.K H p ys) ∧ Q (.int ys.length) H) := by
  intro pins s σ H xs us Q I r h
  obtain ⟨p, ys, rfl, hq, q⟩ := h
  obtain ⟨u, rfl, rx⟩ := vals1 r
  cases rx
  have hn := line63
  rcases hq with hq | hq
  · obtain ⟨its, r', pl, hz⟩ := I.list hq
    have hlen := r'.length
    exact Calls.call_len_list pl.isList (by simp only [List.size_toArray] <;> omega) ⟨.int ys.length, H, I.tok _, ⟨s.toks + 1, by rw [List.size_toArray, hlen]⟩, q⟩
  · obtain ⟨its, r', pl, hz⟩ := I.tuple hq
    have hlen := r'.length
    exact len_tuple pl (by simp only [List.size_toArray] <;> omega) ⟨.int ys.length, H, I.tok _, ⟨s.toks + 1, by rw [List.size_toArray, hlen]⟩, q⟩
theorem call_list_of : CallR X (.type "list") (fun xs H Q => ∃ p ys, xs = [.ref p] ∧ (SqL X.K H p ys ∨ SqT X.K H p ys) ∧ ∀ l, H l = none → Q (.ref l) (upd H l (.lst ys))) := by
  intro pins s σ H xs us Q I r h
  obtain ⟨p, ys, rfl, hq, q⟩ := h
  obtain ⟨u, rfl, rx⟩ := vals1 r
  cases rx
  have fin : ∀ (its : List Value), Vals ys its → ys.length ≤ sizeLine → ∀ (h' : Heap) (c' : Nat), (∀ b o', s.heap.get? b = some o' → h'.get? b = some o') →
      h'.get? s.heap.objs.size = some { cls := .type "list", dict := none, data := .seq its.toArray c', slots := #[] } → EP X pins σ Q (.ref s.heap.objs.size) { s with heap := h' } := fun its r' hz h' c' kp e =>
    ⟨.ref s.heap.objs.size, _, I.laid (t' := s.toks) kp (Nat.le_refl _) (show ObjOk X.prog X.w _ h' _ (.lst ys) from ⟨hz, its, c', r', e⟩), rfl, q _ (I.hok.fresh (Nat.le_refl _))⟩
  rcases hq with hq | hq
  · obtain ⟨its, r', pl, hz⟩ := I.list hq
    have hlen := r'.length
    obtain ⟨o, ho, hc, n, hd⟩ := pl.isList
    exact call_list_seq p (.inl rfl) ho hc hd (fun h' c' kp e => fin its r' hz h' c' kp e) (by simp only [List.size_toArray] <;> omega)
  · obtain ⟨its, r', pl, hz⟩ := I.tuple hq
    have hlen := r'.length
    obtain ⟨o, ho, hc, n, hd⟩ := pl
    exact call_list_seq p (.inr rfl) ho hc hd (fun h' c' kp e => fin its r' hz h' c' kp e) (by simp only [List.size_toArray] <;> omega)
def tyV (K : PySem.W.Frag) (T : String) (x : V) (H : Hp) : Prop := match x with
  | .str _ => T = "str"
  | .int _ => T = "int"
  | .ref p => (T = "list" ∧ ∃ xs, SqL K H p xs) ∨ (T = "tuple" ∧ ∃ o, K.lookup p = some o ∧ o.cls = .type "tuple" ∧ o.dict = none) ∨
      (T = "dict" ∧ ((∃ kvs, H p = some (.dK kvs)) ∨ ∃ kvs, H p = some (.dT kvs))) ∨ (T = "set" ∧ ∃ S n, H p = some (.set S n))
  | _ => False
theorem tyV_is {pins : List (Addr × Obj)} {σ : St} {H : Hp} {s : Shared} {T : String} {x : V} {v : Value} (I : Inv X pins σ H s) (r : RelV x v) (ty : tyV X.K T x H) :
    s.TypeIs v T ∧ ∀ a, v = .ref a → ∃ ob, s.heap.get? a = some ob ∧ ob.dict = none := by
  cases x with
  | str z =>
    obtain ⟨t, rfl⟩ := r
    cases (show T = "str" from ty)
    exact ⟨typeIs_str s z t, fun _ e => nomatch e⟩
  | int i =>
    obtain ⟨t, rfl⟩ := r
    cases (show T = "int" from ty)
    exact ⟨typeIs_int s i t, fun _ e => nomatch e⟩
  | ref p =>
    cases r
    rcases ty with ⟨rfl, xs, hq⟩ | ⟨rfl, o, hk, hc, hd⟩ | ⟨rfl, hk⟩ | ⟨rfl, S, n, hk⟩
    · obtain ⟨its, _, pl, _⟩ := I.list hq
      refine ⟨pl.isList.typeIs, fun a e => ?_⟩
      cases e
      obtain ⟨o, n, e, c, hd, _⟩ := pl
      exact ⟨o, e, hd⟩
    · refine ⟨⟨o, I.kIn p o hk, hc⟩, fun a e => ?_⟩
      cases e
      exact ⟨o, I.kIn _ o hk, hd⟩
    · have z : ∃ o, s.heap.get? p = some o ∧ o.ExactDict := by
        rcases hk with ⟨kvs, hk⟩ | ⟨kvs, hk⟩
        · obtain ⟨_, _, _, _, o, _, _, e, ex, _⟩ := I.hok p _ hk
          exact ⟨o, e, ex⟩
        · obtain ⟨_, _, _, _, o, _, _, e, ex, _⟩ := I.hok p _ hk
          exact ⟨o, e, ex⟩
      obtain ⟨o, e, ex⟩ := z
      refine ⟨⟨o, e, ex.1⟩, fun a e2 => ?_⟩
      cases e2
      exact ⟨o, e, ex.2.1⟩
    · obtain ⟨o, _, _, _, e, ex, _⟩ := I.hok p _ hk
      refine ⟨⟨o, e, ex.1⟩, fun a e2 => ?_⟩
      cases e2
      exact ⟨o, e, ex.2.1⟩
  | _ => exact False.elim ty
def tBM0 (K : PySem.W.Frag) (T : String) (r : V → List V → Hp → VK → Prop) (to : TE) : TE := fun σ H Q => to σ H fun x H1 => tyV K T x H1 ∧ r x [] H1 Q
def tBM (K : PySem.W.Frag) (T : String) (r : V → List V → Hp → VK → Prop) (to : TE) (t : TA) : TE := fun σ H Q => to σ H fun x H1 => tyV K T x H1 ∧ t σ H1 fun xs H2 => r x xs H2 Q
variable {o e : Expr} {es : List Expr} {to : TE} {t : TA} {name : Str} {apos cpos : Pos} {T id : String} {r : V → List V → Hp → VK → Prop}
theorem pe_bm0 (pa : PlainAttrs T) (slot : Slot T name id) (hty : typeOf (.builtin id) = pure (.type "method_descriptor")) (hm : MtR X id r) (ho : PE X o to)
    (hbase : attributeBase o name X.env (eval o X.env) = eval o X.env := by rfl) (hline : (apos.endLine == cpos.line) = true := by rfl) : PE X (.Call (.Attribute o name apos) [] [] cpos) (tBM0 X.K T r to) := by
  intro pins s σ H Q I h
  refine wpAny_Call_method0_late hbase hline (thn (ho pins s σ H _ I h) fun v s1 ⟨x, H1, I1, r1, ty, q1⟩ => ?_)
  obtain ⟨h1, h2⟩ := tyV_is I1 r1 ty
  exact ⟨T, id, pa, slot, hty, h1, h2, Calls.callWith_builtin rfl (PySem.evalArgs_none (hm pins s1 σ H1 x [] v [] Q I1 r1 .nil q1))⟩
theorem pe_bm (pa : PlainAttrs T) (slot : Slot T name id) (hty : typeOf (.builtin id) = pure (.type "method_descriptor")) (hm : MtR X id r) (ho : PE X o to) (ha : PA X (e :: es) t)
    (hbase : attributeBase o name X.env (eval o X.env) = eval o X.env := by rfl)
    (hfew : ((backTo cpos (starEach (e :: es) X.env)).all (fun x => !x.1) && (backToKw cpos (keywordEach [] X.env)).all (fun x => x.1.isSome)
      && decide ((e :: es).length + ([] : List Keyword).length + (if ([] : List Keyword).isEmpty then 0 else 1) < 30)) = true := by rfl)
    (hline : (apos.endLine == cpos.line) = true := by rfl) (hs : starEach (e :: es) X.env = (false, eval e X.env) :: starEach es X.env := by rfl) (hplain : (backTo cpos (starEach es X.env)).any (·.1) = false := by rfl) :
    PE X (.Call (.Attribute o name apos) (e :: es) [] cpos) (tBM X.K T r to t) := by
  intro pins s σ H Q I h
  refine wpAny_Call_method_late hbase hfew hline rfl (thn (ho pins s σ H _ I h) fun v s1 ⟨x, H1, I1, r1, ty, q1⟩ => ?_)
  obtain ⟨h1, h2⟩ := tyV_is I1 r1 ty
  refine ⟨T, id, pa, slot, hty, h1, h2, ?_⟩
  have hA := ha cpos pins s1 σ H1 _ I1 q1
  rw [hs] at hA ⊢
  refine Calls.callWith_builtin (by show (false || (backTo cpos (starEach es X.env)).any (·.1)) = false; rw [hplain] <;> rfl) (Calls.evalArgs_plain ?_)
  exact thn hA fun us s2 ⟨vs, H2, I2, r2, q2⟩ => hm pins s2 σ H2 x vs v us Q I2 r1 r2 q2
/- xs.append(e), list.index on a module's tuple .. are MtR facts of 06m -/
end
end L2
namespace L2
open PySem PySem.Spec PyProof.Rows
def MtM (X : Cx) (id : String) (r : V → List V → Hp → VK → Prop) : Prop :=
  ∀ (pins : List (Addr × Obj)) (s : Shared) (σ : St) (H : Hp) (x : V) (xs : List V) (v : Value) (us : List Value) (Q : VK), Inv X pins σ H s → RelV x v → Vals xs us → r x xs H Q →
    wpAny (model X.prog X.w) X.A (call (.builtin id) (v :: us)) (EP X pins σ Q) X.xe s
theorem Vals.one : ∀ {x : V} {us : List Value}, Vals [x] us → ∃ u, us = [u] ∧ RelV x u
  | _, _, .cons r .nil => ⟨_, rfl, r⟩
theorem Vals.zero : ∀ {us : List Value}, Vals [] us → us = []
  | _, .nil => rfl
theorem Vals.dropLast {xs : List V} {us : List Value} (h : Vals xs us) : Vals xs.dropLast us.dropLast := by
  induction h with
  | nil => exact .nil
  | cons r t ih =>
    cases t with
    | nil => exact .nil
    | cons q t' => exact .cons r ih
theorem Vals.eraseIdx : ∀ {xs : List V} {us : List Value} (i : Nat), Vals xs us → Vals (xs.eraseIdx i) (us.eraseIdx i)
  | _, _, _, .nil => .nil
  | _, _, 0, .cons _ t => t
  | _, _, i + 1, .cons r t => .cons r (Vals.eraseIdx i t)
theorem erase_last {α : Type} (l : List α) : l.eraseIdx (l.length - 1) = l.dropLast := by
  induction l with
  | nil => rfl
  | cons a r ih =>
    cases r with
    | nil => rfl
    | cons b r =>
      have e : (a :: b :: r).length - 1 = ((b :: r).length - 1) + 1 := by
        have h1 : (a :: b :: r).length = r.length + 2 := rfl
        have h2 : (b :: r).length = r.length + 1 := rfl
        omega
      rw [e, List.eraseIdx_cons_succ, ih]
      all_goals rfl
theorem len_erase {α : Type} : ∀ (l : List α) (i : Nat), (l.eraseIdx i).length ≤ l.length
  | [], _ => Nat.le_refl _
  | _ :: _, 0 => Nat.le_succ _
  | _ :: r, i + 1 => Nat.succ_le_succ (len_erase r i)
section
variable {X : Cx} {pins : List (Addr × Obj)} {σ : St} {H : Hp} {s : Shared} {l b : Addr} {xs ys zs : List V}
theorem Inv.lset {its its' : List Value} {n : Nat} {f : Array Value → Array Value} {t' : Nat} (I : Inv X pins σ H s) (hH : H l = some (.lst xs))
    (e : s.heap.get? l = some { cls := .type "list", data := .seq its.toArray n }) (hf : f its.toArray = its'.toArray) (hv : Vals ys its') (hz : ys.length ≤ sizeLine) :
    Inv X pins σ (upd H l (.lst ys)) { s with heap := s.heap.update l (Obj.mapSeq f), toks := t' } := by
  have q := PySem.IsL.update e f
  rw [hf] at q
  refine I.write (x := l) (e := l) (by rw [hH]; exact trivial) (.inl rfl) (fun b' u hb hu => (Heap.get?_update_other s.heap (Obj.mapSeq f) (Ne.symm hb)).trans hu) ⟨_, q⟩ ?_
  exact ⟨hz, its', _, hv, q⟩
theorem Inv.lnew {its : List Value} {t' : Nat} (I : Inv X pins σ H s) (hv : Vals ys its) (hz : ys.length ≤ sizeLine) :
    Inv X pins σ (upd H s.heap.objs.size (.lst ys)) { s with heap := s.heap.push { cls := .type "list", data := .seq its.toArray }, toks := t' } :=
  I.laid (fun _ _ q => Heap.get?_push_of_some _ q) (Nat.le_refl _) ⟨hz, its, 0, hv, Heap.get?_push_size _ rfl⟩
theorem Inv.fresh (I : Inv X pins σ H s) : H s.heap.objs.size = none := I.hok.fresh (Nat.le_refl _)
theorem Inv.lstM (I : Inv X pins σ H s) (hH : H l = some (.lst xs)) : xs.length ≤ sizeLine ∧ ∃ (its : List Value) (n : Nat), Vals xs its ∧ xs.length = its.length ∧ s.heap.get? l = some { cls := .type "list", data := .seq its.toArray n } := by
  obtain ⟨z, its, n, r, e⟩ := I.hok l _ hH
  exact ⟨z, its, n, r, r.length, e⟩
theorem notLongL {n : Nat} (h : n ≤ sizeLine) : Builtin.List.listTooLong n = false := by
  unfold Builtin.List.listTooLong
  exact decide_eq_false (by omega)
end
section
variable {X : Cx}
def rAppend : V → List V → Hp → VK → Prop := fun x vs H Q => ∃ l xs y, x = .ref l ∧ vs = [y] ∧ H l = some (.lst xs) ∧ xs.length < sizeLine ∧ Q .non (upd H l (.lst (xs ++ [y])))
theorem mt_append : MtM X "list.append" rAppend := by
  intro pins s σ H x vs v us Q I rx rv h
  obtain ⟨l, xs, y, rfl, rfl, hH, hz, q⟩ := h
  cases rx
  obtain ⟨u, rfl, ru⟩ := rv.one
  obtain ⟨z, its, n, r, hl, e⟩ := I.lstM hH
  refine call_meets F.slot_list_append ⟨_, e, rfl⟩ F.entry_list_append (F.args_list_append_2 _ _) (PySem.list_append l its.toArray n u (by rw [List.size_toArray]; omega)) ⟨e, ?_⟩
  refine ⟨.non, _, I.lset (its' := its ++ [u]) hH e (by simp) (r.append (.cons ru .nil)) ?_, rfl, q⟩
  rw [List.length_append, List.length_singleton]
  omega
def rExtend : V → List V → Hp → VK → Prop := fun x vs H Q => ∃ l b xs zs, x = .ref l ∧ vs = [.ref b] ∧ H l = some (.lst xs) ∧ H b = some (.lst zs) ∧ xs.length + zs.length ≤ sizeLine ∧ Q .non (upd H l (.lst (xs ++ zs)))
theorem mt_extend : MtM X "list.extend" rExtend := by
  intro pins s σ H x vs v us Q I rx rv h
  obtain ⟨l, b, xs, zs, rfl, rfl, hH, hB, hz, q⟩ := h
  cases rx
  obtain ⟨u, rfl, ru⟩ := rv.one
  cases ru
  obtain ⟨z, its, n, r, hl, e⟩ := I.lstM hH
  obtain ⟨z2, its2, n2, r2, hl2, e2⟩ := I.lstM hB
  have hsz : its.toArray.size + its2.toArray.size ≤ sizeLine := by rw [List.size_toArray, List.size_toArray]; omega
  have hlong : ¬ (!its.toArray.isEmpty && Builtin.List.listTooLong (its.toArray.size + its2.toArray.size)) = true := by
    rw [notLongL hsz, Bool.and_false]
    exact Bool.false_ne_true
  refine call_meets F.slot_list_extend ⟨_, e, rfl⟩ F.entry_list_extend (F.args_list_extend_2 _ _)
    (AutoSeq1.list_extend_list_list_0 l its.toArray n b its2.toArray n2 hlong (by rw [List.size_toArray]; omega) (by omega)) ⟨e, e2, ?_⟩
  refine ⟨.non, _, I.lset (its' := its ++ its2) hH e (by simp) (r.append r2) ?_, rfl, q⟩
  rw [List.length_append]
  omega
def rPop : V → List V → Hp → VK → Prop := fun x vs H Q => ∃ l xs y, x = .ref l ∧ vs = [] ∧ H l = some (.lst xs) ∧ xs[xs.length - 1]? = some y ∧ Q y (upd H l (.lst xs.dropLast))
theorem mt_pop : MtM X "list.pop" rPop := by
  intro pins s σ H x vs v us Q I rx rv h
  obtain ⟨l, xs, y, rfl, rfl, hH, hy, q⟩ := h
  cases rx
  have hus := rv.zero
  subst hus
  obtain ⟨z, its, n, r, hl, e⟩ := I.lstM hH
  obtain ⟨u, hu, ru⟩ := r.get hy
  have hy' : its.toArray[its.toArray.size - 1]? = some u := by
    show its.toArray[its.length - 1]? = some u
    rw [← Array.getElem?_toList, ← hl]
    exact hu
  refine call_meets F.slot_list_pop ⟨_, e, rfl⟩ F.entry_list_pop (F.args_list_pop_1 _) (MeetsSeq.list_pop_last l its.toArray n u hy' (by rw [List.size_toArray]; omega)) ⟨e, ?_⟩
  refine ⟨y, _, I.lset (its' := its.dropLast) hH e ?_ r.dropLast ?_, ru, q⟩
  · show its.toArray.eraseIdxIfInBounds (its.toArray.size - 1) = its.dropLast.toArray
    rw [List.size_toArray, List.eraseIdxIfInBounds_toArray, erase_last]
  · rw [List.length_dropLast]
    omega
def rPopAt : V → List V → Hp → VK → Prop := fun x vs H Q => ∃ l xs i k y, x = .ref l ∧ vs = [.int i] ∧ H l = some (.lst xs) ∧ -(2 ^ 63) ≤ i ∧ i < 2 ^ 63 ∧ seqIndex? i xs.length = some k ∧ xs[k]? = some y ∧ Q y (upd H l (.lst (xs.eraseIdx k)))
theorem mt_popAt : MtM X "list.pop" rPopAt := by
  intro pins s σ H x vs v us Q I rx rv h
  obtain ⟨l, xs, i, k, y, rfl, rfl, hH, h1, h2, hk, hy, q⟩ := h
  cases rx
  obtain ⟨u, rfl, ru⟩ := rv.one
  obtain ⟨t, rfl⟩ := ru
  obtain ⟨z, its, n, r, hl, e⟩ := I.lstM hH
  obtain ⟨w, hw, rw'⟩ := r.get hy
  refine call_meets F.slot_list_pop ⟨_, e, rfl⟩ F.entry_list_pop (F.args_list_pop_2 _ _)
    (MeetsSeq.list_pop_at l its.toArray n i t k w (fitsIndex_both h1 h2) (by rw [List.size_toArray, ← hl]; exact hk) (by rw [← Array.getElem?_toList]; exact hw) (by rw [List.size_toArray]; omega)) ⟨e, ?_⟩
  refine ⟨y, _, I.lset (its' := its.eraseIdx k) hH e ?_ (r.eraseIdx k) ?_, rw', q⟩
  · show its.toArray.eraseIdxIfInBounds k = (its.eraseIdx k).toArray
    rw [List.eraseIdxIfInBounds_toArray]
  · have := len_erase xs k
    omega
def rCat : R2 := fun x y H Q => ∃ l b xs zs, x = .ref l ∧ y = .ref b ∧ H l = some (.lst xs) ∧ H b = some (.lst zs) ∧ xs.length + zs.length ≤ sizeLine ∧ ∀ p, H p = none → Q (.ref p) (upd H p (.lst (xs ++ zs)))
theorem op_cat : OpR X (binaryOp .Add) rCat := by
  intro pins s σ H x y v u Q I rx ry h
  obtain ⟨l, b, xs, zs, rfl, rfl, hH, hB, hz, q⟩ := h
  cases rx
  cases ry
  obtain ⟨z, its, n, r, hl, e⟩ := I.lstM hH
  obtain ⟨z2, its2, n2, r2, hl2, e2⟩ := I.lstM hB
  refine PySem.P.add_list e e2 ?_ (by rw [List.size_toArray, List.size_toArray]; omega)
  have ea : its.toArray ++ its2.toArray = (its ++ its2).toArray := by simp
  rw [ea]
  exact ⟨.ref _, _, I.lnew (t' := s.toks) (r.append r2) (by rw [List.length_append]; omega), rfl, q _ I.fresh⟩
end
end L2
namespace L2
open PySem PySem.Spec PyProof.Rows
theorem Vals.ints : ∀ {ns : List Int} {us : List Value}, Vals (ns.map V.int) us → IntsAre us ns
  | [], us, h => by
    rw [List.map_nil] at h
    cases h
    exact IntsAre.nil
  | n :: ns, us, h => by
    rw [List.map_cons] at h
    cases h with
    | cons r t =>
      obtain ⟨k, rfl⟩ := r
      exact IntsAre.cons n k (Vals.ints t)
theorem Vals.ref1 {a : Addr} {us : List Value} (r : Vals [V.ref a] us) : us = [Value.ref a] := by
  cases r with
  | cons r t =>
    cases t
    cases r
    rfl
section
variable {prog : Program} {w : World} {A : Around} {E : Value → Shared → Prop} {s : Shared} {l : Addr} {its : List Value} {ns : List Int} {Q : Value → Shared → Prop}
theorem sum_raw (hh : A.handled = none) (hl : s.heap.IsList l its.toArray) (hi : IntsAre its ns)
    (h : ∀ h' tk t', (∀ b o, s.heap.get? b = some o → h'.get? b = some o) → Q (.int ns.sum t') { s with heap := h', toks := tk }) : wpAny (model prog w) A (call (.builtin "sum") [.ref l]) Q E s := by
  obtain ⟨xs, e⟩ := hi.allInts.items
  have hn : numsOf (intItems xs).toList = ns := by rw [← e]; exact hi.numsOf
  rw [nums_intItems] at hn
  rw [e] at hl
  refine PySem.sum_intListG hh hl fun h' tk t' hk => ?_
  have := h h' tk t' hk
  rw [preSum_eq, List.take_of_length_le (by simp), hn]; exact this
end
section
variable {X : Cx}
def rSum (K : PySem.W.Frag) : List V → Hp → VK → Prop := fun vs H Q => ∃ (a : Addr) (ns : List Int), vs = [V.ref a] ∧ SqL K H a (ns.map V.int) ∧ Q (.int ns.sum) H
theorem cr_sum (hc : X.calm = true) : CallR X (.builtin "sum") (rSum X.K) := by
  intro pins s σ H vs us Q I r h
  obtain ⟨a, ns, rfl, hs, q⟩ := h
  obtain ⟨its, rv, hl, _⟩ := I.list hs
  rw [Vals.ref1 r]
  exact sum_raw (I.ok.hd hc) hl.isList rv.ints fun h' tk t' hk => ⟨.int _, H, I.kept hk, ⟨_, rfl⟩, q⟩
end
end L2
namespace L2
open PySem PySem.Spec PyProof.Rows
abbrev CellAt (h : Heap) (c : Addr) (v : Option Value) : Prop := h.IsCell c v
def relS (scope sc : Scope) : Scope :=
  { scope with names := scope.names.map fun (n, k) => if (k == .free && sc.kind == .function && sc.names.lookup n == some .cell) then (n, .cell) else (n, k) }
def cloFrom (cells : List (Str × Addr)) : List (Str × NameKind) → List (Str × Addr) → List (Str × Addr)
  | [], acc => acc
  | (n, k) :: r, acc => if k == .free then cloFrom cells r ((n, (cells.lookup n).getD 0) :: acc) else cloFrom cells r acc
theorem closure_loop (env : Env) (f : Str × NameKind → List (Str × Addr) → Sem (ForInStep (List (Str × Addr))))
    (hf : ∀ n k c, f (n, k) c = if k == .free then (do let a ← cellOf env n; pure (.yield ((n, a) :: c))) else pure (.yield c)) :
    ∀ (names : List (Str × NameKind)) (acc : List (Str × Addr)), (∀ y ∈ names, y.2 = .free → ∃ c, env.cells.lookup y.1 = some c) → forIn names acc f = pure (cloFrom env.cells names acc)
  | [], acc, _ => by rw [List.forIn_nil]; rfl
  | (n, k) :: r, acc, h => by
    rw [List.forIn_cons, hf]
    have ih := fun acc => closure_loop env f hf r acc fun y hy => h y (List.mem_cons_of_mem _ hy)
    unfold cloFrom
    by_cases hk : (k == NameKind.free) = true
    · rw [if_pos hk, if_pos hk]
      obtain ⟨c, hc⟩ := h (n, k) List.mem_cons_self (by simpa using hk)
      have e : cellOf env n = pure c := by unfold cellOf; rw [hc]
      rw [e]
      have e2 : (env.cells.lookup n).getD 0 = c := by rw [hc]; rfl
      rw [e2]
      exact ih _
    · rw [if_neg hk, if_neg hk]
      exact ih _
theorem closure_ok {scope : Scope} {env : Env} (h : ∀ y ∈ scope.names, y.2 = .free → ∃ c, env.cells.lookup y.1 = some c) : closureFor scope env = pure (cloFrom env.cells scope.names []) := by
  simp only [closureFor]
  rw [closure_loop env _ (fun n k c => rfl) scope.names [] h]
  rfl
theorem mem_lookup {α : Type} : ∀ {l : List (Str × α)} {n : Str} {c : α}, (n, c) ∈ l → ∃ c', l.lookup n = some c'
  | (k, v) :: r, n, c, h => by
    rw [List.lookup_cons]
    cases hb : n == k with
    | true => exact ⟨_, rfl⟩
    | false =>
      rcases List.mem_cons.mp h with e | h
      · cases e; simp at hb
      · exact mem_lookup h
theorem cloFrom_mem {cells : List (Str × Addr)} : ∀ {names : List (Str × NameKind)} {acc : List (Str × Addr)} {n : Str} {c : Addr}, (n, c) ∈ cloFrom cells names acc → (n, c) ∈ acc ∨ ((n, .free) ∈ names ∧ c = (cells.lookup n).getD 0)
  | [], _, _, _, h => .inl h
  | (m, k) :: r, acc, n, c, h => by
    unfold cloFrom at h
    split at h
    · rename_i hk
      have hk : k = .free := by simpa using hk
      rcases cloFrom_mem h with h | ⟨h1, h2⟩
      · rcases List.mem_cons.mp h with e | h
        · cases e; exact .inr ⟨hk ▸ List.mem_cons_self, rfl⟩
        · exact .inl h
      · exact .inr ⟨List.mem_cons_of_mem _ h1, h2⟩
    · rcases cloFrom_mem h with h | ⟨h1, h2⟩
      · exact .inl h
      · exact .inr ⟨List.mem_cons_of_mem _ h1, h2⟩
theorem cloFrom_acc {cells : List (Str × Addr)} : ∀ {names : List (Str × NameKind)} {acc : List (Str × Addr)} {p : Str × Addr}, p ∈ acc → p ∈ cloFrom cells names acc
  | [], _, _, h => h
  | (m, k) :: r, acc, p, h => by
    unfold cloFrom
    split
    · exact cloFrom_acc (List.mem_cons_of_mem _ h)
    · exact cloFrom_acc h
theorem cloFrom_has {cells : List (Str × Addr)} : ∀ {names : List (Str × NameKind)} {acc : List (Str × Addr)} {n : Str}, (n, .free) ∈ names → (n, (cells.lookup n).getD 0) ∈ cloFrom cells names acc
  | (m, k) :: r, acc, n, h => by
    unfold cloFrom
    rcases List.mem_cons.mp h with e | h
    · cases e
      exact cloFrom_acc List.mem_cons_self
    · split
      · exact cloFrom_has h
      · exact cloFrom_has h
theorem cells_mem : ∀ {names : List (Str × NameKind)} {h : Heap} {acc : List (Str × Addr)} {x : Str} {c : Addr}, (x, c) ∈ cellsFrom h.objs.size names acc →
    (x, c) ∈ acc ∨ ((x, .cell) ∈ names ∧ h.objs.size ≤ c ∧ CellAt (pushCells h names) c none)
  | [], _, _, _, _, h => .inl h
  | (n, k) :: r, h, acc, x, c, hm => by
    unfold cellsFrom at hm
    unfold pushCells
    split at hm
    · rename_i hk
      rw [if_pos hk]
      have hk : k = .cell := by simpa using hk
      rw [← Heap.size_push h { cls := .type "cell", data := .cell none }] at hm
      rcases cells_mem hm with hm | ⟨h1, h2, h3⟩
      · rcases List.mem_cons.mp hm with e | hm
        · cases e
          exact .inr ⟨hk ▸ List.mem_cons_self, Nat.le_refl _, _, pushCells_keeps r _ _ _ (Heap.get?_push_size _ rfl), rfl⟩
        · exact .inl hm
      · rw [Heap.size_push] at h2
        exact .inr ⟨List.mem_cons_of_mem _ h1, Nat.le_of_succ_le h2, h3⟩
    · rename_i hk
      rw [if_neg hk]
      rcases cells_mem hm with hm | ⟨h1, h2, h3⟩
      · exact .inl hm
      · exact .inr ⟨List.mem_cons_of_mem _ h1, h2, h3⟩
theorem cells_acc : ∀ {names : List (Str × NameKind)} {n : Nat} {acc : List (Str × Addr)} {p : Str × Addr}, p ∈ acc → p ∈ cellsFrom n names acc
  | [], _, _, _, h => h
  | (m, k) :: r, n, acc, p, h => by
    unfold cellsFrom
    split
    · exact cells_acc (List.mem_cons_of_mem _ h)
    · exact cells_acc h
theorem cells_has : ∀ {names : List (Str × NameKind)} {n : Nat} {acc : List (Str × Addr)} {x : Str}, (x, .cell) ∈ names → ∃ c, (x, c) ∈ cellsFrom n names acc
  | (m, k) :: r, n, acc, x, h => by
    unfold cellsFrom
    rcases List.mem_cons.mp h with e | h
    · cases e
      exact ⟨n, cells_acc List.mem_cons_self⟩
    · split
      · exact cells_has h
      · exact cells_has h
theorem cells_inj : ∀ {names : List (Str × NameKind)} {h : Heap} {acc : List (Str × Addr)} {x y : Str} {c : Addr}, (∀ p ∈ acc, p.2 < h.objs.size) → (∀ x y c, (x, c) ∈ acc → (y, c) ∈ acc → x = y) →
    (x, c) ∈ cellsFrom h.objs.size names acc → (y, c) ∈ cellsFrom h.objs.size names acc → x = y
  | [], _, _, _, _, _, _, hi, h1, h2 => hi _ _ _ h1 h2
  | (n, k) :: r, h, acc, x, y, c, hl, hi, h1, h2 => by
    unfold cellsFrom at h1 h2
    split at h1
    · rename_i hk
      rw [if_pos hk] at h2
      rw [← Heap.size_push h { cls := .type "cell", data := .cell none }] at h1 h2
      refine cells_inj (h := h.push _) (fun p hp => ?_) (fun x y c a b => ?_) h1 h2
      · rw [Heap.size_push]
        rcases List.mem_cons.mp hp with rfl | hp
        · exact Nat.lt_succ_self _
        · exact Nat.lt_succ_of_lt (hl p hp)
      · rcases List.mem_cons.mp a with e | a <;> rcases List.mem_cons.mp b with e' | b
        · cases e; cases e'; rfl
        · cases e; exact absurd (hl _ b) (Nat.lt_irrefl _)
        · cases e'; exact absurd (hl _ a) (Nat.lt_irrefl _)
        · exact hi _ _ _ a b
    · rename_i hk
      rw [if_neg hk] at h2
      exact cells_inj hl hi h1 h2
theorem newEnv_comp {M : Model} {A : Around} {E : Value → Shared → Prop} {s : Shared} {scope : Scope} {globals : Addr} {closure : List (Str × Addr)} {qual : Str} {func : Option Addr} {code : Value} {around : Env} {builtins : Addr} {Q : Env → Shared → Prop}
    (h : Q (newEnv scope s.heap.objs.size globals (cellsFrom (s.heap.objs.size + 1) scope.names closure) qual func code (some around) builtins)
      { s with heap := pushCells (s.heap.push { cls := .type "dict", data := .dict #[] }) scope.names }) :
    wpAny M A (newFunctionEnv scope globals closure [] qual func code (some around) builtins) Q E s := by
  simp only [newFunctionEnv, Option.isSome_some, if_true]
  refine wpAny_bind (wpAny_alloc ?_)
  refine wpAny_bind (wpAny_layCells _ (fun n k c => rfl) scope.names closure _ _ ?_)
  rw [show ({ s with heap := s.heap.push { cls := .type "dict", data := .dict #[] } } : Shared).heap.objs.size = s.heap.objs.size + 1 from Heap.size_push ..]
  rw [List.forIn_nil]
  exact wpAny_bind (wpAny_pure (wpAny_pure h))
theorem lookup_relS {sc : Scope} : ∀ {names : List (Str × NameKind)} {x : Str} {k : NameKind},
    (names.map fun (n, k) => if (k == NameKind.free && sc.kind == .function && sc.names.lookup n == some .cell) then (n, NameKind.cell) else (n, k)).lookup x = some k →
    ∃ k', names.lookup x = some k' ∧ (k = k' ∨ (k' = .free ∧ k = .cell))
  | [], _, _, h => by simp at h
  | (n, k₀) :: r, x, k, h => by
    have ih := @lookup_relS sc r x k
    have h' : List.lookup x ((if (k₀ == NameKind.free && sc.kind == .function && sc.names.lookup n == some .cell) = true then (n, NameKind.cell) else (n, k₀)) :: (r.map _)) = some k := h
    cases hx : x == n with
    | true =>
      simp only [List.lookup_cons, hx]
      by_cases hc : (k₀ == NameKind.free && sc.kind == .function && sc.names.lookup n == some .cell) = true
      · rw [if_pos hc] at h'
        simp only [List.lookup_cons, hx] at h'
        cases h'
        simp only [Bool.and_eq_true, beq_iff_eq] at hc
        exact ⟨k₀, rfl, .inr ⟨hc.1.1, rfl⟩⟩
      · rw [if_neg hc] at h'
        simp only [List.lookup_cons, hx] at h'
        cases h'
        exact ⟨_, rfl, .inl rfl⟩
    | false =>
      simp only [List.lookup_cons, hx]
      by_cases hc : (k₀ == NameKind.free && sc.kind == .function && sc.names.lookup n == some .cell) = true
      · rw [if_pos hc] at h'
        simp only [List.lookup_cons, hx] at h'
        exact ih h'
      · rw [if_neg hc] at h'
        simp only [List.lookup_cons, hx] at h'
        exact ih h'
structure BlkOk (N : List Str) (sc scope : Scope) (own : List (Str × Nat)) : Prop where
  kind : scope.kind = .function
  uniq : ∀ y ∈ scope.names, scope.names.lookup y.1 = some y.2
  ix : ∀ p ∈ own, N[p.2]? = some p.1
  free : ∀ y ∈ scope.names, y.2 = .free → sc.names.lookup y.1 = some .cell ∨ sc.names.lookup y.1 = some .free
  own : ∀ y ∈ scope.names, y.2 = .local ∨ y.2 = .cell → y.1 ∈ own.map (·.1) ∨ y.1 ∉ N
def wipe (σ : St) : List Nat → St
  | [] => σ
  | v :: vs => (wipe σ vs).set v none
theorem wipe_length (σ : St) : ∀ vs : List Nat, (wipe σ vs).length = σ.length
  | [] => rfl
  | v :: vs => by unfold wipe; rw [List.length_set, wipe_length σ vs]
theorem wipe_some {σ : St} {i : Nat} {x : V} : ∀ {vs : List Nat}, (wipe σ vs)[i]? = some (some x) → σ[i]? = some (some x) ∧ i ∉ vs
  | [], h => ⟨h, by simp⟩
  | v :: vs, h => by
    unfold wipe at h
    by_cases hi : v = i
    · subst hi
      by_cases hv : v < (wipe σ vs).length
      · rw [List.getElem?_set_self hv] at h; cases h
      · rw [List.getElem?_eq_none (by simpa using hv)] at h; cases h
    · rw [List.getElem?_set_ne hi] at h
      obtain ⟨h1, h2⟩ := wipe_some h
      exact ⟨h1, by simp only [List.mem_cons, not_or]; exact ⟨fun e => hi e.symm, h2⟩⟩
abbrev Cx.blk (X : Cx) (s : Shared) (H : Hp) (scope : Scope) (cenv : Env) (fp : List Addr) : Cx := { X with s₀ := s, H₀ := H, env := cenv, outer := X.stack, ex := fp, fn := fun x => scope.names.lookup x == some .cell, pn := [], xe := fun _ _ => False }
section
variable {X : Cx} {pins : List (Addr × Obj)} {σ : St} {H : Hp} {s : Shared}
theorem block_start {scope : Scope} {own : List (Str × Nat)} {fp : List Addr} (I : Inv X pins σ H s) (ok : BlkOk X.N X.env.scope scope own) (hN : X.N.Nodup) (hfp : ∀ b ∈ fp, FpOk X pins H b ∧ b < s.heap.objs.size) :
    Inv (X.blk s H scope (compEnvC scope (cellsFrom (s.heap.objs.size + 1) scope.names (cloFrom X.env.cells scope.names [])) s.heap.objs.size X.env) fp) [] (wipe σ (own.map (·.2))) H { s with heap := pushCells (s.heap.push { cls := .type "dict", data := .dict #[] }) scope.names } := by
  have hfree : ∀ y ∈ scope.names, y.2 = .free → ∃ c, X.env.cells.lookup y.1 = some c := fun y hy e => by
    rcases ok.free y hy e with k | k
    · exact I.ok.has _ (.inl k)
    · exact I.ok.has _ (.inr k)
  generalize hcenv : compEnvC scope (cellsFrom (s.heap.objs.size + 1) scope.names (cloFrom X.env.cells scope.names [])) s.heap.objs.size X.env = cenv
  have kp : ∀ b o, s.heap.get? b = some o → (pushCells (s.heap.push { cls := .type "dict", data := .dict #[] }) scope.names).get? b = some o := fun b o e => pushCells_keeps _ _ _ _ (Heap.get?_push_of_some _ e)
  have hL : cenv.locals = s.heap.objs.size := by rw [← hcenv]; rfl
  have hcl : cenv.cells = cellsFrom (s.heap.objs.size + 1) scope.names (cloFrom X.env.cells scope.names []) := by rw [← hcenv]; rfl
  have hsc : cenv.scope = relS scope X.env.scope := by rw [← hcenv]; rfl
  rw [← Heap.size_push s.heap { cls := .type "dict", data := .dict #[] }] at hcl
  have cm : ∀ {y c}, (y, c) ∈ cloFrom X.env.cells scope.names [] → X.env.cells.lookup y = some c ∧ c < s.heap.objs.size := fun {y c} hm => by
    rcases cloFrom_mem hm with hm | ⟨h1, rfl⟩
    · cases hm
    · obtain ⟨c, hc⟩ := hfree _ h1 rfl
      rw [hc]
      obtain ⟨w, z⟩ := I.cell _ _ hc
      exact ⟨rfl, z.lt⟩
  have mem : ∀ {y c}, cenv.cells.lookup y = some c → (X.env.cells.lookup y = some c ∧ c < s.heap.objs.size) ∨ (s.heap.objs.size + 1 ≤ c ∧ CellAt (pushCells (s.heap.push { cls := .type "dict", data := .dict #[] }) scope.names) c none) := fun {y c} e => by
    rw [hcl] at e
    rcases cells_mem (PySem.mem_of_lookup e) with hm | ⟨_, h2, h3⟩
    · exact .inl (cm hm)
    · rw [Heap.size_push] at h2; exact .inr ⟨h2, h3⟩
  have look : ∀ {y}, scope.names.lookup y = some .free → ∃ c, cenv.cells.lookup y = some c ∧ X.env.cells.lookup y = some c := fun {y} hl => by
    have hy : (y, NameKind.free) ∈ scope.names := PySem.mem_of_lookup hl
    obtain ⟨c', e'⟩ := mem_lookup (cells_acc (names := scope.names) (n := (s.heap.push { cls := .type "dict", data := .dict #[] }).objs.size) (cloFrom_has (cells := X.env.cells) (acc := []) hy))
    rw [← hcl] at e'
    refine ⟨c', e', ?_⟩
    rw [hcl] at e'
    rcases cells_mem (PySem.mem_of_lookup e') with hm | ⟨h1, _, _⟩
    · exact (cm hm).1
    · have := ok.uniq _ h1
      rw [hl] at this; cases this
  have okB : (X.blk s H scope cenv fp).Ok := by
    refine ⟨I.ok.mod, by show cenv.scope.kind = _; rw [hsc]; exact ok.kind, by show cenv.globals = _; rw [← hcenv]; exact I.ok.glob, by show cenv.builtins = _; rw [← hcenv]; exact I.ok.blt, by show s.heap.objs.size ≤ cenv.locals; rw [hL]; exact Nat.le_refl _,
      fun y z c e1 e2 => ?_, fun y hy => ?_, fun y c z e => ?_, I.ok.hd, I.ok.frames, .inl rfl, fun b hb => ⟨?_, fun y c e z => ?_⟩, I.bs, Nat.le_trans I.ok.bsz I.sz, fun b o e hb => ?_, fun b hb z => ?_, I.stack, I.stkFree⟩
    · have e1 : cenv.cells.lookup y = some c := e1
      have e2 : cenv.cells.lookup z = some c := e2
      rw [hcl] at e1 e2
      refine cells_inj (fun p hp => ?_) (fun y z c a b => I.ok.inj y z c (cm a).1 (cm b).1) (PySem.mem_of_lookup e1) (PySem.mem_of_lookup e2)
      rw [Heap.size_push]
      exact Nat.lt_succ_of_lt (cm (y := p.1) (c := p.2) hp).2
    · show ∃ c, cenv.cells.lookup y = some c
      have key : ∀ k, cenv.kindOf y = some k → (k = .cell ∨ k = .free) → ∃ c, cenv.cells.lookup y = some c := fun k hk hk' => by
        unfold Env.kindOf at hk
        rw [hsc] at hk
        obtain ⟨k', e, r⟩ := lookup_relS hk
        have : k' = .cell ∨ k' = .free := by
          rcases r with rfl | ⟨rfl, _⟩
          · exact hk'
          · exact .inr rfl
        rcases this with rfl | rfl
        · obtain ⟨c, hm⟩ := cells_has (n := (s.heap.push { cls := .type "dict", data := .dict #[] }).objs.size) (acc := cloFrom X.env.cells scope.names []) (PySem.mem_of_lookup e)
          obtain ⟨c', e'⟩ := mem_lookup hm
          exact ⟨c', by rw [hcl]; exact e'⟩
        · obtain ⟨c, h1, _⟩ := look e
          exact ⟨c, h1⟩
      rcases hy with hy | hy
      · exact key _ hy (.inl rfl)
      · exact key _ hy (.inr rfl)
    · have z : (scope.names.lookup y == some NameKind.cell) = true := z
      have z : scope.names.lookup y = some .cell := by simpa using z
      have e : cenv.cells.lookup y = some c := e
      rw [hcl] at e
      rcases cells_mem (PySem.mem_of_lookup e) with hm | ⟨_, h2, _⟩
      · rcases cloFrom_mem hm with hm | ⟨h1, _⟩
        · cases hm
        · have q := ok.uniq _ h1
          rw [z] at q; cases q
      · rw [Heap.size_push] at h2
        exact Nat.le_of_succ_le h2
    · show b ≠ cenv.locals
      rw [hL]; exact Nat.ne_of_lt (hfp b hb).2
    · have e : cenv.cells.lookup y = some c := e
      rcases mem e with ⟨h1, _⟩ | ⟨h1, _⟩
      · exact (hfp b hb).1.2.2.2.2.1 y c h1 z
      · have h2 : s.heap.objs.size + 1 ≤ b := by rw [← z]; exact h1
        exact absurd (Nat.lt_of_lt_of_le (hfp b hb).2 (Nat.le_of_succ_le h2)) (Nat.lt_irrefl _)
    · rcases (hfp b hb).1.2.2.2.1 with z | z
      · exact I.ok.noex b o e z
      · exact absurd (Nat.lt_of_lt_of_le (Heap.lt_size e) (Nat.le_trans I.ok.bsz z)) (Nat.lt_irrefl _)
    · rcases List.mem_cons.mp (I.stkSub b z) with z | z
      · exact (hfp b hb).1.2.1 z
      · exact (hfp b hb).1.2.2.1 z
  refine ⟨okB, rfl, I.bare, Un.kept kp, ⟨fun _ => none, ?_, fun i y av e1 e2 e3 => ?_⟩, fun y c e => ?_, ?_, fun y c e => ?_, fun p hp => ?_, I.hok.kept kp, by rw [wipe_length]; exact I.len⟩
  · show Heap.Ns _ cenv.locals _
    rw [hL]
    exact Heap.Ns.keeps (Heap.Ns.new ..) fun b o e => pushCells_keeps _ _ _ _ e
  · obtain ⟨e2, hne⟩ := wipe_some e2
    have hfr : scope.names.lookup y = some .free ∧ (cenv.kindOf y = some .cell ∨ cenv.kindOf y = some .free) := by
      have key : ∀ k, cenv.scope.names.lookup y = some k → k = .local ∨ k = .cell ∨ k = .free → scope.names.lookup y = some .free ∧ (cenv.kindOf y = some .cell ∨ cenv.kindOf y = some .free) := fun k hk hk' => by
        have hk0 := hk
        rw [hsc] at hk
        obtain ⟨k', e, r⟩ := lookup_relS hk
        have no : ¬ (k' = .local ∨ k' = .cell) := fun hh => by
          rcases ok.own _ (PySem.mem_of_lookup e) hh with e' | e'
          · obtain ⟨p, hp, hpy⟩ := List.mem_map.mp e'
            have e3 := ok.ix p hp
            have : p.1 = y := hpy
            rw [this] at e3
            exact hne (List.mem_map.mpr ⟨p, hp, nodup_ix hN e3 e1⟩)
          · exact e' (List.mem_of_getElem? e1)
        rcases r with rfl | ⟨rfl, rfl⟩
        · rcases hk' with rfl | rfl | rfl
          · exact absurd (.inl rfl) no
          · exact absurd (.inr rfl) no
          · exact ⟨e, .inr hk0⟩
        · exact ⟨e, .inl hk0⟩
      have e3 : Vis cenv.scope y := e3
      rcases e3 with e3 | e3 | e3
      · exact key _ e3 (.inl rfl)
      · exact key _ e3 (.inr (.inl rfl))
      · exact key _ e3 (.inr (.inr rfl))
    obtain ⟨m, hn, hl⟩ := I.loc
    have hvis : Vis X.env.scope y := (ok.free _ (PySem.mem_of_lookup hfr.1) rfl).elim (fun k => .inr (.inl k)) (fun k => .inr (.inr k))
    obtain ⟨w, r, q⟩ := hl i y av e1 e2 hvis
    refine ⟨w, r, .inr ⟨hfr.2, ?_⟩⟩
    obtain ⟨c, h1, h2⟩ := look hfr.1
    rcases q with ⟨k, _⟩ | ⟨_, c', e', z⟩
    · have k : X.env.scope.names.lookup y = some .local := k
      rcases ok.free _ (PySem.mem_of_lookup hfr.1) rfl with k' | k' <;> rw [show X.env.scope.names.lookup y = _ from k'] at k <;> cases k
    · rw [h2] at e'; cases e'
      exact ⟨c, h1, z.keeps kp⟩
  · have e : cenv.cells.lookup y = some c := e
    rcases mem e with ⟨h1, _⟩ | ⟨_, z⟩
    · obtain ⟨w, z⟩ := I.cell y c h1
      exact ⟨w, z.keeps kp⟩
    · exact ⟨_, z⟩
  · show H cenv.locals = none
    rw [hL]; exact I.hok.fresh (Nat.le_refl _)
  · have e : cenv.cells.lookup y = some c := e
    rcases mem e with ⟨h1, _⟩ | ⟨h1, _⟩
    · exact I.freeC y c h1
    · exact I.hok.fresh (Nat.le_of_succ_le h1)
  · exact absurd (show p ∈ ([] : List (Addr × Obj)) ++ [] from hp) (by simp)
theorem app_ok {E : Value → Shared → Prop} {D : Addr} {xs : List V} {y : V} {v : Value} {Q : Value → Shared → Prop} (I : Inv X pins σ H s) (hD : H D = some (.lst xs)) (hz : xs.length < sizeLine) (r : RelV y v)
    (h : ∀ s', Inv X pins σ (upd H D (.lst (xs ++ [y]))) s' → Q .none s') : wpAny (model X.prog X.w) X.A (call (.builtin "list.append") [.ref D, v]) Q E s := by
  obtain ⟨hz', its, n, ri, e⟩ := I.hok D _ hD
  have hl := ri.length
  refine append_at (hsz := by rw [List.size_toArray]; omega) e fun h' sb ho' => ?_
  refine h { s with heap := h' } (I.write (t' := s.toks) (by rw [hD]; trivial) (.inl rfl) (fun b u hb q => (sb.2 b hb).trans q) ⟨_, ho'⟩ ⟨by rw [List.length_append]; exact hz, its ++ [v], n + 1, ri.append (.cons r .nil), ?_⟩)
  rw [ho']
  simp
def PTs (X : Cx) (ifs : List Expr) (t : TT) : Prop :=
  ∀ (pins : List (Addr × Obj)) (s : Shared) (σ : St) (H : Hp) (Q : Bool → Hp → Prop), Inv X pins σ H s → t σ H Q →
    wpAny (model X.prog X.w) X.A (forIn ifs true fun c r => if r = true then do let ok ← isTrue c X.env (eval c X.env); pure (ForInStep.yield ok) else pure (ForInStep.yield r)) (TP X pins σ Q) X.xe s
def tYes : TT := fun _ H Q => Q true H
theorem pts_nil : PTs X [] tYes := fun _ _ _ H _ I h => wpAny_tests_nil ⟨H, I, h⟩
theorem pts_one {c : Expr} {t : TT} (h : PT X c t) : PTs X [c] t := fun pins s σ H Q I hw => wpAny_tests_one (h pins s σ H Q I hw)
end
theorem thnF {α : Type} {t : Sem α} {Q Q' : α → Shared → Prop} {M : Model} {A : Around} {E : Value → Shared → Prop} {s : Shared} (h : wpAny M A t Q (fun _ _ => False) s) (hQ : ∀ a s, Q a s → Q' a s) : wpAny M A t Q' E s := wpAny_mono h hQ fun _ _ z => False.elim z
theorem compLoop_any {prog : Program} {w : World} {A : Around} {R : Result → Shared → Prop} {s : Shared} {elt target iter : Expr} {ifs : List Expr} {scope : Scope} {pos : Pos} {it acc : Value} {env : Env} (I : Nat → Shared → Prop)
    (turn : ∀ n s, I n s → wpAny (model prog w) A (pyNext it) (fun r s₁ => match r with
      | none => R (.ok .next) s₁
      | some v => wpAny (model prog w) A (letOwnedTupleGo target it v) (fun _ s₁' => wpAny (model prog w) A (assign target env v) (fun _ s₂ =>
          wpAny (model prog w) A (forIn ifs true fun c r => if r = true then do let ok ← isTrue c env (eval c env); pure (ForInStep.yield ok) else pure (ForInStep.yield r)) (fun ok s₃ =>
            if ok = true then wpAny (model prog w) A (eval elt env) (fun x s₄ =>
              wpAny (model prog w) A (call (.builtin "list.append") [acc, x]) (fun _ s₅ => ∃ m, m < n ∧ I m s₅) (notedBy (model prog w) A env fun e s' => R (.error e) s') s₄) (notedBy (model prog w) A env fun e s' => R (.error e) s') s₃
            else ∃ m, m < n ∧ I m s₃) (notedBy (model prog w) A env fun e s' => R (.error e) s') s₂) (notedBy (model prog w) A env fun e s' => R (.error e) s') s₁') (notedBy (model prog w) A env fun e s' => R (.error e) s') s₁) (notedBy (model prog w) A env fun e s' => R (.error e) s') s)
    (n : Nat) (h : I n s) :
    codeAny (model prog w) A (.compLoop (.ListComp elt [⟨target, iter, ifs, 0⟩] scope pos) 0 it acc env) R s := by
  refine codeAny_loop rfl I (fun n s hI => ?_) n h
  show wpAny _ A ((compTurn (.ListComp elt [⟨target, iter, ifs, 0⟩] scope pos) 0 it acc env).onRaise (fun x => do noteFrame x env; theTreesLotGoes x)) _ _ s
  refine wpAny_noted ?_
  rw [compTurn_list]
  refine wpAny_bind (wpAny_standAt (wpAny_bind (wpAny_mono (turn n s hI) (fun r s₁ h₁ => ?_) fun _ _ h' => h')))
  cases r with
  | none => exact wpAny_pure h₁
  | some v =>
    refine wpAny_bind (wpAny_mono h₁ (fun _ s₁' h₁' => ?_) fun _ _ h' => h')
    refine wpAny_bind (wpAny_mono h₁' (fun _ s₂ h₂ => wpAny_bind (wpAny_mono h₂ (fun ok s₃ h₃ => ?_) fun _ _ h' => h')) fun _ _ h' => h')
    cases ok with
    | false => exact wpAny_pure ⟨rfl, h₃⟩
    | true =>
      exact wpAny_bind (wpAny_bind (wpAny_mono h₃ (fun x s₄ h₄ => wpAny_bind (wpAny_mono h₄ (fun _ s₅ h₅ => wpAny_pure (wpAny_pure ⟨rfl, h₅⟩)) fun _ _ h' => h')) fun _ _ h' => h'))
section
variable {X : Cx}
def tLc (wi : TI) (g : TG) (tt : TT) (te : TE) (vs : List Nat) : TE := fun σ H Q => wi σ H fun J H1 => ∀ D, H1 D = none → ∃ W : Nat → Nat → Hp → Prop, (∃ m, W 0 m (upd H1 D (.lst []))) ∧ ∀ i m H, W i m H →
  (J.stop i H ∧ Q (.ref D) H) ∨ (J.go i H ∧ ∃ Nx : Hp → Prop, (∀ H', Nx H' → ∃ m', m' < m ∧ W (i + 1) m' H') ∧ ∀ x H', J.yld i H x H' → g x (wipe σ vs) H' fun σ2 H2 => wipe σ2 vs = wipe σ vs ∧ tt σ2 H2 fun b H3 =>
    if b = true then te σ2 H3 fun y H4 => ∃ acc, H4 D = some (.lst acc) ∧ acc.length < sizeLine ∧ Nx (upd H4 D (.lst (acc ++ [y]))) else Nx H3)
theorem lc_core {pins : List (Addr × Obj)} {s : Shared} {σ : St} {H : Hp} {Q : VK} {elt tg iter : Expr} {ifs : List Expr} {scope : Scope} {own : List (Str × Nat)} {pos pos' : Pos} {wi : TI} {g : TG} {tt : TT} {te : TE} {use : Option (Value → Sem Unit)} {Qf : Value → Shared → Prop}
    (hc : X.calm = true) (hN : X.N.Nodup) (I : Inv X pins σ H s) (hi : PI X tg iter wi) (ok : BlkOk X.N X.env.scope scope own)
    (hg : ∀ (s : Shared) (H : Hp) (C : Addr) (cl : List (Str × Addr)) (fp : List Addr), PG (X.blk s H scope (compEnvC scope cl C X.env) fp) tg g) (ht : ∀ (s : Shared) (H : Hp) (C : Addr) (cl : List (Str × Addr)) (fp : List Addr), PTs (X.blk s H scope (compEnvC scope cl C X.env) fp) ifs tt)
    (he : ∀ (s : Shared) (H : Hp) (C : Addr) (cl : List (Str × Addr)) (fp : List Addr), PE (X.blk s H scope (compEnvC scope cl C X.env) fp) elt te) (hs : ∀ x, foldedSetIterable iter X.env x = pure x)
    (h : tLc wi g tt te (own.map (·.2)) σ H Q)
    (hRR : ∀ D C s' m H', Inv X pins σ H' s' → Q (.ref D) H' → s'.heap.Ns C m → FpOk X pins H' C → compPost (model X.prog X.w) X.A X.xe use Qf (.ref D) C (.ok .next) s') :
    wpAny (model X.prog X.w) X.A (comprehension (.ListComp elt [⟨tg, iter, ifs, 0⟩] scope pos) scope X.env pos' (newList []) false (eval iter X.env) use) Qf X.xe s := by
  have hfree : ∀ y ∈ scope.names, y.2 = .free → ∃ c, X.env.cells.lookup y.1 = some c := fun y hy e => by
    rcases ok.free y hy e with k | k
    · exact I.ok.has _ (.inl k)
    · exact I.ok.has _ (.inr k)
  refine wpAny_comprehension_free (use := use) rfl hs (closure_ok hfree) ok.kind (fun y hy e => by rw [ok.uniq y hy, e])
    (thn (hi pins s σ H _ I h) fun xv s1 hx => thn hx fun itv s2 h2 => ?_)
  obtain ⟨it, fp, tn, J, H2, e, I2, T, st2, f2, q⟩ := h2
  subst e
  refine wpAny_newObj_type (newEnv_comp ?_) (by show 0 ≤ sizeLine; decide)
  generalize hD : s2.heap.objs.size = D
  have hDn : H2 D = none := I2.hok.fresh (Nat.le_of_eq hD)
  obtain ⟨W, ⟨m0, w0⟩, turn⟩ := q D hDn
  generalize hs3 : ({ s2 with heap := s2.heap.push { cls := .type "list", data := .seq ([] : List Value).toArray } } : Shared) = s3
  have I3 : Inv X pins σ (upd H2 D (.lst [])) s3 := by
    rw [← hs3]
    refine I2.laid (t' := s2.toks) (fun b o e => Heap.get?_push_of_some _ e) (Nat.le_of_eq hD) ⟨Nat.zero_le _, [], 0, .nil, ?_⟩
    rw [← hD]
    exact Heap.get?_push_size _ rfl
  have h3 : s3.heap = s2.heap.push { cls := .type "list", data := .seq ([] : List Value).toArray } := by rw [← hs3]
  have sz : ∀ b ∈ fp, b < s2.heap.objs.size := fun b hb => by
    obtain ⟨o, e, _⟩ := T.obj _ _ st2 b hb
    exact Heap.lt_size e
  have f3 : ∀ b ∈ fp, FpOk X pins (upd H2 D (.lst [])) b ∧ b < s3.heap.objs.size := fun b hb => by
    have hlt := sz b hb
    refine ⟨⟨?_, (f2 b hb).2⟩, by rw [h3, Heap.size_push]; exact Nat.lt_succ_of_lt hlt⟩
    rw [upd_ne (by rw [← hD]; exact Nat.ne_of_lt hlt)]
    exact (f2 b hb).1
  have st3 : tn 0 s3.heap := T.keep _ _ _ st2 fun b _ o e => by rw [h3]; exact Heap.get?_push_of_some _ e
  have I4 := block_start I3 ok hN f3
  have pg := hg s3 (upd H2 D (.lst [])) s3.heap.objs.size (cellsFrom (s3.heap.objs.size + 1) scope.names (cloFrom X.env.cells scope.names [])) fp
  have pt := ht s3 (upd H2 D (.lst [])) s3.heap.objs.size (cellsFrom (s3.heap.objs.size + 1) scope.names (cloFrom X.env.cells scope.names [])) fp
  have pe := he s3 (upd H2 D (.lst [])) s3.heap.objs.size (cellsFrom (s3.heap.objs.size + 1) scope.names (cloFrom X.env.cells scope.names [])) fp
  show codeAny _ _ (.compStart (.ListComp elt [⟨tg, iter, ifs, 0⟩] scope pos) 0 (.ref it) (.ref D) (compEnvC scope (cellsFrom (s3.heap.objs.size + 1) scope.names (cloFrom X.env.cells scope.names [])) s3.heap.objs.size X.env)) (compPost (model X.prog X.w) X.A X.xe use Qf (.ref D) s3.heap.objs.size) { s3 with heap := pushCells (s3.heap.push { cls := .type "dict", data := .dict #[] }) scope.names }
  have nfp : ∀ b ∈ fp, (upd H2 D (.lst [])) b = none := fun b hb => (f3 b hb).1.1
  generalize hce : compEnvC scope (cellsFrom (s3.heap.objs.size + 1) scope.names (cloFrom X.env.cells scope.names [])) s3.heap.objs.size X.env = ce at I4 pg pt pe ⊢
  have cL : ce.locals = s3.heap.objs.size := by subst hce; rfl
  generalize hH3 : upd H2 D (.lst []) = H3 at I3 I4 pg pt pe w0 nfp f3
  generalize hs4 : ({ s3 with heap := pushCells (s3.heap.push { cls := .type "dict", data := .dict #[] }) scope.names } : Shared) = s4 at I4 ⊢
  have st4 : tn 0 s4.heap := T.keep _ _ _ st3 fun b _ o e => by rw [← hs4]; exact pushCells_keeps _ _ _ _ (Heap.get?_push_of_some _ e)
  have stat : ∀ {σ' : St} {H' : Hp} {s' : Shared}, Inv (X.blk s3 H3 scope ce fp) [] σ' H' s' → (∀ b ∈ fp, H' b = none) → ∀ b ∈ fp, FpOk (X.blk s3 H3 scope ce fp) [] H' b := fun {σ' H' s'} I' hn b hb =>
    ⟨hn b hb, (I'.ok.exf b hb).1, I'.ok.exfs b hb, .inl hb, fun x c e => (I'.ok.exf b hb).2 x c e, fun p hp => absurd (show p ∈ ([] : List (Addr × Obj)) ++ [] from hp) (by simp)⟩
  have loop : codeAny (model X.prog X.w) X.A (.compLoop (.ListComp elt [⟨tg, iter, ifs, 0⟩] scope pos) 0 (.ref it) (.ref D) ce) (compPost (model X.prog X.w) X.A X.xe use Qf (.ref D) s3.heap.objs.size) s4 := by
    refine compLoop_any (fun n s' => ∃ i H', Inv (X.blk s3 H3 scope ce fp) [] (wipe σ (own.map (·.2))) H' s' ∧ tn i s'.heap ∧ (∀ b ∈ fp, H' b = none) ∧ W i n H') ?_ m0 ⟨0, H3, I4, st4, nfp, w0⟩
    rintro n s5 ⟨i, H5, I5, st5, n5, w5⟩
    rcases turn i n H5 w5 with ⟨stop, qq⟩ | ⟨go, Nx, hNx, step⟩
    · have td := T.done (X.blk s3 H3 scope ce fp) rfl rfl rfl hc i [] s5 _ H5 (fun _ _ => False) I5 (stat I5 n5) st5 stop
      refine thnF td fun r s6 ⟨hr, I6⟩ => ?_
      subst hr
      have I7 : Inv X pins σ H5 s6 := I3.call' (ch := fp) I6.os I6.base I6.hok I6.bare fun b hb => ⟨(f3 b hb).1.2.2.2.1, (f3 b hb).1.2.1, (f3 b hb).1.2.2.2.2.1, (f3 b hb).1.2.2.2.2.2⟩
      have nC : H5 s3.heap.objs.size = none := by
        have z : H5 ce.locals = none := I6.free
        rw [cL] at z
        exact z
      obtain ⟨m, hn, _⟩ := I6.loc
      have hn : s6.heap.Ns ce.locals m := hn
      rw [cL] at hn
      exact hRR D s3.heap.objs.size s6 m H5 I7 qq hn (I3.fpOk (Nat.le_refl _) nC)
    · have ti := T.item (X.blk s3 H3 scope ce fp) rfl rfl rfl hc i [] s5 _ H5 (fun _ _ => False) I5 (stat I5 n5) st5 go
      refine thnF ti fun r s6 ⟨u, hr, h6⟩ => ?_
      subst hr
      refine thnF h6 fun _ s7 ⟨x, H7, I7, r7, y7, st7, n7⟩ => ?_
      have I7' := I7.pinned (stat I7 n7) (T.obj _ _ st7)
      refine thnF (pg _ s7 _ H7 x u _ I7' r7 (step x H7 y7)) fun _ s8 ⟨σ8, H8, I8, hw8, q8⟩ => ?_
      refine thnF (pt _ s8 σ8 H8 _ I8 q8) fun b s9 ⟨H9, I9, q9⟩ => ?_
      have fin : ∀ {s' : Shared} {H' : Hp}, Inv (X.blk s3 H3 scope ce fp) ([] ++ pinsAt fp s7.heap) σ8 H' s' → Nx H' → ∃ m, m < n ∧ ∃ i H', Inv (X.blk s3 H3 scope ce fp) [] (wipe σ (own.map (·.2))) H' s' ∧ tn i s'.heap ∧ (∀ b ∈ fp, H' b = none) ∧ W i m H' := fun {s' H'} I' nx => by
        obtain ⟨m', hm, w'⟩ := hNx H' nx
        have pin' : ∀ b ∈ fp, ∀ o, s7.heap.get? b = some o → s'.heap.get? b = some o ∧ H' b = none := fun b hb o e =>
          let z := I'.pin (b, o) (List.mem_append_right _ (List.mem_append_right _ (mem_pinsAt hb e)))
          ⟨z.1, z.2.1⟩
        have hl : (wipe σ (own.map (·.2))).length = σ8.length := by rw [← hw8, wipe_length]
        refine ⟨m', hm, i + 1, H', (I'.unpinned (pins := [])).weak hl (fun j v e => ?_), T.keep _ _ _ st7 fun b hb o e => (pin' b hb o e).1, fun b hb => ?_, w'⟩
        · rw [← hw8] at e
          exact (wipe_some e).1
        · obtain ⟨o, e, _⟩ := T.obj _ _ st7 b hb
          exact (pin' b hb o e).2
      cases b with
      | false =>
        simp only [Bool.false_eq_true, if_false] at q9 ⊢
        exact fin I9 q9
      | true =>
        simp only [if_true] at q9 ⊢
        refine thnF (pe _ s9 σ8 H9 _ I9 q9) fun z s10 ⟨yv, H10, I10, r10, acc, hD10, hz10, nx⟩ => ?_
        exact app_ok (X := X.blk s3 H3 scope ce fp) I10 hD10 hz10 r10 fun s11 I11 => fin I11 nx
  exact codeAny_compStart_list loop (T.self X.A 0 _ _ _ st4 loop)
theorem pe_lc {elt tg iter : Expr} {ifs : List Expr} {scope : Scope} {own : List (Str × Nat)} {pos : Pos} {wi : TI} {g : TG} {tt : TT} {te : TE} (hc : X.calm = true) (hN : X.N.Nodup) (hi : PI X tg iter wi) (ok : BlkOk X.N X.env.scope scope own)
    (hg : ∀ (s : Shared) (H : Hp) (C : Addr) (cl : List (Str × Addr)) (fp : List Addr), PG (X.blk s H scope (compEnvC scope cl C X.env) fp) tg g) (ht : ∀ (s : Shared) (H : Hp) (C : Addr) (cl : List (Str × Addr)) (fp : List Addr), PTs (X.blk s H scope (compEnvC scope cl C X.env) fp) ifs tt)
    (he : ∀ (s : Shared) (H : Hp) (C : Addr) (cl : List (Str × Addr)) (fp : List Addr), PE (X.blk s H scope (compEnvC scope cl C X.env) fp) elt te) (hs : ∀ x, foldedSetIterable iter X.env x = pure x := by intro _; rfl) :
    PE X (.ListComp elt [⟨tg, iter, ifs, 0⟩] scope pos) (tLc wi g tt te (own.map (·.2))) := by
  intro pins s σ H Q I h
  rw [eval_ListComp]
  refine lc_core hc hN I hi ok hg ht he hs h fun D C s' m H' I' q hn f => ⟨m, hn, fun h'' sb => ?_⟩
  obtain ⟨f0, f1, f2, f3, f4, f5⟩ := f
  exact ⟨.ref D, H', I'.turned (t' := s'.toks) (fun b o hb e => (sb.2 b hb).trans e) f0 f1 f3 f4 f5, rfl, q⟩
theorem ps_setLc {i : Nat} {y : Str} {py : Pos} {elt tg iter : Expr} {ifs : List Expr} {scope : Scope} {own : List (Str × Nat)} {pos spos : Pos} {wi : TI} {g : TG} {tt : TT} {te : TE} (hc : X.calm = true) (hN : X.N.Nodup) (hy : X.N[i]? = some y) (hyl : X.env.scope.names.lookup y = some .local)
    (hsw : swapsWith (.ListComp elt [⟨tg, iter, ifs, 0⟩] scope pos) (some (.Name y py)) spos.line X.env = pure true) (hi : PI X tg iter wi) (ok : BlkOk X.N X.env.scope scope own)
    (hg : ∀ (s : Shared) (H : Hp) (C : Addr) (cl : List (Str × Addr)) (fp : List Addr), PG (X.blk s H scope (compEnvC scope cl C X.env) fp) tg g) (ht : ∀ (s : Shared) (H : Hp) (C : Addr) (cl : List (Str × Addr)) (fp : List Addr), PTs (X.blk s H scope (compEnvC scope cl C X.env) fp) ifs tt)
    (he : ∀ (s : Shared) (H : Hp) (C : Addr) (cl : List (Str × Addr)) (fp : List Addr), PE (X.blk s H scope (compEnvC scope cl C X.env) fp) elt te) (hs : ∀ x, foldedSetIterable iter X.env x = pure x := by intro _; rfl) :
    PS X (.Assign [.Name y py] (.ListComp elt [⟨tg, iter, ifs, 0⟩] scope pos) spos) (tAsg (tLc wi g tt te (own.map (·.2))) (gName i)) := by
  intro pins s σ H D I h
  rw [exec_Assign_Name_used _ _ _ _ hsw]
  refine wpAny_bind (wpAny_standAt (wpAny_bind ?_))
  show wpAny _ X.A (do let _ ← comprehension (.ListComp elt [⟨tg, iter, ifs, 0⟩] scope pos) scope X.env (firstIterPos [⟨tg, iter, ifs, 0⟩] pos) (newList []) false (eval iter X.env) (some (assign (.Name y py) X.env))) _ _ s
  have h : tLc wi g tt te (own.map (·.2)) σ H (fun x H1 => gName i x σ H1 D.nx) := h
  refine wpAny_bind (thn (lc_core (Qf := fun _ s' => SP X pins D .next s') hc hN I hi ok hg ht he hs h fun L C s' m H' I' q hn f => ?_) fun _ s' hq => wpAny_pure (wpAny_pure hq))
  show wpAny _ _ (assign (.Name y py) X.env (.ref L)) _ _ _
  refine wpAny_assign_Name (store_ok2 (v := V.ref L) I' hN hy (.inl hyl) rfl (fun s2 I2 ⟨a, sb, ha⟩ => ?_) (.inr hyl))
  obtain ⟨f0, f1, f2, f3, f4, f5⟩ := f
  have haC : C ≠ a := by
    rcases ha with z | z
    · rw [z]; exact f1
    · exact fun e => f4 y a z e.symm
  refine ⟨m, hn.sameBut sb haC, fun h3 sb3 => ?_⟩
  exact ⟨_, H', I2.turned (t' := s2.toks) (fun b o hb e => (sb3.2 b hb).trans e) f0 f1 f3 f4 f5, q⟩
theorem sw_true {elt : Expr} {gs : List Comprehension} {scope : Scope} {pos py : Pos} {y : Str} {l : Nat} {env : Env} (hk : env.scope.kind = .function) (hy : env.scope.names.lookup y = some .local) (hl : (py.line == pos.line) = true)
    (ha : (scope.names.any fun (n, k) => n == y && (k == .local || k == .cell)) = false) : swapsWith (.ListComp elt gs scope pos) (some (.Name y py)) l env = pure true := by
  have ky : env.kindOf y = some .local := hy
  have hb : env.blockKind = .function := by unfold Env.blockKind; rw [hk]; rfl
  unfold swapsWith
  simp only [hb, ky, ha, Expr.pos, hl]
  rfl
end
theorem lc_list {K : PySem.W.Frag} {a : Addr} {xs : List V} {g : TG} {tt : TT} {te : TE} {vs : List Nat} {σ : St} {H1 : Hp} {D : Addr} {Qd : Hp → Prop} (Pv : Nat → Hp → Prop) (h0 : Pv 0 (upd H1 D (.lst []))) (hl : ∀ i H, i ≤ xs.length → Pv i H → SqL K H a xs)
    (hs : ∀ i x H, xs[i]? = some x → Pv i H → g x (wipe σ vs) H fun σ2 H2 => wipe σ2 vs = wipe σ vs ∧ tt σ2 H2 fun b H3 =>
      if b = true then te σ2 H3 fun y H4 => ∃ acc, H4 D = some (.lst acc) ∧ acc.length < sizeLine ∧ Pv (i + 1) (upd H4 D (.lst (acc ++ [y]))) else Pv (i + 1) H3) (hd : ∀ H, Pv xs.length H → Qd H) :
    ∃ W : Nat → Nat → Hp → Prop, (∃ m, W 0 m (upd H1 D (.lst []))) ∧ ∀ i m H, W i m H →
      ((Itl K a).stop i H ∧ Qd H) ∨ ((Itl K a).go i H ∧ ∃ Nx : Hp → Prop, (∀ H', Nx H' → ∃ m', m' < m ∧ W (i + 1) m' H') ∧ ∀ x H', (Itl K a).yld i H x H' → g x (wipe σ vs) H' fun σ2 H2 => wipe σ2 vs = wipe σ vs ∧ tt σ2 H2 fun b H3 =>
        if b = true then te σ2 H3 fun y H4 => ∃ acc, H4 D = some (.lst acc) ∧ acc.length < sizeLine ∧ Nx (upd H4 D (.lst (acc ++ [y]))) else Nx H3) := by
  refine ⟨fun i m H => m = xs.length - i ∧ i ≤ xs.length ∧ Pv i H, ⟨xs.length, by simp, Nat.zero_le _, h0⟩, ?_⟩
  rintro i m H ⟨rfl, hi, p⟩
  have q := hl i H hi p
  by_cases hlt : i < xs.length
  · refine .inr ⟨⟨xs, xs[i], q, by simp [hlt]⟩, Pv (i + 1), fun H' p' => ⟨xs.length - (i + 1), by omega, rfl, hlt, p'⟩, fun x H' y => ?_⟩
    obtain ⟨e, y⟩ := y
    subst e
    exact hs i x _ (y xs q) p
  · have e : i = xs.length := by omega
    subst e
    exact .inl ⟨⟨xs, q, Nat.le_refl _⟩, hd H p⟩
def blkC (N : List Str) (sc scope : Scope) (own : List (Str × Nat)) : Bool :=
  (match scope.kind with | .function => true | _ => false) && (scope.names.all fun y => decide (scope.names.lookup y.1 = some y.2)) && (own.all fun p => decide (N[p.2]? = some p.1)) &&
    (scope.names.all fun y => match y.2 with
      | .free => (match sc.names.lookup y.1 with | some .cell => true | some .free => true | _ => false)
      | .local => decide (y.1 ∈ own.map (·.1)) || decide (y.1 ∉ N)
      | .cell => decide (y.1 ∈ own.map (·.1)) || decide (y.1 ∉ N)
      | _ => true)
theorem blkOk_by {N : List Str} {sc scope : Scope} {own : List (Str × Nat)} (h : blkC N sc scope own = true) : BlkOk N sc scope own := by
  unfold blkC at h
  simp only [Bool.and_eq_true, List.all_eq_true, decide_eq_true_eq] at h
  obtain ⟨⟨⟨h1, h2⟩, h3⟩, h4⟩ := h
  refine ⟨?_, h2, h3, fun y hy e => ?_, fun y hy e => ?_⟩
  · split at h1
    · assumption
    · cases h1
  · have q := h4 y hy
    simp only [e] at q
    split at q <;> first | exact .inl (by assumption) | exact .inr (by assumption) | cases q
  · have q := h4 y hy
    rcases e with e | e <;> (simp only [e, Bool.or_eq_true, decide_eq_true_eq] at q; exact q)
end L2
namespace L2
open PySem PySem.Spec PyProof.Rows
end L2
namespace L2
open PySem PySem.Spec PyProof.Rows
section
variable {κ : Type} [DecidableEq κ]
def valV (kvs : List (κ × V)) (k : κ) : Option V := (kvs.find? fun kv => decide (kv.1 = k)).map (·.2)
def putK (kvs : List (κ × V)) (k : κ) (v : V) : List (κ × V) :=
  if (kvs.any fun kv => decide (kv.1 = k)) = true then kvs.map (fun kv => if kv.1 = k then (kv.1, v) else kv) else kvs ++ [(k, v)]
theorem valV_pos {p : κ × V} {r : List (κ × V)} {k : κ} (e : p.1 = k) : valV (p :: r) k = some p.2 := by simp [valV, List.find?_cons, e]
theorem valV_neg {p : κ × V} {r : List (κ × V)} {k : κ} (e : ¬ p.1 = k) : valV (p :: r) k = valV r k := by simp [valV, List.find?_cons, e]
theorem valV_any (k : κ) : ∀ kvs : List (κ × V), (kvs.any fun kv => decide (kv.1 = k)) = (valV kvs k).isSome
  | [] => rfl
  | p :: r => by
    rw [List.any_cons]
    by_cases e : p.1 = k
    · simp only [valV_pos e, decide_eq_true e, Bool.true_or, Option.isSome_some]
    · rw [valV_neg e, decide_eq_false e, Bool.false_or]; exact valV_any k r
theorem valV_map (k j : κ) (y : V) : ∀ kvs : List (κ × V), valV (kvs.map fun kv => if kv.1 = k then (kv.1, y) else kv) j = (valV kvs j).map fun x => if j = k then y else x
  | [] => rfl
  | p :: r => by
    have ih := valV_map k j y r
    rw [List.map_cons]
    by_cases h : p.1 = k
    · rw [if_pos h]
      by_cases e : p.1 = j
      · rw [valV_pos (p := (p.1, y)) e, valV_pos e, Option.map_some, if_pos (e.symm.trans h)]
      · rw [valV_neg (p := (p.1, y)) e, valV_neg e, ih]
    · rw [if_neg h]
      by_cases e : p.1 = j
      · rw [valV_pos (p := p) e, valV_pos e, Option.map_some, if_neg (fun z => h (e.trans z))]
      · rw [valV_neg (p := p) e, valV_neg e, ih]
theorem valV_snoc (k j : κ) (y : V) : ∀ kvs : List (κ × V), valV kvs k = none → valV (kvs ++ [(k, y)]) j = if j = k then some y else valV kvs j
  | [], _ => by
    by_cases e : k = j
    · rw [if_pos e.symm]; exact valV_pos (p := (k, y)) e
    · rw [if_neg (fun z => e z.symm)]; exact valV_neg (p := (k, y)) e
  | p :: r, hn => by
    rw [List.cons_append]
    have hk : ¬ p.1 = k := fun z => by rw [valV_pos z] at hn; cases hn
    rw [valV_neg hk] at hn
    have ih := valV_snoc k j y r hn
    by_cases e : p.1 = j
    · rw [valV_pos e, valV_pos e, if_neg (fun z => hk (e.trans z))]
    · rw [valV_neg e, valV_neg e, ih]
theorem valV_put (kvs : List (κ × V)) (k j : κ) (y : V) : valV (putK kvs k y) j = if j = k then some y else valV kvs j := by
  unfold putK
  by_cases a : (kvs.any fun kv => decide (kv.1 = k)) = true
  · rw [if_pos a, valV_map]
    rw [valV_any] at a
    by_cases e : j = k
    · obtain ⟨x, hx⟩ := Option.isSome_iff_exists.mp a
      rw [if_pos e, e, hx, Option.map_some, if_pos rfl]
    · rw [if_neg e]
      cases valV kvs j with
      | none => rfl
      | some x => rw [Option.map_some, if_neg e]
  · rw [if_neg a]
    refine valV_snoc k j y kvs ?_
    rw [valV_any] at a
    cases q : valV kvs k with
    | none => rfl
    | some x => rw [q] at a; exact (a rfl).elim
theorem length_putK (kvs : List (κ × V)) (k : κ) (v : V) : (putK kvs k v).length ≤ kvs.length + 1 := by
  unfold putK
  split
  · rw [List.length_map]; omega
  · rw [List.length_append, List.length_cons, List.length_nil]; omega
theorem RelO.isSome_eq {o : Option V} {u : Option Value} (r : RelO o u) : o.isSome = u.isSome := by
  cases o with
  | none => cases u with
    | none => rfl
    | some _ => exact (show False from r).elim
  | some _ => cases u with
    | none => exact (show False from r).elim
    | some _ => rfl
theorem RelO.getD {o : Option V} {u : Option Value} {d : V} {d' : Value} (r : RelO o u) (rd : RelV d d') : RelV (o.getD d) (u.getD d') := by
  cases o with
  | none => cases u with
    | none => exact rd
    | some _ => exact (show False from r).elim
  | some _ => cases u with
    | none => exact (show False from r).elim
    | some _ => exact r
theorem KV.val {kvs : List (κ × V)} {vs : List (κ × Value)} (r : KV kvs vs) (k : κ) : RelO (valV kvs k) (valueAt vs k) := by
  unfold KV at r
  induction r with
  | nil => exact True.intro
  | @cons p q ps qs h t ih =>
    obtain ⟨h1, h2⟩ := h
    by_cases e : p.1 = k
    · have e' : q.1 = k := h1.symm.trans e
      have b : valueAt (q :: qs) k = some q.2 := by simp [valueAt, List.find?_cons, e']
      rw [valV_pos e, b]; exact h2
    · have e' : ¬ q.1 = k := fun z => e (h1.trans z)
      have b : valueAt (q :: qs) k = valueAt qs k := by simp [valueAt, List.find?_cons, e']
      rw [valV_neg e, b]; exact ih
theorem KV.any {kvs : List (κ × V)} {vs : List (κ × Value)} (r : KV kvs vs) (k : κ) : (kvs.any fun kv => decide (kv.1 = k)) = vs.any fun kv => decide (kv.1 = k) := by
  unfold KV at r
  induction r with
  | nil => rfl
  | cons h t ih => rw [List.any_cons, List.any_cons, ih, h.1]
theorem KV.repl {kvs : List (κ × V)} {vs : List (κ × Value)} (r : KV kvs vs) (k : κ) {y : V} {u : Value} (ry : RelV y u) :
    KV (kvs.map fun kv => if kv.1 = k then (kv.1, y) else kv) (vs.map fun kv => if kv.1 = k then (kv.1, u) else kv) := by
  unfold KV at r ⊢
  induction r with
  | nil => exact .nil
  | @cons p q ps qs h t ih =>
    rw [List.map_cons, List.map_cons]
    refine .cons ?_ ih
    obtain ⟨h1, h2⟩ := h
    by_cases e : p.1 = k
    · rw [if_pos e, if_pos (h1.symm.trans e)]; exact ⟨h1, ry⟩
    · rw [if_neg e, if_neg (fun z => e (h1.trans z))]; exact ⟨h1, h2⟩
theorem KV.put {kvs : List (κ × V)} {vs : List (κ × Value)} (r : KV kvs vs) (k : κ) {y : V} {u : Value} (ry : RelV y u) : KV (putK kvs k y) (stored vs k u) := by
  unfold putK stored
  rw [r.any k]
  by_cases e : (vs.any fun kv => decide (kv.1 = k)) = true
  · rw [if_pos e, if_pos e]; exact r.repl k ry
  · rw [if_neg e, if_neg e]; exact Paired.snoc r ⟨rfl, ry⟩
theorem KV.length {kvs : List (κ × V)} {vs : List (κ × Value)} (r : KV kvs vs) : kvs.length = vs.length := Paired.length r
end
theorem kV_is {P : Program} {w : World} {k : Key} {u : Value} (r : RelV (kV k) u) : (mixKind P w).is k u = true := by
  cases k with
  | inl i => obtain ⟨t, e⟩ := (show ∃ t, u = Value.int i t from r); subst e; exact mixKind_int P w i t
  | inr x => obtain ⟨t, e⟩ := (show ∃ t, u = Value.str x t from r); subst e; exact mixKind_str P w x t
theorem items_are {P : Program} {w : World} : ∀ {ks : List Key} {us : List Value}, Vals (ks.map kV) us → ItemsAre (mixKind P w) ks us
  | [], _, r => by rw [List.map_nil] at r; cases r; exact .nil
  | k :: ks, _, r => by
    rw [List.map_cons] at r
    cases r with
    | cons h t => exact .cons (kV_is h) (items_are t)
abbrev KT (H : Hp) : List (List Key × V) → List (List Key × Addr × Value) → Prop := Paired fun p q => p.1 = q.1 ∧ H q.2.1 = some (.tup (p.1.map kV)) ∧ RelV p.2 q.2.2
theorem KT.val {H : Hp} {kvs : List (List Key × V)} {xs : List (List Key × Addr × Value)} (r : KT H kvs xs) (k : List Key) : RelO (valV kvs k) ((atKey xs k).map (·.2)) := by
  induction r with
  | nil => exact True.intro
  | @cons p q ps qs h t ih =>
    obtain ⟨h1, _, h2⟩ := h
    by_cases e : p.1 = k
    · have e' : q.1 = k := h1.symm.trans e
      have b : atKey (q :: qs) k = some q.2 := by simp [atKey, List.find?_cons, e']
      rw [valV_pos e, b]; exact h2
    · have e' : ¬ q.1 = k := fun z => e (h1.trans z)
      have b : atKey (q :: qs) k = atKey qs k := by simp [atKey, List.find?_cons, e']
      rw [valV_neg e, b]; exact ih
theorem KT.repl {H : Hp} {kvs : List (List Key × V)} {xs : List (List Key × Addr × Value)} (r : KT H kvs xs) (k : List Key) {y : V} {u : Value} (ry : RelV y u) :
    KT H (kvs.map fun kv => if kv.1 = k then (kv.1, y) else kv) (xs.map (putAt k u)) := by
  induction r with
  | nil => exact .nil
  | @cons p q ps qs h t ih =>
    rw [List.map_cons, List.map_cons]
    refine .cons ?_ ih
    obtain ⟨h1, h2, h3⟩ := h
    unfold putAt
    by_cases e : p.1 = k
    · rw [if_pos e, if_pos (h1.symm.trans e)]; exact ⟨h1, h2, ry⟩
    · rw [if_neg e, if_neg (fun z => e (h1.trans z))]; exact ⟨h1, h2, h3⟩
theorem KT.put {H : Hp} {kvs : List (List Key × V)} {xs : List (List Key × Addr × Value)} (r : KT H kvs xs) (k : List Key) {b : Addr} {y : V} {u : Value} (hb : H b = some (.tup (k.map kV))) (ry : RelV y u) :
    KT H (putK kvs k y) (storedH xs k b u) := by
  have e : (kvs.any fun kv => decide (kv.1 = k)) = (atKey xs k).isSome := by
    rw [valV_any, (r.val k).isSome_eq, Option.isSome_map]
  unfold putK storedH
  rw [e]
  by_cases q : (atKey xs k).isSome = true
  · rw [if_pos q, if_pos q]; exact r.repl k ry
  · rw [if_neg q, if_neg q]; exact Paired.snoc r ⟨rfl, hb, ry⟩
theorem KT.keeps {H H' : Hp} {kvs : List (List Key × V)} {xs : List (List Key × Addr × Value)} (r : KT H kvs xs) (ht : ∀ b ys, H b = some (.tup ys) → H' b = some (.tup ys)) : KT H' kvs xs :=
  Paired.mapP r fun _ _ z => ⟨z.1, ht _ _ z.2.1, z.2.2⟩
section
variable {P : Program} {w : World} {H : Hp} {h : Heap} {a : Addr}
theorem rd_of {u : HO} (ok : HOk P w H h) (e : Rd H a u) : ObjOk P w H h a u := e.ok ok
theorem dk_rd {kvs : List (Key × V)} (ok : HOk P w H h) (e : Rd H a (.dK kvs)) : kvs.length ≤ sizeLine ∧ (a == sysModules) = false ∧ ∃ vs, KV kvs vs ∧ h.DictOf (mixKind P w) a vs :=
  show ObjOk P w H h a (.dK kvs) from rd_of ok e
theorem dk_of {kvs : List (Key × V)} (ok : HOk P w H h) (e : H a = some (.dK kvs)) : kvs.length ≤ sizeLine ∧ (a == sysModules) = false ∧ ∃ vs, KV kvs vs ∧ h.DictOf (mixKind P w) a vs := dk_rd ok (.inl e)
theorem key_of {ks : List Key} (ok : HOk P w H h) (e : H a = some (.tup (ks.map kV))) : (tupleKind (mixKind P w)).is h ks a := by
  obtain ⟨_, its, r, o, h1, h2, n, h3⟩ := (show ObjOk P w H h a (.tup (ks.map kV)) from ok a _ e)
  exact ⟨o, its.toArray, n, h1, h2, h3, by simpa using items_are r⟩
theorem dt_rd {kvs : List (List Key × V)} (ok : HOk P w H h) (e : Rd H a (.dT kvs)) : kvs.length ≤ sizeLine ∧ (a == sysModules) = false ∧
    ∃ xs, KT H kvs xs ∧ h.DictOfH (tupleKind (mixKind P w)) a xs := by
  obtain ⟨z, y, xs, r, o, es, ep, h1, h2, h3, h4, h5⟩ := (show ObjOk P w H h a (.dT kvs) from rd_of ok e)
  refine ⟨z, y, xs, r, o, es, ep, h1, h2, h3, h4, fun x hx => ?_, h5⟩
  have all : ∀ {l : List (List Key × V)} {m : List (List Key × Addr × Value)}, KT H l m → ∀ x ∈ m, (tupleKind (mixKind P w)).is h x.1 x.2.1 := by
    intro l m q
    induction q with
    | nil => intro x hx; exact nomatch hx
    | @cons p q ps qs hq t ih =>
      intro x hx
      rcases List.mem_cons.mp hx with e | hx
      · subst e
        exact key_of ok (by rw [← hq.1]; exact hq.2.1)
      · exact ih x hx
  exact all r x hx
theorem dt_of {kvs : List (List Key × V)} (ok : HOk P w H h) (e : H a = some (.dT kvs)) : kvs.length ≤ sizeLine ∧ (a == sysModules) = false ∧
    ∃ xs, KT H kvs xs ∧ h.DictOfH (tupleKind (mixKind P w)) a xs := dt_rd ok (.inl e)
end
def DGet (H : Hp) (a : Addr) (y : V) (r : Option V) : Prop :=
  (∃ kvs k, Rd H a (.dK kvs) ∧ y = kV k ∧ r = valV kvs k) ∨ ∃ kvs k b, Rd H a (.dT kvs) ∧ y = .ref b ∧ H b = some (.tup (k.map kV)) ∧ r = valV kvs k
def DPut (H : Hp) (a : Addr) (y v : V) (H' : Hp) : Prop :=
  (∃ kvs k, H a = some (.dK kvs) ∧ y = kV k ∧ kvs.length < sizeLine ∧ H' = upd H a (.dK (putK kvs k v))) ∨
  ∃ kvs k b, H a = some (.dT kvs) ∧ y = .ref b ∧ H b = some (.tup (k.map kV)) ∧ kvs.length < sizeLine ∧ H' = upd H a (.dT (putK kvs k v))
theorem DGet.k {H : Hp} {a : Addr} {kvs : List (Key × V)} {k : Key} (e : H a = some (.dK kvs)) : DGet H a (kV k) (valV kvs k) := .inl ⟨kvs, k, .inl e, rfl, rfl⟩
theorem DGet.t {H : Hp} {a b : Addr} {kvs : List (List Key × V)} {k : List Key} (e : H a = some (.dT kvs)) (eb : H b = some (.tup (k.map kV))) : DGet H a (.ref b) (valV kvs k) := .inr ⟨kvs, k, b, .inl e, rfl, eb, rfl⟩
theorem DPut.k {H : Hp} {a : Addr} {kvs : List (Key × V)} {k : Key} {v : V} (e : H a = some (.dK kvs)) (hl : kvs.length < sizeLine) : DPut H a (kV k) v (upd H a (.dK (putK kvs k v))) := .inl ⟨kvs, k, e, rfl, hl, rfl⟩
theorem DPut.t {H : Hp} {a b : Addr} {kvs : List (List Key × V)} {k : List Key} {v : V} (e : H a = some (.dT kvs)) (eb : H b = some (.tup (k.map kV))) (hl : kvs.length < sizeLine) :
    DPut H a (.ref b) v (upd H a (.dT (putK kvs k v))) := .inr ⟨kvs, k, b, e, rfl, eb, hl, rfl⟩
section
variable {X : Cx} {pins : List (Addr × Obj)} {σ : St} {H : Hp} {s : Shared} {a : Addr} {y v : V} {u r : Value} {o : Option V} {A : Around} {E : Value → Shared → Prop}
theorem Inv.big (I : Inv X pins σ H s) : sysModules < s.heap.objs.size := by
  have h : mainGlobals < s.heap.objs.size := (I.mod.glob.keeps I.bk).lt
  exact Nat.lt_trans (by decide) h
theorem d_getItem {Q : Value → Shared → Prop} (hu : A.units + 1 < cLine) (I : Inv X pins σ H s) (g : DGet H a y (some v)) (ry : RelV y u) (h : ∀ w' s', Inv X pins σ H s' → RelV v w' → Q w' s') :
    wpAny (model X.prog X.w) A (getItem (.ref a) u) Q E s := by
  rcases g with ⟨kvs, k, e, ey, l⟩ | ⟨kvs, k, b, e, ey, eb, l⟩
  · subst ey
    obtain ⟨z, hd, vs, rel, dd⟩ := dk_rd I.hok e
    obtain ⟨w', hw, rw'⟩ := RelO.some_of (v := v) (o := valueAt vs k) (by rw [l]; exact rel.val k)
    exact wpAny_getItem_of (kV_is ry) dd.mapOf hw (h w' _ (I.tok _) rw')
  · subst ey
    cases (show u = Value.ref b from ry)
    obtain ⟨z, hd, xs, rel, dd⟩ := dt_rd I.hok e
    obtain ⟨w', hw, rw'⟩ := RelO.some_of (v := v) (o := (atKey xs k).map (·.2)) (by rw [l]; exact rel.val k)
    obtain ⟨p, hp, hp2⟩ := Option.map_eq_some_iff.mp hw
    refine wpAny_getItem_heap (tupleKind_room_in1 hu) (key_of I.hok eb) dd hp ?_
    rw [hp2]
    exact h w' _ (I.tok _) rw'
theorem d_notIn {Q : Value → Shared → Prop} (hu : A.units + 1 < cLine) (I : Inv X pins σ H s) (g : DGet H a y o) (ry : RelV y u) (h : ∀ s', Inv X pins σ H s' → Q (.bool (!o.isSome)) s') :
    wpAny (model X.prog X.w) A (compareOp .NotIn u (.ref a)) Q E s := by
  rcases g with ⟨kvs, k, e, ey, l⟩ | ⟨kvs, k, b, e, ey, eb, l⟩
  · subst ey
    obtain ⟨z, hd, vs, rel, dd⟩ := dk_rd I.hok e
    refine wpAny_notIn_of (kV_is ry) hd dd.mapOf ?_
    rw [← (rel.val k).isSome_eq, ← l]
    exact h _ (I.tok _)
  · subst ey
    cases (show u = Value.ref b from ry)
    obtain ⟨z, hd, xs, rel, dd⟩ := dt_rd I.hok e
    refine wpAny_notIn_heap (tupleKind_room_in1 hu) (key_of I.hok eb) hd dd ?_
    have q := (rel.val k).isSome_eq
    rw [Option.isSome_map] at q
    rw [← q, ← l]
    exact h _ (I.tok _)
theorem d_write {h' : Heap} {t' : Nat} {ob : HO} (I : Inv X pins σ H s) (mu : Mut (H a)) (hs : Heap.SameBut a s.heap h') (he : ∃ q, h'.get? a = some q) (new : ObjOk X.prog X.w (upd H a ob) h' a ob) :
    Inv X pins σ (upd H a ob) { s with heap := h', toks := t' } :=
  I.write (x := a) (e := a) mu (.inl rfl) (fun b q hb z => (hs.2 b hb).trans z) he new
theorem dk_new {P : Program} {w : World} {H' : Hp} {h' : Heap} {kvs : List (Key × V)} {vs : List (Key × Value)} (z : kvs.length ≤ sizeLine) (hd : (a == sysModules) = false) (rel : KV kvs vs) (dd : h'.DictOf (mixKind P w) a vs) :
    ObjOk P w H' h' a (.dK kvs) := ⟨z, hd, vs, rel, dd⟩
theorem d_setItem {H' : Hp} {Q : Unit → Shared → Prop} (hu : A.units + 1 < cLine) (I : Inv X pins σ H s) (g : DPut H a y v H') (ry : RelV y u) (rv : RelV v r) (h : ∀ s', Inv X pins σ H' s' → Q () s') :
    wpAny (model X.prog X.w) A (setItem (.ref a) u r) Q E s := by
  rcases g with ⟨kvs, k, e, ey, l, eH⟩ | ⟨kvs, k, b, e, ey, eb, l, eH⟩
  · subst ey eH
    obtain ⟨z, hd, vs, rel, dd⟩ := dk_of I.hok e
    have hz : vs.length ≤ sizeLine := by rw [← rel.length]; exact z
    have hl : (putK kvs k v).length ≤ sizeLine := by have := length_putK kvs k v; omega
    refine wpAny_setItem_pairs (hsz := hz) (kV_is ry) dd fun h' dd' hs => h _ ?_
    have he : ∃ q, h'.get? a = some q := let ⟨q, _, _, hq, _⟩ := dd'; ⟨q, hq⟩
    exact d_write I (by rw [e]; exact True.intro) hs he (dk_new hl hd (rel.put k rv) dd')
  · subst ey eH
    cases (show u = Value.ref b from ry)
    obtain ⟨z, hd, xs, rel, dd⟩ := dt_of I.hok e
    have hz : xs.length ≤ sizeLine := by rw [← Paired.length rel]; exact z
    have hl : (putK kvs k v).length ≤ sizeLine := by have := length_putK kvs k v; omega
    refine wpAny_setItem_heap (hsz := hz) (tupleKind_room_in1 hu) (key_of I.hok eb) dd fun h' dd' hs => h _ ?_
    obtain ⟨q, es, ep, hq, h2, h3, h4, _, h5⟩ := dd'
    refine d_write I (by rw [e]; exact True.intro) hs ⟨q, hq⟩ ⟨hl, hd, _, (rel.put k eb rv).keeps fun c ys ec => ?_, q, es, ep, hq, h2, h3, h4, h5⟩
    rw [upd_ne (ne_of ec e (fun z => nomatch z))]
    exact ec
end
def NoSl (i : Expr) : Prop := ∀ ov iv, subscripted i false ov iv = operate [ov, iv] (getItem ov iv)
theorem subD_of {prog : Program} {w : World} {A : Around} {E : Value → Shared → Prop} {s : Shared} {env : Env} {value slice : Expr} {pos : Pos} {T id : String} {Q : Value → Shared → Prop}
    (hl : typeLookup (.type T) "__getitem__" = pure (some (.builtin id))) (hs : NoSl slice)
    (h : wpAny (model prog w) A (eval value env) (fun o s₁ => wpAny (model prog w) A (eval slice env) (fun i s₂ => s₂.TypeIs o T ∧ wpAny (model prog w) A (getItem o i) Q E s₂) E s₁) E s) :
    wpAny (model prog w) A (eval (.Subscript value slice pos) env) Q E s := by
  refine Subscript_ (wpAny_mono h (fun o s₁ h₁ => wpAny_mono h₁ (fun i s₂ h₂ => ?_) fun _ _ x => x) fun _ _ x => x)
  obtain ⟨hT, h₂⟩ := h₂
  unfold subscriptTail
  refine wpAny_bind ?_
  rw [getitemInPython_of_ne hT.not_modules]
  refine wpAny_bind (wpAny_specialOf hT hl ?_)
  have fin : wpAny (model prog w) A (subscripted slice false o i) (fun r s₃ => wpAny (model prog w) A (letTemporaryGo value o r >>= fun _ => pure r) Q E s₃) E s₂ := by
    rw [hs o i]
    exact wpAny_operating (wpAny_mono h₂ (fun r s₃ h₃ => wpAny_bind (wpAny_letTemporaryGo (wpAny_pure h₃))) fun _ _ x => x)
  first
    | exact wpAny_pure (wpAny_bind fin)
    | exact wpAny_bind (wpAny_pure (wpAny_bind fin))
    | exact wpAny_bind fin
theorem dict_typeIs {X : Cx} {pins : List (Addr × Obj)} {σ : St} {H : Hp} {s : Shared} {a : Addr} {y : V} {o : Option V} (I : Inv X pins σ H s) (g : DGet H a y o) : s.TypeIs (.ref a) "dict" := by
  rcases g with ⟨kvs, k, e, _, _⟩ | ⟨kvs, k, b, e, _, _, _⟩
  · obtain ⟨_, _, vs, _, dd⟩ := dk_rd I.hok e
    exact dd.typeIs
  · obtain ⟨_, _, xs, _, dd⟩ := dt_rd I.hok e
    exact dd.typeIs
def tDGet (td ty : TE) : TE := fun σ H Q => td σ H fun x H1 => ty σ H1 fun y H2 => ∃ a v, x = .ref a ∧ DGet H2 a y (some v) ∧ Q v H2
def tDNotIn (ty td : TE) : TE := fun σ H Q => ty σ H fun y H1 => td σ H1 fun x H2 => ∃ a o, x = .ref a ∧ DGet H2 a y o ∧ Q (.bl (!o.isSome)) H2
def sDPut (td ty tv : TE) : TS := fun D σ H => tv σ H fun v H1 => td σ H1 fun x H2 => ty σ H2 fun y H3 => ∃ a H4, x = .ref a ∧ DPut H3 a y v H4 ∧ D.nx σ H4
section
variable {X : Cx} {o i e value : Expr} {pos pos' tpos : Pos} {td ty tv : TE}
theorem pe_dget (hu : X.A.units + 1 < cLine) (ho : PE X o td) (hi : PE X i ty) (hs : NoSl i) : PE X (.Subscript o i pos) (tDGet td ty) := by
  intro pins s σ H Q I h
  refine subD_of PySem.F.slot_dict_getitem.lookup hs (thn (ho pins s σ H _ I h) fun u s1 ⟨x, H1, I1, rx, q1⟩ => thn (hi pins s1 σ H1 _ I1 q1) fun iv s2 ⟨y, H2, I2, ry, a, v, ex, g, q2⟩ => ?_)
  subst ex
  obtain rfl : u = Value.ref a := rx
  exact ⟨dict_typeIs I2 g, d_getItem hu I2 g ry fun w' s3 I3 rw' => ⟨v, H2, I3, rw', q2⟩⟩
theorem pc_dnotin (hu : X.A.units + 1 < cLine) (hi : PE X i ty) (ho : PE X o td) : PC X .NotIn i o (tDNotIn ty td) := by
  intro pins s σ H Q I h
  refine thn (hi pins s σ H _ I h) fun iv s1 ⟨y, H1, I1, ry, q1⟩ => thn (ho pins s1 σ H1 _ I1 q1) fun u s2 ⟨x, H2, I2, rx, a, ov, ex, g, q2⟩ => ?_
  subst ex
  obtain rfl : u = Value.ref a := rx
  exact d_notIn hu I2 g ry fun s3 I3 => ⟨.bl (!ov.isSome), H2, I3, rfl, q2⟩
theorem ps_dput (hu : X.A.units + 1 < cLine) (ho : PE X o td) (hi : PE X i ty) (hv : PE X value tv) (hs : swapsWith value (some (.Subscript o i pos')) pos.line X.env = pure false) :
    PS X (.Assign [.Subscript o i pos'] value pos) (sDPut td ty tv) := by
  intro pins s σ H D I h
  refine wpAny_Assign_Subscript (thn (hv pins s σ H _ I h) fun r s1 ⟨v, H1, I1, rv, q1⟩ => thn (ho pins s1 σ H1 _ I1 q1) fun u s2 ⟨x, H2, I2, rx, q2⟩ => thn (hi pins s2 σ H2 _ I2 q2) fun iv s3 ⟨y, H3, I3, ry, a, H4, ex, g, q3⟩ => ?_) hs
  subst ex
  obtain rfl : u = Value.ref a := rx
  exact d_setItem hu I3 g ry rv fun s4 I4 => ⟨σ, H4, I4, q3⟩
end
theorem dk_empty {P : Program} {w : World} {H : Hp} (h : Heap) (hb : sysModules < h.objs.size) : ObjOk P w H (h.push { cls := .type "dict", data := .dict #[] }) h.objs.size (.dK []) :=
  ⟨Nat.zero_le _, beq_eq_false_iff_ne.mpr (Ne.symm (Nat.ne_of_lt hb)), [], .nil, Heap.DictOf.new h⟩
theorem dt_empty {P : Program} {w : World} {H : Hp} (h : Heap) (hb : sysModules < h.objs.size) : ObjOk P w H (h.push { cls := .type "dict", data := .dict #[] }) h.objs.size (.dT []) :=
  ⟨Nat.zero_le _, beq_eq_false_iff_ne.mpr (Ne.symm (Nat.ne_of_lt hb)), [], .nil, _, #[], 0, Heap.get?_push_size _ rfl, ⟨rfl, rfl, rfl⟩, rfl, rfl, List.nodup_nil⟩
def tDNewK : TE := fun _ H Q => ∀ p, H p = none → Q (.ref p) (upd H p (.dK []))
def tDNewT : TE := fun _ H Q => ∀ p, H p = none → Q (.ref p) (upd H p (.dT []))
section
variable {X : Cx} {pos : Pos}
theorem pe_dnewK : PE X (.Dict [] [] pos) tDNewK := fun pins s σ H Q I h =>
  wpAny_Dict_empty ⟨.ref s.heap.objs.size, _, I.laid (a := s.heap.objs.size) (o := .dK []) (t' := s.toks) (fun _ _ q => Heap.get?_push_of_some _ q) (Nat.le_refl _) (dk_empty s.heap I.big), rfl, h _ (I.hok.fresh (Nat.le_refl _))⟩
theorem pe_dnewT : PE X (.Dict [] [] pos) tDNewT := fun pins s σ H Q I h =>
  wpAny_Dict_empty ⟨.ref s.heap.objs.size, _, I.laid (a := s.heap.objs.size) (o := .dT []) (t' := s.toks) (fun _ _ q => Heap.get?_push_of_some _ q) (Nat.le_refl _) (dt_empty s.heap I.big), rfl, h _ (I.hok.fresh (Nat.le_refl _))⟩
end
structure M2 (X : Cx) (o : Expr) (m : Str) (apos : Pos) (e f : Expr) (cpos : Pos) : Prop where
  base : attributeBase o m X.env (eval o X.env) = eval o X.env
  few : ((backTo cpos (starEach [e, f] X.env)).all (fun x => !x.1) && (backToKw cpos (keywordEach [] X.env)).all (fun x => x.1.isSome)
    && decide (([e, f] : List Expr).length + ([] : List Keyword).length + (if ([] : List Keyword).isEmpty then 0 else 1) < 30)) = true
  line : (apos.endLine == cpos.line) = true
  trees : backTo cpos (starEach [e, f] X.env) = [(false, eval e X.env), (false, eval f X.env)]
def IsD (H : Hp) (a : Addr) : Prop := (∃ kvs, Rd H a (.dK kvs)) ∨ ∃ kvs, Rd H a (.dT kvs)
theorem isD_at {X : Cx} {pins : List (Addr × Obj)} {σ : St} {H : Hp} {s : Shared} {a : Addr} (I : Inv X pins σ H s) (d : IsD H a) :
    s.TypeIs (.ref a) "dict" ∧ (∀ b, Value.ref a = .ref b → ∃ ob, s.heap.get? b = some ob ∧ ob.dict = none) ∧ (a == sysModules) = false := by
  rcases d with ⟨kvs, e⟩ | ⟨kvs, e⟩
  · obtain ⟨_, hd, vs, _, dd⟩ := dk_rd I.hok e
    refine ⟨dd.typeIs, fun b q => ?_, hd⟩
    cases q
    obtain ⟨ob, _, _, h1, h2, _⟩ := dd
    exact ⟨ob, h1, h2.2.1⟩
  · obtain ⟨_, hd, xs, _, dd⟩ := dt_rd I.hok e
    refine ⟨dd.typeIs, fun b q => ?_, hd⟩
    cases q
    obtain ⟨ob, _, _, h1, h2, _⟩ := dd
    exact ⟨ob, h1, h2.2.1⟩
section
variable {X : Cx} {pins : List (Addr × Obj)} {σ : St} {H : Hp} {s : Shared} {a : Addr} {y d : V} {u r : Value} {o : Option V} {A : Around} {E : Value → Shared → Prop}
theorem d_get2 {Q : Value → Shared → Prop} (hu : A.units + 1 < cLine) (I : Inv X pins σ H s) (g : DGet H a y o) (ry : RelV y u) (rd : RelV d r) (h : ∀ w' s', Inv X pins σ H s' → RelV (o.getD d) w' → Q w' s') :
    wpAny (model X.prog X.w) A (call (.builtin "dict.get") [.ref a, u, r]) Q E s := by
  rcases g with ⟨kvs, k, e, ey, l⟩ | ⟨kvs, k, b, e, ey, eb, l⟩
  · subst ey
    obtain ⟨z, hd, vs, rel, dd⟩ := dk_rd I.hok e
    refine call_meetsIn PySem.F.slot_dict_get dd.typeIs PySem.F.entry_dict_get (PySem.F.args_dict_get_3 _ _ _) (meets_dict_get_default (mixKind X.prog X.w) a (kV_is ry) hd r) ⟨_, dd.mapOf, h _ _ (I.tok _) ?_⟩
    rw [l]
    exact (rel.val k).getD rd
  · subst ey
    cases (show u = Value.ref b from ry)
    obtain ⟨z, hd, xs, rel, dd⟩ := dt_rd I.hok e
    refine call_meetsIn PySem.F.slot_dict_get dd.typeIs PySem.F.entry_dict_get (PySem.F.args_dict_get_3 _ _ _) (meetsH_dict_get_default (tupleKind (mixKind X.prog X.w)) a b hd r) ⟨tupleKind_room_in1 hu, k, xs, key_of I.hok eb, dd, h _ _ (I.tok _) ?_⟩
    rw [l]
    exact (rel.val k).getD rd
end
def tDGet2 (td ty tx : TE) : TE := fun σ H Q => td σ H fun x H1 => ∃ a, x = .ref a ∧ IsD H1 a ∧ ty σ H1 fun y H2 => tx σ H2 fun z H3 => ∃ o, DGet H3 a y o ∧ Q (o.getD z) H3
section
variable {X : Cx} {o e f : Expr} {apos cpos : Pos} {td ty tx : TE}
theorem pe_dget2 (hu : X.A.units + 1 < cLine) (ho : PE X o td) (he : PE X e ty) (hf : PE X f tx) (m : M2 X o "get" apos e f cpos) : PE X (.Call (.Attribute o "get" apos) [e, f] [] cpos) (tDGet2 td ty tx) := by
  intro pins s σ H Q I h
  refine wpAny_Call_method m.base m.few m.line PySem.F.plainAttrs_dict PySem.F.slot_dict_get PySem.F.type_dict_get (thn (ho pins s σ H _ I h) fun u s1 ⟨x, H1, I1, rx, a, ex, d, q1⟩ => ?_)
  subst ex
  obtain rfl : u = Value.ref a := rx
  obtain ⟨t1, t2, _⟩ := isD_at I1 d
  refine ⟨t1, t2, ?_⟩
  rw [m.trees]
  refine Calls.callWith_builtin rfl (Calls.evalArgs_plain (Calls.spliced_cons (thn (he pins s1 σ H1 _ I1 q1) fun iv s2 ⟨y, H2, I2, ry, q2⟩ =>
    Calls.spliced_cons (thn (hf pins s2 σ H2 _ I2 q2) fun fv s3 ⟨z, H3, I3, rz, ov, g, q3⟩ => Calls.spliced_nil ?_))))
  exact d_get2 hu I3 g ry rz fun w' s4 I4 rw' => ⟨_, H3, I4, rw', q3⟩
end
end L2
namespace L2
open PySem PySem.Spec PyProof.Rows
end L2
namespace L2
open PySem PySem.Spec PyProof.Rows
section
variable {X : Cx} {pins : List (Addr × Obj)} {σ : St} {H : Hp} {s : Shared} {h' : Heap}
theorem Inv.turnedL {t' : Nat} {ch : List Addr} (I : Inv X pins σ H s) (k : ∀ b o, b ∉ ch → s.heap.get? b = some o → h'.get? b = some o) (hf : ∀ b ∈ ch, FpOk X pins H b) : Inv X pins σ H { s with heap := h', toks := t' } := by
  have nit : ∀ b u, H b = some u → b ∉ ch := fun b u e z => by
    have q := (hf b z).1
    rw [q] at e; cases e
  refine I.step (g' := s.gens) (d' := s.drawn) (ch := ch) (fun b hb => ⟨(hf b hb).2.2.2.1, (hf b hb).2.1, (hf b hb).2.2.2.2.1, (hf b hb).2.2.2.2.2⟩) (fun b o _ _ hc e _ => k b o hc e) (fun b o _ _ hc e _ => ⟨o.slots, k b o hc e⟩)
    (fun _ _ _ _ n => n) (fun b o hc e => ⟨o, k b o hc e⟩) (fun _ _ e => e) (fun _ _ _ e => e) (fun b ps e => ⟨#[], by rw [e]; simp⟩) (fun m hm => ?_) (fun b u e => ?_) I.bare
  · obtain ⟨o, es, ep, ho, r⟩ := hm
    exact ⟨o, es, ep, k _ o (fun z => (hf _ z).2.1 rfl) ho, r⟩
  · refine (I.hok b u e).stay (fun c v hc q => k c v ?_ q) (fun _ q => q) fun _ _ q => q
    rcases hc with z | z
    · rw [z]; exact nit b u e
    · exact nit c _ z
theorem Inv.turnedNew {t' : Nat} {ch : List Addr} {T : Addr} {ob : HO} (I : Inv X pins σ H s) (k : ∀ b o, b ∉ ch → s.heap.get? b = some o → h'.get? b = some o) (hf : ∀ b ∈ ch, FpOk X pins H b) (hT : s.heap.objs.size ≤ T)
    (new : ObjOk X.prog X.w (upd H T ob) h' T ob) : Inv X pins σ (upd H T ob) { s with heap := h', toks := t' } := by
  have hn : H T = none := I.hok.fresh hT
  have nit : ∀ b u, H b = some u → b ∉ ch := fun b u e z => by
    have q := (hf b z).1
    rw [q] at e; cases e
  refine I.step (g' := s.gens) (d' := s.drawn) (ch := ch) (fun b hb => ⟨(hf b hb).2.2.2.1, (hf b hb).2.1, (hf b hb).2.2.2.2.1, (hf b hb).2.2.2.2.2⟩) (fun b o _ _ hc e _ => k b o hc e) (fun b o _ _ hc e _ => ⟨o.slots, k b o hc e⟩)
    (fun b o _ e n => ?_) (fun b o hc e => ⟨o, k b o hc e⟩) (fun b xs e => ?_) (fun b o u e => ?_) (fun b ps e => ⟨#[], ?_⟩) (fun m hm => ?_) (fun b u e => ?_) I.bare
  · rw [upd_ne (Nat.ne_of_lt (Nat.lt_of_lt_of_le (Heap.lt_size e) hT))]; exact n
  · rw [upd_ne (ne_of_none e hn)]; exact e
  · rw [upd_ne (ne_of_none e hn)]; exact e
  · rw [upd_ne (ne_of_none e hn), e]; simp
  · obtain ⟨o, es, ep, ho, r⟩ := hm
    exact ⟨o, es, ep, k _ o (fun z => (hf _ z).2.1 rfl) ho, r⟩
  · by_cases hb : b = T
    · subst hb
      rw [upd_same] at e
      cases e
      exact new
    · rw [upd_ne hb] at e
      refine (I.hok b u e).stay (fun c v hc q => k c v ?_ q) (fun c q => by rw [upd_ne (ne_of_none q hn)]; exact q) fun c xs q => by rw [upd_ne (ne_of_none q hn)]; exact q
      rcases hc with z | z
      · rw [z]; exact nit b u e
      · exact nit c _ z
theorem Inv.lock {d : Addr} {u : HO} (I : Inv X pins σ H s) (h : H d = some u) (mu : Mut (some u)) : ∃ od, Inv X pins σ (upd H d (.frz od u)) s := by
  have x := I.hok d u h
  have ex : ∃ od, s.heap.get? d = some od := by
    cases u with
    | lst xs => obtain ⟨_, _, _, _, e⟩ := x; exact ⟨_, e⟩
    | dK kvs => obtain ⟨_, _, _, _, o, _, _, e, _⟩ := x; exact ⟨o, e⟩
    | dT kvs => obtain ⟨_, _, _, _, o, _, _, e, _⟩ := x; exact ⟨o, e⟩
    | set S n => obtain ⟨o, _, _, _, e, _⟩ := x; exact ⟨o, e⟩
    | ins C dx fs => obtain ⟨_, _, _, e, _⟩ := x; exact ⟨_, e⟩
    | ext φ => obtain ⟨_, ⟨_, e⟩, _⟩ := x; exact ⟨_, e⟩
    | _ => exact False.elim mu
  obtain ⟨od, e⟩ := ex
  have new : ObjOk X.prog X.w (upd H d (.frz od u)) s.heap d (.frz od u) := by
    refine ⟨e, x.stay (fun b v _ q => q) (fun b q => ?_) fun b xs q => ?_⟩
    · rw [upd_ne (fun z => by rw [z, h] at q; cases q; exact mu)]; exact q
    · rw [upd_ne (fun z => by rw [z, h] at q; cases q; exact mu)]; exact q
  exact ⟨od, I.write (x := d) (e := d) (t' := s.toks) (h' := s.heap) (by rw [h]; exact mu) (.inl rfl) (fun b v _ q => q) ⟨od, e⟩ new⟩
theorem Inv.nofrz {d : Addr} {u : HO} (I : Inv X pins σ H s) (h : H d = some u) (mu : Mut (some u)) : ∀ o' u', X.H₀ d ≠ some (.frz o' u') := fun o' u' e => by
  have q := I.base.frzs d o' u' e
  rw [h] at q
  cases q
  exact mu
theorem Inv.unlock {d : Addr} {od : Obj} {u : HO} (I : Inv X pins σ H s) (h : H d = some (.frz od u)) (hn : ∀ o' u', X.H₀ d ≠ some (.frz o' u')) : Inv X pins σ (upd H d u) s := by
  have neH : ∀ b o, H b = some o → (∀ o' u', o ≠ .frz o' u') → b ≠ d := fun b o e hne z => by
    rw [z, h] at e
    cases e
    exact hne _ _ rfl
  have neN : ∀ b, H b = none → b ≠ d := fun b e z => by rw [z, h] at e; cases e
  refine ⟨I.ok, I.os, I.bare, ⟨I.base.keep, I.base.slot, fun b o e n hx => ?_, I.base.there, fun b xs e => ?_, fun b o x e => ?_, fun b ps e => ?_⟩, I.loc, I.cell, ?_, fun x c e => ?_, fun p hp => ?_, fun b o e => ?_, I.len⟩
  · rw [upd_ne (neN b (I.base.free b o e n hx))]; exact I.base.free b o e n hx
  · have q := I.base.tups b xs e
    rw [upd_ne (neH b _ q (fun _ _ z => nomatch z))]; exact q
  · have q := I.base.frzs b o x e
    rw [upd_ne (fun z => by rw [z] at e; exact hn _ _ e)]; exact q
  · obtain ⟨m, q⟩ := I.base.tbls b ps e
    exact ⟨m, by rw [upd_ne (neH b _ q (fun _ _ z => nomatch z))]; exact q⟩
  · rw [upd_ne (neN _ I.free)]; exact I.free
  · rw [upd_ne (neN c (I.freeC x c e))]; exact I.freeC x c e
  · obtain ⟨e, n, r⟩ := I.pin p hp
    exact ⟨e, by rw [upd_ne (neN _ n)]; exact n, r⟩
  · by_cases hb : b = d
    · rw [hb, upd_same] at e
      cases e
      rw [hb]
      obtain ⟨_, x⟩ := I.hok d _ h
      exact x.stay (fun c v _ q => q) (fun c q => by rw [upd_ne (neH c _ q (fun _ _ z => nomatch z))]; exact q) fun c xs q => by rw [upd_ne (neH c _ q (fun _ _ z => nomatch z))]; exact q
    · rw [upd_ne hb] at e
      exact (I.hok b o e).stay (fun c v _ q => q) (fun c q => by rw [upd_ne (neH c _ q (fun _ _ z => nomatch z))]; exact q) fun c xs q => by rw [upd_ne (neH c _ q (fun _ _ z => nomatch z))]; exact q
end
def tLock (t : TS) : TS := fun D σ H => ∃ d u, H d = some u ∧ Mut (some u) ∧ ∀ od, t ⟨fun σ' H' => H' d = some (.frz od u) ∧ D.nx σ' (upd H' d u), fun v H' => H' d = some (.frz od u) ∧ D.rt v (upd H' d u), fun σ' H' => H' d = some (.frz od u) ∧ D.bk σ' (upd H' d u), fun σ' H' => H' d = some (.frz od u) ∧ D.ct σ' (upd H' d u)⟩ σ (upd H d (.frz od u))
section
variable {X : Cx}
theorem ps_lock {st : Stmt} {t : TS} (h : PS X st t) : PS X st (tLock t) := by
  intro pins s σ H D I hw
  obtain ⟨d, u, hd, mu, hw⟩ := hw
  obtain ⟨od, I1⟩ := I.lock hd mu
  refine thn (h pins s σ _ _ I1 (hw od)) fun f s1 q => ?_
  cases f with
  | next => obtain ⟨σ', H', I2, e, q⟩ := q; exact ⟨σ', _, I2.unlock e (I.nofrz hd mu), q⟩
  | brk => obtain ⟨σ', H', I2, e, q⟩ := q; exact ⟨σ', _, I2.unlock e (I.nofrz hd mu), q⟩
  | cont => obtain ⟨σ', H', I2, e, q⟩ := q; exact ⟨σ', _, I2.unlock e (I.nofrz hd mu), q⟩
  | ret v => obtain ⟨x, σ', H', I2, r, e, q⟩ := q; exact ⟨x, σ', _, I2.unlock e (I.nofrz hd mu), r, q⟩
theorem pi_one {tg : Expr} {pins : List (Addr × Obj)} {σ : St} {H : Hp} {s : Shared} {R : It → Hp → Prop} {J : It} {tn : Nat → Heap → Prop} {tk : Nat} (I : Inv X pins σ H s) (o : Obj)
    (T : Turn X.prog X.w X.K tg J [s.heap.objs.size] s.heap.objs.size tn) (st : tn 0 (s.heap.push o)) (q : R J H) : PIE X pins σ tg R (.ref s.heap.objs.size) { s with heap := s.heap.push o, toks := tk } := by
  refine ⟨s.heap.objs.size, [s.heap.objs.size], tn, J, H, rfl, I.kept fun b ob e => Heap.get?_push_of_some _ e, T, st, fun b hb => ?_, q⟩
  have e : b = s.heap.objs.size := by simpa using hb
  subst e
  exact I.fpOk (Nat.le_refl _) (I.hok.fresh (Nat.le_refl _))
end
def Itc (lo c : Int) (n : Nat) : It := ⟨fun i _ => i < n, fun i H x H' => H' = H ∧ x = .int (lo + (i : Nat) * c), fun i _ => n ≤ i⟩
theorem turn_rangeC {P : Program} {w : World} {K : PySem.W.Frag} {tg : Expr} (it : Addr) (lo c : Int) (n : Nat) : Turn P w K tg (Itc lo c n) [it] it (fun i h => IsRangeIter h it (lo + (i : Nat) * c) ((n : Int) - (i : Nat)) c) where
  mem := by simp
  obj := fun i h st b hb => by
    have e : b = it := by simpa using hb
    subst e
    exact ⟨_, st, fun v z => nomatch z⟩
  keep := fun i h h' st k => k it (by simp) _ st
  item := by
    intro X hP hw hK hc i pins s σ H E I hf st hg
    subst hP hw hK
    obtain ⟨f0, f1, f2, f3, f4, f5⟩ := hf it (by simp)
    have W := Walks.range (prog := X.prog) (w := X.w) (I.ok.hd hc) it lo c n
    refine W.item i s _ _ hg st fun v h' tk hv st' kk => ?_
    obtain ⟨t, rfl⟩ := hv
    have I1 : Inv X pins σ H { s with heap := h', toks := tk } := I.turned (fun b o hb e => kk b o (by simpa using hb) e) f0 f1 f3 f4 f5
    exact ⟨_, rfl, go_of (s := { s with heap := h', toks := tk }) (n := "range_iterator") st' rfl rfl (by decide) ⟨.int (lo + (i : Nat) * c), H, I1, ⟨t, rfl⟩, ⟨rfl, rfl⟩, st', fun b hb => (hf b hb).1⟩⟩
  done := by
    intro X hP hw hK hc i pins s σ H E I hf st hg
    subst hP hw hK
    obtain ⟨f0, f1, f2, f3, f4, f5⟩ := hf it (by simp)
    exact wpAny_pyNext_range_end (I.ok.hd hc) st (by have : n ≤ i := hg; omega) fun h' eb => ⟨rfl, I.turned (t' := s.toks) (fun b o hb e => eb b o hb e) f0 f1 f3 f4 f5⟩
  self := fun A i s Q E st h => wpAny_pyIter_rangeiter st h
def RgC (i j c : Int) (n : Nat) : Prop := c ≠ 0 ∧ c.natAbs < 1073741824 ∧ Builtin.Range.small i j c = true ∧ Builtin.Range.rangeSize i j c = n
theorem RgC.neg {i j : Int} (ha : -(2 ^ 62) ≤ i) (ha' : i < 2 ^ 62) (hb : -(2 ^ 62) ≤ j) (hb' : j < 2 ^ 62) : RgC i j (-1) (i - j).toNat :=
  ⟨by decide, by decide, PySem.W.small_down ha ha' hb hb', PySem.W.rangeSize_downNat i j⟩
def iRng3 (ta : TA) : TI := fun σ H R => ta σ H fun vs H1 => ∃ (i j c : Int) (n : Nat), vs = [.int i, .int j, .int c] ∧ RgC i j c n ∧ R (Itc i c n) H1
section
variable {X : Cx} {tg : Expr}
theorem pi_range3 {a b c : Expr} {ta : TA} {p pos : Pos} (hg : Gl X "range") (hm : X.mg "range" = none) (ha : PA X [a, b, c] ta)
    (hs : starEach [a, b, c] X.env = (false, eval a X.env) :: starEach [b, c] X.env := by rfl) (hpl : (backTo pos (starEach [b, c] X.env)).any (·.1) = false := by rfl) :
    PI X tg (.Call (.Name "range" p) [a, b, c] [] pos) (iRng3 ta) := by
  intro pins s σ H R I h
  refine Call_ (ld_blt I hg hm boot_range (PyProof.Rows.callWith_type1 (thn (ha pos pins s σ H _ I h) fun us s1 ⟨vs, H1, I1, r1, q1⟩ => ?_) hs hpl))
  obtain ⟨i, j, k, n, e, ⟨c0, c1, c2, c3⟩, q⟩ := q1
  subst e
  cases r1 with
  | cons r rr =>
    cases rr with
    | cons r' rr =>
      cases rr with
      | cons r'' rr =>
        cases rr
        obtain ⟨t, rfl⟩ := r
        obtain ⟨t', rfl⟩ := r'
        obtain ⟨t'', rfl⟩ := r''
        refine call_range_3 c0 ?_ (.inl (PyProof.noPylong_small c1))
        refine wpAny_pyIter_range (IsRange.new ..) c2 ?_
        have I2 : Inv X pins σ H1 { s1 with heap := s1.heap.push { cls := .type "range", data := .fields #[.int i t, .int j t', .int k t''] } } := I1.kept (t' := s1.toks) fun b o e => Heap.get?_push_of_some _ e
        refine pi_one (tk := s1.toks) I2 _ (turn_rangeC _ i k n) ?_ q
        have e1 : i + ((0 : Nat) : Int) * k = i := by simp
        have e2 : (n : Int) - ((0 : Nat) : Int) = Builtin.Range.rangeSize i j k := by rw [c3]; simp
        show IsRangeIter _ _ (i + ((0 : Nat) : Int) * k) ((n : Int) - ((0 : Nat) : Int)) k
        rw [e1, e2]
        exact Heap.get?_push_size _ rfl
end
theorem for_rangeC {lo c : Int} {n : Nat} {g : TG} {tb : TS} {D : Ends} {σ : St} {H : Hp} (Pv : Nat → St → Hp → Prop) (h0 : Pv 0 σ H)
    (hs : ∀ i σ H, i < n → Pv i σ H → g (.int (lo + (i : Nat) * c)) σ H fun σ2 H2 => tb { D with nx := Pv (i + 1), ct := Pv (i + 1), bk := D.nx } σ2 H2) (hd : ∀ σ H, Pv n σ H → D.nx σ H) :
    ∃ W : Nat → Nat → St → Hp → Prop, (∃ m, W 0 m σ H) ∧ ∀ i m σ H, W i m σ H →
      ((Itc lo c n).stop i H ∧ D.nx σ H) ∨ ((Itc lo c n).go i H ∧ ∃ N : St → Hp → Prop, (∀ σ' H', N σ' H' → ∃ m', m' < m ∧ W (i + 1) m' σ' H') ∧ ∀ x H', (Itc lo c n).yld i H x H' → g x σ H' fun σ2 H2 => tb { D with nx := N, ct := N, bk := D.nx } σ2 H2) := by
  refine ⟨fun i m σ H => m = n - i ∧ i ≤ n ∧ Pv i σ H, ⟨n, by simp, Nat.zero_le _, h0⟩, ?_⟩
  rintro i m σ H ⟨rfl, hi, p⟩
  by_cases hlt : i < n
  · refine .inr ⟨hlt, Pv (i + 1), fun σ' H' p' => ⟨n - (i + 1), by omega, rfl, hlt, p'⟩, fun x H' y => ?_⟩
    obtain ⟨e, y⟩ := y
    subst e y
    exact hs i σ _ hlt p
  · have e : i = n := by omega
    subst e
    exact .inl ⟨Nat.le_refl _, hd σ H p⟩
theorem kv_get {κ : Type} {kvs : List (κ × V)} {vs : List (κ × Value)} (h : KV kvs vs) : ∀ {i : Nat} {k : κ} {v : V}, kvs[i]? = some (k, v) → ∃ u, vs[i]? = some (k, u) ∧ RelV v u := by
  unfold KV at h
  induction h with
  | nil => intro i k v e; simp at e
  | @cons a b l₁ l₂ r t ih =>
    intro i k v e
    cases i with
    | zero =>
      simp only [List.getElem?_cons_zero, Option.some.injEq] at e
      subst e
      refine ⟨b.2, ?_, r.2⟩
      simp only [List.getElem?_cons_zero]
      exact congrArg some (Prod.ext r.1.symm rfl)
    | succ j =>
      simp only [List.getElem?_cons_succ] at e ⊢
      exact ih e
theorem relV_key {k : Key} {u : Value} (h : keyIs k u = true) : RelV (kV k) u := by
  rcases keyIs_shape h with ⟨i, t, rfl, rfl⟩ | ⟨x, t, rfl, rfl⟩
  · exact ⟨t, rfl⟩
  · exact ⟨t, rfl⟩
section
variable {X : Cx} {pins : List (Addr × Obj)} {σ : St} {H : Hp} {s : Shared} {d : Addr} {o : Obj}
theorem Inv.frzK {kvs : List (Key × V)} (I : Inv X pins σ H s) (h : H d = some (.frz o (.dK kvs))) :
    (d == sysModules) = false ∧ s.heap.get? d = some o ∧ o.ExactDict ∧ ∃ (es : Array DictEntry) (ep : Nat) (vs : List (Key × Value)), o.data = .dict es ep ∧ es.size = kvs.length ∧ KV kvs vs ∧ s.heap.DictAt (mixKind X.prog X.w) d vs ep := by
  obtain ⟨hd, z, hs, vs, kv, o', es, ep, ho, hx, hdt, r⟩ := I.hok d _ h
  rw [hd] at ho
  cases ho
  refine ⟨hs, hd, hx, es, ep, vs, hdt, ?_, kv, o, es, hd, hx, hdt, r⟩
  have l1 := r.2.1.length
  have l2 : kvs.length = vs.length := Paired.length kv
  rw [Array.length_toList] at l1
  omega
end
def Itd (d : Addr) (o : Obj) (kvs : List (Key × V)) : It :=
  ⟨fun i H => H d = some (.frz o (.dK kvs)) ∧ i < kvs.length, fun i H x H' => H' = H ∧ ∃ k, kvs[i]? = some (k, x), fun i H => H d = some (.frz o (.dK kvs)) ∧ kvs.length ≤ i⟩
def Iti (d : Addr) (o : Obj) (kvs : List (Key × V)) : It :=
  ⟨fun i H => H d = some (.frz o (.dK kvs)) ∧ i < kvs.length, fun i H x H' => ∃ T k v, kvs[i]? = some (k, v) ∧ x = .ref T ∧ H T = none ∧ H' = upd H T (.tup [kV k, v]), fun i H => H d = some (.frz o (.dK kvs)) ∧ kvs.length ≤ i⟩
theorem dict_ep {o : Obj} {es es' : Array DictEntry} {ep ep' : Nat} (h : o.data = .dict es ep) (h' : o.data = .dict es' ep') : es' = es ∧ ep' = ep := by
  rw [h] at h'
  cases h'
  exact ⟨rfl, rfl⟩
section
variable {P : Program} {w : World} {K : PySem.W.Frag} {tg : Expr} {d : Addr} {o : Obj} {es : Array DictEntry} {ep : Nat}
theorem turn_vals {kvs : List (Key × V)} (it : Addr) (hod : o.data = .dict es ep) : Turn P w K tg (Itd d o kvs) [it] it (fun i h => h.IsValIter it d i kvs.length ep) where
  mem := by simp
  obj := fun i h st b hb => by
    have e : b = it := by simpa using hb
    subst e
    obtain ⟨oi, e, c, dd⟩ := st
    exact ⟨oi, e, fun v z => by rw [dd] at z; cases z⟩
  keep := fun i h h' st k => st.at fun oi e => k it (by simp) oi e
  item := by
    intro X hP hw hK hc i pins s σ H E I hf st hg
    subst hP hw hK
    obtain ⟨hd, hi⟩ := hg
    obtain ⟨f0, f1, f2, f3, f4, f5⟩ := hf it (by simp)
    obtain ⟨hs, hgd, hx, es', ep', vs, hdt, hsz, kv, hm⟩ := I.frzK hd
    obtain ⟨rfl, rfl⟩ := dict_ep hod hdt
    obtain ⟨⟨k, v⟩, hkv⟩ : ∃ p, kvs[i]? = some p := ⟨kvs[i], List.getElem?_eq_getElem hi⟩
    obtain ⟨u, hu, ru⟩ := kv_get kv hkv
    have hl : kvs.length = vs.length := Paired.length kv
    rw [hl] at st
    refine wpAny_pyNext_values_item st hm hu fun h' st' sb => ?_
    have I1 : Inv X pins σ H { s with heap := h' } := I.turned (t' := s.toks) (fun b ob hb e => (sb.2 b hb).trans e) f0 f1 f3 f4 f5
    obtain ⟨oi, e, c, dd⟩ := id st'
    refine ⟨u, rfl, go_of (s := { s with heap := h' }) e c dd (by decide) ⟨v, H, I1, ru, ⟨rfl, k, hkv⟩, ?_, fun b hb => (hf b hb).1⟩⟩
    show h'.IsValIter it d (i + 1) kvs.length _
    rw [hl]
    exact st'
  done := by
    intro X hP hw hK hc i pins s σ H E I hf st hg
    subst hP hw hK
    obtain ⟨hd, hi⟩ := hg
    obtain ⟨f0, f1, f2, f3, f4, f5⟩ := hf it (by simp)
    obtain ⟨hs, hgd, hx, es', ep', vs, hdt, hsz, kv, hm⟩ := I.frzK hd
    obtain ⟨rfl, rfl⟩ := dict_ep hod hdt
    have hl : kvs.length = vs.length := Paired.length kv
    rw [hl] at st
    exact wpAny_pyNext_values_end (I.ok.hd hc) st hm (List.getElem?_eq_none (by omega)) fun h' eb => ⟨rfl, I.turned (t' := s.toks) (fun b ob hb e => eb b ob hb e) f0 f1 f3 f4 f5⟩
  self := fun A i s Q E st h => wpAny_pyIter_valiter st h
theorem turn_items {kvs : List (Key × V)} {elts : List Expr} {kk : Nat} {tpos : Pos} (it : Addr) (hod : o.data = .dict es ep) :
    Turn P w K (.Tuple elts kk tpos) (Iti d o kvs) [it] it (fun i h => ∃ ok ov, IsItemIter h it d i kvs.length ep ok ov) where
  mem := by simp
  obj := fun i h st b hb => by
    have e : b = it := by simpa using hb
    subst e
    obtain ⟨ok, ov, e⟩ := st
    exact ⟨_, e, fun v z => nomatch z⟩
  keep := fun i h h' st k => let ⟨ok, ov, e⟩ := st; ⟨ok, ov, k it (by simp) _ e⟩
  item := by
    intro X hP hw hK hc i pins s σ H E I hf st hg
    subst hP hw hK
    obtain ⟨hd, hi⟩ := hg
    obtain ⟨hs, hgd, hx, es', ep', vs, hdt, hsz, kv, hm⟩ := I.frzK hd
    obtain ⟨rfl, rfl⟩ := dict_ep hod hdt
    obtain ⟨⟨k, v⟩, hkv⟩ : ∃ p, kvs[i]? = some p := ⟨kvs[i], List.getElem?_eq_getElem hi⟩
    obtain ⟨u, hu, ru⟩ := kv_get kv hkv
    have hl : kvs.length = vs.length := Paired.length kv
    obtain ⟨ok, ov, he⟩ := st
    rw [hl] at he
    have hlt : it < s.heap.objs.size := Heap.lt_size he
    refine wpAny_pyNext_items_item he hm hu fun key h' hkey ho hT hz hk => ?_
    refine ⟨_, rfl, wpAny_letOwnedTupleGo_items (s := { s with heap := h' }) ho fun h'' he' sb => ?_⟩
    have hT2 : h''.get? s.heap.objs.size = some { cls := .type "tuple", data := .seq #[key, u] } := (sb.2 _ (Nat.ne_of_gt hlt)).trans hT
    have new : ObjOk X.prog X.w (upd H s.heap.objs.size (.tup [kV k, v])) h'' s.heap.objs.size (.tup [kV k, v]) :=
      ⟨by show 2 ≤ sizeLine; decide, [key, u], .cons (relV_key (show keyIs k key = true from hkey)) (.cons ru .nil), ⟨_, hT2, rfl, _, rfl⟩⟩
    have I1 : Inv X pins σ (upd H s.heap.objs.size (.tup [kV k, v])) { s with heap := h'' } :=
      I.turnedNew (t' := s.toks) (ch := [it]) (fun b ob hb e => (sb.2 b (by simpa using hb)).trans (hk b ob (by simpa using hb) e)) hf (Nat.le_refl _) new
    refine ⟨.ref s.heap.objs.size, _, I1, rfl, ⟨_, k, v, hkv, rfl, I.hok.fresh (Nat.le_refl _), rfl⟩, ⟨key, u, ?_⟩, fun b hb => ?_⟩
    · rw [hl]; exact he'
    · have e : b = it := by simpa using hb
      rw [e, upd_ne (Nat.ne_of_lt hlt)]
      exact (hf it (by simp)).1
  done := by
    intro X hP hw hK hc i pins s σ H E I hf st hg
    subst hP hw hK
    obtain ⟨hd, hi⟩ := hg
    obtain ⟨f0, f1, f2, f3, f4, f5⟩ := hf it (by simp)
    obtain ⟨hs, hgd, hx, es', ep', vs, hdt, hsz, kv, hm⟩ := I.frzK hd
    obtain ⟨rfl, rfl⟩ := dict_ep hod hdt
    have hl : kvs.length = vs.length := Paired.length kv
    obtain ⟨ok, ov, he⟩ := st
    rw [hl] at he
    exact wpAny_pyNext_items_end (I.ok.hd hc) he hm (List.getElem?_eq_none (by omega)) fun h' eb => ⟨rfl, I.turned (t' := s.toks) (fun b ob hb e => eb b ob hb e) f0 f1 f3 f4 f5⟩
  self := fun A i s Q E st h => let ⟨_, _, e⟩ := st; PySem.W.kcp_self e h
end
def iItems (td : TE) : TI := fun σ H R => td σ H fun x H1 => ∃ d o kvs, x = .ref d ∧ H1 d = some (.frz o (.dK kvs)) ∧ R (Iti d o kvs) H1
section
variable {X : Cx} {tg e : Expr} {td : TE} {apos cpos : Pos}
theorem pi_items {elts : List Expr} {kk : Nat} {tpos : Pos} (he : PE X e td) (hbase : attributeBase e "items" X.env (eval e X.env) = eval e X.env := by rfl) (hline : (apos.endLine == cpos.line) = true := by rfl) :
    PI X (.Tuple elts kk tpos) (.Call (.Attribute e "items" apos) [] [] cpos) (iItems td) := by
  intro pins s σ H R I h
  refine wpAny_Call_method (T := "dict") (id := "dict.items") hbase rfl hline F.plainAttrs_dict F.slot_dict_items F.type_dict_items (thn (he pins s σ H _ I h) fun u s1 ⟨x, H1, I1, rx, d, o, kvs, ex, hd, q⟩ => ?_)
  subst ex
  obtain rfl : u = Value.ref d := rx
  obtain ⟨hs, hgd, hx, es, ep, vs, hdt, hsz, kv, hm⟩ := I1.frzK hd
  have hl : kvs.length = vs.length := Paired.length kv
  refine ⟨hm.dictOf.typeIs, hm.dictOf.mapOf.noDict, ?_⟩
  have I2 : Inv X pins σ H1 { s1 with heap := s1.heap.push { cls := .type "dict_items", data := .fields #[.ref d] } } := I1.kept (t' := s1.toks) fun b ob q => Heap.get?_push_of_some _ q
  have fin : wpAny (model X.prog X.w) X.A (pyIter (.ref s1.heap.objs.size)) (PIE X pins σ (.Tuple elts kk tpos) R) X.xe { s1 with heap := s1.heap.push { cls := .type "dict_items", data := .fields #[.ref d] } } := by
    refine wpAny_pyIter_items (d := d) (knd := mixKind X.prog X.w) ⟨_, Heap.get?_push_size _ rfl, rfl, rfl⟩ (hm.push _) (pi_one (tk := s1.toks) I2 _ (turn_items _ hdt) ⟨.none, .none, ?_⟩ q)
    rw [hl]
    exact Heap.get?_push_size _ rfl
  show wpAny _ _ (callWith cpos (.builtin "dict.items") [.ref d] [] []) _ X.xe s1
  exact method_meetsIn F.slot_dict_items F.entry_dict_items rfl (PySem.evalArgs_none ⟨rfl, hm.dictOf.typeIs, F.args_dict_items_1 _, _, meets_dict_items (mixKind X.prog X.w) d hs, ⟨vs, hm.dictOf⟩, fin⟩)
end
theorem boot_zip5 : bootBuiltins "zip" = some (.type "zip") := by decide +kernel
def Itz (K : PySem.W.Frag) (a b : Addr) : It :=
  ⟨fun i H => ∃ (xs ys : List V) (x y : V), SqL K H a xs ∧ SqL K H b ys ∧ xs[i]? = some x ∧ ys[i]? = some y,
    fun i H v H' => ∃ T x y, v = .ref T ∧ H T = none ∧ H' = upd H T (.tup [x, y]) ∧ (∀ xs, SqL K H a xs → xs[i]? = some x) ∧ ∀ ys, SqL K H b ys → ys[i]? = some y,
    fun i H => ∃ xs ys : List V, SqL K H a xs ∧ SqL K H b ys ∧ (xs.length ≤ i ∨ ys.length ≤ i)⟩
theorem turn_zip {P : Program} {w : World} {K : PySem.W.Frag} {elts : List Expr} {kk : Nat} {tpos : Pos} {a b z TI TO i1 i2 : Addr} (D : ZipApart z TI TO i1 i2 a b) :
    Turn P w K (.Tuple elts kk tpos) (Itz K a b) [z, TI, TO, i1, i2] z (fun i h => IsZip h z TI TO .none ∧ IsPair h TI (.ref i1) (.ref i2) ∧ (∃ x y, IsPair h TO x y) ∧ h.IsListIter i1 a i ∧ h.IsListIter i2 b i) where
  mem := by simp
  obj := fun i h st c hc => by
    obtain ⟨hz, hTI, ⟨x, y, hTO⟩, ⟨o1, e1, _, d1⟩, ⟨o2, e2, _, d2⟩⟩ := st
    have e' : c = z ∨ c = TI ∨ c = TO ∨ c = i1 ∨ c = i2 := by simpa using hc
    rcases e' with q | q | q | q | q
    · rw [q]; exact ⟨_, hz, fun v q => nomatch q⟩
    · rw [q]; exact ⟨_, hTI, fun v q => nomatch q⟩
    · rw [q]; exact ⟨_, hTO, fun v q => nomatch q⟩
    · rw [q]; exact ⟨o1, e1, fun v q => by rw [d1] at q; cases q⟩
    · rw [q]; exact ⟨o2, e2, fun v q => by rw [d2] at q; cases q⟩
  keep := fun i h h' st k => by
    obtain ⟨hz, hTI, ⟨x, y, hTO⟩, h1, h2⟩ := st
    exact ⟨k z (by simp) _ hz, k TI (by simp) _ hTI, ⟨x, y, k TO (by simp) _ hTO⟩, h1.at fun o q => k i1 (by simp) o q, h2.at fun o q => k i2 (by simp) o q⟩
  item := by
    intro X hP hw hK hc i pins s σ H E I hf st hg
    subst hP hw hK
    obtain ⟨hz, hTI, ⟨x0, y0, hTO⟩, h1, h2⟩ := st
    obtain ⟨xs, ys, x, y, hqx, hqy, hx, hy⟩ := hg
    obtain ⟨its, rv, p, _⟩ := I.list hqx
    obtain ⟨its2, rv2, p2, _⟩ := I.list hqy
    obtain ⟨u, hu, ru⟩ := rv.get hx
    obtain ⟨u2, hu2, ru2⟩ := rv2.get hy
    have hzl : z < s.heap.objs.size := Heap.lt_size hz
    refine wpAny_pyNext_zip_item D hz hTI hTO h1 h2 p.isList p2.isList (x := u) (y := u2) (by simpa using hu) (by simpa using hu2) fun h' z' TO' h1' h2' hT hsz hk => ?_
    refine ⟨_, rfl, wpAny_letOwnedTupleGo_zip (s := { s with heap := h' }) z' fun h'' z'' sb => ?_⟩
    have hT2 : h''.get? s.heap.objs.size = some { cls := .type "tuple", data := .seq #[u, u2] } := (sb.2 _ (Nat.ne_of_gt hzl)).trans hT
    have new : ObjOk X.prog X.w (upd H s.heap.objs.size (.tup [x, y])) h'' s.heap.objs.size (.tup [x, y]) :=
      ⟨by show 2 ≤ sizeLine; decide, [u, u2], .cons ru (.cons ru2 .nil), ⟨_, hT2, rfl, _, rfl⟩⟩
    have I1 : Inv X pins σ (upd H s.heap.objs.size (.tup [x, y])) { s with heap := h'' } :=
      I.turnedNew (t' := s.toks) (ch := [z, TI, TO, i1, i2]) (fun c o hb q => (sb.2 c (fun q' => hb (by simp [q']))).trans (hk c o (fun q' => hb (by simp [q'])) (fun q' => hb (by simp [q'])) (fun q' => hb (by simp [q'])) (fun q' => hb (by simp [q'])) q)) hf (Nat.le_refl _) new
    refine ⟨.ref s.heap.objs.size, _, I1, rfl, ⟨_, x, y, rfl, I.hok.fresh (Nat.le_refl _), rfl, fun l hl => by rw [I.list_inj hl hqx]; exact hx, fun l hl => by rw [I.list_inj hl hqy]; exact hy⟩, ⟨z'', ?_, ⟨u, u2, ?_⟩, ?_, ?_⟩, fun c hcm => ?_⟩
    · exact (sb.2 _ D.TIz).trans (hk _ _ D.TIz D.TITO D.TIi1 D.TIi2 hTI)
    · exact (sb.2 _ D.TOz).trans TO'
    · exact h1'.at fun o q => (sb.2 _ D.i1z).trans q
    · exact h2'.at fun o q => (sb.2 _ D.i2z).trans q
    · have hlt : c < s.heap.objs.size := by
        have e' : c = z ∨ c = TI ∨ c = TO ∨ c = i1 ∨ c = i2 := by simpa using hcm
        rcases e' with q | q | q | q | q
        · rw [q]; exact hzl
        · rw [q]; exact Heap.lt_size hTI
        · rw [q]; exact Heap.lt_size hTO
        · rw [q]; obtain ⟨_, e1, _⟩ := h1; exact Heap.lt_size e1
        · rw [q]; obtain ⟨_, e2, _⟩ := h2; exact Heap.lt_size e2
      rw [upd_ne (Nat.ne_of_lt hlt)]
      exact (hf c hcm).1
  done := by
    intro X hP hw hK hc i pins s σ H E I hf st hg
    subst hP hw hK
    obtain ⟨hz, hTI, ⟨x0, y0, hTO⟩, h1, h2⟩ := st
    obtain ⟨xs, ys, hqx, hqy, hend⟩ := hg
    obtain ⟨its, rv, p, _⟩ := I.list hqx
    obtain ⟨its2, rv2, p2, _⟩ := I.list hqy
    have l1 := rv.length
    have l2 := rv2.length
    have he : its.toArray[i]? = none ∨ its2.toArray[i]? = none := by
      rcases hend with q | q
      · exact .inl (by simp; omega)
      · exact .inr (by simp; omega)
    exact wpAny_pyNext_zip_end (I.ok.hd hc) D hz hTI hTO h1 h2 p.isList p2.isList he fun h' hk => ⟨rfl, I.turnedL (t' := s.toks) (ch := [z, TI, TO, i1, i2]) (fun c o hb q =>
      hk c o (fun q' => hb (by simp [q'])) (fun q' => hb (by simp [q'])) (fun q' => hb (by simp [q'])) (fun q' => hb (by simp [q'])) q) hf⟩
  self := fun A i s Q E st h => wpAny_pyIter_zip st.1 h
def iZip (K : PySem.W.Frag) (ta : TA) : TI := fun σ H R => ta σ H fun vs H1 => ∃ a b xs ys, vs = [.ref a, .ref b] ∧ SqL K H1 a xs ∧ SqL K H1 b ys ∧ R (Itz K a b) H1
theorem pi_zip {X : Cx} {e e2 : Expr} {ta : TA} {p pos tpos : Pos} {elts : List Expr} {kk : Nat} (hg : Gl X "zip") (hm : X.mg "zip" = none) (ha : PA X [e, e2] ta)
    (hs : starEach [e, e2] X.env = (false, eval e X.env) :: starEach [e2] X.env := by rfl) (hpl : (backTo pos (starEach [e2] X.env)).any (·.1) = false := by rfl) :
    PI X (.Tuple elts kk tpos) (.Call (.Name "zip" p) [e, e2] [] pos) (iZip X.K ta) := by
  intro pins s σ H R I h
  refine Call_ (ld_blt I hg hm boot_zip5 (PyProof.Rows.callWith_type1 (thn (ha pos pins s σ H _ I h) fun us s1 ⟨vs, H1, I1, r1, q1⟩ => ?_) hs hpl))
  obtain ⟨a, b, xs, ys, ex, hqx, hqy, q⟩ := q1
  subst ex
  cases r1 with
  | cons r rr =>
    cases rr with
    | cons r' rr =>
      cases rr
      cases r
      cases r'
      obtain ⟨its, rv, p1, _⟩ := I1.list hqx
      obtain ⟨its2, rv2, p2, _⟩ := I1.list hqy
      have la : a < s1.heap.objs.size := p1.lt
      have lb : b < s1.heap.objs.size := p2.lt
      refine call_zip_2 p1.isList p2.isList fun h' hz hTI hTO h1 h2 hsz hk => wpAny_pyIter_zip hz ?_
      have I2 : Inv X pins σ H1 { s1 with heap := h' } := I1.kept (t' := s1.toks) hk
      refine ⟨s1.heap.objs.size + 4, [s1.heap.objs.size + 4, s1.heap.objs.size + 2, s1.heap.objs.size + 3, s1.heap.objs.size, s1.heap.objs.size + 1], _, _, H1, rfl, I2, turn_zip (PySem.W.ktu_apart s1.heap.objs.size a b la lb), ⟨hz, hTI, ⟨_, _, hTO⟩, h1, h2⟩, fun c hcm => ?_, q⟩
      have e' : c = s1.heap.objs.size + 4 ∨ c = s1.heap.objs.size + 2 ∨ c = s1.heap.objs.size + 3 ∨ c = s1.heap.objs.size ∨ c = s1.heap.objs.size + 1 := by simpa using hcm
      have hle : s1.heap.objs.size ≤ c := by
        rcases e' with z | z | z | z | z
        · rw [z]; exact Nat.le_add_right _ _
        · rw [z]; exact Nat.le_add_right _ _
        · rw [z]; exact Nat.le_add_right _ _
        · rw [z]; exact Nat.le_refl _
        · rw [z]; exact Nat.le_add_right _ _
      exact I1.fpOk hle (I1.hok.fresh hle)
end L2
section 
namespace Bits
open PySem PyProof.Rows
end Bits
end 
section 
namespace TL
open PySem PySem.Builtin PySem.Builtin.Str PySem.StrLaws
end TL
end 
namespace L2
open PySem PySem.Spec PyProof.Rows
end L2
namespace L2
open PySem PySem.Spec PyProof.Rows
end L2
namespace Att
open PySem PySem.W PySem.Calls PyProof.Rows
end Att
namespace L2
open PySem PySem.Spec PyProof.Rows
end L2
namespace L2
open PySem PySem.Spec PyProof.Rows
end L2
/- THE LAST THEOREM (shape; LID, My.* are yours):
   My.Adr: a structure of the addresses that your layer names (classes, functions); My.Txt K t: a structure (Prop) of the equations over K;
   My.txt_mk : {K} {implicit addresses ..} (e1 : nsIn K mainGlobals "law" = some (some (.ref f))) (e2 : K.lookup f = some ⟨oc, od, .func (fnOf "law" "law" params body scope dV kV doc pm an cdv ct), sl⟩) (e3 : codeIn K cdv "law" = true) .. : ∃ t, My.Txt K t
set_option maxRecDepth 100000 in
set_option maxHeartbeats 0 in
theorem PySem.Challenge.cw_LID_holds : PySem.Challenge.rw_LID.Holds := by
  w_on; o_law; k_head; (case hw => w_witness2)
  k_fill
  refine L2.walk_of (l := PySem.Challenge.rw_LID) (n := 63) (k := 40) (x := "script") (CX := fun w => ..) (sp := fun _ => My.sp_law) rfl (by decide) rfl ⟨rfl, by decide, by decide⟩ (fun w h Y => PySem.W.kIn_of Y) ?F ?S ?C
  case F =>
    intro w mg fa h KX G hmg
    have T : ∃ t, My.Txt (L2.KOf KX) t := by
      dsimp only [L2.KOf]                          -- K must stand as «<heap const> w.params» for k_is
      refine' My.txt_mk ?e1 ?e2 ?e3 ..
      (case e1 => PySem.W.k_is)                    -- in the order: a name -> its address -> its object -> its parts
      (case e2 => PySem.W.k_is)
      ..
    obtain ⟨t, T⟩ := T
    have e0 := hmg.symm.trans (PySem.W.mg_of KX G T.law)
    cases e0                                       -- fa is the law's own address
    exact ⟨_, fun s u => .of_eq rfl, fun base kb nb => My.law_fn T kb nb⟩     -- if «.of_eq rfl» comes too early: refine' ⟨_, ?b, fun base kb nb => My.law_fn T kb nb⟩; exact fun s u => .of_eq rfl
  case S => exact fun w H a ns hl hO hS => ..
  case C => exact ..
(the tactic k_is has no namespace: write k_is) -/
namespace L2
open PySem PySem.Spec PyProof.Rows
def inClass (s : Stmt) (j : Nat) : Stmt := match s with
  | .ClassDef _ _ _ body _ _ _ _ _ _ _ => body.getD j (.Pass ⟨0, 0, 0, 0⟩)
  | _ => .Pass ⟨0, 0, 0, 0⟩
def defArgs (s : Stmt) : Arguments := match s with
  | .FunctionDef _ a _ _ _ _ _ _ _ _ => a
  | _ => { posonlyargs := [], args := [], vararg := none, kwonlyargs := [], kw_defaults := [], kwarg := none, defaults := [] }
def defBody (s : Stmt) : List Stmt := match s with
  | .FunctionDef _ _ b _ _ _ _ _ _ _ => b
  | _ => []
def defScope (s : Stmt) : Scope := match s with
  | .FunctionDef _ _ _ _ _ _ sc _ _ _ => sc
  | _ => { kind := .function, names := [], isGenerator := false, isCoroutine := false }
abbrev CX0 : CXT := fun _ _ _ _ _ _ => False
abbrev E0 : XK := fun _ _ _ => False
theorem pass0 {X : Cx} : Passes CX0 X E0 := fun _ _ _ _ _ _ _ h => h.elim
structure Fun (K : PySem.W.Frag) (x qual : Str) (st : Stmt) (f : Addr) (fd : FuncData) : Prop where
  ex : ∃ (oc : Value) (od : Option Addr) (kV doc pm : Value) (an : Option Addr) (cdv ct : Value) (osl : Array (Option Value)),
    fd = PySem.W.fnOf x qual (defArgs st) (defBody st) (defScope st) .none kV doc pm an cdv ct ∧ K.lookup f = some ⟨oc, od, .func fd, osl⟩ ∧ PySem.W.codeIn K cdv qual = true
  kp : PySem.W.keepIn K (.ref f) = true
section
variable {P : Program} {w : World} {K : PySem.W.Frag} {mg : Str → Option Value} {base : Heap}
theorem Fun.ok {x qual : Str} {st : Stmt} {f : Addr} {fd : FuncData} {N ps : List Str} {k : Nat} {sp : Sp} (F : Fun K x qual st f fd) (S : FnScope N ps (defScope st)) (len : ∀ vs H Q E, sp vs H Q E → vs.length = ps.length)
    (hbody : ∀ (cdv : Value) (A : Around) (outer : List Env) (s : Shared) (H : Hp) (vs : List V) (Q : VK) (E : XK), Room k (A.deeper (envOfC qual (defScope st) s.heap.objs.size f cdv)) → sp vs H Q E →
      ∃ t, PSs (cxOf CX0 P w K mg base N qual (defScope st) f cdv A outer s H E).nox (defBody st) t ∧ t { nx := fun _ H' => Q .non H', rt := Q } (start N vs) H) : FnOk P w K mg base CX0 (k + 1) f fd ps sp := by
  obtain ⟨oc, od, kV, doc, pm, an, cdv, ct, osl, rfl, lk, hcd⟩ := F.ex
  refine fn_of lk hcd S len fun A outer s H vs Q E hr hsp => ?_
  obtain ⟨t, h, q⟩ := hbody cdv A outer s H vs Q E hr hsp
  exact ⟨t, h.nox, q⟩
theorem Fun.binds {x qual : Str} {st : Stmt} {f : Addr} {fd : FuncData} {ps : List Str} (F : Fun K x qual st f fd)
    (h : ∀ (kV doc pm : Value) (an : Option Addr) (cdv ct : Value) (us : List Value), us.length = ps.length → bindArgs (PySem.W.fnOf x qual (defArgs st) (defBody st) (defScope st) .none kV doc pm an cdv ct) ⟨us, []⟩ = pure (ps.zip us)) : Binds K fd ps [] := by
  obtain ⟨oc, od, kV, doc, pm, an, cdv, ct, osl, rfl, lk, hcd⟩ := F.ex
  exact .all (h kV doc pm an cdv ct)
theorem fun_mk {x qual : Str} {st : Stmt} {f : Addr} {oc : Value} {od an : Option Addr} {osl : Array (Option Value)} {kV doc pm cdv ct : Value} (l : K.lookup f = some ⟨oc, od, .func (PySem.W.fnOf x qual (defArgs st) (defBody st) (defScope st) .none kV doc pm an cdv ct), osl⟩)
    (c : PySem.W.codeIn K cdv qual = true) (k : PySem.W.keepIn K (.ref f) = true) : Fun K x qual st f (PySem.W.fnOf x qual (defArgs st) (defBody st) (defScope st) .none kV doc pm an cdv ct) := ⟨⟨oc, od, kV, doc, pm, an, cdv, ct, osl, rfl, l, c⟩, k⟩
end
theorem hu_of {A : Around} {k : Nat} (hr : Room k A) : A.units + 1 < cLine := Nat.lt_of_le_of_lt (Nat.add_le_add_left (by decide : 1 ≤ 64) _) hr.units
section
variable {X : Cx}
theorem pv (i : Nat) {x : Str} {pos : Pos} (hN : X.N[i]? = some x := by rfl) (hv : Vis X.env.scope x := by first | exact Or.inl rfl | exact Or.inr (Or.inl rfl) | exact Or.inr (Or.inr rfl)) (hd : (x == ("__debug__" : Str)) = false := by decide)
    (hcd : (x == ("__classdict__" : Str)) = false := by decide) : PE X (.Name x pos) (tVar i) := pe_var hN hv hd hcd
end
theorem iteF {A B : Prop} (h : B) : if false = true then A else B := by
  rw [if_neg Bool.false_ne_true]
  exact h
theorem iteT {A B : Prop} (h : A) : if true = true then A else B := by
  rw [if_pos rfl]
  exact h
theorem ite2 {c A B : Prop} [Decidable c] (h1 : c → A) (h2 : ¬ c → B) : if c then A else B := by
  by_cases h : c
  · rw [if_pos h]
    exact h1 h
  · rw [if_neg h]
    exact h2 h
def Same (H H' : Hp) : Prop := ∀ b o, H b = some o → H' b = some o
theorem Same.refl (H : Hp) : Same H H := fun _ _ h => h
theorem Same.trans {H H1 H2 : Hp} (a : Same H H1) (b : Same H1 H2) : Same H H2 := fun c o h => b c o (a c o h)
theorem Same.free {H H' : Hp} (e : Same H H') {l : Addr} (h : H' l = Option.none) : H l = Option.none := by
  cases q : H l with
  | none => rfl
  | some o =>
    rw [e l o q] at h
    cases h
theorem Same.seq {K : PySem.W.Frag} {H H' : Hp} {a : Addr} {xs : List V} (e : Same H H') (h : SqL K H a xs) : SqL K H' a xs := by
  rcases h with (h | ⟨o, h⟩) | h
  · exact .inl (.inl (e _ _ h))
  · exact .inl (.inr ⟨o, e _ _ h⟩)
  · exact .inr h
end L2
namespace L2
open PySem PySem.Spec PyProof.Rows
def okV : Value → Bool
  | .int _ _ => true
  | .ref _ => true
  | _ => false
def abV : Value → V
  | .int i _ => .int i
  | .ref a => .ref a
  | _ => .non
theorem abV_rel {v : Value} (h : okV v = true) : RelV (abV v) v := by
  cases v <;> first | exact ⟨_, rfl⟩ | exact rfl | (cases h)
theorem abV_vals : ∀ {vs : List Value}, vs.all okV = true → Vals (vs.map abV) vs
  | [], _ => .nil
  | v :: r, h => by
    rw [List.all_cons, Bool.and_eq_true] at h
    exact .cons (abV_rel h.1) (abV_vals h.2)
def PlainAt (h : Heap) (b : Addr) (vs : List Value) : Prop := h.get? b = some { cls := .type "list", data := .seq vs.toArray } ∧ vs.all okV = true ∧ vs.length ≤ sizeLine
open Classical in
noncomputable def argHp (K : PySem.W.Frag) (h : Heap) : Hp := fun b =>
  if q : K.lookup b = none ∧ ∃ vs : List Value, PlainAt h b vs then
    some (.frz { cls := .type "list", data := .seq (choose q.2).toArray } (.lst ((choose q.2).map abV)))
  else none
theorem argHp_none {K : PySem.W.Frag} {h : Heap} {b : Addr} {o : Obj} (e : h.get? b = some o) (hd : ∀ its n, o.data ≠ .seq its n) : argHp K h b = none := by
  unfold argHp
  rw [dif_neg]
  rintro ⟨_, vs, hv, _⟩
  rw [e] at hv
  cases hv
  exact hd _ _ rfl
theorem argHp_in {K : PySem.W.Frag} {h : Heap} {b : Addr} {o : Obj} (e : K.lookup b = some o) : argHp K h b = none := by
  unfold argHp
  rw [dif_neg]
  rintro ⟨z, _⟩
  rw [e] at z
  cases z
theorem argHp_some {K : PySem.W.Frag} {h : Heap} {b : Addr} {u : HO} (e : argHp K h b = some u) : ∃ vs : List Value, PlainAt h b vs ∧ u = .frz { cls := .type "list", data := .seq vs.toArray } (.lst (vs.map abV)) := by
  unfold argHp at e
  by_cases q : K.lookup b = none ∧ ∃ vs : List Value, PlainAt h b vs
  · rw [dif_pos q] at e
    cases e
    exact ⟨_, Classical.choose_spec q.2, rfl⟩
  · rw [dif_neg q] at e
    cases e
theorem plain_inj {h : Heap} {b : Addr} {vs us : List Value} (a : PlainAt h b vs) (c : PlainAt h b us) : vs = us := by
  obtain ⟨e1, _⟩ := a
  obtain ⟨e2, _⟩ := c
  rw [e1] at e2
  have e3 := Option.some.inj e2
  injection e3 with _ _ e4 _
  injection e4 with e5 _
  exact List.toArray_inj e5
theorem argHp_sql {K : PySem.W.Frag} {h : Heap} {b : Addr} {vs : List Value} (KX : K.In h) (p : PlainAt h b vs) : SqL K (argHp K h) b (vs.map abV) := by
  cases e : K.lookup b with
  | none =>
    have q : K.lookup b = none ∧ ∃ vs : List Value, PlainAt h b vs := ⟨e, vs, p⟩
    refine .inl (.inr ⟨{ cls := .type "list", data := .seq vs.toArray }, ?_⟩)
    unfold argHp
    rw [dif_pos q]
    have e2 : Classical.choose q.2 = vs := plain_inj (Classical.choose_spec q.2) p
    rw [e2]
  | some o =>
    have e1 := KX b o e
    rw [p.1] at e1
    cases e1
    exact .inr ⟨_, vs.toArray, _, e, rfl, rfl, rfl, by rw [List.size_toArray]; exact p.2.2, by simpa using abV_vals p.2.1⟩
theorem argHp_ok {P : Program} {w : World} {K : PySem.W.Frag} {h : Heap} : HOk P w (argHp K h) h := fun a o e => by
  obtain ⟨vs, p, rfl⟩ := argHp_some e
  exact ⟨p.1, by rw [List.length_map]; exact p.2.2, vs, _, abV_vals p.2.1, p.1⟩
theorem reads_ints {R : PySem.W.WRecords} {cl : Str → Option Addr} {h : Heap} : ∀ {ns : List Int} {its : List Value}, Vals (ns.map V.int) its → PySem.W.ReadsAllW R cl h its (ns.map PySem.W.WData.int) []
  | [], [], .nil => .nil
  | n :: ns, _ :: _, .cons ⟨t, e⟩ r => by
    subst e
    exact PySem.W.ReadsAllW.cons (as := []) (bs := []) (.int n t) (reads_ints r)
theorem spec_call {P : Program} {w : World} {K : PySem.W.Frag} {mg mb : Str → Option Value} {CX : CXT} {k : Nat} {fa : Addr} {fd : FuncData} {xs : List Str} {sp : Sp} {s₁ : Shared} {vals : List Value} {ret : List Int} {cl : Str → Option Addr}
    (KX : K.In s₁.heap) (hns : s₁.heap.Ns mainGlobals mg) (hb : s₁.heap.Ns builtinsNs mb) (hbb : ∀ x : Str, x ≠ "__name__" → mb x = bootBuiltins x) (hlim : s₁.heap.NoLimit) (hg : s₁.gens = #[]) (hr : Room k callerA)
    (F : ∀ base : Heap, K.In base → base.Ns mainGlobals mg → FnOk P w K mg base CX k fa fd xs sp) (hbind : ∀ (s : Shared), BindsTo s fd ⟨vals, []⟩ (xs.zip vals)) (hv : vals.all okV = true)
    (hsp : sp (vals.map abV) (argHp K s₁.heap) (fun v H => ∃ b, v = .ref b ∧ H b = some (.lst (ret.map V.int))) fun _ _ _ => False)
    (hCX : ∀ H e s', CX [] H s₁ (fun _ _ _ => False) e s' → False) :
    codeAny (model P w) callerA (.call (.ref fa) ⟨vals, []⟩) (fun r s' => (∃ b, r = .ok (.ret (.ref b)) ∧ PySem.W.ReadsW [] cl s'.heap (.ref b) (.list (ret.map .int)) [b]) ∧ OldK s₁.heap s'.heap ∧ s'.os = s₁.os ∧ AllBare s'.gens) s₁ := by
  have base_of : ∀ {b : Addr} {o : Obj}, s₁.heap.get? b = some o → argHp K s₁.heap b = none → (hidT s₁.heap (argHp K s₁.heap)).get? b = some o := fun e n => hidT_get e n
  have nsK : ∀ {b : Addr} {m : Str → Option Value}, s₁.heap.Ns b m → (hidT s₁.heap (argHp K s₁.heap)).Ns b m := fun {b m} ⟨o, es, ep, e, d, r⟩ => ⟨o, es, ep, base_of e (argHp_none e (by intro its n z; rw [d] at z; cases z)), d, r⟩
  have hKb : K.In (hidT s₁.heap (argHp K s₁.heap)) := fun b o e => base_of (KX b o e) (argHp_in e)
  have hM : Mod K mg (hidT s₁.heap (argHp K s₁.heap)) := ⟨hKb, nsK hns, ⟨mb, nsK hb, hbb⟩, let ⟨mc, h1, h2⟩ := hlim; ⟨mc, nsK h1, h2⟩⟩
  have e0 : Env0 P w K mg (hidT s₁.heap (argHp K s₁.heap)) callerA [] s₁ (argHp K s₁.heap) := ⟨rfl, hM, fun b o e => of_hidT e, Nat.le_of_eq (hidT_size _ _), trivial, fun b hb => absurd (show b ∈ ([] : List Addr) from hb) (by simp), argHp_ok, .of_eq hg⟩
  refine codeAny_mono ((F _ hKb (nsK hns)).run callerA [] s₁ (argHp K s₁.heap) ⟨vals, []⟩ vals (vals.map abV) _ _ hr e0 (hbind s₁) (abV_vals hv) hsp) fun r s' h => ?_
  cases r with
  | error e => exact (hCX _ e s' h).elim
  | ok fl =>
    cases fl with
    | next => exact False.elim h
    | brk => exact False.elim h
    | cont => exact False.elim h
    | ret u =>
      obtain ⟨v, H', os, bare, un, hok', r', b, e1, e2⟩ := h
      subst e1
      obtain rfl : u = Value.ref b := r'
      obtain ⟨_, its, n, rv, ho⟩ := hok' b _ e2
      refine ⟨⟨b, rfl, ?_⟩, OldK.of_keep fun c o e => ?_, os, bare⟩
      · exact PySem.W.ReadsW.list (as := []) ho rfl rfl (by simpa using reads_ints rv)
      · cases q : argHp K s₁.heap c with
        | none => exact un.keep c o e q (by intro z; exact absurd (show c ∈ ([] : List Addr) from z) (by simp)) (by simp)
        | some u =>
          obtain ⟨vs, p, rfl⟩ := argHp_some q
          have z2 := un.frzs c _ _ q
          obtain ⟨e2, _⟩ := hok' c _ z2
          rw [p.1] at e; cases e
          exact e2
theorem os_postL {r : PySem.W.OpenSpec} {args : List PySem.W.WData} {a : PySem.W.Codec.denoteAll r.args} {ret : List Int} (e : PySem.W.Codec.decAll r.args args = some a)
    (h : r.ret.enc (PySem.W.Codec.app r.args r.f a) = .list (ret.map .int)) : r.post args (.list (ret.map .int)) = true := by
  unfold PySem.W.OpenSpec.post
  rw [e]
  show PySem.W.same _ (r.ret.enc (PySem.W.Codec.app r.args r.f a)) = true
  rw [h]
  exact PySem.W.same_self _
theorem os_preL {r : PySem.W.OpenSpec} {args : List PySem.W.WData} (h : r.pre args = true) : ∃ a, PySem.W.Codec.decAll r.args args = some a ∧ PySem.W.Codec.app r.args r.asked a = true := by
  unfold PySem.W.OpenSpec.pre at h
  cases e : PySem.W.Codec.decAll r.args args with
  | none => rw [e] at h; cases h
  | some a => rw [e] at h; exact ⟨a, rfl, h⟩
theorem walk_spec {r : PySem.W.OpenSpec} {k : Nat} {q : Program} {loose : List Str} {XP : (Str → Option Value) → Heap → Prop} {YP : World → Heap → Prop} {d : DefRec} {K : Params → PySem.W.Frag} {xs : List Str} {sp : PySem.W.Frag → Sp}
    (hdf : d.params.defaults = []) (hr : Room k callerA) (hY : ∀ (w : World) (h : Heap), YP w h → (K w.params).In h)
    (F : ∀ (w : World) (mg : Str → Option Value) (fa : Addr) (h : Heap), (K w.params).In h → h.Ns mainGlobals mg → mg d.name = some (.ref fa) →
      ∃ fd : FuncData, (∀ (s : Shared) (us : List Value), us.length = xs.length → BindsTo s fd ⟨us, []⟩ (xs.zip us)) ∧
        ∀ base : Heap, (K w.params).In base → base.Ns mainGlobals mg → FnOk r.prog w (K w.params) mg base CX0 k fa fd xs (sp (K w.params)))
    (hsp : ∀ (w : World) (h : Heap) (vals : List Value) (args : List PySem.W.WData) (a : PySem.W.Codec.denoteAll r.args), (K w.params).In h → PySem.W.Codec.decAll r.args args = some a → PySem.W.Codec.app r.args r.asked a = true →
      PySem.W.WellAll w.params h vals args → vals.length = xs.length ∧ vals.all okV = true ∧ ∃ ret : List Int, r.ret.enc (PySem.W.Codec.app r.args r.f a) = .list (ret.map .int) ∧
        sp (K w.params) (vals.map abV) (argHp (K w.params) h) (fun v H => ∃ b, v = .ref b ∧ H b = some (.lst (ret.map V.int))) fun _ _ _ => False) :
    PySem.W.WalkOS q loose XP YP r d [] (fun f vs => PySem.call f vs) := by
  intro w s₀ s₁ mg mb G Y fa o pm cd doc dV kV ho hd hcd hD hmg hg args vals as hpre hlay hrd hwl hlo
  obtain rfl : dV = .none := PySem.W.Dflts.none hD hdf
  obtain rfl : kV = .none := PySem.W.Dflts.noKw hD
  have KX := hY w _ Y
  obtain ⟨fd, hb, hF⟩ := F w mg fa _ KX G.T.g hmg
  obtain ⟨a, hdec, hask⟩ := os_preL hpre
  obtain ⟨hlen, hok, ret, henc, hs⟩ := hsp w s₁.heap vals args a KX hdec hask hwl
  refine PySem.W.enter_call (codeAny_mono (spec_call (cl := classAt s₀.heap) KX G.T.g G.T.b G.T.builtins G.T.nolimit hg hr hF (fun s => hb s vals hlen) hok hs fun H e s' z => z) fun r s' hq => ?_)
  obtain ⟨⟨b, rfl, hrd⟩, h2, h3, h4⟩ := hq
  exact ⟨.inl ⟨.ref b, .list (ret.map .int), [b], rfl, fun _ => rfl, hrd, os_postL hdec henc, fun h => absurd h Bool.false_ne_true⟩, h2, h3, h4⟩
theorem well_int {P : Params} {h : Heap} {v : Value} {i : Int} (x : PySem.W.Well P h v (.int i)) : abV v = .int i ∧ okV v = true := by
  cases x
  exact ⟨rfl, rfl⟩
theorem well_ints_all {P : Params} {h : Heap} : ∀ {vs : List Value} {ns : List Int}, PySem.W.WellAll P h vs (ns.map .int) → vs.all okV = true ∧ vs.map abV = ns.map V.int
  | [], [], _ => ⟨rfl, rfl⟩
  | v :: vs, n :: ns, x => by
    cases x with
    | cons a b =>
      obtain ⟨e1, e2⟩ := well_int a
      obtain ⟨e3, e4⟩ := well_ints_all b
      exact ⟨by rw [List.all_cons, e2, e3]; rfl, by rw [List.map_cons, List.map_cons, e1, e4]⟩
  | [], n :: ns, x => by cases x
  | v :: vs, [], x => by cases x
theorem well_ints {P : Params} {h : Heap} {v : Value} {ns : List Int} {K : PySem.W.Frag} (KX : K.In h) (hl : ns.length ≤ sizeLine) (x : PySem.W.Well P h v (.list (ns.map .int))) :
    okV v = true ∧ ∃ a, abV v = .ref a ∧ SqL K (argHp K h) a (ns.map V.int) := by
  cases x with
  | @list a vs _ ho hall =>
    obtain ⟨e1, e2⟩ := well_ints_all hall
    have el : vs.length = ns.length := by
      have := congrArg List.length e2
      simpa using this
    refine ⟨rfl, a, rfl, ?_⟩
    rw [← e2]
    exact argHp_sql KX ⟨ho, e1, by rw [el]; exact hl⟩
end L2
namespace L2
open PySem PySem.Spec PyProof.Rows
theorem same_new {H : Hp} {p : Addr} (h : H p = none) (o : HO) : Same H (upd H p o) := fun b u q => by rw [upd_ne (ne_of_none q h)]; exact q
theorem one_le (z : V) : ([z] : List V).length ≤ sizeLine := by
  show 1 ≤ sizeLine
  decide
structure Callee (P : Program) (w : World) (K : PySem.W.Frag) (mg : Str → Option Value) (base : Heap) (k : Nat) (x : Str) (ps : List Str) (sp : Sp) : Prop where
  ex : ∃ (f : Addr) (fd : FuncData), FnOk P w K mg base CX0 k f fd ps sp ∧ mg x = some (.ref f) ∧ PySem.W.keepIn K (.ref f) = true ∧ Binds K fd ps []
structure TopDef (K : PySem.W.Frag) (mg : Str → Option Value) (x : Str) (st : Stmt) (ps : List Str) : Prop where
  ex : ∃ (f : Addr) (fd : FuncData), Fun K x x st f fd ∧ mg x = some (.ref f) ∧ Binds K fd ps [] ∧ ∀ (s : Shared) (us : List Value), us.length = ps.length → BindsTo s fd ⟨us, []⟩ (ps.zip us)
theorem Fun.bindsTo {K : PySem.W.Frag} {x qual : Str} {st : Stmt} {f : Addr} {fd : FuncData} {ps : List Str} (F : Fun K x qual st f fd)
    (h : ∀ (kV doc pm : Value) (an : Option Addr) (cdv ct : Value) (us : List Value), us.length = ps.length → bindArgs (PySem.W.fnOf x qual (defArgs st) (defBody st) (defScope st) .none kV doc pm an cdv ct) ⟨us, []⟩ = pure (ps.zip us)) :
    ∀ (s : Shared) (us : List Value), us.length = ps.length → BindsTo s fd ⟨us, []⟩ (ps.zip us) := by
  obtain ⟨oc, od, kV, doc, pm, an, cdv, ct, osl, rfl, lk, hcd⟩ := F.ex
  exact fun s us hl => .of_eq (h kV doc pm an cdv ct us hl)
theorem topDef_mk {K : PySem.W.Frag} {h : Heap} {mg : Str → Option Value} (X : K.In h) (G : h.Ns mainGlobals mg) {x : Str} {st : Stmt} {ps : List Str} {f : Addr} {oc : Value} {od an : Option Addr} {osl : Array (Option Value)} {kV doc pm cdv ct : Value}
    (a : PySem.W.nsIn K mainGlobals x = some (some (.ref f))) (l : K.lookup f = some ⟨oc, od, .func (PySem.W.fnOf x x (defArgs st) (defBody st) (defScope st) .none kV doc pm an cdv ct), osl⟩)
    (c : PySem.W.codeIn K cdv x = true) (k : PySem.W.keepIn K (.ref f) = true)
    (b : ∀ (kV doc pm : Value) (an : Option Addr) (cdv ct : Value) (us : List Value), us.length = ps.length → bindArgs (PySem.W.fnOf x x (defArgs st) (defBody st) (defScope st) .none kV doc pm an cdv ct) ⟨us, []⟩ = pure (ps.zip us)) :
    TopDef K mg x st ps :=
  have F := fun_mk (st := st) l c k
  ⟨_, _, F, PySem.W.mg_of X G a, F.binds b, F.bindsTo b⟩
theorem TopDef.callee {P : Program} {w : World} {K : PySem.W.Frag} {mg : Str → Option Value} {base : Heap} {k : Nat} {x : Str} {st : Stmt} {ps : List Str} {sp : Sp} (T : TopDef K mg x st ps)
    (h : ∀ f fd, Fun K x x st f fd → FnOk P w K mg base CX0 k f fd ps sp) : Callee P w K mg base k x ps sp := by
  obtain ⟨f, fd, F, m, b, _⟩ := T.ex
  exact ⟨f, fd, h f fd F, m, F.kp, b⟩
section
variable {X : Cx}
theorem pe_callC {k : Nat} {x : Str} {ps : List Str} {sp : Sp} {p pos : Pos} {e : Expr} {es : List Expr} {t : TA} (C : Callee X.prog X.w X.K X.mg X.base k x ps sp) (hr : Room k X.A) (hg : Gl X x) (ha : PA X (e :: es) t)
    (hx : Passes CX0 X E0 := by exact pass0) (hdb : (x == ("__debug__" : Str)) = false := by decide) (he : starEach (e :: es) X.env = (false, eval e X.env) :: starEach es X.env := by rfl) (hpl : (backTo pos (starEach es X.env)).any (·.1) = false := by rfl) :
    PE X (.Call (.Name x p) (e :: es) [] pos) (tCall sp [] E0 t) := by
  obtain ⟨f, fd, G, m, kp, b⟩ := C.ex
  exact pe_call G hr hg m kp b .nil hx ha hdb he hpl
theorem pe_globI {x : Str} {i : Int} {tk : Tok} {pos : Pos} (hg : Gl X x) (hm : X.mg x = some (.int i tk)) (hd : (x == ("__debug__" : Str)) = false := by decide) : PE X (.Name x pos) (tC (.int i)) := pe_glob hg hm ⟨_, rfl⟩ hd
theorem ip_of {op : Operator} {r : R2} (h : OpR X (inplaceOp op) r) : PIp X op r := h
theorem mt_bitlen : MtR X "int.bit_length" (fun x xs H Q => ∃ i, x = .int i ∧ xs = [] ∧ Q (.int ((Builtin.Int.intBits i : Nat) : Int)) H) := by
  intro pins s σ H x xs v us Q I rx rs h
  obtain ⟨i, rfl, rfl, h⟩ := h
  obtain ⟨t, rfl⟩ := rx
  cases rs
  exact PySem.call_gives F.slot_int_bit_length (typeIs_int s i t) F.entry_int_bit_length (F.args_int_bit_length_1 _) (PySem.AutoIntG2.int_bit_length_int_0 i t) ⟨.int ((Builtin.Int.intBits i : Nat) : Int), H, I.tok _, ⟨_, rfl⟩, h⟩
end
theorem dec_consI {c : PySem.W.Codec} {cs : List PySem.W.Codec} {args : List PySem.W.WData} {a : PySem.W.Codec.denoteAll (c :: cs)} (h : PySem.W.Codec.decAll (c :: cs) args = some a) :
    ∃ x r, args = x :: r ∧ c.dec x = some a.1 ∧ PySem.W.Codec.decAll cs r = some a.2 := by
  cases args with
  | nil => cases h
  | cons x r =>
    obtain ⟨a1, b1, h1, h2, e⟩ := PySem.W.Codec.both_inv Prod.mk (c.dec x) (PySem.W.Codec.decAll cs r) a h
    subst e
    exact ⟨x, r, rfl, h1, h2⟩
theorem dec_endI {args : List PySem.W.WData} {a : PySem.W.Codec.denoteAll []} (h : PySem.W.Codec.decAll [] args = some a) : args = [] := by
  cases args with
  | nil => rfl
  | cons x r => cases h
theorem int_at {ns : List Int} {j : Nat} {y : V} (h : (ns.map V.int)[j]? = some y) : ∃ a, ns[j]? = some a ∧ y = V.int a := by
  rw [List.getElem?_map] at h
  cases e : ns[j]? with
  | none => rw [e] at h; cases h
  | some a => rw [e] at h; exact ⟨a, rfl, (Option.some.inj h).symm⟩
end L2
namespace Cr
open PySem
theorem and_nat (a b : Nat) : Builtin.bitAnd (a : Int) (b : Int) = ((a &&& b : Nat) : Int) := by
  unfold Builtin.bitAnd
  rw [decide_eq_true (Int.natCast_nonneg a), decide_eq_true (Int.natCast_nonneg b)]
  simp only [Int.toNat_natCast]
theorem or_nat (a b : Nat) : Builtin.bitOr (a : Int) (b : Int) = ((a ||| b : Nat) : Int) := by
  unfold Builtin.bitOr Builtin.bitAnd
  have h : ∀ c : Nat, decide ((0 : Int) ≤ Builtin.bitNot (c : Int)) = false := fun c => by
    apply decide_eq_false
    unfold Builtin.bitNot
    omega
  have h2 : ∀ c : Nat, Builtin.bitNot (Builtin.bitNot (c : Int)) = (c : Int) := fun c => by
    unfold Builtin.bitNot
    omega
  rw [h, h]
  simp only [h2, Int.toNat_natCast]
theorem xor_add_and : ∀ (n a b : Nat), a ≤ n → (a ^^^ b) + (a &&& b) = a ||| b
  | 0, a, b, h => by
    have : a = 0 := by omega
    subst this
    simp
  | n + 1, a, b, h => by
    by_cases ha : a = 0
    · subst ha
      simp
    · have ih := xor_add_and n (a / 2) (b / 2) (by omega)
      have e1 := @Nat.xor_div_two a b
      have e2 := @Nat.and_div_two a b
      have e3 := @Nat.or_div_two a b
      have m1 := @Nat.xor_mod_two_eq_one a b
      have m2 := @Nat.and_mod_two_eq_one a b
      have m3 := @Nat.or_mod_two_eq_one a b
      rw [← e1, ← e2, ← e3] at ih
      generalize a ^^^ b = x at *
      generalize a &&& b = y at *
      generalize a ||| b = z at *
      omega
theorem xor_nat (a b : Nat) : Builtin.bitXor (a : Int) (b : Int) = ((a ^^^ b : Nat) : Int) := by
  unfold Builtin.bitXor
  rw [or_nat, and_nat]
  have := xor_add_and a a b (Nat.le_refl _)
  omega
theorem odd_part : ∀ (n c : Nat), c ≤ n → c ≠ 0 → ∃ k m, c = 2 ^ k * (2 * m + 1)
  | 0, c, h, h0 => absurd (Nat.le_zero.mp h) h0
  | n + 1, c, h, h0 => by
    by_cases hc : c % 2 = 1
    · exact ⟨0, c / 2, by rw [Nat.pow_zero, Nat.one_mul]; omega⟩
    · obtain ⟨k, m, e⟩ := odd_part n (c / 2) (by omega) (by omega)
      refine ⟨k + 1, m, ?_⟩
      rw [Nat.pow_succ, Nat.mul_right_comm, ← e]
      omega
def Low (c k : Nat) : Prop := c.testBit k = true ∧ ∀ j, j < k → c.testBit j = false
theorem low_of (c : Nat) (h : c ≠ 0) : ∃ k, Low c k ∧ Builtin.bitAnd (c : Int) (-(c : Int)) = ((2 ^ k : Nat) : Int) := by
  obtain ⟨k, m, e⟩ := odd_part c c (Nat.le_refl _) h
  have hp : 0 < 2 ^ k := Nat.pow_pos (by decide)
  have e1 : c = 2 ^ k * (2 * m) + 2 ^ k := by rw [e, Nat.mul_add, Nat.mul_one]
  have bit : ∀ j, c.testBit j = if j < k then false else (2 * m + 1).testBit (j - k) := fun j => by
    rw [e, Nat.testBit_two_pow_mul]
    by_cases hj : j < k
    · rw [if_pos hj, decide_eq_false (by omega), Bool.false_and]
    · rw [if_neg hj, decide_eq_true (by omega), Bool.true_and]
  refine ⟨k, ⟨?_, fun j hj => by rw [bit, if_pos hj]⟩, ?_⟩
  · rw [bit, if_neg (Nat.lt_irrefl _), Nat.sub_self, Nat.testBit_zero]
    simp
  · have e2 : Builtin.bitNot (-(c : Int)) = ((c - 1 : Nat) : Int) := by
      unfold Builtin.bitNot
      omega
    have e3 : (c &&& (c - 1)) = 2 ^ k * (2 * m) := by
      apply Nat.eq_of_testBit_eq
      intro j
      have b2 : c - 1 = 2 ^ k * (2 * m) + (2 ^ k - 1) := by omega
      rw [Nat.testBit_and, bit, b2, Nat.testBit_two_pow_mul_add _ (by omega), Nat.testBit_two_pow_mul]
      by_cases hj : j < k
      · rw [if_pos hj, if_pos hj, decide_eq_false (by omega)]
        simp
      · rw [if_neg hj, if_neg hj, decide_eq_true (by omega), Bool.true_and]
        generalize hd : j - k = d
        cases d with
        | zero => simp
        | succ d =>
          rw [Nat.testBit_succ, Nat.testBit_succ]
          have q1 : (2 * m + 1) / 2 = m := by omega
          have q2 : (2 * m) / 2 = m := by omega
          rw [q1, q2, Bool.and_self]
    unfold Builtin.bitAnd
    rw [decide_eq_true (Int.natCast_nonneg c), decide_eq_false (show ¬ (0 : Int) ≤ -(c : Int) by omega)]
    simp only [Int.toNat_natCast, e2]
    rw [e3]
    omega
theorem low_drop {c k : Nat} (h : Low c k) : c ^^^ 2 ^ k < c ∧ ∀ j, (c ^^^ 2 ^ k).testBit j = (c.testBit j && decide (j ≠ k)) := by
  have b : ∀ j, (c ^^^ 2 ^ k).testBit j = (c.testBit j && decide (j ≠ k)) := fun j => by
    rw [Nat.testBit_xor, Nat.testBit_two_pow]
    by_cases hj : k = j
    · subst hj
      rw [h.1]
      simp
    · have h2 : j ≠ k := fun e => hj e.symm
      simp [hj, h2]
  refine ⟨?_, b⟩
  have le : c ^^^ 2 ^ k ≤ c := Nat.le_of_testBit fun j hj => by
    rw [b] at hj
    exact (Bool.and_eq_true_iff.mp hj).1
  have ne : c ^^^ 2 ^ k ≠ c := fun e => by
    have := b k
    rw [e, h.1] at this
    simp at this
  omega
theorem bits_pow (k : Nat) : ((Builtin.Int.intBits ((2 ^ k : Nat) : Int) : Nat) : Int) - 1 = (k : Int) := by
  unfold Builtin.Int.intBits
  have hp : 0 < 2 ^ k := Nat.pow_pos (by decide)
  have h0 : (((2 ^ k : Nat) : Int) == 0) = false := by
    rw [beq_eq_false_iff_ne]
    omega
  rw [h0, if_neg Bool.false_ne_true]
  have e : ((2 ^ k : Nat) : Int).natAbs = 2 ^ k := by omega
  rw [e, Nat.log2_two_pow]
  omega
def ms (N c : Nat) : List Nat := (List.range N).filter fun i => c.testBit i
theorem ms_zero (N : Nat) : ms N 0 = [] := by
  unfold ms
  simp
theorem ms_low {N c k : Nat} (h : Low c k) (hN : c < 2 ^ N) : ms N c = k :: ms N (c ^^^ 2 ^ k) := by
  have hk : k < N := by
    have h1 := Nat.ge_two_pow_of_testBit h.1
    have h2 : 2 ^ k < 2 ^ N := by omega
    exact (Nat.pow_lt_pow_iff_right (by decide)).mp h2
  have b := (low_drop h).2
  obtain ⟨m, rfl⟩ : ∃ m, N = (k + 1) + m := ⟨N - (k + 1), by omega⟩
  unfold ms
  rw [List.range_add, List.filter_append, List.filter_append, List.range_succ, List.filter_append, List.filter_append]
  have e1 : (List.range k).filter (fun i => c.testBit i) = [] := by
    rw [List.filter_eq_nil_iff]
    intro i hi
    rw [h.2 i (List.mem_range.mp hi)]
    simp
  have e2 : (List.range k).filter (fun i => (c ^^^ 2 ^ k).testBit i) = [] := by
    rw [List.filter_eq_nil_iff]
    intro i hi
    rw [b, h.2 i (List.mem_range.mp hi)]
    simp
  have e3 : ((List.range m).map (fun x => k + 1 + x)).filter (fun i => (c ^^^ 2 ^ k).testBit i) = ((List.range m).map (fun x => k + 1 + x)).filter (fun i => c.testBit i) := by
    apply List.filter_congr
    intro i hi
    obtain ⟨j, _, rfl⟩ := List.mem_map.mp hi
    rw [b, decide_eq_true (by omega), Bool.and_true]
  have e4 : [k].filter (fun i => c.testBit i) = [k] := by
    rw [List.filter_cons, if_pos h.1]
    rfl
  have e5 : [k].filter (fun i => (c ^^^ 2 ^ k).testBit i) = [] := by
    rw [List.filter_cons, b]
    simp
  rw [e1, e2, e3, e4, e5]
  rfl
theorem ms_le (N c : Nat) : (ms N c).length ≤ N := by
  have := List.length_filter_le (fun i => c.testBit i) (List.range N)
  rw [List.length_range] at this
  exact this
def crowd (l : List Nat) : Nat := l.foldl (fun c p => c ||| 2 ^ p) 0
theorem crowd_snoc (l : List Nat) (p : Nat) : crowd (l ++ [p]) = crowd l ||| 2 ^ p := by
  unfold crowd
  rw [List.foldl_append]
  rfl
theorem fold_or_bit (i : Nat) : ∀ (l : List Nat) (c : Nat), (l.foldl (fun c p => c ||| 2 ^ p) c).testBit i = (c.testBit i || l.contains i)
  | [], c => by simp
  | p :: r, c => by
    rw [List.foldl_cons, fold_or_bit i r, Nat.testBit_or, Nat.testBit_two_pow, List.contains_cons]
    by_cases h : p = i
    · subst h
      simp
    · rw [decide_eq_false h, beq_eq_false_iff_ne.mpr (fun e => h e.symm)]
      simp
theorem crowd_bit (l : List Nat) (i : Nat) : (crowd l).testBit i = l.contains i := by
  unfold crowd
  rw [fold_or_bit]
  simp
def cn (l : List Nat) (i : Nat) : Nat := l.countP fun p => p.testBit i
def pl : List Nat → Nat → Nat
  | [], _ => 0
  | p :: r, i => (p.testBit i).toNat + 2 * pl r i
theorem pl_append (i : Nat) : ∀ a b : List Nat, pl (a ++ b) i = pl a i + 2 ^ a.length * pl b i
  | [], b => by simp [pl]
  | p :: r, b => by
    show (p.testBit i).toNat + 2 * pl (r ++ b) i = _
    rw [pl_append i r b, List.length_cons, Nat.pow_succ]
    show _ = (p.testBit i).toNat + 2 * pl r i + _
    rw [Nat.mul_add, Nat.mul_comm (2 ^ r.length) 2, Nat.mul_assoc]
    omega
theorem pl_lt (i : Nat) : ∀ a : List Nat, pl a i < 2 ^ a.length
  | [] => by simp [pl]
  | p :: r => by
    have := pl_lt i r
    show (p.testBit i).toNat + 2 * pl r i < _
    rw [List.length_cons, Nat.pow_succ]
    have : (p.testBit i).toNat ≤ 1 := Bool.toNat_le _
    omega
theorem cn_append (a b : List Nat) (i : Nat) : cn (a ++ b) i = cn a i + cn b i := by
  unfold cn
  rw [List.countP_append]
theorem cn_one (p i : Nat) : cn [p] i = (p.testBit i).toNat := by
  unfold cn
  cases h : p.testBit i <;> simp [List.countP_cons, h]
theorem adder (a b c i : Nat) : (a.testBit i).toNat + (b.testBit i).toNat + (c.testBit i).toNat = (((a ^^^ b) ^^^ c).testBit i).toNat + 2 * (((a &&& b) ||| ((a ^^^ b) &&& c)).testBit i).toNat := by
  rw [Nat.testBit_xor, Nat.testBit_xor, Nat.testBit_or, Nat.testBit_and, Nat.testBit_and, Nat.testBit_xor]
  cases a.testBit i <;> cases b.testBit i <;> cases c.testBit i <;> rfl
structure AtLeast (ps : List Nat) (c0 least k crowd more : Nat) : Prop where
  same : ∀ i, crowd.testBit i = (c0.testBit i && decide (pl ps i / 2 ^ k = least / 2 ^ k))
  more : ∀ i, more.testBit i = (c0.testBit i && decide (least / 2 ^ k < pl ps i / 2 ^ k))
theorem AtLeast.start {ps : List Nat} {c0 least : Nat} (h : least / 2 ^ ps.length = 0) : AtLeast ps c0 least ps.length c0 0 := by
  have e : ∀ i, pl ps i / 2 ^ ps.length = 0 := fun i => Nat.div_eq_of_lt (pl_lt i ps)
  exact ⟨fun i => by rw [h, e]; simp, fun i => by rw [h, e]; simp⟩
theorem pl_bit {ps : List Nat} {k p : Nat} (h : ps[k]? = some p) (i : Nat) : pl ps i / 2 ^ k = 2 * (pl ps i / 2 ^ (k + 1)) + (p.testBit i).toNat := by
  obtain ⟨hk, e⟩ := List.getElem?_eq_some_iff.mp h
  have e1 : ps = ps.take k ++ p :: ps.drop (k + 1) := by
    rw [← e, ← List.drop_eq_getElem_cons hk, List.take_append_drop]
  have l1 : (ps.take k).length = k := by rw [List.length_take]; omega
  have lt := pl_lt i (ps.take k)
  rw [l1] at lt
  have e2 : pl ps i = pl (ps.take k) i + 2 ^ k * ((p.testBit i).toNat + 2 * pl (ps.drop (k + 1)) i) := by
    conv => lhs; rw [e1]
    rw [pl_append, l1]
    rfl
  have hp : 0 < 2 ^ k := Nat.pow_pos (by decide)
  have e3 : pl ps i / 2 ^ k = (p.testBit i).toNat + 2 * pl (ps.drop (k + 1)) i := by
    rw [e2, Nat.add_mul_div_left _ _ hp, Nat.div_eq_of_lt lt, Nat.zero_add]
  have e4 : pl ps i / 2 ^ (k + 1) = (pl ps i / 2 ^ k) / 2 := by rw [Nat.pow_succ, Nat.div_div_eq_div_mul]
  have : (p.testBit i).toNat ≤ 1 := Bool.toNat_le _
  omega
theorem AtLeast.step {ps : List Nat} {c0 least k crowd more p : Nat} (A : AtLeast ps c0 least (k + 1) crowd more) (h : ps[k]? = some p) :
    ((least / 2 ^ k) % 2 = 1 → AtLeast ps c0 least k (crowd &&& p) more) ∧ (¬ (least / 2 ^ k) % 2 = 1 → AtLeast ps c0 least k (crowd ^^^ (crowd &&& p)) (more ||| (crowd &&& p))) := by
  have e4 : least / 2 ^ (k + 1) = (least / 2 ^ k) / 2 := by rw [Nat.pow_succ, Nat.div_div_eq_div_mul]
  refine ⟨fun hl => ⟨fun i => ?_, fun i => ?_⟩, fun hl => ⟨fun i => ?_, fun i => ?_⟩⟩
  · have b := pl_bit h i
    rw [Nat.testBit_and, A.same, e4]
    cases hc : c0.testBit i
    · rfl
    · cases hp : p.testBit i
      · rw [hp] at b
        have : ¬ pl ps i / 2 ^ k = least / 2 ^ k := by simp at b; omega
        simp [this]
      · rw [hp] at b
        have : (pl ps i / 2 ^ (k + 1) = least / 2 ^ k / 2) ↔ (pl ps i / 2 ^ k = least / 2 ^ k) := by simp at b; omega
        simp [this]
  · have b := pl_bit h i
    rw [A.more, e4]
    cases hc : c0.testBit i
    · rfl
    · cases hp : p.testBit i
      all_goals
        rw [hp] at b
        have : (least / 2 ^ k / 2 < pl ps i / 2 ^ (k + 1)) ↔ (least / 2 ^ k < pl ps i / 2 ^ k) := by simp at b; omega
        simp [this]
  · have b := pl_bit h i
    rw [Nat.testBit_xor, Nat.testBit_and, A.same, e4]
    cases hc : c0.testBit i
    · rfl
    · cases hp : p.testBit i
      · rw [hp] at b
        have : (pl ps i / 2 ^ (k + 1) = least / 2 ^ k / 2) ↔ (pl ps i / 2 ^ k = least / 2 ^ k) := by simp at b; omega
        simp [this]
      · rw [hp] at b
        have : ¬ pl ps i / 2 ^ k = least / 2 ^ k := by simp at b; omega
        simp [this]
  · have b := pl_bit h i
    rw [Nat.testBit_or, Nat.testBit_and, A.same, A.more, e4]
    cases hc : c0.testBit i
    · rfl
    · cases hp : p.testBit i
      · rw [hp] at b
        have : (least / 2 ^ k / 2 < pl ps i / 2 ^ (k + 1)) ↔ (least / 2 ^ k < pl ps i / 2 ^ k) := by simp at b; omega
        simp [this]
      · rw [hp] at b
        have t1 : (least / 2 ^ k / 2 < pl ps i / 2 ^ (k + 1) ∨ pl ps i / 2 ^ (k + 1) = least / 2 ^ k / 2) ↔ (least / 2 ^ k < pl ps i / 2 ^ k) := by simp at b; omega
        simp only [Bool.true_and, Bool.and_true]
        rw [← Bool.decide_or]
        exact decide_eq_decide.mpr t1
theorem AtLeast.fin {ps : List Nat} {c0 least crowd more : Nat} (A : AtLeast ps c0 least 0 crowd more) (i : Nat) : (more ||| crowd).testBit i = (c0.testBit i && decide (least ≤ pl ps i)) := by
  rw [Nat.testBit_or, A.same, A.more]
  rw [Nat.pow_zero, Nat.div_one, Nat.div_one]
  cases c0.testBit i
  · rfl
  · have t : (least < pl ps i ∨ pl ps i = least) ↔ least ≤ pl ps i := by omega
    simp only [Bool.true_and]
    rw [← Bool.decide_or]
    exact decide_eq_decide.mpr t
end Cr
namespace L2
open PySem PySem.Spec PyProof.Rows
theorem pg_tupK {X : Cx} {K : PySem.W.Frag} {es : List Expr} {k : Nat} {t : TGs} {n : Nat} {pos : Pos} (hK : X.K = K) (hc : X.calm = true) (h : PGs X es t)
    (hn : (assignEach es X.env).length = n := by rfl) (hst : (assignEach es X.env).findIdx? (·.1) = none := by rfl) : PG X (.Tuple es k pos) (gTup K n t) := by
  subst hK
  exact pg_tup hc h hn hst
def tTru (K : PySem.W.Frag) (ta : TE) : TT := fun σ H Q => ta σ H fun x H' => ∃ k, TruV K x H' k ∧ Q k H'
theorem pt_truthK {X : Cx} {K : PySem.W.Frag} {a : Expr} {ta : TE} (hK : X.K = K) (ha : PE X a ta) (he : ∀ whole, isTrue a X.env whole = (do let v ← whole; standAt a.pos; holding [v] (truthy v))) :
    PT X a (tTru K ta) := by
  subst hK
  exact pt_truth ha he
theorem up_div (L c : Nat) (hc : 0 < c) : (L + c - 1) / c = if 0 < L then (L - 1) / c + 1 else 0 := by
  split
  · have e : L + c - 1 = (L - 1) + c := by omega
    rw [e, Nat.add_div_right _ hc]
  · have e : L = 0 := by omega
    subst e
    exact Nat.div_eq_of_lt (by omega)
theorem rangeSize_up (L c : Nat) (hc : 0 < c) : Builtin.Range.rangeSize 0 (L : Int) (c : Int) = (((L + c - 1) / c : Nat) : Int) := by
  unfold Builtin.Range.rangeSize
  rw [if_pos (show (c : Int) > 0 by omega), up_div L c hc]
  by_cases h : 0 < L
  · rw [if_pos (show (0 : Int) < (L : Int) by omega), if_pos h]
    have e : (L : Int) - 0 - 1 = ((L - 1 : Nat) : Int) := by omega
    rw [e, ← Int.natCast_ediv]
    rfl
  · rw [if_neg (show ¬ (0 : Int) < (L : Int) by omega), if_neg h]
    rfl
theorem RgC.up (L c : Nat) (hc : 0 < c) (hc2 : c ≤ 1000000) (hL : L ≤ 1000000) : RgC 0 (L : Int) (c : Int) ((L + c - 1) / c) := by
  have b : (L + c - 1) / c ≤ 2000000 := Nat.le_trans (Nat.div_le_self _ _) (by omega)
  have b1 : (((L + c - 1) / c : Nat) : Int) ≤ 2000000 := Int.ofNat_le.mpr b
  have b0 : (0 : Int) ≤ (((L + c - 1) / c : Nat) : Int) := Int.natCast_nonneg _
  refine ⟨by omega, by omega, ?_, rangeSize_up L c hc⟩
  unfold Builtin.Range.small
  rw [rangeSize_up L c hc]
  simp only [Builtin.Range.rangeFitsLong, Bool.and_eq_true, Bool.or_eq_true, decide_eq_true_eq, beq_iff_eq, if_pos (show (c : Int) > 0 by omega)]
  generalize (((L + c - 1) / c : Nat) : Int) = n at b0 b1 ⊢
  omega
theorem lc_pure {K : PySem.W.Frag} {a : Addr} {xs : List V} {j : Nat} {tt : TT} {te : TE} {vs : List Nat} {σ : St} {H1 : Hp} {D : Addr} {Qd : Hp → Prop} (keep : V → Bool) (fe : V → V) (hS : SqL K H1 a xs) (hD : H1 D = none) (hz : xs.length ≤ sizeLine)
    (hw : ∀ x, wipe ((wipe σ vs).set j (some x)) vs = wipe σ vs)
    (ht : ∀ x ∈ xs, ∀ H Q, Same H1 H → Q (keep x) H → tt ((wipe σ vs).set j (some x)) H Q)
    (he : ∀ x ∈ xs, keep x = true → ∀ H Q, Same H1 H → Q (fe x) H → te ((wipe σ vs).set j (some x)) H Q)
    (hd : ∀ H', H' = upd H1 D (.lst ((xs.filter keep).map fe)) → Qd H') :
    ∃ W : Nat → Nat → Hp → Prop, (∃ m, W 0 m (upd H1 D (.lst []))) ∧ ∀ i m H, W i m H →
      ((Itl K a).stop i H ∧ Qd H) ∨ ((Itl K a).go i H ∧ ∃ Nx : Hp → Prop, (∀ H', Nx H' → ∃ m', m' < m ∧ W (i + 1) m' H') ∧ ∀ x H', (Itl K a).yld i H x H' → gName j x (wipe σ vs) H' fun σ2 H2 => wipe σ2 vs = wipe σ vs ∧ tt σ2 H2 fun b H3 =>
        if b = true then te σ2 H3 fun y H4 => ∃ acc, H4 D = some (.lst acc) ∧ acc.length < sizeLine ∧ Nx (upd H4 D (.lst (acc ++ [y]))) else Nx H3) := by
  refine lc_list (fun i H' => H' = upd H1 D (.lst (((xs.take i).filter keep).map fe))) rfl (fun i H' _ e => e ▸ (same_new hD _).seq hS) (fun i x H' hx e => ?_) (fun H' e => hd H' (by rw [e, List.take_length]))
  subst e
  have hi := (List.getElem?_eq_some_iff.mp hx).1
  have hm := List.mem_of_getElem? hx
  have sm : Same H1 (upd H1 D (.lst (((xs.take i).filter keep).map fe))) := same_new hD _
  have tk : xs.take (i + 1) = xs.take i ++ [x] := by
    rw [List.take_add_one, hx]
    rfl
  refine ⟨hw x, ht x hm _ _ sm ?_⟩
  cases hk : keep x with
  | true =>
    refine iteT (he x hm hk _ _ sm ⟨_, upd_same, ?_, ?_⟩)
    · rw [List.length_map]
      have h1 := List.length_filter_le keep (xs.take i)
      rw [List.length_take] at h1
      omega
    · rw [upd_upd, tk, List.filter_append, List.map_append, List.filter_cons, if_pos hk]
      rfl
  | false =>
    refine iteF ?_
    rw [tk, List.filter_append, List.filter_cons, if_neg (by rw [hk]; simp)]
    simp
theorem for_zip {K : PySem.W.Frag} {a b : Addr} {xs ys : List V} {g : TG} {tb : TS} {D : Ends} {σ : St} {H : Hp} (Pv : Nat → St → Hp → Prop) (h0 : Pv 0 σ H) (hl : ∀ i σ H, i ≤ min xs.length ys.length → Pv i σ H → SqL K H a xs ∧ SqL K H b ys)
    (hs : ∀ i x y T σ H, xs[i]? = some x → ys[i]? = some y → Pv i σ H → H T = none → g (.ref T) σ (upd H T (.tup [x, y])) fun σ2 H2 => tb { D with nx := Pv (i + 1), ct := Pv (i + 1), bk := D.nx } σ2 H2) (hd : ∀ σ H, Pv (min xs.length ys.length) σ H → D.nx σ H) :
    ∃ W : Nat → Nat → St → Hp → Prop, (∃ m, W 0 m σ H) ∧ ∀ i m σ H, W i m σ H →
      ((Itz K a b).stop i H ∧ D.nx σ H) ∨ ((Itz K a b).go i H ∧ ∃ N : St → Hp → Prop, (∀ σ' H', N σ' H' → ∃ m', m' < m ∧ W (i + 1) m' σ' H') ∧ ∀ x H', (Itz K a b).yld i H x H' → g x σ H' fun σ2 H2 => tb { D with nx := N, ct := N, bk := D.nx } σ2 H2) := by
  refine ⟨fun i m σ H => m = min xs.length ys.length - i ∧ i ≤ min xs.length ys.length ∧ Pv i σ H, ⟨_, rfl, Nat.zero_le _, h0⟩, ?_⟩
  rintro i m σ H ⟨rfl, hi, p⟩
  obtain ⟨q1, q2⟩ := hl i σ H hi p
  by_cases hlt : i < min xs.length ys.length
  · have l1 : i < xs.length := by omega
    have l2 : i < ys.length := by omega
    refine .inr ⟨⟨xs, ys, xs[i], ys[i], q1, q2, by simp [l1], by simp [l2]⟩, Pv (i + 1), fun σ' H' p' => ⟨_, by omega, rfl, hlt, p'⟩, fun v H' y => ?_⟩
    obtain ⟨T, x, y, rfl, hT, rfl, e1, e2⟩ := y
    exact hs i x y T σ H (e1 xs q1) (e2 ys q2) p hT
  · have e : i = min xs.length ys.length := by omega
    refine .inl ⟨⟨xs, ys, q1, q2, by omega⟩, hd σ H (e ▸ p)⟩
theorem lc_zip {K : PySem.W.Frag} {a b : Addr} {xs ys : List V} {g : TG} {tt : TT} {te : TE} {vs : List Nat} {σ : St} {H1 : Hp} {D : Addr} {Qd : Hp → Prop} (Pv : Nat → Hp → Prop) (h0 : Pv 0 (upd H1 D (.lst []))) (hl : ∀ i H, i ≤ min xs.length ys.length → Pv i H → SqL K H a xs ∧ SqL K H b ys)
    (hs : ∀ i x y T H, xs[i]? = some x → ys[i]? = some y → Pv i H → H T = none → g (.ref T) (wipe σ vs) (upd H T (.tup [x, y])) fun σ2 H2 => wipe σ2 vs = wipe σ vs ∧ tt σ2 H2 fun b H3 =>
      if b = true then te σ2 H3 fun y H4 => ∃ acc, H4 D = some (.lst acc) ∧ acc.length < sizeLine ∧ Pv (i + 1) (upd H4 D (.lst (acc ++ [y]))) else Pv (i + 1) H3) (hd : ∀ H, Pv (min xs.length ys.length) H → Qd H) :
    ∃ W : Nat → Nat → Hp → Prop, (∃ m, W 0 m (upd H1 D (.lst []))) ∧ ∀ i m H, W i m H →
      ((Itz K a b).stop i H ∧ Qd H) ∨ ((Itz K a b).go i H ∧ ∃ Nx : Hp → Prop, (∀ H', Nx H' → ∃ m', m' < m ∧ W (i + 1) m' H') ∧ ∀ x H', (Itz K a b).yld i H x H' → g x (wipe σ vs) H' fun σ2 H2 => wipe σ2 vs = wipe σ vs ∧ tt σ2 H2 fun b H3 =>
        if b = true then te σ2 H3 fun y H4 => ∃ acc, H4 D = some (.lst acc) ∧ acc.length < sizeLine ∧ Nx (upd H4 D (.lst (acc ++ [y]))) else Nx H3) := by
  refine ⟨fun i m H => m = min xs.length ys.length - i ∧ i ≤ min xs.length ys.length ∧ Pv i H, ⟨_, rfl, Nat.zero_le _, h0⟩, ?_⟩
  rintro i m H ⟨rfl, hi, p⟩
  obtain ⟨q1, q2⟩ := hl i H hi p
  by_cases hlt : i < min xs.length ys.length
  · have l1 : i < xs.length := by omega
    have l2 : i < ys.length := by omega
    refine .inr ⟨⟨xs, ys, xs[i], ys[i], q1, q2, by simp [l1], by simp [l2]⟩, Pv (i + 1), fun H' p' => ⟨_, by omega, rfl, hlt, p'⟩, fun v H' y => ?_⟩
    obtain ⟨T, x, y, rfl, hT, rfl, e1, e2⟩ := y
    exact hs i x y T H (e1 xs q1) (e2 ys q2) p hT
  · have e : i = min xs.length ys.length := by omega
    refine .inl ⟨⟨xs, ys, q1, q2, by omega⟩, hd H (e ▸ p)⟩
section
variable {X : Cx}
theorem call_rng1 : CallR X (.type "range") (fun xs H Q => ∃ j : Int, xs = [.int j] ∧ ∀ p, H p = none → Q (.ref p) (upd H p (.rng 0 j))) := by
  intro pins s σ H xs us Q I r h
  obtain ⟨j, rfl, q⟩ := h
  obtain ⟨u, rfl, t, rfl⟩ := vals1 r
  refine PySem.call_range_1 ?_
  exact ⟨.ref s.heap.objs.size, upd H s.heap.objs.size (.rng 0 j), I.laid (t' := s.toks + 1 + 1) (fun b o e => Heap.get?_push_of_some _ e) (Nat.le_refl _) ⟨_, _, _, Heap.get?_push_size _ rfl⟩, rfl, q _ (I.hok.fresh (Nat.le_refl _))⟩
theorem call_list_rng (hc : X.calm = true) : CallR X (.type "list") (fun xs H Q => ∃ (p : Addr) (n : Nat), xs = [.ref p] ∧ H p = some (.rng 0 n) ∧ n ≤ 1000000 ∧ ∀ l, H l = none → Q (.ref l) (upd H l (.lst ((List.range n).map fun (i : Nat) => V.int (i : Int))))) := by
  intro pins s σ H xs us Q I r h
  obtain ⟨p, n, rfl, hp, hn, q⟩ := h
  obtain ⟨u, rfl, rx⟩ := vals1 r
  cases rx
  obtain ⟨t, u, v, ho⟩ := I.hok p _ hp
  have rg := RgC.up n 1 (by decide) (by decide) hn
  have e1 : (n + 1 - 1) / 1 = n := by rw [Nat.div_one]; omega
  rw [e1] at rg
  refine PySem.call_list_range (I.ok.hd hc) ho rg.2.2.1 rg.2.2.2 (by omega) fun h' tk acc' c' hk hS' hacc => ?_
  refine ⟨.ref s.heap.objs.size, _, I.laid (t' := tk) hk (Nat.le_refl _) (show ObjOk X.prog X.w _ h' _ (.lst ((List.range n).map fun (i : Nat) => V.int (i : Int))) from ⟨?_, acc'.toList, c', ?_, by simpa using hS'⟩), rfl, q _ (I.hok.fresh (Nat.le_refl _))⟩
  · rw [List.length_map, List.length_range, sizeLine_eq]
    omega
  · have sz : acc'.toList.length = n := by simpa using hacc.1
    have gen : ∀ (ys : List Value) (k : Nat), (∀ j v, ys[j]? = some v → ∃ t, v = Value.int (0 + ((k + j : Nat) : Int) * 1) t) → Vals ((List.range' k ys.length).map fun (i : Nat) => V.int (i : Int)) ys := by
      intro ys
      induction ys with
      | nil => intro k _; exact .nil
      | cons y r ih =>
        intro k hy
        obtain ⟨t, e⟩ := hy 0 y rfl
        rw [List.length_cons, List.range'_succ, List.map_cons]
        refine .cons ⟨t, ?_⟩ (ih (k + 1) fun j v hv => ?_)
        · rw [e]
          congr 1
          omega
        · obtain ⟨t, e⟩ := hy (j + 1) v (by simpa using hv)
          exact ⟨t, by rw [e]; congr 2; omega⟩
    have := gen acc'.toList 0 fun j v hv => by
      obtain ⟨t, e⟩ := hacc.2 j v (by simpa using hv)
      exact ⟨t, by rw [e]; congr 2; omega⟩
    rw [sz, ← List.range_eq_range'] at this
    exact this
end
structure ClsFacts (K : PySem.W.Frag) (C : Addr) : Prop where
  cl : Cls K C
  mks : PySem.W.makesIn K C = true
  kc : PySem.W.keepIn K (.ref C) = true
theorem clsFacts_mk {K : PySem.W.Frag} {C : Addr} (pg : PySem.W.plainGet K C Str.empty = true) (hd : PySem.W.hasDictIn K C = true) (po : PySem.W.plainOver K C = true) (sa : PySem.W.findIn K (.ref C) "__setattr__" = some (some (.builtin "object.__setattr__")))
    (mk : PySem.W.makesIn K C = true) (kc : PySem.W.keepIn K (.ref C) = true) : ClsFacts K C := ⟨⟨pg, hd, po, sa⟩, mk, kc⟩
structure MCallee (P : Program) (w : World) (K : PySem.W.Frag) (mg : Str → Option Value) (base : Heap) (k : Nat) (C : Addr) (m : Str) (ps : List Str) (sp : Sp) : Prop where
  ex : ∃ (f : Addr) (fd : FuncData), FnOk P w K mg base CX0 k f fd ps sp ∧ Meth K C m f ∧ Binds K fd ps []
  cls : Cls K C
structure TopMeth (K : PySem.W.Frag) (C : Addr) (m qual : Str) (st : Stmt) (ps : List Str) : Prop where
  ex : ∃ (f : Addr) (fd : FuncData), Fun K m qual st f fd ∧ PySem.W.findIn K (.ref C) m = some (some (.ref f)) ∧ PySem.W.isFn K (.ref f) = true ∧ Binds K fd ps []
theorem topMeth_mk {K : PySem.W.Frag} {C : Addr} {m qual : Str} {st : Stmt} {ps : List Str} {f : Addr} {oc : Value} {od an : Option Addr} {osl : Array (Option Value)} {kV doc pm cdv ct : Value}
    (a : PySem.W.findIn K (.ref C) m = some (some (.ref f))) (i : PySem.W.isFn K (.ref f) = true) (l : K.lookup f = some ⟨oc, od, .func (PySem.W.fnOf m qual (defArgs st) (defBody st) (defScope st) .none kV doc pm an cdv ct), osl⟩)
    (c : PySem.W.codeIn K cdv qual = true) (k : PySem.W.keepIn K (.ref f) = true)
    (b : ∀ (kV doc pm : Value) (an : Option Addr) (cdv ct : Value) (us : List Value), us.length = ps.length → bindArgs (PySem.W.fnOf m qual (defArgs st) (defBody st) (defScope st) .none kV doc pm an cdv ct) ⟨us, []⟩ = pure (ps.zip us)) :
    TopMeth K C m qual st ps :=
  have F := fun_mk (st := st) l c k
  ⟨_, _, F, a, i, F.binds b⟩
theorem TopMeth.callee {P : Program} {w : World} {K : PySem.W.Frag} {mg : Str → Option Value} {base : Heap} {k : Nat} {C : Addr} {m qual : Str} {st : Stmt} {ps : List Str} {sp : Sp} (T : TopMeth K C m qual st ps) (cl : Cls K C)
    (h : ∀ f fd, Fun K m qual st f fd → FnOk P w K mg base CX0 k f fd ps sp) : MCallee P w K mg base k C m ps sp := by
  obtain ⟨f, fd, F, a, i, b⟩ := T.ex
  exact ⟨⟨f, fd, h f fd F, ⟨a, i, F.kp⟩, b⟩, cl⟩
structure KCallee (P : Program) (w : World) (K : PySem.W.Frag) (mg : Str → Option Value) (base : Heap) (k : Nat) (C : Addr) (x : Str) (ps : List Str) (sp : Sp) : Prop where
  ex : ∃ (f : Addr) (fd : FuncData), FnOk P w K mg base CX0 k f fd ps sp ∧ Mk K C f ∧ Binds K fd ps []
  mg : mg x = some (.ref C)
theorem TopMeth.makes {P : Program} {w : World} {K : PySem.W.Frag} {mg : Str → Option Value} {base : Heap} {k : Nat} {C : Addr} {x qual : Str} {st : Stmt} {ps : List Str} {sp : Sp} (T : TopMeth K C "__init__" qual st ps) (mk : PySem.W.makesIn K C = true) (kc : PySem.W.keepIn K (.ref C) = true) (hm : mg x = some (.ref C))
    (h : ∀ f fd, Fun K "__init__" qual st f fd → FnOk P w K mg base CX0 k f fd ps sp) : KCallee P w K mg base k C x ps sp := by
  obtain ⟨f, fd, F, a, i, b⟩ := T.ex
  exact ⟨⟨f, fd, h f fd F, ⟨mk, a, i, kc⟩, b⟩, hm⟩
section
variable {X : Cx} {k : Nat} {C : Addr} {m x : Str} {ps : List Str} {sp : Sp} {p pos apos : Pos} {e o : Expr} {es : List Expr} {t : TA} {ta : TE}
theorem pe_methC {pl : Sem Bool} (he : PE X o ta) (M : MCallee X.prog X.w X.K X.mg X.base k C m ps sp) (hr : Room k X.A) (ha : PA X (e :: es) t) (hx : Passes CX0 X E0 := by exact pass0)
    (hst : starEach (e :: es) X.env = (false, eval e X.env) :: starEach es X.env := by rfl) (hpl : (backTo pos (starEach es X.env)).any (·.1) = false := by rfl)
    (ht : eval (.Call (.Attribute o m apos) (e :: es) [] pos) X.env = (do
      let ov ← eval o X.env
      standAt apos.atName
      let (f, first) ← holding [ov] (getMethod ov m pl)
      callWith pos f first (backTo pos (starEach (e :: es) X.env)) (backToKw pos (keywordEach [] X.env))) := by rfl) :
    PE X (.Call (.Attribute o m apos) (e :: es) [] pos) (tMeth C m sp [] E0 ta t) := by
  obtain ⟨f, fd, F, mt, b⟩ := M.ex
  exact pe_meth he M.cls mt F hr b .nil hx ha hst hpl ht
theorem pe_methC0 {pl : Sem Bool} (he : PE X o ta) (M : MCallee X.prog X.w X.K X.mg X.base k C m ps sp) (hr : Room k X.A) (hx : Passes CX0 X E0 := by exact pass0)
    (ht : eval (.Call (.Attribute o m apos) [] [] pos) X.env = (do
      let ov ← eval o X.env
      standAt apos.atName
      let (f, first) ← holding [ov] (getMethod ov m pl)
      callWith pos f first (backTo pos (starEach [] X.env)) (backToKw pos (keywordEach [] X.env))) := by rfl) :
    PE X (.Call (.Attribute o m apos) [] [] pos) (tMeth C m sp [] E0 ta tNil) := by
  obtain ⟨f, fd, F, mt, b⟩ := M.ex
  exact pe_meth0 he M.cls mt F hr b .nil hx ht
theorem pe_makeC (M : KCallee X.prog X.w X.K X.mg X.base k C x ps sp) (hr : Room (k + 1) X.A) (hg : Gl X x) (ha : PA X (e :: es) t) (hx : Passes CX0 X E0 := by exact pass0)
    (hdb : (x == ("__debug__" : Str)) = false := by decide) (he : starEach (e :: es) X.env = (false, eval e X.env) :: starEach es X.env := by rfl) (hpl : (backTo pos (starEach es X.env)).any (·.1) = false := by rfl) :
    PE X (.Call (.Name x p) (e :: es) [] pos) (tMake C sp [] E0 t) := by
  obtain ⟨f, fd, F, mk, b⟩ := M.ex
  exact pe_make mk F hr hg M.mg b .nil hx ha hdb he hpl
theorem pe_makeC0 (M : KCallee X.prog X.w X.K X.mg X.base k C x ps sp) (hr : Room (k + 1) X.A) (hg : Gl X x) (hx : Passes CX0 X E0 := by exact pass0) (hdb : (x == ("__debug__" : Str)) = false := by decide) :
    PE X (.Call (.Name x p) [] [] pos) (tMake C sp [] E0 tNil) := by
  obtain ⟨f, fd, F, mk, b⟩ := M.ex
  exact pe_make0 mk F hr hg M.mg b .nil hx hdb
end
end L2
namespace Hi
def hits (pools s : List Nat) : Nat := pools.countP fun p => s.any fun x => p.testBit x
def without (pools : List Nat) (x : Nat) : List Nat := pools.filter fun p => !p.testBit x
theorem hits_nil (pools : List Nat) : hits pools [] = 0 := by
  unfold hits
  rw [List.countP_eq_zero]
  simp
theorem hits_cons (x : Nat) (s : List Nat) : ∀ pools : List Nat, hits pools (x :: s) = Cr.cn pools x + hits (without pools x) s
  | [] => rfl
  | p :: r => by
    have ih := hits_cons x s r
    unfold hits without Cr.cn at ih ⊢
    rw [List.countP_cons, List.countP_cons, List.filter_cons, ih, List.any_cons]
    cases h : p.testBit x
    · simp only [Bool.false_or, Bool.not_false, if_true, List.countP_cons, Bool.false_eq_true, if_false]
      omega
    · simp only [Bool.true_or, Bool.not_true, Bool.false_eq_true, if_false, if_true]
      omega
theorem cn_without (pools : List Nat) (x y : Nat) : Cr.cn (without pools x) y ≤ Cr.cn pools y := by
  unfold Cr.cn without
  rw [List.countP_filter]
  apply List.countP_mono_left
  intro p _ h
  exact (Bool.and_eq_true_iff.mp h).1
theorem hits_le {q : Nat} : ∀ {s pools : List Nat}, (∀ x ∈ s, Cr.cn pools x ≤ q) → hits pools s ≤ s.length * q
  | [], pools, _ => by rw [hits_nil]; exact Nat.zero_le _
  | x :: s, pools, h => by
    have ih := hits_le (s := s) (pools := without pools x) fun y hy => Nat.le_trans (cn_without pools x y) (h y (List.mem_cons_of_mem _ hy))
    have := h x List.mem_cons_self
    rw [hits_cons, List.length_cons, Nat.succ_mul]
    omega
def share (E most : Nat) : Nat := (E + most - 1) / most
theorem share_lt {E most : Nat} (hE : 0 < E) (hm : 0 < most) : most * (share E most - 1) < E := by
  unfold share
  have h1 : most * ((E + most - 1) / most) ≤ E + most - 1 := Nat.mul_div_le _ _
  have h2 : 0 < (E + most - 1) / most := Nat.div_pos (by omega) hm
  have h3 : most * ((E + most - 1) / most - 1) = most * ((E + most - 1) / most) - most := by rw [Nat.mul_sub, Nat.mul_one]
  have h4 : most * 1 ≤ most * ((E + most - 1) / most) := Nat.mul_le_mul_left _ h2
  omega
theorem pigeon {pools s : List Nat} {E most : Nat} (hE : 0 < E) (hm : 0 < most) (hl : s.length ≤ most) (hh : E ≤ hits pools s) : ∃ x ∈ s, share E most ≤ Cr.cn pools x := by
  refine Classical.byContradiction fun no => ?_
  have h1 : ∀ x ∈ s, Cr.cn pools x ≤ share E most - 1 := fun x hx => by
    rcases Nat.lt_or_ge (Cr.cn pools x) (share E most) with h | h
    · omega
    · exact absurd ⟨x, hx, h⟩ no
  have h2 := hits_le h1
  have h3 : s.length * (share E most - 1) ≤ most * (share E most - 1) := Nat.mul_le_mul_right _ hl
  have h4 := share_lt hE hm
  omega
theorem len_remove {x : Nat} : ∀ {s : List Nat}, x ∈ s → (s.filter fun y => !(y == x)).length + 1 ≤ s.length
  | [], h => by cases h
  | y :: r, h => by
    rw [List.filter_cons]
    by_cases e : y = x
    · subst e
      simp only [beq_self_eq_true, Bool.not_true, Bool.false_eq_true, if_false, List.length_cons]
      have := List.length_filter_le (fun z => !(z == y)) r
      omega
    · have ne : (y == x) = false := beq_eq_false_iff_ne.mpr e
      rw [ne]
      simp only [Bool.not_false, if_true, List.length_cons]
      have := len_remove ((List.mem_cons.mp h).resolve_left fun z => e z.symm)
      omega
theorem choose_iff : ∀ {k : Nat} {l s : List Nat}, s ∈ Sh12.choose k l ↔ s.Sublist l ∧ s.length = k
  | 0, l, s => by
    have e : Sh12.choose 0 l = [[]] := by cases l <;> rfl
    rw [e, List.mem_singleton]
    constructor
    · rintro rfl
      exact ⟨List.nil_sublist l, rfl⟩
    · rintro ⟨_, h⟩
      exact List.eq_nil_of_length_eq_zero h
  | k + 1, [], s => by
    constructor
    · intro h
      cases h
    · rintro ⟨h, e⟩
      have := List.eq_nil_of_sublist_nil h
      subst this
      cases e
  | k + 1, x :: r, s => by
    show s ∈ (Sh12.choose k r).map (fun l => x :: l) ++ Sh12.choose (k + 1) r ↔ _
    rw [List.mem_append, List.mem_map, choose_iff (k := k + 1) (l := r)]
    constructor
    · rintro (⟨t, ht, rfl⟩ | ⟨h, e⟩)
      · obtain ⟨h, e⟩ := choose_iff.mp ht
        exact ⟨h.cons_cons x, by rw [List.length_cons, e]⟩
      · exact ⟨h.cons x, e⟩
    · rintro ⟨h, e⟩
      cases h with
      | cons _ h => exact .inr ⟨h, e⟩
      | cons_cons _ h =>
        rename_i t
        exact .inl ⟨t, choose_iff.mpr ⟨h, by simpa using e⟩, rfl⟩
theorem part_of {l s : List Nat} (nd : l.Nodup) (h : ∀ x ∈ s, x ∈ l) : ∃ t : List Nat, t.Sublist l ∧ t.length ≤ s.length ∧ ∀ x, x ∈ t ↔ x ∈ s := by
  refine ⟨l.filter fun x => s.contains x, List.filter_sublist, ?_, fun x => ?_⟩
  · have nd2 : (l.filter fun x => s.contains x).Nodup := nd.sublist List.filter_sublist
    have sub : ∀ x ∈ l.filter (fun x => s.contains x), x ∈ s := fun x hx => by
      have := (List.mem_filter.mp hx).2
      simpa using this
    clear nd h
    generalize l.filter (fun x => s.contains x) = t at nd2 sub
    induction t generalizing s with
    | nil => exact Nat.zero_le _
    | cons x r ih =>
      obtain ⟨h1, h2⟩ := List.nodup_cons.mp nd2
      have hx := sub x List.mem_cons_self
      have := ih (s := s.filter fun y => !(y == x)) h2 fun y hy => List.mem_filter.mpr ⟨sub y (List.mem_cons_of_mem _ hy), by
        have : y ≠ x := fun e => h1 (e ▸ hy)
        simpa using this⟩
      have := len_remove hx
      rw [List.length_cons]
      omega
  · rw [List.mem_filter]
    constructor
    · rintro ⟨_, h⟩
      simpa using h
    · intro hx
      exact ⟨h x hx, by simpa using hx⟩
end Hi
namespace Cv
open Hi (without)
def hitsAll (P s : List Nat) : Bool := P.all fun p => s.any fun x => p.testBit x
theorem hitsAll_iff {P s : List Nat} : hitsAll P s = true ↔ ∀ p ∈ P, ∃ x ∈ s, p.testBit x = true := by
  unfold hitsAll
  rw [List.all_eq_true]
  constructor
  · exact fun h p hp => List.any_eq_true.mp (h p hp)
  · exact fun h p hp => List.any_eq_true.mpr (h p hp)
theorem mem_without {P : List Nat} {x p : Nat} : p ∈ without P x ↔ p ∈ P ∧ p.testBit x = false := by
  unfold without
  rw [List.mem_filter]
  simp
theorem hitsAll_cons (P : List Nat) (x : Nat) (s : List Nat) : hitsAll P (x :: s) = hitsAll (without P x) s := by
  rw [Bool.eq_iff_iff, hitsAll_iff, hitsAll_iff]
  constructor
  · intro h p hp
    obtain ⟨h1, h2⟩ := mem_without.mp hp
    obtain ⟨y, hy, e⟩ := h p h1
    rcases List.mem_cons.mp hy with rfl | hy
    · rw [h2] at e; cases e
    · exact ⟨y, hy, e⟩
  · intro h p hp
    cases e : p.testBit x with
    | true => exact ⟨x, List.mem_cons_self, e⟩
    | false =>
      obtain ⟨y, hy, e⟩ := h p (mem_without.mpr ⟨hp, e⟩)
      exact ⟨y, List.mem_cons_of_mem _ hy, e⟩
theorem hitsAll_mem {P P' : List Nat} (h : ∀ p, p ∈ P ↔ p ∈ P') (s : List Nat) : hitsAll P s = hitsAll P' s := by
  rw [Bool.eq_iff_iff, hitsAll_iff, hitsAll_iff]
  exact ⟨fun q p hp => q p ((h p).mpr hp), fun q p hp => q p ((h p).mp hp)⟩
theorem hitsAll_nil_iff {P : List Nat} : hitsAll P [] = P.isEmpty := by
  cases P <;> simp [hitsAll]
def HS (P L : List Nat) (k : Nat) : List (List Nat) := (Sh12.choose k L).filter (hitsAll P)
theorem HS_zero (P L : List Nat) : HS P L 0 = if P.isEmpty = true then [[]] else [] := by
  have e : Sh12.choose 0 L = [[]] := by cases L <;> rfl
  unfold HS
  rw [e, List.filter_cons, hitsAll_nil_iff]
  rfl
theorem HS_cons (P : List Nat) (x : Nat) (L : List Nat) (k : Nat) : HS P (x :: L) (k + 1) = (HS (without P x) L k).map (fun l => x :: l) ++ HS P L (k + 1) := by
  unfold HS
  show ((Sh12.choose k L).map (fun l => x :: l) ++ Sh12.choose (k + 1) L).filter (hitsAll P) = _
  rw [List.filter_append, List.filter_map]
  have : (hitsAll P ∘ fun l => x :: l) = hitsAll (without P x) := funext fun l => hitsAll_cons P x l
  rw [this]
theorem HS_mem {P P' : List Nat} (h : ∀ p, p ∈ P ↔ p ∈ P') (L : List Nat) (k : Nat) : HS P L k = HS P' L k := by
  unfold HS
  congr 1
  exact funext fun s => hitsAll_mem h s
theorem mem_HS {P L s : List Nat} {k : Nat} : s ∈ HS P L k ↔ s.Sublist L ∧ s.length = k ∧ hitsAll P s = true := by
  unfold HS
  rw [List.mem_filter, Hi.choose_iff, and_assoc]
def hk (P L : List Nat) (k : Nat) : Nat := (HS P L k).length
def hs (P L : List Nat) : Nat → Nat
  | 0 => hk P L 0
  | m + 1 => hs P L m + hk P L (m + 1)
theorem hk_zero (P L : List Nat) : hk P L 0 = if P.isEmpty = true then 1 else 0 := by
  unfold hk
  rw [HS_zero]
  split <;> rfl
theorem hs_zero (P L : List Nat) : hs P L 0 = if P.isEmpty = true then 1 else 0 := hk_zero P L
theorem hk_nil (P : List Nat) (k : Nat) : hk P [] (k + 1) = 0 := rfl
theorem hk_cons (P : List Nat) (x : Nat) (L : List Nat) (k : Nat) : hk P (x :: L) (k + 1) = hk (without P x) L k + hk P L (k + 1) := by
  unfold hk
  rw [HS_cons, List.length_append, List.length_map]
theorem hs_nil (P : List Nat) : ∀ m, hs P [] m = if P.isEmpty = true then 1 else 0
  | 0 => hk_zero P []
  | m + 1 => by
    show hs P [] m + hk P [] (m + 1) = _
    rw [hs_nil P m, hk_nil]
    rfl
theorem hs_cons (P : List Nat) (x : Nat) (L : List Nat) : ∀ m, hs P (x :: L) (m + 1) = hs (without P x) L m + hs P L (m + 1)
  | 0 => by
    show hk P (x :: L) 0 + hk P (x :: L) (0 + 1) = hk (without P x) L 0 + (hk P L 0 + hk P L (0 + 1))
    rw [hk_cons, hk_zero P (x :: L), hk_zero P L]
    omega
  | m + 1 => by
    show hs P (x :: L) (m + 1) + hk P (x :: L) (m + 1 + 1) = hs (without P x) L m + hk (without P x) L (m + 1) + (hs P L (m + 1) + hk P L (m + 1 + 1))
    rw [hk_cons, hs_cons P x L m]
    omega
theorem without_comm (P : List Nat) (x y : Nat) : without (without P x) y = without (without P y) x := by
  unfold without
  rw [List.filter_filter, List.filter_filter]
  congr 1
  funext p
  exact Bool.and_comm _ _
theorem hs_perm {L L' : List Nat} (h : L.Perm L') : ∀ (P : List Nat) (m : Nat), hs P L m = hs P L' m := by
  induction h with
  | nil => exact fun _ _ => rfl
  | cons x _ ih =>
    intro P m
    cases m with
    | zero => rw [hs_zero, hs_zero]
    | succ m => rw [hs_cons, hs_cons, ih, ih]
  | swap x y l =>
    intro P m
    cases m with
    | zero => rw [hs_zero, hs_zero]
    | succ m =>
      cases m with
      | zero => rw [hs_cons, hs_cons, hs_cons, hs_cons, hs_zero, hs_zero, hs_zero, hs_zero]; omega
      | succ m => rw [hs_cons, hs_cons, hs_cons, hs_cons, hs_cons, hs_cons, without_comm P x y]; omega
  | trans _ _ ih1 ih2 => exact fun P m => (ih1 P m).trans (ih2 P m)
theorem hs_mem {P P' : List Nat} (h : ∀ p, p ∈ P ↔ p ∈ P') (L : List Nat) : ∀ m, hs P L m = hs P' L m
  | 0 => by
    show hk P L 0 = hk P' L 0
    unfold hk
    rw [HS_mem h]
  | m + 1 => by
    show hs P L m + hk P L (m + 1) = hs P' L m + hk P' L (m + 1)
    unfold hk
    rw [HS_mem h, hs_mem h L m]
theorem hs_miss (p : Nat) : ∀ (L : List Nat) (Q : List Nat) (m : Nat), hs (p :: Q) L m + hs Q (L.filter fun x => !p.testBit x) m = hs Q L m
  | [], Q, m => by
    rw [hs_nil, List.filter_nil, hs_nil]
    simp
  | y :: L, Q, 0 => by
    rw [hs_zero, hs_zero, hs_zero]
    simp
  | y :: L, Q, m + 1 => by
    have e0 : without (p :: Q) y = if p.testBit y = true then without Q y else p :: without Q y := by
      unfold without
      rw [List.filter_cons]
      cases p.testBit y <;> rfl
    rw [List.filter_cons, hs_cons, hs_cons, e0]
    cases hp : p.testBit y
    · simp only [Bool.not_false, if_true, Bool.false_eq_true, if_false]
      rw [hs_cons]
      have h1 := hs_miss p L (without Q y) m
      have h2 := hs_miss p L Q (m + 1)
      omega
    · simp only [Bool.not_true, if_true, Bool.false_eq_true, if_false]
      have h2 := hs_miss p L Q (m + 1)
      omega
theorem hs_one (P : List Nat) : ∀ L : List Nat, hs P L 1 = (if P.isEmpty = true then 1 else 0) + L.countP fun y => P.all fun p => p.testBit y
  | [] => by rw [hs_nil]; rfl
  | y :: L => by
    rw [hs_cons, hs_one P L, hs_zero, List.countP_cons]
    have : (without P y).isEmpty = P.all fun p => p.testBit y := by
      rw [Bool.eq_iff_iff, List.isEmpty_iff, List.all_eq_true]
      constructor
      · intro h p hp
        cases e : p.testBit y with
        | true => rfl
        | false =>
          have := mem_without.mpr ⟨hp, e⟩
          rw [h] at this
          cases this
      · intro h
        refine List.eq_nil_iff_forall_not_mem.mpr fun p hp => ?_
        obtain ⟨h1, h2⟩ := mem_without.mp hp
        rw [h p h1] at h2
        cases h2
    rw [this]
    cases P.all fun p => p.testBit y <;> simp <;> omega
def Cov (P : List Nat) (c m : Nat) : Prop := ∃ s : List Nat, s.length ≤ m ∧ (∀ x ∈ s, c.testBit x = true) ∧ ∀ p ∈ P, ∃ x ∈ s, p.testBit x = true
theorem hs_pos {P L : List Nat} (nd : L.Nodup) {m : Nat} : 0 < hs P L m ↔ ∃ s : List Nat, s.length ≤ m ∧ (∀ x ∈ s, x ∈ L) ∧ ∀ p ∈ P, ∃ x ∈ s, p.testBit x = true := by
  have h1 : ∀ m, 0 < hs P L m ↔ ∃ k, k ≤ m ∧ 0 < hk P L k := by
    intro m
    induction m with
    | zero => exact ⟨fun h => ⟨0, Nat.le_refl _, h⟩, fun ⟨k, hk0, h⟩ => by have : k = 0 := by omega
                                                                           subst this; exact h⟩
    | succ m ih =>
      show 0 < hs P L m + hk P L (m + 1) ↔ _
      constructor
      · intro h
        rcases Nat.eq_zero_or_pos (hs P L m) with e | e
        · exact ⟨m + 1, Nat.le_refl _, by omega⟩
        · obtain ⟨k, hk0, h⟩ := ih.mp e
          exact ⟨k, by omega, h⟩
      · rintro ⟨k, hk0, h⟩
        rcases Nat.lt_or_ge m k with e | e
        · have : k = m + 1 := by omega
          subst this
          omega
        · have := ih.mpr ⟨k, e, h⟩
          omega
  rw [h1]
  constructor
  · rintro ⟨k, hkm, h⟩
    obtain ⟨s, hs⟩ := List.exists_mem_of_length_pos h
    obtain ⟨a, b, c⟩ := mem_HS.mp hs
    exact ⟨s, by omega, fun x hx => a.subset hx, hitsAll_iff.mp c⟩
  · rintro ⟨s, hl, hc, hh⟩
    obtain ⟨t, t1, t2, t3⟩ := Hi.part_of nd hc
    refine ⟨t.length, by omega, List.length_pos_of_mem (mem_HS.mpr ⟨t1, rfl, hitsAll_iff.mpr fun p hp => ?_⟩)⟩
    obtain ⟨x, hx, e⟩ := hh p hp
    exact ⟨x, (t3 x).mpr hx, e⟩
abbrev M (c : Nat) : List Nat := Cr.ms 1024 c
theorem mem_M {c x : Nat} : x ∈ M c ↔ x < 1024 ∧ c.testBit x = true := by
  unfold M Cr.ms
  rw [List.mem_filter, List.mem_range]
theorem bit_lt {c x N : Nat} (hc : c < 2 ^ N) (h : c.testBit x = true) : x < N := by
  rcases Nat.lt_or_ge x N with e | e
  · exact e
  · have := Nat.ge_two_pow_of_testBit h
    have := Nat.pow_le_pow_right (n := 2) (by decide) e
    omega
theorem mem_Mc {c x : Nat} (hc : c < 2 ^ 1024) : x ∈ M c ↔ c.testBit x = true := mem_M.trans ⟨fun h => h.2, fun h => ⟨bit_lt hc h, h⟩⟩
theorem nd_M (c : Nat) : (M c).Nodup := List.nodup_range.sublist List.filter_sublist
theorem cov_iff {P : List Nat} {c m : Nat} (hc : c < 2 ^ 1024) : 0 < hs P (M c) m ↔ Cov P c m := by
  rw [hs_pos (nd_M c)]
  constructor
  · rintro ⟨s, h1, h2, h3⟩
    exact ⟨s, h1, fun x hx => (mem_Mc hc).mp (h2 x hx), h3⟩
  · rintro ⟨s, h1, h2, h3⟩
    exact ⟨s, h1, fun x hx => (mem_Mc hc).mpr (h2 x hx), h3⟩
theorem hs_none {P : List Nat} {c m : Nat} (hc : c < 2 ^ 1024) (h : ¬ Cov P c m) : hs P (M c) m = 0 := by
  rcases Nat.eq_zero_or_pos (hs P (M c) m) with e | e
  · exact e
  · exact absurd ((cov_iff hc).mp e) h
theorem xor_lt {c x : Nat} (hc : c < 2 ^ 1024) (hx : c.testBit x = true) : c ^^^ 2 ^ x < 2 ^ 1024 := Nat.xor_lt_two_pow hc (Nat.pow_lt_pow_right (by decide) (bit_lt hc hx))
theorem xor_bit {c x y : Nat} (hx : c.testBit x = true) : (c ^^^ 2 ^ x).testBit y = (c.testBit y && decide (y ≠ x)) := by
  rw [Nat.testBit_xor, Nat.testBit_two_pow]
  by_cases e : x = y
  · subst e
    simp [hx]
  · have : ¬ y = x := fun z => e z.symm
    simp [e, this]
theorem M_out {c x : Nat} (hc : c < 2 ^ 1024) (hx : c.testBit x = true) : (M c).Perm (x :: M (c ^^^ 2 ^ x)) := by
  refine (List.perm_ext_iff_of_nodup (nd_M c) (List.nodup_cons.mpr ⟨fun h => ?_, nd_M _⟩)).mpr fun y => ?_
  · have := (mem_M.mp h).2
    rw [xor_bit hx] at this
    simp at this
  · rw [mem_Mc hc, List.mem_cons, mem_Mc (xor_lt hc hx), xor_bit hx]
    by_cases e : y = x
    · subst e
      simp [hx]
    · simp [e]
theorem hs_out {P : List Nat} {c x m : Nat} (hc : c < 2 ^ 1024) (hx : c.testBit x = true) : hs P (M c) (m + 1) = hs (without P x) (M (c ^^^ 2 ^ x)) m + hs P (M (c ^^^ 2 ^ x)) (m + 1) := by
  rw [hs_perm (M_out hc hx), hs_cons]
theorem len_out {c x : Nat} (hc : c < 2 ^ 1024) (hx : c.testBit x = true) : (M c).length = (M (c ^^^ 2 ^ x)).length + 1 := by
  rw [(M_out hc hx).length_eq, List.length_cons]
theorem Cov.sub {P : List Nat} {c c' m m' : Nat} (h : Cov P c m) (hc : ∀ x, c.testBit x = true → c'.testBit x = true) (hm : m ≤ m') : Cov P c' m' := by
  obtain ⟨s, h1, h2, h3⟩ := h
  exact ⟨s, by omega, fun x hx => hc x (h2 x hx), h3⟩
theorem cov_zero {P : List Nat} {c : Nat} : Cov P c 0 ↔ P = [] := by
  constructor
  · rintro ⟨s, h1, _, h3⟩
    have : s = [] := List.eq_nil_of_length_eq_zero (by omega)
    subst this
    cases P with
    | nil => rfl
    | cons p r =>
      obtain ⟨x, hx, _⟩ := h3 p List.mem_cons_self
      cases hx
  · rintro rfl
    exact ⟨[], Nat.le_refl _, fun x hx => (by cases hx), fun p hp => (by cases hp)⟩
def Need (P : List Nat) (c m N : Nat) : Prop := (∀ x, N.testBit x = true → c.testBit x = true) ∧ ∀ s : List Nat, s.length ≤ m → (∀ x ∈ s, c.testBit x = true) → (∀ p ∈ P, ∃ x ∈ s, p.testBit x = true) → ∃ x ∈ s, N.testBit x = true
theorem need_first {p : Nat} {P : List Nat} {c m : Nat} : Need (p :: P) c m (p &&& c) := by
  refine ⟨fun x h => ?_, fun s _ hc hh => ?_⟩
  · rw [Nat.testBit_and] at h
    exact (Bool.and_eq_true_iff.mp h).2
  · obtain ⟨x, hx, e⟩ := hh p List.mem_cons_self
    exact ⟨x, hx, by rw [Nat.testBit_and, e, hc x hx]; rfl⟩
theorem all_hits {P s : List Nat} (h : ∀ p ∈ P, ∃ x ∈ s, p.testBit x = true) : Hi.hits P s = P.length := by
  unfold Hi.hits
  rw [List.countP_eq_length]
  intro p hp
  obtain ⟨x, hx, e⟩ := h p hp
  exact List.any_eq_true.mpr ⟨x, hx, e⟩
theorem need_busy {P : List Nat} {c m N : Nat} (hP : 0 < P.length) (hm : 0 < m) (hN : ∀ i, N.testBit i = (c.testBit i && decide (Hi.share P.length m ≤ Cr.cn P i))) : Need P c m N := by
  refine ⟨fun x h => ?_, fun s hl hc hh => ?_⟩
  · rw [hN] at h
    exact (Bool.and_eq_true_iff.mp h).1
  · obtain ⟨x, hx, e⟩ := Hi.pigeon hP hm hl (Nat.le_of_eq (all_hits hh).symm)
    exact ⟨x, hx, by rw [hN, hc x hx, decide_eq_true e]; rfl⟩
theorem Need.none {P : List Nat} {c m : Nat} (h : Need P c m 0) : ¬ Cov P c m := by
  rintro ⟨s, h1, h2, h3⟩
  obtain ⟨x, _, e⟩ := h.2 s h1 h2 h3
  rw [Nat.zero_testBit] at e
  cases e
theorem Need.out {P : List Nat} {c m N x : Nat} (h : Need P c m N) (hx : N.testBit x = true) : Need P (c ^^^ 2 ^ x) m (N ^^^ 2 ^ x) := by
  have hc := h.1 x hx
  refine ⟨fun y hy => ?_, fun s hl hs hh => ?_⟩
  · rw [xor_bit hx] at hy
    obtain ⟨a, b⟩ := Bool.and_eq_true_iff.mp hy
    rw [xor_bit hc, h.1 y a, b]
    rfl
  · have hs' : ∀ y ∈ s, c.testBit y = true ∧ y ≠ x := fun y hy => by
      have := hs y hy
      rw [xor_bit hc] at this
      obtain ⟨a, b⟩ := Bool.and_eq_true_iff.mp this
      exact ⟨a, of_decide_eq_true b⟩
    obtain ⟨y, hy, e⟩ := h.2 s hl (fun y hy => (hs' y hy).1) hh
    exact ⟨y, hy, by rw [xor_bit hx, e, decide_eq_true (hs' y hy).2]; rfl⟩
theorem cov_split {P : List Nat} {c m x : Nat} (hc : c < 2 ^ 1024) (hx : c.testBit x = true) : Cov P c (m + 1) ↔ Cov (without P x) (c ^^^ 2 ^ x) m ∨ Cov P (c ^^^ 2 ^ x) (m + 1) := by
  rw [← cov_iff hc, ← cov_iff (xor_lt hc hx), ← cov_iff (xor_lt hc hx), hs_out hc hx]
  omega
def Good (P : List Nat) (c m r : Nat) : Prop := (∀ x, r.testBit x = true → c.testBit x = true) ∧ (M r).length ≤ m ∧ ∀ p ∈ P, ∃ x, r.testBit x = true ∧ p.testBit x = true
theorem sub_lt {c r : Nat} (hc : c < 2 ^ 1024) (h : ∀ x, r.testBit x = true → c.testBit x = true) : r < 2 ^ 1024 := by
  refine Nat.lt_of_not_le fun hle => ?_
  obtain ⟨i, hi, e⟩ := Nat.exists_ge_and_testBit_of_ge_two_pow hle
  have := bit_lt hc (h i e)
  omega
theorem Good.lt {P : List Nat} {c m r : Nat} (hc : c < 2 ^ 1024) (h : Good P c m r) : r < 2 ^ 1024 := sub_lt hc h.1
theorem Good.cov {P : List Nat} {c m r : Nat} (hc : c < 2 ^ 1024) (h : Good P c m r) : Cov P c m := by
  refine ⟨M r, h.2.1, fun x hx => h.1 x (mem_M.mp hx).2, fun p hp => ?_⟩
  obtain ⟨x, e1, e2⟩ := h.2.2 p hp
  exact ⟨x, (mem_Mc (h.lt hc)).mpr e1, e2⟩
theorem len_or (x r : Nat) : (M (2 ^ x ||| r)).length ≤ (M r).length + 1 := by
  have h : ∀ N : Nat, (Cr.ms N (2 ^ x ||| r)).length ≤ (Cr.ms N r).length + (if x < N then 1 else 0) := by
    intro N
    unfold Cr.ms
    induction N with
    | zero => simp
    | succ N ih =>
      rw [List.range_succ, List.filter_append, List.filter_append, List.length_append, List.length_append, List.filter_cons, List.filter_cons, Nat.testBit_or, Nat.testBit_two_pow]
      by_cases e : x = N
      · subst e
        rw [if_neg (Nat.lt_irrefl x)] at ih
        have hN : decide (x = x) = true := decide_eq_true rfl
        have hlt : x < x + 1 := Nat.lt_succ_self x
        rw [hN, Bool.true_or, if_pos (rfl : true = true), if_pos hlt]
        simp only [List.filter_nil, List.length_cons, List.length_nil]
        omega
      · have e2 : (x < N + 1) ↔ x < N := by omega
        simp only [e2, decide_eq_false e, Bool.false_or, List.filter_nil]
        cases r.testBit N
        · simp only [Bool.false_eq_true, if_false, List.length_nil]
          omega
        · simp only [if_true, List.length_cons, List.length_nil]
          omega
  have := h 1024
  show (Cr.ms 1024 (2 ^ x ||| r)).length ≤ (Cr.ms 1024 r).length + 1
  split at this <;> omega
theorem good_with {P : List Nat} {c m x r : Nat} (hx : c.testBit x = true) (h : Good (without P x) (c ^^^ 2 ^ x) m r) : Good P c (m + 1) (2 ^ x ||| r) := by
  refine ⟨fun y hy => ?_, Nat.le_trans (len_or x r) (Nat.succ_le_succ h.2.1), fun p hp => ?_⟩
  · rw [Nat.testBit_or, Nat.testBit_two_pow] at hy
    rcases Bool.or_eq_true_iff.mp hy with e | e
    · have := of_decide_eq_true e
      exact this ▸ hx
    · have := h.1 y e
      rw [xor_bit hx] at this
      exact (Bool.and_eq_true_iff.mp this).1
  · cases e : p.testBit x with
    | true => exact ⟨x, by rw [Nat.testBit_or, Nat.testBit_two_pow_self]; rfl, e⟩
    | false =>
      obtain ⟨y, a, b⟩ := h.2.2 p (mem_without.mpr ⟨hp, e⟩)
      exact ⟨y, by rw [Nat.testBit_or, a, Bool.or_true], b⟩
theorem Good.sub {P : List Nat} {c c' m m' r : Nat} (h : Good P c m r) (hc : ∀ x, c.testBit x = true → c'.testBit x = true) (hm : m ≤ m') : Good P c' m' r := ⟨fun x hx => hc x (h.1 x hx), Nat.le_trans h.2.1 hm, h.2.2⟩
theorem out_sub {c x y : Nat} (hx : c.testBit x = true) (h : (c ^^^ 2 ^ x).testBit y = true) : c.testBit y = true := by
  rw [xor_bit hx] at h
  exact (Bool.and_eq_true_iff.mp h).1
def Apart (c : Nat) (done : List Nat) (taken apart : Nat) : Prop := ∀ s : List Nat, (∀ x ∈ s, c.testBit x = true) → (∀ p ∈ done, ∃ x ∈ s, p.testBit x = true) → apart ≤ s.countP fun x => taken.testBit x
theorem apart_start (c : Nat) : Apart c [] 0 0 := fun s _ _ => Nat.zero_le _
theorem apart_skip {c : Nat} {done : List Nat} {taken apart p : Nat} (h : Apart c done taken apart) : Apart c (done ++ [p]) taken apart := fun s hc hh => h s hc fun q hq => hh q (List.mem_append_left _ hq)
theorem apart_take {c : Nat} {done : List Nat} {taken apart p : Nat} (h : Apart c done taken apart) (hd : p &&& c &&& taken = 0) : Apart c (done ++ [p]) (taken ||| p &&& c) (apart + 1) := by
  intro s hc hh
  have h1 := h s hc fun q hq => hh q (List.mem_append_left _ hq)
  obtain ⟨x, hx, e⟩ := hh p (List.mem_append_right _ (List.mem_singleton.mpr rfl))
  have nx : taken.testBit x = false := by
    have : (p &&& c &&& taken).testBit x = false := by rw [hd, Nat.zero_testBit]
    rw [Nat.testBit_and, Nat.testBit_and, e, hc x hx] at this
    simpa using this
  have px : (taken ||| p &&& c).testBit x = true := by
    rw [Nat.testBit_or, Nat.testBit_and, e, hc x hx]
    simp
  have key : ∀ s : List Nat, x ∈ s → s.countP (fun y => taken.testBit y) + 1 ≤ s.countP fun y => (taken ||| p &&& c).testBit y := by
    intro s
    induction s with
    | nil => intro h; cases h
    | cons y r ih =>
      intro h
      rw [List.countP_cons, List.countP_cons]
      have mono : r.countP (fun y => taken.testBit y) ≤ r.countP fun y => (taken ||| p &&& c).testBit y := List.countP_mono_left fun z _ hz => by rw [Nat.testBit_or, hz, Bool.true_or]
      rcases List.mem_cons.mp h with e | e
      · subst e
        rw [nx, px]
        simp only [Bool.false_eq_true, if_false, if_true]
        omega
      · have := ih e
        cases ht : taken.testBit y
        · simp only [Bool.false_eq_true, if_false]
          omega
        · rw [Nat.testBit_or, ht, Bool.true_or]
          simp only [if_true]
          omega
  have := key s hx
  omega
theorem apart_none {c : Nat} {done P : List Nat} {taken apart m : Nat} (h : Apart c done taken apart) (hm : m < apart) (hP : ∀ p ∈ done, p ∈ P) : ¬ Cov P c m := by
  rintro ⟨s, h1, h2, h3⟩
  have a := h s h2 fun p hp => h3 p (hP p hp)
  have b := List.countP_le_length (p := fun x => taken.testBit x) (l := s)
  omega
theorem empty_none {c p m : Nat} {P : List Nat} (hp : p ∈ P) (h : p &&& c = 0) : ¬ Cov P c m := by
  rintro ⟨s, _, h2, h3⟩
  obtain ⟨x, hx, e⟩ := h3 p hp
  have : (p &&& c).testBit x = true := by rw [Nat.testBit_and, e, h2 x hx]; rfl
  rw [h, Nat.zero_testBit] at this
  cases this
end Cv
set_option exponentiation.threshold 3000
namespace Pp
def T : Nat → Nat
  | 0 => 0
  | n + 1 => 4096 * T n + 1755
def O : Nat → Nat
  | 0 => 0
  | n + 1 => 4096 * O n + 585
def S : Nat → Nat
  | 0 => 0
  | n + 1 => 4096 * S n + 455
def W : Nat → Nat
  | 0 => 0
  | n + 1 => 4096 * W n + 63
theorem and_block {X Y A B : Nat} (hY : Y < 4096) (hB : B < 4096) : (4096 * X + Y) &&& (4096 * A + B) = 4096 * (X &&& A) + (Y &&& B) := by
  have hYB : Y &&& B < 2 ^ 12 := Nat.lt_of_le_of_lt Nat.and_le_left hY
  apply Nat.eq_of_testBit_eq
  intro j
  have e : (4096 : Nat) = 2 ^ 12 := rfl
  rw [e, Nat.testBit_and, Nat.testBit_two_pow_mul_add _ hY, Nat.testBit_two_pow_mul_add _ hB, Nat.testBit_two_pow_mul_add _ hYB]
  by_cases h : j < 12
  · rw [if_pos h, if_pos h, if_pos h, Nat.testBit_and]
  · rw [if_neg h, if_neg h, if_neg h, Nat.testBit_and]
theorem and_low {Y B : Nat} (k : Nat) (hB : B < 2 ^ k) : Y &&& B = (Y % 2 ^ k) &&& B := by
  apply Nat.eq_of_testBit_eq
  intro j
  rw [Nat.testBit_and, Nat.testBit_and, Nat.testBit_mod_two_pow]
  by_cases h : j < k
  · rw [decide_eq_true h, Bool.true_and]
  · have : B.testBit j = false := Nat.testBit_lt_two_pow (Nat.lt_of_lt_of_le hB (Nat.pow_le_pow_right (by decide) (by omega)))
    rw [this, Bool.and_false, Bool.and_false]
def f1 (d : Nat) : Nat := d - (d / 2 &&& 1755) - (d / 4 &&& 585)
def g1 (d : Nat) : Nat := (f1 d + f1 d / 8) &&& 455
def h1 (d : Nat) : Nat := (g1 d + g1 d / 64) &&& 63
def F : Nat → Nat → Nat
  | 0, _ => 0
  | n + 1, c => 4096 * F n (c / 4096) + f1 (c % 4096)
def G : Nat → Nat → Nat
  | 0, _ => 0
  | n + 1, c => 4096 * G n (c / 4096) + g1 (c % 4096)
def Hh : Nat → Nat → Nat
  | 0, _ => 0
  | n + 1, c => 4096 * Hh n (c / 4096) + h1 (c % 4096)
def okD (d : Nat) : Bool := decide ((d / 2 &&& 1755) + (d / 4 &&& 585) ≤ d) && decide (f1 d < 2048) && decide (f1 d % 8 ≤ 3) && decide (g1 d < 512) && decide (g1 d % 64 ≤ 7) && decide (h1 d = ((List.range 12).filter fun i => d.testBit i).length)
theorem ok_all : (List.range 4096).all okD = true := by decide +kernel
theorem ok_one {d : Nat} (h : d < 4096) : (d / 2 &&& 1755) + (d / 4 &&& 585) ≤ d ∧ f1 d < 2048 ∧ f1 d % 8 ≤ 3 ∧ g1 d < 512 ∧ g1 d % 64 ≤ 7 ∧ h1 d = ((List.range 12).filter fun i => d.testBit i).length := by
  have := List.all_eq_true.mp ok_all d (List.mem_range.mpr h)
  simp only [okD, Bool.and_eq_true, decide_eq_true_eq] at this
  obtain ⟨⟨⟨⟨⟨a, b⟩, c⟩, d⟩, e⟩, f⟩ := this
  exact ⟨a, b, c, d, e, f⟩
theorem stage1 : ∀ n c, c < 4096 ^ n → c = F n c + (c / 2 &&& T n) + (c / 4 &&& O n)
  | 0, c, h => by
    have : c = 0 := by simpa using h
    subst this
    rfl
  | n + 1, c, h => by
    have hd : c % 4096 < 4096 := Nat.mod_lt _ (by decide)
    have hc : c / 4096 < 4096 ^ n := by
      rw [Nat.pow_succ] at h
      exact Nat.div_lt_of_lt_mul (by rw [Nat.mul_comm]; exact h)
    have ih := stage1 n (c / 4096) hc
    obtain ⟨k1, _⟩ := ok_one hd
    have dm := Nat.div_add_mod c 4096
    generalize hc' : c / 4096 = c' at *
    generalize hd' : c % 4096 = d at *
    have e2 : c / 2 = 4096 * (c' / 2) + (2048 * (c' % 2) + d / 2) := by omega
    have e4 : c / 4 = 4096 * (c' / 4) + (1024 * (c' % 4) + d / 4) := by omega
    have a2 : c / 2 &&& T (n + 1) = 4096 * (c' / 2 &&& T n) + (d / 2 &&& 1755) := by
      show c / 2 &&& (4096 * T n + 1755) = _
      rw [e2, and_block (by omega) (by decide), and_low (Y := 2048 * (c' % 2) + d / 2) 11 (by decide)]
      congr 2
      omega
    have a4 : c / 4 &&& O (n + 1) = 4096 * (c' / 4 &&& O n) + (d / 4 &&& 585) := by
      show c / 4 &&& (4096 * O n + 585) = _
      rw [e4, and_block (by omega) (by decide), and_low (Y := 1024 * (c' % 4) + d / 4) 10 (by decide)]
      congr 2
      omega
    have eF : F (n + 1) c = 4096 * F n c' + f1 d := by
      show 4096 * F n (c / 4096) + f1 (c % 4096) = _
      rw [hc', hd']
    rw [a2, a4, eF]
    have : f1 d = d - (d / 2 &&& 1755) - (d / 4 &&& 585) := rfl
    omega
theorem F_low : ∀ n c, F n c % 8 ≤ 3
  | 0, c => by show 0 % 8 ≤ 3; decide
  | n + 1, c => by
    have := (ok_one (d := c % 4096) (Nat.mod_lt _ (by decide))).2.2.1
    show (4096 * F n (c / 4096) + f1 (c % 4096)) % 8 ≤ 3
    omega
theorem G_low : ∀ n c, G n c % 64 ≤ 7
  | 0, c => by show 0 % 64 ≤ 7; decide
  | n + 1, c => by
    have := (ok_one (d := c % 4096) (Nat.mod_lt _ (by decide))).2.2.2.2.1
    show (4096 * G n (c / 4096) + g1 (c % 4096)) % 64 ≤ 7
    omega
theorem stage2 : ∀ n c, (F n c + F n c / 8) &&& S n = G n c
  | 0, c => by show (0 + 0 / 8) &&& 0 = 0; decide
  | n + 1, c => by
    have ih := stage2 n (c / 4096)
    have lo := F_low n (c / 4096)
    have := (ok_one (d := c % 4096) (Nat.mod_lt _ (by decide))).2.1
    show (4096 * F n (c / 4096) + f1 (c % 4096) + (4096 * F n (c / 4096) + f1 (c % 4096)) / 8) &&& (4096 * S n + 455) = 4096 * G n (c / 4096) + g1 (c % 4096)
    rw [← ih]
    have eg : g1 (c % 4096) = (f1 (c % 4096) + f1 (c % 4096) / 8) &&& 455 := rfl
    rw [eg]
    generalize F n (c / 4096) = a at *
    generalize f1 (c % 4096) = b at *
    have e : 4096 * a + b + (4096 * a + b) / 8 = 4096 * (a + a / 8) + (b + b / 8 + 512 * (a % 8)) := by omega
    rw [e, and_block (by omega) (by decide), and_low (Y := b + b / 8 + 512 * (a % 8)) 9 (by decide), and_low (Y := b + b / 8) 9 (by decide)]
    congr 2
    omega
theorem stage3 : ∀ n c, (G n c + G n c / 64) &&& W n = Hh n c
  | 0, c => by show (0 + 0 / 64) &&& 0 = 0; decide
  | n + 1, c => by
    have ih := stage3 n (c / 4096)
    have lo := G_low n (c / 4096)
    have := (ok_one (d := c % 4096) (Nat.mod_lt _ (by decide))).2.2.2.1
    show (4096 * G n (c / 4096) + g1 (c % 4096) + (4096 * G n (c / 4096) + g1 (c % 4096)) / 64) &&& (4096 * W n + 63) = 4096 * Hh n (c / 4096) + h1 (c % 4096)
    rw [← ih]
    have eg : h1 (c % 4096) = (g1 (c % 4096) + g1 (c % 4096) / 64) &&& 63 := rfl
    rw [eg]
    generalize G n (c / 4096) = a at *
    generalize g1 (c % 4096) = b at *
    have e : 4096 * a + b + (4096 * a + b) / 64 = 4096 * (a + a / 64) + (b + b / 64 + 64 * (a % 64)) := by omega
    rw [e, and_block (by omega) (by decide), and_low (Y := b + b / 64 + 64 * (a % 64)) 6 (by decide), and_low (Y := b + b / 64) 6 (by decide)]
    congr 2
    omega
theorem stage4 : ∀ n c, Hh n c % 4095 = (Cr.ms (12 * n) c).length % 4095
  | 0, c => rfl
  | n + 1, c => by
    have ih := stage4 n (c / 4096)
    have k := (ok_one (d := c % 4096) (Nat.mod_lt _ (by decide))).2.2.2.2.2
    have e : (Cr.ms (12 * (n + 1)) c).length = h1 (c % 4096) + (Cr.ms (12 * n) (c / 4096)).length := by
      unfold Cr.ms
      have : 12 * (n + 1) = 12 + 12 * n := by omega
      rw [this, List.range_add, List.filter_append, List.length_append, List.filter_map, List.length_map, k]
      congr 2
      · apply List.filter_congr
        intro i hi
        have := List.mem_range.mp hi
        have e : (4096 : Nat) = 2 ^ 12 := rfl
        rw [e, Nat.testBit_mod_two_pow, decide_eq_true this, Bool.true_and]
      · apply List.filter_congr
        intro i _
        have e : (4096 : Nat) = 2 ^ 12 := rfl
        show c.testBit (12 + i) = _
        rw [e, Nat.testBit_div_two_pow, Nat.add_comm]
    rw [e]
    show (4096 * Hh n (c / 4096) + h1 (c % 4096)) % 4095 = _
    omega
theorem masks : T 86 = (2 ^ 1032 - 1) / 7 * 3 ∧ O 86 = (2 ^ 1032 - 1) / 7 ∧ S 86 = (2 ^ 1032 - 1) / 63 * 7 ∧ W 86 = (2 ^ 1032 - 1) / 4095 * 63 := by decide +kernel
theorem pop1 {c : Nat} (hc : c < 2 ^ 1024) : (c : Int) - ((c / 2 &&& T 86 : Nat) : Int) - ((c / 4 &&& O 86 : Nat) : Int) = ((F 86 c : Nat) : Int) := by
  have h : c < 4096 ^ 86 := Nat.lt_of_lt_of_le hc (by decide +kernel)
  have := stage1 86 c h
  omega
theorem pop4 {c : Nat} (hc : c < 2 ^ 1024) : Hh 86 c % 4095 = (Cv.M c).length := by
  rw [stage4]
  have e : (Cr.ms (12 * 86) c).length = (Cv.M c).length := by
    unfold Cv.M Cr.ms
    rw [show 12 * 86 = 1024 + 8 from rfl, List.range_add, List.filter_append, List.length_append]
    have : ((List.range 8).map (1024 + ·)).filter (fun i => c.testBit i) = [] := by
      rw [List.filter_eq_nil_iff]
      intro i hi
      obtain ⟨j, _, rfl⟩ := List.mem_map.mp hi
      have : c.testBit (1024 + j) = false := Nat.testBit_lt_two_pow (Nat.lt_of_lt_of_le hc (Nat.pow_le_pow_right (by decide) (by omega)))
      simp [this]
    rw [this]
    rfl
  rw [e]
  have := Cr.ms_le 1024 c
  exact Nat.mod_eq_of_lt (by show (Cr.ms 1024 c).length < 4095; omega)
end Pp
namespace Ms
open Cv
def ev {α : Type} : List α → List α
  | [] => []
  | [x] => [x]
  | x :: _ :: r => x :: ev r
def od {α : Type} : List α → List α
  | [] => []
  | [_] => []
  | _ :: y :: r => y :: od r
def parts : List Nat → Nat → List Nat
  | [], c => [c]
  | p :: Q, c => inter (parts Q (c ^^^ (c &&& p))) (parts Q (c &&& p))
where
  inter : List Nat → List Nat → List Nat
    | x :: a, y :: b => x :: y :: inter a b
    | _, _ => []
open parts (inter)
theorem inter_ev : ∀ {a b : List Nat}, a.length = b.length → ev (inter a b) = a
  | [], [], _ => rfl
  | x :: a, y :: b, h => by
    show x :: ev (inter a b) = _
    rw [inter_ev (by simpa using h)]
  | [], _ :: _, h => by cases h
  | _ :: _, [], h => by cases h
theorem inter_od : ∀ {a b : List Nat}, a.length = b.length → od (inter a b) = b
  | [], [], _ => rfl
  | x :: a, y :: b, h => by
    show y :: od (inter a b) = _
    rw [inter_od (by simpa using h)]
  | [], _ :: _, h => by cases h
  | _ :: _, [], h => by cases h
theorem inter_len : ∀ {a b : List Nat}, a.length = b.length → (inter a b).length = 2 * a.length
  | [], [], _ => rfl
  | x :: a, y :: b, h => by
    show (inter a b).length + 1 + 1 = 2 * (a.length + 1)
    rw [inter_len (by simpa using h)]
    omega
  | [], _ :: _, h => by cases h
  | _ :: _, [], h => by cases h
theorem parts_len : ∀ (Q : List Nat) (c : Nat), (parts Q c).length = 2 ^ Q.length
  | [], c => rfl
  | p :: Q, c => by
    show (inter (parts Q (c ^^^ (c &&& p))) (parts Q (c &&& p))).length = 2 ^ (Q.length + 1)
    rw [inter_len (by rw [parts_len, parts_len]), parts_len, Nat.pow_succ]
    omega
theorem inter_map (f : Nat → Nat) : ∀ {a b : List Nat}, inter (a.map f) (b.map f) = (inter a b).map f
  | [], _ => rfl
  | _ :: _, [] => rfl
  | x :: a, y :: b => by
    show f x :: f y :: inter (a.map f) (b.map f) = _
    rw [inter_map f]
    rfl
theorem inter_app : ∀ {a b a' b' : List Nat}, a.length = b.length → inter (a ++ a') (b ++ b') = inter a b ++ inter a' b'
  | [], [], _, _, _ => rfl
  | x :: a, y :: b, a', b', h => by
    show x :: y :: inter (a ++ a') (b ++ b') = _
    rw [inter_app (by simpa using h)]
    rfl
  | [], _ :: _, _, _, h => by cases h
  | _ :: _, [], _, _, h => by cases h
theorem parts_snoc (q : Nat) : ∀ (Q : List Nat) (c : Nat), parts (Q ++ [q]) c = (parts Q c).map (fun x => x ^^^ (x &&& q)) ++ (parts Q c).map (fun x => x &&& q)
  | [], c => rfl
  | p :: Q, c => by
    show inter (parts (Q ++ [q]) (c ^^^ (c &&& p))) (parts (Q ++ [q]) (c &&& p)) = _
    rw [parts_snoc q Q, parts_snoc q Q, inter_app (by rw [List.length_map, List.length_map, parts_len, parts_len]), inter_map, inter_map]
    rfl
theorem less_bit (c p i : Nat) : (c ^^^ (c &&& p)).testBit i = (c.testBit i && !p.testBit i) := by
  rw [Nat.testBit_xor, Nat.testBit_and]
  cases c.testBit i <;> cases p.testBit i <;> rfl
theorem less_comm (c p q : Nat) : (c ^^^ (c &&& p)) ^^^ ((c ^^^ (c &&& p)) &&& q) = (c ^^^ (c &&& q)) ^^^ ((c ^^^ (c &&& q)) &&& p) := by
  apply Nat.eq_of_testBit_eq
  intro i
  rw [less_bit, less_bit, less_bit, less_bit]
  cases c.testBit i <;> cases p.testBit i <;> cases q.testBit i <;> rfl
def sz (c : Nat) : Nat := (M c).length
theorem sz_split (c p : Nat) : sz (c ^^^ (c &&& p)) + sz (c &&& p) = sz c := by
  have h : ∀ N : Nat, (Cr.ms N (c ^^^ (c &&& p))).length + (Cr.ms N (c &&& p)).length = (Cr.ms N c).length := by
    intro N
    unfold Cr.ms
    induction N with
    | zero => rfl
    | succ N ih =>
      rw [List.range_succ, List.filter_append, List.filter_append, List.filter_append, List.length_append, List.length_append, List.length_append]
      have : ([N].filter fun i => (c ^^^ (c &&& p)).testBit i).length + ([N].filter fun i => (c &&& p).testBit i).length = ([N].filter fun i => c.testBit i).length := by
        rw [List.filter_cons, List.filter_cons, List.filter_cons, less_bit, Nat.testBit_and]
        cases c.testBit N <;> cases p.testBit N <;> rfl
      omega
  exact h 1024
theorem parts_add (p : Nat) : ∀ (Q : List Nat) (c : Nat), List.zipWith (fun a b => a + b) ((parts Q (c ^^^ (c &&& p))).map sz) ((parts Q (c &&& p)).map sz) = (parts Q c).map sz
  | [], c => by
    show [sz (c ^^^ (c &&& p)) + sz (c &&& p)] = [sz c]
    rw [sz_split]
  | q :: Q, c => by
    have key : ∀ {a b a' b' : List Nat}, a.length = b.length → a'.length = a.length → b'.length = b.length → List.zipWith (fun a b => a + b) ((inter a b).map sz) ((inter a' b').map sz) = inter (List.zipWith (fun a b => a + b) (a.map sz) (a'.map sz)) (List.zipWith (fun a b => a + b) (b.map sz) (b'.map sz)) := by
      intro a
      induction a with
      | nil =>
        intro b a' b' h1 h2 h3
        cases b with
        | nil =>
          cases a' with
          | nil => rfl
          | cons _ _ => cases h2
        | cons _ _ => cases h1
      | cons x a ih =>
        intro b a' b' h1 h2 h3
        cases b with
        | nil => cases h1
        | cons y b =>
          cases a' with
          | nil => cases h2
          | cons x' a' =>
            cases b' with
            | nil => cases h3
            | cons y' b' =>
              show (sz x + sz x') :: (sz y + sz y') :: List.zipWith (fun a b => a + b) ((inter a b).map sz) ((inter a' b').map sz) = (sz x + sz x') :: (sz y + sz y') :: inter _ _
              rw [ih (by simpa using h1) (by simpa using h2) (by simpa using h3)]
    show List.zipWith (fun a b => a + b) ((inter (parts Q ((c ^^^ (c &&& p)) ^^^ ((c ^^^ (c &&& p)) &&& q))) (parts Q ((c ^^^ (c &&& p)) &&& q))).map sz) ((inter (parts Q ((c &&& p) ^^^ ((c &&& p) &&& q))) (parts Q ((c &&& p) &&& q))).map sz) = (inter (parts Q (c ^^^ (c &&& q))) (parts Q (c &&& q))).map sz
    rw [key (by rw [parts_len, parts_len]) (by rw [parts_len, parts_len]) (by rw [parts_len, parts_len])]
    have e1 : (c ^^^ (c &&& p)) ^^^ ((c ^^^ (c &&& p)) &&& q) = (c ^^^ (c &&& q)) ^^^ ((c ^^^ (c &&& q)) &&& p) := less_comm c p q
    have e2 : (c &&& p) ^^^ ((c &&& p) &&& q) = (c ^^^ (c &&& q)) &&& p := by
      apply Nat.eq_of_testBit_eq
      intro i
      rw [less_bit, Nat.testBit_and, Nat.testBit_and, less_bit]
      cases c.testBit i <;> cases p.testBit i <;> cases q.testBit i <;> rfl
    have e3 : (c ^^^ (c &&& p)) &&& q = (c &&& q) ^^^ ((c &&& q) &&& p) := by
      apply Nat.eq_of_testBit_eq
      intro i
      rw [less_bit, Nat.testBit_and, Nat.testBit_and, less_bit]
      cases c.testBit i <;> cases p.testBit i <;> cases q.testBit i <;> rfl
    have e4 : (c &&& p) &&& q = (c &&& q) &&& p := by
      apply Nat.eq_of_testBit_eq
      intro i
      rw [Nat.testBit_and, Nat.testBit_and, Nat.testBit_and, Nat.testBit_and]
      cases c.testBit i <;> cases p.testBit i <;> cases q.testBit i <;> rfl
    rw [e1, e2, e3, e4, parts_add p Q (c ^^^ (c &&& q)), parts_add p Q (c &&& q), inter_map]
def szs (Q : List Nat) (Cs : List Nat) : List Nat := Cs.flatMap fun c => (parts Q c).map sz
theorem ev_app {α : Type} : ∀ {a b : List α} (n : Nat), a.length = 2 * n → ev (a ++ b) = ev a ++ ev b
  | [], b, _, _ => rfl
  | [x], b, n, h => by simp at h; omega
  | x :: y :: a, b, n, h => by
    show x :: ev (a ++ b) = x :: ev a ++ ev b
    rw [ev_app (n - 1) (by simp at h; omega)]
    rfl
theorem od_app {α : Type} : ∀ {a b : List α} (n : Nat), a.length = 2 * n → od (a ++ b) = od a ++ od b
  | [], b, _, _ => rfl
  | [x], b, n, h => by simp at h; omega
  | x :: y :: a, b, n, h => by
    show y :: od (a ++ b) = y :: od a ++ od b
    rw [od_app (n - 1) (by simp at h; omega)]
    rfl
theorem ev_map {α β : Type} (f : α → β) : ∀ l : List α, ev (l.map f) = (ev l).map f
  | [] => rfl
  | [x] => rfl
  | x :: y :: r => by
    show f x :: ev (r.map f) = _
    rw [ev_map f r]
    rfl
theorem od_map {α β : Type} (f : α → β) : ∀ l : List α, od (l.map f) = (od l).map f
  | [] => rfl
  | [x] => rfl
  | x :: y :: r => by
    show f y :: od (r.map f) = _
    rw [od_map f r]
    rfl
theorem szs_ev (p : Nat) (Q : List Nat) : ∀ Cs : List Nat, ev (szs (p :: Q) Cs) = szs Q (Cs.map fun c => c ^^^ (c &&& p))
  | [] => rfl
  | c :: Cs => by
    have l : ((parts (p :: Q) c).map sz).length = 2 * 2 ^ Q.length := by rw [List.length_map, parts_len, List.length_cons, Nat.pow_succ]; omega
    show ev ((parts (p :: Q) c).map sz ++ szs (p :: Q) Cs) = (parts Q (c ^^^ (c &&& p))).map sz ++ szs Q (Cs.map fun c => c ^^^ (c &&& p))
    rw [ev_app _ l, szs_ev p Q Cs, ev_map]
    congr 2
    exact inter_ev (by rw [parts_len, parts_len])
theorem szs_od (p : Nat) (Q : List Nat) : ∀ Cs : List Nat, od (szs (p :: Q) Cs) = szs Q (Cs.map fun c => c &&& p)
  | [] => rfl
  | c :: Cs => by
    have l : ((parts (p :: Q) c).map sz).length = 2 * 2 ^ Q.length := by rw [List.length_map, parts_len, List.length_cons, Nat.pow_succ]; omega
    show od ((parts (p :: Q) c).map sz ++ szs (p :: Q) Cs) = (parts Q (c &&& p)).map sz ++ szs Q (Cs.map fun c => c &&& p)
    rw [od_app _ l, szs_od p Q Cs, od_map]
    congr 2
    exact inter_od (by rw [parts_len, parts_len])
theorem szs_add (p : Nat) (Q : List Nat) : ∀ Cs : List Nat, List.zipWith (fun a b => a + b) (szs Q (Cs.map fun c => c ^^^ (c &&& p))) (szs Q (Cs.map fun c => c &&& p)) = szs Q Cs
  | [] => rfl
  | c :: Cs => by
    show List.zipWith (fun a b => a + b) ((parts Q (c ^^^ (c &&& p))).map sz ++ szs Q (Cs.map fun c => c ^^^ (c &&& p))) ((parts Q (c &&& p)).map sz ++ szs Q (Cs.map fun c => c &&& p)) = (parts Q c).map sz ++ szs Q Cs
    rw [List.zipWith_append (by rw [List.length_map, List.length_map, parts_len, parts_len]), parts_add, szs_add p Q Cs]
theorem szs_len (Q : List Nat) : ∀ Cs : List Nat, (szs Q Cs).length = Cs.length * 2 ^ Q.length
  | [] => by simp [szs]
  | c :: Cs => by
    show ((parts Q c).map sz ++ szs Q Cs).length = _
    rw [List.length_append, List.length_map, parts_len, szs_len Q Cs, List.length_cons, Nat.succ_mul]
    omega
def step (Cs : List Nat) (p : Nat) : List Nat := Cs ++ Cs.map fun c => c ^^^ (c &&& p)
theorem szs_step (p : Nat) (Q Cs : List Nat) : List.zipWith (fun a b => a + b) (ev (szs (p :: Q) Cs)) (od (szs (p :: Q) Cs)) ++ ev (szs (p :: Q) Cs) = szs Q (step Cs p) := by
  rw [szs_ev, szs_od, szs_add]
  unfold szs step
  rw [List.flatMap_append]
def tot (Q : List Nat) (m : Nat) : List Nat → List Int → Int
  | c :: Cs, s :: ss => s * (hs Q (M c) m : Int) + tot Q m Cs ss
  | _, _ => 0
theorem tot_app (Q : List Nat) (m : Nat) : ∀ {Cs Cs' : List Nat} {ss ss' : List Int}, Cs.length = ss.length → tot Q m (Cs ++ Cs') (ss ++ ss') = tot Q m Cs ss + tot Q m Cs' ss'
  | [], _, [], _, _ => by show _ = 0 + _; rw [Int.zero_add]; rfl
  | c :: Cs, _, s :: ss, _, h => by
    show s * (hs Q (M c) m : Int) + tot Q m (Cs ++ _) (ss ++ _) = s * (hs Q (M c) m : Int) + tot Q m Cs ss + _
    rw [tot_app Q m (by simpa using h), Int.add_assoc]
  | [], _, _ :: _, _, h => by cases h
  | _ :: _, _, [], _, h => by cases h
theorem M_less (c p : Nat) : M (c ^^^ (c &&& p)) = (M c).filter fun x => !p.testBit x := by
  unfold M Cr.ms
  rw [List.filter_filter]
  apply List.filter_congr
  intro i _
  rw [less_bit, Bool.and_comm]
theorem tot_less (p : Nat) (Q : List Nat) (m : Nat) : ∀ {Cs : List Nat} {ss : List Int}, Cs.length = ss.length → tot (p :: Q) m Cs ss = tot Q m Cs ss + tot Q m (Cs.map fun c => c ^^^ (c &&& p)) (ss.map fun s => -s)
  | [], [], _ => rfl
  | c :: Cs, s :: ss, h => by
    have ih := tot_less p Q m (Cs := Cs) (ss := ss) (by simpa using h)
    have k := hs_miss p (M c) Q m
    rw [← M_less] at k
    show s * (hs (p :: Q) (M c) m : Int) + tot (p :: Q) m Cs ss = s * (hs Q (M c) m : Int) + tot Q m Cs ss + (-s * (hs Q (M (c ^^^ (c &&& p))) m : Int) + tot Q m (Cs.map fun c => c ^^^ (c &&& p)) (ss.map fun s => -s))
    rw [ih, ← k, Int.natCast_add, Int.mul_add, Int.neg_mul]
    omega
  | [], _ :: _, h => by cases h
  | _ :: _, [], h => by cases h
theorem tot_step (p : Nat) (Q : List Nat) (m : Nat) {Cs : List Nat} {ss : List Int} (h : Cs.length = ss.length) : tot Q m (step Cs p) (ss ++ ss.map fun s => -s) = tot (p :: Q) m Cs ss := by
  unfold step
  rw [tot_app Q m h, tot_less p Q m h]
theorem tot_start (Q : List Nat) (m c : Nat) : tot Q m [c] [1] = (hs Q (M c) m : Int) := by
  show 1 * (hs Q (M c) m : Int) + 0 = _
  omega
end Ms
namespace Ex
open Cv
def tst (q : Nat × Nat) : Sh12.Test := ⟨Sh12.wide fun i => q.2.testBit i, q.1 == 1⟩
theorem wide_len (f : Nat → Bool) : (Sh12.wide f).length = 1024 := by
  unfold Sh12.wide Sh12.MOST
  rw [List.length_map, List.length_range]
theorem has_wide (f : Nat → Bool) {i : Nat} (h : i < 1024) : Sh12.has (Sh12.wide f) i = f i := by
  unfold Sh12.has Sh12.wide Sh12.MOST
  rw [List.getD_eq_getElem?_getD, List.getElem?_map, List.getElem?_range h]
  rfl
theorem members_wide (f : Nat → Bool) : Sh12.members (Sh12.wide f) = (List.range 1024).filter f := by
  unfold Sh12.members
  rw [wide_len]
  exact List.filter_congr fun i hi => has_wide f (List.mem_range.mp hi)
theorem told_wide (f : Nat → Bool) : Sh12Neutral.told (Sh12.set1 (Sh12.wide f)) = (((List.range 1024).filter f).length : Int) :: ((List.range 1024).filter f).map fun (n : Nat) => (n : Int) := by
  show (if Int.ofNat (Sh12.members (Sh12.wide f)).length < 0 then [Int.ofNat (Sh12.members (Sh12.wide f)).length] else Int.ofNat (Sh12.members (Sh12.wide f)).length :: (Sh12.members (Sh12.wide f)).map fun (n : Nat) => (n : Int)) = _
  rw [members_wide]
  generalize (List.range 1024).filter f = l
  have nn : ¬ Int.ofNat l.length < 0 := Int.not_lt.mpr (Int.natCast_nonneg l.length)
  rw [if_neg nn]
  rfl
def wl (TS : List (Nat × Nat)) : Nat := TS.foldl (fun c q => if q.1 = 0 then c ||| q.2 else c) 0
theorem wl_snoc (TS : List (Nat × Nat)) (q : Nat × Nat) : wl (TS ++ [q]) = if q.1 = 0 then wl TS ||| q.2 else wl TS := by
  unfold wl
  rw [List.foldl_append]
  rfl
theorem fold_bit (i : Nat) : ∀ (TS : List (Nat × Nat)) (c : Nat), (TS.foldl (fun c q => if q.1 = 0 then c ||| q.2 else c) c).testBit i = (c.testBit i || TS.any fun q => q.1 == 0 && q.2.testBit i)
  | [], c => by simp
  | q :: r, c => by
    rw [List.foldl_cons, fold_bit i r, List.any_cons]
    by_cases h : q.1 = 0
    · simp [h, Bool.or_assoc]
    · have h2 : (q.1 == 0) = false := beq_eq_false_iff_ne.mpr h
      rw [if_neg h, h2, Bool.false_and, Bool.false_or]
theorem wl_bit (TS : List (Nat × Nat)) (i : Nat) : (wl TS).testBit i = TS.any fun q => q.1 == 0 && q.2.testBit i := by
  unfold wl
  rw [fold_bit, Nat.zero_testBit, Bool.false_or]
structure TOk (n : Nat) (TS : List (Nat × Nat)) : Prop where
  one : ∀ q ∈ TS, q.1 ≤ 1
  lt : ∀ q ∈ TS, q.2 < 2 ^ n
theorem lt_of_bits {n c : Nat} (h : ∀ i, c.testBit i = true → i < n) : c < 2 ^ n := by
  refine Nat.lt_of_not_le fun hle => ?_
  obtain ⟨i, hi, e⟩ := Nat.exists_ge_and_testBit_of_ge_two_pow hle
  have := h i e
  omega
theorem wl_lt {n : Nat} {TS : List (Nat × Nat)} (h : TOk n TS) : wl TS < 2 ^ n := lt_of_bits fun i hi => by
  rw [wl_bit] at hi
  obtain ⟨q, hq, e⟩ := List.any_eq_true.mp hi
  exact bit_lt (h.lt q hq) (Bool.and_eq_true_iff.mp e).2
def doubt (n : Nat) (TS : List (Nat × Nat)) : Nat := (2 ^ n - 1) ^^^ wl TS
theorem doubt_bit {n : Nat} {TS : List (Nat × Nat)} (h : TOk n TS) (i : Nat) : (doubt n TS).testBit i = (decide (i < n) && !(wl TS).testBit i) := by
  unfold doubt
  rw [Nat.testBit_xor, Nat.testBit_two_pow_sub_one]
  by_cases e : i < n
  · simp [e]
  · have : (wl TS).testBit i = false := by
      cases z : (wl TS).testBit i with
      | false => rfl
      | true => exact absurd (bit_lt (wl_lt h) z) e
    simp [e, this]
theorem doubt_lt {n : Nat} {TS : List (Nat × Nat)} (h : TOk n TS) : doubt n TS < 2 ^ n := lt_of_bits fun i hi => by
  rw [doubt_bit h] at hi
  exact of_decide_eq_true (Bool.and_eq_true_iff.mp hi).1
def susp (n : Nat) (TS : List (Nat × Nat)) : List Nat := (TS.filter fun q => q.1 != 0).map fun q => q.2 &&& doubt n TS
theorem mem_susp {n : Nat} {TS : List (Nat × Nat)} (h : TOk n TS) {p : Nat} : p ∈ susp n TS ↔ ∃ q ∈ TS, q.1 = 1 ∧ p = q.2 &&& doubt n TS := by
  unfold susp
  rw [List.mem_map]
  constructor
  · rintro ⟨q, hq, rfl⟩
    obtain ⟨h1, h2⟩ := List.mem_filter.mp hq
    have := h.one q h1
    have h2 : q.1 ≠ 0 := by simpa using h2
    exact ⟨q, h1, by omega, rfl⟩
  · rintro ⟨q, hq, e, rfl⟩
    exact ⟨q, List.mem_filter.mpr ⟨hq, by rw [e]; rfl⟩, rfl⟩
theorem meets_eq {c : Nat} {s : List Nat} (hs : ∀ x ∈ s, x < 1024) : Sh12.meets (Sh12.wide fun i => c.testBit i) s = s.any fun x => c.testBit x := by
  unfold Sh12.meets
  rw [Bool.eq_iff_iff, List.any_eq_true, List.any_eq_true]
  constructor
  · rintro ⟨x, hx, e⟩
    exact ⟨x, hx, by rw [← e]; exact (has_wide _ (hs x hx)).symm⟩
  · rintro ⟨x, hx, e⟩
    exact ⟨x, hx, by rw [← e]; exact has_wide _ (hs x hx)⟩
theorem fits_iff {TS : List (Nat × Nat)} {s : List Nat} (hs : ∀ x ∈ s, x < 1024) : Sh12.fits (TS.map tst) s = true ↔ ∀ q ∈ TS, (s.any fun x => q.2.testBit x) = (q.1 == 1) := by
  unfold Sh12.fits
  rw [List.all_map, List.all_eq_true]
  constructor
  · intro h q hq
    have := h q hq
    have : (Sh12.meets (Sh12.wide fun i => q.2.testBit i) s == (q.1 == 1)) = true := this
    rw [meets_eq hs] at this
    exact beq_iff_eq.mp this
  · intro h q hq
    show (Sh12.meets (Sh12.wide fun i => q.2.testBit i) s == (q.1 == 1)) = true
    rw [meets_eq hs]
    exact beq_iff_eq.mpr (h q hq)
theorem fits_eq {n : Nat} (hn : n ≤ 1024) {TS : List (Nat × Nat)} (h : TOk n TS) {s : List Nat} (hs : ∀ x ∈ s, x < n) : Sh12.fits (TS.map tst) s = (s.all (fun x => (doubt n TS).testBit x) && hitsAll (susp n TS) s) := by
  rw [Bool.eq_iff_iff, fits_iff (fun x hx => Nat.lt_of_lt_of_le (hs x hx) hn), Bool.and_eq_true, List.all_eq_true, hitsAll_iff]
  constructor
  · intro f
    have hd : ∀ x ∈ s, (doubt n TS).testBit x = true := fun x hx => by
      rw [doubt_bit h, decide_eq_true (hs x hx), Bool.true_and]
      cases e : (wl TS).testBit x with
      | false => rfl
      | true =>
        rw [wl_bit] at e
        obtain ⟨q, hq, e⟩ := List.any_eq_true.mp e
        obtain ⟨e1, e2⟩ := Bool.and_eq_true_iff.mp e
        have e1 : q.1 = 0 := by simpa using e1
        have := f q hq
        rw [List.any_eq_true.mpr ⟨x, hx, e2⟩, e1] at this
        cases this
    refine ⟨hd, fun p hp => ?_⟩
    obtain ⟨q, hq, e, rfl⟩ := (mem_susp h).mp hp
    have := f q hq
    rw [e] at this
    obtain ⟨x, hx, e2⟩ := List.any_eq_true.mp this
    exact ⟨x, hx, by rw [Nat.testBit_and, e2, hd x hx]; rfl⟩
  · rintro ⟨hd, hh⟩ q hq
    have := h.one q hq
    rcases Nat.eq_zero_or_pos q.1 with e | e
    · rw [e]
      show _ = false
      rw [List.any_eq_false]
      intro x hx z
      have w : (wl TS).testBit x = true := by rw [wl_bit]; exact List.any_eq_true.mpr ⟨q, hq, by rw [e, z]; rfl⟩
      have := hd x hx
      rw [doubt_bit h, w] at this
      simp at this
    · have e : q.1 = 1 := by omega
      rw [e]
      show _ = true
      obtain ⟨x, hx, z⟩ := hh _ ((mem_susp h).mpr ⟨q, hq, e, rfl⟩)
      rw [Nat.testBit_and] at z
      exact List.any_eq_true.mpr ⟨x, hx, (Bool.and_eq_true_iff.mp z).1⟩
theorem choose_filter (c : Nat) : ∀ (L : List Nat) (k : Nat) (P : List Nat), (Sh12.choose k L).filter (fun s => s.all (fun x => c.testBit x) && hitsAll P s) = HS P (L.filter fun x => c.testBit x) k
  | L, 0, P => by
    have e : Sh12.choose 0 L = [[]] := by cases L <;> rfl
    rw [e, HS_zero, List.filter_cons, hitsAll_nil_iff]
    cases P.isEmpty <;> rfl
  | [], k + 1, P => rfl
  | x :: L, k + 1, P => by
    show ((Sh12.choose k L).map (fun l => x :: l) ++ Sh12.choose (k + 1) L).filter _ = _
    rw [List.filter_append, List.filter_map, choose_filter c L (k + 1) P, List.filter_cons]
    cases hx : c.testBit x with
    | true =>
      have : ((fun s : List Nat => s.all (fun x => c.testBit x) && hitsAll P s) ∘ fun l => x :: l) = fun s => s.all (fun x => c.testBit x) && hitsAll (Hi.without P x) s := by
        funext s
        show ((x :: s).all (fun x => c.testBit x) && hitsAll P (x :: s)) = _
        rw [List.all_cons, hx, Bool.true_and, hitsAll_cons]
      rw [this, choose_filter c L k, if_pos rfl, HS_cons]
    | false =>
      have : ((fun s : List Nat => s.all (fun x => c.testBit x) && hitsAll P s) ∘ fun l => x :: l) = fun s => false := by
        funext s
        show ((x :: s).all (fun x => c.testBit x) && hitsAll P (x :: s)) = _
        rw [List.all_cons, hx, Bool.false_and, Bool.false_and]
      have e2 : ∀ l : List (List Nat), l.filter (fun _ => false) = [] := fun l => by simp
      rw [this, if_neg (by simp), e2]
      rfl
theorem ms_more {n c : Nat} (hc : c < 2 ^ n) (k : Nat) : Cr.ms (n + k) c = Cr.ms n c := by
  unfold Cr.ms
  rw [List.range_add, List.filter_append]
  have : ((List.range k).map (n + ·)).filter (fun i => c.testBit i) = [] := by
    rw [List.filter_eq_nil_iff]
    intro i hi
    obtain ⟨j, _, rfl⟩ := List.mem_map.mp hi
    have : c.testBit (n + j) = false := Nat.testBit_lt_two_pow (Nat.lt_of_lt_of_le hc (Nat.pow_le_pow_right (by decide) (by omega)))
    simp [this]
  rw [this, List.append_nil]
theorem ms_eq {n c : Nat} (hn : n ≤ 1024) (hc : c < 2 ^ n) : M c = Cr.ms n c := by
  have := ms_more hc (1024 - n)
  rw [show n + (1024 - n) = 1024 by omega] at this
  exact this
theorem up {n c : Nat} (hn : n ≤ 1024) (hc : c < 2 ^ n) : c < 2 ^ 1024 := Nat.lt_of_lt_of_le hc (Nat.pow_le_pow_right (by decide) hn)
theorem explains_eq {n : Nat} (hn : n ≤ 1024) {TS : List (Nat × Nat)} (h : TOk n TS) (d : Nat) : Sh12.explains n (TS.map tst) d = (List.range (d + 1)).flatMap fun k => HS (susp n TS) (M (doubt n TS)) k := by
  unfold Sh12.explains Sh12.upTo
  rw [List.filter_flatMap]
  congr 1
  funext k
  rw [ms_eq hn (doubt_lt h)]
  unfold Cr.ms
  rw [← choose_filter]
  refine List.filter_congr fun s hs => ?_
  exact fits_eq hn h fun x hx => List.mem_range.mp ((Hi.choose_iff.mp hs).1.subset hx)
theorem explains_len {n : Nat} (hn : n ≤ 1024) {TS : List (Nat × Nat)} (h : TOk n TS) (d : Nat) : (Sh12.explains n (TS.map tst) d).length = hs (susp n TS) (M (doubt n TS)) d := by
  rw [explains_eq hn h]
  induction d with
  | zero =>
    show (HS _ _ 0 ++ []).length = hk _ _ 0
    rw [List.append_nil]
    rfl
  | succ d ih =>
    rw [List.range_succ, List.flatMap_append, List.length_append, ih]
    show _ + (HS _ _ (d + 1) ++ []).length = hs _ _ d + hk _ _ (d + 1)
    rw [List.append_nil]
    rfl
theorem mem_explains {n : Nat} (hn : n ≤ 1024) {TS : List (Nat × Nat)} (h : TOk n TS) {d : Nat} {s : List Nat} : s ∈ Sh12.explains n (TS.map tst) d ↔ s.Sublist (M (doubt n TS)) ∧ s.length ≤ d ∧ hitsAll (susp n TS) s = true := by
  rw [explains_eq hn h, List.mem_flatMap]
  constructor
  · rintro ⟨k, hk, hs⟩
    obtain ⟨a, b, c⟩ := mem_HS.mp hs
    have := List.mem_range.mp hk
    exact ⟨a, by omega, c⟩
  · rintro ⟨a, b, c⟩
    exact ⟨s.length, List.mem_range.mpr (by omega), mem_HS.mpr ⟨a, rfl, c⟩⟩
theorem explains_nil {n : Nat} (hn : n ≤ 1024) {TS : List (Nat × Nat)} (h : TOk n TS) {d : Nat} : Sh12.explains n (TS.map tst) d = [] ↔ ¬ Cov (susp n TS) (doubt n TS) d := by
  rw [← List.length_eq_zero_iff, explains_len hn h, ← cov_iff (up hn (doubt_lt h))]
  omega
theorem some_iff {n : Nat} (hn : n ≤ 1024) {TS : List (Nat × Nat)} (h : TOk n TS) {d i : Nat} : (∃ s ∈ Sh12.explains n (TS.map tst) d, i ∈ s) ↔ ∃ s : List Nat, s.length ≤ d ∧ (∀ x ∈ s, (doubt n TS).testBit x = true) ∧ (∀ p ∈ susp n TS, ∃ x ∈ s, p.testBit x = true) ∧ i ∈ s := by
  have lt := up hn (doubt_lt h)
  constructor
  · rintro ⟨s, hs, hi⟩
    obtain ⟨a, b, c⟩ := (mem_explains hn h).mp hs
    exact ⟨s, b, fun x hx => (mem_Mc lt).mp (a.subset hx), hitsAll_iff.mp c, hi⟩
  · rintro ⟨s, a, b, c, hi⟩
    obtain ⟨t, t1, t2, t3⟩ := Hi.part_of (nd_M (doubt n TS)) (s := s) fun x hx => (mem_Mc lt).mpr (b x hx)
    refine ⟨t, (mem_explains hn h).mpr ⟨t1, by omega, hitsAll_iff.mpr fun p hp => ?_⟩, (t3 i).mpr hi⟩
    obtain ⟨x, hx, e⟩ := c p hp
    exact ⟨x, (t3 x).mpr hx, e⟩
theorem all_iff {n : Nat} (hn : n ≤ 1024) {TS : List (Nat × Nat)} (h : TOk n TS) {d i : Nat} : (∀ s ∈ Sh12.explains n (TS.map tst) d, i ∈ s) ↔ ∀ s : List Nat, s.length ≤ d → (∀ x ∈ s, (doubt n TS).testBit x = true) → (∀ p ∈ susp n TS, ∃ x ∈ s, p.testBit x = true) → i ∈ s := by
  have lt := up hn (doubt_lt h)
  constructor
  · intro q s a b c
    obtain ⟨t, t1, t2, t3⟩ := Hi.part_of (nd_M (doubt n TS)) (s := s) fun x hx => (mem_Mc lt).mpr (b x hx)
    refine (t3 i).mp (q t ((mem_explains hn h).mpr ⟨t1, by omega, hitsAll_iff.mpr fun p hp => ?_⟩))
    obtain ⟨x, hx, e⟩ := c p hp
    exact ⟨x, (t3 x).mpr hx, e⟩
  · intro q s hs
    obtain ⟨a, b, c⟩ := (mem_explains hn h).mp hs
    exact q s b (fun x hx => (mem_Mc lt).mp (a.subset hx)) (hitsAll_iff.mp c)
def First (P L : List Nat) (k : Nat) (s : List Nat) : Prop := ∃ r, HS P L k = s :: r
theorem hs_le_zero {P L : List Nat} : ∀ {m j : Nat}, hs P L m = 0 → j ≤ m → HS P L j = []
  | 0, j, h, hj => by
    have : j = 0 := by omega
    subst this
    exact List.eq_nil_of_length_eq_zero h
  | m + 1, j, h, hj => by
    have h : hs P L m + hk P L (m + 1) = 0 := h
    rcases Nat.lt_or_ge m j with e | e
    · have : j = m + 1 := by omega
      subst this
      exact List.eq_nil_of_length_eq_zero (by show hk P L (m + 1) = 0; omega)
    · exact hs_le_zero (m := m) (by omega) e
theorem explains_first {n : Nat} (hn : n ≤ 1024) {TS : List (Nat × Nat)} (h : TOk n TS) {d k : Nat} {s : List Nat} (hk : k ≤ d) (hf : First (susp n TS) (M (doubt n TS)) k s) (hno : ∀ j, j < k → ¬ Cov (susp n TS) (doubt n TS) j) : ∃ r, Sh12.explains n (TS.map tst) d = s :: r := by
  obtain ⟨r, hr⟩ := hf
  rw [explains_eq hn h]
  have hd : d + 1 = k + (d - k + 1) := by omega
  have z : (List.range k).flatMap (fun k => HS (susp n TS) (M (doubt n TS)) k) = [] := by
    rw [List.flatMap_eq_nil_iff]
    intro j hj
    exact hs_le_zero (hs_none (up hn (doubt_lt h)) (hno j (List.mem_range.mp hj))) (Nat.le_refl j)
  rw [hd, List.range_add, List.flatMap_append, z, List.range_succ_eq_map, List.map_cons, List.flatMap_cons, Nat.add_zero, hr]
  exact ⟨_, rfl⟩
theorem first_with {P : List Nat} {c x k : Nat} (hc : c < 2 ^ 1024) (lx : Cr.Low c x) (hcov : Cov (Hi.without P x) (c ^^^ 2 ^ x) k) (hno : ¬ Cov P c k) {s : List Nat} (hf : First (Hi.without P x) (M (c ^^^ 2 ^ x)) k s) : First P (M c) (k + 1) (x :: s) := by
  obtain ⟨r, hr⟩ := hf
  have e : M c = x :: M (c ^^^ 2 ^ x) := Cr.ms_low lx hc
  rw [First, e, HS_cons, hr]
  exact ⟨_, rfl⟩
theorem first_without {P : List Nat} {c x k : Nat} (hc : c < 2 ^ 1024) (lx : Cr.Low c x) (hcov : ¬ Cov (Hi.without P x) (c ^^^ 2 ^ x) k) {s : List Nat} (hf : First P (M (c ^^^ 2 ^ x)) (k + 1) s) : First P (M c) (k + 1) s := by
  obtain ⟨r, hr⟩ := hf
  have e : M c = x :: M (c ^^^ 2 ^ x) := Cr.ms_low lx hc
  have z : HS (Hi.without P x) (M (c ^^^ 2 ^ x)) k = [] := hs_le_zero (hs_none (xor_lt hc lx.1) hcov) (Nat.le_refl k)
  rw [First, e, HS_cons, hr, z]
  exact ⟨_, rfl⟩
theorem alone_iff {p : Nat} (h : p ≠ 0) : p &&& (p - 1) = 0 ↔ ∃ k, p = 2 ^ k := by
  constructor
  · obtain ⟨k, m, e⟩ := Cr.odd_part p p (Nat.le_refl p) h
    have hk : 0 < 2 ^ k := Nat.pow_pos (by decide)
    have e2 : p - 1 = 2 ^ k * (2 * m) + (2 ^ k - 1) := by
      rw [e, Nat.mul_add, Nat.mul_one]
      omega
    have e3 : p &&& (p - 1) = 2 ^ k * (2 * m) := by
      apply Nat.eq_of_testBit_eq
      intro j
      rw [Nat.testBit_and, e2, Nat.testBit_two_pow_mul_add _ (by omega), e, Nat.testBit_two_pow_mul, Nat.testBit_two_pow_mul]
      by_cases hj : j < k
      · have : ¬ j ≥ k := by omega
        simp [this]
      · have hj2 : j ≥ k := by omega
        rw [if_neg hj, decide_eq_true hj2, Bool.true_and, Bool.true_and]
        cases j - k with
        | zero => simp
        | succ i => rw [Nat.testBit_succ, Nat.testBit_succ, show (2 * m + 1) / 2 = m by omega, show 2 * m / 2 = m by omega, Bool.and_self]
    rw [e3]
    intro z
    rcases Nat.mul_eq_zero.mp z with z | z
    · omega
    · have : m = 0 := by omega
      subst this
      exact ⟨k, by rw [e]; simp⟩
  · rintro ⟨k, rfl⟩
    apply Nat.eq_of_testBit_eq
    intro j
    rw [Nat.testBit_and, Nat.testBit_two_pow, Nat.testBit_two_pow_sub_one, Nat.zero_testBit]
    by_cases e : k = j
    · subst e
      simp
    · simp [e]
theorem M_pow {k : Nat} (h : k < 1024) : M (2 ^ k) = [k] := by
  have lx : Cr.Low (2 ^ k) k := ⟨Nat.testBit_two_pow_self, fun j hj => by rw [Nat.testBit_two_pow]; simp; omega⟩
  have hc : 2 ^ k < 2 ^ 1024 := Nat.pow_lt_pow_right (by decide) h
  have e : M (2 ^ k) = k :: M (2 ^ k ^^^ 2 ^ k) := Cr.ms_low lx hc
  rw [e, Nat.xor_self]
  show k :: Cr.ms 1024 0 = [k]
  rw [Cr.ms_zero]
theorem M_inj {a b : Nat} (ha : a < 2 ^ 1024) (hb : b < 2 ^ 1024) (h : M a = M b) : a = b := by
  apply Nat.eq_of_testBit_eq
  intro i
  rw [Bool.eq_iff_iff, ← mem_Mc ha, ← mem_Mc hb, h]
theorem M_zero {a : Nat} (ha : a < 2 ^ 1024) : M a = [] ↔ a = 0 := by
  constructor
  · intro h
    refine M_inj ha (by decide) (h.trans ?_)
    show [] = Cr.ms 1024 0
    rw [Cr.ms_zero]
  · rintro rfl
    exact Cr.ms_zero 1024
theorem left_eq {n : Nat} (hn : n ≤ 1024) {TS : List (Nat × Nat)} (h : TOk n TS) {q : Nat × Nat} (hq : q ∈ TS) : ((List.range n).filter fun (j : Nat) => Sh12.has (tst q).pool j && !Sh12.isWell (TS.map tst) j) = M (q.2 &&& doubt n TS) := by
  have lt : q.2 &&& doubt n TS < 2 ^ n := Nat.lt_of_le_of_lt Nat.and_le_left (h.lt q hq)
  rw [ms_eq hn lt]
  unfold Cr.ms
  refine List.filter_congr fun j hj => ?_
  have hj := List.mem_range.mp hj
  have hj2 : j < 1024 := by omega
  have e1 : Sh12.has (tst q).pool j = q.2.testBit j := has_wide _ hj2
  have e2 : Sh12.isWell (TS.map tst) j = (wl TS).testBit j := by
    rw [wl_bit]
    unfold Sh12.isWell
    rw [List.any_map, Bool.eq_iff_iff, List.any_eq_true, List.any_eq_true]
    have eq : ∀ q ∈ TS, ((fun t : Sh12.Test => !t.positive && Sh12.has t.pool j) ∘ tst) q = (q.1 == 0 && q.2.testBit j) := fun q hq => by
      show (!(q.1 == 1) && Sh12.has (Sh12.wide fun i => q.2.testBit i) j) = _
      rw [has_wide _ hj2]
      have := h.one q hq
      rcases Nat.eq_zero_or_pos q.1 with e | e
      · rw [e]; rfl
      · have e : q.1 = 1 := by omega
        rw [e]; rfl
    constructor
    · rintro ⟨q, hq, e⟩
      exact ⟨q, hq, by rw [← eq q hq]; exact e⟩
    · rintro ⟨q, hq, e⟩
      exact ⟨q, hq, by rw [eq q hq]; exact e⟩
  rw [e1, e2, Nat.testBit_and, doubt_bit h, decide_eq_true hj, Bool.true_and]
theorem susp_lt {n : Nat} (hn : n ≤ 1024) {TS : List (Nat × Nat)} (h : TOk n TS) {p : Nat} (hp : p ∈ susp n TS) : p < 2 ^ 1024 := by
  obtain ⟨q, hq, _, rfl⟩ := (mem_susp h).mp hp
  exact up hn (Nat.lt_of_le_of_lt Nat.and_le_left (h.lt q hq))
theorem clash_iff {n : Nat} (hn : n ≤ 1024) {TS : List (Nat × Nat)} (h : TOk n TS) : Sh12.clash n (TS.map tst) = true ↔ 0 ∈ susp n TS := by
  unfold Sh12.clash
  rw [List.any_map, List.any_eq_true]
  have eq : ∀ q ∈ TS, ((fun t : Sh12.Test => t.positive && ((List.range n).filter fun (j : Nat) => Sh12.has t.pool j && !Sh12.isWell (TS.map tst) j) == []) ∘ tst) q = ((q.1 == 1) && (M (q.2 &&& doubt n TS) == [])) := fun q hq => by
    rw [← left_eq hn h hq]
    rfl
  rw [mem_susp h]
  constructor
  · rintro ⟨q, hq, e⟩
    rw [eq q hq] at e
    obtain ⟨e1, e2⟩ := Bool.and_eq_true_iff.mp e
    exact ⟨q, hq, by simpa using e1, ((M_zero (up hn (Nat.lt_of_le_of_lt Nat.and_le_left (h.lt q hq)))).mp (by simpa using e2)).symm⟩
  · rintro ⟨q, hq, e1, e2⟩
    refine ⟨q, hq, ?_⟩
    rw [eq q hq, e1, ← e2]
    show (M 0 == []) = true
    rw [(M_zero (by decide)).mpr rfl]
    rfl
theorem isIll_iff {n : Nat} (hn : n ≤ 1024) {TS : List (Nat × Nat)} (h : TOk n TS) {i : Nat} : Sh12.isIll n (TS.map tst) i = true ↔ 2 ^ i ∈ susp n TS := by
  unfold Sh12.isIll
  rw [List.any_map, List.any_eq_true]
  have eq : ∀ q ∈ TS, ((fun t : Sh12.Test => t.positive && ((List.range n).filter fun (j : Nat) => Sh12.has t.pool j && !Sh12.isWell (TS.map tst) j) == [i]) ∘ tst) q = ((q.1 == 1) && (M (q.2 &&& doubt n TS) == [i])) := fun q hq => by
    rw [← left_eq hn h hq]
    rfl
  rw [mem_susp h]
  constructor
  · rintro ⟨q, hq, e⟩
    rw [eq q hq] at e
    obtain ⟨e1, e2⟩ := Bool.and_eq_true_iff.mp e
    have e2 : M (q.2 &&& doubt n TS) = [i] := by simpa using e2
    have hi : i < 1024 := (mem_M.mp (e2 ▸ List.mem_singleton.mpr rfl : i ∈ M (q.2 &&& doubt n TS))).1
    exact ⟨q, hq, by simpa using e1, (M_inj (up hn (Nat.lt_of_le_of_lt Nat.and_le_left (h.lt q hq))) (Nat.pow_lt_pow_right (by decide) hi) (e2.trans (M_pow hi).symm)).symm⟩
  · rintro ⟨q, hq, e1, e2⟩
    refine ⟨q, hq, ?_⟩
    have lt := up hn (Nat.lt_of_le_of_lt Nat.and_le_left (h.lt q hq) : q.2 &&& doubt n TS < 2 ^ n)
    rw [← e2] at lt
    have hi : i < 1024 := bit_lt lt Nat.testBit_two_pow_self
    rw [eq q hq, e1, ← e2, M_pow hi]
    simp
end Ex
namespace SetA
open PySem
def Ris (xs : Array Nat) : Prop := xs.toList.Pairwise (· < ·)
theorem Ris.lt {xs : Array Nat} (h : Ris xs) {i j : Nat} (hj : j < xs.size) (hij : i < j) : xs[i]'(by omega) < xs[j] := by
  have := List.pairwise_iff_getElem.mp h i j (by simpa using (by omega : i < xs.size)) (by simpa using hj) hij
  simpa using this
theorem go_spec {xs : Array Nat} (h : Ris xs) (j : Nat) : ∀ (fuel lo hi : Nat), lo ≤ hi → hi ≤ xs.size → hi - lo ≤ fuel → (∀ k (hk : k < xs.size), k < lo → xs[k] < j) → (∀ k (hk : k < xs.size), hi ≤ k → j ≤ xs[k]) →
    SetTable.below.go xs j fuel lo hi ≤ xs.size ∧ ∀ k (hk : k < xs.size), xs[k] < j ↔ k < SetTable.below.go xs j fuel lo hi
  | 0, lo, hi, h1, h2, h3, hlo, hhi => by
    have : lo = hi := by omega
    subst this
    refine ⟨h2, fun k hk => ?_⟩
    show _ ↔ k < lo
    constructor
    · intro z
      rcases Nat.lt_or_ge k lo with e | e
      · exact e
      · have := hhi k hk e
        omega
    · exact fun z => hlo k hk z
  | fuel + 1, lo, hi, h1, h2, h3, hlo, hhi => by
    unfold SetTable.below.go
    by_cases hl : lo < hi
    · rw [if_pos hl]
      have hm : (lo + hi) / 2 < xs.size := by omega
      dsimp only
      have eg : xs.getD ((lo + hi) / 2) j = xs[(lo + hi) / 2] := by simp [Array.getD, hm]
      rw [eg]
      by_cases hc : xs[(lo + hi) / 2] < j
      · rw [if_pos hc]
        refine go_spec h j fuel _ hi (by omega) h2 (by omega) (fun k hk hk2 => ?_) hhi
        rcases Nat.lt_or_ge k ((lo + hi) / 2) with e | e
        · have := h.lt hm e
          omega
        · have : k = (lo + hi) / 2 := by omega
          subst this
          exact hc
      · rw [if_neg hc]
        refine go_spec h j fuel lo _ (by omega) (by omega) (by omega) hlo fun k hk hk2 => ?_
        rcases Nat.lt_or_ge ((lo + hi) / 2) k with e | e
        · have := h.lt hk e
          omega
        · have : k = (lo + hi) / 2 := by omega
          subst this
          omega
    · rw [if_neg hl]
      have : lo = hi := by omega
      subst this
      refine ⟨h2, fun k hk => ?_⟩
      constructor
      · intro z
        rcases Nat.lt_or_ge k lo with e | e
        · exact e
        · have := hhi k hk e
          omega
      · exact fun z => hlo k hk z
theorem below_spec {xs : Array Nat} (h : Ris xs) (j : Nat) : SetTable.below xs j ≤ xs.size ∧ ∀ k (hk : k < xs.size), xs[k] < j ↔ k < SetTable.below xs j :=
  go_spec h j xs.size 0 xs.size (Nat.zero_le _) (Nat.le_refl _) (by omega) (fun k hk z => by omega) fun k hk z => by omega
theorem insert_ris {xs : Array Nat} (h : Ris xs) {j : Nat} (hn : xs[SetTable.below xs j]? ≠ some j) : Ris (SetTable.insertAt xs (SetTable.below xs j) j) := by
  obtain ⟨b1, b2⟩ := below_spec h j
  have e : (SetTable.insertAt xs (SetTable.below xs j) j).toList = xs.toList.take (SetTable.below xs j) ++ j :: xs.toList.drop (SetTable.below xs j) := by
    unfold SetTable.insertAt
    simp [Array.toList_extract, List.extract_eq_take_drop]
    exact List.take_of_length_le (by simp)
  unfold Ris
  rw [e, List.pairwise_append]
  have ltake : ∀ x ∈ xs.toList.take (SetTable.below xs j), x < j := fun x hx => by
    obtain ⟨k, hk, rfl⟩ := List.mem_take_iff_getElem.mp hx
    have hk2 : k < xs.size := by simp at hk; omega
    have := (b2 k hk2).mpr (by simp at hk; omega)
    simpa using this
  have ldrop : ∀ x ∈ xs.toList.drop (SetTable.below xs j), j < x := fun x hx => by
    obtain ⟨k, hk, rfl⟩ := List.mem_drop_iff_getElem.mp hx
    have hk2 : SetTable.below xs j + k < xs.size := by simp at hk; omega
    have hge : j ≤ xs[SetTable.below xs j] := by
      refine Nat.le_of_not_lt fun z => ?_
      have := (b2 _ (by omega)).mp z
      omega
    have hne : xs[SetTable.below xs j]'(by omega) ≠ j := fun z => hn (by rw [Array.getElem?_eq_getElem (by omega), z])
    have : j < xs[SetTable.below xs j]'(by omega) := by omega
    rcases Nat.eq_zero_or_pos k with e | e
    · subst e
      simpa using this
    · have := h.lt hk2 (by omega : SetTable.below xs j < SetTable.below xs j + k)
      simp only [Array.getElem_toList]
      omega
  refine ⟨h.sublist (List.take_sublist _ _), List.pairwise_cons.mpr ⟨ldrop, h.sublist (List.drop_sublist _ _)⟩, fun a ha b hb => ?_⟩
  have := ltake a ha
  rcases List.mem_cons.mp hb with e | e
  · omega
  · have := ldrop b e
    omega
theorem slot_free {t : SetTable} {j : Nat} (h : ∀ i, t.slot j ≠ .live i) : t.place[SetTable.below t.place j]? ≠ some j := fun e => by
  refine h (SetTable.below t.place j) ?_
  unfold SetTable.slot
  dsimp only
  rw [e]
  simp
theorem probe_free {t : SetTable} {f : Nat → Int} {hh : Int} : ∀ {fuel : Nat} {p : SetTable.Probe} {j : Nat} {d : Option Nat}, (∀ x, p.dummy = some x → ∀ i, t.slot x ≠ .live i) → SetTable.probe.go t f hh fuel p = some (.empty j d) → (∀ i, t.slot j ≠ .live i) ∧ ∀ x, d = some x → ∀ i, t.slot x ≠ .live i
  | 0, p, j, d, _, h => by cases h
  | fuel + 1, p, j, d, hp, h => by
    unfold SetTable.probe.go at h
    have adv : ∀ q : SetTable.Probe, (t.advance q).dummy = q.dummy := fun q => by
      unfold SetTable.advance
      split <;> rfl
    cases e : t.slot p.j with
    | empty =>
      rw [e] at h
      cases h
      exact ⟨fun i z => (by rw [e] at z; cases z), hp⟩
    | dummy =>
      rw [e] at h
      refine probe_free (fun x hx => ?_) h
      rw [adv] at hx
      cases hx
      intro i z
      rw [e] at z
      cases z
    | live i =>
      rw [e] at h
      dsimp only at h
      split at h
      · cases h
      · exact probe_free (fun x hx => hp x (by rw [adv] at hx; exact hx)) h
theorem free_ris {t : SetTable} (h : Ris t.place) {hh : Int} {j : Nat} {b : Bool} (hf : t.freeSlot hh = some (j, b)) : Ris (t.put j).1.place := by
  have fr : ∀ i, t.slot j ≠ .live i := by
    unfold SetTable.freeSlot at hf
    split at hf
    · rename_i j0 d e
      have := probe_free (t := t) (p := t.probeStart hh) (fun x hx => by cases hx) e
      cases d with
      | none =>
        cases hf
        exact this.1
      | some x =>
        cases hf
        exact this.2 _ rfl
    · cases hf
  exact insert_ris h (slot_free fr)
theorem range_ris (n : Nat) : Ris (Array.range n) := by
  unfold Ris
  rw [Array.toList_range]
  exact List.pairwise_lt_range
theorem layNew_keep {t : SetTable} (h : Ris t.place) (es : Array (Int × Value)) (hh : Int) (x : Value) : (layNew t es hh x).2.1.led = t.led ∧ Ris (layNew t es hh x).2.1.place := by
  unfold layNew
  split
  · rename_i slot wd e
    dsimp only
    have hr := free_ris h e
    unfold SetTable.orStandIn
    split
    · exact ⟨rfl, hr⟩
    · exact ⟨rfl, range_ris _⟩
  · exact ⟨rfl, range_ris _⟩
theorem laid_ris {mask finger moves : Nat} {led plain : Bool} {hs : Array Int} {t : SetTable} {o : Array Nat} (h : SetTable.laid mask finger moves led plain hs = some (t, o)) : t.led = led ∧ Ris t.place := by
  unfold SetTable.laid at h
  cases e : SetTable.layClean mask hs with
  | none => rw [e] at h; cases h
  | some ow =>
    rw [e] at h
    cases h
    refine ⟨rfl, ?_⟩
    unfold Ris
    dsimp only
    rw [List.map_filterMap]
    have : ∀ l : List Nat, l.Pairwise (· < ·) → (l.filterMap fun j => ((ow.getD j none).map fun k => (j, k)).map fun p => p.1).Pairwise (· < ·) := by
      intro l hl
      refine List.Pairwise.filterMap _ (R := (· < ·)) (fun a a' haa b hb b' hb' => ?_) hl
      cases q : ow.getD a none <;> cases q' : ow.getD a' none <;> simp_all
    exact this _ List.pairwise_lt_range
theorem relayAll_keep {t : SetTable} (es : Array (Int × Value)) (wanted : Nat) : (relayAll t es wanted).2.1.led = t.led ∧ Ris (relayAll t es wanted).2.1.place := by
  unfold relayAll
  split
  · rename_i t' order e
    have := laid_ris e
    dsimp only
    split
    · exact this
    · exact ⟨rfl, range_ris _⟩
  · exact ⟨rfl, range_ris _⟩
end SetA
namespace SetA
open PySem PyProof.Rows
def SetX (prog : Program) (w : World) (h : Heap) (a : Addr) (S : Int → Bool) (n : Nat) (led : Bool) : Prop :=
  ∃ o es ep t, h.get? a = some o ∧ o.ExactSet ∧ o.data = .set es ep t ∧ ElemsOf (intKind prog w) es.toList ∧ (∀ k, S k = true ↔ ∃ e ∈ es.toList, (intKind prog w).is k e.2 = true)
    ∧ es.size < scanBound ∧ t.fits es.size = true ∧ es.size = n ∧ t.led = led ∧ Ris t.place
theorem SetX.congr {prog : Program} {w : World} {h : Heap} {a : Addr} {S S' : Int → Bool} {n n' : Nat} {led : Bool} (hS : SetX prog w h a S n led) (e : ∀ k, S k = S' k) (en : n = n') : SetX prog w h a S' n' led := by
  have : S = S' := funext e
  subst this en
  exact hS
theorem SetX.at {prog : Program} {w : World} {h h' : Heap} {a : Addr} {S : Int → Bool} {n : Nat} {led : Bool} (hS : SetX prog w h a S n led) (k : ∀ o, h.get? a = some o → h'.get? a = some o) : SetX prog w h' a S n led := by
  obtain ⟨o, es, ep, t, ho, r⟩ := hS
  exact ⟨o, es, ep, t, k o ho, r⟩
section
variable {prog : Program} {w : World} {A : Around} {E : Value → Shared → Prop} {s : Shared}
theorem storeX {h : Heap} {a : Addr} {o : Obj} {es : Array (Int × Value)} {ep : Nat} {t : SetTable} (ho : h.get? a = some o) (hex : o.ExactSet) (hd : o.data = .set es ep t) {es' : Array (Int × Value)} {t' : SetTable} {S' : Int → Bool}
    (hel : ElemsOf (intKind prog w) es'.toList) (hmem : ∀ k, S' k = true ↔ ∃ e ∈ es'.toList, (intKind prog w).is k e.2 = true) (hb : es'.size < scanBound) (hf : t'.fits es'.size = true) (hr : Ris t'.place) :
    (h.update a (Obj.putSet es' t')).get? a = some { o with data := .set es' (ep + 1) t' } ∧ SetX prog w (h.update a (Obj.putSet es' t')) a S' es'.size t'.led := by
  obtain ⟨hg, _⟩ := SetOf_store (knd := intKind prog w) ho hex hd hel hmem hb hf
  exact ⟨hg, _, es', ep + 1, t', hg, hex, rfl, hel, hmem, hb, hf, rfl, rfl, hr⟩
theorem addX {a : Addr} {S : Int → Bool} {n : Nat} {led : Bool} {k : Int} {tk : Tok} {Q : Bool → Shared → Prop} (hS : SetX prog w s.heap a S n led) (hroom : n + 1 < scanBound)
    (h : ∀ h', Heap.SameBut a s.heap h' → SetX prog w h' a (fun k' => S k' || decide (k' = k)) (if S k then n else n + 1) led → Q (!S k) { s with heap := h' }) :
    wpAny (model prog w) A (setAddHashed a (.int k tk) ((intKind prog w).hash k)) Q E s := by
  obtain ⟨o, es, ep, t, ho, hex, hd, hel, hmem, hb, hf, hn, hled, hris⟩ := hS
  have hkey : (intKind prog w).is k (.int k tk) = true := intKind_is _ _ _ _
  have hsc : (Value.int k tk).scannable = true := rfl
  have hb1 : es.size + 1 < scanBound := by rw [hn]; exact hroom
  unfold setAddHashed setAddHashedIn
  refine wpAny_holding (wpAny_bind (wpAny_setState_of ho hd hf ?_))
  dsimp only
  rw [byScan_of hsc hb hel]
  simp only [↓reduceIte]
  unfold setAddByScan
  refine wpAny_bind ?_
  refine wpAny_bind (wpAny_rule ?_)
  refine wpAny_bind (wpAny_setScan_of hkey ho hd hf hel ?_)
  cases hr : List.findIdx? (fun e => (intKind prog w).is k e.2) es.toList with
  | some j =>
    dsimp only
    obtain ⟨hj, hpj, _⟩ := List.findIdx?_eq_some_iff_getElem.mp hr
    have hSk : S k = true := (hmem k).mpr ⟨es.toList[j], List.getElem_mem hj, hpj⟩
    refine wpAny_pure (wpAny_pure ?_)
    have := h s.heap (Heap.SameBut.refl a s.heap) ⟨o, es, ep, t, ho, hex, hd, hel, fun k' => by
      rw [Bool.or_eq_true, decide_eq_true_eq, ← hmem k']
      exact ⟨fun hk => hk.elim id (fun e => e ▸ hSk), .inl⟩, hb, hf, by rw [hSk]; exact hn, hled, hris⟩
    rw [hSk] at this
    exact this
  | none =>
    dsimp only
    have hSk : S k = false := by
      cases hk : S k with
      | false => rfl
      | true =>
        obtain ⟨e, he, hp⟩ := (hmem k).mp hk
        have := List.findIdx?_eq_none_iff.mp hr e he
        rw [hp] at this
        exact Bool.noConfusion this
    have hgw : ∀ (b : Bool) {s₁ : Shared} {Q' : Unit → Shared → Prop}, Q' () s₁ → wpAny (model prog w) A (match b with | true => rule "set.scan.the-table-gave-way" | false => pure ()) Q' E s₁ :=
      fun b s₁ Q' hq => by cases b <;> first | exact wpAny_pure hq | exact wpAny_rule hq
    have hperm := layNew_perm t es ((intKind prog w).hash k) (.int k tk)
    have hfits := layNew_fits t es ((intKind prog w).hash k) (.int k tk)
    have hkeep := layNew_keep hris es ((intKind prog w).hash k) (.int k tk)
    generalize hL : layNew t es ((intKind prog w).hash k) (.int k tk) = L at hperm hfits hkeep ⊢
    obtain ⟨es1, t1, wasDummy, gave⟩ := L
    dsimp only at hperm hfits hkeep ⊢
    rw [Array.toList_push] at hperm
    have hel1 : ElemsOf (intKind prog w) es1.toList := (hel.push hkey hsc).perm hperm
    have hmem1 : ∀ k', (S k' || decide (k' = k)) = true ↔ ∃ e ∈ es1.toList, (intKind prog w).is k' e.2 = true := mem_push_iff hkey hmem hperm
    have hb1' : es1.size < scanBound := by rw [← Array.length_toList, hperm.length_eq, List.length_append, Array.length_toList]; simpa using hb1
    refine wpAny_bind (hgw _ ?_)
    have hsz1 : es1.size = n + 1 := by rw [← Array.length_toList, hperm.length_eq, List.length_append, Array.length_toList, hn]; rfl
    have hend : ∀ h', Heap.SameBut a s.heap h' → SetX prog w h' a (fun k' => S k' || decide (k' = k)) es1.size led → Q true { s with heap := h' } := by
      intro h' hsb hS'
      have := h h' hsb
      rw [hSk] at this
      rw [hsz1] at hS'
      exact this hS'
    have tail : ∀ t2 : SetTable, t2.fits es1.size = true → t2.led = led → Ris t2.place → wpAny (model prog w) A (do
        storeSet a es1 t2
        if (!wasDummy && t2.tooFull) = true then do
            (match (relayAll t2 es1 (SetTable.grown es1.size)).2.2 with | true => rule "set.scan.the-table-gave-way" | false => pure ())
            storeSet a (relayAll t2 es1 (SetTable.grown es1.size)).1 (relayAll t2 es1 (SetTable.grown es1.size)).2.1
            pure (some true)
          else pure (some true)) (fun r s' => wpAny (model prog w) A (match r with | some added => pure added | none => setAddHashedIn a (.int k tk) ((intKind prog w).hash k) 99999) Q E s') E s := by
      intro t2 hf2 hl2 hr2
      refine wpAny_bind (wpAny_storeSet_of ho hd ?_ (fits_of_scanBound hb1'))
      obtain ⟨ho1, hS1⟩ := storeX (prog := prog) (w := w) ho hex hd hel1 hmem1 hb1' hf2 hr2
      have hsb1 := Heap.SameBut.update s.heap a (Obj.putSet es1 t2)
      split
      · have hp := relayAll_perm t2 es1 (SetTable.grown es1.size)
        have hfr := relayAll_fits t2 es1 (SetTable.grown es1.size)
        have hkr := relayAll_keep (t := t2) es1 (SetTable.grown es1.size)
        generalize hRl : relayAll t2 es1 (SetTable.grown es1.size) = Rl at hp hfr hkr ⊢
        obtain ⟨es2, t3, gave2⟩ := Rl
        dsimp only at hp hfr hkr ⊢
        have hel2 : ElemsOf (intKind prog w) es2.toList := hel1.perm hp
        have hmem2 : ∀ k', (S k' || decide (k' = k)) = true ↔ ∃ e ∈ es2.toList, (intKind prog w).is k' e.2 = true := fun k' => (hmem1 k').trans ⟨fun ⟨e, he, q⟩ => ⟨e, hp.mem_iff.mpr he, q⟩, fun ⟨e, he, q⟩ => ⟨e, hp.mem_iff.mp he, q⟩⟩
        have hsz : es2.size = es1.size := by rw [← Array.length_toList, hp.length_eq, Array.length_toList]
        have hb2 : es2.size < scanBound := by rw [hsz]; exact hb1'
        refine wpAny_bind (hgw _ ?_)
        refine wpAny_bind (wpAny_storeSet_of ho1 rfl ?_ (fits_of_scanBound hb2))
        obtain ⟨_, hS2⟩ := storeX (prog := prog) (w := w) ho1 hex rfl hel2 hmem2 hb2 hfr hkr.2
        rw [hsz, hkr.1, hl2] at hS2
        exact wpAny_pure (wpAny_pure (hend _ (hsb1.trans (Heap.SameBut.update _ a _)) hS2))
      · rw [hl2] at hS1
        exact wpAny_pure (wpAny_pure (hend _ hsb1 hS1))
    split
    · refine wpAny_bind ?_
      rw [hashByValue_scannable 8 hsc]
      refine wpAny_pure ?_
      exact tail t1 hfits (hkeep.1.trans hled) hkeep.2
    · refine wpAny_bind (wpAny_pure ?_)
      simp only [↓reduceIte]
      exact tail t1 hfits (hkeep.1.trans hled) hkeep.2
end
end SetA
namespace SetA
open PySem PyProof.Rows
def ledOf (w : World) : Bool := !(w.params.followText "set-order")
section
variable {prog : Program} {w : World} {A : Around} {R : Result → Shared → Prop} {I : Addr} {fp wr : List Addr} {G : Array GenState → Array GenState → Prop} {n : Nat} {P : Nat → Value → Prop} {St : Nat → Shared → Prop}
theorem loopX (W : WalksS prog w A.in1 I fp wr G n P St) (S : Addr) (hSf : S ∉ fp) (val : Nat → Int) (hval : ∀ i v, P i v → ∃ t, v = .int (val i) t) (hb : n + 1 < scanBound) (led : Bool) :
    ∀ (k i : Nat) (s : Shared), n - i = k → i ≤ n → St i s → SetX prog w s.heap S (fun k' => (firstMet val i).any (· == k')) (firstMet val i).length led →
      (∀ s', Moved (S :: wr) G s s' → SetX prog w s'.heap S (fun k' => (firstMet val n).any (· == k')) (firstMet val n).length led → R (.ok (.ret .none)) s') →
      codeAny (model prog w) A (.builtin "set.update.loop" ⟨[.ref S, .ref I], []⟩) R s := by
  have hSw : S ∉ wr := fun h => hSf (W.sub _ h)
  have hsub : ∀ b ∈ wr, b ∈ S :: wr := fun b hb => List.mem_cons_of_mem _ hb
  intro k
  induction k with
  | zero =>
    intro i s hk hi hst hS hR
    have hin : i = n := by omega
    subst hin
    refine codeAny_builtin PyProof.Rows.F.entry_set_update_loop ?_
    rw [Around.under_plainId PyProof.Rows.F.plain_set_update_loop _]
    show wpAny _ A.in1 (pyNext (.ref I) >>= _) _ _ s
    refine wpAny_bind (W.done s _ _ hst fun s' hm => ?_)
    show wpAny _ A.in1 (ret Value.none) _ _ s'
    exact wpAny_pure (hR s' (hm.mono hsub) (hS.at fun o e => hm.heap S _ hSw e))
  | succ k ih =>
    intro i s hk hi hst hS hR
    have hlt : i < n := by omega
    refine codeAny_builtin PyProof.Rows.F.entry_set_update_loop ?_
    rw [Around.under_plainId PyProof.Rows.F.plain_set_update_loop _]
    show wpAny _ A.in1 (pyNext (.ref I) >>= _) _ _ s
    refine wpAny_bind (W.item i s _ _ hlt hst fun v s' hP hst' hm => ?_)
    obtain ⟨t, rfl⟩ := hval i v hP
    have hS' : SetX prog w s'.heap S (fun k' => (firstMet val i).any (· == k')) (firstMet val i).length led := hS.at fun o e => hm.heap S _ hSw e
    show wpAny _ A.in1 (holding [Value.int (val i) t] (setAdd S (.int (val i) t)) >>= _) _ _ s'
    refine wpAny_bind (wpAny_holding ?_)
    unfold setAdd
    refine wpAny_holding ?_
    refine wpAny_bind ((intKind prog w).pyHash (k := val i) (intKind_is _ _ _ _) ?_)
    have hroom : (firstMet val i).length + 1 < scanBound := by have := firstMet_length_le val i; omega
    refine addX (s := { s' with toks := s'.toks + 1 }) hS' hroom fun h' hsb hS2 => ?_
    have hSi : SetX prog w h' S (fun k' => (firstMet val (i + 1)).any (· == k')) (firstMet val (i + 1)).length led :=
      SetX.congr hS2 (fun k' => by rw [firstMet_succ, step_any]) (by rw [firstMet_succ, step_length])
    refine wpAny_pure ⟨plainId_quiet PyProof.Rows.F.plain_set_update_loop _, ih (i + 1) _ (by omega) hlt (W.frame _ s' _ _ hst' (Nat.le_succ _) fun b hb o e => ?_) hSi fun s'' hm'' hS'' => ?_⟩
    · rw [hsb.2 b (fun h : b = S => hSf (by rw [← h]; exact hb))]; exact e
    · refine hR s'' (Moved.trans W.gtrans ((hm.mono hsub).then_heap (Nat.le_succ _) fun b o hb e => ?_) hm'') hS''
      rw [hsb.2 b (fun h : b = S => hb (by rw [h]; exact List.mem_cons_self))]; exact e
end
section
variable {prog : Program} {w : World} {A : Around} {E : Value → Shared → Prop} {s : Shared}
theorem newX (a : Value) {Q₁ : Value → Shared → Prop}
    (h : Q₁ (.ref s.heap.objs.size) { s with heap := s.heap.push { cls := .type "set", dict := none, data := .set #[] 0 (.fresh 0 0 (ledOf w)) } }) :
    codeAny (model prog w) A (.call (.builtin "set.__new__") ⟨[.type "set", a], []⟩) (wants Q₁ E) s := by
  refine codeAny_of_tree ?_
  show wpAny _ A.in1 (do checkBuiltinCall "set.__new__" ⟨[.type "set", a], []⟩; again (.builtin "set.__new__" ⟨[.type "set", a], []⟩)) _ _ s
  refine wpAny_bind (wpAny_of_eq (PySem.F.newCall_set_1 a) (wpAny_pure ⟨plainId_quiet PySem.F.plain_set_new _, codeAny_builtin PySem.F.entry_set_new ?_⟩))
  rw [Around.under_plainId PySem.F.plain_set_new _]
  unfold Builtin.«set.__new__» Builtin.Frozenset.newClass
  have hsub := sub_set_self
  obtain ⟨hp, g, d, tk, os⟩ := s
  dsimp only
  wp_walk
  refine wpAny_askSetting (wpAny_pure ?_)
  dsimp only
  simp only [newObj]
  refine wpAny_bind (wpAny_alloc (wpAny_pure ?_))
  exact wpAny_pure h
set_option maxHeartbeats 3200000 in
theorem call_setX {l : Addr} {items : Array Value} {ns : List Int} {Q : Value → Shared → Prop}
    (hh : A.handled = none) (hl : s.heap.IsList l items) (hi : PyProof.Rows.IntsAre items.toList ns) (hb : items.size + 1 < scanBound)
    (h : ∀ (h' : Heap) (tk : Nat), SetX prog w h' s.heap.objs.size (fun k' => (PyProof.Rows.firstMet (fun i => ns.getD i 0) items.size).any (· == k')) (PyProof.Rows.firstMet (fun i => ns.getD i 0) items.size).length (ledOf w) →
      (∀ b o, b < s.heap.objs.size → s.heap.get? b = some o → h'.get? b = some o) → Q (.ref s.heap.objs.size) { s with heap := h', toks := tk }) :
    wpAny (model prog w) A (call (.type "set") [.ref l]) Q E s := by
  obtain ⟨c, tl, hmro⟩ := PySem.F.called_set.mro
  have hmade := PySem.F.called_set.made
  have hsub := PySem.F.called_set.sub
  refine wpAny_call (codeAny_of_tree ?_)
  show wpAny _ _ (callAny (.type "set") _) _ _ _
  refine wpAny_pure ⟨Code.quiet_builtin _ (by decide +kernel), codeAny_builtin PySem.F.entry_type_call ?_⟩
  rw [Around.under_plain (weight_type_call_type "set" [.ref l] []) rfl]
  have h1 := PySem.F.called_set.notType
  have h2 := PySem.F.called_set.canCreate
  have hct := PySem.F.typeCall_set_1 (.ref l)
  repeat (any_goals (first | assumption | wp_step))
  refine codeAny_mono (newX (.ref l) (E := E) (Q₁ := fun obj s₁ => obj = .ref s.heap.objs.size ∧ s₁ = { s with heap := s.heap.push { cls := .type "set", dict := none, data := .set #[] 0 (.fresh 0 0 (ledOf w)) } }) ⟨rfl, rfl⟩) fun r s₁ hr => ?_
  cases r with
  | error e => exact hr
  | ok fl =>
    cases fl with
    | ret obj =>
      obtain ⟨rfl, rfl⟩ := hr
      have hS : (s.heap.push { cls := .type "set", dict := none, data := .set #[] 0 (.fresh 0 0 (ledOf w)) }).get? s.heap.objs.size = some { cls := .type "set", dict := none, data := .set #[] 0 (.fresh 0 0 (ledOf w)) } := Heap.get?_push_size _ rfl
      have hT : Shared.TypeIs { s with heap := s.heap.push { cls := .type "set", dict := none, data := .set #[] 0 (.fresh 0 0 (ledOf w)) } } (.ref s.heap.objs.size) "set" := ⟨_, hS, rfl⟩
      have hli := PySem.F.called_set.init.lookup
      have hbi := PySem.F.called_set.init.bind (.ref s.heap.objs.size)
      repeat (any_goals (first | assumption | wp_step))
      refine codeAny_mono (codeAny_call_builtin (R := wants (fun r s₂ => r = .none ∧ ∃ h' tk, s₂ = { s with heap := h', toks := tk } ∧
          SetX prog w h' s.heap.objs.size (fun k' => (PyProof.Rows.firstMet (fun i => ns.getD i 0) items.size).any (· == k')) (PyProof.Rows.firstMet (fun i => ns.getD i 0) items.size).length (ledOf w) ∧
          (∀ b o, b < s.heap.objs.size → s.heap.get? b = some o → h'.get? b = some o)) E) PySem.F.called_set.init.plain PySem.F.entry_set_init (check_set_init_1 hT ?_)) fun r₂ s₂ hr₂ => ?_
      · obtain ⟨ol, hol, hcl, nl, hdl⟩ := hl
        obtain ⟨ocls, odict, odata, oslots⟩ := ol
        simp only at hcl hdl
        subst hcl; subst hdl
        have hol' : (s.heap.push { cls := .type "set", dict := none, data := .set #[] 0 (.fresh 0 0 (ledOf w)) }).get? l = some { cls := .type "list", dict := odict, data := .seq items nl, slots := oslots } := Heap.get?_push_of_some _ hol
        have hsls := PySem.F.sub_list_set
        have hslf := PySem.F.sub_list_frozenset
        have hne : (Value.type "list" == Value.type "dict") = false := by decide
        have hl1 : (s.heap.push { cls := .type "set", dict := none, data := .set #[] 0 (.fresh 0 0 (ledOf w)) }).IsList l items := ⟨_, hol', rfl, nl, rfl⟩
        unfold Builtin.«set.__init__» noKeywords Builtin.Frozenset.updateFrom
        generalize hPI : pyIter = PI
        wp_walk
        subst hPI
        refine wpAny_pyIter_list hl1 ?_
        refine wpAny_bind (wpAny_runValue ?_)
        have hlS : l < s.heap.objs.size := Heap.lt_size hol
        have hh3 : A.in1.in1.in1.handled = none := by simp [hh]
        have hneI : l ≠ (s.heap.push { cls := .type "set", dict := none, data := .set #[] 0 (.fresh 0 0 (ledOf w)) }).objs.size := by
          rw [Heap.size_push]; exact Nat.ne_of_lt (Nat.lt_succ_of_lt hlS)
        have hSf : s.heap.objs.size ∉ [(s.heap.push { cls := .type "set", dict := none, data := .set #[] 0 (.fresh 0 0 (ledOf w)) }).objs.size, l] := by
          rw [Heap.size_push]; simp only [List.mem_cons, List.mem_singleton, List.not_mem_nil, or_false, not_or]
          exact ⟨Nat.ne_of_lt (Nat.lt_succ_self _), Nat.ne_of_gt hlS⟩
        have hval : ∀ (i : Nat) (v : Value), items[i]? = some v → ∃ t, v = .int ((fun i => ns.getD i 0) i) t := fun i v hv =>
          PyProof.Rows.IntsAre.int_at hi i v (by rw [Array.getElem?_toList]; exact hv)
        refine loopX ((Walks.list hh3 _ l hneI items).toS) s.heap.objs.size hSf (fun i => ns.getD i 0) hval hb (ledOf w) (items.size - 0) 0 _ (by omega) (Nat.zero_le _) ⟨⟨_, Heap.get?_push_size _ rfl, rfl, rfl⟩, (hl1.push _)⟩ ?hS0 ?hR
        case hS0 =>
          have hget : ((s.heap.push { cls := .type "set", dict := none, data := .set #[] 0 (.fresh 0 0 (ledOf w)) }).push { cls := .type "list_iterator", data := .fields #[.ref l, .int 0 0] }).get? s.heap.objs.size
              = some { cls := .type "set", dict := none, data := .set #[] 0 (.fresh 0 0 (ledOf w)) } := Heap.get?_push_of_some _ hS
          obtain ⟨o, es, ep, t, q1, q2, q3, q4, q5, q6, q7, q8⟩ := (PyProof.Rows.setObjOf_fresh (knd := intKind prog w) (ledOf w)).setOf hget (by unfold scanBound; omega)
          rw [hget] at q1
          cases q1
          cases q3
          exact ⟨_, _, _, _, hget, q2, rfl, q4, q5, q6, q7, rfl, rfl, List.Pairwise.nil⟩
        case hR =>
          intro s' hm hS'
          obtain ⟨h', g', d', tk', os'⟩ := s'
          have eg : g' = s.gens := hm.gens
          have ed : d' = s.drawn := hm.drawn
          have eo : os' = s.os := hm.os
          subst eg; subst ed; subst eo
          show wpAny _ _ _ _ _ _
          refine wpAny_pure ?_
          show wpAny _ _ (ret Value.none) _ _ _
          refine wpAny_pure ⟨rfl, h', tk', rfl, hS', fun b o hb e => ?_⟩
          have hb1 : b ≠ s.heap.objs.size := Nat.ne_of_lt hb
          have hb2 : b ≠ (s.heap.push { cls := .type "set", dict := none, data := .set #[] 0 (.fresh 0 0 (ledOf w)) }).objs.size := by
            rw [Heap.size_push]; exact Nat.ne_of_lt (Nat.lt_succ_of_lt hb)
          exact hm.heap b o (by simp only [List.mem_cons, List.mem_singleton, List.not_mem_nil, or_false, not_or]; exact ⟨hb1, hb2⟩) (Heap.get?_push_of_some _ (Heap.get?_push_of_some _ e))
      · cases r₂ with
        | error e => exact hr₂
        | ok fl₂ =>
          cases fl₂ with
          | ret r =>
            obtain ⟨rfl, h', tk, rfl, hS', hk'⟩ := hr₂
            repeat (any_goals (first | assumption | wp_step))
            exact h _ _ hS' hk'
          | _ => exact hr₂.elim
    | _ => exact hr.elim
end
end SetA
namespace SetA
open PySem PyProof.Rows
theorem slot_it_next : Slot "set_iterator" "__next__" "set_iterator.__next__" :=
  .of (owner := "set_iterator") (n := "__next__") (by rw [typeLookup_type, builtinLookup_eq_fast]; kernel_rfl) (by decide +kernel) (by decide +kernel) (by decide +kernel)
    (by first | exact .inl (by decide +kernel) | exact .inr (by decide +kernel)) (by rw [isSubtype_type]; kernel_rfl)
theorem slot_it_iter : Slot "set_iterator" "__iter__" "set_iterator.__iter__" :=
  .of (owner := "set_iterator") (n := "__iter__") (by rw [typeLookup_type, builtinLookup_eq_fast]; kernel_rfl) (by decide +kernel) (by decide +kernel) (by decide +kernel)
    (by first | exact .inl (by decide +kernel) | exact .inr (by decide +kernel)) (by rw [isSubtype_type]; kernel_rfl)
theorem entry_it_next : entryFor table "set_iterator.__next__" = some Builtin.«set_iterator.__next__» := entryFor_of_tree (by kernel_rfl)
theorem entry_it_iter : entryFor table "set_iterator.__iter__" = some Builtin.«dict_keyiterator.__iter__» := entryFor_alias (id' := "dict_keyiterator.__iter__") (by rw [fastTable_eq_tree]; kernel_rfl) (by decide +kernel) (by decide +kernel) (by rw [fastTable_eq_tree]; kernel_rfl)
theorem entry_iter : entryFor table "set.__iter__" = some Builtin.«frozenset.__iter__» := entryFor_alias (id' := "frozenset.__iter__") (by rw [fastTable_eq_tree]; kernel_rfl) (by decide +kernel) (by decide +kernel) (by rw [fastTable_eq_tree]; kernel_rfl)
theorem owner_it : Manifest.owners.lookup (String.ofList ['r', 'o', 't', 'a', 'r', 'e', 't', 'i', '_', 't', 'e', 's'].reverse) = some Manifest.sig_set_iterator := by kernel_rfl
theorem args_it_next (a : Value) : argsOk "set_iterator.__next__" ⟨[a], []⟩ := by
  unfold argsOk; rw [signature?_of (id := "set_iterator.__next__") (n := ['_', '_', 't', 'x', 'e', 'n', '_', '_']) (o := ['r', 'o', 't', 'a', 'r', 'e', 't', 'i', '_', 't', 'e', 's']) (by kernel_rfl) owner_it]; kernel_rfl
theorem args_it_iter (a : Value) : argsOk "set_iterator.__iter__" ⟨[a], []⟩ := by
  unfold argsOk; rw [signature?_of (id := "set_iterator.__iter__") (n := ['_', '_', 'r', 'e', 't', 'i', '_', '_']) (o := ['r', 'o', 't', 'a', 'r', 'e', 't', 'i', '_', 't', 'e', 's']) (by kernel_rfl) owner_it]; kernel_rfl
theorem len_set : typeLookup (.type "set") "__len__" = pure (some (.builtin "set.__len__")) := by rw [typeLookup_type, builtinLookup_eq_fast]; kernel_rfl
theorem setNext_eq (a : Addr) (slot given epochThen : Nat) : setNext a slot given epochThen = (do
  let (es, epoch, t) ← setState a
  if ← setsByText then
    if epoch != epochThen then unsupported "set_iterator.__next__:elements-changed"
    return ((← setWalk a)[given]?).map fun e => (e.2, slot)
  if (!t.plain && decide (es.size > 1)) = true then unsupported "set_iterator.__next__:the-table-is-plain-no-more"
  let _ ← ((if (!t.led && !es.isEmpty) = true then unsupported "set:maker-not-led" else pure ()) : Sem Unit)
  let i := SetTable.below t.place slot
  return match es[i]?, t.place[i]? with
    | some (_, x), some j => some (x, j + 1)
    | _, _ => none) := rfl
theorem setDrawn_eq (a : Addr) : setDrawn a = (do
  let (es, _, t) ← setState a
  let byText ← setsByText
  return !byText && (!t.plain && decide (es.size > 1))) := rfl
theorem erase_perm {α : Type} : ∀ {xs : List α} {i : Nat} (h : i < xs.length), (xs[i] :: xs.eraseIdx i).Perm xs
  | x :: xs, 0, h => List.Perm.refl _
  | x :: xs, i + 1, h => by
    show (xs[i]'(by simpa using h) :: x :: xs.eraseIdx i).Perm (x :: xs)
    exact (List.Perm.swap _ _ _).trans (List.Perm.cons x (erase_perm (by simpa using h)))
section
variable {prog : Program} {w : World} {A : Around} {E : Value → Shared → Prop} {s : Shared}
theorem wpAny_choose {src : Source} {n : Nat} {Q : Nat → Shared → Prop} (hn : n ≠ 0) (h : ∀ i d, i < n → Q i { s with drawn := d }) : wpAny (model prog w) A (choose src n) Q E s :=
  fun _ _ _ => ⟨hn, h _ _ (Nat.mod_lt _ (Nat.pos_of_ne_zero hn))⟩
theorem draw {α : Type} : ∀ {n : Nat} {xs : List α} {s : Shared} {Q : List α → Shared → Prop}, n = xs.length → (∀ ys d, ys.Perm xs → Q ys { s with drawn := d }) → wpAny (model prog w) A (drawOrder n xs) Q E s
  | 0, xs, s, Q, hn, h => by
    have : xs = [] := List.eq_nil_of_length_eq_zero hn.symm
    subst this
    exact wpAny_pure (h [] s.drawn (List.Perm.refl _))
  | n + 1, [], s, Q, hn, h => by cases hn
  | n + 1, x :: xs, s, Q, hn, h => by
    show wpAny _ _ (choose .order (x :: xs).length >>= _) _ _ _
    refine wpAny_bind (wpAny_choose (by simp) fun i d hi => ?_)
    rw [List.getElem?_eq_getElem hi]
    dsimp only
    refine wpAny_bind (draw (by rw [List.length_eraseIdx, if_pos hi]; simp at hn ⊢; omega) fun ys d' hp => ?_)
    refine wpAny_pure (h _ d' ?_)
    exact (List.Perm.cons _ hp).trans (erase_perm hi)
theorem pick {α : Type} (next : Nat → Nat) : ∀ (fuel k : Nat) (left : List α) (out : Array α), fuel = left.length → (pickOrder.go next fuel k left out).toList.Perm (out.toList ++ left)
  | 0, k, left, out, h => by
    have : left = [] := List.eq_nil_of_length_eq_zero h.symm
    subst this
    unfold pickOrder.go
    rw [List.append_nil]
  | fuel + 1, k, left, out, h => by
    have hi : next k % left.length < left.length := Nat.mod_lt _ (by omega)
    unfold pickOrder.go
    rw [List.getElem?_eq_getElem hi]
    dsimp only
    refine (pick next fuel (k + 1) _ _ (by rw [List.length_eraseIdx, if_pos hi]; omega)).trans ?_
    rw [Array.toList_push, List.append_assoc]
    exact List.Perm.append_left _ (erase_perm hi)
theorem pick_perm {α : Type} (next : Nat → Nat) (xs : Array α) : (pickOrder next xs).toList.Perm xs.toList := by
  have := pick next xs.size 0 xs.toList #[] (by simp)
  unfold pickOrder
  simpa using this
end
end SetA
namespace SetA
open PySem PyProof.Rows
def ItAt (h : Heap) (I : Addr) (fs : Array Value) : Prop := ∃ o, h.get? I = some o ∧ o.cls = .type "set_iterator" ∧ o.data = .fields fs
theorem ItAt.typeIs {s : Shared} {I : Addr} {fs : Array Value} (h : ItAt s.heap I fs) : s.TypeIs (.ref I) "set_iterator" := let ⟨o, ho, hc, _⟩ := h; ⟨o, ho, hc⟩
def SetIs (h : Heap) (S : Addr) (es : Array (Int × Value)) (ep : Nat) (t : SetTable) : Prop := ∃ o, h.get? S = some o ∧ o.ExactSet ∧ o.data = .set es ep t ∧ t.fits es.size = true
section
variable {prog : Program} {w : World} {A : Around} {E : Value → Shared → Prop} {s : Shared} {I S : Addr} {es : Array (Int × Value)} {ep : Nat} {t : SetTable}
theorem entries_of (hs : SetIs s.heap S es ep t) {Q : Array (Int × Value) → Shared → Prop} (h : Q es s) : wpAny (model prog w) A (setEntries S) Q E s := by
  obtain ⟨o, ho, _, hd, hf⟩ := hs
  unfold setEntries
  exact wpAny_bind (wpAny_setState_of ho hd hf (wpAny_pure h))
theorem set_field {fs : Array Value} {k : Nat} {x : Value} {Q : Unit → Shared → Prop} (hit : ItAt s.heap I fs) (hk : k < fs.size)
    (h : ∀ h', ItAt h' I (fs.setIfInBounds k x) → Heap.SameBut I s.heap h' → Q () { s with heap := h' }) : wpAny (model prog w) A (setField (.ref I) k x) Q E s := by
  obtain ⟨o, ho, hc, hd⟩ := hit
  exact wpAny_setField ho hd hk (h _ ⟨_, Heap.get?_update_self _ ho (Obj.isFreed_of_fields (Obj.data_mapFields hd _)), (Obj.cls_mapFields ..).trans hc, Obj.data_mapFields hd _⟩ (Heap.SameBut.update ..))
theorem next_item {slot i : Nat} {x : Value} {nx : Nat} {Q : Option Value → Shared → Prop} (hit : ItAt s.heap I #[.int slot 0, .int i 0, .ref S, .int es.size 0, .int ep 0]) (hs : SetIs s.heap S es ep t)
    (hnext : ∀ (A : Around) (Q : Option (Value × Nat) → Shared → Prop) (E : Value → Shared → Prop), Q (some (x, nx)) s → wpAny (model prog w) A (setNext S slot i ep) Q E s)
    (hQ : ∀ h', ItAt h' I #[.int nx 0, .int (i + 1 : Nat) 0, .ref S, .int es.size 0, .int ep 0] → Heap.SameBut I s.heap h' → Q (some x) { s with heap := h' }) :
    wpAny (model prog w) A (pyNext (.ref I)) Q E s := by
  obtain ⟨o, ho, hc, hd⟩ := id hit
  unfold pyNext
  refine wpAny_bind (wpAny_attempt (wpAny_callSpecial?_slot (name := Str.ofString "__next__") hit.typeIs slot_it_next (wpAny_call_entry slot_it_next hit.typeIs entry_it_next ?_ (args_it_next _))))
  unfold Builtin.«set_iterator.__next__»
  refine wpAny_bind (wpAny_pure ?_)
  refine wpAny_bind (wpAny_fieldsOf ho hd ?_)
  dsimp only
  refine wpAny_bind (entries_of hs ?_)
  rw [if_neg (by simp)]
  refine wpAny_bind (hnext _ _ _ ?_)
  dsimp only
  refine wpAny_bind (set_field hit (by simp) fun h1 it1 sb1 => ?_)
  refine wpAny_bind (set_field (s := { s with heap := h1 }) it1 (by simp) fun h2 it2 sb2 => ?_)
  refine wpAny_pure ⟨_, rfl, wpAny_pure (hQ h2 ?_ (sb1.trans sb2))⟩
  simpa [rawInt] using it2
theorem next_end {slot i : Nat} {Q : Option Value → Shared → Prop} (hh : A.handled = none) (hit : ItAt s.heap I #[.int slot 0, .int i 0, .ref S, .int es.size 0, .int ep 0]) (hs : SetIs s.heap S es ep t)
    (hnext : ∀ (A : Around) (Q : Option (Value × Nat) → Shared → Prop) (E : Value → Shared → Prop), Q none s → wpAny (model prog w) A (setNext S slot i ep) Q E s)
    (hQ : ∀ h', Heap.ExtBut I s.heap h' → Q none { s with heap := h' }) : wpAny (model prog w) A (pyNext (.ref I)) Q E s := by
  obtain ⟨o, ho, hc, hd⟩ := id hit
  unfold pyNext
  refine wpAny_bind (wpAny_attempt (wpAny_callSpecial?_slot (name := Str.ofString "__next__") hit.typeIs slot_it_next (wpAny_call_entry slot_it_next hit.typeIs entry_it_next ?_ (args_it_next _))))
  unfold Builtin.«set_iterator.__next__»
  refine wpAny_bind (wpAny_pure ?_)
  refine wpAny_bind (wpAny_fieldsOf ho hd ?_)
  dsimp only
  refine wpAny_bind (entries_of hs ?_)
  rw [if_neg (by simp)]
  refine wpAny_bind (hnext _ _ _ ?_)
  dsimp only
  refine wpAny_bind (set_field hit (by simp) fun h1 it1 sb1 => ?_)
  show wpAny _ _ (newExc (.type "StopIteration") [] >>= _) _ _ _
  refine wpAny_bind ?_
  simp only [newExc, newTuple]
  refine wpAny_bind (wpAny_newObj_type ?_ (by size_fits))
  refine wpAny_bind (m := firstArgMember _ _) (wpAny_of_eq (a := Value.none) (by first | rfl | (simp only [firstArgMember]; rfl)) ?_)
  refine wpAny_newObj_type ?_ (by size_fits)
  simp only [raiseNew]
  refine wpAny_bind (wpAny_handled ?_)
  rw [show A.in1.handled = none from hh]
  refine wpAny_bind (wpAny_pure (wpAny_throw ?_))
  refine wpAny_bind (wpAny_isInstance (T := "StopIteration") (b := true) ⟨_, Heap.get?_push_size _ rfl, rfl⟩ isSubtype_stop ?_)
  exact wpAny_pure (hQ _ ((sb1.extBut.push _).push _))
theorem next_itemD {T : Addr} {ot : Obj} {pl : Array Value} {n0 : Nat} {i k : Nat} {tk : Tok} {x : Value} {hx : Int} {Q : Option Value → Shared → Prop} (hit : ItAt s.heap I #[.ref T, .int i 0, .ref S, .int es.size 0, .int ep 0]) (hs : SetIs s.heap S es ep t)
    (ht : s.heap.get? T = some ot) (htd : ot.data = .seq pl n0) (hp : pl[i]? = some (.int (k : Nat) tk)) (hk : es[k]? = some (hx, x))
    (hQ : ∀ h', ItAt h' I #[.ref T, .int (i + 1 : Nat) 0, .ref S, .int es.size 0, .int ep 0] → Heap.SameBut I s.heap h' → Q (some x) { s with heap := h' }) :
    wpAny (model prog w) A (pyNext (.ref I)) Q E s := by
  obtain ⟨o, ho, hc, hd⟩ := id hit
  obtain ⟨os, hos, _, hds, hf⟩ := id hs
  unfold pyNext
  refine wpAny_bind (wpAny_attempt (wpAny_callSpecial?_slot (name := Str.ofString "__next__") hit.typeIs slot_it_next (wpAny_call_entry slot_it_next hit.typeIs entry_it_next ?_ (args_it_next _))))
  unfold Builtin.«set_iterator.__next__»
  refine wpAny_bind (wpAny_pure ?_)
  refine wpAny_bind (wpAny_fieldsOf ho hd ?_)
  dsimp only
  refine wpAny_bind (entries_of hs ?_)
  rw [if_neg (by simp)]
  refine wpAny_bind (wpAny_seqItems ht htd ?_)
  dsimp only
  rw [Int.toNat_natCast, hp]
  dsimp only
  unfold setNextDrawn
  refine wpAny_bind (wpAny_bind (wpAny_setState_of hos hds hf ?_))
  dsimp only
  rw [if_neg (by simp), Int.toNat_natCast, hk]
  refine wpAny_pure ?_
  refine wpAny_bind (set_field hit (by simp) fun h1 it1 sb1 => ?_)
  refine wpAny_pure ⟨_, rfl, wpAny_pure (hQ h1 ?_ sb1)⟩
  simpa [rawInt] using it1
theorem next_endD {T : Addr} {ot : Obj} {pl : Array Value} {n0 : Nat} {i : Nat} {Q : Option Value → Shared → Prop} (hh : A.handled = none) (hit : ItAt s.heap I #[.ref T, .int i 0, .ref S, .int es.size 0, .int ep 0]) (hs : SetIs s.heap S es ep t)
    (ht : s.heap.get? T = some ot) (htd : ot.data = .seq pl n0) (hp : pl[i]? = none)
    (hQ : ∀ h', Heap.ExtBut I s.heap h' → Q none { s with heap := h' }) : wpAny (model prog w) A (pyNext (.ref I)) Q E s := by
  obtain ⟨o, ho, hc, hd⟩ := id hit
  unfold pyNext
  refine wpAny_bind (wpAny_attempt (wpAny_callSpecial?_slot (name := Str.ofString "__next__") hit.typeIs slot_it_next (wpAny_call_entry slot_it_next hit.typeIs entry_it_next ?_ (args_it_next _))))
  unfold Builtin.«set_iterator.__next__»
  refine wpAny_bind (wpAny_pure ?_)
  refine wpAny_bind (wpAny_fieldsOf ho hd ?_)
  dsimp only
  refine wpAny_bind (entries_of hs ?_)
  rw [if_neg (by simp)]
  refine wpAny_bind (wpAny_seqItems ht htd ?_)
  dsimp only
  rw [Int.toNat_natCast, hp]
  dsimp only
  refine wpAny_bind (set_field hit (by simp) fun h1 it1 sb1 => ?_)
  refine wpAny_bind (set_field (s := { s with heap := h1 }) it1 (by simp) fun h2 it2 sb2 => ?_)
  show wpAny _ _ (newExc (.type "StopIteration") [] >>= _) _ _ _
  refine wpAny_bind ?_
  simp only [newExc, newTuple]
  refine wpAny_bind (wpAny_newObj_type ?_ (by size_fits))
  refine wpAny_bind (m := firstArgMember _ _) (wpAny_of_eq (a := Value.none) (by first | rfl | (simp only [firstArgMember]; rfl)) ?_)
  refine wpAny_newObj_type ?_ (by size_fits)
  simp only [raiseNew]
  refine wpAny_bind (wpAny_handled ?_)
  rw [show A.in1.handled = none from hh]
  refine wpAny_bind (wpAny_pure (wpAny_throw ?_))
  refine wpAny_bind (wpAny_isInstance (T := "StopIteration") (b := true) ⟨_, Heap.get?_push_size _ rfl, rfl⟩ isSubtype_stop ?_)
  exact wpAny_pure (hQ _ (((sb1.trans sb2).extBut.push _).push _))
theorem iter_self {fs : Array Value} {Q : Value → Shared → Prop} (hit : ItAt s.heap I fs) (h : Q (.ref I) s) : wpAny (model prog w) A (pyIter (.ref I)) Q E s := by
  refine wpAny_pyIter_slot hit.typeIs slot_it_iter (wpAny_call_entry slot_it_iter hit.typeIs entry_it_iter ?_ (args_it_iter _))
  show wpAny _ _ (ret (.ref I)) _ _ s
  exact wpAny_pure ⟨_, rfl, "set_iterator", _, hit.typeIs, slot_it_next.lookup, h⟩
end
end SetA
namespace SetA
open PySem PyProof.Rows
section
variable {prog : Program} {w : World} {A : Around} {E : Value → Shared → Prop} {s : Shared} {I S : Addr} {es : Array (Int × Value)} {ep : Nat} {t : SetTable}
theorem SetIs.at {h h' : Heap} (hs : SetIs h S es ep t) (k : ∀ o, h.get? S = some o → h'.get? S = some o) : SetIs h' S es ep t := by
  obtain ⟨o, ho, r⟩ := hs
  exact ⟨o, k o ho, r⟩
theorem ItAt.at {h h' : Heap} {fs : Array Value} (hs : ItAt h I fs) (k : ∀ o, h.get? I = some o → h'.get? I = some o) : ItAt h' I fs := by
  obtain ⟨o, ho, r⟩ := hs
  exact ⟨o, k o ho, r⟩
theorem walk_slots (hh : A.handled = none) (hIS : I ≠ S) (sl : Nat → Nat) (vals : List Value) (hl : vals.length = es.size)
    (hn : ∀ (i : Nat) (x : Value) (s : Shared), vals[i]? = some x → SetIs s.heap S es ep t → ∀ (A : Around) (Q : Option (Value × Nat) → Shared → Prop) (E : Value → Shared → Prop), Q (some (x, sl (i + 1))) s → wpAny (model prog w) A (setNext S (sl i) i ep) Q E s)
    (he : ∀ (s : Shared), SetIs s.heap S es ep t → ∀ (A : Around) (Q : Option (Value × Nat) → Shared → Prop) (E : Value → Shared → Prop), Q none s → wpAny (model prog w) A (setNext S (sl es.size) es.size ep) Q E s) :
    WalksS prog w A I [I, S] [I] (fun a b => b = a) vals.length (fun i v => vals[i]? = some v) (fun i s => ItAt s.heap I #[.int (sl i : Nat) 0, .int (i : Nat) 0, .ref S, .int es.size 0, .int ep 0] ∧ SetIs s.heap S es ep t) where
  sub := fun b hb => by rw [List.mem_singleton.mp hb]; exact List.mem_cons_self
  grefl := fun _ => rfl
  gtrans := fun _ _ _ h1 h2 => h2.trans h1
  frame := fun i s h' tk st _ k => ⟨st.1.at fun o e => k I List.mem_cons_self o e, st.2.at fun o e => k S (List.mem_cons_of_mem _ List.mem_cons_self) o e⟩
  item := fun i s Q E hi st hQ => by
    obtain ⟨x, hx⟩ : ∃ x, vals[i]? = some x := ⟨vals[i], List.getElem?_eq_getElem hi⟩
    refine next_item st.1 st.2 (hn i x s hx st.2) fun h' it' sb => hQ x _ hx ⟨it', st.2.at fun o e => (sb.2 S hIS.symm).trans e⟩ ⟨fun b o hb e => (sb.2 b (fun z => hb (List.mem_singleton.mpr z))).trans e, rfl, rfl, rfl, Nat.le_refl _⟩
  done := fun s Q E st hQ => by
    rw [hl] at st
    exact next_end hh st.1 st.2 (he s st.2) fun h' eb => hQ _ ⟨fun b o hb e => eb b o (fun z => hb (List.mem_singleton.mpr z)) e, rfl, rfl, rfl, Nat.le_refl _⟩
  self := fun i s Q E st h => iter_self st.1 h
theorem walk_drawn (hh : A.handled = none) (hIS : I ≠ S) {T : Addr} (hIT : I ≠ T) (ord : List Nat) (ho : ∀ k ∈ ord, k < es.size) :
    WalksS prog w A I [I, S, T] [I] (fun a b => b = a) ord.length (fun i v => (ord.map fun k => (es.getD k (0, .none)).2)[i]? = some v)
      (fun i s => ItAt s.heap I #[.ref T, .int (i : Nat) 0, .ref S, .int es.size 0, .int ep 0] ∧ SetIs s.heap S es ep t ∧ s.heap.get? T = some { cls := .type "tuple", data := .seq (ord.map fun (i : Nat) => rawInt i).toArray }) where
  sub := fun b hb => by rw [List.mem_singleton.mp hb]; exact List.mem_cons_self
  grefl := fun _ => rfl
  gtrans := fun _ _ _ h1 h2 => h2.trans h1
  frame := fun i s h' tk st _ k => ⟨st.1.at fun o e => k I List.mem_cons_self o e, st.2.1.at fun o e => k S (List.mem_cons_of_mem _ List.mem_cons_self) o e, k T (List.mem_cons_of_mem _ (List.mem_cons_of_mem _ List.mem_cons_self)) _ st.2.2⟩
  item := fun i s Q E hi st hQ => by
    have hx : ord[i]? = some ord[i] := List.getElem?_eq_getElem hi
    have hk := ho _ (List.getElem_mem hi)
    refine next_itemD (k := ord[i]) (tk := 0) (hx := (es[ord[i]]'hk).1) (x := (es[ord[i]]'hk).2) st.1 st.2.1 st.2.2 rfl ?_ ?_ fun h' it' sb => hQ _ _ ?_ ⟨it', st.2.1.at fun o e => (sb.2 S hIS.symm).trans e, (sb.2 T hIT.symm).trans st.2.2⟩ ⟨fun b o hb e => (sb.2 b (fun z => hb (List.mem_singleton.mpr z))).trans e, rfl, rfl, rfl, Nat.le_refl _⟩
    · simp [hx, rawInt, hi]
    · simp [hk]
    · simp [hx, hk, Array.getD, hi]
  done := fun s Q E st hQ => by
    refine next_endD hh st.1 st.2.1 st.2.2 rfl (by simp) fun h' eb => hQ _ ⟨fun b o hb e => eb b o (fun z => hb (List.mem_singleton.mpr z)) e, rfl, rfl, rfl, Nat.le_refl _⟩
  self := fun i s Q E st h => iter_self st.1 h
def Going (prog : Program) (w : World) (S : Addr) (vals0 : List Value) (s : Shared) (v : Value) (s' : Shared) : Prop :=
  ∃ (I : Addr) (vals : List Value) (d' : Drawn) (h' : Heap) (fp : List Addr) (St : Nat → Shared → Prop), v = .ref I ∧ vals.Perm vals0 ∧ s' = { s with heap := h', drawn := d' } ∧ (∀ b o, s.heap.get? b = some o → h'.get? b = some o) ∧ s.heap.objs.size ≤ I ∧
    (∀ A : Around, A.handled = none → WalksS prog w A I fp [I] (fun a b => b = a) vals.length (fun i v => vals[i]? = some v) St) ∧ St 0 s' ∧ ∀ b ∈ fp, b = S ∨ s.heap.objs.size ≤ b
theorem byText_of {Q : Bool → Shared → Prop} (h : Q (w.params.followText "set-order") s) : wpAny (model prog w) A setsByText Q E s := by
  unfold setsByText
  exact wpAny_bind (wpAny_askSetting (wpAny_pure h))
theorem next_text (ht : w.params.followText "set-order" = true) {slot i : Nat} (hs : SetIs s.heap S es ep t) {Q : Option (Value × Nat) → Shared → Prop} (h : Q (((pickOrder (w.params.setOrder S ep) es)[i]?).map fun e => (e.2, slot)) s) :
    wpAny (model prog w) A (setNext S slot i ep) Q E s := by
  obtain ⟨o, ho, _, hd, hf⟩ := hs
  rw [setNext_eq]
  refine wpAny_bind (wpAny_setState_of ho hd hf ?_)
  dsimp only
  refine wpAny_bind (byText_of ?_)
  rw [ht, if_pos rfl, if_neg (by simp)]
  unfold setWalk
  refine wpAny_bind (wpAny_bind (wpAny_setState_of ho hd hf ?_))
  dsimp only
  refine wpAny_bind (byText_of ?_)
  rw [ht, if_pos rfl]
  refine wpAny_bind (wpAny_askSetting (wpAny_pure (wpAny_pure h)))
theorem next_plain (ht : w.params.followText "set-order" = false) {slot i : Nat} (hs : SetIs s.heap S es ep t) (hp : (!t.plain && decide (es.size > 1)) = false) (hl : t.led = true) {Q : Option (Value × Nat) → Shared → Prop}
    (h : Q (match es[SetTable.below t.place slot]?, t.place[SetTable.below t.place slot]? with | some (_, x), some j => some (x, j + 1) | _, _ => none) s) : wpAny (model prog w) A (setNext S slot i ep) Q E s := by
  obtain ⟨o, ho, _, hd, hf⟩ := hs
  rw [setNext_eq]
  refine wpAny_bind (wpAny_setState_of ho hd hf ?_)
  dsimp only
  refine wpAny_bind (byText_of ?_)
  rw [ht, if_neg (by simp), hp, if_neg (by simp), hl]
  refine wpAny_bind (wpAny_pure ?_)
  exact wpAny_pure h
def sl (t : SetTable) : Nat → Nat
  | 0 => 0
  | i + 1 => t.place.getD i 0 + 1
theorem below_sl (hr : Ris t.place) : ∀ i, i ≤ t.place.size → SetTable.below t.place (sl t i) = i
  | 0, _ => by
    obtain ⟨b1, b2⟩ := below_spec hr (sl t 0)
    refine Nat.eq_zero_of_not_pos fun z => ?_
    have := (b2 0 (by omega)).mpr z
    have e : sl t 0 = 0 := rfl
    omega
  | i + 1, h => by
    obtain ⟨b1, b2⟩ := below_spec hr (sl t (i + 1))
    have e : sl t (i + 1) = t.place[i]'(by omega) + 1 := by
      unfold sl
      simp [Array.getD, show i < t.place.size by omega]
    have h1 : i < SetTable.below t.place (sl t (i + 1)) := (b2 i (by omega)).mp (by rw [e]; omega)
    refine Nat.le_antisymm (Nat.le_of_not_lt fun z => ?_) h1
    have h2 := (b2 (i + 1) (by omega)).mpr z
    have h3 := hr.lt (i := i) (j := i + 1) (by omega) (by omega)
    rw [e] at h2
    omega
set_option maxHeartbeats 1000000 in
theorem iter_set {Q : Value → Shared → Prop} (hs : SetIs s.heap S es ep t) (hl : t.led = ledOf w) (hr : Ris t.place) (hb : es.size < scanBound) (h : ∀ v s', Going prog w S (es.toList.map (·.2)) s v s' → Q v s') : wpAny (model prog w) A (pyIter (.ref S)) Q E s := by
  obtain ⟨o, ho, hex, hd, hf⟩ := id hs
  have hT : s.TypeIs (.ref S) "set" := ⟨o, ho, hex.1⟩
  have hlt : S < s.heap.objs.size := Heap.lt_size ho
  have hpl : t.place.size = es.size := by
    have := hf
    simp only [SetTable.fits, Bool.and_eq_true, beq_iff_eq] at this
    exact this.1
  refine wpAny_pyIter_slot hT PySem.F.slot_set_iter (wpAny_call_entry PySem.F.slot_set_iter hT entry_iter ?_ (PySem.F.args_set_iter_1 _))
  unfold Builtin.«frozenset.__iter__» Builtin.Frozenset.slot0
  refine wpAny_bind (wpAny_bind (wpAny_pure (wpAny_pure ?_)))
  unfold Builtin.Frozenset.sizeOf
  refine wpAny_bind (wpAny_bind (entries_of hs (wpAny_pure ?_)))
  rw [setDrawn_eq]
  refine wpAny_bind (wpAny_bind (wpAny_setState_of ho hd hf ?_))
  dsimp only
  refine wpAny_bind (byText_of (wpAny_pure ?_))
  have fin : ∀ (d' : Drawn) (h1 : Heap) (first : Value) (vals : List Value) (fp : List Addr) (St : Nat → Shared → Prop), SetIs h1 S es ep t → (∀ b o, s.heap.get? b = some o → h1.get? b = some o) → vals.Perm (es.toList.map (·.2)) → s.heap.objs.size ≤ h1.objs.size →
      (∀ A : Around, A.handled = none → WalksS prog w A h1.objs.size fp [h1.objs.size] (fun a b => b = a) vals.length (fun i v => vals[i]? = some v) St) → (∀ b ∈ fp, b = S ∨ s.heap.objs.size ≤ b) →
      St 0 { s with heap := h1.push { cls := .type "set_iterator", data := .fields #[first, .int 0 0, .ref S, .int es.size 0, .int ep 0] }, drawn := d' } →
      wpAny (model prog w) A.in1 (do ret (← newFields "set_iterator" [first, rawInt 0, .ref S, rawInt (es.size : Nat), rawInt (← setEpoch S)])) (fun fin s' => ∃ v, fin = .done (.ret v) ∧ ∃ T' r, s'.TypeIs v T' ∧ typeLookup (.type T') "__next__" = pure (some r) ∧ Q v s') E { s with heap := h1, drawn := d' } := by
    intro d' h1 first vals fp St hs1 hk hp hz W hfp hst
    obtain ⟨o1, ho1, _, hd1, hf1⟩ := id hs1
    refine wpAny_bind (wpAny_setEpoch_of (s := { s with heap := h1, drawn := d' }) ho1 hd1 hf1 ?_)
    unfold newFields
    refine wpAny_bind (wpAny_newObj_type ?_)
    refine wpAny_pure ⟨_, rfl, "set_iterator", _, ⟨_, Heap.get?_push_size _ rfl, rfl⟩, slot_it_next.lookup, h _ _ ?_⟩
    exact ⟨h1.objs.size, vals, d', _, fp, St, rfl, hp, rfl, fun b o e => Heap.get?_push_of_some _ (hk b o e), hz, W, hst, hfp⟩
  have eqd : ∀ x : Bool, (!x && (!t.plain && decide (es.size > 1))) = true ∨ (!x && (!t.plain && decide (es.size > 1))) = false := fun x => by cases (!x && (!t.plain && decide (es.size > 1))) <;> simp
  have ne : ∀ h1 : Heap, s.heap.objs.size ≤ h1.objs.size → h1.objs.size ≠ S := fun h1 z => Nat.ne_of_gt (Nat.lt_of_lt_of_le hlt z)
  rcases eqd (w.params.followText "set-order") with e | e
  · -- drawn
    rw [e, if_pos rfl]
    refine wpAny_bind (draw (n := es.size) (xs := List.range es.size) (by rw [List.length_range]) fun ord d' hp => ?_)
    refine wpAny_bind (wpAny_newTuple ?_ (by rw [List.length_map, hp.length_eq, List.length_range]; exact fits_of_scanBound hb))
    have hmem : ∀ k ∈ ord, k < es.size := fun k hk => List.mem_range.mp (hp.mem_iff.mp hk)
    have hS1 : SetIs (s.heap.push { cls := .type "tuple", data := .seq (ord.map fun (i : Nat) => rawInt i).toArray }) S es ep t := hs.at fun o e => Heap.get?_push_of_some _ e
    have hz : (s.heap.push { cls := .type "tuple", data := .seq (ord.map fun (i : Nat) => rawInt i).toArray }).objs.size = s.heap.objs.size + 1 := by rw [Heap.size_push]
    have hpv : (ord.map fun k => (es.getD k (0, .none)).2).Perm (es.toList.map (·.2)) := by
      have : (List.range es.size).map (fun k => (es.getD k (0, .none)).2) = es.toList.map (·.2) := by
        apply List.ext_getElem
        · simp
        · intro i h1 h2
          have : i < es.size := by simpa using h1
          simp [Array.getD, this]
      rw [← this]
      exact hp.map _
    refine fin d' (s.heap.push { cls := .type "tuple", data := .seq (ord.map fun (i : Nat) => rawInt i).toArray }) (.ref s.heap.objs.size) (ord.map fun k => (es.getD k (0, .none)).2) [(s.heap.push { cls := .type "tuple", data := .seq (ord.map fun (i : Nat) => rawInt i).toArray }).objs.size, S, s.heap.objs.size]
      (fun i s' => ItAt s'.heap (s.heap.push { cls := .type "tuple", data := .seq (ord.map fun (i : Nat) => rawInt i).toArray }).objs.size #[.ref s.heap.objs.size, .int (i : Nat) 0, .ref S, .int es.size 0, .int ep 0] ∧ SetIs s'.heap S es ep t ∧ s'.heap.get? s.heap.objs.size = some { cls := .type "tuple", data := .seq (ord.map fun (i : Nat) => rawInt i).toArray })
      hS1 (fun b o e => Heap.get?_push_of_some _ e) hpv (by omega) (fun A hA => ?_) (fun b hb => ?_) ?_
    · rw [List.length_map]
      exact walk_drawn hA (ne _ (by omega)) (fun z => absurd (hz.symm.trans z) (Nat.succ_ne_self _)) ord hmem
    · simp only [List.mem_cons, List.not_mem_nil, or_false] at hb
      rcases hb with e | e | e
      · exact .inr (by rw [e, hz]; exact Nat.le_succ _)
      · exact .inl e
      · exact .inr (Nat.le_of_eq e.symm)
    · exact ⟨⟨_, Heap.get?_push_size _ rfl, rfl, rfl⟩, hS1.at fun o e => Heap.get?_push_of_some _ e, Heap.get?_push_of_some _ (Heap.get?_push_size _ rfl)⟩
  · rw [e, if_neg (by simp)]
    refine wpAny_bind (wpAny_pure ?_)
    have go : ∀ (vals : List Value) (f : Nat → Nat), f 0 = 0 → vals.Perm (es.toList.map (·.2)) → (∀ A : Around, A.handled = none → WalksS prog w A s.heap.objs.size [s.heap.objs.size, S] [s.heap.objs.size] (fun a b => b = a) vals.length (fun i v => vals[i]? = some v) (fun i s' => ItAt s'.heap s.heap.objs.size #[.int (f i : Nat) 0, .int (i : Nat) 0, .ref S, .int es.size 0, .int ep 0] ∧ SetIs s'.heap S es ep t)) → _ := fun vals f f0 hp W =>
      fin s.drawn s.heap (rawInt 0) vals [s.heap.objs.size, S] _ hs (fun b o e => e) hp (Nat.le_refl _) W (fun b hb => by
        simp only [List.mem_cons, List.not_mem_nil, or_false] at hb
        rcases hb with e | e
        · exact .inr (Nat.le_of_eq e.symm)
        · exact .inl e) ⟨⟨_, Heap.get?_push_size _ rfl, rfl, by rw [f0]; rfl⟩, hs.at fun o e => Heap.get?_push_of_some _ e⟩
    cases ht : w.params.followText "set-order" with
    | true =>
      have hpp := pick_perm (w.params.setOrder S ep) es
      have hsz : (pickOrder (w.params.setOrder S ep) es).size = es.size := by
        have := hpp.length_eq
        simpa using this
      refine go ((pickOrder (w.params.setOrder S ep) es).toList.map (·.2)) (fun _ => 0) rfl (hpp.map _) fun A hA => walk_slots hA (ne _ (Nat.le_refl _)) (fun _ => 0) _ (by simpa using hsz) (fun i x s hx hs A Q E q => ?_) fun s hs A Q E q => ?_
      · refine next_text ht hs ?_
        have : (pickOrder (w.params.setOrder S ep) es)[i]?.map (·.2) = some x := by simpa using hx
        cases z : (pickOrder (w.params.setOrder S ep) es)[i]? with
        | none => rw [z] at this; cases this
        | some y =>
          rw [z] at this
          cases this
          exact q
      · refine next_text ht hs ?_
        rw [Array.getElem?_eq_none (by omega)]
        exact q
    | false =>
      have hpn : (!t.plain && decide (es.size > 1)) = false := by
        rw [ht] at e
        simpa using e
      have hl1 : t.led = true := by rw [hl]; unfold ledOf; rw [ht]; rfl
      refine go (es.toList.map (·.2)) (sl t) rfl (List.Perm.refl _) fun A hA => walk_slots hA (ne _ (Nat.le_refl _)) (sl t) _ (by simp) (fun i x s hx hs A Q E q => ?_) fun s hs A Q E q => ?_
      · refine next_plain ht hs hpn hl1 ?_
        have hi : i < es.size := by
          have := (List.getElem?_eq_some_iff.mp hx).1
          simpa using this
        rw [below_sl hr i (by omega), Array.getElem?_eq_getElem hi, Array.getElem?_eq_getElem (show i < t.place.size by omega)]
        have ex : es[i].2 = x := by
          have : (es.toList.map (·.2))[i]? = some es[i].2 := by simp [hi]
          rw [this] at hx
          exact Option.some.inj hx
        have e2 : sl t (i + 1) = t.place[i] + 1 := by
          show t.place.getD i 0 + 1 = _
          simp [Array.getD, show i < t.place.size by omega]
        rw [e2] at q
        rw [← ex] at q
        exact q
      · refine next_plain ht hs hpn hl1 ?_
        rw [below_sl hr es.size (by omega), Array.getElem?_eq_none (Nat.le_refl _)]
        exact q
end
end SetA
namespace SetA
open PySem PyProof.Rows
section
variable {prog : Program} {w : World} {A : Around} {E : Value → Shared → Prop} {s : Shared} {I S : Addr} {es : Array (Int × Value)} {ep : Nat} {t : SetTable}
theorem hint_set {Q : Bool → Shared → Prop} (hT : s.TypeIs (.ref S) "set") (h : Q false s) : wpAny (model prog w) A (Builtin.List.listLengthHint (.ref S)) Q E s := by
  unfold Builtin.List.listLengthHint
  refine wpAny_bind (wpAny_specialOf hT len_set ?_)
  generalize hid : ("set.__len__" : String) = id0
  wp_delta
  rw [show splitId id0 = some ("set", "__len__") from by subst hid; decide +kernel]
  subst hid
  refine wpAny_bind (wpAny_isInstance (T := "set") (b := true) hT (by rw [isSubtype_type]; kernel_rfl) ?_)
  refine wpAny_ite_split (fun hab => absurd hab (by decide)) (fun _ => ?_)
  refine wpAny_ite_split (fun _ => ?_) (fun hab => absurd (by decide +kernel) hab)
  refine wpAny_bind (wpAny_typeOf hT ?_)
  exact wpAny_pure h
theorem items_eq {vals : List Value} {acc : Array Value} (h : ItemsOf (fun i v => vals[i]? = some v) acc vals.length) : acc.toList = vals := by
  apply List.ext_getElem?
  intro i
  rw [Array.getElem?_toList]
  rcases Nat.lt_or_ge i acc.size with hi | hi
  · have := h.2 i acc[i] (Array.getElem?_eq_getElem hi)
    rw [this, Array.getElem?_eq_getElem hi]
  · rw [Array.getElem?_eq_none hi, List.getElem?_eq_none (by have := h.1; omega)]
theorem collect_set {Q : List Value → Shared → Prop} (hh : A.handled = none) (hs : SetIs s.heap S es ep t) (hl : t.led = ledOf w) (hr : Ris t.place) (hb : es.size < scanBound)
    (h : ∀ (h' : Heap) (d' : Drawn) (tk : Nat) (vals : List Value), (∀ b o, s.heap.get? b = some o → h'.get? b = some o) → s.heap.objs.size ≤ h'.objs.size → vals.Perm (es.toList.map (·.2)) → Q vals { s with heap := h', drawn := d', toks := tk }) : wpAny (model prog w) A (collect (.ref S)) Q E s := by
  obtain ⟨o, ho, hex, hd, hf⟩ := id hs
  have hlt : S < s.heap.objs.size := Heap.lt_size ho
  have hSI : s.heap.objs.size ≠ S := Nat.ne_of_gt hlt
  unfold collect
  refine wpAny_bind (wpAny_runValue (codeAny_builtin PySem.F.entry_proto_collect ?_))
  rw [Around.under_plainId PySem.F.plain_proto_collect _]
  show wpAny _ A.in1 (newList [] >>= fun l => again (.builtin "list.__iadd__" ⟨[l, .ref S], []⟩)) _ _ s
  refine wpAny_bind (wpAny_newObj_type ?_)
  refine wpAny_pure ⟨plainId_quiet PySem.F.plain_list_iadd _, codeAny_builtin PySem.F.entry_list_iadd ?_⟩
  rw [Around.under_plainId PySem.F.plain_list_iadd _]
  have hs1 : SetIs (s.heap.push { cls := .type "list", data := .seq ([] : List Value).toArray }) S es ep t := hs.at fun o e => Heap.get?_push_of_some _ e
  have hT1 : Shared.TypeIs { s with heap := s.heap.push { cls := .type "list", data := .seq ([] : List Value).toArray } } (.ref S) "set" := ⟨o, Heap.get?_push_of_some _ ho, hex.1⟩
  have hz : (s.heap.push { cls := .type "list", data := .seq ([] : List Value).toArray }).objs.size = s.heap.objs.size + 1 := by rw [Heap.size_push]
  show wpAny _ A.in1 (Builtin.List.listExtendWith (.ref s.heap.objs.size) (.ref S) (.ref s.heap.objs.size)) _ _ _
  unfold Builtin.List.listExtendWith
  refine wpAny_bind (wpAny_typeOf hT1 ?_)
  have h1 : Builtin.List.listSameRef (.ref s.heap.objs.size) (.ref S) = false := by simp [Builtin.List.listSameRef, hSI]
  have h2 : (Value.type "set" == Value.type "list") = false := by decide
  have h3 : (Value.type "set" == Value.type "tuple") = false := by decide
  simp only [h1, h2, h3, Bool.or_false, Bool.false_eq_true, if_false]
  refine wpAny_bind (iter_set (s := { s with heap := s.heap.push { cls := .type "list", data := .seq ([] : List Value).toArray } }) hs1 hl hr hb fun v s2 g => ?_)
  obtain ⟨I, vals, d', h', fp, St, rfl, hp, rfl, hk, hI, W, hst, hfp⟩ := g
  have hn : vals.length ≤ sizeLine := by
    rw [hp.length_eq, List.length_map, Array.length_toList]
    exact fits_of_scanBound hb
  have hT2 : Shared.TypeIs { s with heap := h', drawn := d' } (.ref S) "set" := ⟨o, hk _ _ (Heap.get?_push_of_some _ ho), hex.1⟩
  refine wpAny_bind (wpAny_holding (hint_set hT2 ?_))
  have W1 := W A.in1 hh
  have hSf : s.heap.objs.size ∉ fp := fun hm => by
    rcases hfp _ hm with e | e
    · exact hSI e
    · have : s.heap.objs.size + 1 ≤ s.heap.objs.size := by rw [← hz]; exact e
      exact Nat.lt_irrefl _ this
  show wpAny _ A.in1 (rule "list.extend.makes-room" >>= fun _ => Builtin.List.listTouch (.ref s.heap.objs.size) >>= fun _ =>
    again (.builtin "list.extend.loop" ⟨[.ref s.heap.objs.size, .ref I, .ref s.heap.objs.size], []⟩)) _ _ _
  refine wpAny_bind (wpAny_rule ?_)
  have hS1 : h'.get? s.heap.objs.size = some { cls := .type "list", data := .seq ([] : List Value).toArray } := hk _ _ (Heap.get?_push_size _ rfl)
  refine wpAny_bind ?_
  show wpAny _ A.in1 (updateSeq s.heap.objs.size (·.push .none) >>= fun _ => updateSeq s.heap.objs.size (·.pop)) _ _ _
  refine wpAny_bind (wpAny_updateSeq hS1 rfl ?_)
  have hS2 := Heap.get?_update_self (Obj.mapSeq (·.push Value.none)) hS1 rfl
  refine wpAny_updateSeq hS2 rfl ?_
  have hS3 := Heap.get?_update_self (Obj.mapSeq (·.pop)) hS2 rfl
  have oth : ∀ b o, b ≠ s.heap.objs.size → h'.get? b = some o → ((h'.update s.heap.objs.size (Obj.mapSeq (·.push Value.none))).update s.heap.objs.size (Obj.mapSeq (·.pop))).get? b = some o :=
    fun b o hb e => (Heap.get?_update_other _ _ (Ne.symm hb)).trans ((Heap.get?_update_other _ _ (Ne.symm hb)).trans e)
  refine wpAny_pure ⟨plainId_quiet PySem.F.plain_extend_loop _, codeAny_extend_loopS W1 hn _ hSf _ vals.length 0 _ _ _ rfl (Nat.zero_le _)
    (W1.frame 0 ({ s with heap := h', drawn := d' } : Shared) _ s.toks hst (Nat.le_refl _) fun b hb o e => oth b o (fun h => hSf (h ▸ hb)) e) hS3 (ItemsOf.nil _) fun s' acc' c' hm hS' hacc => ?_⟩
  show wpAny _ A (load s.heap.objs.size >>= _) _ _ s'
  refine wpAny_bind (wpAny_load hS' ?_)
  obtain ⟨h4, g4, d4, tk4, os4⟩ := s'
  have eg : g4 = s.gens := hm.gens
  have ed : d4 = d' := hm.drawn
  have eo : os4 = s.os := hm.os
  subst eg ed eo
  refine wpAny_pure ?_
  have := h h4 d4 tk4 vals (fun b o e => ?_) (Nat.le_of_lt (Heap.lt_size hS')) hp
  · rw [items_eq hacc]
    exact this
  · have hb1 : b ≠ s.heap.objs.size := Nat.ne_of_lt (Heap.lt_size e)
    have hb2 : b ≠ I := Nat.ne_of_lt (Nat.lt_of_lt_of_le (Heap.lt_size e) (Nat.le_trans (by rw [hz]; exact Nat.le_succ _) hI))
    exact hm.heap b o (by simp only [List.mem_cons, List.not_mem_nil, or_false, not_or]; exact ⟨hb1, hb2⟩) (oth b o hb1 (hk b o (Heap.get?_push_of_some _ e)))
theorem ints_of {l : List (Int × Value)} (h : ElemsOf (intKind prog w) l) : ∃ ns : List Int, IntsAre (l.map (·.2)) ns ∧ ∀ k, k ∈ ns ↔ ∃ e ∈ l, (intKind prog w).is k e.2 = true := by
  induction l with
  | nil => exact ⟨[], .nil, fun k => by simp⟩
  | cons e r ih =>
    obtain ⟨ns, h1, h2⟩ := ih h.tail
    obtain ⟨⟨k, hk, _⟩, _⟩ := h.head
    obtain ⟨tk, ek⟩ := Value.isInt_shape hk
    refine ⟨k :: ns, ?_, fun j => ?_⟩
    · show IntsAre (e.2 :: r.map (·.2)) (k :: ns)
      rw [ek]
      exact .cons k tk h1
    · rw [List.mem_cons, h2 j]
      constructor
      · rintro (rfl | ⟨x, hx, q⟩)
        · exact ⟨e, List.mem_cons_self, hk⟩
        · exact ⟨x, List.mem_cons_of_mem _ hx, q⟩
      · rintro ⟨x, hx, q⟩
        rcases List.mem_cons.mp hx with rfl | hx
        · exact .inl ((intKind prog w).inj _ _ _ q hk)
        · exact .inr ⟨x, hx, q⟩
theorem ints_perm {vs us : List Value} (p : us.Perm vs) : ∀ {ns : List Int}, IntsAre vs ns → ∃ ms, IntsAre us ms ∧ ms.Perm ns := by
  induction p with
  | nil => intro ns h; exact ⟨ns, h, List.Perm.refl _⟩
  | cons x _ ih =>
    intro ns h
    cases h with
    | cons n t hr =>
      obtain ⟨ms, a, b⟩ := ih hr
      exact ⟨n :: ms, .cons n t a, b.cons n⟩
  | swap x y l =>
    intro ns h
    cases h with
    | cons n t hr =>
      cases hr with
      | cons m u hr => exact ⟨m :: n :: _, .cons m u (.cons n t hr), List.Perm.swap _ _ _⟩
  | trans _ _ ih1 ih2 =>
    intro ns h
    obtain ⟨ms, a, b⟩ := ih2 h
    obtain ⟨ks, c, d⟩ := ih1 a
    exact ⟨ks, c, d.trans b⟩
theorem sorted_set {Q : Value → Shared → Prop} {Sx : Int → Bool} {n : Nat} (hh : A.handled = none) (hs : SetX prog w s.heap S Sx n (ledOf w))
    (h : ∀ (h' : Heap) (d' : Drawn) (tk : Nat) (D : Addr) (out : List Value) (ep : Nat) (ns : List Int), (∀ b o, s.heap.get? b = some o → h'.get? b = some o) → s.heap.objs.size ≤ D → h'.get? D = some (seqObj "list" out.toArray ep) → IntsAre out ns → ns.Pairwise (· ≤ ·) → ns.length ≤ 4096 → (∀ k, k ∈ ns ↔ Sx k = true) → Q (.ref D) { s with heap := h', drawn := d', toks := tk }) :
    wpAny (model prog w) A (call (.builtin "sorted") [.ref S]) Q E s := by
  obtain ⟨o, es, ep, t, ho, hex, hd, hel, hmem, hb, hf, hn, hl, hr⟩ := hs
  refine Calls.call_function_entry kind_sorted plain_sorted entry_sorted (args_sorted1 _) ?_
  unfold Builtin.«sorted»
  refine wpAny_bind (m := checkCount "sorted" 1 1 _) (wpAny_pure ?_)
  refine wpAny_bind (collect_set (A := A.in1) hh ⟨o, ho, hex, hd, hf⟩ hl hr hb fun h' d' tk vals hk le hp => ?_)
  have hlen : vals.length ≤ sizeLine := by rw [hp.length_eq, List.length_map, Array.length_toList]; exact fits_of_scanBound hb
  obtain ⟨ns, hi, hm⟩ := ints_of hel
  obtain ⟨ms, hi2, hp2⟩ := ints_perm hp hi
  refine wpAny_bind (wpAny_newList ?_ hlen)
  have hoL : (h'.push (seqObj "list" vals.toArray 0)).get? h'.objs.size = some (seqObj "list" vals.toArray 0) := Heap.get?_push_size _ rfl
  show wpAny _ _ _ _ _ { s with heap := h'.push (seqObj "list" vals.toArray 0), drawn := d', toks := tk }
  refine wpAny_bind (wpAny_holding (wpAny_call_entry slot_list_sort ⟨_, hoL, rfl⟩ entry_list_sort (list_sort_treeAny hoL hi2 hlen fun out ns' a1 a2 a3 => ⟨_, rfl, ?_⟩) (args_list_sort _)))
  obtain ⟨ep2, hat⟩ : ∃ ep2, (sortedHeap (h'.push (seqObj "list" vals.toArray 0)) h'.objs.size vals out).get? h'.objs.size = some (seqObj "list" out.toList.toArray ep2) := by
    obtain ⟨ep2, q⟩ := sortedHeap_at (out := out) hoL
    exact ⟨ep2, by simpa using q⟩
  refine wpAny_pure ⟨_, rfl, h _ d' tk h'.objs.size out.toList ep2 ns' (fun b o e => ?_) le hat a1 a3 ?_ fun k => ?_⟩
  · have hb' : b < h'.objs.size := Heap.lt_size (hk b o e)
    rw [sortedHeap_old (Nat.ne_of_lt hb') (by rw [Heap.size_push]; exact Nat.lt_succ_of_lt hb')]
    exact Heap.get?_push_of_some _ (hk b o e)
  · have h1 := (a2.trans hp2).length_eq
    have h2 := hi.length
    have h3 : scanBound = 4096 := rfl
    simp only [List.length_map, Array.length_toList] at h2
    omega
  · rw [(a2.trans hp2).mem_iff, hm k, hmem k]
end
end SetA
set_option maxHeartbeats 4000000
namespace L2
open PySem PySem.Spec PyProof.Rows
section
variable {prog : Program} {w : World} {A : Around} {E : Value → Shared → Prop} {s : Shared} {a kS : Addr} {vs : List Value} {kz : List Int} {keys : Array Value} {e e1 : Nat} {P : PySem.Fin → Shared → Prop}
theorem sk_tail {st : SortSt} (hk : s.heap.get? kS = some (seqObj "list" keys e)) (ha : s.heap.get? a = some (seqObj "list" #[] e1)) (hka : kS ≠ a) (hsz : keys.size = vs.length) (hZ : vs.length ≤ sizeLine) (hp : (arrOf st).Perm (keys.zip vs.toArray)) (hfl : failedOf st = none)
    (h : ∀ h' (out : Array Value) c, (∀ b o, b ≠ kS → b ≠ a → s.heap.get? b = some o → h'.get? b = some o) → h'.get? a = some (seqObj "list" out c) → out.toList.Perm vs → P (.done (.ret .none)) { s with heap := h' }) :
    wpAny (model prog w) A (ksk_tail a false e1 (.ref kS) st) P E s := by
  have hZ2 := hZ
  rw [sizeLine_eq] at hZ2
  have hsz2 : (arrOf st).size = vs.length := by rw [hp.size_eq, Array.size_zip, hsz, List.size_toArray, Nat.min_self]
  have s1 := Heap.SameBut.update s.heap kS (Obj.mapSeq fun _ => (#[] : Array Value))
  have na1 : (s.heap.update kS (Obj.mapSeq fun _ => (#[] : Array Value))).get? a = some (seqObj "list" #[] e1) := (s1.2 a hka.symm).trans ha
  have s2 := Heap.SameBut.update (s.heap.update kS (Obj.mapSeq fun _ => (#[] : Array Value))) a (Obj.mapSeq fun _ => (arrOf st).map (·.2))
  obtain ⟨c2, hc2⟩ : ∃ c2, ((s.heap.update kS (Obj.mapSeq fun _ => (#[] : Array Value))).update a (Obj.mapSeq fun _ => (arrOf st).map (·.2))).get? a = some (seqObj "list" ((arrOf st).map (·.2)) c2) :=
    ⟨_, get?_update_seq na1 fun _ => (arrOf st).map (·.2)⟩
  unfold ksk_tail
  try dsimp only
  refine wpAny_bind (listUpdate_at hk rfl ?_ (by rw [hsz, sizeLine_eq]; omega) (Nat.zero_le _))
  refine wpAny_bind (wpAny_letGo ?_)
  refine wpAny_bind (seqEpoch_at na1 rfl ?_)
  refine wpAny_bind (listUpdate_at na1 rfl ?_ (Nat.zero_le _) (Nat.le_trans (Nat.le_of_eq ((Array.size_map ..).trans hsz2)) (by rw [sizeLine_eq]; omega)))
  rw [hfl]
  simp only [bne_self_eq_false, Bool.false_eq_true, if_false]
  refine wpAny_pure (h _ _ c2 (fun b o h1 h2 q => (s2.2 b h2).trans ((s1.2 b h1).trans q)) hc2 ?_)
  have e2 : ((arrOf st).map (·.2)).toList = (arrOf st).toList.map (·.2) := by simp
  have e3 : (keys.zip vs.toArray).toList = keys.toList.zip vs := ksk_zip keys vs
  rw [e2]
  refine ((Array.perm_iff_toList_perm.mp hp).map _).trans ?_
  have e4 : keys.toList.length = vs.length := by rw [Array.length_toList, hsz]
  rw [e3, List.map_snd_zip (Nat.le_of_eq e4.symm)]
theorem sk_end (hk : s.heap.get? kS = some (seqObj "list" keys e)) (ha : s.heap.get? a = some (seqObj "list" #[] e1)) (hka : kS ≠ a) (hi : IntsAre keys.toList kz) (hlen : kz.length = vs.length) (hZ : vs.length ≤ sizeLine)
    (h : ∀ h' (out : Array Value) c, (∀ b o, b ≠ kS → b ≠ a → s.heap.get? b = some o → h'.get? b = some o) → h'.get? a = some (seqObj "list" out c) → out.toList.Perm vs → P (.done (.ret .none)) { s with heap := h' }) :
    wpAny (model prog w) A (ksk_end a false vs.toArray e1 (.ref kS) keys) P E s := by
  have hsz : keys.size = vs.length := by
    have h1 := hi.length
    rw [Array.length_toList] at h1
    omega
  have hzs : (keys.zip vs.toArray).size = vs.length := by rw [Array.size_zip, hsz, List.size_toArray, Nat.min_self]
  unfold ksk_end
  try dsimp only
  simp only [Bool.false_eq_true, if_false]
  by_cases h2 : vs.toArray.size < 2
  · rw [if_pos h2, if_pos h2]
    refine wpAny_bind (wpAny_pure ?_)
    rw [StateT.run_pure]
    refine wpAny_bind (wpAny_pure ?_)
    try dsimp only
    exact sk_tail (st := SortSt.mk' general' (keys.zip vs.toArray) #[] 7 none) hk ha hka hsz hZ (Array.Perm.refl _) rfl h
  · rw [if_neg h2, if_neg h2]
    rw [List.size_toArray] at h2
    rw [ksk_kind hi (by rw [hsz]; omega)]
    refine wpAny_bind (wpAny_pure ?_)
    refine wpAny_bind (wpAny_mono (wpS_sortRunsAny (κ := intKind) (a₀ := keys.zip vs.toArray) (st := SortSt.mk' oneType' (keys.zip vs.toArray) #[] 7 none)
      (Q := fun _ st' => (arrOf st').Perm (keys.zip vs.toArray) ∧ failedOf st' = none)
      intKind_oneLt (ksk_keysOfInt (ksk_intKeys hi)) ⟨Array.Perm.refl _, rfl, rfl⟩ rfl (by rw [hzs]; omega) fun st' a1 a2 a3 => ⟨a1, a2⟩) ?_ fun _ _ e => e)
    rintro ⟨⟨⟩, st'⟩ s' ⟨rfl, hp, hf⟩
    try dsimp only
    exact sk_tail hk ha hka hsz hZ hp hf h
end
section
variable {X : Cx} {pins : List (Addr × Obj)} {σ : St} {H : Hp} {s : Shared} {E : Value → Shared → Prop} {k : Nat} {f C a kS l : Addr} {fd : FuncData} {ps : List Str} {sp : Sp}
theorem run_bound {bm : Addr} {u x : Value} {vx v : V} {Q : VK} (F : FnOk X.prog X.w X.K X.mg X.base CX0 k f fd ps sp) (hr : Room (k + 2) X.A) (hb : Binds X.K fd ps []) (I : Inv X pins σ H s)
    (hbm : s.heap.get? bm = some (PySem.W.methodObj (.ref f) x)) (rx : RelV vx x) (rv : RelV v u) (h : sp [vx, v] H Q E0) : wpAny (model X.prog X.w) X.A.in1.in1 (call (.ref bm) [u]) (EP X pins σ Q) (fun _ _ => False) s := by
  have r2 : Vals [vx, v] [x, u] := .cons rx (.cons rv .nil)
  have hl : ([x, u] ++ ([] : List Value)).length = ps.length := by
    rw [← F.len _ _ _ _ h]
    rfl
  refine wpAny_call (PySem.W.method_call hbm ?_)
  refine codeAny_mono (F.run X.A.in1.in1 X.stack s H ⟨[x, u], []⟩ [x, u] [vx, v] Q E0 (Room.in1 (Room.in1 hr)) I.env0.in1.in1 (hb s [x, u] I.kIn hl) r2 h) fun r s' hq => ?_
  cases r with
  | error e => exact hq.elim
  | ok fl =>
    cases fl with
    | ret u => exact I.after hq
    | next => exact False.elim hq
    | brk => exact False.elim hq
    | cont => exact False.elim hq
theorem Inv.drawn (I : Inv X pins σ H s) (d : Drawn) : Inv X pins σ H { s with drawn := d } :=
  I.step (g' := s.gens) (d' := d) (t' := s.toks) (h' := s.heap) (ch := []) (fun _ z => nomatch z) (fun b o _ _ _ e _ => e) (fun b o _ _ _ e _ => ⟨o.slots, e⟩) (fun _ _ _ _ n => n) (fun b o _ e => ⟨o, e⟩) (fun _ _ e => e) (fun _ _ _ e => e) (fun b ps e => ⟨#[], by rw [e]; simp⟩) (fun m hm => hm) I.hok I.bare
theorem Inv.repin {b : Addr} {o o' : Obj} {h' : Heap} (I : Inv X ((b, o) :: pins) σ H s) (hf : FpOk X pins H b) (sb : Heap.SameBut b s.heap h') (e : h'.get? b = some o') (hc : ∀ v, o'.data ≠ .cell v) (t' : Nat) : Inv X ((b, o') :: pins) σ H { s with heap := h', toks := t' } := by
  have I1 : Inv X pins σ H s := I.pins_of fun p hp => I.pin p (List.mem_append_right _ (List.mem_cons_of_mem _ hp))
  have I2 : Inv X pins σ H { s with heap := h', toks := t' } := I1.turnedL (ch := [b]) (fun c q hc e => (sb.2 c (fun z => hc (by simp [z]))).trans e) (fun c hc => by rw [List.mem_singleton.mp hc]; exact hf)
  refine I2.pins_of fun p hp => ?_
  rcases List.mem_cons.mp hp with rfl | hp
  · exact ⟨e, hf.1, hf.2.1, hf.2.2.1, hc⟩
  · exact I2.pin p (List.mem_append_right _ hp)
theorem Inv.addPin {b : Addr} {o : Obj} (I : Inv X pins σ H s) (hf : FpOk X pins H b) (e : s.heap.get? b = some o) (hc : ∀ v, o.data ≠ .cell v) : Inv X ((b, o) :: pins) σ H s := I.pins_of fun p hp => by
  rcases List.mem_cons.mp hp with rfl | hp
  · exact ⟨e, hf.1, hf.2.1, hf.2.2.1, hc⟩
  · exact I.pin p (List.mem_append_right _ hp)
theorem FpOk.more {b c : Addr} {o : Obj} (h : FpOk X pins H b) (n : c ≠ b) : FpOk X ((c, o) :: pins) H b := by
  refine ⟨h.1, h.2.1, h.2.2.1, h.2.2.2.1, h.2.2.2.2.1, fun p hp => ?_⟩
  rcases List.mem_append.mp hp with hp | hp
  · exact h.2.2.2.2.2 p (List.mem_append_left _ hp)
  · rcases List.mem_cons.mp hp with rfl | hp
    · exact n
    · exact h.2.2.2.2.2 p (List.mem_append_right _ hp)
theorem Inv.adopt {h' : Heap} {a : Addr} {ob : HO} {ch : List Addr} (I : Inv X pins σ H s) (k : ∀ b o, b ∉ a :: ch → s.heap.get? b = some o → h'.get? b = some o) (hf : ∀ b ∈ a :: ch, FpOk X pins H b) (new : ObjOk X.prog X.w (upd H a ob) h' a ob) (t' : Nat) :
    Inv X pins σ (upd H a ob) { s with heap := h', toks := t' } := by
  have na : ∀ b u, H b = some u → b ≠ a := fun b u e z => by
    have q := (hf a List.mem_cons_self).1
    rw [z, q] at e; cases e
  have nit : ∀ b u, H b = some u → b ∉ a :: ch := fun b u e z => by
    have q := (hf b z).1
    rw [q] at e; cases e
  refine I.step (g' := s.gens) (d' := s.drawn) (ch := a :: ch) (fun b hb => ⟨(hf b hb).2.2.2.1, (hf b hb).2.1, (hf b hb).2.2.2.2.1, (hf b hb).2.2.2.2.2⟩) (fun b o _ _ hc e _ => k b o hc e) (fun b o _ _ hc e _ => ⟨o.slots, k b o hc e⟩)
    (fun b _ hc _ n => by rw [upd_ne (fun z => hc (by rw [z]; exact List.mem_cons_self))]; exact n) (fun b o hc e => ⟨o, k b o hc e⟩) (fun b _ e => by rw [upd_ne (na b _ e)]; exact e) (fun b _ _ e => by rw [upd_ne (na b _ e)]; exact e)
    (fun b ps e => ⟨#[], by rw [upd_ne (na b _ e), e]; simp⟩) (fun m hm => ?_) (fun b u e => ?_) I.bare
  · obtain ⟨o, es, ep, ho, r⟩ := hm
    exact ⟨o, es, ep, k _ o (fun z => (hf _ z).2.1 rfl) ho, r⟩
  · by_cases hb : b = a
    · subst hb
      rw [upd_same] at e
      cases e
      exact new
    · rw [upd_ne hb] at e
      refine (I.hok b u e).stay (fun c v hc q => k c v ?_ q) (fun c q => by rw [upd_ne (na c _ q)]; exact q) fun c xs q => by rw [upd_ne (na c _ q)]; exact q
      rcases hc with z | z
      · rw [z]; exact nit b u e
      · exact nit c _ z
theorem ints_vals {vs : List Value} : ∀ {ns : List Int}, IntsAre vs ns → Vals (ns.map V.int) vs := by
  intro ns h
  induction h with
  | nil => exact .nil
  | cons n t _ ih => exact .cons ⟨t, rfl⟩ ih
theorem sorted_key {q : Addr} {ns : List Int} {xs : List V} (g : Int → Int) {Q : VK} (I : Inv X pins σ H s) (hl : SqL X.K H l (ns.map V.int)) (hz : ns.length ≤ sizeLine)
    (turn : ∀ (n : Int) (t : Tok) (pins' : List (Addr × Obj)) (s' : Shared), n ∈ ns → (∀ p ∈ pins, p ∈ pins') → Inv X pins' σ H s' → wpAny (model X.prog X.w) X.A.in1.in1 (call (.ref q) [.int n t]) (fun v s'' => (∃ t', v = .int (g n) t') ∧ Inv X pins' σ H s'') (fun _ _ => False) s')
    (h : ∀ (ns' : List Int) (p : Addr), ns'.Perm ns → H p = none → Q (.ref p) (upd H p (.lst (ns'.map V.int)))) :
    wpAny (model X.prog X.w) X.A (call (.builtin "sorted") [.ref l] [(Str.ofString "key", .ref q)]) (EP X pins σ Q) E s := by
  obtain ⟨vs, rv, pl, _⟩ := I.list hl
  have hi := rv.ints
  have hlv : vs.length = ns.length := hi.length
  refine call_function_entry_kw kind_sorted plain_sorted entry_sorted (ksk_s1 _ _) ?_
  unfold Builtin.«sorted»
  refine wpAny_bind (m := checkCount "sorted" 1 1 _) (wpAny_pure ?_)
  refine wpAny_bind (collect_list pl.isList ?_ (by rw [hlv]; exact hz))
  refine wpAny_bind (wpAny_newList ?_ (by rw [hlv]; exact hz))
  have hsz : ((s.heap.push (seqObj "list" #[] 0)).update s.heap.objs.size (Obj.mapSeq (· ++ vs.toArray))).objs.size = s.heap.objs.size + 1 := by rw [Heap.size_update, size_push']
  have hoL : (((s.heap.push (seqObj "list" #[] 0)).update s.heap.objs.size (Obj.mapSeq (· ++ vs.toArray))).push (seqObj "list" vs.toArray 0)).get? (s.heap.objs.size + 1) = some (seqObj "list" vs.toArray 0) := by
    rw [← hsz]; exact Heap.get?_push_size _ rfl
  have keep : ∀ b o, s.heap.get? b = some o → (((s.heap.push (seqObj "list" #[] 0)).update s.heap.objs.size (Obj.mapSeq (· ++ vs.toArray))).push (seqObj "list" vs.toArray 0)).get? b = some o := fun b o q => by
    have hlt : b < s.heap.objs.size := Heap.lt_size q
    rw [Heap.get?_push_ne _ _ _ (by rw [hsz]; exact Nat.ne_of_lt (Nat.lt_succ_of_lt hlt)), Heap.get?_update_ne _ _ _ _ (Nat.ne_of_lt hlt), Heap.get?_push_ne _ _ _ (Nat.ne_of_lt hlt)]
    exact q
  show wpAny _ _ _ _ _ { s with heap := ((s.heap.push (seqObj "list" #[] 0)).update s.heap.objs.size (Obj.mapSeq (· ++ vs.toArray))).push (seqObj "list" vs.toArray 0) }
  rw [hsz]
  have I1 : Inv X pins σ H { s with heap := ((s.heap.push (seqObj "list" #[] 0)).update s.heap.objs.size (Obj.mapSeq (· ++ vs.toArray))).push (seqObj "list" vs.toArray 0), toks := s.toks } := I.kept keep
  have fa : FpOk X pins H (s.heap.objs.size + 1) := I.fpOk (Nat.le_succ _) (I.hok.fresh (Nat.le_succ _))
  have pa := I1.addPin fa hoL (fun v z => nomatch z)
  generalize hh1 : ((s.heap.push (seqObj "list" #[] 0)).update s.heap.objs.size (Obj.mapSeq (· ++ vs.toArray))).push (seqObj "list" vs.toArray 0) = h1 at *
  have hz1 : h1.objs.size = s.heap.objs.size + 2 := by rw [← hh1, Heap.size_push, hsz]
  generalize ha' : s.heap.objs.size + 1 = a at *
  refine wpAny_bind (wpAny_holding (wpAny_call_entry_kw slot_list_sort ⟨_, hoL, rfl⟩ entry_list_sort ?body (ksk_l1 _ _)))
  show wpAny (model X.prog X.w) X.A.in1.in1 (Builtin.«list.sort» ⟨[.ref a], [(Str.ofString "key", .ref q)]⟩) _ _ _
  rw [ksk_t1]
  unfold ksk_tree
  refine wpAny_bind (listItems_at hoL rfl ?_)
  refine wpAny_bind (listUpdate_at hoL rfl ?_ (by rw [List.size_toArray, hlv]; exact hz) (Nat.zero_le _))
  obtain ⟨e1, ho1⟩ : ∃ e1, (h1.update a (Obj.mapSeq fun _ => (#[] : Array Value))).get? a = some (seqObj "list" #[] e1) := ⟨_, get?_update_seq hoL fun _ => #[]⟩
  refine wpAny_bind (seqEpoch_at ho1 rfl ?_)
  have pb := pa.repin fa (Heap.SameBut.update h1 a (Obj.mapSeq fun _ => (#[] : Array Value))) ho1 (fun v z => nomatch z) s.toks
  refine wpAny_bind (wpAny_newTuple ?_ (by show vs.length ≤ _; rw [hlv]; exact hz))
  refine wpAny_bind (wpAny_newList ?_ (Nat.zero_le _))
  refine wpAny_holding ?_
  generalize hh2 : h1.update a (Obj.mapSeq fun _ => (#[] : Array Value)) = h2 at *
  have hz2 : h2.objs.size = s.heap.objs.size + 2 := by rw [← hh2, Heap.size_update, hz1]
  have hz3 : (h2.push (seqObj "tuple" vs.toArray 0)).objs.size = s.heap.objs.size + 3 := by rw [Heap.size_push, hz2]
  have I3 : Inv X ((a, seqObj "list" #[] e1) :: pins) σ H { s with heap := (h2.push (seqObj "tuple" vs.toArray 0)).push (seqObj "list" #[] 0), toks := s.toks } :=
    pb.kept fun b o q => Heap.get?_push_of_some _ (Heap.get?_push_of_some _ q)
  have hne : a ≠ (h2.push (seqObj "tuple" vs.toArray 0)).objs.size := by rw [hz3, ← ha']; exact Nat.ne_of_lt (by omega)
  have fk0 : FpOk X pins H (h2.push (seqObj "tuple" vs.toArray 0)).objs.size := I.fpOk (by rw [hz3]; exact Nat.le_add_right _ _) (I.hok.fresh (by rw [hz3]; exact Nat.le_add_right _ _))
  have fk : FpOk X ((a, seqObj "list" #[] e1) :: pins) H (h2.push (seqObj "tuple" vs.toArray 0)).objs.size := fk0.more hne
  have I4 := I3.addPin fk (Heap.get?_push_size _ rfl) (fun v z => nomatch z)
  show wpAny (model X.prog X.w) X.A.in1.in1 (ksk_rest a (.ref q) false vs.toArray e1 (.ref (h2.push (seqObj "tuple" vs.toArray 0)).objs.size)) _ _ { s with heap := (h2.push (seqObj "tuple" vs.toArray 0)).push (seqObj "list" #[] 0), toks := s.toks }
  generalize hkS : (h2.push (seqObj "tuple" vs.toArray 0)).objs.size = kS at *
  generalize (h2.push (seqObj "tuple" vs.toArray 0)).push (seqObj "list" #[] 0) = h4 at *
  unfold ksk_rest
  refine wpAny_bind (wpAny_rule ?_)
  first
    | rw [List.forIn_toArray]
    | (rw [← Array.forIn_toList]; simp only [List.toList_toArray])
    | rw [← Array.forIn_toList]
  refine wpAny_bind (ksk_fold (fun i s' => ∃ (kA : Array Value) (e : Nat), Inv X ((kS, seqObj "list" kA e) :: (a, seqObj "list" #[] e1) :: pins) σ H s' ∧ IntsAre kA.toList ((ns.map g).take i)) vs 0 _ ⟨#[], 0, I4, .nil⟩ ?step ?done)
  case step =>
    rintro j x s' hx ⟨kA, e, J, hk⟩
    simp only [Nat.zero_add] at hk ⊢
    have hj : j < vs.length := (List.getElem?_eq_some_iff.mp hx).1
    have hj2 : j < ns.length := by omega
    have hn : ns[j]? = some ns[j] := List.getElem?_eq_getElem hj2
    obtain ⟨t, ht⟩ := hi.get j _ hn
    rw [ht] at hx
    cases hx
    refine wpAny_bind (wpAny_attempt (wpAny_mono (turn ns[j] t _ s' (List.getElem_mem hj2) (fun p hp => List.mem_cons_of_mem _ (List.mem_cons_of_mem _ hp)) J) (fun v s'' he => ?_) fun _ _ hF => hF.elim))
    obtain ⟨⟨t', rfl⟩, J'⟩ := he
    try dsimp only
    have nk := (J'.pin (kS, seqObj "list" kA e) (List.mem_append_right _ List.mem_cons_self)).1
    have hzk : kA.size ≤ ns.length := by
      have h1 := hk.length
      rw [Array.length_toList, List.length_take, List.length_map] at h1
      omega
    have ek : (ns.map g).take (j + 1) = (ns.map g).take j ++ [g ns[j]] := by
      rw [List.take_add_one, List.getElem?_map, hn]
      rfl
    have ea : (kA.push (Value.int (g ns[j]) t')).toList = kA.toList ++ [Value.int (g ns[j]) t'] := by simp
    obtain ⟨c2, hc2⟩ : ∃ c2, (s''.heap.update kS (Obj.mapSeq (·.push (.int (g ns[j]) t')))).get? kS = some (seqObj "list" (kA.push (.int (g ns[j]) t')) c2) := ⟨_, get?_update_seq nk (·.push (.int (g ns[j]) t'))⟩
    have hzz : ns.length ≤ 16777216 := by
      have := hz
      rw [sizeLine_eq] at this
      exact this
    refine wpAny_bind (listUpdate_at nk rfl ?_ (by rw [sizeLine_eq]; omega) (Nat.le_trans (Nat.le_of_eq (Array.size_push ..)) (by rw [sizeLine_eq]; omega)))
    refine wpAny_pure ⟨rfl, kA.push (.int (g ns[j]) t'), c2, J'.repin fk (Heap.SameBut.update ..) hc2 (fun v z => nomatch z) s''.toks, by rw [ea, ek]; exact ksk_snoc hk⟩
  case done =>
    rintro s' ⟨kA, e, J, hk⟩
    have hk' : IntsAre kA.toList (ns.map g) := by
      have e3 : (ns.map g).take (0 + vs.length) = ns.map g := List.take_of_length_le (by rw [List.length_map]; omega)
      rw [e3] at hk
      exact hk
    have nk := (J.pin (kS, seqObj "list" kA e) (List.mem_append_right _ List.mem_cons_self)).1
    have na := (J.pin (a, seqObj "list" #[] e1) (List.mem_append_right _ (List.mem_cons_of_mem _ List.mem_cons_self))).1
    try dsimp only
    refine wpAny_bind (listItems_at nk rfl ?_)
    refine sk_end nk na hne.symm hk' (by rw [List.length_map, hlv]) (by rw [hlv]; exact hz) fun h' out c hkeep ho hp => ?_
    have J0 : Inv X pins σ H s' := J.pins_of fun p hp => J.pin p (List.mem_append_right _ (List.mem_cons_of_mem _ (List.mem_cons_of_mem _ hp)))
    obtain ⟨ms, hms, hpm⟩ := SetA.ints_perm hp hi
    have I9 := J0.adopt (a := a) (ob := .lst (ms.map V.int)) (ch := [kS]) (h' := h') (fun b o hb e => hkeep b o (fun z => hb (by simp [z])) (fun z => hb (by simp [z])) e) (fun b hb => by
      rcases List.mem_cons.mp hb with rfl | hb
      · exact fa
      · rw [List.mem_singleton.mp hb]; exact fk0) ⟨by rw [List.length_map, hpm.length_eq]; exact hz, out.toList, c, ints_vals hms, by simpa using ho⟩ s'.toks
    exact ⟨_, rfl, wpAny_pure ⟨_, rfl, ⟨.ref a, _, I9, rfl, h ms a hpm fa.1⟩⟩⟩
end
end L2
namespace L2
open PySem PySem.Spec PyProof.Rows
structure Bound (K : PySem.W.Frag) (m : Str) (f : Addr) : Prop where
  get : PySem.W.specialIn K (.ref f) "__get__" = some (some (.builtin "function.__get__"))
  tk : PySem.W.takesIn K (.ref f) = some false
  cp : PySem.W.copiedNames.contains m = false
section
variable {X : Cx} {pins : List (Addr × Obj)} {σ : St} {H : Hp} {s : Shared} {A : Around} {E : Value → Shared → Prop} {C a dx f : Addr} {fs : List (Str × V)} {m : Str}
theorem getbound_ok {b : Bool} {Q : Value → Shared → Prop} (I : Inv X pins σ H s) (e : H a = some (.ins C dx fs)) (c : Cls X.K C) (k : Meth X.K C m f) (B : Bound X.K m f) (l : fs.lookup m = none)
    (h : Q (.ref s.heap.objs.size) { s with heap := s.heap.push (PySem.W.methodObj (.ref f) (.ref a)), toks := s.toks + 1 }) : wpAny (model X.prog X.w) A (getAttr (.ref a) m b) Q E s := by
  obtain ⟨mA, O, r, _, _, _⟩ := ins_get I.hok e
  have hn : mA m = none := RelO.none_of (by rw [← l]; exact r m)
  obtain ⟨od, J, hl⟩ := O.look
  exact PySem.W.get_bind I.kIn J (PySem.W.plainGet_of (c.get m)).1 (PySem.W.findObj_fn c.hd k.at_ B.get B.tk B.cp (by rw [hl, hn])) (PySem.W.plainGet_of (c.get m)).2
    (wpAny_call (PySem.W.fn_get (s := { s with toks := s.toks + 1 }) I.kIn (beq_iff_eq.mp k.fn) (PySem.W.handed_on rfl h)))
end
def tSortSet (K : PySem.W.Frag) (te : TE) : TE := fun σ H Q => te σ H fun x H1 => ∃ (a : Addr) (ns : List Int), x = .ref a ∧ SqL K H1 a (ns.map V.int) ∧ ns.length + 1 < 4096 ∧
  ∀ (ns' : List Int) (p : Addr), (∀ k, k ∈ ns' ↔ k ∈ ns) → ns'.length ≤ 4096 → H1 p = none → Q (.ref p) (upd H1 p (.lst (ns'.map V.int)))
def tSortKey (K : PySem.W.Frag) (C : Addr) (m : Str) (sp : Sp) (te to : TE) : TE := fun σ H Q => te σ H fun x H1 => to σ H1 fun y H2 => ∃ (l oa dx : Addr) (fs : List (Str × V)) (ns : List Int) (g : Int → Int), x = .ref l ∧ y = .ref oa ∧ H2 oa = some (.ins C dx fs) ∧ fs.lookup m = none ∧
  SqL K H2 l (ns.map V.int) ∧ ns.length ≤ 4096 ∧ (∀ n ∈ ns, sp [.ref oa, .int n] H2 (fun v H' => v = .int (g n) ∧ H' = H2) E0) ∧
  ∀ (ns' : List Int) (p : Addr), ns'.Perm ns → H2 p = none → Q (.ref p) (upd H2 p (.lst (ns'.map V.int)))
def qSet (K : PySem.W.Frag) (Q : VK) : List V → Hp → Prop
  | [x], H1 => ∃ (a : Addr) (ns : List Int), x = .ref a ∧ SqL K H1 a (ns.map V.int) ∧ ns.length + 1 < 4096 ∧ ∀ (ns' : List Int) (p : Addr), (∀ k, k ∈ ns' ↔ k ∈ ns) → ns'.length ≤ 4096 → H1 p = none → Q (.ref p) (upd H1 p (.lst (ns'.map V.int)))
  | _, _ => False
section
variable {X : Cx} {e o : Expr} {te to : TE} {p1 p2 q1 q2 apos kpos pos : Pos} {k : Nat} {C f : Addr} {fd : FuncData} {ps : List Str} {sp : Sp} {m : Str}
theorem firstMet_mem {ns : List Int} {n : Nat} (hn : n = ns.length) (k : Int) : (firstMet (fun i => ns.getD i 0) n).any (· == k) = true ↔ k ∈ ns := by
  rw [firstMet_any, List.any_eq_true]
  constructor
  · rintro ⟨x, hx, e⟩
    obtain ⟨i, hi, rfl⟩ := List.mem_map.mp hx
    have hi := List.mem_range.mp hi
    have e : ns.getD i 0 = k := by simpa using e
    rw [← e]
    exact PySem.getD_mem (by omega)
  · intro hk
    obtain ⟨i, hi, rfl⟩ := List.getElem_of_mem hk
    exact ⟨ns[i], List.mem_map.mpr ⟨i, List.mem_range.mpr (by omega), by simp [hi]⟩, by simp⟩
theorem pe_sortSet (hc : X.calm = true) (g1 : Gl X "sorted") (m1 : X.mg "sorted" = none) (g2 : Gl X "set") (m2 : X.mg "set" = none) (bs : bootBuiltins "set" = some (.type "set")) (he : PE X e te)
    (h1 : starEach [Expr.Call (.Name "set" p2) [e] [] q2] X.env = (false, eval (Expr.Call (.Name "set" p2) [e] [] q2) X.env) :: starEach [] X.env := by rfl) (h2 : starEach [e] X.env = (false, eval e X.env) :: starEach [] X.env := by rfl) :
    PE X (.Call (.Name "sorted" p1) [.Call (.Name "set" p2) [e] [] q2] [] q1) (tSortSet X.K te) := by
  intro pins s σ H Q I h
  have hh : X.A.handled = none := I.ok.hd hc
  have step : wpAny (model X.prog X.w) X.A (eval (Expr.Call (.Name "set" p2) [e] [] q2) X.env) (fun v s' => wpAny (model X.prog X.w) X.A (call (.builtin "sorted") [v]) (EP X pins σ Q) X.xe s') X.xe s := by
    refine wpAny_Call_Name_kw (ld_blt I g2 m2 bs ?_ (by decide) (by decide))
    refine PyProof.Rows.callWith_type1 (thn ((pa_cons he pa_nil h2 : PA X [e] _) q2 pins s σ H (qSet X.K Q) I h) fun us s1 ⟨vs, H1, I1, r1, q1⟩ => ?_) h2 rfl
    cases r1 with
    | nil => exact q1.elim
    | cons ru rr =>
      cases rr with
      | cons _ _ => exact q1.elim
      | nil =>
        obtain ⟨a, ns, rfl, hs, hl, q⟩ := q1
        cases ru
        obtain ⟨its, rv, pl, _⟩ := I1.list hs
        have hi := rv.ints
        have hlen : its.length = ns.length := hi.length
        refine SetA.call_setX (ns := ns) hh pl.isList (by simpa using hi) (by show its.toArray.size + 1 < 4096; rw [List.size_toArray]; omega) fun h' tk hX hk => ?_
        have I2 : Inv X pins σ H1 { s1 with heap := h', toks := tk } := I1.kept fun b o e => hk b o (Heap.lt_size e) e
        refine SetA.sorted_set (s := { s1 with heap := h', toks := tk }) hh hX fun h3 d3 tk3 D out ep ns' k3 le3 hD hi3 hp3 hl3 hm3 => ?_
        have I3 : Inv X pins σ (upd H1 D (.lst (ns'.map V.int))) { s1 with heap := h3, toks := tk3 } := I2.laid (t' := tk3) (fun b o e => k3 b o e) le3 ⟨by rw [List.length_map]; exact Nat.le_trans hl3 (by decide), out, ep, ints_vals hi3, hD⟩
        refine ⟨.ref D, _, I3.drawn d3, rfl, q ns' D (fun k => ?_) hl3 (I2.hok.fresh le3)⟩
        rw [hm3 k]
        exact firstMet_mem (by rw [List.size_toArray, hlen]) k
  refine wpAny_Call_Name_kw (ld_blt I g1 m1 PyProof.Rows.boot_sorted ?_ (by decide) (by decide))
  refine PyProof.Rows.callWith_builtin1 ?_ h1 rfl
  rw [h1]
  exact Calls.spliced_cons (thn step fun v s1 q => Calls.spliced_nil q)
def qKey (K : PySem.W.Frag) (C : Addr) (m : Str) (sp : Sp) (to : TE) (σ : St) (Q : VK) : List V → Hp → Prop
  | [x], H1 => to σ H1 fun y H2 => ∃ (l oa dx : Addr) (fs : List (Str × V)) (ns : List Int) (g : Int → Int), x = .ref l ∧ y = .ref oa ∧ H2 oa = some (.ins C dx fs) ∧ fs.lookup m = none ∧
    SqL K H2 l (ns.map V.int) ∧ ns.length ≤ 4096 ∧ (∀ n ∈ ns, sp [.ref oa, .int n] H2 (fun v H' => v = .int (g n) ∧ H' = H2) E0) ∧
    ∀ (ns' : List Int) (p : Addr), ns'.Perm ns → H2 p = none → Q (.ref p) (upd H2 p (.lst (ns'.map V.int)))
  | _, _ => False
theorem pe_sortKey (F : FnOk X.prog X.w X.K X.mg X.base CX0 k f fd ps sp) (hr : Room (k + 2) X.A) (hb : Binds X.K fd ps []) (c : Cls X.K C) (hm : Meth X.K C m f) (B : Bound X.K m f) (g1 : Gl X "sorted") (m1 : X.mg "sorted" = none) (he : PE X e te) (ho : PE X o to)
    (hab : attributeBase o m X.env (eval o X.env) = eval o X.env := by rfl) (h1 : starEach [e] X.env = (false, eval e X.env) :: starEach [] X.env := by rfl) :
    PE X (.Call (.Name "sorted" p1) [e] [⟨some (Str.ofString "key"), .Attribute o m apos, kpos⟩] pos) (tSortKey X.K C m sp te to) := by
  intro pins s σ H Q I h
  refine wpAny_Call_Name_kw (ld_blt I g1 m1 PyProof.Rows.boot_sorted ?_ (by decide) (by decide))
  refine PyProof.Rows.callWith_kw (thn ((pa_cons he pa_nil h1 : PA X [e] _) pos pins s σ H (qKey X.K C m sp to σ Q) I h) fun us s1 ⟨vs, H1, I1, r1, q1⟩ => ?_) (by rw [h1]; rfl) (by rw [h1]; rfl)
  cases r1 with
  | nil => exact q1.elim
  | cons ru rr =>
    cases rr with
    | cons _ _ => exact q1.elim
    | nil =>
      show wpAny _ _ (evalAll [(do let v ← eval (.Attribute o m apos) X.env; standAt pos; pure v)]) _ _ s1
      refine wpAny_evalAll_cons (wpAny_bind (attr_of hab (thn (ho pins s1 σ H1 _ I1 q1) fun u s2 ⟨y, H2, I2, ry, q2⟩ => ?_)))
      obtain ⟨l, oa, dx, fs, ns, g, rfl, rfl, e2, l2, hs, hl, hsp, q⟩ := q2
      obtain rfl : u = Value.ref oa := ry
      cases ru
      refine getbound_ok I2 e2 c hm B l2 (wpAny_bind (wpAny_standAt (wpAny_pure (wpAny_evalAll_nil ?_))))
      show wpAny _ _ (call (.builtin "sorted") [.ref l] [(Str.ofString "key", .ref s2.heap.objs.size)]) _ _ _
      have I3 : Inv X pins σ H2 { s2 with heap := s2.heap.push (PySem.W.methodObj (.ref f) (.ref oa)), toks := s2.toks + 1 } := I2.kept fun b o e => Heap.get?_push_of_some _ e
      have fq : FpOk X pins H2 s2.heap.objs.size := I2.fpOk (Nat.le_refl _) (I2.hok.fresh (Nat.le_refl _))
      have I4 := I3.addPin fq (Heap.get?_push_size _ rfl) (fun v z => nomatch z)
      refine wpAny_mono (sorted_key (xs := []) g I4 hs (Nat.le_trans hl (by decide)) (fun n t pins' s' hn hsub J => ?_) q) (fun v s' ⟨x, H', J, rx, qq⟩ => ⟨x, H', J.pins_of fun p hp => J.pin p (List.mem_append_right _ (List.mem_cons_of_mem _ hp)), rx, qq⟩) fun _ _ z => z
      have hbm := (J.pin _ (List.mem_append_right _ (hsub _ List.mem_cons_self))).1
      refine wpAny_mono (run_bound (vx := .ref oa) (v := .int n) F hr hb J hbm rfl ⟨t, rfl⟩ (hsp n hn)) (fun v s'' ⟨x, H', J', rx, e1, e3⟩ => ?_) fun _ _ z => z
      subst e1 e3
      exact ⟨rx, J'⟩
end
end L2
namespace L2
open PySem PySem.Spec PyProof.Rows
theorem pick_ev {α : Type} : ∀ xs : List α, ((List.range ((xs.length + 1) / 2)).map fun k => 2 * k).filterMap (xs[·]?) = Ms.ev xs
  | [] => by simp [Ms.ev]
  | [x] => by simp [Ms.ev]
  | x :: y :: r => by
    have e : ((x :: y :: r).length + 1) / 2 = (r.length + 1) / 2 + 1 := by simp only [List.length_cons]; omega
    have ih := pick_ev r
    rw [e, List.range_succ_eq_map, List.map_cons, List.filterMap_cons, List.map_map]
    show x :: List.filterMap _ (List.map _ _) = x :: Ms.ev r
    rw [← ih, List.filterMap_map, List.filterMap_map]
    rfl
theorem pick_od {α : Type} : ∀ xs : List α, ((List.range (xs.length / 2)).map fun k => 1 + 2 * k).filterMap (xs[·]?) = Ms.od xs
  | [] => by simp [Ms.od]
  | [x] => by simp [Ms.od]
  | x :: y :: r => by
    have e : (x :: y :: r).length / 2 = r.length / 2 + 1 := by simp only [List.length_cons]; omega
    have ih := pick_od r
    rw [e, List.range_succ_eq_map, List.map_cons, List.filterMap_cons, List.map_map]
    show y :: List.filterMap _ (List.map _ _) = y :: Ms.od r
    rw [← ih, List.filterMap_map, List.filterMap_map]
    rfl
theorem range_ev (n : Nat) : sliceRange 0 (n : Int) 2 = (List.range ((n + 1) / 2)).map fun k => 2 * k := by
  unfold sliceRange
  have e : (if (2 : Int) > 0 then (if (0 : Int) < (n : Int) then ((n : Int) - 0 + 2 - 1) / 2 else 0) else (if (0 : Int) > (n : Int) then (0 - (n : Int) - 2 - 1) / (-2) else 0)).toNat = (n + 1) / 2 := by
    rw [if_pos (by decide)]
    split <;> omega
  dsimp only
  rw [e]
  refine List.map_congr_left fun k _ => ?_
  omega
theorem range_od (n : Nat) : sliceRange ((min 1 n : Nat) : Int) (n : Int) 2 = (List.range (n / 2)).map fun k => 1 + 2 * k := by
  unfold sliceRange
  have e : (if (2 : Int) > 0 then (if ((min 1 n : Nat) : Int) < (n : Int) then ((n : Int) - ((min 1 n : Nat) : Int) + 2 - 1) / 2 else 0) else (if ((min 1 n : Nat) : Int) > (n : Int) then (((min 1 n : Nat) : Int) - (n : Int) - 2 - 1) / (-2) else 0)).toNat = n / 2 := by
    rw [if_pos (by decide)]
    split <;> omega
  dsimp only
  rw [e]
  refine List.map_congr_left fun k hk => ?_
  have := List.mem_range.mp hk
  omega
theorem slice_ev (its : List Value) : slicePick its.toArray (some 0) none (some 2) = (Ms.ev its).toArray := by
  have b : sliceBounds (some 0) none (some 2) its.toArray.size = (0, (its.length : Int), 2) := by
    unfold sliceBounds
    simp
    omega
  unfold slicePick
  rw [b]
  dsimp only
  rw [range_ev, ← pick_ev]
  simp
theorem slice_od (its : List Value) : slicePick its.toArray (some 1) none (some 2) = (Ms.od its).toArray := by
  have b : sliceBounds (some 1) none (some 2) its.toArray.size = (((min 1 its.length : Nat) : Int), (its.length : Int), 2) := by
    unfold sliceBounds
    simp
    omega
  unfold slicePick
  rw [b]
  dsimp only
  rw [range_od, ← pick_od]
  simp
theorem vals_ev : ∀ {xs : List V} {its : List Value}, Vals xs its → Vals (Ms.ev xs) (Ms.ev its)
  | _, _, .nil => .nil
  | _, _, .cons r .nil => .cons r .nil
  | _, _, .cons r (.cons r2 t) => .cons r (vals_ev t)
theorem vals_od : ∀ {xs : List V} {its : List Value}, Vals xs its → Vals (Ms.od xs) (Ms.od its)
  | _, _, .nil => .nil
  | _, _, .cons r .nil => .nil
  | _, _, .cons r (.cons r2 t) => .cons r2 (vals_od t)
theorem len_ev {α : Type} : ∀ xs : List α, (Ms.ev xs).length ≤ xs.length
  | [] => Nat.le_refl _
  | [x] => Nat.le_refl _
  | x :: y :: r => by
    have := len_ev r
    show (Ms.ev r).length + 1 ≤ r.length + 1 + 1
    omega
theorem len_od {α : Type} : ∀ xs : List α, (Ms.od xs).length ≤ xs.length
  | [] => Nat.le_refl _
  | [x] => Nat.zero_le _
  | x :: y :: r => by
    have := len_od r
    show (Ms.od r).length + 1 ≤ r.length + 1 + 1
    omega
def tHalf (K : PySem.W.Frag) (te : TE) (tl ts : TO) : TE := fun σ H Q => te σ H fun x H1 => tl σ H1 fun l H2 => ts σ H2 fun c H3 => ∃ a xs, x = .ref a ∧ SqL K H3 a xs ∧ c = some 2 ∧
  ((l = some 0 ∧ ∀ p, H3 p = none → Q (.ref p) (upd H3 p (.lst (Ms.ev xs)))) ∨ (l = some 1 ∧ ∀ p, H3 p = none → Q (.ref p) (upd H3 p (.lst (Ms.od xs)))))
theorem pe_half {X : Cx} {e st : Expr} {te : TE} {lo : Option Expr} {tl ts : TO} {pos p2 : Pos} (he : PE X e te) (hl : PO X lo tl) (hs : PO X (some st) ts) : PE X (.Subscript e (.Slice lo none (some st) p2) pos) (tHalf X.K te tl ts) := by
  intro pins s σ H Q I h
  refine Subscript_ (thn (he pins s σ H _ I h) fun v s1 ⟨x, H1, I1, r1, q1⟩ => ?_)
  refine wpAny_Slice (thn (hl pins s1 σ H1 _ I1 q1) fun vl s2 ⟨l, H2, I2, pl, q2⟩ => ?_)
  rw [evalPart_none]
  refine wpAny_pure (thn (hs pins s2 σ H2 _ I2 q2) fun vs s3 ⟨c, H3, I3, pc, q3⟩ => ?_)
  have I4 : Inv X pins σ H3 { s3 with heap := s3.heap.push { cls := .type "slice", data := .fields #[vl, .none, vs] } } := I3.kept (t' := s3.toks) fun b ob q => Heap.get?_push_of_some _ q
  obtain ⟨a, xs, rfl, hx, rfl, q⟩ := q3
  cases r1
  obtain ⟨its, r, ht, hz⟩ := I4.list hx
  have fin : ∀ (ys : List V) (os : List Value), Vals ys os → ys.length ≤ xs.length → slicePick its.toArray l none (some 2) = os.toArray → (∀ p, H3 p = none → Q (.ref p) (upd H3 p (.lst ys))) →
      wpAny (model X.prog X.w) X.A (getItem (.ref a) (.ref s3.heap.objs.size)) (EP X pins σ Q) X.xe { s3 with heap := s3.heap.push { cls := .type "slice", data := .fields #[vl, .none, vs] } } := by
    intro ys os rv hle hp hq
    refine wpAny_getItem_list_slice ht.isList (Heap.IsSliceOf.new ..) pl .none pc (by simp) ?_ (by rw [List.size_toArray, ← r.length]; exact hz)
    rw [hp]
    exact ⟨.ref _, _, I4.laid (t' := s3.toks) (o := .lst ys) (fun b ob q => Heap.get?_push_of_some _ q) (Nat.le_refl _) ⟨Nat.le_trans hle hz, os, 0, rv, Heap.get?_push_size _ rfl⟩, rfl, hq _ (I4.hok.fresh (Nat.le_refl _))⟩
  show wpAny (model X.prog X.w) X.A (subscriptTail e (.Slice lo none (some st) p2) (.ref a) (.ref s3.heap.objs.size)) (EP X pins σ Q) X.xe { s3 with heap := s3.heap.push { cls := .type "slice", data := .fields #[vl, .none, vs] } }
  refine tail_any (ops := [.ref a, .ref s3.heap.objs.size]) ht.isList.typeIs slot_list_getitem.lookup ?_ (by with_unfolding_all rfl)
  rcases q with ⟨rfl, q⟩ | ⟨rfl, q⟩
  · exact fin _ _ (vals_ev r) (len_ev xs) (slice_ev its) q
  · exact fin _ _ (vals_od r) (len_od xs) (slice_od its) q
end L2
namespace L2
open PySem PySem.Spec PyProof.Rows
section
variable {X : Cx} {pos : Pos} {i : Nat} {x : Str} {e : Expr} {te : TE} {op : Operator} {ti : TIp} {pos' : Pos}
theorem ps_sw (hN : X.N.Nodup) (he : PE X e te) (hi : X.N[i]? = some x := by rfl) (hx : Loc X.env.scope x := by first | exact Or.inl rfl | exact Or.inr rfl) (hs : swapsWith e (some (.Name x pos')) pos.line X.env = pure false := by rfl)
    (hf : X.fn x = true ∨ X.env.scope.names.lookup x = some .local := by first | exact .inl rfl | exact .inr rfl | assumption) : PS X (.Assign [.Name x pos'] e pos) (tAsg te (gName i)) := ps_set hN hi hx he hs hf
theorem ps_aw (hN : X.N.Nodup) (he : PE X e te) (ho : PIp X op ti) (hi : X.N[i]? = some x := by rfl) (hx : Loc X.env.scope x := by first | exact Or.inl rfl | exact Or.inr rfl)
    (hf : X.fn x = true ∨ X.env.scope.names.lookup x = some .local := by first | exact .inl rfl | exact .inr rfl | assumption) : PS X (.AugAssign (.Name x pos') op e pos) (tAug i te ti) := ps_aug hN hi hx he ho hf
theorem pg_nw (hN : X.N.Nodup) (hi : X.N[i]? = some x := by rfl) (hx : Loc X.env.scope x := by first | exact Or.inl rfl | exact Or.inr rfl)
    (hf : X.fn x = true ∨ X.env.scope.names.lookup x = some .local := by first | exact .inl rfl | exact .inr rfl | assumption) : PG X (.Name x pos) (gName i) := pg_name hN hi hx hf
theorem fsc {N P : List Str} {sc : Scope} (a : sc.kind = .function := by rfl) (b : sc.isCoroutine = false := by rfl) (c : sc.isGenerator = false := by rfl) (d : N.Nodup := by decide +kernel) (e : N.take P.length = P := by rfl)
    (f : ∀ x ∈ P, sc.names.lookup x = some .local ∨ sc.names.lookup x = some .cell := by decide +kernel) (g : ∀ y ∈ sc.names, y.2 ≠ .free := by decide +kernel) : FnScope N P sc := ⟨a, b, c, d, e, f, g⟩
end
end L2
namespace My
open PySem L2
def top (i : Nat) : Stmt := PySem.Challenge.pw_pooledtests_s01_answers.main.body.getD i (.Pass ⟨0, 0, 0, 0⟩)
abbrev s_crowd_of : Stmt := top 2
theorem sc_crowd_of : FnScope (["people", "crowd", "person"] : List Str) (["people"] : List Str) (defScope s_crowd_of) := fsc
abbrev s_people_of : Stmt := top 3
theorem sc_people_of : FnScope (["crowd", "people", "one"] : List Str) (["crowd"] : List Str) (defScope s_people_of) := fsc
abbrev s_not_hit : Stmt := top 4
theorem sc_not_hit : FnScope (["pools", "one", "pool"] : List Str) (["pools", "one"] : List Str) (defScope s_not_hit) := fsc
abbrev s_in_all_others : Stmt := top 5
theorem sc_in_all_others : FnScope (["pools", "one", "crowd", "pool"] : List Str) (["pools", "one", "crowd"] : List Str) (defScope s_in_all_others) := fsc
abbrev s_in_at_least : Stmt := top 6
theorem sc_in_at_least : FnScope (["pools", "crowd", "least"] : List Str) (["pools", "crowd", "least"] : List Str) (defScope s_in_at_least) := fsc
abbrev s_counted_at_least : Stmt := top 7
theorem sc_counted_at_least : FnScope (["planes", "crowd", "least", "more", "k", "here"] : List Str) (["planes", "crowd", "least"] : List Str) (defScope s_counted_at_least) := fsc
abbrev s_bit_planes : Stmt := top 8
theorem sc_bit_planes : FnScope (["pools", "planes", "level", "carries", "a", "b", "c", "odd"] : List Str) (["pools"] : List Str) (defScope s_bit_planes) := fsc
abbrev s_too_many_apart : Stmt := top 9
theorem sc_too_many_apart : FnScope (["pools", "crowd", "most", "taken", "apart", "pool", "part"] : List Str) (["pools", "crowd", "most"] : List Str) (defScope s_too_many_apart) := fsc
abbrev s_subsets : Stmt := top 10
theorem sc_subsets : FnScope (["size", "most", "total", "of_k", "k"] : List Str) (["size", "most"] : List Str) (defScope s_subsets) := fsc
abbrev s_tell : Stmt := top 35
theorem sc_tell : FnScope (["crowd", "people"] : List Str) (["crowd"] : List Str) (defScope s_tell) := fsc
def vN (l : List Nat) : List V := l.map fun (p : Nat) => V.int (p : Int)
theorem vN_len (l : List Nat) : (vN l).length = l.length := List.length_map _
theorem vN_app (a b : List Nat) : vN (a ++ b) = vN a ++ vN b := List.map_append
theorem vN_at {l : List Nat} {j : Nat} {y : V} (h : (vN l)[j]? = some y) : ∃ a, l[j]? = some a ∧ y = V.int (a : Int) := by
  unfold vN at h
  rw [List.getElem?_map] at h
  cases e : l[j]? with
  | none => rw [e] at h; cases h
  | some a => rw [e] at h; exact ⟨a, rfl, (Option.some.inj h).symm⟩
theorem at_vN {l : List Nat} {j a : Nat} (h : l[j]? = some a) : (vN l)[j]? = some (V.int (a : Int)) := by
  unfold vN
  rw [List.getElem?_map, h]
  rfl
def kN (p : Nat → Bool) : V → Bool := fun v => match v with | .int z => p z.toNat | _ => false
def fN (g : Nat → Nat) : V → V := fun v => match v with | .int z => .int (g z.toNat : Nat) | v => v
theorem vN_filter (p : Nat → Bool) : ∀ l : List Nat, (vN l).filter (kN p) = vN (l.filter p)
  | [] => rfl
  | x :: r => by
    have ih := vN_filter p r
    have e : kN p (V.int (x : Int)) = p x := rfl
    unfold vN at ih ⊢
    rw [List.map_cons, List.filter_cons, List.filter_cons, e, ih]
    split <;> rfl
theorem vN_map (g : Nat → Nat) (l : List Nat) : (vN l).map (fN g) = vN (l.map g) := by
  unfold vN
  rw [List.map_map, List.map_map]
  rfl
theorem vN_mem {l : List Nat} {v : V} (h : v ∈ vN l) : ∃ p, p ∈ l ∧ v = V.int (p : Int) := by
  obtain ⟨p, hp, e⟩ := List.mem_map.mp h
  exact ⟨p, hp, e.symm⟩
theorem shl1 (p : Nat) : (1 : Int) * 2 ^ ((p : Int)).toNat = ((2 ^ p : Nat) : Int) := by
  rw [Int.toNat_natCast, Int.one_mul, Int.natCast_pow]
  rfl
theorem shr_nat (a k : Nat) : (a : Int) / 2 ^ ((k : Int)).toNat = ((a / 2 ^ k : Nat) : Int) := by
  rw [Int.toNat_natCast, Int.natCast_ediv, Int.natCast_pow]
  rfl
theorem take_snoc {α : Type} {l : List α} {i : Nat} {x : α} (h : l[i]? = some x) : l.take (i + 1) = l.take i ++ [x] := by
  obtain ⟨hi, e⟩ := List.getElem?_eq_some_iff.mp h
  rw [List.take_add_one, h]
  rfl
theorem bne0 {n : Nat} (h : n ≠ 0) : ((n : Int) != 0) = true := by
  rw [bne_iff_ne]
  omega
theorem lt_line {n : Nat} (h : n ≤ 4000000) : n < sizeLine := Nat.lt_of_le_of_lt h (by decide)
def spCrowdOf (K : PySem.W.Frag) : Sp := fun vs H Q _ => ∃ (a : Addr) (l : List Nat), vs = [.ref a] ∧ SqL K H a (vN l) ∧ (∀ p ∈ l, p ≤ 1000000) ∧ Q (.int (Cr.crowd l : Nat)) H
section
variable {P : Program} {w : World} {K : PySem.W.Frag} {mg : Str → Option Value} {base : Heap} {f : Addr} {fd : FuncData}
theorem ok_crowd_of (F : Fun K "crowd_of" "crowd_of" s_crowd_of f fd) : FnOk P w K mg base CX0 1 f fd (["people"] : List Str) (spCrowdOf K) := by
  refine F.ok sc_crowd_of (fun vs H Q E h => ?_) (fun cdv A outer s H vs Q E hr h => ?_)
  · obtain ⟨a, l, rfl, _⟩ := h
    rfl
  obtain ⟨a, l, rfl, hS, hl, q⟩ := h
  refine ⟨_, (pss_cons (ps_sw (i := 1) sc_crowd_of.nd pe_int)
   (pss_cons (ps_for PassesOwn.never rfl (pi_list (pv 0)) (pg_nw (i := 2) sc_crowd_of.nd) (pss_one (ps_aw (i := 1) sc_crowd_of.nd (pe_op op_shl pe_int (pv 2)) (ip_of iop_or))))
   (pss_one (ps_ret (pv 1))))), ?_⟩
  refine ⟨_, rfl, a, rfl, ⟨_, hS⟩, for_list (K := K) (a := a) (xs := vN l) (fun i σ H' => ∃ v, σ = [some (.ref a), some (.int (Cr.crowd (l.take i) : Nat)), v] ∧ H' = H) ⟨none, rfl, rfl⟩ (fun i σ H' _ ⟨_, _, e⟩ => e ▸ hS) ?_ ?_⟩
  · rintro i y σ H' hi ⟨v, rfl, rfl⟩
    obtain ⟨p, hp, rfl⟩ := vN_at hi
    have hb := hl p (List.mem_of_getElem? hp)
    refine ⟨_, rfl, _, rfl, _, _, rfl, rfl, ⟨by omega, by omega, by decide⟩, _, _, rfl, rfl, some (.int (p : Int)), ?_, rfl⟩
    rw [take_snoc hp, Cr.crowd_snoc, ← Cr.or_nat, ← shl1]
    rfl
  · rintro σ H' ⟨v, rfl, rfl⟩
    refine ⟨_, rfl, ?_⟩
    rw [vN_len, List.take_length]
    exact q
end
def spPeopleOf : Sp := fun vs H Q _ => ∃ (c N : Nat), vs = [.int c] ∧ c < 2 ^ N ∧ N ≤ 1000000 ∧ ∀ r H', Same H H' → H r = none → H' r = some (.lst (vN (Cr.ms N c))) → Q (.ref r) H'
section
variable {P : Program} {w : World} {K : PySem.W.Frag} {mg : Str → Option Value} {base : Heap} {f : Addr} {fd : FuncData}
theorem ok_people_of (F : Fun K "people_of" "people_of" s_people_of f fd) : FnOk P w K mg base CX0 1 f fd (["crowd"] : List Str) spPeopleOf := by
  refine F.ok sc_people_of (fun vs H Q E h => ?_) (fun cdv A outer s H vs Q E hr h => ?_)
  · obtain ⟨c, N, rfl, _⟩ := h
    rfl
  obtain ⟨c, N, rfl, hc, hN, q⟩ := h
  refine ⟨_, (pss_cons (ps_sw (i := 1) sc_people_of.nd (pe_lst pa_nil))
   (pss_cons (ps_while PassesOwn.never (pt_truth (pv 0) (fun _ => rfl)) (pss_cons (ps_sw (i := 2) sc_people_of.nd (pe_op op_and (pv 0) (pe_un un_neg (pv 0))))
   (pss_cons (ps_expr (pe_bm PySem.F.plainAttrs_list PySem.F.slot_list_append PySem.F.type_list_append mt_append (pv 1) (pa_cons (pe_op op_sub (pe_bm0 PySem.F.plainAttrs_int PySem.F.slot_int_bit_length PySem.F.type_int_bit_length mt_bitlen (pv 2)) pe_int) pa_nil)))
   (pss_one (ps_aw (i := 0) sc_people_of.nd (pv 2) (ip_of iop_xor))))))
   (pss_one (ps_ret (pv 1))))), ?_⟩
  refine ⟨Nat.zero_le _, fun p hp => ⟨fun m σ H' => ∃ (c' : Nat) (out : List Nat) (v : Option V), σ = [some (.int c'), some (.ref p), v] ∧ H' = upd H p (.lst (vN out)) ∧ m = c' ∧ c' < 2 ^ N ∧ out ++ Cr.ms N c' = Cr.ms N c,
    ⟨c, c, [], none, rfl, rfl, rfl, hc, rfl⟩, ?_⟩⟩
  rintro m σ H' ⟨c', out, v, rfl, rfl, rfl, hlt, e⟩
  refine ⟨_, rfl, _, rfl, ?_⟩
  by_cases h0 : m = 0
  · subst h0
    refine iteF ⟨_, rfl, q p _ (same_new hp _) hp ?_⟩
    rw [Cr.ms_zero, List.append_nil] at e
    rw [upd_same, e]
  · rw [bne0 h0]
    obtain ⟨k, lk, ek⟩ := Cr.low_of m h0
    have dr := Cr.low_drop lk
    have hlen : out.length ≤ N := by
      have := Cr.ms_le N c
      rw [← e, List.length_append] at this
      omega
    refine iteT ⟨_, fun _ _ z => z, _, rfl, _, rfl, _, rfl, _, _, rfl, rfl, ?_⟩
    refine ⟨_, rfl, Or.inl ⟨rfl, _, SqL.of upd_same⟩, _, rfl, rfl, _, rfl, rfl, _, _, rfl, rfl, p, _, _, rfl, rfl, upd_same, (by rw [vN_len]; exact lt_line (by omega)), _, rfl, _, rfl, _, _, rfl, rfl,
      m ^^^ 2 ^ k, dr.1, m ^^^ 2 ^ k, out ++ [k], some (.int ((2 ^ k : Nat) : Int)), ?_, ?_, rfl, by omega, ?_⟩
    · rw [← Cr.xor_nat, ← ek]
      rfl
    · rw [upd_upd, ek]
      dsimp only
      rw [Cr.bits_pow, vN_app]
      rfl
    · rw [← e, Cr.ms_low lk hlt]
      simp
end
def spCounted (K : PySem.W.Frag) : Sp := fun vs H Q _ => ∃ (a : Addr) (ps : List Nat) (c least : Nat), vs = [.ref a, .int c, .int least] ∧ SqL K H a (vN ps) ∧ ps.length ≤ 1000000 ∧
  ∀ x : Nat, (∀ i, x.testBit i = (c.testBit i && decide (least ≤ Cr.pl ps i))) → Q (.int x) H
def spPlanes (K : PySem.W.Frag) : Sp := fun vs H Q _ => ∃ (a : Addr) (l : List Nat), vs = [.ref a] ∧ SqL K H a (vN l) ∧ l.length ≤ 1000000 ∧
  ∀ r H' ps, Same H H' → H r = none → H' r = some (.lst (vN ps)) → (∀ i, Cr.pl ps i = Cr.cn l i) → ps.length ≤ l.length → Q (.ref r) H'
section
variable {P : Program} {w : World} {K : PySem.W.Frag} {mg : Str → Option Value} {base : Heap} {f : Addr} {fd : FuncData}
theorem ok_counted (m_range : mg "range" = none) (m_len : mg "len" = none) (F : Fun K "counted_at_least" "counted_at_least" s_counted_at_least f fd) : FnOk P w K mg base CX0 1 f fd (["planes", "crowd", "least"] : List Str) (spCounted K) := by
  refine F.ok sc_counted_at_least (fun vs H Q E h => ?_) (fun cdv A outer s H vs Q E hr h => ?_)
  · obtain ⟨a, ps, c, least, rfl, _⟩ := h
    rfl
  obtain ⟨a, ps, c, least, rfl, hS, hz, q⟩ := h
  refine ⟨_, (pss_cons (ps_if (pt_truth (pe_op op_shr (pv 2) (pe_callB call_len_seq (by rfl) m_len PySem.boot_len (pa_cons (pv 0) pa_nil))) (fun _ => rfl)) (pss_one (ps_ret pe_int)) pss_nil)
   (pss_cons (ps_sw (i := 3) sc_counted_at_least.nd pe_int)
   (pss_cons (ps_for PassesOwn.never rfl (pi_range3 (by rfl) m_range (pa_cons (pe_op op_sub (pe_callB call_len_seq (by rfl) m_len PySem.boot_len (pa_cons (pv 0) pa_nil)) pe_int) (pa_cons (pe_un un_neg pe_int) (pa_cons (pe_un un_neg pe_int) pa_nil)))) (pg_nw (i := 4) sc_counted_at_least.nd) (pss_cons (ps_sw (i := 5) sc_counted_at_least.nd (pe_op op_and (pv 1) (pe_ix ix_list (pv 0) (pv 4) (fun _ _ => rfl))))
   (pss_one (ps_if (pt_truth (pe_op op_and (pe_op op_shr (pv 2) (pv 4)) pe_int) (fun _ => rfl)) (pss_one (ps_sw (i := 1) sc_counted_at_least.nd (pv 5))) (pss_cons (ps_aw (i := 3) sc_counted_at_least.nd (pv 5) (ip_of iop_or))
   (pss_one (ps_aw (i := 1) sc_counted_at_least.nd (pv 5) (ip_of iop_xor))))))))
   (pss_one (ps_ret (pe_op op_or (pv 3) (pv 1))))))), ?_⟩
  refine ⟨_, rfl, _, rfl, a, _, rfl, .inl hS, _, _, rfl, rfl, by omega, _, rfl, ?_⟩
  rw [vN_len, shr_nat]
  by_cases h0 : least / 2 ^ ps.length = 0
  · rw [h0]
    refine iteF ?_
    refine ⟨_, rfl, a, _, rfl, .inl hS, _, _, rfl, rfl, _, rfl, _, rfl, _, _, _, _, rfl, RgC.neg (by rw [vN_len]; omega) (by rw [vN_len]; omega) (by decide) (by decide), ?_⟩
    rw [vN_len]
    have en : ((ps.length : Int) - 1 - -1).toNat = ps.length := by omega
    rw [en]
    refine for_rangeC (fun t σ H' => ∃ (cr mo : Nat) (v4 v5 : Option V), σ = [some (.ref a), some (.int cr), some (.int least), some (.int mo), v4, v5] ∧ H' = H ∧ Cr.AtLeast ps c least (ps.length - t) cr mo) ⟨c, 0, none, none, rfl, rfl, Cr.AtLeast.start h0⟩ ?_ ?_
    · rintro t σ H' ht ⟨cr, mo, v4, v5, rfl, rfl, hA⟩
      obtain ⟨k, hk⟩ : ∃ k, ps.length - t = k + 1 := ⟨ps.length - t - 1, by omega⟩
      have ek : (ps.length : Int) - 1 + (t : Int) * -1 = (k : Int) := by omega
      rw [ek]
      obtain ⟨p, hp⟩ : ∃ p, ps[k]? = some p := ⟨ps[k]'(by omega), List.getElem?_eq_getElem (by omega)⟩
      rw [hk] at hA
      have nx := hA.step hp
      have ek2 : ps.length - (t + 1) = k := by omega
      refine ⟨_, rfl, _, rfl, _, rfl, a, _, _, _, rfl, rfl, hS, atI_nat (at_vN hp), _, _, rfl, rfl, ?_⟩
      refine ⟨_, rfl, _, rfl, _, _, rfl, rfl, by omega, _, _, rfl, rfl, _, rfl, ?_⟩
      have e1 : Builtin.bitAnd ((least : Int) / 2 ^ (k : Int).toNat) 1 = ((least / 2 ^ k % 2 : Nat) : Int) := by
        rw [shr_nat]
        have : (1 : Int) = ((1 : Nat) : Int) := rfl
        rw [this, Cr.and_nat, Nat.and_one_is_mod]
      rw [e1]
      by_cases hb : least / 2 ^ k % 2 = 1
      · rw [hb]
        refine iteT ⟨_, rfl, cr &&& p, mo, some (.int k), some (.int (cr &&& p : Nat)), ?_, rfl, ?_⟩
        · rw [← Cr.and_nat]
          rfl
        · rw [ek2]
          exact nx.1 hb
      · have hb0 : least / 2 ^ k % 2 = 0 := by omega
        rw [hb0]
        refine iteF ⟨_, rfl, _, rfl, _, _, rfl, rfl, _, rfl, _, rfl, _, _, rfl, rfl, cr ^^^ (cr &&& p), mo ||| (cr &&& p), some (.int k), some (.int (cr &&& p : Nat)), ?_, rfl, ?_⟩
        · rw [← Cr.xor_nat, ← Cr.or_nat, ← Cr.and_nat]
          rfl
        · rw [ek2]
          exact nx.2 hb
    · rintro σ H' ⟨cr, mo, v4, v5, rfl, rfl, hA⟩
      rw [Nat.sub_self] at hA
      refine ⟨_, rfl, _, rfl, _, _, rfl, rfl, ?_⟩
      show Q (.int (Builtin.bitOr mo cr)) _
      rw [Cr.or_nat]
      exact q _ hA.fin
  · rw [bne0 h0]
    refine iteT ?_
    refine q 0 fun i => ?_
    have := Cr.pl_lt i ps
    have hp : 0 < 2 ^ ps.length := Nat.pow_pos (by decide)
    have h1 : 2 ^ ps.length ≤ least := by
      rcases Nat.lt_or_ge least (2 ^ ps.length) with h | h
      · exact absurd (Nat.div_eq_of_lt h) h0
      · exact h
    rw [decide_eq_false (by omega)]
    simp
theorem nil_or_snoc {α : Type} (l : List α) : l = [] ∨ ∃ l' x, l = l' ++ [x] := by
  rcases List.eq_nil_or_concat l with h | ⟨l', x, h⟩
  · exact .inl h
  · exact .inr ⟨l', x, by rw [h, List.concat_eq_append]⟩
theorem last_of {α : Type} {l : List α} {x : α} : (l ++ [x])[(l ++ [x]).length - 1]? = some x := by simp
theorem ok_planes (m_len : mg "len" = none) (m_list : mg "list" = none) (F : Fun K "bit_planes" "bit_planes" s_bit_planes f fd) : FnOk P w K mg base CX0 1 f fd (["pools"] : List Str) (spPlanes K) := by
  refine F.ok sc_bit_planes (fun vs H Q E h => ?_) (fun cdv A outer s H vs Q E hr h => ?_)
  · obtain ⟨a, l, rfl, _⟩ := h
    rfl
  obtain ⟨a, l, rfl, hS, hz, q⟩ := h
  refine ⟨_, (pss_cons (ps_sw (i := 1) sc_bit_planes.nd (pe_lst pa_nil))
   (pss_cons (ps_sw (i := 2) sc_bit_planes.nd (pe_callTy call_list_of (by rfl) m_list PyProof.Rows.boot_list (pa_cons (pv 0) pa_nil)))
   (pss_cons (ps_while PassesOwn.never (pt_truth (pv 2) (fun _ => rfl)) (pss_cons (ps_sw (i := 3) sc_bit_planes.nd (pe_lst pa_nil))
   (pss_cons (ps_while PassesOwn.never (pt_cmpR op_gt (pe_callB call_len_seq (by rfl) m_len PySem.boot_len (pa_cons (pv 2) pa_nil)) pe_int (nomark _)) (pss_cons (ps_sw (i := 4) sc_bit_planes.nd (pe_bm0 PySem.F.plainAttrs_list PySem.F.slot_list_pop PySem.F.type_list_pop mt_pop (pv 2)))
   (pss_cons (ps_sw (i := 5) sc_bit_planes.nd (pe_bm0 PySem.F.plainAttrs_list PySem.F.slot_list_pop PySem.F.type_list_pop mt_pop (pv 2)))
   (pss_cons (ps_sw (i := 6) sc_bit_planes.nd (pe_ifExp (pt_truth (pv 2) (fun _ => rfl)) (pe_bm0 PySem.F.plainAttrs_list PySem.F.slot_list_pop PySem.F.type_list_pop mt_pop (pv 2)) pe_int))
   (pss_cons (ps_sw (i := 7) sc_bit_planes.nd (pe_op op_xor (pv 4) (pv 5)))
   (pss_cons (ps_expr (pe_bm PySem.F.plainAttrs_list PySem.F.slot_list_append PySem.F.type_list_append mt_append (pv 2) (pa_cons (pe_op op_xor (pv 7) (pv 6)) pa_nil)))
   (pss_one (ps_expr (pe_bm PySem.F.plainAttrs_list PySem.F.slot_list_append PySem.F.type_list_append mt_append (pv 3) (pa_cons (pe_op op_or (pe_op op_and (pv 4) (pv 5)) (pe_op op_and (pv 7) (pv 6))) pa_nil))))))))))
   (pss_cons (ps_expr (pe_bm PySem.F.plainAttrs_list PySem.F.slot_list_append PySem.F.type_list_append mt_append (pv 1) (pa_cons (pe_ix ix_list (pv 2) pe_int (fun _ _ => rfl)) pa_nil)))
   (pss_one (ps_sw (i := 2) sc_bit_planes.nd (pv 3)))))))
   (pss_one (ps_ret (pv 1)))))), ?_⟩
  refine ⟨Nat.zero_le _, fun pP hP => ?_⟩
  have s1 : Same H (upd H pP (.lst [])) := same_new hP _
  refine ⟨_, rfl, a, _, rfl, .inl (s1.seq hS), fun pL hL => ?_⟩
  refine ⟨fun m σ H' => ∃ (L : Addr) (lv out : List Nat) (v3 v4 v5 v6 v7 : Option V), σ = [some (.ref a), some (.ref pP), some (.ref L), v3, v4, v5, v6, v7] ∧ Same H H' ∧ H L = none ∧ H' pP = some (.lst (vN out)) ∧ H' L = some (.lst (vN lv)) ∧ pP ≠ L ∧
    m = lv.length ∧ out.length + lv.length ≤ l.length ∧ ∀ i, Cr.pl out i + 2 ^ out.length * Cr.cn lv i = Cr.cn l i,
    ⟨l.length, pL, l, [], none, none, none, none, none, rfl, s1.trans (same_new hL _), s1.free hL, by rw [upd_ne (ne_of_none upd_same hL)]; exact upd_same, upd_same, ne_of_none upd_same hL, rfl, by simp, fun i => by simp [Cr.pl]⟩, ?_⟩
  rintro m σ H1 ⟨L, lv, out, v3, v4, v5, v6, v7, rfl, sH, fL, hOut, hLv, nPL, rfl, hlen, hcn⟩
  refine ⟨_, rfl, _, Or.inl ⟨_, SqL.of hLv, rfl⟩, ?_⟩
  cases lv with
  | nil =>
    refine iteF ⟨_, rfl, q pP _ out sH hP hOut (fun i => ?_) (by simpa using hlen)⟩
    have := hcn i
    simpa [Cr.cn] using this
  | cons x0 r0 =>
    refine iteT ⟨_, fun _ _ z => z, Nat.zero_le _, fun pC hC => ?_⟩
    have sC : Same H1 (upd H1 pC (.lst [])) := same_new hC _
    have nPC : pP ≠ pC := ne_of_none hOut hC
    have nLC : L ≠ pC := ne_of_none hLv hC
    have fC : H pC = none := sH.free hC
    refine ⟨fun m σ H' => ∃ (lv' cs : List Nat) (v4 v5 v6 v7 : Option V), σ = [some (.ref a), some (.ref pP), some (.ref L), some (.ref pC), v4, v5, v6, v7] ∧ Same H H' ∧ H' pP = some (.lst (vN out)) ∧ H' L = some (.lst (vN lv')) ∧ H' pC = some (.lst (vN cs)) ∧
      m = lv'.length ∧ 1 ≤ lv'.length ∧ lv'.length + cs.length ≤ (x0 :: r0).length ∧ ∀ i, Cr.cn lv' i + 2 * Cr.cn cs i = Cr.cn (x0 :: r0) i,
      ⟨(x0 :: r0).length, x0 :: r0, [], v4, v5, v6, v7, rfl, sH.trans sC, sC _ _ hOut, sC _ _ hLv, upd_same, rfl, by simp, by simp, fun i => by simp [Cr.cn]⟩, ?_⟩
    rintro m σ H2 ⟨lv', cs, v4, v5, v6, v7, rfl, sH2, hO2, hL2, hC2, rfl, h1, hl2, hc2⟩
    refine ⟨_, rfl, L, _, rfl, .inl (SqL.of hL2), _, _, rfl, rfl, _, rfl, ?_⟩
    rw [vN_len]
    refine ite2 (fun c => ?_) (fun c => ?_)
    · have c' : (1 : Int) < (lv'.length : Int) := of_decide_eq_true c
      obtain ⟨l1, xa, rfl⟩ : ∃ l1 xa, lv' = l1 ++ [xa] := ⟨lv'.dropLast, lv'.getLast (by intro e; rw [e] at c'; simp at c'), (List.dropLast_concat_getLast _).symm⟩
      obtain ⟨l2, xb, rfl⟩ : ∃ l2 xb, l1 = l2 ++ [xb] := ⟨l1.dropLast, l1.getLast (by intro e; rw [e] at c'; simp at c'), (List.dropLast_concat_getLast _).symm⟩
      have e1 : vN (l2 ++ [xb] ++ [xa]) = vN (l2 ++ [xb]) ++ [V.int xa] := vN_app _ _
      have e2 : vN (l2 ++ [xb]) = vN l2 ++ [V.int xb] := vN_app _ _
      refine ⟨_, fun _ _ z => z, _, rfl, Or.inl ⟨rfl, _, SqL.of hL2⟩, L, _, V.int xa, rfl, rfl, hL2, (by rw [e1]; exact last_of), ?_⟩
      rw [e1, List.dropLast_concat]
      refine ⟨_, rfl, Or.inl ⟨rfl, _, SqL.of upd_same⟩, L, _, V.int xb, rfl, rfl, upd_same, (by rw [e2]; exact last_of), ?_⟩
      rw [e2, List.dropLast_concat, upd_upd]
      refine ⟨_, rfl, _, Or.inl ⟨_, SqL.of upd_same, rfl⟩, ?_⟩
      have lens : ∀ (l3 : List Nat) (z : Nat), l3.length ≤ l2.length → (l3 ++ [z]).length < (l2 ++ [xb] ++ [xa]).length := fun l3 z h => by
        simp only [List.length_append, List.length_singleton]
        omega
      have rest : ∀ (l3 : List Nat) (xc : Nat) (H3 : Hp), H3 = upd H2 L (.lst (vN l3)) → l3.length ≤ l2.length → (∀ i, Cr.cn l2 i = Cr.cn l3 i + (xc.testBit i).toNat) →
          ∀ (cs' : List Nat), cs' = cs ++ [(xa &&& xb) ||| ((xa ^^^ xb) &&& xc)] →
          ∃ m', m' < (l2 ++ [xb] ++ [xa]).length ∧ ∃ (lv' cs : List Nat) (v4 v5 v6 v7 : Option V), [some (V.ref a), some (.ref pP), some (.ref L), some (.ref pC), some (.int xa), some (.int xb), some (.int xc), some (.int (xa ^^^ xb : Nat))] = [some (.ref a), some (.ref pP), some (.ref L), some (.ref pC), v4, v5, v6, v7] ∧
            Same H (upd (upd H3 L (.lst (vN (l3 ++ [(xa ^^^ xb) ^^^ xc])))) pC (.lst (vN cs'))) ∧ (upd (upd H3 L (.lst (vN (l3 ++ [(xa ^^^ xb) ^^^ xc])))) pC (.lst (vN cs'))) pP = some (.lst (vN out)) ∧
            (upd (upd H3 L (.lst (vN (l3 ++ [(xa ^^^ xb) ^^^ xc])))) pC (.lst (vN cs'))) L = some (.lst (vN lv')) ∧ (upd (upd H3 L (.lst (vN (l3 ++ [(xa ^^^ xb) ^^^ xc])))) pC (.lst (vN cs'))) pC = some (.lst (vN cs)) ∧
            m' = lv'.length ∧ 1 ≤ lv'.length ∧ lv'.length + cs.length ≤ (x0 :: r0).length ∧ ∀ i, Cr.cn lv' i + 2 * Cr.cn cs i = Cr.cn (x0 :: r0) i := by
        intro l3 xc H3 e3 hl3 hc3 cs' ecs
        refine ⟨_, lens l3 _ hl3, l3 ++ [(xa ^^^ xb) ^^^ xc], cs', _, _, _, _, rfl, ?_, ?_, ?_, upd_same, rfl, by simp, ?_, fun i => ?_⟩
        · intro b o hb
          rw [upd_ne (ne_of_none hb fC), upd_ne (ne_of_none hb fL), e3, upd_ne (ne_of_none hb fL)]
          exact sH2 b o hb
        · rw [upd_ne nPC, upd_ne nPL, e3, upd_ne nPL]
          exact hO2
        · rw [upd_ne nLC, upd_same]
        · rw [ecs]
          simp only [List.length_append, List.length_singleton] at hl2 ⊢
          omega
        · have ad := Cr.adder xa xb xc i
          have h2 := hc2 i
          have h3 := hc3 i
          rw [Cr.cn_append, Cr.cn_append, Cr.cn_one, Cr.cn_one] at h2
          rw [ecs, Cr.cn_append, Cr.cn_append, Cr.cn_one, Cr.cn_one]
          omega
      have tail : ∀ (l3 : List Nat) (xc : Nat), l3.length ≤ l2.length → (∀ i, Cr.cn l2 i = Cr.cn l3 i + (xc.testBit i).toNat) → (cs.length < sizeLine) ∧ (vN l3).length < sizeLine := fun l3 xc h _ => by
        rw [vN_len]
        simp only [List.length_append, List.length_singleton] at hl2
        have : (x0 :: r0).length ≤ l.length := by omega
        exact ⟨lt_line (by omega), lt_line (by omega)⟩
      have fin : ∀ (l3 : List Nat) (xc : Nat), (vN l3 ++ [V.int (Builtin.bitXor (Builtin.bitXor xa xb) xc)]) = vN (l3 ++ [(xa ^^^ xb) ^^^ xc]) ∧
          (vN cs ++ [V.int (Builtin.bitOr (Builtin.bitAnd xa xb) (Builtin.bitAnd (Builtin.bitXor xa xb) xc))]) = vN (cs ++ [(xa &&& xb) ||| ((xa ^^^ xb) &&& xc)]) := fun l3 xc => by
        rw [vN_app, vN_app, Cr.xor_nat, Cr.xor_nat, Cr.and_nat, Cr.and_nat, Cr.or_nat]
        exact ⟨rfl, rfl⟩
      rcases nil_or_snoc l2 with rfl | ⟨l3, xc, rfl⟩
      · refine iteF ?_
        obtain ⟨z1, z2⟩ := tail [] 0 (Nat.le_refl _) (fun i => by simp)
        refine ⟨_, rfl, _, rfl, _, _, rfl, rfl, ?_⟩
        refine ⟨_, rfl, Or.inl ⟨rfl, _, SqL.of upd_same⟩, _, rfl, _, rfl, _, _, rfl, rfl, L, _, _, rfl, rfl, upd_same, z2, ?_⟩
        have hpc : (upd (upd H2 L (.lst (vN []))) L (.lst (vN [] ++ [V.int (Builtin.bitXor (Builtin.bitXor xa xb) ((0 : Nat) : Int))]))) pC = some (.lst (vN cs)) := by
          rw [upd_ne nLC.symm, upd_ne nLC.symm]
          exact hC2
        refine ⟨_, rfl, Or.inl ⟨rfl, _, SqL.of hpc⟩, _, rfl, _, rfl, _, _, rfl, rfl, _, rfl, _, rfl, _, _, rfl, rfl, _, _, rfl, rfl, pC, _, _, rfl, rfl, hpc, by rw [vN_len]; exact z1, ?_⟩
        have := rest [] 0 _ rfl (Nat.le_refl _) (fun i => by simp) _ rfl
        rw [← (fin [] 0).1, ← (fin [] 0).2, ← Cr.xor_nat] at this
        exact this
      · have e4 : vN (l3 ++ [xc]) = vN l3 ++ [V.int xc] := vN_app _ _
        have ne : (!(vN (l3 ++ [xc])).isEmpty) = true := by rw [e4]; simp
        dsimp only
        rw [ne]
        refine iteT ?_
        refine ⟨_, rfl, Or.inl ⟨rfl, _, SqL.of upd_same⟩, L, _, V.int xc, rfl, rfl, upd_same, (by rw [e4]; exact last_of), ?_⟩
        rw [e4, List.dropLast_concat, upd_upd]
        obtain ⟨z1, z2⟩ := tail l3 xc (by simp) (fun i => by rw [Cr.cn_append, Cr.cn_one])
        refine ⟨_, rfl, _, rfl, _, _, rfl, rfl, ?_⟩
        refine ⟨_, rfl, Or.inl ⟨rfl, _, SqL.of upd_same⟩, _, rfl, _, rfl, _, _, rfl, rfl, L, _, _, rfl, rfl, upd_same, z2, ?_⟩
        have hpc : (upd (upd H2 L (.lst (vN l3))) L (.lst (vN l3 ++ [V.int (Builtin.bitXor (Builtin.bitXor xa xb) xc)]))) pC = some (.lst (vN cs)) := by
          rw [upd_ne nLC.symm, upd_ne nLC.symm]
          exact hC2
        refine ⟨_, rfl, Or.inl ⟨rfl, _, SqL.of hpc⟩, _, rfl, _, rfl, _, _, rfl, rfl, _, rfl, _, rfl, _, _, rfl, rfl, _, _, rfl, rfl, pC, _, _, rfl, rfl, hpc, by rw [vN_len]; exact z1, ?_⟩
        have := rest l3 xc _ rfl (by simp) (fun i => by rw [Cr.cn_append, Cr.cn_one]) _ rfl
        rw [← (fin l3 xc).1, ← (fin l3 xc).2, ← Cr.xor_nat] at this
        exact this
    · -- planes.append(level[0]); level = carries
      have c' : ¬ (1 : Int) < (lv'.length : Int) := of_decide_eq_false (Bool.eq_false_iff.mpr c)
      obtain ⟨x, rfl⟩ : ∃ x, lv' = [x] := List.length_eq_one_iff.mp (by omega)
      refine ⟨_, rfl, Or.inl ⟨rfl, _, SqL.of hO2⟩, _, rfl, L, _, _, _, rfl, rfl, SqL.of hL2, rfl, pP, _, _, rfl, rfl, hO2, ?_, ?_⟩
      · rw [vN_len]
        exact lt_line (by omega)
      refine ⟨_, rfl, cs.length, ?_, pC, cs, out ++ [x], _, _, _, _, _, rfl, ?_, fC, ?_, ?_, nPC, rfl, ?_, fun i => ?_⟩
      · simp only [List.length_singleton, List.length_cons] at hl2 ⊢
        omega
      · intro b o hb
        rw [upd_ne (ne_of_none hb hP)]
        exact sH2 b o hb
      · rw [upd_same, vN_app]
        rfl
      · rw [upd_ne nPC.symm]
        exact hC2
      · simp only [List.length_singleton, List.length_cons, List.length_append] at hl2 hlen ⊢
        omega
      · have h1 := hcn i
        have h2 := hc2 i
        rw [Cr.cn_one] at h2
        rw [Cr.pl_append, List.length_append, List.length_singleton, Nat.pow_succ, ← h1, ← h2, Nat.mul_add, Nat.mul_assoc]
        simp only [Cr.pl, Nat.mul_zero, Nat.add_zero]
        omega
end
theorem and_pow (p x : Nat) : (Builtin.bitAnd (p : Int) ((2 ^ x : Nat) : Int) != 0) = p.testBit x := by
  rw [Cr.and_nat]
  cases h : p.testBit x with
  | true =>
    rw [bne_iff_ne]
    intro e
    have e : p &&& 2 ^ x = 0 := by omega
    have := Nat.testBit_and p (2 ^ x) x
    rw [e, h, Nat.testBit_two_pow_self, Nat.zero_testBit] at this
    cases this
  | false =>
    have e : p &&& 2 ^ x = 0 := by
      apply Nat.eq_of_testBit_eq
      intro j
      rw [Nat.testBit_and, Nat.testBit_two_pow, Nat.zero_testBit]
      by_cases hj : x = j
      · subst hj
        rw [h]
        rfl
      · rw [decide_eq_false hj, Bool.and_false]
    rw [e]
    rfl
def spAtLeast (K : PySem.W.Frag) : Sp := fun vs H Q _ => ∃ (a : Addr) (l : List Nat) (c least : Nat), vs = [.ref a, .int c, .int least] ∧ SqL K H a (vN l) ∧ l.length ≤ 1000000 ∧
  ∀ (x : Nat) H', Same H H' → (∀ i, x.testBit i = (c.testBit i && decide (least ≤ Cr.cn l i))) → Q (.int x) H'
def spNotHit (K : PySem.W.Frag) : Sp := fun vs H Q _ => ∃ (a : Addr) (l : List Nat) (x : Nat), vs = [.ref a, .int (2 ^ x : Nat)] ∧ SqL K H a (vN l) ∧ l.length ≤ 1000000 ∧
  ∀ r H', Same H H' → H r = none → H' r = some (.lst (vN (Hi.without l x))) → Q (.ref r) H'
section
variable {P : Program} {w : World} {K : PySem.W.Frag} {mg : Str → Option Value} {base : Heap} {f : Addr} {fd : FuncData}
theorem ok_at_least (C_counted_at_least : Callee P w K mg base 1 "counted_at_least" (["planes", "crowd", "least"] : List Str) (spCounted K)) (C_bit_planes : Callee P w K mg base 1 "bit_planes" (["pools"] : List Str) (spPlanes K)) (F : Fun K "in_at_least" "in_at_least" s_in_at_least f fd) :
    FnOk P w K mg base CX0 2 f fd (["pools", "crowd", "least"] : List Str) (spAtLeast K) := by
  refine F.ok sc_in_at_least (fun vs H Q E h => ?_) (fun cdv A outer s H vs Q E hr h => ?_)
  · obtain ⟨a, l, c, least, rfl, _⟩ := h
    rfl
  obtain ⟨a, l, c, least, rfl, hS, hz, q⟩ := h
  refine ⟨_, (pss_one (ps_ret (pe_callC C_counted_at_least (hr.mono (by omega)) (by rfl) (pa_cons (pe_callC C_bit_planes (hr.mono (by omega)) (by rfl) (pa_cons (pv 0) pa_nil)) (pa_cons (pv 1) (pa_cons (pv 2) pa_nil)))))), ?_⟩
  refine ⟨_, rfl, a, l, rfl, hS, hz, fun r H1 ps s1 f1 h1 hb lb => ⟨_, rfl, _, rfl, r, ps, c, least, rfl, SqL.of h1, by omega, fun x hx => q x H1 s1 fun i => ?_⟩⟩
  rw [hx, hb]
theorem ok_not_hit (F : Fun K "not_hit" "not_hit" s_not_hit f fd) : FnOk P w K mg base CX0 1 f fd (["pools", "one"] : List Str) (spNotHit K) := by
  refine F.ok sc_not_hit (fun vs H Q E h => ?_) (fun cdv A outer s H vs Q E hr h => ?_)
  · obtain ⟨a, l, x, rfl, _⟩ := h
    rfl
  obtain ⟨a, l, x, rfl, hS, hz, q⟩ := h
  refine ⟨_, (pss_one (ps_ret (pe_lc rfl sc_not_hit.nd (pi_list (pv 0)) (blkOk_by (N := (["pools", "one", "pool"] : List Str)) (sc := defScope s_not_hit) (own := [("pool", 2)]) (by decide +kernel)) (fun _ _ _ _ _ => (pg_nw (i := 2) sc_not_hit.nd)) (fun _ _ _ _ _ => (pts_one (pt_not (pt_truthK (K := K) (by rfl) (pe_op op_and (pv 2) (pv 1)) (fun _ => rfl))))) (fun _ _ _ _ _ => (pv 2))))), ?_⟩
  refine ⟨_, rfl, a, rfl, ⟨_, hS⟩, fun D hD => ?_⟩
  refine lc_pure (kN fun p => !p.testBit x) id hS hD (by rw [vN_len]; exact Nat.le_of_lt (lt_line (by omega))) (fun x => by rfl) ?_ ?_ ?_
  · intro v hv H2 Q2 _ h2
    obtain ⟨p, _, rfl⟩ := vN_mem hv
    refine ⟨_, rfl, _, rfl, _, _, rfl, rfl, _, rfl, ?_⟩
    rw [and_pow]
    exact h2
  · intro v hv _ H2 Q2 _ h2
    exact ⟨_, rfl, h2⟩
  · rintro H2 rfl
    refine q D _ (same_new hD _) hD ?_
    rw [upd_same, vN_filter, List.map_id]
    rfl
end
def spTell : Sp := fun vs H Q _ => ∃ (c N : Nat), vs = [.int c] ∧ c < 2 ^ N ∧ N ≤ 1000000 ∧ ∀ r H', Same H H' → H r = none → H' r = some (.lst (vN ((Cr.ms N c).length :: Cr.ms N c))) → Q (.ref r) H'
section
variable {P : Program} {w : World} {K : PySem.W.Frag} {mg : Str → Option Value} {base : Heap} {f : Addr} {fd : FuncData}
theorem ok_tell (m_len : mg "len" = none) (C_people_of : Callee P w K mg base 1 "people_of" (["crowd"] : List Str) spPeopleOf) (F : Fun K "tell" "tell" s_tell f fd) : FnOk P w K mg base CX0 2 f fd (["crowd"] : List Str) spTell := by
  refine F.ok sc_tell (fun vs H Q E h => ?_) (fun cdv A outer s H vs Q E hr h => ?_)
  · obtain ⟨c, N, rfl, _⟩ := h
    rfl
  obtain ⟨c, N, rfl, hc, hN, q⟩ := h
  refine ⟨_, (pss_cons (ps_sw (i := 1) sc_tell.nd (pe_callC C_people_of (hr.mono (by omega)) (by rfl) (pa_cons (pv 0) pa_nil)))
   (pss_one (ps_ret (pe_op op_cat (pe_lst (pa_cons (pe_callB call_len_seq (by rfl) m_len PySem.boot_len (pa_cons (pv 1) pa_nil)) pa_nil)) (pv 1))))), ?_⟩
  refine ⟨_, rfl, c, N, rfl, hc, hN, fun r H1 s1 f1 h1 => ?_⟩
  refine ⟨_, rfl, r, _, rfl, .inl (SqL.of h1), one_le _, fun p hp => ?_⟩
  have s2 := same_new hp (.lst [V.int ((vN (Cr.ms N c)).length : Nat)])
  refine ⟨_, rfl, p, r, _, _, rfl, rfl, upd_same, s2 _ _ h1, ?_, fun p2 hp2 => ?_⟩
  · rw [vN_len]
    have := Cr.ms_le N c
    exact Nat.le_of_lt (lt_line (by show 1 + (Cr.ms N c).length ≤ _; omega))
  · refine q p2 _ (s1.trans (s2.trans (same_new hp2 _))) (s1.free (s2.free hp2)) ?_
    rw [upd_same, vN_len]
    rfl
end
theorem bin_step : ∀ n k : Nat, (k + 1) * Sh12.binomial n (k + 1) + k * Sh12.binomial n k = n * Sh12.binomial n k
  | 0, 0 => rfl
  | 0, k + 1 => by simp [Sh12.binomial]
  | n + 1, 0 => by
    have h := bin_step n 0
    have e0 : Sh12.binomial n 0 = 1 := by cases n <;> rfl
    have e1 : Sh12.binomial (n + 1) 0 = 1 := rfl
    have e2 : Sh12.binomial (n + 1) (0 + 1) = Sh12.binomial n 0 + Sh12.binomial n (0 + 1) := rfl
    rw [e0] at h e2
    rw [e1, e2]
    omega
  | n + 1, j + 1 => by
    have h0 := bin_step n j
    have h1 := bin_step n (j + 1)
    have e1 : Sh12.binomial (n + 1) (j + 1) = Sh12.binomial n j + Sh12.binomial n (j + 1) := rfl
    have e2 : Sh12.binomial (n + 1) (j + 1 + 1) = Sh12.binomial n (j + 1) + Sh12.binomial n (j + 1 + 1) := rfl
    rw [e1, e2]
    generalize Sh12.binomial n j = b0 at *
    generalize Sh12.binomial n (j + 1) = b1 at *
    generalize Sh12.binomial n (j + 1 + 1) = b2 at *
    simp only [Nat.add_mul, Nat.mul_add, Nat.one_mul] at *
    omega
theorem bin_zero : ∀ {n k : Nat}, n < k → Sh12.binomial n k = 0
  | 0, k + 1, _ => rfl
  | n + 1, k + 1, h => by
    show Sh12.binomial n k + Sh12.binomial n (k + 1) = 0
    rw [bin_zero (by omega), bin_zero (by omega)]
theorem bin_next (n k : Nat) : ((Sh12.binomial n k : Nat) : Int) * ((n : Int) - (k : Int)) / ((k : Int) + 1) = ((Sh12.binomial n (k + 1) : Nat) : Int) := by
  rcases Nat.lt_or_ge n k with h | h
  · rw [bin_zero h, bin_zero (by omega : n < k + 1)]
    simp
  · have e := bin_step n k
    obtain ⟨m, rfl⟩ : ∃ m, n = k + m := ⟨n - k, by omega⟩
    have e1 : ((k + m : Nat) : Int) - (k : Int) = (m : Int) := by omega
    have e2 : ((k : Int) + 1) = ((k + 1 : Nat) : Int) := by omega
    rw [e1, e2, ← Int.natCast_mul, ← Int.natCast_ediv]
    congr 1
    have e3 : Sh12.binomial (k + m) k * m = (k + 1) * Sh12.binomial (k + m) (k + 1) := by
      have c := Nat.mul_comm m (Sh12.binomial (k + m) k)
      rw [Nat.add_mul k m] at e
      omega
    rw [e3, Nat.mul_div_cancel_left _ (Nat.succ_pos k)]
def upto (n : Nat) : Nat → Nat
  | 0 => 0
  | k + 1 => upto n k + Sh12.binomial n k
theorem upto_step (n : Nat) : ∀ k, upto (n + 1) (k + 1) = upto n k + upto n (k + 1)
  | 0 => by
    have e0 : Sh12.binomial n 0 = 1 := by cases n <;> rfl
    show 0 + 1 = 0 + (0 + Sh12.binomial n 0)
    rw [e0]
  | k + 1 => by
    have ih := upto_step n k
    show upto (n + 1) (k + 1) + (Sh12.binomial n k + Sh12.binomial n (k + 1)) = (upto n k + Sh12.binomial n k) + (upto n (k + 1) + Sh12.binomial n (k + 1))
    omega
theorem upto_zero : ∀ m, upto 0 (m + 1) = 1
  | 0 => rfl
  | m + 1 => by
    show upto 0 (m + 1) + Sh12.binomial 0 (m + 1) = 1
    rw [upto_zero m]
    rfl
theorem hs_empty : ∀ (L : List Nat) (m : Nat), Cv.hs [] L m = upto L.length (m + 1)
  | [], m => by rw [Cv.hs_nil, List.length_nil, upto_zero]; rfl
  | x :: L, 0 => by
    rw [Cv.hs_zero]
    rfl
  | x :: L, m + 1 => by
    rw [Cv.hs_cons, List.length_cons, upto_step]
    have : Hi.without [] x = [] := rfl
    rw [this, hs_empty L m, hs_empty L (m + 1)]
def spSubsets : Sp := fun vs H Q _ => ∃ (n d : Nat), vs = [.int n, .int d] ∧ n ≤ 4096 ∧ d ≤ 10 ∧ Q (.int (upto n (d + 1) : Nat)) H
def spAllOthers (K : PySem.W.Frag) : Sp := fun vs H Q _ => ∃ (a : Addr) (l : List Nat) (o c : Nat), vs = [.ref a, .int o, .int c] ∧ SqL K H a (vN l) ∧
  ∀ x : Nat, (∀ i, x.testBit i = (c.testBit i && l.all fun p => p &&& o != 0 || p.testBit i)) → Q (.int x) H
def spTooMany (K : PySem.W.Frag) : Sp := fun vs H Q _ => ∃ (a : Addr) (l : List Nat) (c most : Nat), vs = [.ref a, .int c, .int most] ∧ SqL K H a (vN l) ∧
  ∀ b : Bool, (b = true → ¬ Cv.Cov l c most) → (b = false → ∀ p ∈ l, p &&& c ≠ 0) → Q (.bl b) H
theorem nat_ne0 (a b : Nat) : (Builtin.bitAnd (a : Int) (b : Int) != 0) = (a &&& b != 0) := by
  rw [Cr.and_nat]
  rcases Nat.eq_zero_or_pos (a &&& b) with e | e
  · rw [e]; rfl
  · rw [bne0 (by omega)]
    exact (bne_iff_ne.mpr (by omega)).symm
theorem not_ne0 {a b : Nat} : (!(Builtin.bitAnd (a : Int) (b : Int) != 0)) = true ↔ a &&& b = 0 := by
  rw [nat_ne0]
  simp
section
variable {P : Program} {w : World} {K : PySem.W.Frag} {mg : Str → Option Value} {base : Heap} {f : Addr} {fd : FuncData}
theorem ok_subsets (m_range : mg "range" = none) (F : Fun K "subsets" "subsets" s_subsets f fd) : FnOk P w K mg base CX0 1 f fd (["size", "most"] : List Str) spSubsets := by
  refine F.ok sc_subsets (fun vs H Q E h => ?_) (fun cdv A outer s H vs Q E hr h => ?_)
  · obtain ⟨n, d, rfl, _⟩ := h
    rfl
  obtain ⟨n, d, rfl, hn, hdn, q⟩ := h
  refine ⟨_, (pss_cons (ps_sw (i := 2) sc_subsets.nd pe_int)
   (pss_cons (ps_sw (i := 3) sc_subsets.nd pe_int)
   (pss_cons (ps_for PassesOwn.never rfl (pi_range1 (by rfl) m_range (pa_cons (pe_op op_add (pv 1) pe_int) pa_nil)) (pg_nw (i := 4) sc_subsets.nd) (pss_cons (ps_aw (i := 2) sc_subsets.nd (pv 3) (ip_of iop_add))
   (pss_one (ps_sw (i := 3) sc_subsets.nd (pe_op op_fdiv (pe_op op_mul (pv 3) (pe_op op_sub (pv 0) (pv 4))) (pe_op op_add (pv 4) pe_int))))))
   (pss_one (ps_ret (pv 2)))))), ?_⟩
  refine ⟨_, rfl, _, _, rfl, rfl, _, rfl, by omega, by omega, for_range (fun i σ H' => ∃ v, σ = [some (.int n), some (.int d), some (.int (upto n i : Nat)), some (.int (Sh12.binomial n i : Nat)), v] ∧ H' = H) ⟨none, ?_, rfl⟩ ?_ ?_⟩
  · have e0 : Sh12.binomial n 0 = 1 := by cases n <;> rfl
    rw [e0]
    rfl
  · rintro i σ H' hi ⟨v, rfl, rfl⟩
    have hi' : i ≤ d := by omega
    refine ⟨_, rfl, _, rfl, _, _, rfl, rfl, _, rfl, _, rfl, _, rfl, _, _, rfl, rfl, _, _, rfl, rfl, Or.inr ⟨by omega, by omega⟩, _, rfl, _, _, rfl, rfl, _, _, rfl, rfl, ⟨by omega, by omega⟩, some (.int (0 + (i : Int))), ?_, rfl⟩
    have e : ((Sh12.binomial n i : Nat) : Int) * ((n : Int) - (0 + (i : Int))) / (0 + (i : Int) + 1) = ((Sh12.binomial n (i + 1) : Nat) : Int) := by
      rw [Int.zero_add]
      exact bin_next n i
    show [some (V.int n), some (V.int d), some (V.int (((upto n i : Nat) : Int) + ((Sh12.binomial n i : Nat) : Int))), some (V.int (((Sh12.binomial n i : Nat) : Int) * ((n : Int) - (0 + (i : Int))) / (0 + (i : Int) + 1))), _] = _
    rw [e]
    rfl
  · rintro σ H' ⟨v, rfl, rfl⟩
    refine ⟨_, rfl, ?_⟩
    have e : ((d : Int) + 1).toNat = d + 1 := by omega
    rw [e]
    exact q
theorem ok_all_others (F : Fun K "in_all_others" "in_all_others" s_in_all_others f fd) : FnOk P w K mg base CX0 1 f fd (["pools", "one", "crowd"] : List Str) (spAllOthers K) := by
  refine F.ok sc_in_all_others (fun vs H Q E h => ?_) (fun cdv A outer s H vs Q E hr h => ?_)
  · obtain ⟨a, l, o, c, rfl, _⟩ := h
    rfl
  obtain ⟨a, l, o, c, rfl, hS, q⟩ := h
  refine ⟨_, (pss_cons (ps_for PassesOwn.never rfl (pi_list (pv 0)) (pg_nw (i := 3) sc_in_all_others.nd) (pss_one (ps_if (pt_not (pt_truth (pe_op op_and (pv 3) (pv 1)) (fun _ => rfl))) (pss_cons (ps_aw (i := 2) sc_in_all_others.nd (pv 3) (ip_of iop_and))
   (pss_one (ps_if (pt_not (pt_truth (pv 2) (fun _ => rfl))) (pss_one ps_break) pss_nil))) pss_nil)))
   (pss_one (ps_ret (pv 2)))), ?_⟩
  refine ⟨_, rfl, a, rfl, ⟨_, hS⟩, for_list (K := K) (a := a) (xs := vN l) (fun i σ H' => ∃ (x : Nat) (v : Option V), σ = [some (.ref a), some (.int o), some (.int x), v] ∧ H' = H ∧ ∀ j, x.testBit j = (c.testBit j && (l.take i).all fun p => p &&& o != 0 || p.testBit j)) ⟨c, none, rfl, rfl, fun j => by simp⟩ (fun i σ H' _ ⟨_, _, _, e, _⟩ => e ▸ hS) ?_ ?_⟩
  · rintro i y σ H' hi ⟨x, v, rfl, rfl, hx⟩
    obtain ⟨p, hp, rfl⟩ := vN_at hi
    have nxt : ∀ j, (c.testBit j && (l.take (i + 1)).all fun p => p &&& o != 0 || p.testBit j) = (x.testBit j && (p &&& o != 0 || p.testBit j)) := fun j => by
      rw [take_snoc hp, List.all_append, List.all_cons, List.all_nil, Bool.and_true, ← Bool.and_assoc, hx j]
    refine ⟨_, rfl, _, rfl, _, _, rfl, rfl, _, rfl, ?_⟩
    refine ite2 (fun c0 => ?_) (fun c0 => ?_)
    · have e0 := not_ne0.mp c0
      refine ⟨_, rfl, _, rfl, _, _, rfl, rfl, _, rfl, _, rfl, ?_⟩
      dsimp only
      rw [Cr.and_nat]
      have nx : ∀ j, (x &&& p).testBit j = (c.testBit j && (l.take (i + 1)).all fun p => p &&& o != 0 || p.testBit j) := fun j => by
        rw [nxt, e0, Nat.testBit_and]
        rfl
      by_cases hz : x &&& p = 0
      · rw [hz]
        refine iteT ?_
        refine ⟨_, rfl, q 0 fun j => ?_⟩
        have := nx j
        rw [hz, Nat.zero_testBit] at this
        rw [Nat.zero_testBit]
        have e1 : l = l.take (i + 1) ++ l.drop (i + 1) := (List.take_append_drop _ _).symm
        rw [e1, List.all_append, ← Bool.and_assoc, ← this, Bool.false_and]
      · rw [bne0 hz]
        refine iteF ⟨x &&& p, some (.int p), rfl, rfl, nx⟩
    · have e0 : (p &&& o != 0) = true := by
        rw [← nat_ne0]
        simpa using c0
      refine ⟨x, some (.int p), rfl, rfl, fun j => ?_⟩
      rw [nxt, e0, Bool.true_or, Bool.and_true]
  · rintro σ H' ⟨x, v, rfl, rfl, hx⟩
    refine ⟨_, rfl, q x fun j => ?_⟩
    rw [hx j, vN_len, List.take_length]
theorem ok_too_many (F : Fun K "too_many_apart" "too_many_apart" s_too_many_apart f fd) : FnOk P w K mg base CX0 1 f fd (["pools", "crowd", "most"] : List Str) (spTooMany K) := by
  refine F.ok sc_too_many_apart (fun vs H Q E h => ?_) (fun cdv A outer s H vs Q E hr h => ?_)
  · obtain ⟨a, l, c, most, rfl, _⟩ := h
    rfl
  obtain ⟨a, l, c, most, rfl, hS, q⟩ := h
  refine ⟨_, (pss_cons (ps_sw (i := 3) sc_too_many_apart.nd pe_int)
   (pss_cons (ps_sw (i := 4) sc_too_many_apart.nd pe_int)
   (pss_cons (ps_for PassesOwn.never rfl (pi_list (pv 0)) (pg_nw (i := 5) sc_too_many_apart.nd) (pss_cons (ps_sw (i := 6) sc_too_many_apart.nd (pe_op op_and (pv 5) (pv 1)))
   (pss_one (ps_if (pt_not (pt_truth (pe_op op_and (pv 6) (pv 3)) (fun _ => rfl))) (pss_cons (ps_aw (i := 4) sc_too_many_apart.nd pe_int (ip_of iop_add))
   (pss_cons (ps_if (pw_or (pt_cmpR op_gt (pv 4) (pv 2) (nomark _)) (pw_or1 (pt_not (pt_truth (pv 6) (fun _ => rfl))))).pt (pss_one (ps_ret pe_bl)) pss_nil)
   (pss_one (ps_aw (i := 3) sc_too_many_apart.nd (pv 6) (ip_of iop_or))))) pss_nil))))
   (pss_one (ps_ret pe_bl))))), ?_⟩
  refine ⟨_, rfl, a, rfl, ⟨_, hS⟩, for_list (K := K) (a := a) (xs := vN l) (fun i σ H' => ∃ (tk ap : Nat) (v w : Option V), σ = [some (.ref a), some (.int c), some (.int most), some (.int tk), some (.int ap), v, w] ∧ H' = H ∧ Cv.Apart c (l.take i) tk ap ∧ ap ≤ most ∧ ∀ p ∈ l.take i, p &&& c ≠ 0)
    ⟨0, 0, none, none, rfl, rfl, Cv.apart_start c, Nat.zero_le _, fun p hp => by simp at hp⟩ (fun i σ H' _ ⟨_, _, _, _, _, e, _⟩ => e ▸ hS) ?_ ?_⟩
  · rintro i y σ H' hi ⟨tk, ap, v, w, rfl, rfl, hap, hle, hne⟩
    obtain ⟨p, hp, rfl⟩ := vN_at hi
    have hmem := List.mem_of_getElem? hp
    have ne : p &&& c ≠ 0 → ∀ p' ∈ l.take (i + 1), p' &&& c ≠ 0 := fun h0 p' hp' => by
      rw [take_snoc hp] at hp'
      rcases List.mem_append.mp hp' with z | z
      · exact hne p' z
      · rw [List.mem_singleton.mp z]; exact h0
    refine ⟨_, rfl, _, rfl, _, _, rfl, rfl, _, rfl, _, rfl, _, _, rfl, rfl, _, rfl, ?_⟩
    dsimp only
    rw [Cr.and_nat, nat_ne0]
    refine ite2 (fun c0 => ?_) (fun c0 => ?_)
    · have e0 : p &&& c &&& tk = 0 := by simpa using c0
      have h1 := Cv.apart_take hap e0
      rw [← take_snoc hp] at h1
      refine ⟨_, rfl, _, _, rfl, rfl, _, rfl, _, rfl, _, _, rfl, rfl, _, rfl, ?_⟩
      refine ite2 (fun c1 => ?_) (fun c1 => ?_)
      · have c1 : (most : Int) < (ap : Int) + 1 := of_decide_eq_true c1
        exact iteT (q true (fun _ => Cv.apart_none h1 (by omega) fun p hp => List.mem_of_mem_take hp) fun z => by cases z)
      · have c1 : ¬ (most : Int) < (ap : Int) + 1 := of_decide_eq_false (Bool.eq_false_iff.mpr c1)
        refine ⟨_, rfl, _, rfl, ?_⟩
        by_cases hz : p &&& c = 0
        · rw [hz]
          exact iteT (q true (fun _ => Cv.empty_none hmem hz) fun z => by cases z)
        · rw [bne0 hz]
          refine iteF ⟨_, rfl, _, rfl, _, _, rfl, rfl, tk ||| p &&& c, ap + 1, some (.int p), some (.int (p &&& c : Nat)), ?_, rfl, h1, by omega, ne hz⟩
          rw [← Cr.or_nat]
          rfl
    · have hz : p &&& c ≠ 0 := fun z => c0 (by rw [z]; simp)
      refine ⟨tk, ap, some (.int p), some (.int (p &&& c : Nat)), rfl, rfl, ?_, hle, ne hz⟩
      rw [take_snoc hp]
      exact Cv.apart_skip hap
  · rintro σ H' ⟨tk, ap, v, w, rfl, rfl, hap, hle, hne⟩
    refine q false (fun z => by cases z) fun _ p hp => ?_
    rw [vN_len, List.take_length] at hne
    exact hne p hp
end
open PySem.Builtin.Int (intBits)
abbrev s_Covers___init__ : Stmt := inClass (top 11) 0
theorem sc_Covers___init__ : FnScope (["self", "crowd", "pools", "full"] : List Str) (["self", "crowd", "pools"] : List Str) (defScope s_Covers___init__) := fsc
abbrev s_Covers_size_of : Stmt := inClass (top 11) 1
theorem sc_Covers_size_of : FnScope (["self", "crowd", "sums"] : List Str) (["self", "crowd"] : List Str) (defScope s_Covers_size_of) := fsc
abbrev s_Covers_how_many : Stmt := inClass (top 11) 2
theorem sc_Covers_how_many : FnScope (["self", "most"] : List Str) (["self", "most"] : List Str) (defScope s_Covers_how_many) := fsc
abbrev s_Covers_count_in : Stmt := inClass (top 11) 3
theorem sc_Covers_count_in : FnScope (["self", "pools", "crowd", "most", "total", "needed", "one"] : List Str) (["self", "pools", "crowd", "most"] : List Str) (defScope s_Covers_count_in) := fsc
abbrev s_Covers_one_of_these : Stmt := inClass (top 11) 4
theorem sc_Covers_one_of_these : FnScope (["self", "pools", "crowd", "most", "first", "busy"] : List Str) (["self", "pools", "crowd", "most"] : List Str) (defScope s_Covers_one_of_these) := fsc
abbrev s_Covers_missed_is_shorter : Stmt := inClass (top 11) 5
theorem sc_Covers_missed_is_shorter : FnScope (["self", "pools", "crowd", "most", "size", "left", "deeper", "k"] : List Str) (["self", "pools", "crowd", "most"] : List Str) (defScope s_Covers_missed_is_shorter) := fsc
abbrev s_Covers_count_by_missed : Stmt := inClass (top 11) 6
theorem sc_Covers_count_by_missed : FnScope (["self", "pools", "crowd", "most", "free", "signs", "pool", "missing", "signs_by_size", "size", "sign", "a", "b"] : List Str) (["self", "pools", "crowd", "most"] : List Str) (defScope s_Covers_count_by_missed) := fsc
abbrev s_Covers_sizes_by_hits : Stmt := inClass (top 11) 7
theorem sc_Covers_sizes_by_hits : FnScope (["self", "pools", "crowd", "parts", "pool", "hitting", "part", "hit"] : List Str) (["self", "pools", "crowd"] : List Str) (defScope s_Covers_sizes_by_hits) := fsc
abbrev s_Covers_some : Stmt := inClass (top 11) 8
theorem sc_Covers_some : FnScope (["self", "pools", "crowd", "most", "needed", "one", "last", "others"] : List Str) (["self", "pools", "crowd", "most"] : List Str) (defScope s_Covers_some) := fsc
abbrev s_Covers_smallest : Stmt := inClass (top 11) 9
theorem sc_Covers_smallest : FnScope (["self", "fewest", "most", "size", "crowd"] : List Str) (["self", "fewest", "most"] : List Str) (defScope s_Covers_smallest) := fsc
abbrev s_Covers_least : Stmt := inClass (top 11) 10
theorem sc_Covers_least : FnScope (["self", "size", "others", "pools", "crowd", "chosen", "one", "rest"] : List Str) (["self", "size"] : List Str) (defScope s_Covers_least) := fsc
abbrev s_Covers_in_some : Stmt := inClass (top 11) 11
theorem sc_Covers_in_some : FnScope (["self", "smallest", "most", "found", "left", "one", "rest", "others"] : List Str) (["self", "smallest", "most"] : List Str) (defScope s_Covers_in_some) := fsc
abbrev s_Covers_in_all : Stmt := inClass (top 11) 12
theorem sc_Covers_in_all : FnScope (["self", "smallest", "most", "common", "left", "one", "without"] : List Str) (["self", "smallest", "most"] : List Str) (defScope s_Covers_in_all) := fsc
structure TxtC (K : PySem.W.Frag) (C : Addr) : Prop where
  cl : Cls K C
  one : NoAttr K C "one_of_three"
  two : NoAttr K C "two_of_three"
  three : NoAttr K C "three_of_six"
  six : NoAttr K C "six_of_twelve"
  crowd : NoAttr K C "crowd"
  pools : NoAttr K C "pools"
structure CM (fs : List (Str × V)) : Prop where
  one : fs.lookup ("one_of_three" : Str) = some (.int (Pp.O 86 : Nat))
  two : fs.lookup ("two_of_three" : Str) = some (.int (Pp.T 86 : Nat))
  three : fs.lookup ("three_of_six" : Str) = some (.int (Pp.S 86 : Nat))
  six : fs.lookup ("six_of_twelve" : Str) = some (.int (Pp.W 86 : Nat))
  m1 : fs.lookup ("size_of" : Str) = none
  m2 : fs.lookup ("how_many" : Str) = none
  m3 : fs.lookup ("count_in" : Str) = none
  m4 : fs.lookup ("one_of_these" : Str) = none
  m5 : fs.lookup ("missed_is_shorter" : Str) = none
  m6 : fs.lookup ("count_by_missed" : Str) = none
  m7 : fs.lookup ("sizes_by_hits" : Str) = none
  m8 : fs.lookup ("some" : Str) = none
  m9 : fs.lookup ("smallest" : Str) = none
  m10 : fs.lookup ("least" : Str) = none
  m11 : fs.lookup ("in_some" : Str) = none
  m12 : fs.lookup ("in_all" : Str) = none
def CI (C : Addr) (H : Hp) (p : Addr) : Prop := ∃ (dx : Addr) (fs : List (Str × V)), H p = some (.ins C dx fs) ∧ CM fs
theorem CI.same {C : Addr} {H H' : Hp} {p : Addr} (h : CI C H p) (s : Same H H') : CI C H' p := by
  obtain ⟨dx, fs, h1, h2⟩ := h
  exact ⟨dx, fs, s _ _ h1, h2⟩
theorem M_le (c : Nat) : Ms.sz c ≤ 1024 := Cr.ms_le 1024 c
def spSize (C : Addr) : Sp := fun vs H Q _ => ∃ (p : Addr) (c : Nat), vs = [.ref p, .int c] ∧ CI C H p ∧ c < 2 ^ 1024 ∧ Q (.int (Ms.sz c : Nat)) H
def spOneOf (K : PySem.W.Frag) (C : Addr) : Sp := fun vs H Q _ => ∃ (p a : Addr) (l : List Nat) (c most : Nat), vs = [.ref p, .ref a, .int c, .int most] ∧ CI C H p ∧ SqL K H a (vN l) ∧ l ≠ [] ∧ l.length ≤ 100000 ∧ 0 < most ∧ most ≤ 4 ∧ c < 2 ^ 1024 ∧
  ∀ N H', Same H H' → Cv.Need l c most N → N < 2 ^ 1024 → Q (.int (N : Nat)) H'
def spShort (K : PySem.W.Frag) (C : Addr) : Sp := fun vs H Q _ => ∃ (p a : Addr) (l : List Nat) (c most : Nat), vs = [.ref p, .ref a, .int c, .int most] ∧ CI C H p ∧ SqL K H a (vN l) ∧ l ≠ [] ∧ (∀ p ∈ l, p &&& c ≠ 0) ∧ 2 ≤ most ∧ most ≤ 4 ∧ c < 2 ^ 1024 ∧
  ∀ b : Bool, (b = true → l.length ≤ 20) → Q (.bl b) H
def spSizesBy (K : PySem.W.Frag) (C : Addr) : Sp := fun vs H Q _ => ∃ (p a : Addr) (l : List Nat) (c : Nat), vs = [.ref p, .ref a, .int c] ∧ CI C H p ∧ SqL K H a (vN l) ∧ l.length ≤ 20 ∧ c < 2 ^ 1024 ∧
  ∀ r H', Same H H' → H r = none → H' r = some (.lst (vN ((Ms.parts l c).map Ms.sz))) → Q (.ref r) H'
section
variable {P : Program} {w : World} {K : PySem.W.Frag} {mg : Str → Option Value} {base : Heap} {f C : Addr} {fd : FuncData}
theorem ok_size (T : TxtC K C) (F : Fun K "size_of" "Covers.size_of" s_Covers_size_of f fd) : FnOk P w K mg base CX0 1 f fd (["self", "crowd"] : List Str) (spSize C) := by
  refine F.ok sc_Covers_size_of (fun vs H Q E h => ?_) (fun cdv A outer s H vs Q E hr h => ?_)
  · obtain ⟨p, c, rfl, _⟩ := h
    rfl
  obtain ⟨p, c, rfl, ⟨dx, fs, hp, cm⟩, hc, q⟩ := h
  refine ⟨_, (pss_cons (ps_sw (i := 2) sc_Covers_size_of.nd (pe_op op_sub (pe_op op_sub (pv 1) (pe_op op_and (pe_op op_shr (pv 1) pe_int) (pe_fld (pv 0) rfl))) (pe_op op_and (pe_op op_shr (pv 1) pe_int) (pe_fld (pv 0) rfl))))
   (pss_cons (ps_sw (i := 2) sc_Covers_size_of.nd (pe_op op_and (pe_op op_add (pv 2) (pe_op op_shr (pv 2) pe_int)) (pe_fld (pv 0) rfl)))
   (pss_cons (ps_sw (i := 2) sc_Covers_size_of.nd (pe_op op_and (pe_op op_add (pv 2) (pe_op op_shr (pv 2) pe_int)) (pe_fld (pv 0) rfl)))
   (pss_one (ps_ret (pe_op op_mod (pv 2) pe_int)))))), ?_⟩
  have e1 : (c : Int) / 2 ^ ((1 : Int)).toNat = ((c / 2 : Nat) : Int) := rfl
  have e2 : (c : Int) / 2 ^ ((2 : Int)).toNat = ((c / 4 : Nat) : Int) := rfl
  have e3 : ∀ x : Nat, (x : Int) / 2 ^ ((3 : Int)).toNat = ((x / 8 : Nat) : Int) := fun x => rfl
  have e6 : ∀ x : Nat, (x : Int) / 2 ^ ((6 : Int)).toNat = ((x / 64 : Nat) : Int) := fun x => rfl
  refine ⟨_, rfl, _, rfl, _, _, rfl, rfl, (by show (0 : Int) ≤ 1; decide), _, rfl, p, C, dx, fs, _, rfl, hp, T.cl, T.two, cm.two, _, _, rfl, rfl, _, _, rfl, rfl,
    _, rfl, _, _, rfl, rfl, (by show (0 : Int) ≤ 2; decide), _, rfl, p, C, dx, fs, _, rfl, hp, T.cl, T.one, cm.one, _, _, rfl, rfl, _, _, rfl, rfl, ?_⟩
  dsimp only
  rw [e1, e2, Cr.and_nat, Cr.and_nat, Pp.pop1 hc]
  refine ⟨_, rfl, _, rfl, _, _, rfl, rfl, (by show (0 : Int) ≤ 3; decide), _, _, rfl, rfl, _, rfl, p, C, dx, fs, _, rfl, hp, T.cl, T.three, cm.three, _, _, rfl, rfl, ?_⟩
  dsimp only
  rw [e3, ← Int.natCast_add, Cr.and_nat, Pp.stage2]
  refine ⟨_, rfl, _, rfl, _, _, rfl, rfl, (by show (0 : Int) ≤ 6; decide), _, _, rfl, rfl, _, rfl, p, C, dx, fs, _, rfl, hp, T.cl, T.six, cm.six, _, _, rfl, rfl, ?_⟩
  dsimp only
  rw [e6, ← Int.natCast_add, Cr.and_nat, Pp.stage3]
  refine ⟨_, rfl, _, _, rfl, rfl, (by show (0 : Int) < 4095; decide), ?_⟩
  have e7 : ((Pp.Hh 86 c : Nat) : Int) % 4095 = ((Ms.sz c : Nat) : Int) := by
    show ((Pp.Hh 86 c : Nat) : Int) % 4095 = (((Cv.M c).length : Nat) : Int)
    rw [← Pp.pop4 hc]
    rfl
  dsimp only
  rw [e7]
  exact q
theorem sz_pos {c : Nat} (hc : c < 2 ^ 1024) (h : c ≠ 0) : 0 < Ms.sz c := by
  rcases Nat.eq_zero_or_pos (Ms.sz c) with e | e
  · exact absurd ((Ex.M_zero hc).mp (List.eq_nil_of_length_eq_zero e)) h
  · exact e
theorem and_lt {p c : Nat} (hc : c < 2 ^ 1024) : p &&& c < 2 ^ 1024 := Nat.lt_of_le_of_lt Nat.and_le_right hc
theorem ok_one_of (T : TxtC K C) (m_len : mg "len" = none) (C_in_at_least : Callee P w K mg base 2 "in_at_least" (["pools", "crowd", "least"] : List Str) (spAtLeast K)) (M_Covers_size_of : MCallee P w K mg base 1 C "size_of" (["self", "crowd"] : List Str) (spSize C))
    (F : Fun K "one_of_these" "Covers.one_of_these" s_Covers_one_of_these f fd) : FnOk P w K mg base CX0 3 f fd (["self", "pools", "crowd", "most"] : List Str) (spOneOf K C) := by
  refine F.ok sc_Covers_one_of_these (fun vs H Q E h => ?_) (fun cdv A outer s H vs Q E hr h => ?_)
  · obtain ⟨p, a, l, c, most, rfl, _⟩ := h
    rfl
  obtain ⟨p, a, l, c, most, rfl, hI, hS, hne, hl, hm, hm4, hc, q⟩ := h
  obtain ⟨p0, l', rfl⟩ : ∃ p0 l', l = p0 :: l' := by
    cases l with
    | nil => exact absurd rfl hne
    | cons x y => exact ⟨x, y, rfl⟩
  obtain ⟨dx, fs, hp, cm⟩ := id hI
  refine ⟨_, (pss_cons (ps_sw (i := 4) sc_Covers_one_of_these.nd (pe_op op_and (pe_ix ix_list (pv 1) pe_int (fun _ _ => rfl)) (pv 2)))
   (pss_cons (ps_sw (i := 5) sc_Covers_one_of_these.nd (pe_callC C_in_at_least (hr.mono (by omega)) (by rfl) (pa_cons (pv 1) (pa_cons (pv 2) (pa_cons (pe_op op_fdiv (pe_op op_sub (pe_op op_add (pe_callB call_len_seq (by rfl) m_len PySem.boot_len (pa_cons (pv 1) pa_nil)) (pv 3)) pe_int) (pv 3)) pa_nil)))))
   (pss_one (ps_ret (pe_ifExp (pt_cmpR op_lt (pe_methC (pv 0) M_Covers_size_of (hr.mono (by omega)) (pa_cons (pv 5) pa_nil)) (pe_methC (pv 0) M_Covers_size_of (hr.mono (by omega)) (pa_cons (pv 4) pa_nil)) (nomark _)) (pv 5) (pv 4)))))), ?_⟩
  refine ⟨_, rfl, a, vN (p0 :: l'), 0, V.int (p0 : Int), rfl, rfl, hS, atI_nat (j := 0) rfl, _, rfl, _, _, rfl, rfl, ?_⟩
  dsimp only
  rw [Cr.and_nat]
  have ll : (p0 :: l').length = l'.length + 1 := rfl
  have e : (((vN (p0 :: l')).length : Int) + (most : Int) - 1) / (most : Int) = ((Hi.share (p0 :: l').length most : Nat) : Int) := by
    unfold Hi.share
    rw [vN_len]
    have : (((p0 :: l').length : Int) + (most : Int) - 1) = (((p0 :: l').length + most - 1 : Nat) : Int) := by omega
    rw [this, Int.natCast_ediv]
  refine ⟨_, rfl, _, rfl, _, rfl, a, _, rfl, .inl hS, _, rfl, _, _, rfl, rfl, _, _, rfl, rfl, _, rfl, _, _, rfl, rfl, ⟨by omega, by omega⟩, a, p0 :: l', c, Hi.share (p0 :: l').length most, (by rw [← e]; rfl), hS, by omega, fun bz H1 s1 hb => ?_⟩
  have nb := Cv.need_busy (P := p0 :: l') (c := c) (by omega) hm hb
  have bl : bz < 2 ^ 1024 := Cv.sub_lt hc nb.1
  have hp1 := s1 _ _ hp
  refine ⟨_, rfl, p, dx, fs, rfl, hp1, cm.m1, _, rfl, p, bz, rfl, hI.same s1, bl, _, rfl, p, dx, fs, rfl, hp1, cm.m1, _, rfl, p, p0 &&& c, rfl, hI.same s1, and_lt hc, _, _, rfl, rfl, _, rfl, ?_⟩
  refine ite2 (fun _ => ⟨_, rfl, q bz H1 s1 nb bl⟩) (fun _ => ⟨_, rfl, q (p0 &&& c) H1 s1 Cv.need_first (and_lt hc)⟩)
theorem ok_short (T : TxtC K C) {tm : Tok} (m_MOST_MISSED : mg "MOST_MISSED" = some (.int 20 tm)) (m_len : mg "len" = none) (m_range : mg "range" = none) (m_min : mg "min" = none) (M_Covers_size_of : MCallee P w K mg base 1 C "size_of" (["self", "crowd"] : List Str) (spSize C))
    (F : Fun K "missed_is_shorter" "Covers.missed_is_shorter" s_Covers_missed_is_shorter f fd) : FnOk P w K mg base CX0 2 f fd (["self", "pools", "crowd", "most"] : List Str) (spShort K C) := by
  refine F.ok sc_Covers_missed_is_shorter (fun vs H Q E h => ?_) (fun cdv A outer s H vs Q E hr h => ?_)
  · obtain ⟨p, a, l, c, most, rfl, _⟩ := h
    rfl
  obtain ⟨p, a, l, c, most, rfl, hI, hS, hne, hall, hm, hm4, hc, q⟩ := h
  obtain ⟨p0, l', rfl⟩ : ∃ p0 l', l = p0 :: l' := by
    cases l with
    | nil => exact absurd rfl hne
    | cons x y => exact ⟨x, y, rfl⟩
  obtain ⟨dx, fs, hp, cm⟩ := id hI
  refine ⟨_, (pss_cons (ps_if (pt_cmpR op_gt (pe_callB call_len_seq (by rfl) m_len PySem.boot_len (pa_cons (pv 1) pa_nil)) (pe_globI (by rfl) m_MOST_MISSED) (nomark _)) (pss_one (ps_ret pe_bl)) pss_nil)
   (pss_cons (ps_sw (i := 4) sc_Covers_missed_is_shorter.nd (pe_methC (pv 0) M_Covers_size_of (hr.mono (by omega)) (pa_cons (pe_op op_and (pe_ix ix_list (pv 1) pe_int (fun _ _ => rfl)) (pv 2)) pa_nil)))
   (pss_cons (ps_sw (i := 5) sc_Covers_missed_is_shorter.nd (pe_op op_sub (pe_callB call_len_seq (by rfl) m_len PySem.boot_len (pa_cons (pv 1) pa_nil)) (pe_op op_fdiv (pe_op op_mul (pe_callB call_len_seq (by rfl) m_len PySem.boot_len (pa_cons (pv 1) pa_nil)) (pv 4)) (pe_methC (pv 0) M_Covers_size_of (hr.mono (by omega)) (pa_cons (pv 2) pa_nil)))))
   (pss_cons (ps_sw (i := 6) sc_Covers_missed_is_shorter.nd pe_int)
   (pss_cons (ps_for PassesOwn.never rfl (pi_range1 (by rfl) m_range (pa_cons (pe_op op_sub (pv 3) pe_int) pa_nil)) (pg_nw (i := 7) sc_Covers_missed_is_shorter.nd) (pss_one (ps_aw (i := 6) sc_Covers_missed_is_shorter.nd (pv 4) (ip_of iop_mul))))
   (pss_one (ps_ret (pe_cmpR op_le (pe_op op_shl pe_int (pe_callB call_len_seq (by rfl) m_len PySem.boot_len (pa_cons (pv 1) pa_nil))) (pe_op op_mul (pv 4) (pe_callB (call_min2 rfl) (by rfl) m_min PyProof.Rows.boot_min (pa_cons (pe_op op_shl pe_int (pv 5)) (pa_cons (pv 6) pa_nil)))) (nomark _))))))))), ?_⟩
  refine ⟨_, rfl, a, _, rfl, .inl hS, _, _, rfl, rfl, _, rfl, ?_⟩
  refine ite2 (fun c0 => q false fun z => by cases z) (fun c0 => ?_)
  have l20 : (p0 :: l').length ≤ 20 := by
    have := of_decide_eq_false (Bool.eq_false_iff.mpr c0)
    rw [vN_len] at this
    omega
  have hz : p0 &&& c ≠ 0 := hall p0 List.mem_cons_self
  have cz : c ≠ 0 := fun z => hz (by rw [z, Nat.and_zero])
  have s1 := sz_pos (and_lt (p := p0) hc) hz
  have s2 := sz_pos hc cz
  have s3 : Ms.sz (p0 &&& c) ≤ Ms.sz c := by
    have := Ms.sz_split c p0
    rw [Nat.and_comm c p0] at this
    omega
  have s4 := M_le c
  refine ⟨_, rfl, p, dx, fs, rfl, hp, cm.m1, _, rfl, a, vN (p0 :: l'), 0, V.int (p0 : Int), rfl, rfl, hS, atI_nat (j := 0) rfl, _, rfl, _, _, rfl, rfl, p, p0 &&& c, (by rw [← Cr.and_nat]; rfl), hI, and_lt hc, ?_⟩
  have el : (((vN (p0 :: l')).length : Nat) : Int) = ((p0 :: l').length : Int) := by rw [vN_len]
  have ll : (p0 :: l').length = l'.length + 1 := rfl
  have dv : (((p0 :: l').length : Nat) : Int) * ((Ms.sz (p0 &&& c) : Nat) : Int) / ((Ms.sz c : Nat) : Int) = (((p0 :: l').length * Ms.sz (p0 &&& c) / Ms.sz c : Nat) : Int) := by rw [← Int.natCast_mul, ← Int.natCast_ediv]
  have dl : (p0 :: l').length * Ms.sz (p0 &&& c) / Ms.sz c ≤ (p0 :: l').length := by
    refine Nat.div_le_of_le_mul ?_
    rw [Nat.mul_comm (Ms.sz c)]
    exact Nat.mul_le_mul_left _ s3
  refine ⟨_, rfl, a, _, rfl, .inl hS, _, rfl, a, _, rfl, .inl hS, _, rfl, _, _, rfl, rfl, Or.inl ⟨by rw [vN_len]; omega, by omega⟩, _, rfl, p, dx, fs, rfl, hp, cm.m1, _, rfl, p, c, rfl, hI, hc, _, _, rfl, rfl, ⟨by omega, by omega⟩, _, _, rfl, rfl, ?_⟩
  dsimp only
  rw [el, dv]
  generalize (p0 :: l').length * Ms.sz (p0 &&& c) / Ms.sz c = D at dl ⊢
  refine ⟨_, rfl, _, _, rfl, rfl, _, rfl, by omega, by omega, ?_⟩
  refine for_range (fun i σ H' => ∃ (v : Option V), σ = [some (.ref p), some (.ref a), some (.int c), some (.int most), some (.int (Ms.sz (p0 &&& c) : Nat)), some (.int (((p0 :: l').length : Int) - (D : Int))), some (.int (Ms.sz (p0 &&& c) ^ i : Nat)), v] ∧ H' = H) ⟨none, rfl, rfl⟩ ?_ ?_
  · rintro i σ H' hi ⟨v, rfl, rfl⟩
    have hp2 : Ms.sz (p0 &&& c) ^ i ≤ 1024 ^ 2 := Nat.le_trans (Nat.pow_le_pow_left (by omega) i) (Nat.pow_le_pow_right (by decide) (by omega))
    refine ⟨_, rfl, _, rfl, _, _, rfl, rfl, Or.inr ⟨by omega, by omega⟩, some (.int (0 + (i : Int))), ?_, rfl⟩
    rw [Nat.pow_succ, Int.natCast_mul]
    rfl
  · rintro σ H' ⟨v, rfl, rfl⟩
    have hp2 : Ms.sz (p0 &&& c) ^ ((most : Int) - 2).toNat ≤ 1024 ^ 2 := Nat.le_trans (Nat.pow_le_pow_left (by omega) _) (Nat.pow_le_pow_right (by decide) (by omega))
    refine ⟨_, rfl, a, _, rfl, .inl hS, _, _, rfl, rfl, ⟨by rw [vN_len]; omega, by rw [vN_len]; omega, by decide⟩, _, rfl, _, rfl, _, _, rfl, rfl, ⟨by omega, by omega, by decide⟩, _, rfl, _, _, rfl, _, _, rfl, rfl, Or.inl ⟨by omega, by omega⟩, _, _, rfl, rfl, q _ fun _ => l20⟩
end
section
variable {P : Program} {w : World} {K : PySem.W.Frag} {mg : Str → Option Value} {base : Heap} {f C : Addr} {fd : FuncData}
theorem two_pow20 {n : Nat} (h : n ≤ 20) : 2 ^ n ≤ 1048576 := Nat.pow_le_pow_right (n := 2) (by decide) h
theorem parts_sub : ∀ (Q : List Nat) (c : Nat), ∀ x ∈ Ms.parts Q c, ∀ i, x.testBit i = true → c.testBit i = true
  | [], c, x, hx, i, h => by
    have : x = c := List.mem_singleton.mp hx
    exact this ▸ h
  | p :: Q, c, x, hx, i, h => by
    have key : ∀ {a b : List Nat}, x ∈ Ms.parts.inter a b → x ∈ a ∨ x ∈ b := by
      intro a
      induction a with
      | nil => intro b h; cases h
      | cons y a ih =>
        intro b h
        cases b with
        | nil => cases h
        | cons z b =>
          rcases List.mem_cons.mp h with e | h
          · exact .inl (by rw [e]; exact List.mem_cons_self)
          · rcases List.mem_cons.mp h with e | h
            · exact .inr (by rw [e]; exact List.mem_cons_self)
            · exact (ih h).imp (List.mem_cons_of_mem _) (List.mem_cons_of_mem _)
    rcases key hx with z | z
    · have := parts_sub Q _ x z i h
      rw [Ms.less_bit] at this
      exact (Bool.and_eq_true_iff.mp this).1
    · have := parts_sub Q _ x z i h
      rw [Nat.testBit_and] at this
      exact (Bool.and_eq_true_iff.mp this).1
theorem sz_zero : Ms.sz 0 = 0 := by
  show (Cr.ms 1024 0).length = 0
  rw [Cr.ms_zero]
  rfl
theorem ok_sizes_by (T : TxtC K C) (m_zip : mg "zip" = none) (M_Covers_size_of : MCallee P w K mg base 1 C "size_of" (["self", "crowd"] : List Str) (spSize C)) (F : Fun K "sizes_by_hits" "Covers.sizes_by_hits" s_Covers_sizes_by_hits f fd) :
    FnOk P w K mg base CX0 2 f fd (["self", "pools", "crowd"] : List Str) (spSizesBy K C) := by
  refine F.ok sc_Covers_sizes_by_hits (fun vs H Q E h => ?_) (fun cdv A outer s H vs Q E hr h => ?_)
  · obtain ⟨p, a, l, c, rfl, _⟩ := h
    rfl
  obtain ⟨p, a, l, c, rfl, hI, hS, hl, hc, q⟩ := h
  refine ⟨_, (pss_cons (ps_sw (i := 3) sc_Covers_sizes_by_hits.nd (pe_lst (pa_cons (pv 2) pa_nil)))
   (pss_cons (ps_for PassesOwn.never rfl (pi_list (pv 1)) (pg_nw (i := 4) sc_Covers_sizes_by_hits.nd) (pss_cons (ps_setLc (i := 5) rfl sc_Covers_sizes_by_hits.nd rfl rfl (sw_true rfl rfl rfl rfl) (pi_list (pv 3)) (blkOk_by (N := (["self", "pools", "crowd", "parts", "pool", "hitting", "part", "hit"] : List Str)) (sc := defScope s_Covers_sizes_by_hits) (own := [("part", 6)]) (by decide +kernel)) (fun _ _ _ _ _ => (pg_nw (i := 6) sc_Covers_sizes_by_hits.nd)) (fun _ _ _ _ _ => pts_nil) (fun _ _ _ _ _ => (pe_op op_and (pv 6) (pv 4))))
   (pss_one (ps_sw (i := 3) sc_Covers_sizes_by_hits.nd (pe_op op_cat (pe_lc rfl sc_Covers_sizes_by_hits.nd (pi_zip (by rfl) m_zip (pa_cons (pv 3) (pa_cons (pv 5) pa_nil))) (blkOk_by (N := (["self", "pools", "crowd", "parts", "pool", "hitting", "part", "hit"] : List Str)) (sc := defScope s_Covers_sizes_by_hits) (own := [("part", 6), ("hit", 7)]) (by decide +kernel)) (fun _ _ _ _ _ => (by exact (pg_tupK (K := K) (n := 2) (by rfl) (by rfl) (by exact pgs_cons (by exact (pg_nw (i := 6) sc_Covers_sizes_by_hits.nd)) (by exact pgs_cons (by exact (pg_nw (i := 7) sc_Covers_sizes_by_hits.nd)) (by exact pgs_nil)))))) (fun _ _ _ _ _ => pts_nil) (fun _ _ _ _ _ => (pe_op op_xor (pv 6) (pv 7)))) (pv 5))))))
   (pss_one (ps_ret (pe_lc rfl sc_Covers_sizes_by_hits.nd (pi_list (pv 3)) (blkOk_by (N := (["self", "pools", "crowd", "parts", "pool", "hitting", "part", "hit"] : List Str)) (sc := defScope s_Covers_sizes_by_hits) (own := [("part", 6)]) (by decide +kernel)) (fun _ _ _ _ _ => (pg_nw (i := 6) sc_Covers_sizes_by_hits.nd)) (fun _ _ _ _ _ => pts_nil) (fun _ _ _ _ _ => (pe_ifExp (pt_truthK (K := K) (by rfl) (pv 6) (fun _ => rfl)) (pe_methC (pv 0) M_Covers_size_of (hr.mono (by omega)) (pa_cons (pv 6) pa_nil)) pe_int))))))), ?_⟩
  refine ⟨_, rfl, one_le _, fun p1 hp1 => ?_⟩
  have s1 := same_new hp1 (.lst [V.int c])
  refine ⟨_, rfl, a, rfl, ⟨_, s1.seq hS⟩, ?_⟩
  refine for_list (K := K) (a := a) (xs := vN l) (fun i σ H' => ∃ (pr : Addr) (v4 v5 v6 v7 : Option V), σ = [some (.ref p), some (.ref a), some (.int c), some (.ref pr), v4, v5, v6, v7] ∧ Same H H' ∧ H pr = none ∧ H' pr = some (.lst (vN (Ms.parts (l.take i) c))))
    ⟨p1, none, none, none, none, rfl, s1, hp1, upd_same⟩ (fun i σ H' _ ⟨_, _, _, _, _, _, h, _⟩ => h.seq hS) ?_ ?_
  · rintro i y σ H1 hi ⟨pr, v4, v5, v6, v7, rfl, sH, fpr, hpr⟩
    obtain ⟨pl, hpl, rfl⟩ := vN_at hi
    have hi' := (List.getElem?_eq_some_iff.mp hpl).1
    have pz : (Ms.parts (l.take i) c).length ≤ 1048576 := by
      rw [Ms.parts_len]
      exact two_pow20 (by rw [List.length_take]; omega)
    refine ⟨_, rfl, pr, rfl, ⟨_, SqL.of hpr⟩, fun D hD => ?_⟩
    refine lc_pure (fun _ => true) (fN fun x => x &&& pl) (SqL.of hpr) hD (by rw [vN_len]; exact Nat.le_of_lt (lt_line (by omega))) (fun x => by rfl) (fun x _ H Q _ h => h) ?_ ?_
    · intro v hv _ H2 Q2 _ h2
      obtain ⟨x, _, rfl⟩ := vN_mem hv
      refine ⟨_, rfl, _, rfl, _, _, rfl, rfl, ?_⟩
      dsimp only
      rw [Cr.and_nat]
      exact h2
    rintro H2 rfl
    rw [List.filter_eq_self.mpr (fun _ _ => rfl), vN_map]
    have s2 := same_new hD (.lst (vN ((Ms.parts (l.take i) c).map fun x => x &&& pl)))
    have hpr2 := s2 _ _ hpr
    refine ⟨_, rfl, _, rfl, pr, D, _, _, rfl, SqL.of hpr2, SqL.of upd_same, fun D2 hD2 => ?_⟩
    refine lc_zip (xs := vN (Ms.parts (l.take i) c)) (ys := vN ((Ms.parts (l.take i) c).map fun x => x &&& pl)) (fun j H' => Same (upd H1 D (.lst (vN ((Ms.parts (l.take i) c).map fun x => x &&& pl)))) H' ∧ H' D2 = some (.lst (vN (((Ms.parts (l.take i) c).take j).map fun x => x ^^^ (x &&& pl)))))
      ⟨same_new hD2 _, upd_same⟩ (fun j H' _ h => ⟨h.1.seq (SqL.of hpr2), h.1.seq (SqL.of upd_same)⟩) ?_ ?_
    · rintro j x y T H3 hx hy ⟨sH3, hD3⟩ hT
      obtain ⟨u, hu, rfl⟩ := vN_at hx
      obtain ⟨v, hv, rfl⟩ := vN_at hy
      rw [List.getElem?_map, hu] at hv
      cases hv
      have sT := same_new hT (.tup [V.int u, V.int ((u &&& pl : Nat) : Int)])
      refine ⟨T, _, rfl, SqT.of upd_same, rfl, _, _, rfl, _, _, rfl, rfl, rfl, _, rfl, _, rfl, _, _, rfl, rfl, _, sT _ _ hD3, ?_, ?_, ?_⟩
      · rw [vN_len, List.length_map, List.length_take]
        exact lt_line (by omega)
      · intro b o hbo
        rw [upd_ne (ne_of_none hbo hD2)]
        exact (sH3.trans sT) b o hbo
      · rw [upd_same, take_snoc hu, List.map_append, vN_app]
        dsimp only
        rw [Cr.xor_nat]
        rfl
    rintro H3 ⟨s3, hD3⟩
    have lz : min (vN (Ms.parts (l.take i) c)).length (vN ((Ms.parts (l.take i) c).map fun x => x &&& pl)).length = (Ms.parts (l.take i) c).length := by rw [vN_len, vN_len, List.length_map, Nat.min_self]
    rw [lz, List.take_length] at hD3
    refine ⟨_, rfl, D2, D, _, _, rfl, rfl, hD3, s3 _ _ upd_same, ?_, fun p3 hp3 => ?_⟩
    · rw [vN_len, vN_len, List.length_map, List.length_map]
      exact Nat.le_of_lt (lt_line (by omega))
    have s4 := sH.trans (s2.trans s3)
    refine ⟨p3, some (.int pl), some (.ref D), v6, v7, rfl, s4.trans (same_new hp3 _), ?_, ?_⟩
    · cases e : H p3 with
      | none => rfl
      | some o => rw [s4 _ _ e] at hp3; cases hp3
    · rw [upd_same, ← vN_app, take_snoc hpl, Ms.parts_snoc]
  · rintro σ H1 ⟨pr, v4, v5, v6, v7, rfl, sH, fpr, hpr⟩
    rw [vN_len, List.take_length] at hpr
    have pz : (Ms.parts l c).length ≤ 1048576 := by
      rw [Ms.parts_len]
      exact two_pow20 hl
    refine ⟨_, rfl, pr, rfl, ⟨_, SqL.of hpr⟩, fun D hD => ?_⟩
    refine lc_pure (fun _ => true) (fN Ms.sz) (SqL.of hpr) hD (by rw [vN_len]; exact Nat.le_of_lt (lt_line (by omega))) (fun x => by rfl) (fun x _ H Q _ h => h) ?_ ?_
    · intro v hv _ H2 Q2 sH2 h2
      obtain ⟨x, hx, rfl⟩ := vN_mem hv
      have xl : x < 2 ^ 1024 := Cv.sub_lt hc (parts_sub l c x hx)
      have hI2 := hI.same (sH.trans sH2)
      obtain ⟨dx, fs, hp, cm⟩ := id hI2
      refine ⟨_, rfl, _, rfl, ?_⟩
      by_cases hx0 : x = 0
      · subst hx0
        refine iteF ?_
        have : fN Ms.sz (V.int ((0 : Nat) : Int)) = V.int 0 := by
          show V.int ((Ms.sz 0 : Nat) : Int) = _
          rw [sz_zero]
          rfl
        rw [this] at h2
        exact h2
      · rw [bne0 hx0]
        exact iteT ⟨_, rfl, p, dx, fs, rfl, hp, cm.m1, _, rfl, p, x, rfl, hI2, xl, h2⟩
    rintro H2 rfl
    refine q D _ (sH.trans (same_new hD _)) ?_ ?_
    · cases e : H D with
      | none => rfl
      | some o => rw [sH _ _ e] at hD; cases hD
    · rw [upd_same, List.filter_eq_self.mpr (fun _ _ => rfl), vN_map]
end
end My
namespace L2
open PySem PySem.Spec PyProof.Rows
theorem lc_items {d D : Addr} {o : Obj} {kvs : List (Key × V)} {g : TG} {tt : TT} {te : TE} {vs : List Nat} {σ : St} {H1 : Hp} {Qd : Hp → Prop} (Pv : Nat → Hp → Prop) (h0 : Pv 0 (upd H1 D (.lst []))) (hl : ∀ i H, i ≤ kvs.length → Pv i H → H d = some (.frz o (.dK kvs)))
    (hs : ∀ i k v T H, kvs[i]? = some (k, v) → Pv i H → H T = none → g (.ref T) (wipe σ vs) (upd H T (.tup [kV k, v])) fun σ2 H2 => wipe σ2 vs = wipe σ vs ∧ tt σ2 H2 fun b H3 =>
      if b = true then te σ2 H3 fun y H4 => ∃ acc, H4 D = some (.lst acc) ∧ acc.length < sizeLine ∧ Pv (i + 1) (upd H4 D (.lst (acc ++ [y]))) else Pv (i + 1) H3) (hd : ∀ H, Pv kvs.length H → Qd H) :
    ∃ W : Nat → Nat → Hp → Prop, (∃ m, W 0 m (upd H1 D (.lst []))) ∧ ∀ i m H, W i m H →
      ((Iti d o kvs).stop i H ∧ Qd H) ∨ ((Iti d o kvs).go i H ∧ ∃ Nx : Hp → Prop, (∀ H', Nx H' → ∃ m', m' < m ∧ W (i + 1) m' H') ∧ ∀ x H', (Iti d o kvs).yld i H x H' → g x (wipe σ vs) H' fun σ2 H2 => wipe σ2 vs = wipe σ vs ∧ tt σ2 H2 fun b H3 =>
        if b = true then te σ2 H3 fun y H4 => ∃ acc, H4 D = some (.lst acc) ∧ acc.length < sizeLine ∧ Nx (upd H4 D (.lst (acc ++ [y]))) else Nx H3) := by
  refine ⟨fun i m H => m = kvs.length - i ∧ i ≤ kvs.length ∧ Pv i H, ⟨_, rfl, Nat.zero_le _, h0⟩, ?_⟩
  rintro i m H ⟨rfl, hi, p⟩
  have q1 := hl i H hi p
  by_cases hlt : i < kvs.length
  · refine .inr ⟨⟨q1, hlt⟩, Pv (i + 1), fun H' p' => ⟨_, by omega, rfl, hlt, p'⟩, fun v H' y => ?_⟩
    obtain ⟨T, k, v, e, rfl, hT, rfl⟩ := y
    exact hs i k v T H e p hT
  · have e : i = kvs.length := by omega
    exact .inl ⟨⟨q1, by omega⟩, hd H (e ▸ p)⟩
end L2
namespace My
open PySem L2
def ph (p : Nat × Int) : Key × V := (Sum.inl (p.1 : Int), V.int p.2)
def getN : List (Nat × Int) → Nat → Int
  | [], _ => 0
  | (j, v) :: r, k => if j = k then v else getN r k
def addN : List (Nat × Int) → Nat → Int → List (Nat × Int)
  | [], k, s => [(k, s)]
  | (j, v) :: r, k, s => if j = k then (j, v + s) :: r else (j, v) :: addN r k s
def sumN (f : Nat → Nat) (D : List (Nat × Int)) : Int := (D.map fun p => p.2 * (f p.1 : Int)).sum
theorem inl_ne {j k : Nat} (h : ¬ j = k) : ¬ (Sum.inl (j : Int) : Key) = Sum.inl (k : Int) := fun z => h (by
  have := Sum.inl.inj z
  omega)
theorem val_ph (k : Nat) : ∀ D : List (Nat × Int), (valV (D.map ph) (Sum.inl (k : Int))).getD (V.int 0) = V.int (getN D k)
  | [] => rfl
  | (j, v) :: r => by
    rw [List.map_cons]
    by_cases h : j = k
    · subst h
      rw [valV_pos (show (ph (j, v)).1 = Sum.inl (j : Int) from rfl)]
      show V.int v = V.int (if j = j then v else getN r j)
      rw [if_pos rfl]
    · rw [valV_neg (show ¬ (ph (j, v)).1 = Sum.inl (k : Int) from inl_ne h), val_ph k r]
      show V.int (getN r k) = V.int (if j = k then v else getN r k)
      rw [if_neg h]
theorem putK_ne {κ : Type} [DecidableEq κ] {p : κ × V} {r : List (κ × V)} {k : κ} (y : V) (h : ¬ p.1 = k) : putK (p :: r) k y = p :: putK r k y := by
  unfold putK
  rw [List.any_cons, decide_eq_false h, Bool.false_or]
  split
  · rw [List.map_cons, if_neg h]
  · rfl
theorem put_ph (k : Nat) (s : Int) : ∀ {D : List (Nat × Int)}, (D.map (·.1)).Nodup → putK (D.map ph) (Sum.inl (k : Int)) (V.int (getN D k + s)) = (addN D k s).map ph
  | [], _ => by
    show [((Sum.inl (k : Int) : Key), V.int (0 + s))] = [ph (k, s)]
    rw [Int.zero_add]
    rfl
  | (j, v) :: r, nd => by
    obtain ⟨n1, n2⟩ := List.nodup_cons.mp nd
    rw [List.map_cons]
    by_cases h : j = k
    · subst h
      unfold putK
      rw [List.any_cons, decide_eq_true (show (ph (j, v)).1 = Sum.inl (j : Int) from rfl), Bool.true_or, if_pos rfl, List.map_cons]
      show (if (ph (j, v)).1 = Sum.inl (j : Int) then ((ph (j, v)).1, _) else _) :: _ = ((if j = j then (j, v + s) :: r else (j, v) :: addN r j s) : List (Nat × Int)).map ph
      rw [if_pos (rfl : j = j), if_pos (show (ph (j, v)).1 = Sum.inl (j : Int) from rfl), List.map_cons]
      congr 1
      · show (_, V.int ((if j = j then v else getN r j) + s)) = _
        rw [if_pos rfl]
        rfl
      · rw [List.map_map]
        refine List.map_congr_left fun p hp => ?_
        show (if (ph p).1 = Sum.inl (j : Int) then _ else ph p) = ph p
        rw [if_neg (show ¬ (ph p).1 = Sum.inl (j : Int) from inl_ne fun z => n1 (List.mem_map.mpr ⟨p, hp, z⟩))]
    · rw [putK_ne _ (show ¬ (ph (j, v)).1 = Sum.inl (k : Int) from inl_ne h)]
      have e1 : getN ((j, v) :: r) k = getN r k := by
        show (if j = k then v else getN r k) = _
        rw [if_neg h]
      have e2 : addN ((j, v) :: r) k s = (j, v) :: addN r k s := by
        show (if j = k then (j, v + s) :: r else (j, v) :: addN r k s) = _
        rw [if_neg h]
      rw [e1, e2, put_ph k s n2]
      rfl
theorem sum_addN (f : Nat → Nat) (k : Nat) (s : Int) : ∀ D : List (Nat × Int), sumN f (addN D k s) = sumN f D + s * (f k : Int)
  | [] => by
    show ([s * (f k : Int)] : List Int).sum = ([] : List Int).sum + _
    simp
  | (j, v) :: r => by
    have ih := sum_addN f k s r
    unfold sumN at ih ⊢
    show (((if j = k then (j, v + s) :: r else (j, v) :: addN r k s) : List (Nat × Int)).map fun p => p.2 * (f p.1 : Int)).sum = _
    by_cases h : j = k
    · subst h
      rw [if_pos rfl, List.map_cons, List.sum_cons, List.map_cons, List.sum_cons, Int.add_mul]
      dsimp only
      omega
    · rw [if_neg h, List.map_cons, List.sum_cons, List.map_cons, List.sum_cons, ih]
      omega
theorem keys_addN (k : Nat) (s : Int) : ∀ (D : List (Nat × Int)) (x : Nat), x ∈ (addN D k s).map (·.1) ↔ x ∈ D.map (·.1) ∨ x = k
  | [], x => by simp [addN]
  | (j, v) :: r, x => by
    have ih := keys_addN k s r x
    show x ∈ ((if j = k then (j, v + s) :: r else (j, v) :: addN r k s) : List (Nat × Int)).map (·.1) ↔ _
    by_cases h : j = k
    · subst h
      rw [if_pos rfl]
      simp only [List.map_cons, List.mem_cons]
      constructor
      · intro h; exact .inl h
      · rintro (h | h)
        · exact h
        · exact .inl h
    · rw [if_neg h]
      simp only [List.map_cons, List.mem_cons, ih]
      constructor
      · rintro (h | h | h)
        · exact .inl (.inl h)
        · exact .inl (.inr h)
        · exact .inr h
      · rintro ((h | h) | h)
        · exact .inl h
        · exact .inr (.inl h)
        · exact .inr (.inr h)
theorem nd_addN (k : Nat) (s : Int) : ∀ {D : List (Nat × Int)}, (D.map (·.1)).Nodup → ((addN D k s).map (·.1)).Nodup
  | [], _ => by simp [addN]
  | (j, v) :: r, nd => by
    obtain ⟨n1, n2⟩ := List.nodup_cons.mp nd
    show (((if j = k then (j, v + s) :: r else (j, v) :: addN r k s) : List (Nat × Int)).map (·.1)).Nodup
    by_cases h : j = k
    · rw [if_pos h]
      exact nd
    · rw [if_neg h]
      refine List.nodup_cons.mpr ⟨fun z => ?_, nd_addN k s n2⟩
      rcases (keys_addN k s r j).mp z with z | z
      · exact n1 z
      · exact h z
theorem len_addN (k : Nat) (s : Int) : ∀ D : List (Nat × Int), (addN D k s).length ≤ D.length + 1
  | [] => Nat.le_refl _
  | (j, v) :: r => by
    have ih := len_addN k s r
    show (((if j = k then (j, v + s) :: r else (j, v) :: addN r k s) : List (Nat × Int))).length ≤ r.length + 1 + 1
    split
    · rw [List.length_cons]; omega
    · rw [List.length_cons]; omega
theorem bin_le : ∀ n k : Nat, Sh12.binomial n k ≤ (n + 1) ^ k
  | n, 0 => by
    have e0 : Sh12.binomial n 0 = 1 := by cases n <;> rfl
    rw [e0]
    exact Nat.le_refl _
  | 0, k + 1 => by
    show 0 ≤ _
    exact Nat.zero_le _
  | n + 1, k + 1 => by
    have h1 := bin_le n k
    have h2 := bin_le n (k + 1)
    show Sh12.binomial n k + Sh12.binomial n (k + 1) ≤ (n + 1 + 1) ^ (k + 1)
    have h3 : (n + 1) ^ k ≤ (n + 1 + 1) ^ k := Nat.pow_le_pow_left (by omega) k
    have h4 : (n + 1) ^ (k + 1) = (n + 1) ^ k * (n + 1) := Nat.pow_succ _ _
    have h5 : (n + 1 + 1) ^ (k + 1) = (n + 1 + 1) ^ k * (n + 1 + 1) := Nat.pow_succ _ _
    have h6 : (n + 1) ^ k * (n + 1 + 1) ≤ (n + 1 + 1) ^ k * (n + 1 + 1) := Nat.mul_le_mul_right _ h3
    have h7 : (n + 1) ^ k * (n + 1 + 1) = (n + 1) ^ k * (n + 1) + (n + 1) ^ k := by rw [Nat.mul_add, Nat.mul_one]
    omega
theorem upto_le {n : Nat} (hn : n ≤ 1024) : ∀ k, k ≤ 5 → upto n k ≤ k * 1025 ^ 4
  | 0, _ => Nat.zero_le _
  | k + 1, h => by
    have ih := upto_le hn k (by omega)
    have h1 := bin_le n k
    have h2 : (n + 1) ^ k ≤ 1025 ^ 4 := Nat.le_trans (Nat.pow_le_pow_left (by omega) k) (Nat.pow_le_pow_right (by decide) (by omega))
    show upto n k + Sh12.binomial n k ≤ (k + 1) * 1025 ^ 4
    rw [Nat.succ_mul]
    omega
def zsum (m : Nat) (l : List (Nat × Int)) : Int := (l.map fun p => p.2 * (upto p.1 (m + 1) : Int)).sum
theorem tot_zip (m : Nat) : ∀ (Cs : List Nat) (ss : List Int), Ms.tot [] m Cs ss = zsum m ((Cs.map Ms.sz).zip ss)
  | [], [] => rfl
  | [], _ :: _ => rfl
  | _ :: _, [] => rfl
  | c :: Cs, s :: ss => by
    show s * (Cv.hs [] (Cv.M c) m : Int) + Ms.tot [] m Cs ss = zsum m ((Ms.sz c, s) :: (Cs.map Ms.sz).zip ss)
    rw [hs_empty, tot_zip m Cs ss]
    unfold zsum
    rw [List.map_cons, List.sum_cons]
    rfl
theorem szs_nil (Cs : List Nat) : Ms.szs [] Cs = Cs.map Ms.sz := by
  unfold Ms.szs
  induction Cs with
  | nil => rfl
  | cons c r ih =>
    rw [List.flatMap_cons, ih]
    rfl
theorem vN_ev (l : List Nat) : Ms.ev (vN l) = vN (Ms.ev l) := Ms.ev_map _ l
theorem vN_od (l : List Nat) : Ms.od (vN l) = vN (Ms.od l) := Ms.od_map _ l
def spByMissed (K : PySem.W.Frag) (C : Addr) : Sp := fun vs H Q _ => ∃ (p a : Addr) (l : List Nat) (c most : Nat), vs = [.ref p, .ref a, .int c, .int most] ∧ CI C H p ∧ SqL K H a (vN l) ∧ l.length ≤ 20 ∧ most ≤ 4 ∧ c < 2 ^ 1024 ∧
  ∀ H', Same H H' → Q (.int (Cv.hs l (Cv.M c) most : Nat)) H'
def negV : V → V
  | .int z => .int (-z)
  | v => v
theorem neg_map (ss : List Int) : (ss.map V.int).map negV = (ss.map fun s => -s).map V.int := by
  rw [List.map_map, List.map_map]
  rfl
section
variable {P : Program} {w : World} {K : PySem.W.Frag} {mg : Str → Option Value} {base : Heap} {f C : Addr} {fd : FuncData}
theorem ok_by_missed (T : TxtC K C) (m_zip : mg "zip" = none) (m_sum : mg "sum" = none) (C_subsets : Callee P w K mg base 1 "subsets" (["size", "most"] : List Str) spSubsets) (M_Covers_sizes_by_hits : MCallee P w K mg base 2 C "sizes_by_hits" (["self", "pools", "crowd"] : List Str) (spSizesBy K C))
    (F : Fun K "count_by_missed" "Covers.count_by_missed" s_Covers_count_by_missed f fd) : FnOk P w K mg base CX0 3 f fd (["self", "pools", "crowd", "most"] : List Str) (spByMissed K C) := by
  refine F.ok sc_Covers_count_by_missed (fun vs H Q E h => ?_) (fun cdv A outer s H vs Q E hr h => ?_)
  · obtain ⟨p, a, l, c, most, rfl, _⟩ := h
    rfl
  obtain ⟨p, a, l, c, most, rfl, hI, hS, hl, hm4, hc, q⟩ := h
  obtain ⟨dx, fs, hp, cm⟩ := id hI
  refine ⟨_, (pss_cons (ps_sw (i := 4) sc_Covers_count_by_missed.nd (pe_methC (pv 0) M_Covers_sizes_by_hits (hr.mono (by omega)) (pa_cons (pv 1) (pa_cons (pv 2) pa_nil))))
   (pss_cons (ps_sw (i := 5) sc_Covers_count_by_missed.nd (pe_lst (pa_cons pe_int pa_nil)))
   (pss_cons (ps_for PassesOwn.never rfl (pi_list (pv 1)) (pg_nw (i := 6) sc_Covers_count_by_missed.nd) (pss_cons (ps_sw (i := 7) sc_Covers_count_by_missed.nd (pe_half (pv 4) (po_some pe_int) (po_some pe_int)))
   (pss_cons (ps_sw (i := 4) sc_Covers_count_by_missed.nd (pe_op op_cat (pe_lc rfl sc_Covers_count_by_missed.nd (pi_zip (by rfl) m_zip (pa_cons (pv 7) (pa_cons (pe_half (pv 4) (po_some pe_int) (po_some pe_int)) pa_nil))) (blkOk_by (N := (["self", "pools", "crowd", "most", "free", "signs", "pool", "missing", "signs_by_size", "size", "sign", "a", "b"] : List Str)) (sc := defScope s_Covers_count_by_missed) (own := [("a", 11), ("b", 12)]) (by decide +kernel)) (fun _ _ _ _ _ => (by exact (pg_tupK (K := K) (n := 2) (by rfl) (by rfl) (by exact pgs_cons (by exact (pg_nw (i := 11) sc_Covers_count_by_missed.nd)) (by exact pgs_cons (by exact (pg_nw (i := 12) sc_Covers_count_by_missed.nd)) (by exact pgs_nil)))))) (fun _ _ _ _ _ => pts_nil) (fun _ _ _ _ _ => (pe_op op_add (pv 11) (pv 12)))) (pv 7)))
   (pss_one (ps_sw (i := 5) sc_Covers_count_by_missed.nd (pe_op op_cat (pv 5) (pe_lc rfl sc_Covers_count_by_missed.nd (pi_list (pv 5)) (blkOk_by (N := (["self", "pools", "crowd", "most", "free", "signs", "pool", "missing", "signs_by_size", "size", "sign", "a", "b"] : List Str)) (sc := defScope s_Covers_count_by_missed) (own := [("sign", 10)]) (by decide +kernel)) (fun _ _ _ _ _ => (pg_nw (i := 10) sc_Covers_count_by_missed.nd)) (fun _ _ _ _ _ => pts_nil) (fun _ _ _ _ _ => (pe_un un_neg (pv 10))))))))))
   (pss_cons (ps_sw (i := 8) sc_Covers_count_by_missed.nd pe_dnewK)
   (pss_cons (ps_for PassesOwn.never rfl (pi_zip (by rfl) m_zip (pa_cons (pv 4) (pa_cons (pv 5) pa_nil))) (pg_tupK (K := K) (n := 2) (by rfl) (by rfl) (by exact pgs_cons (by exact (pg_nw (i := 9) sc_Covers_count_by_missed.nd)) (by exact pgs_cons (by exact (pg_nw (i := 10) sc_Covers_count_by_missed.nd)) (by exact pgs_nil)))) (pss_one (ps_dput (hu_of hr) (pv 8) (pv 9) (pe_op op_add (pe_dget2 (hu_of hr) (pv 8) (pv 9) pe_int ⟨rfl, rfl, rfl, rfl⟩) (pv 10)) rfl)))
   (pss_one (ps_lock (ps_ret (pe_callB (cr_sum rfl) (by rfl) m_sum PyProof.Rows.boot_sum (pa_cons (pe_lc rfl sc_Covers_count_by_missed.nd (pi_items (pv 8)) (blkOk_by (N := (["self", "pools", "crowd", "most", "free", "signs", "pool", "missing", "signs_by_size", "size", "sign", "a", "b"] : List Str)) (sc := defScope s_Covers_count_by_missed) (own := [("size", 9), ("sign", 10)]) (by decide +kernel)) (fun _ _ _ _ _ => (by exact (pg_tupK (K := K) (n := 2) (by rfl) (by rfl) (by exact pgs_cons (by exact (pg_nw (i := 9) sc_Covers_count_by_missed.nd)) (by exact pgs_cons (by exact (pg_nw (i := 10) sc_Covers_count_by_missed.nd)) (by exact pgs_nil)))))) (fun _ _ _ _ _ => pts_nil) (fun _ _ _ _ _ => (pe_op op_mul (pv 10) (pe_callC C_subsets (hr.mono (by omega)) (by rfl) (pa_cons (pv 9) (pa_cons (pv 3) pa_nil)))))) pa_nil)))))))))), ?_⟩
  refine ⟨_, rfl, p, dx, fs, rfl, hp, cm.m7, _, rfl, _, rfl, p, a, l, c, rfl, hI, hS, hl, hc, fun r1 H1 s1 f1 h1 => ?_⟩
  refine ⟨one_le _, fun p2 hp2 => ?_⟩
  have s2 := same_new hp2 (.lst [V.int 1])
  refine ⟨_, rfl, a, rfl, ⟨_, (s1.trans s2).seq hS⟩, ?_⟩
  refine for_list (K := K) (a := a) (xs := vN l) (fun i σ H' => ∃ (rf rs : Addr) (Cs : List Nat) (ss : List Int) (v6 v7 v8 v9 v10 v11 v12 : Option V), σ = [some (.ref p), some (.ref a), some (.int c), some (.int most), some (.ref rf), some (.ref rs), v6, v7, v8, v9, v10, v11, v12] ∧ Same H H' ∧
      H' rf = some (.lst (vN (Ms.szs (l.drop i) Cs))) ∧ H' rs = some (.lst (ss.map V.int)) ∧ Cs.length = 2 ^ i ∧ ss.length = 2 ^ i ∧ Ms.tot (l.drop i) most Cs ss = (Cv.hs l (Cv.M c) most : Int))
    ⟨r1, p2, [c], [1], none, none, none, none, none, none, none, rfl, s1.trans s2, ?_, upd_same, rfl, rfl, Ms.tot_start l most c⟩ (fun i σ H' _ ⟨_, _, _, _, _, _, _, _, _, _, _, _, h, _⟩ => h.seq hS) ?_ ?_
  · have := s2 _ _ h1
    rw [this]
    show some (HO.lst (vN ((Ms.parts l c).map Ms.sz))) = some (HO.lst (vN ((Ms.parts l c).map Ms.sz ++ [])))
    rw [List.append_nil]
  · rintro i y σ H2 hi ⟨rf, rs, Cs, ss, v6, v7, v8, v9, v10, v11, v12, rfl, sH, hrf, hrs, lC, lS, ht⟩
    obtain ⟨pl, hpl, rfl⟩ := vN_at hi
    have hi' := (List.getElem?_eq_some_iff.mp hpl).1
    have dr : l.drop i = pl :: l.drop (i + 1) := by
      rw [List.drop_eq_getElem_cons hi']
      congr 1
      rw [List.getElem?_eq_getElem hi'] at hpl
      exact Option.some.inj hpl
    have zl : (Ms.szs (l.drop i) Cs).length ≤ 1048576 := by
      rw [Ms.szs_len, lC, List.length_drop, ← Nat.pow_add]
      exact two_pow20 (by omega)
    have zs : ss.length ≤ 1048576 := by rw [lS]; exact two_pow20 (by omega)
    refine ⟨_, rfl, _, rfl, _, rfl, rf, _, rfl, SqL.of hrf, rfl, Or.inl ⟨rfl, fun m1 hm1 => ?_⟩⟩
    rw [vN_ev]
    have s3 := same_new hm1 (.lst (vN (Ms.ev (Ms.szs (l.drop i) Cs))))
    refine ⟨_, rfl, _, rfl, _, rfl, _, rfl, rf, _, rfl, SqL.of (s3 _ _ hrf), rfl, Or.inr ⟨rfl, fun m2 hm2 => ?_⟩⟩
    rw [vN_od]
    have s4 := same_new hm2 (.lst (vN (Ms.od (Ms.szs (l.drop i) Cs))))
    have h1m := s4 m1 _ upd_same
    have le := len_ev (Ms.szs (l.drop i) Cs)
    have lo := len_od (Ms.szs (l.drop i) Cs)
    generalize hE : Ms.ev (Ms.szs (l.drop i) Cs) = ee at *
    generalize hO : Ms.od (Ms.szs (l.drop i) Cs) = oo at *
    refine ⟨m1, m2, _, _, rfl, SqL.of h1m, SqL.of upd_same, fun D hD => ?_⟩
    refine lc_zip (xs := vN ee) (ys := vN oo) (fun j H' => Same (upd (upd H2 m1 (.lst (vN ee))) m2 (.lst (vN oo))) H' ∧ H' D = some (.lst (vN ((List.zipWith (fun a b => a + b) ee oo).take j)))) ⟨same_new hD _, upd_same⟩ (fun j H' _ h => ⟨h.1.seq (SqL.of h1m), h.1.seq (SqL.of upd_same)⟩) ?_ ?_
    · rintro j x y T H3 hx hy ⟨sH3, hD3⟩ hT
      obtain ⟨u, hu, rfl⟩ := vN_at hx
      obtain ⟨v, hv, rfl⟩ := vN_at hy
      have hz : (List.zipWith (fun a b => a + b) ee oo)[j]? = some (u + v) := by rw [List.getElem?_zipWith, hu, hv]
      have hj := (List.getElem?_eq_some_iff.mp hu).1
      have sT := same_new hT (.tup [V.int u, V.int v])
      refine ⟨T, _, rfl, SqT.of upd_same, rfl, _, _, rfl, _, _, rfl, rfl, rfl, _, rfl, _, rfl, _, _, rfl, rfl, _, sT _ _ hD3, ?_, ?_, ?_⟩
      · rw [vN_len, List.length_take]
        exact lt_line (by omega)
      · intro b o hbo
        rw [upd_ne (ne_of_none hbo hD)]
        exact (sH3.trans sT) b o hbo
      · rw [upd_same, take_snoc hz, vN_app]
        rfl
    rintro H3 ⟨s5, hD3⟩
    have lz : min (vN ee).length (vN oo).length = (List.zipWith (fun a b => a + b) ee oo).length := by rw [vN_len, vN_len, List.length_zipWith]
    rw [lz, List.take_length] at hD3
    refine ⟨_, rfl, D, m1, _, _, rfl, rfl, hD3, s5 _ _ h1m, ?_, fun p3 hp3 => ?_⟩
    · rw [vN_len, vN_len, List.length_zipWith]
      exact Nat.le_of_lt (lt_line (by omega))
    have s6 := same_new hp3 (.lst (vN (List.zipWith (fun a b => a + b) ee oo) ++ vN ee))
    have sA := (s3.trans s4).trans (s5.trans s6)
    have hrs2 := sA _ _ hrs
    refine ⟨_, rfl, _, rfl, rs, rfl, ⟨_, SqL.of hrs2⟩, fun D2 hD2 => ?_⟩
    refine lc_pure (fun _ => true) negV (SqL.of hrs2) hD2 (by rw [List.length_map]; exact Nat.le_of_lt (lt_line (by omega))) (fun x => by rfl) (fun x _ H Q _ h => h) ?_ ?_
    · intro v hv _ H4 Q4 _ h4
      obtain ⟨z, _, rfl⟩ := List.mem_map.mp hv
      exact ⟨_, rfl, _, rfl, h4⟩
    rintro H4 rfl
    rw [List.filter_eq_self.mpr (fun _ _ => rfl), neg_map]
    have s7 := same_new hD2 (.lst ((ss.map fun s => -s).map V.int))
    refine ⟨rs, D2, _, _, rfl, rfl, s7 _ _ hrs2, upd_same, ?_, fun p4 hp4 => ?_⟩
    · rw [List.length_map, List.length_map, List.length_map]
      exact Nat.le_of_lt (lt_line (by omega))
    have s8 := same_new hp4 (.lst (ss.map V.int ++ (ss.map fun s => -s).map V.int))
    have st := Ms.szs_step pl (l.drop (i + 1)) Cs
    rw [← dr, hE, hO] at st
    refine ⟨p3, p4, Ms.step Cs pl, ss ++ ss.map fun s => -s, some (.int pl), some (.ref m1), v8, v9, v10, v11, v12, rfl, sH.trans (sA.trans (s7.trans s8)), ?_, ?_, ?_, ?_, ?_⟩
    · rw [s8 _ _ (s7 _ _ upd_same), ← vN_app, st]
    · rw [upd_same, List.map_append]
    · unfold Ms.step
      rw [List.length_append, List.length_map, lC, Nat.pow_succ]
      omega
    · rw [List.length_append, List.length_map, lS, Nat.pow_succ]
      omega
    · rw [Ms.tot_step pl (l.drop (i + 1)) most (by rw [lC, lS]), ← dr]
      exact ht
  · rintro σ H2 ⟨rf, rs, Cs, ss, v6, v7, v8, v9, v10, v11, v12, rfl, sH, hrf, hrs, lC, lS, ht⟩
    rw [vN_len, List.drop_length] at hrf ht
    rw [szs_nil] at hrf
    rw [tot_zip] at ht
    have zl : Cs.length ≤ 1048576 := by rw [lC, vN_len]; exact two_pow20 hl
    have zs : ss.length = Cs.length := by rw [lC, lS]
    have le24 : ∀ x ∈ Cs.map Ms.sz, x ≤ 1024 := fun x hx => by
      obtain ⟨y, _, rfl⟩ := List.mem_map.mp hx
      exact M_le y
    have la : (Cs.map Ms.sz).length = Cs.length := List.length_map _
    generalize Cs.map Ms.sz = As at *
    refine fun pd hpd => ?_
    have s3 := same_new hpd (.dK [])
    refine ⟨_, rfl, _, rfl, rf, rs, _, _, rfl, SqL.of (s3 _ _ hrf), SqL.of (s3 _ _ hrs), ?_⟩
    have nrf : rf ≠ pd := ne_of_none hrf hpd
    have nrs : rs ≠ pd := ne_of_none hrs hpd
    refine for_zip (xs := vN As) (ys := ss.map V.int) (fun j σ H' => ∃ (D : List (Nat × Int)) (v9 v10 : Option V), σ = [some (.ref p), some (.ref a), some (.int c), some (.int most), some (.ref rf), some (.ref rs), v6, v7, some (.ref pd), v9, v10, v11, v12] ∧ Same H2 H' ∧ H' pd = some (.dK (D.map ph)) ∧
        (D.map (·.1)).Nodup ∧ D.length ≤ j ∧ (∀ x ∈ D.map (·.1), x ≤ 1024) ∧ sumN (fun k => upto k (most + 1)) D = zsum most ((As.zip ss).take j))
      ⟨[], v9, v10, rfl, s3, upd_same, List.nodup_nil, Nat.le_refl _, fun x hx => by simp at hx, rfl⟩ (fun j σ H' _ ⟨_, _, _, _, h, _⟩ => ⟨h.seq (SqL.of hrf), h.seq (SqL.of hrs)⟩) ?_ ?_
    · rintro j x y T σ H3 hx hy ⟨D, v9, v10, rfl, sH3, hd3, nd, dl, d24, hsum⟩ hT
      obtain ⟨u, hu, rfl⟩ := vN_at hx
      obtain ⟨v, hv, rfl⟩ := int_at hy
      have hj := (List.getElem?_eq_some_iff.mp hu).1
      have sT := same_new hT (.tup [V.int u, V.int v])
      have hz : (As.zip ss)[j]? = some (u, v) := List.getElem?_zip_eq_some.mpr ⟨hu, hv⟩
      refine ⟨T, _, rfl, SqT.of upd_same, rfl, _, _, rfl, _, _, rfl, rfl, ?_⟩
      refine ⟨_, rfl, pd, rfl, .inl ⟨_, .inl (sT _ _ hd3)⟩, _, rfl, _, DGet.k (k := Sum.inl (u : Int)) (sT _ _ hd3), ?_⟩
      rw [val_ph]
      refine ⟨_, rfl, _, _, rfl, rfl, _, rfl, _, rfl, pd, _, rfl, DPut.k (k := Sum.inl (u : Int)) (sT _ _ hd3) (by rw [List.length_map]; exact lt_line (by omega)), ?_⟩
      dsimp only
      rw [put_ph u v nd]
      refine ⟨addN D u v, some (.int u), some (.int v), rfl, fun b o hb => ?_, upd_same, nd_addN u v nd, ?_, fun x hx => ?_, ?_⟩
      · rw [upd_ne (ne_of_none hb hpd)]
        exact (sH3.trans sT) b o hb
      · have := len_addN u v D
        omega
      · rcases (keys_addN u v D x).mp hx with z | z
        · exact d24 x z
        · rw [z]; exact le24 u (List.mem_of_getElem? hu)
      · rw [sum_addN, hsum, take_snoc hz]
        unfold zsum
        rw [List.map_append, List.sum_append]
        show _ = _ + (([v * (upto u (most + 1) : Int)] : List Int)).sum
        simp
    · rintro σ H3 ⟨D, v9, v10, rfl, sH3, hd3, nd, dl, d24, hsum⟩
      have lz : min (vN As).length (ss.map V.int).length = (As.zip ss).length := by rw [vN_len, List.length_map, List.length_zip]
      rw [lz, List.take_length, ht] at hsum
      have dl2 : D.length ≤ 1048576 := by
        rw [lz, List.length_zip] at dl
        omega
      refine ⟨pd, _, hd3, trivial, fun od => ?_⟩
      refine ⟨_, rfl, pd, od, _, rfl, upd_same, fun L hL => ?_⟩
      have npd : ∀ b o, H b = some o → b ≠ pd := fun b o e => ne_of_none (sH b o e) hpd
      refine lc_items (kvs := D.map ph) (fun j H' => Same (upd H3 pd (.frz od (.dK (D.map ph)))) H' ∧ H' L = some (.lst (((D.take j).map fun p => p.2 * (upto p.1 (most + 1) : Int)).map V.int))) ⟨same_new hL _, upd_same⟩ (fun j H' _ h => h.1 _ _ upd_same) ?_ ?_
      · rintro j k v T H4 hkv ⟨sH4, hL4⟩ hT
        rw [List.getElem?_map] at hkv
        cases e : D[j]? with
        | none => rw [e] at hkv; cases hkv
        | some nz =>
          rw [e] at hkv
          obtain ⟨n, z⟩ := nz
          cases hkv
          have hj := (List.getElem?_eq_some_iff.mp e).1
          have n24 : n ≤ 1024 := d24 n (List.mem_map.mpr ⟨(n, z), List.mem_of_getElem? e, rfl⟩)
          have ub := upto_le n24 (most + 1) (by omega)
          have sT := same_new hT (.tup [V.int n, V.int z])
          have ub2 : (most + 1) * 1025 ^ 4 ≤ 5 * 1025 ^ 4 := Nat.mul_le_mul_right _ (by omega)
          refine ⟨T, _, rfl, SqT.of upd_same, rfl, _, _, rfl, _, _, rfl, rfl, rfl, _, rfl, _, rfl, _, rfl, n, most, rfl, by omega, by omega, _, _, rfl, rfl, Or.inr ⟨by omega, ?_⟩, _, sT _ _ hL4, ?_, ?_, ?_⟩
          · have : (5 : Nat) * 1025 ^ 4 < 2 ^ 64 := by decide
            have : upto n (most + 1) < 2 ^ 64 := by omega
            exact_mod_cast this
          · rw [List.length_map, List.length_map, List.length_take]
            exact lt_line (by omega)
          · intro b o hbo
            rw [upd_ne (ne_of_none hbo hL)]
            exact (sH4.trans sT) b o hbo
          · rw [upd_same, take_snoc e, List.map_append, List.map_append]
            rfl
      · rintro H4 ⟨sH4, hL4⟩
        rw [List.length_map, List.take_length] at hL4
        refine ⟨L, _, rfl, SqL.of hL4, sH4 _ _ upd_same, ?_⟩
        have e : ((D.map fun p => p.2 * (upto p.1 (most + 1) : Int)).sum) = ((Cv.hs l (Cv.M c) most : Nat) : Int) := hsum
        rw [e]
        refine q _ fun b o hb => ?_
        have n1 := npd b o hb
        rw [upd_ne n1]
        refine sH4 b o ?_
        rw [upd_ne n1]
        exact sH3 b o (sH b o hb)
end
theorem cnt_filter {c x : Nat} (f : Nat → Bool) (h : ∀ i, x.testBit i = (c.testBit i && f i)) : (Cv.M c).countP f = Ms.sz x := by
  show _ = (Cr.ms 1024 x).length
  unfold Cv.M Cr.ms
  rw [List.countP_eq_length_filter, List.filter_filter]
  congr 1
  apply List.filter_congr
  intro i _
  rw [h i, Bool.and_comm]
theorem bit_ne0 (p k : Nat) : (p &&& 2 ^ k != 0) = p.testBit k := by rw [← nat_ne0, and_pow]
theorem one_size {l : List Nat} {c x : Nat} (hne : l ≠ []) (hx : ∀ i, x.testBit i = (c.testBit i && l.all fun p => p &&& 0 != 0 || p.testBit i)) : Cv.hs l (Cv.M c) 1 = Ms.sz x := by
  rw [Cv.hs_one]
  have e : l.isEmpty = false := by
    cases l with
    | nil => exact absurd rfl hne
    | cons a b => rfl
  rw [e, cnt_filter (x := x)]
  · simp
  · intro i
    rw [hx i]
    congr 2
    funext p
    rw [Nat.and_zero]
    rfl
theorem all_without (l : List Nat) (k i : Nat) : (l.all fun p => p &&& 2 ^ k != 0 || p.testBit i) = (Hi.without l k).all fun p => p.testBit i := by
  rw [Bool.eq_iff_iff, List.all_eq_true, List.all_eq_true]
  constructor
  · intro h p hp
    obtain ⟨h1, h2⟩ := Cv.mem_without.mp hp
    have := h p h1
    rw [bit_ne0, h2, Bool.false_or] at this
    exact this
  · intro h p hp
    rw [bit_ne0]
    cases e : p.testBit k with
    | true => rfl
    | false => rw [h p (Cv.mem_without.mpr ⟨hp, e⟩)]; rfl
theorem or_bit (c k i : Nat) : (c ||| 2 ^ k).testBit i = (c.testBit i || decide (i = k)) := by
  rw [Nat.testBit_or, Nat.testBit_two_pow]
  congr 1
  exact decide_eq_decide.mpr ⟨fun h => h.symm, fun h => h.symm⟩
theorem two_size {l : List Nat} {c x k : Nat} (hk : c.testBit k = false) (hc : c < 2 ^ 1024) (hk2 : k < 1024) (hx : ∀ i, x.testBit i = ((c ||| 2 ^ k).testBit i && l.all fun p => p &&& 2 ^ k != 0 || p.testBit i)) : Cv.hs (Hi.without l k) (Cv.M c) 1 = Ms.sz x := by
  rw [Cv.hs_one]
  cases e : Hi.without l k with
  | nil =>
    have ex : x = c ||| 2 ^ k := by
      apply Nat.eq_of_testBit_eq
      intro i
      rw [hx i, all_without, e]
      simp
    have ek : (c ||| 2 ^ k).testBit k = true := by rw [or_bit]; simp
    have lt : c ||| 2 ^ k < 2 ^ 1024 := Nat.or_lt_two_pow hc (Nat.pow_lt_pow_right (by decide) hk2)
    have eo : (c ||| 2 ^ k) ^^^ 2 ^ k = c := by
      apply Nat.eq_of_testBit_eq
      intro i
      rw [Cv.xor_bit ek, or_bit]
      by_cases h : i = k
      · subst h; simp [hk]
      · simp [h]
    have := Cv.len_out lt ek
    rw [eo] at this
    show 1 + (Cv.M c).countP (fun _ => true) = (Cv.M x).length
    rw [ex, this, List.countP_true]
    omega
  | cons p0 r =>
    have hp0 : p0 ∈ Hi.without l k := by rw [e]; exact List.mem_cons_self
    have nk := (Cv.mem_without.mp hp0).2
    rw [← e, cnt_filter (x := x)]
    · rw [e]; simp
    · intro i
      rw [hx i, all_without, or_bit]
      by_cases h : i = k
      · subst h
        have : ((Hi.without l i).all fun p => p.testBit i) = false := by
          rw [List.all_eq_false]
          exact ⟨p0, hp0, by simp [nk]⟩
        rw [this, Bool.and_false, Bool.and_false]
      · simp [h]
theorem last_some {l : List Nat} {c x k j : Nat} (hx : ∀ i, x.testBit i = ((c ||| 2 ^ k).testBit i && l.all fun p => p &&& 2 ^ k != 0 || p.testBit i)) (hj : x.testBit j = true) {c0 : Nat} (hk0 : c0.testBit k = true) (hs : ∀ y, c.testBit y = true → c0.testBit y = true) : Cv.Good l c0 2 (2 ^ k ||| 2 ^ j) := by
  rw [hx j, or_bit] at hj
  obtain ⟨h1, h2⟩ := Bool.and_eq_true_iff.mp hj
  have m0 : (Cv.M (2 ^ j)).length ≤ 1 := by
    have := Cv.len_or j 0
    rw [Nat.or_zero] at this
    have z : (Cv.M 0).length = 0 := sz_zero
    omega
  refine ⟨fun y hy => ?_, Nat.le_trans (Cv.len_or k (2 ^ j)) (by omega), fun p hp => ?_⟩
  · rw [Nat.testBit_or, Nat.testBit_two_pow, Nat.testBit_two_pow] at hy
    rcases Bool.or_eq_true_iff.mp hy with e | e
    · exact of_decide_eq_true e ▸ hk0
    · have e := of_decide_eq_true e
      subst e
      rcases Bool.or_eq_true_iff.mp h1 with z | z
      · exact hs j z
      · exact of_decide_eq_true z ▸ hk0
  · have := List.all_eq_true.mp h2 p hp
    rw [bit_ne0] at this
    rcases Bool.or_eq_true_iff.mp this with e | e
    · exact ⟨k, by rw [Nat.testBit_or, Nat.testBit_two_pow_self]; rfl, e⟩
    · exact ⟨j, by rw [Nat.testBit_or, Nat.testBit_two_pow_self, Bool.or_true], e⟩
theorem last_none {l : List Nat} {c k : Nat} (hx : ∀ i, (0 : Nat).testBit i = ((c ||| 2 ^ k).testBit i && l.all fun p => p &&& 2 ^ k != 0 || p.testBit i)) : ¬ Cv.Cov (Hi.without l k) c 1 := by
  rintro ⟨s, h1, h2, h3⟩
  have no : ∀ i, (c ||| 2 ^ k).testBit i = true → ∃ p ∈ Hi.without l k, p.testBit i = false := fun i hi => by
    have := hx i
    rw [Nat.zero_testBit, hi, Bool.true_and, all_without] at this
    obtain ⟨p, hp, e⟩ := List.all_eq_false.mp this.symm
    exact ⟨p, hp, by simpa using e⟩
  match s, h1, h2, h3 with
  | [], _, _, h3 =>
    obtain ⟨p, hp, _⟩ := no k (by rw [or_bit]; simp)
    obtain ⟨x, hx, _⟩ := h3 p hp
    cases hx
  | [y], _, h2, h3 =>
    obtain ⟨p, hp, e⟩ := no y (by rw [or_bit, h2 y List.mem_cons_self]; rfl)
    obtain ⟨x, hx, e2⟩ := h3 p hp
    rw [List.mem_singleton.mp hx, e] at e2
    cases e2
  | _ :: _ :: _, h1, _, _ => simp at h1
def spCount (K : PySem.W.Frag) (C : Addr) (j : Nat) : Sp := fun vs H Q _ => ∃ (p a : Addr) (l : List Nat) (c most : Nat), vs = [.ref p, .ref a, .int c, .int most] ∧ CI C H p ∧ SqL K H a (vN l) ∧ l.length ≤ 100000 ∧ most < j ∧ most ≤ 4 ∧ c < 2 ^ 1024 ∧
  ∀ H', Same H H' → Q (.int (Cv.hs l (Cv.M c) most : Nat)) H'
def spSome (K : PySem.W.Frag) (C : Addr) (j : Nat) : Sp := fun vs H Q _ => ∃ (p a : Addr) (l : List Nat) (c most : Nat), vs = [.ref p, .ref a, .int c, .int most] ∧ CI C H p ∧ SqL K H a (vN l) ∧ l.length ≤ 100000 ∧ most < j ∧ most ≤ 4 ∧ c < 2 ^ 1024 ∧
  ∀ H', Same H H' → (¬ Cv.Cov l c most → Q .non H') ∧ ∀ r : Nat, Cv.Good l c most r → Q (.int r) H'
section
variable {P : Program} {w : World} {K : PySem.W.Frag} {mg : Str → Option Value} {base : Heap} {f C : Addr} {fd : FuncData}
theorem ok_count {j k : Nat} (hk : 3 ≤ k) (T : TxtC K C) (C_subsets : Callee P w K mg base 1 "subsets" (["size", "most"] : List Str) spSubsets) (C_too_many_apart : Callee P w K mg base 1 "too_many_apart" (["pools", "crowd", "most"] : List Str) (spTooMany K)) (C_in_all_others : Callee P w K mg base 1 "in_all_others" (["pools", "one", "crowd"] : List Str) (spAllOthers K))
    (C_not_hit : Callee P w K mg base 1 "not_hit" (["pools", "one"] : List Str) (spNotHit K)) (M_Covers_size_of : MCallee P w K mg base 1 C "size_of" (["self", "crowd"] : List Str) (spSize C)) (M_Covers_missed_is_shorter : MCallee P w K mg base 2 C "missed_is_shorter" (["self", "pools", "crowd", "most"] : List Str) (spShort K C))
    (M_Covers_count_by_missed : MCallee P w K mg base 3 C "count_by_missed" (["self", "pools", "crowd", "most"] : List Str) (spByMissed K C)) (M_Covers_one_of_these : MCallee P w K mg base 3 C "one_of_these" (["self", "pools", "crowd", "most"] : List Str) (spOneOf K C)) (M_Covers_count_in : MCallee P w K mg base k C "count_in" (["self", "pools", "crowd", "most"] : List Str) (spCount K C j))
    (F : Fun K "count_in" "Covers.count_in" s_Covers_count_in f fd) : FnOk P w K mg base CX0 (k + 1) f fd (["self", "pools", "crowd", "most"] : List Str) (spCount K C (j + 1)) := by
  refine F.ok sc_Covers_count_in (fun vs H Q E h => ?_) (fun cdv A outer s H vs Q E hr h => ?_)
  · obtain ⟨p, a, l, c, most, rfl, _⟩ := h
    rfl
  obtain ⟨p, a, l, c, most, rfl, hI, hS, hl, hj, hm4, hc, q⟩ := h
  obtain ⟨dx, fs, hp, cm⟩ := id hI
  refine ⟨_, (pss_cons (ps_if (pt_not (pt_truth (pv 1) (fun _ => rfl))) (pss_one (ps_ret (pe_callC C_subsets (hr.mono (by omega)) (by rfl) (pa_cons (pe_methC (pv 0) M_Covers_size_of (hr.mono (by omega)) (pa_cons (pv 2) pa_nil)) (pa_cons (pv 3) pa_nil))))) pss_nil)
   (pss_cons (ps_if (pw_or (pt_cmpR op_eq (pv 3) pe_int (nomark _)) (pw_or1 (pt_truth (pe_callC C_too_many_apart (hr.mono (by omega)) (by rfl) (pa_cons (pv 1) (pa_cons (pv 2) (pa_cons (pv 3) pa_nil)))) (fun _ => rfl)))).pt (pss_one (ps_ret pe_int)) pss_nil)
   (pss_cons (ps_if (pt_cmpR op_eq (pv 3) pe_int (nomark _)) (pss_one (ps_ret (pe_methC (pv 0) M_Covers_size_of (hr.mono (by omega)) (pa_cons (pe_callC C_in_all_others (hr.mono (by omega)) (by rfl) (pa_cons (pv 1) (pa_cons pe_int (pa_cons (pv 2) pa_nil)))) pa_nil)))) pss_nil)
   (pss_cons (ps_if (pt_truth (pe_methC (pv 0) M_Covers_missed_is_shorter (hr.mono (by omega)) (pa_cons (pv 1) (pa_cons (pv 2) (pa_cons (pv 3) pa_nil)))) (fun _ => rfl)) (pss_one (ps_ret (pe_methC (pv 0) M_Covers_count_by_missed (hr.mono (by omega)) (pa_cons (pv 1) (pa_cons (pv 2) (pa_cons (pv 3) pa_nil)))))) pss_nil)
   (pss_cons (ps_sw (i := 4) sc_Covers_count_in.nd pe_int)
   (pss_cons (ps_sw (i := 5) sc_Covers_count_in.nd (pe_methC (pv 0) M_Covers_one_of_these (hr.mono (by omega)) (pa_cons (pv 1) (pa_cons (pv 2) (pa_cons (pv 3) pa_nil)))))
   (pss_cons (ps_while PassesOwn.never (pt_truth (pv 5) (fun _ => rfl)) (pss_cons (ps_sw (i := 6) sc_Covers_count_in.nd (pe_op op_and (pv 5) (pe_un un_neg (pv 5))))
   (pss_cons (ps_aw (i := 5) sc_Covers_count_in.nd (pv 6) (ip_of iop_xor))
   (pss_cons (ps_aw (i := 2) sc_Covers_count_in.nd (pv 6) (ip_of iop_xor))
   (pss_one (ps_if (pt_cmpR op_eq (pv 3) pe_int (nomark _)) (pss_one (ps_aw (i := 4) sc_Covers_count_in.nd (pe_methC (pv 0) M_Covers_size_of (hr.mono (by omega)) (pa_cons (pe_callC C_in_all_others (hr.mono (by omega)) (by rfl) (pa_cons (pv 1) (pa_cons (pv 6) (pa_cons (pe_op op_or (pv 2) (pv 6)) pa_nil)))) pa_nil)) (ip_of iop_add))) (pss_one (ps_aw (i := 4) sc_Covers_count_in.nd (pe_methC (pv 0) M_Covers_count_in (hr.mono (by omega)) (pa_cons (pe_callC C_not_hit (hr.mono (by omega)) (by rfl) (pa_cons (pv 1) (pa_cons (pv 6) pa_nil))) (pa_cons (pv 2) (pa_cons (pe_op op_sub (pv 3) pe_int) pa_nil)))) (ip_of iop_add)))))))))
   (pss_one (ps_ret (pv 4)))))))))), ?_⟩
  refine ⟨_, rfl, _, Or.inl ⟨_, hS, rfl⟩, ?_⟩
  by_cases hne : l = []
  · subst hne
    refine iteT ?_
    refine ⟨_, rfl, p, dx, fs, rfl, hp, cm.m1, _, rfl, p, c, rfl, hI, hc, _, rfl, Ms.sz c, most, rfl, by have := M_le c; omega, by omega, ?_⟩
    have e : Cv.hs [] (Cv.M c) most = upto (Ms.sz c) (most + 1) := hs_empty (Cv.M c) most
    rw [← e]
    exact q H (Same.refl H)
  have ie : (vN l).isEmpty = false := by
    cases l with
    | nil => exact absurd rfl hne
    | cons a b => rfl
  rw [ie]
  refine iteF ?_
  refine ⟨_, rfl, rfl, _, rfl, ?_⟩
  refine ite2 (fun c0 => ?_) (fun c0 => ?_)
  · have c' : (most : Int) = 0 := V.int.inj (of_decide_eq_true c0)
    have m0 : most = 0 := by omega
    subst m0
    refine iteT ?_
    have e : Cv.hs l (Cv.M c) 0 = 0 := Cv.hs_none hc fun z => hne (Cv.cov_zero.mp z)
    have := q H (Same.refl H)
    rw [e] at this
    exact this
  have m0 : most ≠ 0 := fun e => (of_decide_eq_false (Bool.eq_false_iff.mpr c0)) (by rw [e]; rfl)
  refine ⟨_, rfl, _, rfl, _, rfl, a, l, c, most, rfl, hS, fun b ht hf => ⟨_, rfl, ?_⟩⟩
  cases b with
  | true =>
    refine iteT ?_
    have := q H (Same.refl H)
    rw [Cv.hs_none hc (ht rfl)] at this
    exact this
  | false =>
  refine iteF ?_
  have hall := hf rfl
  refine ⟨_, rfl, rfl, _, rfl, ?_⟩
  refine ite2 (fun c1 => ?_) (fun c1 => ?_)
  · have c' : (most : Int) = 1 := V.int.inj (of_decide_eq_true c1)
    have m1 : most = 1 := by omega
    subst m1
    refine ⟨_, rfl, p, dx, fs, rfl, hp, cm.m1, _, rfl, _, rfl, a, l, 0, c, rfl, hS, fun x hx => ⟨p, x, rfl, hI, ?_, ?_⟩⟩
    · exact Cv.sub_lt hc fun i hi => by
        rw [hx i] at hi
        exact (Bool.and_eq_true_iff.mp hi).1
    · rw [← one_size hne hx]
      exact q H (Same.refl H)
  have m1 : most ≠ 1 := fun e => (of_decide_eq_false (Bool.eq_false_iff.mpr c1)) (by rw [e]; rfl)
  refine ⟨_, rfl, p, dx, fs, rfl, hp, cm.m5, _, rfl, _, rfl, _, rfl, p, a, l, c, most, rfl, hI, hS, hne, hall, by omega, hm4, hc, fun b hb => ⟨_, rfl, ?_⟩⟩
  cases b with
  | true => exact iteT ⟨_, rfl, p, dx, fs, rfl, hp, cm.m6, _, rfl, _, rfl, _, rfl, p, a, l, c, most, rfl, hI, hS, hb rfl, hm4, hc, q⟩
  | false =>
  refine iteF ?_
  obtain ⟨mo, rfl⟩ : ∃ mo, most = mo + 1 := ⟨most - 1, by omega⟩
  refine ⟨_, rfl, p, dx, fs, rfl, hp, cm.m4, _, rfl, _, rfl, _, rfl, p, a, l, c, mo + 1, rfl, hI, hS, hne, hl, by omega, hm4, hc, fun N H1 s1 hN hNl => ?_⟩
  refine ⟨fun m σ H' => ∃ (cr nd tot : Nat) (v6 : Option V), σ = [some (.ref p), some (.ref a), some (.int cr), some (.int (mo + 1 : Nat)), some (.int tot), some (.int nd), v6] ∧ Same H H' ∧ m = nd ∧ cr < 2 ^ 1024 ∧ Cv.Need l cr (mo + 1) nd ∧ Cv.hs l (Cv.M c) (mo + 1) = tot + Cv.hs l (Cv.M cr) (mo + 1),
    ⟨N, c, N, 0, none, rfl, s1, rfl, hc, hN, by omega⟩, ?_⟩
  rintro m σ H2 ⟨cr, nd, tot, v6, rfl, s2, rfl, crl, hnd, heq⟩
  refine ⟨_, rfl, _, rfl, ?_⟩
  by_cases h0 : m = 0
  · subst h0
    refine iteF ⟨_, rfl, ?_⟩
    have e : Cv.hs l (Cv.M c) (mo + 1) = tot := by rw [heq, Cv.hs_none crl hnd.none]; rfl
    have := q H2 s2
    rw [e] at this
    exact this
  rw [bne0 h0]
  obtain ⟨k1, lk, ek⟩ := Cr.low_of m h0
  have crk : cr.testBit k1 = true := hnd.1 k1 lk.1
  have k1l : k1 < 1024 := Cv.bit_lt crl crk
  obtain ⟨ld, _⟩ := Cr.low_drop lk
  have crl' := Cv.xor_lt crl crk
  have nk : (cr ^^^ 2 ^ k1).testBit k1 = false := by rw [Cv.xor_bit crk]; simp
  have hp2 := s2 _ _ hp
  have hI2 := hI.same s2
  refine iteT ⟨_, fun _ _ z => z, _, rfl, _, rfl, _, rfl, _, _, rfl, rfl, ?_⟩
  dsimp only
  rw [ek]
  refine ⟨_, rfl, _, rfl, _, _, rfl, rfl, _, rfl, _, rfl, _, _, rfl, rfl, ?_⟩
  dsimp only
  rw [Cr.xor_nat, Cr.xor_nat]
  refine ⟨_, rfl, rfl, _, rfl, ?_⟩
  have out := Cv.hs_out (P := l) (m := mo) crl crk
  refine ite2 (fun c2 => ?_) (fun c2 => ?_)
  · have c' : ((mo + 1 : Nat) : Int) = 2 := V.int.inj (of_decide_eq_true c2)
    have m2 : mo = 1 := by omega
    subst m2
    refine ⟨_, rfl, _, rfl, p, dx, fs, rfl, hp2, cm.m1, _, rfl, _, rfl, _, rfl, _, rfl, _, _, rfl, rfl, a, l, 2 ^ k1, (cr ^^^ 2 ^ k1) ||| 2 ^ k1, (by rw [← Cr.or_nat]; rfl), s2.seq hS, fun x hx => ⟨p, x, rfl, hI2, ?_, ?_⟩⟩
    · refine Cv.sub_lt (Nat.or_lt_two_pow crl' (Nat.pow_lt_pow_right (by decide) k1l)) fun i hi => ?_
      rw [hx i] at hi
      exact (Bool.and_eq_true_iff.mp hi).1
    · refine ⟨_, _, rfl, rfl, m ^^^ 2 ^ k1, ld, cr ^^^ 2 ^ k1, m ^^^ 2 ^ k1, tot + Ms.sz x, some (.int (2 ^ k1 : Nat)), ?_, s2, rfl, crl', hnd.out lk.1, ?_⟩
      · rw [Int.natCast_add]
        rfl
      · rw [← two_size nk crl' k1l hx]
        omega
  · refine ⟨_, rfl, _, rfl, p, dx, fs, rfl, hp2, cm.m3, _, rfl, _, rfl, a, l, k1, rfl, s2.seq hS, by omega, fun r H3 s3 f3 h3 => ?_⟩
    have lw : (Hi.without l k1).length ≤ l.length := List.length_filter_le _ _
    have e1 : ((mo + 1 : Nat) : Int) - 1 = (mo : Int) := by omega
    refine ⟨_, rfl, _, rfl, _, _, rfl, rfl, p, r, Hi.without l k1, cr ^^^ 2 ^ k1, mo, (by rw [← e1]; rfl), hI2.same s3, SqL.of h3, by omega, by omega, by omega, crl', fun H4 s4 => ?_⟩
    refine ⟨_, _, rfl, rfl, m ^^^ 2 ^ k1, ld, cr ^^^ 2 ^ k1, m ^^^ 2 ^ k1, tot + Cv.hs (Hi.without l k1) (Cv.M (cr ^^^ 2 ^ k1)) mo, some (.int (2 ^ k1 : Nat)), ?_, s2.trans (s3.trans s4), rfl, crl', hnd.out lk.1, ?_⟩
    · rw [Int.natCast_add]
      rfl
    · omega
theorem count_none {k : Nat} (F : Fun K "count_in" "Covers.count_in" s_Covers_count_in f fd) : FnOk P w K mg base CX0 k f fd (["self", "pools", "crowd", "most"] : List Str) (spCount K C 0) := by
  have no : ∀ vs H Q E, ¬ spCount K C 0 vs H Q E := fun vs H Q E h => by
    obtain ⟨p, a, l, c, most, _, _, _, _, h1, _⟩ := h
    omega
  exact ⟨fun vs H Q E h => absurd h (no vs H Q E), fun A outer s H args us vs Q E _ _ _ _ h => absurd h (no vs H Q E)⟩
theorem count_all (T : TxtC K C) (C_subsets : Callee P w K mg base 1 "subsets" (["size", "most"] : List Str) spSubsets) (C_too_many_apart : Callee P w K mg base 1 "too_many_apart" (["pools", "crowd", "most"] : List Str) (spTooMany K)) (C_in_all_others : Callee P w K mg base 1 "in_all_others" (["pools", "one", "crowd"] : List Str) (spAllOthers K))
    (C_not_hit : Callee P w K mg base 1 "not_hit" (["pools", "one"] : List Str) (spNotHit K)) (M_Covers_size_of : MCallee P w K mg base 1 C "size_of" (["self", "crowd"] : List Str) (spSize C)) (M_Covers_missed_is_shorter : MCallee P w K mg base 2 C "missed_is_shorter" (["self", "pools", "crowd", "most"] : List Str) (spShort K C))
    (M_Covers_count_by_missed : MCallee P w K mg base 3 C "count_by_missed" (["self", "pools", "crowd", "most"] : List Str) (spByMissed K C)) (M_Covers_one_of_these : MCallee P w K mg base 3 C "one_of_these" (["self", "pools", "crowd", "most"] : List Str) (spOneOf K C))
    (E : TopMeth K C "count_in" "Covers.count_in" s_Covers_count_in (["self", "pools", "crowd", "most"] : List Str)) : ∀ j : Nat, MCallee P w K mg base (3 + j) C "count_in" (["self", "pools", "crowd", "most"] : List Str) (spCount K C j)
  | 0 => E.callee T.cl fun f fd F => count_none F
  | j + 1 => E.callee T.cl fun f fd F => ok_count (show 3 ≤ 3 + j by omega) T C_subsets C_too_many_apart C_in_all_others C_not_hit M_Covers_size_of M_Covers_missed_is_shorter M_Covers_count_by_missed M_Covers_one_of_these
      (count_all T C_subsets C_too_many_apart C_in_all_others C_not_hit M_Covers_size_of M_Covers_missed_is_shorter M_Covers_count_by_missed M_Covers_one_of_these E j) F
theorem ok_some {j k : Nat} (hk : 3 ≤ k) (T : TxtC K C) (C_too_many_apart : Callee P w K mg base 1 "too_many_apart" (["pools", "crowd", "most"] : List Str) (spTooMany K)) (C_in_all_others : Callee P w K mg base 1 "in_all_others" (["pools", "one", "crowd"] : List Str) (spAllOthers K))
    (C_not_hit : Callee P w K mg base 1 "not_hit" (["pools", "one"] : List Str) (spNotHit K)) (M_Covers_one_of_these : MCallee P w K mg base 3 C "one_of_these" (["self", "pools", "crowd", "most"] : List Str) (spOneOf K C)) (M_Covers_some : MCallee P w K mg base k C "some" (["self", "pools", "crowd", "most"] : List Str) (spSome K C j))
    (F : Fun K "some" "Covers.some" s_Covers_some f fd) : FnOk P w K mg base CX0 (k + 1) f fd (["self", "pools", "crowd", "most"] : List Str) (spSome K C (j + 1)) := by
  refine F.ok sc_Covers_some (fun vs H Q E h => ?_) (fun cdv A outer s H vs Q E hr h => ?_)
  · obtain ⟨p, a, l, c, most, rfl, _⟩ := h
    rfl
  obtain ⟨p, a, l, c, most, rfl, hI, hS, hl, hj, hm4, hc, q⟩ := h
  obtain ⟨dx, fs, hp, cm⟩ := id hI
  refine ⟨_, (pss_cons (ps_if (pt_not (pt_truth (pv 1) (fun _ => rfl))) (pss_one (ps_ret pe_int)) pss_nil)
   (pss_cons (ps_if (pw_or (pt_cmpR op_eq (pv 3) pe_int (nomark _)) (pw_or1 (pt_truth (pe_callC C_too_many_apart (hr.mono (by omega)) (by rfl) (pa_cons (pv 1) (pa_cons (pv 2) (pa_cons (pv 3) pa_nil)))) (fun _ => rfl)))).pt (pss_one (ps_ret pe_non)) pss_nil)
   (pss_cons (ps_sw (i := 4) sc_Covers_some.nd (pe_methC (pv 0) M_Covers_one_of_these (hr.mono (by omega)) (pa_cons (pv 1) (pa_cons (pv 2) (pa_cons (pv 3) pa_nil)))))
   (pss_cons (ps_while PassesOwn.never (pt_truth (pv 4) (fun _ => rfl)) (pss_cons (ps_sw (i := 5) sc_Covers_some.nd (pe_op op_and (pv 4) (pe_un un_neg (pv 4))))
   (pss_cons (ps_aw (i := 4) sc_Covers_some.nd (pv 5) (ip_of iop_xor))
   (pss_cons (ps_aw (i := 2) sc_Covers_some.nd (pv 5) (ip_of iop_xor))
   (pss_cons (ps_if (pt_cmpR op_eq (pv 3) pe_int (nomark _)) (pss_cons (ps_sw (i := 6) sc_Covers_some.nd (pe_callC C_in_all_others (hr.mono (by omega)) (by rfl) (pa_cons (pv 1) (pa_cons (pv 5) (pa_cons (pe_op op_or (pv 2) (pv 5)) pa_nil)))))
   (pss_one (ps_sw (i := 7) sc_Covers_some.nd (pe_ifExp (pt_truth (pv 6) (fun _ => rfl)) (pe_op op_and (pv 6) (pe_un un_neg (pv 6))) pe_non)))) (pss_one (ps_sw (i := 7) sc_Covers_some.nd (pe_methC (pv 0) M_Covers_some (hr.mono (by omega)) (pa_cons (pe_callC C_not_hit (hr.mono (by omega)) (by rfl) (pa_cons (pv 1) (pa_cons (pv 5) pa_nil))) (pa_cons (pv 2) (pa_cons (pe_op op_sub (pv 3) pe_int) pa_nil)))))))
   (pss_one (ps_if (pt_cmpR op_notN (pv 7) pe_non (nomark _)) (pss_one (ps_ret (pe_op op_or (pv 5) (pv 7)))) pss_nil)))))))
   (pss_one (ps_ret pe_non)))))), ?_⟩
  refine ⟨_, rfl, _, Or.inl ⟨_, hS, rfl⟩, ?_⟩
  by_cases hne : l = []
  · subst hne
    refine iteT ?_
    have z0 : (Cv.M 0).length = 0 := sz_zero
    exact (q H (Same.refl H)).2 0 ⟨fun x hx => (by rw [Nat.zero_testBit] at hx; cases hx), by omega, fun p hp => by cases hp⟩
  have ie : (vN l).isEmpty = false := by
    cases l with
    | nil => exact absurd rfl hne
    | cons a b => rfl
  rw [ie]
  refine iteF ?_
  refine ⟨_, rfl, rfl, _, rfl, ?_⟩
  refine ite2 (fun c0 => ?_) (fun c0 => ?_)
  · have c' : (most : Int) = 0 := V.int.inj (of_decide_eq_true c0)
    have m0 : most = 0 := by omega
    subst m0
    exact iteT ((q H (Same.refl H)).1 fun z => hne (Cv.cov_zero.mp z))
  have m0 : most ≠ 0 := fun e => (of_decide_eq_false (Bool.eq_false_iff.mpr c0)) (by rw [e]; rfl)
  refine ⟨_, rfl, _, rfl, _, rfl, a, l, c, most, rfl, hS, fun b ht hf => ⟨_, rfl, ?_⟩⟩
  cases b with
  | true => exact iteT ((q H (Same.refl H)).1 (ht rfl))
  | false =>
  refine iteF ?_
  obtain ⟨mo, rfl⟩ : ∃ mo, most = mo + 1 := ⟨most - 1, by omega⟩
  refine ⟨_, rfl, p, dx, fs, rfl, hp, cm.m4, _, rfl, _, rfl, _, rfl, p, a, l, c, mo + 1, rfl, hI, hS, hne, hl, by omega, hm4, hc, fun N H1 s1 hN hNl => ?_⟩
  refine ⟨fun m σ H' => ∃ (cr nd : Nat) (v5 v6 v7 : Option V), σ = [some (.ref p), some (.ref a), some (.int cr), some (.int (mo + 1 : Nat)), some (.int nd), v5, v6, v7] ∧ Same H H' ∧ m = nd ∧ cr < 2 ^ 1024 ∧ Cv.Need l cr (mo + 1) nd ∧ (∀ y, cr.testBit y = true → c.testBit y = true) ∧ (Cv.Cov l c (mo + 1) ↔ Cv.Cov l cr (mo + 1)),
    ⟨N, c, N, none, none, none, rfl, s1, rfl, hc, hN, fun y h => h, Iff.rfl⟩, ?_⟩
  rintro m σ H2 ⟨cr, nd, v5, v6, v7, rfl, s2, rfl, crl, hnd, hsub, hcov⟩
  refine ⟨_, rfl, _, rfl, ?_⟩
  by_cases h0 : m = 0
  · subst h0
    exact iteF ((q H2 s2).1 fun z => hnd.none (hcov.mp z))
  rw [bne0 h0]
  obtain ⟨k1, lk, ek⟩ := Cr.low_of m h0
  have crk : cr.testBit k1 = true := hnd.1 k1 lk.1
  have k1l : k1 < 1024 := Cv.bit_lt crl crk
  obtain ⟨ld, _⟩ := Cr.low_drop lk
  have crl' := Cv.xor_lt crl crk
  have hp2 := s2 _ _ hp
  have hI2 := hI.same s2
  have sub2 : ∀ y, (cr ^^^ 2 ^ k1).testBit y = true → c.testBit y = true := fun y hy => hsub y (Cv.out_sub crk hy)
  refine iteT ⟨_, fun _ _ z => z, _, rfl, _, rfl, _, rfl, _, _, rfl, rfl, ?_⟩
  dsimp only
  rw [ek]
  refine ⟨_, rfl, _, rfl, _, _, rfl, rfl, _, rfl, _, rfl, _, _, rfl, rfl, ?_⟩
  dsimp only
  rw [Cr.xor_nat, Cr.xor_nat]
  refine ⟨_, rfl, rfl, _, rfl, ?_⟩
  have split := Cv.cov_split (P := l) (m := mo) crl crk
  refine ite2 (fun c2 => ?_) (fun c2 => ?_)
  · have c' : ((mo + 1 : Nat) : Int) = 2 := V.int.inj (of_decide_eq_true c2)
    have m2 : mo = 1 := by omega
    subst m2
    refine ⟨_, rfl, _, rfl, _, rfl, _, rfl, _, _, rfl, rfl, a, l, 2 ^ k1, (cr ^^^ 2 ^ k1) ||| 2 ^ k1, (by rw [← Cr.or_nat]; rfl), s2.seq hS, fun x hx => ?_⟩
    refine ⟨_, rfl, _, rfl, ?_⟩
    by_cases hx0 : x = 0
    · subst hx0
      refine iteF ?_
      refine ⟨_, rfl, rfl, _, rfl, ?_⟩
      refine iteF ⟨m ^^^ 2 ^ k1, ld, cr ^^^ 2 ^ k1, m ^^^ 2 ^ k1, some (.int (2 ^ k1 : Nat)), _, _, rfl, s2, rfl, crl', hnd.out lk.1, sub2, hcov.trans (split.trans ⟨fun z => z.resolve_left (last_none hx), .inr⟩)⟩
    · rw [bne0 hx0]
      obtain ⟨k2, lk2, ek2⟩ := Cr.low_of x hx0
      refine iteT ⟨_, rfl, _, rfl, _, rfl, _, _, rfl, rfl, ?_⟩
      dsimp only
      rw [ek2]
      refine ⟨_, rfl, rfl, _, rfl, ?_⟩
      refine iteT ⟨_, rfl, _, rfl, _, _, rfl, rfl, ?_⟩
      dsimp only
      rw [Cr.or_nat]
      exact (q H2 s2).2 _ (last_some hx lk2.1 (hsub k1 crk) sub2)
  · refine ⟨_, rfl, p, dx, fs, rfl, hp2, cm.m8, _, rfl, _, rfl, a, l, k1, rfl, s2.seq hS, by omega, fun r H3 s3 f3 h3 => ?_⟩
    have lw : (Hi.without l k1).length ≤ l.length := List.length_filter_le _ _
    have e1 : ((mo + 1 : Nat) : Int) - 1 = (mo : Int) := by omega
    refine ⟨_, rfl, _, rfl, _, _, rfl, rfl, p, r, Hi.without l k1, cr ^^^ 2 ^ k1, mo, (by rw [← e1]; rfl), hI2.same s3, SqL.of h3, by omega, by omega, by omega, crl', fun H4 s4 => ⟨fun no => ?_, fun o ho => ?_⟩⟩
    · refine ⟨_, rfl, rfl, _, rfl, ?_⟩
      refine iteF ⟨m ^^^ 2 ^ k1, ld, cr ^^^ 2 ^ k1, m ^^^ 2 ^ k1, some (.int (2 ^ k1 : Nat)), _, _, rfl, s2.trans (s3.trans s4), rfl, crl', hnd.out lk.1, sub2, hcov.trans (split.trans ⟨fun z => z.resolve_left no, .inr⟩)⟩
    · refine ⟨_, rfl, rfl, _, rfl, ?_⟩
      refine iteT ⟨_, rfl, _, rfl, _, _, rfl, rfl, ?_⟩
      dsimp only
      rw [Cr.or_nat]
      exact (q H4 (s2.trans (s3.trans s4))).2 _ ((Cv.good_with crk ho).sub hsub (Nat.le_refl _))
theorem some_none {k : Nat} (F : Fun K "some" "Covers.some" s_Covers_some f fd) : FnOk P w K mg base CX0 k f fd (["self", "pools", "crowd", "most"] : List Str) (spSome K C 0) := by
  have no : ∀ vs H Q E, ¬ spSome K C 0 vs H Q E := fun vs H Q E h => by
    obtain ⟨p, a, l, c, most, _, _, _, _, h1, _⟩ := h
    omega
  exact ⟨fun vs H Q E h => absurd h (no vs H Q E), fun A outer s H args us vs Q E _ _ _ _ h => absurd h (no vs H Q E)⟩
theorem some_all (T : TxtC K C) (C_too_many_apart : Callee P w K mg base 1 "too_many_apart" (["pools", "crowd", "most"] : List Str) (spTooMany K)) (C_in_all_others : Callee P w K mg base 1 "in_all_others" (["pools", "one", "crowd"] : List Str) (spAllOthers K))
    (C_not_hit : Callee P w K mg base 1 "not_hit" (["pools", "one"] : List Str) (spNotHit K)) (M_Covers_one_of_these : MCallee P w K mg base 3 C "one_of_these" (["self", "pools", "crowd", "most"] : List Str) (spOneOf K C))
    (E : TopMeth K C "some" "Covers.some" s_Covers_some (["self", "pools", "crowd", "most"] : List Str)) : ∀ j : Nat, MCallee P w K mg base (3 + j) C "some" (["self", "pools", "crowd", "most"] : List Str) (spSome K C j)
  | 0 => E.callee T.cl fun f fd F => some_none F
  | j + 1 => E.callee T.cl fun f fd F => ok_some (show 3 ≤ 3 + j by omega) T C_too_many_apart C_in_all_others C_not_hit M_Covers_one_of_these (some_all T C_too_many_apart C_in_all_others C_not_hit M_Covers_one_of_these E j) F
end
theorem andnot_nat (a b : Nat) : Builtin.bitAnd (a : Int) (Builtin.bitNot (b : Int)) = ((a ^^^ (a &&& b) : Nat) : Int) := by
  have e2 : Builtin.bitNot (Builtin.bitNot (b : Int)) = (b : Int) := by
    unfold Builtin.bitNot
    omega
  have hn : ¬ (0 : Int) ≤ Builtin.bitNot (b : Int) := by
    unfold Builtin.bitNot
    omega
  unfold Builtin.bitAnd
  rw [decide_eq_true (Int.natCast_nonneg a), decide_eq_false hn]
  simp only [Int.toNat_natCast, e2]
  have h1 := Cr.xor_add_and a a (a &&& b) (Nat.le_refl a)
  have h2 : a &&& (a &&& b) = a &&& b := by
    apply Nat.eq_of_testBit_eq
    intro i
    rw [Nat.testBit_and, Nat.testBit_and]
    cases a.testBit i <;> cases b.testBit i <;> rfl
  have h3 : a ||| (a &&& b) = a := by
    apply Nat.eq_of_testBit_eq
    intro i
    rw [Nat.testBit_or, Nat.testBit_and]
    cases a.testBit i <;> cases b.testBit i <;> rfl
  rw [h2, h3] at h1
  omega
def CAt (K : PySem.W.Frag) (C : Addr) (H : Hp) (p : Addr) (c : Nat) (l : List Nat) : Prop := ∃ (dx pa : Addr) (fs : List (Str × V)), H p = some (.ins C dx fs) ∧ CM fs ∧ fs.lookup ("crowd" : Str) = some (.int c) ∧ fs.lookup ("pools" : Str) = some (.ref pa) ∧ SqL K H pa (vN l)
theorem CAt.same {K : PySem.W.Frag} {C : Addr} {H H' : Hp} {p : Addr} {c : Nat} {l : List Nat} (h : CAt K C H p c l) (s : Same H H') : CAt K C H' p c l := by
  obtain ⟨dx, pa, fs, h1, h2, h3, h4, h5⟩ := h
  exact ⟨dx, pa, fs, s _ _ h1, h2, h3, h4, s.seq h5⟩
def InS (l : List Nat) (c most i : Nat) : Prop := ∃ s : List Nat, s.length ≤ most ∧ (∀ x ∈ s, c.testBit x = true) ∧ (∀ p ∈ l, ∃ x ∈ s, p.testBit x = true) ∧ i ∈ s
def InA (l : List Nat) (c most i : Nat) : Prop := ∀ s : List Nat, s.length ≤ most → (∀ x ∈ s, c.testBit x = true) → (∀ p ∈ l, ∃ x ∈ s, p.testBit x = true) → i ∈ s
structure CB (l : List Nat) (c : Nat) : Prop where
  len : l.length ≤ 100000
  lt : c < 2 ^ 1024
def spHow (K : PySem.W.Frag) (C : Addr) : Sp := fun vs H Q _ => ∃ (p : Addr) (l : List Nat) (c most : Nat), vs = [.ref p, .int most] ∧ CAt K C H p c l ∧ CB l c ∧ most ≤ 4 ∧ ∀ H', Same H H' → Q (.int (Cv.hs l (Cv.M c) most : Nat)) H'
def spSmallest (K : PySem.W.Frag) (C : Addr) : Sp := fun vs H Q _ => ∃ (p : Addr) (l : List Nat) (c few most : Nat), vs = [.ref p, .int few, .int most] ∧ CAt K C H p c l ∧ CB l c ∧ most ≤ 4 ∧ few ≤ 5 ∧ (∀ j, j < few → ¬ Cv.Cov l c j) ∧
  ∀ H', Same H H' → (¬ Cv.Cov l c most → Q .non H') ∧ ∀ k r : Nat, k ≤ most → Cv.Good l c k r → (∀ j, j < k → ¬ Cv.Cov l c j) → Q (.int r) H'
def spLeast (K : PySem.W.Frag) (C : Addr) : Sp := fun vs H Q _ => ∃ (p : Addr) (l : List Nat) (c k : Nat), vs = [.ref p, .int k] ∧ CAt K C H p c l ∧ CB l c ∧ k ≤ 4 ∧ Cv.Cov l c k ∧ (∀ j, j < k → ¬ Cv.Cov l c j) ∧
  ∀ (x : Nat) (s : List Nat) H', Same H H' → Ex.First l (Cv.M c) k s → (∀ i, x.testBit i = s.contains i) → Q (.int x) H'
def spInSome (K : PySem.W.Frag) (C : Addr) : Sp := fun vs H Q _ => ∃ (p : Addr) (l : List Nat) (c k r most : Nat), vs = [.ref p, .int r, .int most] ∧ CAt K C H p c l ∧ CB l c ∧ k ≤ most ∧ most ≤ 4 ∧ Cv.Good l c k r ∧ (∀ j, j < k → ¬ Cv.Cov l c j) ∧
  ∀ (x : Nat) H', Same H H' → (∀ i, x.testBit i = true ↔ InS l c most i) → Q (.int x) H'
def spInAll (K : PySem.W.Frag) (C : Addr) : Sp := fun vs H Q _ => ∃ (p : Addr) (l : List Nat) (c r most : Nat), vs = [.ref p, .int r, .int most] ∧ CAt K C H p c l ∧ CB l c ∧ most ≤ 4 ∧ Cv.Good l c most r ∧
  ∀ (x : Nat) H', Same H H' → (∀ i, x.testBit i = true ↔ InA l c most i) → Q (.int x) H'
theorem good_exact {l : List Nat} {c k r : Nat} (hc : c < 2 ^ 1024) (h : Cv.Good l c k r) (hno : ∀ j, j < k → ¬ Cv.Cov l c j) : Ms.sz r = k := by
  have h1 : (Cv.M r).length ≤ k := h.2.1
  rcases Nat.lt_or_ge (Cv.M r).length k with e | e
  · exact absurd (Cv.Good.cov hc (m := (Cv.M r).length) ⟨h.1, Nat.le_refl _, h.2.2⟩) (hno _ e)
  · exact Nat.le_antisymm h1 e
theorem good_in {l : List Nat} {c m r i : Nat} (hc : c < 2 ^ 1024) (h : Cv.Good l c m r) (hi : r.testBit i = true) : InS l c m i := by
  have hr := h.lt hc
  refine ⟨Cv.M r, h.2.1, fun x hx => h.1 x (Cv.mem_M.mp hx).2, fun p hp => ?_, (Cv.mem_Mc hr).mpr hi⟩
  obtain ⟨x, a, b⟩ := h.2.2 p hp
  exact ⟨x, (Cv.mem_Mc hr).mpr a, b⟩
theorem in_out {l : List Nat} {c m x : Nat} (hx : c.testBit x = true) (h : InS l c m x) : 1 ≤ m ∧ Cv.Cov (Hi.without l x) (c ^^^ 2 ^ x) (m - 1) := by
  obtain ⟨s, h1, h2, h3, h4⟩ := h
  have h5 := Hi.len_remove h4
  refine ⟨by omega, s.filter fun y => !(y == x), by omega, fun y hy => ?_, fun p hp => ?_⟩
  · obtain ⟨a, b⟩ := List.mem_filter.mp hy
    have : y ≠ x := by simpa using b
    rw [Cv.xor_bit hx, h2 y a, decide_eq_true this]
    rfl
  · obtain ⟨a, b⟩ := Cv.mem_without.mp hp
    obtain ⟨y, hy, e⟩ := h3 p a
    refine ⟨y, List.mem_filter.mpr ⟨hy, ?_⟩, e⟩
    have : y ≠ x := fun z => by rw [z, b] at e; cases e
    simpa using this
theorem without_all {l : List Nat} {x : Nat} (h : ¬ (Hi.without l x).length < l.length) : Hi.without l x = l := by
  unfold Hi.without at h ⊢
  have := List.length_filter_le (fun p => !p.testBit x) l
  exact List.filter_eq_self.mpr (List.length_filter_eq_length_iff.mp (by omega))
section
variable {P : Program} {w : World} {K : PySem.W.Frag} {mg : Str → Option Value} {base : Heap} {f C : Addr} {fd : FuncData}
theorem ok_how (T : TxtC K C) (M_Covers_count_in : MCallee P w K mg base 8 C "count_in" (["self", "pools", "crowd", "most"] : List Str) (spCount K C 5)) (F : Fun K "how_many" "Covers.how_many" s_Covers_how_many f fd) : FnOk P w K mg base CX0 9 f fd (["self", "most"] : List Str) (spHow K C) := by
  refine F.ok sc_Covers_how_many (fun vs H Q E h => ?_) (fun cdv A outer s H vs Q E hr h => ?_)
  · obtain ⟨p, l, c, most, rfl, _⟩ := h
    rfl
  obtain ⟨p, l, c, most, rfl, ⟨dx, pa, fs, hp, cm, fc, fp, hS⟩, cb, hm, q⟩ := h
  refine ⟨_, (pss_one (ps_ret (pe_methC (pv 0) M_Covers_count_in (hr.mono (by omega)) (pa_cons (pe_fld (pv 0) rfl) (pa_cons (pe_fld (pv 0) rfl) (pa_cons (pv 1) pa_nil)))))), ?_⟩
  exact ⟨_, rfl, p, dx, fs, rfl, hp, cm.m3, _, rfl, p, C, dx, fs, _, rfl, hp, T.cl, T.pools, fp, _, rfl, p, C, dx, fs, _, rfl, hp, T.cl, T.crowd, fc, _, rfl, p, pa, l, c, most, rfl, ⟨dx, fs, hp, cm⟩, hS, cb.len, by omega, hm, cb.lt, q⟩
theorem ok_smallest (T : TxtC K C) (m_range : mg "range" = none) (M_Covers_some : MCallee P w K mg base 8 C "some" (["self", "pools", "crowd", "most"] : List Str) (spSome K C 5)) (F : Fun K "smallest" "Covers.smallest" s_Covers_smallest f fd) : FnOk P w K mg base CX0 9 f fd (["self", "fewest", "most"] : List Str) (spSmallest K C) := by
  refine F.ok sc_Covers_smallest (fun vs H Q E h => ?_) (fun cdv A outer s H vs Q E hr h => ?_)
  · obtain ⟨p, l, c, few, most, rfl, _⟩ := h
    rfl
  obtain ⟨p, l, c, few, most, rfl, ⟨dx, pa, fs, hp, cm, fc, fp, hS⟩, cb, hm, hf, hno, q⟩ := h
  refine ⟨_, (pss_cons (ps_for PassesOwn.never rfl (pi_range2 (by rfl) m_range (pa_cons (pv 1) (pa_cons (pe_op op_add (pv 2) pe_int) pa_nil))) (pg_nw (i := 3) sc_Covers_smallest.nd) (pss_cons (ps_sw (i := 4) sc_Covers_smallest.nd (pe_methC (pv 0) M_Covers_some (hr.mono (by omega)) (pa_cons (pe_fld (pv 0) rfl) (pa_cons (pe_fld (pv 0) rfl) (pa_cons (pv 3) pa_nil)))))
   (pss_one (ps_if (pt_cmpR op_notN (pv 4) pe_non (nomark _)) (pss_one (ps_ret (pv 4))) pss_nil))))
   (pss_one (ps_ret pe_non))), ?_⟩
  refine ⟨_, rfl, _, rfl, _, _, rfl, rfl, _, _, rfl, ⟨by omega, by omega, by omega, by omega⟩, ?_⟩
  refine for_range (fun i σ H' => ∃ (v3 v4 : Option V), σ = [some (.ref p), some (.int few), some (.int most), v3, v4] ∧ Same H H' ∧ ∀ j, j < few + i → ¬ Cv.Cov l c j) ⟨none, none, rfl, Same.refl H, fun j h => hno j (by omega)⟩ ?_ ?_
  · rintro i σ H1 hi ⟨v3, v4, rfl, s1, hn⟩
    have e : (few : Int) + (i : Int) = ((few + i : Nat) : Int) := by omega
    rw [e]
    have him : few + i ≤ most := by omega
    have hp1 := s1 _ _ hp
    refine ⟨_, rfl, p, dx, fs, rfl, hp1, cm.m8, _, rfl, p, C, dx, fs, _, rfl, hp1, T.cl, T.pools, fp, _, rfl, p, C, dx, fs, _, rfl, hp1, T.cl, T.crowd, fc, _, rfl, p, pa, l, c, few + i, rfl, ⟨dx, fs, hp1, cm⟩, s1.seq hS, cb.len, by omega, by omega, cb.lt, fun H2 s2 => ⟨fun no => ?_, fun r hr => ?_⟩⟩
    · refine ⟨_, rfl, rfl, _, rfl, ?_⟩
      refine iteF ⟨_, _, rfl, s1.trans s2, fun j hj => ?_⟩
      rcases Nat.lt_or_ge j (few + i) with z | z
      · exact hn j z
      · have : j = few + i := by omega
        rw [this]
        exact no
    · refine ⟨_, rfl, rfl, _, rfl, ?_⟩
      exact iteT ⟨_, rfl, (q H2 (s1.trans s2)).2 (few + i) r him hr hn⟩
  · rintro σ H1 ⟨v3, v4, rfl, s1, hn⟩
    exact (q H1 s1).1 (hn most (by omega))
theorem ok_least (T : TxtC K C) (m_len : mg "len" = none) (C_not_hit : Callee P w K mg base 1 "not_hit" (["pools", "one"] : List Str) (spNotHit K)) (M_Covers_some : MCallee P w K mg base 8 C "some" (["self", "pools", "crowd", "most"] : List Str) (spSome K C 5)) (F : Fun K "least" "Covers.least" s_Covers_least f fd) :
    FnOk P w K mg base CX0 9 f fd (["self", "size"] : List Str) (spLeast K C) := by
  refine F.ok sc_Covers_least (fun vs H Q E h => ?_) (fun cdv A outer s H vs Q E hr h => ?_)
  · obtain ⟨p, l, c, k, rfl, _⟩ := h
    rfl
  obtain ⟨p, l, c, k, rfl, ⟨dx, pa, fs, hp, cm, fc, fp, hS⟩, cb, hk4, hcov, hno, q⟩ := h
  refine ⟨_, (pss_cons (ps_sw (i := 2) sc_Covers_least.nd (pe_op op_sub (pv 1) pe_int))
   (pss_cons (ps_sw (i := 3) sc_Covers_least.nd (pe_fld (pv 0) rfl))
   (pss_cons (ps_sw (i := 4) sc_Covers_least.nd (pe_fld (pv 0) rfl))
   (pss_cons (ps_sw (i := 5) sc_Covers_least.nd pe_int)
   (pss_cons (ps_while PassesOwn.never (pt_truth (pv 3) (fun _ => rfl)) (pss_cons (ps_sw (i := 6) sc_Covers_least.nd (pe_op op_and (pv 4) (pe_un un_neg (pv 4))))
   (pss_cons (ps_aw (i := 4) sc_Covers_least.nd (pv 6) (ip_of iop_xor))
   (pss_cons (ps_sw (i := 7) sc_Covers_least.nd (pe_callC C_not_hit (hr.mono (by omega)) (by rfl) (pa_cons (pv 3) (pa_cons (pv 6) pa_nil))))
   (pss_one (ps_if (pw_and (pt_cmpR op_lt (pe_callB call_len_seq (by rfl) m_len PySem.boot_len (pa_cons (pv 7) pa_nil)) (pe_callB call_len_seq (by rfl) m_len PySem.boot_len (pa_cons (pv 3) pa_nil)) (nomark _)) (pw_and1 (pt_cmpR op_notN (pe_methC (pv 0) M_Covers_some (hr.mono (by omega)) (pa_cons (pv 7) (pa_cons (pv 4) (pa_cons (pv 2) pa_nil)))) pe_non (nomark _)))).pt (pss_cons (ps_aw (i := 5) sc_Covers_least.nd (pv 6) (ip_of iop_or))
   (pss_cons (ps_sw (i := 3) sc_Covers_least.nd (pv 7))
   (pss_one (ps_aw (i := 2) sc_Covers_least.nd pe_int (ip_of iop_sub))))) pss_nil))))))
   (pss_one (ps_ret (pv 5)))))))), ?_⟩
  refine ⟨_, rfl, _, _, rfl, rfl, _, rfl, p, C, dx, fs, _, rfl, hp, T.cl, T.pools, fp, _, rfl, p, C, dx, fs, _, rfl, hp, T.cl, T.crowd, fc, ?_⟩
  refine ⟨fun m σ H' => ∃ (pr : Addr) (l' : List Nat) (c' ch k' : Nat) (cl : List Nat) (v6 v7 : Option V), σ = [some (.ref p), some (.int k), some (.int ((k' : Int) - 1)), some (.ref pr), some (.int c'), some (.int ch), v6, v7] ∧ Same H H' ∧ m = c' ∧ SqL K H' pr (vN l') ∧ l'.length ≤ l.length ∧ c' < 2 ^ 1024 ∧ k' ≤ 4 ∧
    Cv.Cov l' c' k' ∧ (∀ j, j < k' → ¬ Cv.Cov l' c' j) ∧ (∀ i, ch.testBit i = cl.contains i) ∧ ∀ y, Ex.First l' (Cv.M c') k' y → Ex.First l (Cv.M c) k (cl ++ y),
    ⟨c, pa, l, c, 0, k, [], none, none, rfl, Same.refl H, rfl, hS, Nat.le_refl _, cb.lt, hk4, hcov, hno, fun i => by simp, fun y h => h⟩, ?_⟩
  rintro m σ H1 ⟨pr, l', c', ch, k', cl, v6, v7, rfl, s1, rfl, hS1, ll, cl1, k4, cv1, no1, hch, hfirst⟩
  refine ⟨_, rfl, _, Or.inl ⟨_, hS1, rfl⟩, ?_⟩
  by_cases hne : l' = []
  · subst hne
    have k0 : k' = 0 := by
      rcases Nat.eq_zero_or_pos k' with e | e
      · exact e
      · exact absurd (Cv.cov_zero.mpr rfl) (no1 0 e)
    subst k0
    refine iteF ⟨_, rfl, q ch cl H1 s1 ?_ hch⟩
    have := hfirst [] ⟨[], by rw [Cv.HS_zero]; rfl⟩
    rw [List.append_nil] at this
    exact this
  have ie : (vN l').isEmpty = false := by
    cases l' with
    | nil => exact absurd rfl hne
    | cons a b => rfl
  rw [ie]
  have k1 : k' ≠ 0 := fun e => hne (Cv.cov_zero.mp (e ▸ cv1))
  obtain ⟨kk, rfl⟩ : ∃ kk, k' = kk + 1 := ⟨k' - 1, by omega⟩
  have h0 : m ≠ 0 := fun e => by
    obtain ⟨s, _, h2, h3⟩ := cv1
    cases l' with
    | nil => exact hne rfl
    | cons a b =>
      obtain ⟨x, hx, _⟩ := h3 a List.mem_cons_self
      have := h2 x hx
      rw [e, Nat.zero_testBit] at this
      cases this
  obtain ⟨x, lx, ex⟩ := Cr.low_of m h0
  obtain ⟨ld, _⟩ := Cr.low_drop lx
  have lt' := Cv.xor_lt cl1 lx.1
  have split := Cv.cov_split (P := l') (m := kk) cl1 lx.1
  refine iteT ⟨_, fun _ _ z => z, _, rfl, _, rfl, _, rfl, _, _, rfl, rfl, ?_⟩
  dsimp only
  rw [ex]
  refine ⟨_, rfl, _, rfl, _, _, rfl, rfl, ?_⟩
  dsimp only
  rw [Cr.xor_nat]
  refine ⟨_, rfl, _, rfl, pr, l', x, rfl, hS1, by have := cb.len; omega, fun r H2 s2 f2 h2 => ?_⟩
  have lw : (Hi.without l' x).length ≤ l'.length := List.length_filter_le _ _
  have sH2 := s1.trans s2
  have less : ¬ Cv.Cov (Hi.without l' x) (m ^^^ 2 ^ x) kk → ∀ (H3 : Hp), Same H H3 → SqL K H3 pr (vN l') → ∀ v7' : Option V, ∃ m', m' < m ∧ ∃ (pr_1 : Addr) (l'_1 : List Nat) (c'_1 ch_1 k'_1 : Nat) (cl_1 : List Nat) (v6_1 v7_1 : Option V), [some (.ref p), some (.int k), some (.int (((kk + 1 : Nat) : Int) - 1)), some (.ref pr), some (.int (m ^^^ 2 ^ x : Nat)), some (.int ch), some (.int (2 ^ x : Nat)), v7'] = [some (.ref p), some (.int k), some (.int ((k'_1 : Int) - 1)), some (.ref pr_1), some (.int c'_1), some (.int ch_1), v6_1, v7_1] ∧ Same H H3 ∧ m' = c'_1 ∧ SqL K H3 pr_1 (vN l'_1) ∧ l'_1.length ≤ l.length ∧ c'_1 < 2 ^ 1024 ∧ k'_1 ≤ 4 ∧
    Cv.Cov l'_1 c'_1 k'_1 ∧ (∀ j, j < k'_1 → ¬ Cv.Cov l'_1 c'_1 j) ∧ (∀ i, ch_1.testBit i = cl_1.contains i) ∧ ∀ y, Ex.First l'_1 (Cv.M c'_1) k'_1 y → Ex.First l (Cv.M c) k (cl_1 ++ y) := fun no H3 s3 hS3 v7' =>
    ⟨m ^^^ 2 ^ x, ld, pr, l', m ^^^ 2 ^ x, ch, kk + 1, cl, some (.int (2 ^ x : Nat)), v7', rfl, s3, rfl, hS3, ll, lt', k4, (split.mp cv1).resolve_left no, fun j hj z => no1 j hj (z.sub (fun y hy => Cv.out_sub lx.1 hy) (Nat.le_refl _)), hch, fun y hy => hfirst y (Ex.first_without cl1 lx no hy)⟩
  refine ⟨_, rfl, r, _, rfl, .inl (SqL.of h2), _, rfl, pr, _, rfl, .inl (s2.seq hS1), _, _, rfl, rfl, _, rfl, ?_⟩
  refine ite2 (fun c0 => ?_) (fun c0 => ?_)
  · have e1 : ((kk + 1 : Nat) : Int) - 1 = (kk : Int) := by omega
    have hp2 := sH2 _ _ hp
    refine ⟨_, rfl, p, dx, fs, rfl, hp2, cm.m8, _, rfl, _, rfl, _, rfl, p, r, Hi.without l' x, m ^^^ 2 ^ x, kk, (by rw [← e1]; rfl), ⟨dx, fs, hp2, cm⟩, SqL.of h2, by have := cb.len; omega, by omega, by omega, lt', fun H3 s3 => ⟨fun no => ?_, fun o ho => ?_⟩⟩
    · refine ⟨rfl, _, rfl, ?_⟩
      exact iteF (less no H3 (sH2.trans s3) ((s2.trans s3).seq hS1) _)
    · refine ⟨rfl, _, rfl, ?_⟩
      have cv := ho.cov lt'
      refine iteT ⟨_, rfl, _, rfl, _, _, rfl, rfl, _, rfl, _, rfl, _, _, rfl, rfl, m ^^^ 2 ^ x, ld, r, Hi.without l' x, m ^^^ 2 ^ x, ch ||| 2 ^ x, kk, cl ++ [x], some (.int (2 ^ x : Nat)), some (.ref r), ?_, sH2.trans s3, rfl, SqL.of (s3 _ _ h2), by omega, lt', by omega, cv, fun j hj z => no1 (j + 1) (by omega) ((Cv.cov_split cl1 lx.1).mpr (.inl z)), fun i => ?_, fun y hy => ?_⟩
      · rw [← Cr.or_nat, e1]
        rfl
      · rw [or_bit, hch i]
        simp [List.contains_eq_mem, Bool.or_comm]
      · have := hfirst (x :: y) (Ex.first_with cl1 lx cv (no1 kk (by omega)) hy)
        rw [List.append_assoc]
        exact this
  · have c0 : ¬ (Hi.without l' x).length < l'.length := fun z => c0 (by rw [vN_len, vN_len]; exact decide_eq_true (by omega))
    have eq := without_all c0
    refine iteF (less (fun z => ?_) H2 sH2 (s2.seq hS1) _)
    rw [eq] at z
    exact no1 kk (by omega) (z.sub (fun y hy => Cv.out_sub lx.1 hy) (Nat.le_refl _))
end
section
variable {P : Program} {w : World} {K : PySem.W.Frag} {mg : Str → Option Value} {base : Heap} {f C : Addr} {fd : FuncData}
theorem ok_in_some (T : TxtC K C) (m_len : mg "len" = none) (C_not_hit : Callee P w K mg base 1 "not_hit" (["pools", "one"] : List Str) (spNotHit K)) (M_Covers_size_of : MCallee P w K mg base 1 C "size_of" (["self", "crowd"] : List Str) (spSize C)) (M_Covers_some : MCallee P w K mg base 8 C "some" (["self", "pools", "crowd", "most"] : List Str) (spSome K C 5))
    (F : Fun K "in_some" "Covers.in_some" s_Covers_in_some f fd) : FnOk P w K mg base CX0 9 f fd (["self", "smallest", "most"] : List Str) (spInSome K C) := by
  refine F.ok sc_Covers_in_some (fun vs H Q E h => ?_) (fun cdv A outer s H vs Q E hr h => ?_)
  · obtain ⟨p, l, c, k, r, most, rfl, _⟩ := h
    rfl
  obtain ⟨p, l, c, k, r, most, rfl, ⟨dx, pa, fs, hp, cm, fc, fp, hS⟩, cb, hkm, hm4, hg, hno, q⟩ := h
  refine ⟨_, (pss_cons (ps_if (pt_cmpR op_lt (pe_methC (pv 0) M_Covers_size_of (hr.mono (by omega)) (pa_cons (pv 1) pa_nil)) (pv 2) (nomark _)) (pss_one (ps_ret (pe_fld (pv 0) rfl))) pss_nil)
   (pss_cons (ps_sw (i := 3) sc_Covers_in_some.nd (pv 1))
   (pss_cons (ps_sw (i := 4) sc_Covers_in_some.nd (pe_op op_xor (pe_fld (pv 0) rfl) (pv 1)))
   (pss_cons (ps_while PassesOwn.never (pt_truth (pv 4) (fun _ => rfl)) (pss_cons (ps_sw (i := 5) sc_Covers_in_some.nd (pe_op op_and (pv 4) (pe_un un_neg (pv 4))))
   (pss_cons (ps_aw (i := 4) sc_Covers_in_some.nd (pv 5) (ip_of iop_xor))
   (pss_cons (ps_sw (i := 6) sc_Covers_in_some.nd (pe_callC C_not_hit (hr.mono (by omega)) (by rfl) (pa_cons (pe_fld (pv 0) rfl) (pa_cons (pv 5) pa_nil))))
   (pss_one (ps_if (pt_cmpR op_lt (pe_callB call_len_seq (by rfl) m_len PySem.boot_len (pa_cons (pv 6) pa_nil)) (pe_callB call_len_seq (by rfl) m_len PySem.boot_len (pa_cons (pe_fld (pv 0) rfl) pa_nil)) (nomark _)) (pss_cons (ps_sw (i := 7) sc_Covers_in_some.nd (pe_methC (pv 0) M_Covers_some (hr.mono (by omega)) (pa_cons (pv 6) (pa_cons (pe_op op_xor (pe_fld (pv 0) rfl) (pv 5)) (pa_cons (pe_op op_sub (pv 2) pe_int) pa_nil)))))
   (pss_one (ps_if (pt_cmpR op_notN (pv 7) pe_non (nomark _)) (pss_cons (ps_aw (i := 3) sc_Covers_in_some.nd (pe_op op_or (pv 5) (pv 7)) (ip_of iop_or))
   (pss_one (ps_aw (i := 4) sc_Covers_in_some.nd (pe_un un_inv (pv 7)) (ip_of iop_and)))) pss_nil))) pss_nil))))))
   (pss_one (ps_ret (pv 3))))))), ?_⟩
  have hc := cb.lt
  have rl := hg.lt hc
  have rk := good_exact hc hg hno
  have gm : Cv.Good l c most r := hg.sub (fun x hx => hx) hkm
  refine ⟨_, rfl, p, dx, fs, rfl, hp, cm.m1, _, rfl, p, r, rfl, ⟨dx, fs, hp, cm⟩, rl, _, rfl, _, _, rfl, rfl, _, rfl, ?_⟩
  refine ite2 (fun c0 => ?_) (fun c0 => ?_)
  · have c0 : ((Ms.sz r : Nat) : Int) < (most : Int) := of_decide_eq_true c0
    refine ⟨_, rfl, p, C, dx, fs, _, rfl, hp, T.cl, T.crowd, fc, q c H (Same.refl H) fun i => ⟨fun hi => ?_, fun ⟨s, _, h2, _, h4⟩ => h2 i h4⟩⟩
    refine ⟨i :: Cv.M r, ?_, fun x hx => ?_, fun p hp => ?_, List.mem_cons_self⟩
    · have : (Cv.M r).length = Ms.sz r := rfl
      rw [List.length_cons]
      omega
    · rcases List.mem_cons.mp hx with e | e
      · rw [e]; exact hi
      · exact hg.1 x (Cv.mem_M.mp e).2
    · obtain ⟨x, a, b⟩ := hg.2.2 p hp
      exact ⟨x, List.mem_cons_of_mem _ ((Cv.mem_Mc rl).mpr a), b⟩
  have mk : most = k := by
    have := of_decide_eq_false (Bool.eq_false_iff.mpr c0)
    omega
  subst mk
  refine ⟨_, rfl, _, rfl, p, C, dx, fs, _, rfl, hp, T.cl, T.crowd, fc, _, rfl, _, _, rfl, rfl, ?_⟩
  dsimp only
  rw [Cr.xor_nat]
  have lb : ∀ i, (c ^^^ r).testBit i = (c.testBit i && !r.testBit i) := fun i => by
    rw [Nat.testBit_xor]
    cases e : r.testBit i with
    | false => simp
    | true => rw [hg.1 i e]; rfl
  refine ⟨fun m σ H' => ∃ (fo le : Nat) (v5 v6 v7 : Option V), σ = [some (.ref p), some (.int r), some (.int most), some (.int fo), some (.int le), v5, v6, v7] ∧ Same H H' ∧ m = le ∧ (∀ i, le.testBit i = true → c.testBit i = true) ∧ (∀ i, fo.testBit i = true → InS l c most i) ∧ (∀ i, c.testBit i = true → fo.testBit i = true ∨ le.testBit i = true ∨ ¬ InS l c most i),
    ⟨c ^^^ r, r, c ^^^ r, none, none, none, rfl, Same.refl H, rfl, fun i hi => ?_, fun i hi => good_in hc gm hi, fun i hi => ?_⟩, ?_⟩
  · rw [lb] at hi
    exact (Bool.and_eq_true_iff.mp hi).1
  · cases e : r.testBit i with
    | true => exact .inl rfl
    | false => exact .inr (.inl (by rw [lb, hi, e]; rfl))
  rintro m σ H1 ⟨fo, le, v5, v6, v7, rfl, s1, rfl, hle, hfo, hall⟩
  refine ⟨_, rfl, _, rfl, ?_⟩
  by_cases h0 : m = 0
  · subst h0
    refine iteF ⟨_, rfl, q fo H1 s1 fun i => ⟨hfo i, fun hi => ?_⟩⟩
    obtain ⟨s, _, h2, _, h4⟩ := id hi
    rcases hall i (h2 i h4) with z | z | z
    · exact z
    · rw [Nat.zero_testBit] at z; cases z
    · exact absurd hi z
  rw [bne0 h0]
  obtain ⟨x, lx, ex⟩ := Cr.low_of m h0
  obtain ⟨ld, lbit⟩ := Cr.low_drop lx
  have cx := hle x lx.1
  have hp1 := s1 _ _ hp
  refine iteT ⟨_, fun _ _ z => z, _, rfl, _, rfl, _, rfl, _, _, rfl, rfl, ?_⟩
  dsimp only
  rw [ex]
  refine ⟨_, rfl, _, rfl, _, _, rfl, rfl, ?_⟩
  dsimp only
  rw [Cr.xor_nat]
  refine ⟨_, rfl, p, C, dx, fs, _, rfl, hp1, T.cl, T.pools, fp, _, rfl, pa, l, x, rfl, s1.seq hS, by have := cb.len; omega, fun rr H2 s2 f2 h2 => ?_⟩
  have sH2 := s1.trans s2
  have hp2 := sH2 _ _ hp
  have lw : (Hi.without l x).length ≤ l.length := List.length_filter_le _ _
  have hle' : ∀ i, (m ^^^ 2 ^ x).testBit i = true → c.testBit i = true := fun i hi => by
    rw [lbit] at hi
    exact hle i (Bool.and_eq_true_iff.mp hi).1
  have drop : ¬ InS l c most x → ∀ i, c.testBit i = true → fo.testBit i = true ∨ (m ^^^ 2 ^ x).testBit i = true ∨ ¬ InS l c most i := fun nx i hi => by
    rcases hall i hi with z | z | z
    · exact .inl z
    · by_cases e : i = x
      · exact .inr (.inr (e ▸ nx))
      · exact .inr (.inl (by rw [lbit, z, decide_eq_true e]; rfl))
    · exact .inr (.inr z)
  refine ⟨_, rfl, rr, _, rfl, .inl (SqL.of h2), _, rfl, p, C, dx, fs, _, rfl, hp2, T.cl, T.pools, fp, pa, _, rfl, .inl (sH2.seq hS), _, _, rfl, rfl, _, rfl, ?_⟩
  refine ite2 (fun c1 => ?_) (fun c1 => ?_)
  · have c1 : (Hi.without l x).length < l.length := by
      have := of_decide_eq_true c1
      rw [vN_len, vN_len] at this
      omega
    have m1 : most ≠ 0 := fun e => by
      have := Cv.cov_zero.mp (e ▸ gm.cov hc)
      rw [this] at c1
      simp at c1
    obtain ⟨mo, rfl⟩ : ∃ mo, most = mo + 1 := ⟨most - 1, by omega⟩
    have e1 : ((mo + 1 : Nat) : Int) - 1 = (mo : Int) := by omega
    have lt' := Cv.xor_lt hc cx
    refine ⟨_, rfl, p, dx, fs, rfl, hp2, cm.m8, _, rfl, _, rfl, p, C, dx, fs, _, rfl, hp2, T.cl, T.crowd, fc, _, rfl, _, _, rfl, rfl, _, rfl, _, _, rfl, rfl, p, rr, Hi.without l x, c ^^^ 2 ^ x, mo, (by rw [← e1, ← Cr.xor_nat]; rfl), ⟨dx, fs, hp2, cm⟩, SqL.of h2, by have := cb.len; omega, by omega, by omega, lt', fun H3 s3 => ⟨fun no => ?_, fun o ho => ?_⟩⟩
    · refine ⟨_, rfl, rfl, _, rfl, ?_⟩
      refine iteF ⟨m ^^^ 2 ^ x, ld, fo, m ^^^ 2 ^ x, _, _, _, rfl, sH2.trans s3, rfl, hle', hfo, drop fun z => no (in_out cx z).2⟩
    · refine ⟨_, rfl, rfl, _, rfl, ?_⟩
      have good := Cv.good_with cx ho
      refine iteT ⟨_, rfl, _, rfl, _, rfl, _, _, rfl, rfl, _, _, rfl, rfl, _, rfl, _, rfl, _, rfl, _, _, rfl, rfl, ?_⟩
      dsimp only
      rw [andnot_nat, Cr.or_nat, Cr.or_nat]
      refine ⟨(m ^^^ 2 ^ x) ^^^ ((m ^^^ 2 ^ x) &&& o), ?_, fo ||| (2 ^ x ||| o), (m ^^^ 2 ^ x) ^^^ ((m ^^^ 2 ^ x) &&& o), _, _, _, rfl, sH2.trans s3, rfl, fun i hi => ?_, fun i hi => ?_, fun i hi => ?_⟩
      · refine Nat.lt_of_le_of_lt (Nat.le_of_not_lt fun z => ?_) ld
        have h1 := Cr.xor_add_and (m ^^^ 2 ^ x) (m ^^^ 2 ^ x) ((m ^^^ 2 ^ x) &&& o) (Nat.le_refl _)
        have h3 : (m ^^^ 2 ^ x) ||| ((m ^^^ 2 ^ x) &&& o) = m ^^^ 2 ^ x := by
          apply Nat.eq_of_testBit_eq
          intro i
          rw [Nat.testBit_or, Nat.testBit_and]
          cases (m ^^^ 2 ^ x).testBit i <;> cases o.testBit i <;> rfl
        rw [h3] at h1
        omega
      · rw [Ms.less_bit] at hi
        exact hle' i (Bool.and_eq_true_iff.mp hi).1
      · rw [Nat.testBit_or] at hi
        rcases Bool.or_eq_true_iff.mp hi with z | z
        · exact hfo i z
        · exact good_in hc good z
      · by_cases e : (2 ^ x ||| o).testBit i = true
        · exact .inl (by rw [Nat.testBit_or, e, Bool.or_true])
        · have e := Bool.eq_false_iff.mpr e
          rw [Nat.testBit_or, Nat.testBit_two_pow] at e
          obtain ⟨e2, e3⟩ := Bool.or_eq_false_iff.mp e
          rcases hall i hi with z | z | z
          · exact .inl (by rw [Nat.testBit_or, z]; rfl)
          · refine .inr (.inl ?_)
            have ne : i ≠ x := fun z => (of_decide_eq_false e2) z.symm
            rw [Ms.less_bit, lbit, z, decide_eq_true ne, e3]
            rfl
          · exact .inr (.inr z)
  · have c1 : ¬ (Hi.without l x).length < l.length := fun z => c1 (by rw [vN_len, vN_len]; exact decide_eq_true (by omega))
    have eq := without_all c1
    refine ⟨m ^^^ 2 ^ x, ld, fo, m ^^^ 2 ^ x, _, _, _, rfl, sH2, rfl, hle', hfo, drop fun z => ?_⟩
    obtain ⟨z1, z2⟩ := in_out cx z
    rw [eq] at z2
    exact hno (most - 1) (by omega) (z2.sub (fun y hy => Cv.out_sub cx hy) (Nat.le_refl _))
theorem ok_in_all (T : TxtC K C) (M_Covers_some : MCallee P w K mg base 8 C "some" (["self", "pools", "crowd", "most"] : List Str) (spSome K C 5)) (F : Fun K "in_all" "Covers.in_all" s_Covers_in_all f fd) : FnOk P w K mg base CX0 9 f fd (["self", "smallest", "most"] : List Str) (spInAll K C) := by
  refine F.ok sc_Covers_in_all (fun vs H Q E h => ?_) (fun cdv A outer s H vs Q E hr h => ?_)
  · obtain ⟨p, l, c, r, most, rfl, _⟩ := h
    rfl
  obtain ⟨p, l, c, r, most, rfl, ⟨dx, pa, fs, hp, cm, fc, fp, hS⟩, cb, hm4, hg, q⟩ := h
  refine ⟨_, (pss_cons (ps_sw (i := 3) sc_Covers_in_all.nd (pv 1))
   (pss_cons (ps_sw (i := 4) sc_Covers_in_all.nd (pv 1))
   (pss_cons (ps_while PassesOwn.never (pt_truth (pv 4) (fun _ => rfl)) (pss_cons (ps_sw (i := 5) sc_Covers_in_all.nd (pe_op op_and (pv 4) (pe_un un_neg (pv 4))))
   (pss_cons (ps_aw (i := 4) sc_Covers_in_all.nd (pv 5) (ip_of iop_xor))
   (pss_cons (ps_sw (i := 6) sc_Covers_in_all.nd (pe_methC (pv 0) M_Covers_some (hr.mono (by omega)) (pa_cons (pe_fld (pv 0) rfl) (pa_cons (pe_op op_xor (pe_fld (pv 0) rfl) (pv 5)) (pa_cons (pv 2) pa_nil)))))
   (pss_one (ps_if (pt_cmpR op_notN (pv 6) pe_non (nomark _)) (pss_cons (ps_aw (i := 3) sc_Covers_in_all.nd (pv 6) (ip_of iop_and))
   (pss_one (ps_aw (i := 4) sc_Covers_in_all.nd (pv 6) (ip_of iop_and)))) pss_nil))))))
   (pss_one (ps_ret (pv 3)))))), ?_⟩
  have hc := cb.lt
  have lacks : ∀ {g : Nat}, Cv.Good l c most g → ∀ i, g.testBit i = false → ¬ InA l c most i := fun {g} hgg i hi ha => by
    have hr := hgg.lt hc
    have := ha (Cv.M g) hgg.2.1 (fun x hx => hgg.1 x (Cv.mem_M.mp hx).2) fun p hp => by
      obtain ⟨x, a, b⟩ := hgg.2.2 p hp
      exact ⟨x, (Cv.mem_Mc hr).mpr a, b⟩
    rw [(Cv.mem_Mc hr).mp this] at hi
    cases hi
  refine ⟨_, rfl, _, rfl, ?_⟩
  refine ⟨fun m σ H' => ∃ (co le : Nat) (v5 v6 : Option V), σ = [some (.ref p), some (.int r), some (.int most), some (.int co), some (.int le), v5, v6] ∧ Same H H' ∧ m = le ∧ (∀ i, le.testBit i = true → c.testBit i = true) ∧ (∀ i, le.testBit i = true → co.testBit i = true) ∧ (∀ i, co.testBit i = false → ¬ InA l c most i) ∧ (∀ i, co.testBit i = true → le.testBit i = false → InA l c most i),
    ⟨r, r, r, none, none, rfl, Same.refl H, rfl, hg.1, fun i h => h, fun i hi => lacks hg i hi, fun i h1 h2 => by rw [h1] at h2; cases h2⟩, ?_⟩
  rintro m σ H1 ⟨co, le, v5, v6, rfl, s1, rfl, hle, hlc, hout, hin⟩
  refine ⟨_, rfl, _, rfl, ?_⟩
  by_cases h0 : m = 0
  · subst h0
    refine iteF ⟨_, rfl, q co H1 s1 fun i => ⟨fun hi => hin i hi (Nat.zero_testBit i), fun hi => ?_⟩⟩
    cases e : co.testBit i with
    | true => rfl
    | false => exact absurd hi (hout i e)
  rw [bne0 h0]
  obtain ⟨x, lx, ex⟩ := Cr.low_of m h0
  obtain ⟨ld, lbit⟩ := Cr.low_drop lx
  have cx := hle x lx.1
  have hp1 := s1 _ _ hp
  have lt' := Cv.xor_lt hc cx
  have hle' : ∀ i, (m ^^^ 2 ^ x).testBit i = true → m.testBit i = true := fun i hi => by
    rw [lbit] at hi
    exact (Bool.and_eq_true_iff.mp hi).1
  refine iteT ⟨_, fun _ _ z => z, _, rfl, _, rfl, _, rfl, _, _, rfl, rfl, ?_⟩
  dsimp only
  rw [ex]
  refine ⟨_, rfl, _, rfl, _, _, rfl, rfl, ?_⟩
  dsimp only
  rw [Cr.xor_nat]
  refine ⟨_, rfl, p, dx, fs, rfl, hp1, cm.m8, _, rfl, p, C, dx, fs, _, rfl, hp1, T.cl, T.pools, fp, _, rfl, p, C, dx, fs, _, rfl, hp1, T.cl, T.crowd, fc, _, rfl, _, _, rfl, rfl, _, rfl, p, pa, l, c ^^^ 2 ^ x, most, (by rw [← Cr.xor_nat]; rfl), ⟨dx, fs, hp1, cm⟩, s1.seq hS, cb.len, by omega, hm4, lt', fun H2 s2 => ⟨fun no => ?_, fun o ho => ?_⟩⟩
  · refine ⟨_, rfl, rfl, _, rfl, ?_⟩
    refine iteF ⟨m ^^^ 2 ^ x, ld, co, m ^^^ 2 ^ x, _, _, rfl, s1.trans s2, rfl, fun i hi => hle i (hle' i hi), fun i hi => hlc i (hle' i hi), hout, fun i h1 h2 => ?_⟩
    by_cases e : i = x
    · subst e
      intro s a b d
      refine Classical.byContradiction fun z => no ⟨s, a, fun y hy => ?_, d⟩
      rw [Cv.xor_bit cx, b y hy, decide_eq_true (show y ≠ i from fun e => z (e ▸ hy))]
      rfl
    · refine hin i h1 ?_
      rw [lbit, decide_eq_true e, Bool.and_true] at h2
      exact h2
  · have good : Cv.Good l c most o := ho.sub (fun y hy => Cv.out_sub cx hy) (Nat.le_refl _)
    have nx : o.testBit x = false := by
      cases e : o.testBit x with
      | false => rfl
      | true =>
        have := ho.1 x e
        rw [Cv.xor_bit cx] at this
        simp at this
    refine ⟨_, rfl, rfl, _, rfl, ?_⟩
    refine iteT ⟨_, rfl, _, rfl, _, _, rfl, rfl, _, rfl, _, rfl, _, _, rfl, rfl, ?_⟩
    dsimp only
    rw [Cr.and_nat, Cr.and_nat]
    refine ⟨(m ^^^ 2 ^ x) &&& o, Nat.lt_of_le_of_lt Nat.and_le_left ld, co &&& o, (m ^^^ 2 ^ x) &&& o, _, _, rfl, s1.trans s2, rfl, fun i hi => ?_, fun i hi => ?_, fun i hi => ?_, fun i h1 h2 => ?_⟩
    · rw [Nat.testBit_and] at hi
      exact hle i (hle' i (Bool.and_eq_true_iff.mp hi).1)
    · rw [Nat.testBit_and] at hi ⊢
      obtain ⟨a, b⟩ := Bool.and_eq_true_iff.mp hi
      rw [hlc i (hle' i a), b]
      rfl
    · rw [Nat.testBit_and] at hi
      cases e : o.testBit i with
      | false => exact lacks good i e
      | true =>
        rw [e, Bool.and_true] at hi
        exact hout i hi
    · rw [Nat.testBit_and] at h1 h2
      obtain ⟨a, b⟩ := Bool.and_eq_true_iff.mp h1
      rw [b, Bool.and_true, lbit] at h2
      have ne : i ≠ x := fun e => by rw [e, nx] at b; cases b
      rw [decide_eq_true ne, Bool.and_true] at h2
      exact hin i a h2
end
end My
namespace L2
open PySem PySem.Spec PyProof.Rows
theorem pe_sortKeyC {X : Cx} {e o : Expr} {te to : TE} {p1 apos kpos pos : Pos} {k : Nat} {C : Addr} {ps : List Str} {sp : Sp} {m : Str} (M : MCallee X.prog X.w X.K X.mg X.base k C m ps sp) (hB : ∀ f, PySem.W.findIn X.K (.ref C) m = some (some (.ref f)) → Bound X.K m f) (c : Cls X.K C) (hr : Room (k + 2) X.A)
    (g1 : Gl X "sorted") (m1 : X.mg "sorted" = none) (he : PE X e te) (ho : PE X o to) (hab : attributeBase o m X.env (eval o X.env) = eval o X.env := by rfl) (h1 : starEach [e] X.env = (false, eval e X.env) :: starEach [] X.env := by rfl) :
    PE X (.Call (.Name "sorted" p1) [e] [⟨some (Str.ofString "key"), .Attribute o m apos, kpos⟩] pos) (tSortKey X.K C m sp te to) := by
  obtain ⟨f, fd, F, mt, b⟩ := M.ex
  exact pe_sortKey F hr b c mt (hB f mt.at_) g1 m1 he ho hab h1
theorem boot_set1 : bootBuiltins "set" = some (.type "set") := by decide +kernel
end L2
namespace My
open PySem L2
theorem dec_intsI {lo hi : Nat} {b : Int} {x : PySem.W.WData} {l : List Int} (h : (PySem.W.Codec.list lo hi (.int 0 b)).dec x = some l) : x = .list (l.map .int) ∧ l.length ≤ hi ∧ ∀ z ∈ l, 0 ≤ z ∧ z ≤ b := by
  obtain ⟨e, r⟩ := PySem.W.Codec.decList_inv (f := PySem.W.WData.int) (p := PySem.W.Codec.inInt 0 b) (fun d a h => PySem.W.Codec.decInt_inv h) h
  obtain ⟨r1, r2⟩ := PySem.W.Codec.and_of (show (PySem.W.Codec.inLen lo hi l && l.all (PySem.W.Codec.inInt 0 b)) = true from r)
  exact ⟨e, (PySem.W.Codec.inNat_iff.mp r1).2, fun z hz => PySem.W.Codec.inInt_iff.mp (List.all_eq_true.mp r2 z hz)⟩
def nats (r : List Int) : List Nat := r.map Int.toNat
theorem nats_vN {r : List Int} (h : ∀ z ∈ r, 0 ≤ z) : r.map V.int = vN (nats r) := by
  unfold vN nats
  rw [List.map_map]
  apply List.map_congr_left
  intro z hz
  have := h z hz
  show V.int z = V.int ((z.toNat : Nat) : Int)
  congr 1
  omega
theorem sub_pow (n : Nat) : (1 : Int) * 2 ^ ((n : Int)).toNat - 1 = ((2 ^ n - 1 : Nat) : Int) := by
  rw [shl1]
  have : 0 < 2 ^ n := Nat.pow_pos (by decide)
  omega
theorem look_here {f : Str} {v : V} {fs : List (Str × V)} : (putF f v fs).lookup f = some v := by rw [lookup_putF, if_pos rfl]
theorem look_there {f g : Str} {v : V} {fs : List (Str × V)} (h : ¬ g = f) : (putF f v fs).lookup g = fs.lookup g := by rw [lookup_putF, if_neg h]
def But (p : Addr) (H H' : Hp) : Prop := ∀ b o, H b = some o → b ≠ p → H' b = some o
theorem But.put {p : Addr} {H H' : Hp} (h : But p H H') (o : HO) : But p H (upd H' p o) := fun b u e n => by
  rw [upd_ne n]
  exact h b u e n
theorem But.same {p : Addr} {H H' H'' : Hp} (h : But p H H') (s : Same H' H'') : But p H H'' := fun b u e n => s b u (h b u e n)
theorem But.seq {K : PySem.W.Frag} {p a : Addr} {H H' : Hp} {xs : List V} (h : But p H H') (n : a ≠ p) (q : SqL K H a xs) : SqL K H' a xs := by
  rcases q with (q | ⟨o, q⟩) | q
  · exact .inl (.inl (h _ _ q n))
  · exact .inl (.inr ⟨o, h _ _ q n⟩)
  · exact .inr q
def g4 : List (Str × V) := putF "six_of_twelve" (.int (Pp.W 86 : Nat)) (putF "three_of_six" (.int (Pp.S 86 : Nat)) (putF "two_of_three" (.int (Pp.T 86 : Nat)) (putF "one_of_three" (.int (Pp.O 86 : Nat)) [])))
theorem g4_cm {fs : List (Str × V)} (h : ∀ g : Str, g ≠ ("crowd" : Str) → g ≠ ("pools" : Str) → fs.lookup g = g4.lookup g) : CM fs := by
  have no : ∀ g : Str, ¬ g = ("six_of_twelve" : Str) → ¬ g = ("three_of_six" : Str) → ¬ g = ("two_of_three" : Str) → ¬ g = ("one_of_three" : Str) → ¬ g = ("crowd" : Str) → ¬ g = ("pools" : Str) → fs.lookup g = none := fun g h1 h2 h3 h4 h5 h6 => by
    rw [h g h5 h6]
    unfold g4
    rw [look_there h1, look_there h2, look_there h3, look_there h4]
    rfl
  exact ⟨by rw [h _ (by decide +kernel) (by decide +kernel)]; unfold g4; rw [look_there (by decide +kernel), look_there (by decide +kernel), look_there (by decide +kernel), look_here],
    by rw [h _ (by decide +kernel) (by decide +kernel)]; unfold g4; rw [look_there (by decide +kernel), look_there (by decide +kernel), look_here],
    by rw [h _ (by decide +kernel) (by decide +kernel)]; unfold g4; rw [look_there (by decide +kernel), look_here],
    by rw [h _ (by decide +kernel) (by decide +kernel)]; unfold g4; rw [look_here],
    no _ (by decide +kernel) (by decide +kernel) (by decide +kernel) (by decide +kernel) (by decide +kernel) (by decide +kernel), no _ (by decide +kernel) (by decide +kernel) (by decide +kernel) (by decide +kernel) (by decide +kernel) (by decide +kernel),
    no _ (by decide +kernel) (by decide +kernel) (by decide +kernel) (by decide +kernel) (by decide +kernel) (by decide +kernel), no _ (by decide +kernel) (by decide +kernel) (by decide +kernel) (by decide +kernel) (by decide +kernel) (by decide +kernel),
    no _ (by decide +kernel) (by decide +kernel) (by decide +kernel) (by decide +kernel) (by decide +kernel) (by decide +kernel), no _ (by decide +kernel) (by decide +kernel) (by decide +kernel) (by decide +kernel) (by decide +kernel) (by decide +kernel),
    no _ (by decide +kernel) (by decide +kernel) (by decide +kernel) (by decide +kernel) (by decide +kernel) (by decide +kernel), no _ (by decide +kernel) (by decide +kernel) (by decide +kernel) (by decide +kernel) (by decide +kernel) (by decide +kernel),
    no _ (by decide +kernel) (by decide +kernel) (by decide +kernel) (by decide +kernel) (by decide +kernel) (by decide +kernel), no _ (by decide +kernel) (by decide +kernel) (by decide +kernel) (by decide +kernel) (by decide +kernel) (by decide +kernel),
    no _ (by decide +kernel) (by decide +kernel) (by decide +kernel) (by decide +kernel) (by decide +kernel) (by decide +kernel), no _ (by decide +kernel) (by decide +kernel) (by decide +kernel) (by decide +kernel) (by decide +kernel) (by decide +kernel)⟩
theorem len_g4 : g4.length ≤ 4 := by
  unfold g4
  have h1 := length_putF "one_of_three" (.int (Pp.O 86 : Nat)) []
  have h2 := length_putF "two_of_three" (.int (Pp.T 86 : Nat)) (putF "one_of_three" (.int (Pp.O 86 : Nat)) [])
  have h3 := length_putF "three_of_six" (.int (Pp.S 86 : Nat)) (putF "two_of_three" (.int (Pp.T 86 : Nat)) (putF "one_of_three" (.int (Pp.O 86 : Nat)) []))
  have h4 := length_putF "six_of_twelve" (.int (Pp.W 86 : Nat)) (putF "three_of_six" (.int (Pp.S 86 : Nat)) (putF "two_of_three" (.int (Pp.T 86 : Nat)) (putF "one_of_three" (.int (Pp.O 86 : Nat)) [])))
  simp only [List.length_nil] at h1
  omega
def spCovers (K : PySem.W.Frag) (C : Addr) : Sp := fun vs H Q _ => ∃ (p dx pa : Addr) (c : Nat) (l : List Nat), vs = [.ref p, .int c, .ref pa] ∧ H p = some (.ins C dx []) ∧ SqL K H pa (vN l) ∧ pa ≠ p ∧ l.length ≤ 2000 ∧ c < 2 ^ 1024 ∧ (∀ x ∈ l, x < 2 ^ 1024) ∧
  ∀ H' l', CAt K C H' p c l' → (∀ x, x ∈ l' ↔ x ∈ l) → l'.length ≤ 4096 → But p H H' → Q .non H'
section
variable {P : Program} {w : World} {K : PySem.W.Frag} {mg : Str → Option Value} {base : Heap} {f C : Addr} {fd : FuncData}
theorem ok_covers (T : TxtC K C) (m_sorted : mg "sorted" = none) (m_set : mg "set" = none) (hB : ∀ f, PySem.W.findIn K (.ref C) "size_of" = some (some (.ref f)) → Bound K "size_of" f) (M_Covers_size_of : MCallee P w K mg base 1 C "size_of" (["self", "crowd"] : List Str) (spSize C))
    (F : Fun K "__init__" "Covers.__init__" s_Covers___init__ f fd) : FnOk P w K mg base CX0 4 f fd (["self", "crowd", "pools"] : List Str) (spCovers K C) := by
  refine F.ok sc_Covers___init__ (fun vs H Q E h => ?_) (fun cdv A outer s H vs Q E hr h => ?_)
  · obtain ⟨p, dx, pa, c, l, rfl, _⟩ := h
    rfl
  obtain ⟨p, dx, pa, c, l, rfl, hp, hS, npa, hl, hc, hlt, q⟩ := h
  refine ⟨_, (pss_cons (ps_sw (i := 3) sc_Covers___init__.nd (pe_op op_sub (pe_op op_shl pe_int pe_int) pe_int))
   (pss_cons (ps_fld (pv 0) (pe_op op_fdiv (pv 3) pe_int) rfl)
   (pss_cons (ps_fld (pv 0) (pe_op op_mul (pe_op op_fdiv (pv 3) pe_int) pe_int) rfl)
   (pss_cons (ps_fld (pv 0) (pe_op op_mul (pe_op op_fdiv (pv 3) pe_int) pe_int) rfl)
   (pss_cons (ps_fld (pv 0) (pe_op op_mul (pe_op op_fdiv (pv 3) pe_int) pe_int) rfl)
   (pss_cons (ps_fld (pv 0) (pv 1) rfl)
   (pss_one (ps_fld (pv 0) (pe_sortKeyC M_Covers_size_of hB T.cl (hr.mono (by omega)) (by rfl) m_sorted (pe_sortSet rfl (by rfl) m_sorted (by rfl) m_set boot_set1 (pv 2)) (pv 0)) rfl)))))))), ?_⟩
  have e0 : (1 : Int) * 2 ^ ((1032 : Int)).toNat - 1 = ((2 ^ 1032 - 1 : Nat) : Int) := sub_pow 1032
  have eO : ((2 ^ 1032 - 1 : Nat) : Int) / 7 = ((Pp.O 86 : Nat) : Int) := by rw [Pp.masks.2.1]; exact (Int.natCast_ediv (2 ^ 1032 - 1) 7).symm
  have eT : ((2 ^ 1032 - 1 : Nat) : Int) / 7 * 3 = ((Pp.T 86 : Nat) : Int) := by
    rw [Pp.masks.1, Int.natCast_mul]
    congr 1
  have eS : ((2 ^ 1032 - 1 : Nat) : Int) / 63 * 7 = ((Pp.S 86 : Nat) : Int) := by
    rw [Pp.masks.2.2.1, Int.natCast_mul]
    congr 1
  have eW : ((2 ^ 1032 - 1 : Nat) : Int) / 4095 * 63 = ((Pp.W 86 : Nat) : Int) := by
    rw [Pp.masks.2.2.2, Int.natCast_mul]
    congr 1
  refine ⟨_, _, rfl, rfl, ⟨by decide, by decide, by decide⟩, _, _, rfl, rfl, ?_⟩
  dsimp only
  rw [e0]
  generalize ((2 ^ 1032 - 1 : Nat) : Int) = full at *
  have l1 : ∀ (g : Str) (v : V) (fs : List (Str × V)) (n : Nat), fs.length ≤ n → (putF g v fs).length ≤ n + 1 := fun g v fs n h => Nat.le_trans (length_putF g v fs) (by omega)
  refine ⟨_, rfl, _, _, rfl, rfl, ⟨by decide, by decide⟩, _, rfl, p, C, dx, [], rfl, hp, T.cl, T.one, (by show 0 < 1000; decide), ?_⟩
  dsimp only
  rw [eO]
  refine ⟨_, rfl, _, _, rfl, rfl, ⟨by decide, by decide⟩, _, _, rfl, rfl, Or.inr ⟨by decide, by decide⟩, _, rfl, p, C, dx, _, rfl, upd_same, T.cl, T.two, (Nat.lt_of_le_of_lt (l1 _ _ _ 0 (Nat.le_refl _)) (by decide)), ?_⟩
  dsimp only
  rw [eT, upd_upd]
  refine ⟨_, rfl, _, _, rfl, rfl, ⟨by decide, by decide⟩, _, _, rfl, rfl, Or.inr ⟨by decide, by decide⟩, _, rfl, p, C, dx, _, rfl, upd_same, T.cl, T.three, (Nat.lt_of_le_of_lt (l1 _ _ _ 1 (l1 _ _ _ 0 (Nat.le_refl _))) (by decide)), ?_⟩
  dsimp only
  rw [eS, upd_upd]
  refine ⟨_, rfl, _, _, rfl, rfl, ⟨by decide, by decide⟩, _, _, rfl, rfl, Or.inr ⟨by decide, by decide⟩, _, rfl, p, C, dx, _, rfl, upd_same, T.cl, T.six, (Nat.lt_of_le_of_lt (l1 _ _ _ 2 (l1 _ _ _ 1 (l1 _ _ _ 0 (Nat.le_refl _)))) (by decide)), ?_⟩
  dsimp only
  rw [eW, upd_upd]
  have lg := len_g4
  refine ⟨_, rfl, _, rfl, p, C, dx, g4, rfl, upd_same, T.cl, T.crowd, (Nat.lt_of_le_of_lt lg (by decide)), ?_⟩
  rw [upd_upd]
  have l5 : (putF "crowd" (.int c) g4).length ≤ 5 := l1 _ _ _ 4 lg
  have b5 : But p H (upd H p (.ins C dx (putF "crowd" (.int c) g4))) := But.put (fun b o e _ => e) _
  have cm5 : CM (putF "crowd" (.int c) g4) := g4_cm fun g h1 _ => look_there h1
  have eN : vN l = (l.map fun (x : Nat) => (x : Int)).map V.int := by
    unfold vN
    rw [List.map_map]
    rfl
  have hS5 := b5.seq npa hS
  rw [eN] at hS5
  refine ⟨_, rfl, pa, _, rfl, hS5, by rw [List.length_map]; omega, fun ns p1 hns hnl hp1 => ?_⟩
  have s1 := same_new hp1 (.lst (ns.map V.int))
  have mem : ∀ n ∈ ns, ∃ x : Nat, x ∈ l ∧ n = (x : Int) := fun n hn => by
    obtain ⟨x, hx, e⟩ := List.mem_map.mp ((hns n).mp hn)
    exact ⟨x, hx, e.symm⟩
  have hpp := s1 p _ upd_same
  refine ⟨_, rfl, p1, p, dx, _, ns, (fun n => ((Ms.sz n.toNat : Nat) : Int)), rfl, rfl, hpp, cm5.m1, SqL.of upd_same, hnl, fun n hn => ?_, fun ns' p2 hperm hp2 => ?_⟩
  · obtain ⟨x, hx, rfl⟩ := mem n hn
    exact ⟨p, x, rfl, ⟨dx, _, hpp, cm5⟩, hlt x hx, rfl, rfl⟩
  have s2 := same_new hp2 (.lst (ns'.map V.int))
  refine ⟨_, rfl, p, C, dx, _, rfl, s2 _ _ hpp, T.cl, T.pools, (Nat.lt_of_le_of_lt l5 (by decide)), ?_⟩
  have np2 : p2 ≠ p := fun e => by rw [e, hpp] at hp2; cases hp2
  have eP : ns'.map V.int = vN (ns'.map Int.toNat) := by
    unfold vN
    rw [List.map_map]
    refine List.map_congr_left fun n hn => ?_
    obtain ⟨x, _, rfl⟩ := mem n (hperm.mem_iff.mp hn)
    rfl
  refine q _ (ns'.map Int.toNat) ⟨dx, p2, _, upd_same, g4_cm fun g h1 h2 => by rw [look_there h2, look_there h1], by rw [look_there (by decide +kernel), look_here], look_here, ?_⟩ (fun x => ?_) (by rw [List.length_map, hperm.length_eq]; exact hnl) (((b5.same s1).same s2).put _)
  · rw [← eP]
    exact SqL.of (by rw [upd_ne np2]; exact upd_same)
  · rw [List.mem_map]
    constructor
    · rintro ⟨n, hn, rfl⟩
      obtain ⟨x, hx, rfl⟩ := mem n (hperm.mem_iff.mp hn)
      exact hx
    · intro hx
      exact ⟨(x : Int), hperm.mem_iff.mpr ((hns _).mpr (List.mem_map.mpr ⟨x, hx, rfl⟩)), rfl⟩
end
end My
namespace L2
open PySem PySem.Spec PyProof.Rows
section
variable {X : Cx} {a : Expr} {ta : TE} {pos : Pos}
def tNotT (K : PySem.W.Frag) (ta : TE) : TE := fun σ H Q => ta σ H fun x H1 => ∃ k, TruV K x H1 k ∧ Q (.bl (!k)) H1
theorem pe_notT (ha : PE X a ta) : PE X (.UnaryOp .Not a pos) (tNotT X.K ta) := by
  intro pins s σ H Q I h
  refine UnaryOp_ (thn (ha pins s σ H _ I h) fun v s1 ⟨x, H1, I1, r1, q1⟩ => ?_)
  obtain ⟨k, e, q1⟩ := q1
  exact not_of (thn (tru_ok pins s1 σ H1 x v (fun c H2 => Q (.bl (!c)) H2) I1 r1 ⟨k, e, q1⟩) fun c s2 ⟨H2, I2, q2⟩ => ⟨.bl (!c), H2, I2, rfl, q2⟩)
end
end L2
namespace My
open PySem L2
abbrev s_Halving___init__ : Stmt := inClass (top 38) 0
theorem sc_Halving___init__ : FnScope (["self", "n", "d"] : List Str) (["self", "n", "d"] : List Str) (defScope s_Halving___init__) := fsc
abbrev s_Halving_is_over : Stmt := inClass (top 38) 1
theorem sc_Halving_is_over : FnScope (["self"] : List Str) (["self"] : List Str) (defScope s_Halving_is_over) := fsc
abbrev s_Halving_pool : Stmt := inClass (top 38) 2
theorem sc_Halving_pool : FnScope (["self"] : List Str) (["self"] : List Str) (defScope s_Halving_pool) := fsc
abbrev s_Halving_first_size : Stmt := inClass (top 38) 3
theorem sc_Halving_first_size : FnScope (["self", "unknown", "size"] : List Str) (["self"] : List Str) (defScope s_Halving_first_size) := fsc
abbrev s_Halving_take_in : Stmt := inClass (top 38) 4
theorem sc_Halving_take_in : FnScope (["self", "positive", "pool", "second"] : List Str) (["self", "positive"] : List Str) (defScope s_Halving_take_in) := fsc
structure TxtH (K : PySem.W.Frag) (C : Addr) : Prop where
  cl : Cls K C
  unknown : NoAttr K C "unknown"
  group : NoAttr K C "group"
  caught : NoAttr K C "caught"
  left : NoAttr K C "ill_left"
structure HF (fs : List (Str × V)) (u g ca : Addr) (left : Nat) : Prop where
  unknown : fs.lookup ("unknown" : Str) = some (.ref u)
  group : fs.lookup ("group" : Str) = some (.ref g)
  caught : fs.lookup ("caught" : Str) = some (.ref ca)
  left : fs.lookup ("ill_left" : Str) = some (.int left)
  m1 : fs.lookup ("is_over" : Str) = none
  m2 : fs.lookup ("pool" : Str) = none
  m3 : fs.lookup ("first_size" : Str) = none
  m4 : fs.lookup ("take_in" : Str) = none
  len : fs.length ≤ 4
def HAt (C : Addr) (H : Hp) (p u g ca : Addr) (t : Sh12.Search) : Prop := ∃ (dx : Addr) (fs : List (Str × V)), H p = some (.ins C dx fs) ∧ HF fs u g ca t.left ∧ H u = some (.lst (vN t.unknown)) ∧ H g = some (.lst (vN t.group)) ∧ H ca = some (.lst (vN t.ill))
theorem HAt.same {C : Addr} {H H' : Hp} {p u g ca : Addr} {t : Sh12.Search} (h : HAt C H p u g ca t) (s : Same H H') : HAt C H' p u g ca t := by
  obtain ⟨dx, fs, h1, h2, h3, h4, h5⟩ := h
  exact ⟨dx, fs, s _ _ h1, h2, s _ _ h3, s _ _ h4, s _ _ h5⟩
structure SOk (t : Sh12.Search) : Prop where
  asc : (t.ill ++ t.group ++ t.unknown).Pairwise (· < ·)
  lt : ∀ x ∈ t.ill ++ t.group ++ t.unknown, x < 1024
  grp : t.group ≠ [] → 1 ≤ t.left ∧ 2 ≤ t.group.length
theorem asc_from : ∀ {l : List Nat} {b : Nat}, l.Pairwise (· < ·) → (∀ x ∈ l, b ≤ x ∧ x < 1024) → l.length ≤ 1024 - b
  | [], _, _, _ => Nat.zero_le _
  | x :: r, b, h, k => by
    obtain ⟨h1, h2⟩ := List.pairwise_cons.mp h
    have hx := k x List.mem_cons_self
    have := asc_from (b := x + 1) h2 fun y hy => ⟨h1 y hy, (k y (List.mem_cons_of_mem _ hy)).2⟩
    rw [List.length_cons]
    omega
theorem asc_len {l : List Nat} (h : l.Pairwise (· < ·)) (k : ∀ x ∈ l, x < 1024) : l.length ≤ 1024 := asc_from (b := 0) h fun x hx => ⟨Nat.zero_le _, k x hx⟩
theorem SOk.lens {t : Sh12.Search} (h : SOk t) : t.ill.length + t.group.length + t.unknown.length ≤ 1024 := by
  have := asc_len h.asc h.lt
  rw [List.length_append, List.length_append] at this
  exact this
def over (t : Sh12.Search) : Bool := t.group.isEmpty && (t.left == 0 || t.unknown.isEmpty)
theorem pool_over {t : Sh12.Search} (h : over t = true) : t.pool = [] := by
  unfold over at h
  rw [Bool.and_eq_true, Bool.or_eq_true, beq_iff_eq, List.isEmpty_iff, List.isEmpty_iff] at h
  obtain ⟨g, h⟩ := h
  unfold Sh12.Search.pool
  rw [g]
  simp only [ne_eq, not_true_eq_false, if_false]
  rcases h with h | h
  · rw [if_pos h]
  · split
    · rfl
    · rw [h]
      simp
def fsize (t : Sh12.Search) : Nat := if t.unknown.length + 2 ≤ 2 * t.left then 1 else 2 ^ Sh12.power t.unknown.length t.left
theorem fsize_pos (t : Sh12.Search) : 0 < fsize t := by
  unfold fsize
  split
  · decide
  · exact Nat.pow_pos (by decide)
theorem pool_group {t : Sh12.Search} (h : t.group ≠ []) : t.pool = t.group.take (t.group.length / 2) := by
  unfold Sh12.Search.pool
  rw [if_pos h]
theorem pool_unknown {t : Sh12.Search} (h : t.group = []) (hl : t.left ≠ 0) : t.pool = t.unknown.take (fsize t) := by
  unfold Sh12.Search.pool fsize
  rw [if_neg (by rw [h]; simp), if_neg hl]
  split <;> rfl
theorem over_false {t : Sh12.Search} (h : over t = false) (g : t.group = []) : t.left ≠ 0 ∧ t.unknown ≠ [] := by
  unfold over at h
  rw [g] at h
  simp at h
  exact h
theorem pool_pos {t : Sh12.Search} (k : SOk t) (h : over t = false) : t.pool ≠ [] := by
  by_cases g : t.group = []
  · obtain ⟨h1, h2⟩ := over_false h g
    rw [pool_unknown g h1]
    have := fsize_pos t
    intro z
    rw [List.take_eq_nil_iff] at z
    rcases z with z | z
    · omega
    · exact h2 z
  · have := (k.grp g).2
    rw [pool_group g]
    intro z
    rw [List.take_eq_nil_iff] at z
    rcases z with z | z
    · omega
    · exact g z
theorem pool_empty {t : Sh12.Search} (k : SOk t) : t.pool.isEmpty = over t := by
  cases h : over t with
  | true => rw [pool_over h]; rfl
  | false =>
    have := pool_pos k h
    cases e : t.pool with
    | nil => exact absurd e this
    | cons a b => rfl
theorem power_eq {n d a : Nat} (hd : 0 < d) (h1 : 2 ^ a * d ≤ n - d + 1) (h2 : ¬ 2 ^ (a + 1) * d ≤ n - d + 1) : Sh12.power n d = a := by
  unfold Sh12.power
  have k1 : 2 ^ a ≤ (n - d + 1) / d := (Nat.le_div_iff_mul_le hd).mpr h1
  have k2 : (n - d + 1) / d < 2 ^ (a + 1) := (Nat.div_lt_iff_lt_mul hd).mpr (Nat.lt_of_not_le h2)
  have k0 : (n - d + 1) / d ≠ 0 := by
    have := Nat.pow_pos (n := a) (show 0 < 2 by decide)
    omega
  have u1 := (Nat.le_log2 k0).mpr k1
  have u2 := (Nat.log2_lt k0).mpr k2
  omega
theorem cut_to (xs : List V) (k : Nat) : cutV xs none (some ((k : Nat) : Int)) = xs.take k := by
  unfold cutV
  rw [HT.sIx_nat, HT.sIx_none, List.drop_zero, Nat.sub_zero, Nat.min_def]
  split
  · rfl
  · rw [List.take_length, List.take_of_length_le (by omega)]
theorem cut_from (xs : List V) (k : Nat) : cutV xs (some ((k : Nat) : Int)) none = xs.drop k := by
  unfold cutV
  rw [HT.sIx_nat, HT.sIx_none]
  rcases Nat.le_total k xs.length with h | h
  · rw [Nat.min_eq_left h]
    exact List.take_of_length_le (by rw [List.length_drop]; exact Nat.le_refl _)
  · rw [Nat.min_eq_right h, List.drop_eq_nil_of_le h, Nat.sub_self]
    rfl
theorem vN_take (l : List Nat) (k : Nat) : (vN l).take k = vN (l.take k) := List.map_take.symm
theorem vN_drop (l : List Nat) (k : Nat) : (vN l).drop k = vN (l.drop k) := List.map_drop.symm
theorem isE (l : List Nat) : (vN l).isEmpty = l.isEmpty := by cases l <;> rfl
def spOver (C : Addr) : Sp := fun vs H Q _ => ∃ (p u g ca : Addr) (t : Sh12.Search), vs = [.ref p] ∧ HAt C H p u g ca t ∧ Q (.bl (over t)) H
def spFirst (C : Addr) : Sp := fun vs H Q _ => ∃ (p u g ca : Addr) (t : Sh12.Search), vs = [.ref p] ∧ HAt C H p u g ca t ∧ 0 < t.left ∧ t.unknown.length ≤ 1024 ∧ t.unknown ≠ [] ∧ Q (.int (fsize t : Nat)) H
def spPool (C : Addr) : Sp := fun vs H Q _ => ∃ (p u g ca : Addr) (t : Sh12.Search), vs = [.ref p] ∧ HAt C H p u g ca t ∧ SOk t ∧ ∀ r H', Same H H' → H r = none → H' r = some (.lst (vN t.pool)) → Q (.ref r) H'
section
variable {P : Program} {w : World} {K : PySem.W.Frag} {mg : Str → Option Value} {base : Heap} {f C : Addr} {fd : FuncData}
theorem ok_over (T : TxtH K C) (F : Fun K "is_over" "Halving.is_over" s_Halving_is_over f fd) : FnOk P w K mg base CX0 1 f fd (["self"] : List Str) (spOver C) := by
  refine F.ok sc_Halving_is_over (fun vs H Q E h => ?_) (fun cdv A outer s H vs Q E hr h => ?_)
  · obtain ⟨p, u, g, ca, t, rfl, _⟩ := h
    rfl
  obtain ⟨p, u, g, ca, t, rfl, ⟨dx, fs, hp, hf, hu, hg, hca⟩, q⟩ := h
  refine ⟨_, (pss_one (ps_ret (pe_and (pe_notT (pe_fld (pv 0) rfl)) (pe_one (pe_or (pe_cmpR op_eq (pe_fld (pv 0) rfl) pe_int (nomark _)) (pe_one (pe_notT (pe_fld (pv 0) rfl)))))))), ?_⟩
  refine ⟨_, rfl, p, C, dx, fs, _, rfl, hp, T.cl, T.group, hf.group, _, Or.inl ⟨_, SqL.of hg, rfl⟩, _, rfl, ?_⟩
  rw [isE]
  unfold over at q
  cases eg : t.group.isEmpty with
  | false =>
    rw [eg] at q
    exact iteF q
  | true =>
    rw [eg, Bool.true_and] at q
    refine iteT ⟨_, rfl, p, C, dx, fs, _, rfl, hp, T.cl, T.left, hf.left, rfl, _, rfl, ?_⟩
    by_cases el : t.left = 0
    · rw [el] at q ⊢
      exact iteT q
    · have e1 : (t.left == 0) = false := beq_eq_false_iff_ne.mpr el
      rw [e1, Bool.false_or] at q
      have e2 : decide (V.int (t.left : Int) = V.int 0) = false := decide_eq_false fun z => by
        injection z with z
        omega
      rw [e2]
      refine iteF ⟨_, rfl, p, C, dx, fs, _, rfl, hp, T.cl, T.unknown, hf.unknown, _, Or.inl ⟨_, SqL.of hu, rfl⟩, ?_⟩
      rw [isE, Bool.not_not]
      exact q
theorem ok_first (T : TxtH K C) (m_len : mg "len" = none) (F : Fun K "first_size" "Halving.first_size" s_Halving_first_size f fd) : FnOk P w K mg base CX0 1 f fd (["self"] : List Str) (spFirst C) := by
  refine F.ok sc_Halving_first_size (fun vs H Q E h => ?_) (fun cdv A outer s H vs Q E hr h => ?_)
  · obtain ⟨p, u, g, ca, t, rfl, _⟩ := h
    rfl
  obtain ⟨p, u, g, ca, t, rfl, ⟨dx, fs, hp, hf, hu, hg, hca⟩, hl, hn, hne, q⟩ := h
  refine ⟨_, (pss_cons (ps_sw (i := 1) sc_Halving_first_size.nd (pe_callB call_len_seq (by rfl) m_len PySem.boot_len (pa_cons (pe_fld (pv 0) rfl) pa_nil)))
   (pss_cons (ps_sw (i := 2) sc_Halving_first_size.nd pe_int)
   (pss_cons (ps_if (pt_cmpR op_gt (pe_op op_add (pv 1) pe_int) (pe_op op_mul pe_int (pe_fld (pv 0) rfl)) (nomark _)) (pss_one (ps_while PassesOwn.never (pt_cmpR op_le (pe_op op_mul (pe_op op_mul pe_int (pv 2)) (pe_fld (pv 0) rfl)) (pe_op op_add (pe_op op_sub (pv 1) (pe_fld (pv 0) rfl)) pe_int) (nomark _)) (pss_one (ps_sw (i := 2) sc_Halving_first_size.nd (pe_op op_mul pe_int (pv 2)))))) pss_nil)
   (pss_one (ps_ret (pv 2)))))), ?_⟩
  refine ⟨_, rfl, p, C, dx, fs, _, rfl, hp, T.cl, T.unknown, hf.unknown, u, _, rfl, .inl (SqL.of hu), ?_⟩
  dsimp only
  rw [vN_len]
  refine ⟨_, rfl, _, _, rfl, rfl, _, rfl, p, C, dx, fs, _, rfl, hp, T.cl, T.left, hf.left, _, _, rfl, rfl, Or.inl ⟨by decide, by decide⟩, _, _, rfl, rfl, _, rfl, ?_⟩
  have np : 0 < t.unknown.length := List.length_pos_iff.mpr hne
  refine ite2 (fun c0 => ?_) (fun c0 => ?_)
  · have c0 : 2 * (t.left : Int) < (t.unknown.length : Int) + 2 := of_decide_eq_true c0
    refine ⟨fun m σ H' => ∃ a : Nat, σ = [some (.ref p), some (.int (t.unknown.length : Int)), some (.int (2 ^ a : Nat))] ∧ H' = H ∧ m = 1100 - 2 ^ a ∧ 2 ^ a * t.left ≤ t.unknown.length - t.left + 1, ⟨_, 0, rfl, rfl, rfl, by omega⟩, ?_⟩
    rintro m σ H' ⟨a, rfl, rfl, rfl, ha⟩
    have b0 : 2 ^ a ≤ 2 ^ a * t.left := Nat.le_mul_of_pos_right _ hl
    have b1 : 2 ^ a ≤ 1024 := by omega
    have b2 : 0 < 2 ^ a := Nat.pow_pos (by decide)
    refine ⟨_, rfl, _, _, rfl, rfl, Or.inl ⟨by decide, by decide⟩, _, rfl, p, C, dx, fs, _, rfl, hp, T.cl, T.left, hf.left, _, _, rfl, rfl, Or.inl ⟨by omega, by omega⟩, _, rfl, _, rfl, p, C, dx, fs, _, rfl, hp, T.cl, T.left, hf.left, _, _, rfl, rfl, _, _, rfl, rfl, _, _, rfl, rfl, _, rfl, ?_⟩
    have ep : 2 ^ (a + 1) * t.left = 2 * 2 ^ a * t.left := by rw [Nat.pow_succ, Nat.mul_comm (2 ^ a) 2]
    have ei : (2 : Int) * ((2 ^ a : Nat) : Int) * (t.left : Int) = ((2 ^ (a + 1) * t.left : Nat) : Int) := by
      rw [ep, Int.natCast_mul, Int.natCast_mul]
      rfl
    dsimp only
    rw [ei]
    by_cases hd : 2 ^ (a + 1) * t.left ≤ t.unknown.length - t.left + 1
    · rw [decide_eq_true (show ((2 ^ (a + 1) * t.left : Nat) : Int) ≤ (t.unknown.length : Int) - (t.left : Int) + 1 by omega)]
      refine iteT ⟨_, fun _ _ z => z, _, rfl, _, _, rfl, rfl, Or.inl ⟨by decide, by decide⟩, 1100 - 2 ^ (a + 1), by rw [Nat.pow_succ]; omega, a + 1, ?_, rfl, rfl, hd⟩
      rw [Nat.pow_succ, Nat.mul_comm (2 ^ a) 2, Int.natCast_mul]
      rfl
    · rw [decide_eq_false (show ¬ ((2 ^ (a + 1) * t.left : Nat) : Int) ≤ (t.unknown.length : Int) - (t.left : Int) + 1 by omega)]
      refine iteF ⟨_, rfl, ?_⟩
      have : fsize t = 2 ^ a := by
        unfold fsize
        rw [if_neg (by omega), power_eq hl ha hd]
      rw [this] at q
      exact q
  · have c0 : ¬ 2 * (t.left : Int) < (t.unknown.length : Int) + 2 := of_decide_eq_false (Bool.eq_false_iff.mpr c0)
    have : fsize t = 1 := by
      unfold fsize
      rw [if_pos (by omega)]
    rw [this] at q
    exact ⟨_, rfl, q⟩
theorem ok_pool (T : TxtH K C) (m_len : mg "len" = none) (M_Halving_is_over : MCallee P w K mg base 1 C "is_over" (["self"] : List Str) (spOver C)) (M_Halving_first_size : MCallee P w K mg base 1 C "first_size" (["self"] : List Str) (spFirst C))
    (F : Fun K "pool" "Halving.pool" s_Halving_pool f fd) : FnOk P w K mg base CX0 2 f fd (["self"] : List Str) (spPool C) := by
  refine F.ok sc_Halving_pool (fun vs H Q E h => ?_) (fun cdv A outer s H vs Q E hr h => ?_)
  · obtain ⟨p, u, g, ca, t, rfl, _⟩ := h
    rfl
  obtain ⟨p, u, g, ca, t, rfl, hA, k, q⟩ := h
  obtain ⟨dx, fs, hp, hf, hu, hg, hca⟩ := id hA
  have ls := k.lens
  refine ⟨_, (pss_cons (ps_if (pt_truth (pe_methC0 (pv 0) M_Halving_is_over (hr.mono (by omega))) (fun _ => rfl)) (pss_one (ps_ret (pe_lst pa_nil))) pss_nil)
   (pss_cons (ps_if (pt_truth (pe_fld (pv 0) rfl) (fun _ => rfl)) (pss_one (ps_ret (pe_slice sl_list (pe_fld (pv 0) rfl) po_none (po_some (pe_op op_fdiv (pe_callB call_len_seq (by rfl) m_len PySem.boot_len (pa_cons (pe_fld (pv 0) rfl) pa_nil)) pe_int))))) pss_nil)
   (pss_one (ps_ret (pe_slice sl_list (pe_fld (pv 0) rfl) po_none (po_some (pe_methC0 (pv 0) M_Halving_first_size (hr.mono (by omega))))))))), ?_⟩
  refine ⟨_, rfl, p, dx, fs, rfl, hp, hf.m1, p, u, g, ca, t, rfl, hA, _, rfl, ?_⟩
  cases ho : over t with
  | true =>
    refine iteT ⟨Nat.zero_le _, fun r hr => q r _ (same_new hr _) hr ?_⟩
    rw [upd_same, pool_over ho]
    rfl
  | false =>
    refine iteF ⟨_, rfl, p, C, dx, fs, _, rfl, hp, T.cl, T.group, hf.group, _, Or.inl ⟨_, SqL.of hg, rfl⟩, ?_⟩
    rw [isE]
    by_cases eg : t.group = []
    · obtain ⟨l0, u0⟩ := over_false ho eg
      have e1 : t.group.isEmpty = true := by rw [eg]; rfl
      rw [e1]
      refine iteF ⟨_, rfl, p, C, dx, fs, _, rfl, hp, T.cl, T.unknown, hf.unknown, _, rfl, p, dx, fs, rfl, hp, hf.m3, p, u, g, ca, t, rfl, hA, by omega, by omega, u0, _, rfl, u, _, rfl, SqL.of hu, fun r hr => q r _ (same_new hr _) hr ?_⟩
      rw [upd_same, cut_to, vN_take, ← pool_unknown eg l0]
    · have e1 : t.group.isEmpty = false := by
        cases e : t.group with
        | nil => exact absurd e eg
        | cons a b => rfl
      rw [e1]
      refine iteT ⟨_, rfl, p, C, dx, fs, _, rfl, hp, T.cl, T.group, hf.group, _, rfl, p, C, dx, fs, _, rfl, hp, T.cl, T.group, hf.group, g, _, rfl, .inl (SqL.of hg), _, _, rfl, rfl, ⟨by decide, by decide⟩, _, rfl, g, _, rfl, SqL.of hg, fun r hr => q r _ (same_new hr _) hr ?_⟩
      have e : (((vN t.group).length : Nat) : Int) / 2 = ((t.group.length / 2 : Nat) : Int) := by
        rw [vN_len]
        rfl
      rw [upd_same, e, cut_to, vN_take, ← pool_group eg]
end
theorem len_putF {f : Str} {v x : V} : ∀ {fs : List (Str × V)}, fs.lookup f = some x → (putF f v fs).length = fs.length
  | [], h => by cases h
  | (k, y) :: r, h => by
    rw [show putF f v ((k, y) :: r) = (if k = f then (k, v) :: r else (k, y) :: putF f v r) from rfl]
    by_cases hk : k = f
    · rw [if_pos hk]
      rfl
    · rw [if_neg hk, List.length_cons, List.length_cons, len_putF (fs := r)]
      have hb : (f == k) = false := beq_eq_false_iff_ne.mpr fun z => hk z.symm
      rw [List.lookup_cons, hb] at h
      exact h
theorem HF.putU {fs : List (Str × V)} {u g ca : Addr} {left : Nat} (h : HF fs u g ca left) (u' : Addr) : HF (putF "unknown" (.ref u') fs) u' g ca left :=
  ⟨look_here, (look_there (by decide +kernel)).trans h.group, (look_there (by decide +kernel)).trans h.caught, (look_there (by decide +kernel)).trans h.left, (look_there (by decide +kernel)).trans h.m1, (look_there (by decide +kernel)).trans h.m2, (look_there (by decide +kernel)).trans h.m3, (look_there (by decide +kernel)).trans h.m4, (len_putF h.unknown).symm ▸ h.len⟩
theorem HF.putG {fs : List (Str × V)} {u g ca : Addr} {left : Nat} (h : HF fs u g ca left) (g' : Addr) : HF (putF "group" (.ref g') fs) u g' ca left :=
  ⟨(look_there (by decide +kernel)).trans h.unknown, look_here, (look_there (by decide +kernel)).trans h.caught, (look_there (by decide +kernel)).trans h.left, (look_there (by decide +kernel)).trans h.m1, (look_there (by decide +kernel)).trans h.m2, (look_there (by decide +kernel)).trans h.m3, (look_there (by decide +kernel)).trans h.m4, (len_putF h.group).symm ▸ h.len⟩
theorem HF.putC {fs : List (Str × V)} {u g ca : Addr} {left : Nat} (h : HF fs u g ca left) (c' : Addr) : HF (putF "caught" (.ref c') fs) u g c' left :=
  ⟨(look_there (by decide +kernel)).trans h.unknown, (look_there (by decide +kernel)).trans h.group, look_here, (look_there (by decide +kernel)).trans h.left, (look_there (by decide +kernel)).trans h.m1, (look_there (by decide +kernel)).trans h.m2, (look_there (by decide +kernel)).trans h.m3, (look_there (by decide +kernel)).trans h.m4, (len_putF h.caught).symm ▸ h.len⟩
theorem HF.putL {fs : List (Str × V)} {u g ca : Addr} {left : Nat} (h : HF fs u g ca left) (l' : Nat) : HF (putF "ill_left" (.int l') fs) u g ca l' :=
  ⟨(look_there (by decide +kernel)).trans h.unknown, (look_there (by decide +kernel)).trans h.group, (look_there (by decide +kernel)).trans h.caught, look_here, (look_there (by decide +kernel)).trans h.m1, (look_there (by decide +kernel)).trans h.m2, (look_there (by decide +kernel)).trans h.m3, (look_there (by decide +kernel)).trans h.m4, (len_putF h.left).symm ▸ h.len⟩
def mid (t : Sh12.Search) (b : Bool) : Sh12.Search :=
  if t.group ≠ [] then (if b = true then ⟨t.group.drop t.pool.length ++ t.unknown, t.group.take t.pool.length, t.left, t.ill⟩ else ⟨t.unknown, t.group.drop t.pool.length, t.left, t.ill⟩)
  else if b = true then ⟨t.unknown.drop t.pool.length, t.unknown.take t.pool.length, t.left, t.ill⟩ else ⟨t.unknown.drop t.pool.length, [], t.left, t.ill⟩
theorem told_eq (t : Sh12.Search) (b : Bool) : t.told b = (mid t b).settled := rfl
theorem mid_sub (t : Sh12.Search) (b : Bool) : ((mid t b).ill ++ (mid t b).group ++ (mid t b).unknown).Sublist (t.ill ++ t.group ++ t.unknown) := by
  unfold mid
  by_cases g : t.group = []
  · rw [if_neg (by simpa using g), g]
    cases b
    · simp only [Bool.false_eq_true, if_false, List.append_nil]
      exact List.Sublist.append (List.Sublist.refl _) (List.drop_sublist _ _)
    · simp only [if_true, List.append_nil]
      rw [List.append_assoc, List.take_append_drop]
      exact List.Sublist.refl _
  · rw [if_pos g]
    cases b
    · simp only [Bool.false_eq_true, if_false]
      exact List.Sublist.append (List.Sublist.append (List.Sublist.refl _) (List.drop_sublist _ _)) (List.Sublist.refl _)
    · simp only [if_true]
      rw [List.append_assoc, ← List.append_assoc (List.take _ _), List.take_append_drop, ← List.append_assoc]
      exact List.Sublist.refl _
theorem mid_left (t : Sh12.Search) (b : Bool) : (mid t b).left = t.left ∧ (mid t b).ill = t.ill := by
  unfold mid
  split <;> split <;> exact ⟨rfl, rfl⟩
theorem settled_ok {t : Sh12.Search} (h1 : (t.ill ++ t.group ++ t.unknown).Pairwise (· < ·)) (h2 : ∀ x ∈ t.ill ++ t.group ++ t.unknown, x < 1024) (h3 : t.group ≠ [] → 1 ≤ t.left) : SOk t.settled := by
  obtain ⟨un, gr, le, il⟩ := t
  unfold Sh12.Search.settled
  match gr, h1, h2, h3 with
  | [], h1, h2, h3 => exact ⟨h1, h2, fun z => absurd rfl z⟩
  | [x], h1, h2, h3 => exact ⟨by simpa using h1, by simpa using h2, fun z => absurd rfl z⟩
  | x :: y :: r, h1, h2, h3 => exact ⟨h1, h2, fun z => ⟨h3 z, by simp⟩⟩
theorem left_pos {t : Sh12.Search} (k : SOk t) (ho : over t = false) : 1 ≤ t.left := by
  by_cases g : t.group = []
  · have := (over_false ho g).1
    omega
  · exact (k.grp g).1
theorem told_ok {t : Sh12.Search} (k : SOk t) (ho : over t = false) (b : Bool) : SOk (t.told b) := by
  rw [told_eq]
  refine settled_ok (k.asc.sublist (mid_sub t b)) (fun x hx => k.lt x ((mid_sub t b).subset hx)) fun _ => ?_
  rw [(mid_left t b).1]
  exact left_pos k ho
theorem begins_ok {n d : Nat} (h : n ≤ 1024) : SOk (Sh12.begins n d) :=
  ⟨List.pairwise_lt_range, fun x hx => Nat.lt_of_lt_of_le (List.mem_range.mp hx) h, fun z => absurd rfl z⟩
theorem asc_members {l : List Nat} (h : l.Pairwise (· < ·)) (k : ∀ x ∈ l, x < 1024) : (List.range 1024).filter (fun i => l.contains i) = l := by
  have p : ((List.range 1024).filter (fun i => l.contains i)).Perm l := by
    refine (List.perm_ext_iff_of_nodup (List.nodup_range.filter _) (h.imp (fun z => Nat.ne_of_lt z))).mpr fun x => ?_
    rw [List.mem_filter, List.mem_range, List.contains_iff_mem]
    exact ⟨fun z => z.2, fun z => ⟨k x z, z⟩⟩
  exact p.eq_of_pairwise (le := (· < ·)) (fun a b _ _ u v => absurd u (Nat.lt_asymm v)) (List.pairwise_lt_range.filter _) h
theorem told_bits {l : List Nat} (h : l.Pairwise (· < ·)) (k : ∀ x ∈ l, x < 1024) : Sh12Neutral.told (Sh12.set1 (Sh12.bits l)) = (l.length : Int) :: l.map fun (n : Nat) => (n : Int) := by
  unfold Sh12.bits
  rw [Ex.told_wide, asc_members h k]
theorem pool_sub (t : Sh12.Search) : t.pool.Sublist (t.group ++ t.unknown) := by
  unfold Sh12.Search.pool
  split
  · exact (List.take_sublist _ _).trans (List.sublist_append_left _ _)
  · split
    · exact List.nil_sublist _
    · split <;> exact (List.take_sublist _ _).trans (List.sublist_append_right _ _)
theorem SOk.pool {t : Sh12.Search} (h : SOk t) : t.pool.Pairwise (· < ·) ∧ ∀ x ∈ t.pool, x < 1024 := by
  have s : t.pool.Sublist (t.ill ++ t.group ++ t.unknown) := (pool_sub t).trans (by rw [List.append_assoc]; exact List.sublist_append_right _ _)
  exact ⟨h.asc.sublist s, fun x hx => h.lt x (s.subset hx)⟩
theorem SOk.ill {t : Sh12.Search} (h : SOk t) : t.ill.Pairwise (· < ·) ∧ ∀ x ∈ t.ill, x < 1024 := by
  have s : t.ill.Sublist (t.ill ++ t.group ++ t.unknown) := by rw [List.append_assoc]; exact List.sublist_append_left _ _
  exact ⟨h.asc.sublist s, fun x hx => h.lt x (s.subset hx)⟩
def rLen (K : PySem.W.Frag) : List V → Hp → VK → Prop := fun xs H Q => ∃ p ys, xs = [.ref p] ∧ (SqL K H p ys ∨ SqT K H p ys) ∧ Q (.int ys.length) H
def tsFin (K : PySem.W.Frag) : TS :=
  tIfS (tTest (tOp rEq (tCB (rLen K) (tCons (tFld K (tVar 0) "group") tNil)) (tC (V.int 1)))) (tSeq (sFld K (tVar 0) (tOp rCat (tFld K (tVar 0) "caught") (tFld K (tVar 0) "group")) "caught") (tSeq (sFld K (tVar 0) (tLst tNil) "group") (sFldAug K (tVar 0) (tC (V.int 1)) rSub "ill_left"))) tNext
theorem ins_ne_lst {H : Hp} {p a C dx : Addr} {fs : List (Str × V)} {xs : List V} (h1 : H p = some (.ins C dx fs)) (h2 : H a = some (.lst xs)) : a ≠ p := fun e => by
  rw [e, h1] at h2
  cases h2
theorem ne_of_none' {H : Hp} {p a : Addr} {o : HO} (h1 : H p = some o) (h2 : H a = none) : a ≠ p := fun e => by
  rw [e, h1] at h2
  cases h2
theorem take_len {α : Type} (l : List α) (k : Nat) : l.take (l.take k).length = l.take k := by
  rw [List.length_take, ← List.take_take, List.take_length]
theorem fin {K : PySem.W.Frag} {C p u g ca : Addr} {t : Sh12.Search} {H : Hp} {D : Ends} {σ : List (Option V)} {bad : Addr → Prop} (T : TxtH K C) (hσ : σ[0]? = some (some (.ref p))) (h : HAt C H p u g ca t) (hl : t.group ≠ [] → 1 ≤ t.left) (hz : t.ill.length ≤ 1024)
    (hb : ∀ b, bad b → H b ≠ none) (bu : ¬ bad u) (bg : ¬ bad g) (bc : ¬ bad ca)
    (q : ∀ (u' g' ca' : Addr) (H' : Hp), HAt C H' p u' g' ca' t.settled → ¬ bad u' → ¬ bad g' → ¬ bad ca' → But p H H' → D.nx σ H') : tsFin K D σ H := by
  obtain ⟨dx, fs, hp, hf, hu, hg, hca⟩ := id h
  refine ⟨_, hσ, p, C, dx, fs, _, rfl, hp, T.cl, T.group, hf.group, g, _, rfl, .inl (SqL.of hg), rfl, _, rfl, ?_⟩
  by_cases e1 : t.group.length = 1
  · obtain ⟨x, ex⟩ := List.length_eq_one_iff.mp e1
    have ed : decide (V.int (((vN t.group).length : Nat) : Int) = V.int 1) = true := by
      rw [vN_len, e1]
      rfl
    rw [ed]
    have fresh : ∀ r, H r = none → ¬ bad r := fun r hr z => hb r z hr
    refine iteT ⟨_, hσ, p, C, dx, fs, _, rfl, hp, T.cl, T.caught, hf.caught, _, hσ, p, C, dx, fs, _, rfl, hp, T.cl, T.group, hf.group, ca, g, _, _, rfl, rfl, hca, hg, ?_, fun r hr => ?_⟩
    · rw [vN_len, vN_len, e1]
      exact Nat.le_of_lt (lt_line (by omega))
    have s1 := same_new hr (.lst (vN t.ill ++ vN t.group))
    refine ⟨_, hσ, p, C, dx, fs, rfl, s1 _ _ hp, T.cl, T.caught, (by have := hf.len; omega), ?_⟩
    have nr : r ≠ p := fun e => by rw [e, hp] at hr; cases hr
    refine ⟨Nat.zero_le _, fun r2 hr2 => ?_⟩
    have nr2 : r2 ≠ p := fun e => by rw [e, upd_same] at hr2; cases hr2
    have nr3 : r2 ≠ r := fun e => by rw [e, upd_ne nr, upd_same] at hr2; cases hr2
    have hr2' : H r2 = none := by
      rw [upd_ne nr2, upd_ne nr3] at hr2
      exact hr2
    refine ⟨_, hσ, p, C, dx, _, rfl, by rw [upd_ne nr2.symm]; exact upd_same, T.cl, T.group, (by have := (hf.putC r).len; omega), ?_⟩
    have hf2 := (hf.putC r).putG r2
    refine ⟨_, hσ, p, C, dx, _, _, rfl, upd_same, T.cl, T.left, hf2.left, _, _, rfl, rfl, dx, _, upd_same, (by have := hf2.len; omega), ?_⟩
    have l1 : 1 ≤ t.left := hl (by rw [ex]; simp)
    have e2 : (t.left : Int) - 1 = ((t.left - 1 : Nat) : Int) := by omega
    rw [e2, upd_upd]
    have es : t.settled = ⟨t.unknown, [], t.left - 1, t.ill ++ [x]⟩ := by
      unfold Sh12.Search.settled
      rw [ex]
    refine q u r2 r _ ⟨dx, _, upd_same, ?_, ?_, ?_, ?_⟩ bu (fresh _ hr2') (fresh _ hr) fun b o eb nb => ?_
    · rw [es]
      exact hf2.putL _
    · rw [es]
      have n1 : u ≠ p := ins_ne_lst hp hu
      have n2 : u ≠ r2 := ne_of_none hu hr2'
      have n3 : u ≠ r := ne_of_none hu hr
      rw [upd_ne n1, upd_ne n2, upd_ne n1, upd_ne n3]
      exact hu
    · rw [es, upd_ne nr2, upd_same]
      rfl
    · rw [es, upd_ne nr, upd_ne nr3.symm, upd_ne nr, upd_same, ← ex, vN_app]
    · rw [upd_ne nb, upd_ne (ne_of_none eb hr2'), upd_ne nb, upd_ne (ne_of_none eb hr)]
      exact eb
  · have ed : decide (V.int (((vN t.group).length : Nat) : Int) = V.int 1) = false := decide_eq_false fun z => by
      injection z with z
      rw [vN_len] at z
      omega
    rw [ed]
    have es : t.settled = t := by
      unfold Sh12.Search.settled
      split
      · rename_i x e
        rw [e] at e1
        exact absurd rfl e1
      · rfl
    exact iteF (q u g ca H (es.symm ▸ h) bu bg bc fun b o e _ => e)
def spTake (C : Addr) : Sp := fun vs H Q _ => ∃ (p u g ca : Addr) (t : Sh12.Search) (z : Nat) (bad : Addr → Prop), vs = [.ref p, .int z] ∧ HAt C H p u g ca t ∧ SOk t ∧ over t = false ∧ z ≤ 1 ∧ (∀ b, bad b → H b ≠ none) ∧ ¬ bad p ∧ ¬ bad u ∧ ¬ bad g ∧ ¬ bad ca ∧
  ∀ (u' g' ca' : Addr) (H' : Hp), HAt C H' p u' g' ca' (t.told (z == 1)) → ¬ bad u' → ¬ bad g' → ¬ bad ca' → But p H H' → Q .non H'
def spHalving (C : Addr) : Sp := fun vs H Q _ => ∃ (p dx : Addr) (n d : Nat), vs = [.ref p, .int n, .int d] ∧ H p = some (.ins C dx []) ∧ n ≤ 1024 ∧
  ∀ (u g ca : Addr) (H' : Hp), HAt C H' p u g ca (Sh12.begins n d) → H u = none → H g = none → H ca = none → But p H H' → Q .non H'
section
variable {P : Program} {w : World} {K : PySem.W.Frag} {mg : Str → Option Value} {base : Heap} {f C : Addr} {fd : FuncData}
theorem ok_take (T : TxtH K C) (m_len : mg "len" = none) (M_Halving_pool : MCallee P w K mg base 2 C "pool" (["self"] : List Str) (spPool C))
    (F : Fun K "take_in" "Halving.take_in" s_Halving_take_in f fd) : FnOk P w K mg base CX0 3 f fd (["self", "positive"] : List Str) (spTake C) := by
  refine F.ok sc_Halving_take_in (fun vs H Q E h => ?_) (fun cdv A outer s H vs Q E hr h => ?_)
  · obtain ⟨p, u, g, ca, t, z, bad, rfl, _⟩ := h
    rfl
  obtain ⟨p, u, g, ca, t, z, bad, rfl, hA, k, ho, hz, hbad, bp, bu, bg, bc, q⟩ := h
  refine ⟨_, (pss_cons (ps_sw (i := 2) sc_Halving_take_in.nd (pe_methC0 (pv 0) M_Halving_pool (hr.mono (by omega))))
   (pss_cons (ps_if (pt_truth (pe_fld (pv 0) rfl) (fun _ => rfl)) (pss_cons (ps_sw (i := 3) sc_Halving_take_in.nd (pe_slice sl_list (pe_fld (pv 0) rfl) (po_some (pe_callB call_len_seq (by rfl) m_len PySem.boot_len (pa_cons (pv 2) pa_nil))) po_none))
   (pss_cons (ps_if (pt_truth (pv 1) (fun _ => rfl)) (pss_one (ps_fld (pv 0) (pe_op op_cat (pv 3) (pe_fld (pv 0) rfl)) rfl)) pss_nil)
   (pss_one (ps_fld (pv 0) (pe_ifExp (pt_truth (pv 1) (fun _ => rfl)) (pv 2) (pv 3)) rfl)))) (pss_cons (ps_fld (pv 0) (pe_slice sl_list (pe_fld (pv 0) rfl) (po_some (pe_callB call_len_seq (by rfl) m_len PySem.boot_len (pa_cons (pv 2) pa_nil))) po_none) rfl)
   (pss_one (ps_fld (pv 0) (pe_ifExp (pt_truth (pv 1) (fun _ => rfl)) (pv 2) (pe_lst pa_nil)) rfl))))
   (pss_one (ps_if (pt_cmpR op_eq (pe_callB call_len_seq (by rfl) m_len PySem.boot_len (pa_cons (pe_fld (pv 0) rfl) pa_nil)) pe_int (nomark _)) (pss_cons (ps_fld (pv 0) (pe_op op_cat (pe_fld (pv 0) rfl) (pe_fld (pv 0) rfl)) rfl)
   (pss_cons (ps_fld (pv 0) (pe_lst pa_nil) rfl)
   (pss_one (ps_fldaug (pv 0) pe_int in_sub)))) pss_nil)))), ?_⟩
  have ls := k.lens
  obtain ⟨dx, fs, hp0, hf, _⟩ := id hA
  refine ⟨_, rfl, p, dx, fs, rfl, hp0, hf.m2, p, u, g, ca, t, rfl, hA, k, fun r H1 s1 f1 h1 => ?_⟩
  have hA1 := hA.same s1
  have br : ¬ bad r := fun z => hbad r z f1
  have hbad1 : ∀ b, bad b → H1 b ≠ none := fun b hb e => by
    cases eb : H b with
    | none => exact hbad b hb eb
    | some o => rw [s1 _ _ eb] at e; cases e
  obtain ⟨dx, fs, hp, hf, hu, hg, hca⟩ := id hA1
  have ze : ((z : Int) != 0) = (z == 1) := by
    match z, hz with
    | 0, _ => rfl
    | 1, _ => rfl
  have nr : r ≠ p := ins_ne_lst hp h1
  refine ⟨_, rfl, p, C, dx, fs, _, rfl, hp, T.cl, T.group, hf.group, _, Or.inl ⟨_, SqL.of hg, rfl⟩, ?_⟩
  rw [isE]
  have done : ∀ (u1 g1 : Addr) (H2 : Hp) (σ : List (Option V)) (D : Ends), σ[0]? = some (some (.ref p)) → D.nx = (fun _ H' => Q .non H') → HAt C H2 p u1 g1 ca (mid t (z == 1)) → ¬ bad u1 → ¬ bad g1 → But p H1 H2 → tsFin K D σ H2 := by
    intro u1 g1 H2 σ D hσ hD h2 b1 b2 bt
    refine fin T hσ h2 (fun _ => by rw [(mid_left _ _).1]; exact left_pos k ho) (by rw [(mid_left _ _).2]; omega) (bad := bad) (fun b hb e => ?_) b1 b2 bc fun u' g' ca' H' h' c1 c2 c3 b' => ?_
    · cases eb : H1 b with
      | none => exact hbad1 b hb eb
      | some o =>
        rw [bt b o eb (fun w => bp (w ▸ hb))] at e
        cases e
    · rw [hD]
      exact q u' g' ca' H' h' c1 c2 c3 fun b o e n => b' b o (bt b o (s1 _ _ e) n) n
  have fresh : ∀ r, H1 r = none → ¬ bad r := fun r hr z => hbad1 r z hr
  by_cases eg : t.group = []
  · have e1 : t.group.isEmpty = true := by rw [eg]; rfl
    rw [e1]
    obtain ⟨l0, u0⟩ := over_false ho eg
    have ep : t.unknown.take t.pool.length = t.pool := by rw [pool_unknown eg l0, take_len]
    refine iteF ⟨_, rfl, p, C, dx, fs, _, rfl, hp, T.cl, T.unknown, hf.unknown, _, rfl, r, _, rfl, .inl (SqL.of h1), _, rfl, u, _, rfl, SqL.of hu, fun r2 hr2 => ?_⟩
    rw [cut_from, vN_drop, vN_len]
    have s2 := same_new hr2 (.lst (vN (t.unknown.drop t.pool.length)))
    have n2 : r2 ≠ p := ne_of_none' hp hr2
    refine ⟨_, rfl, p, C, dx, fs, rfl, s2 _ _ hp, T.cl, T.unknown, (by have := hf.len; omega), ?_⟩
    have hf2 := hf.putU r2
    refine ⟨_, rfl, _, rfl, ?_⟩
    rw [ze]
    cases hz1 : z == 1 with
    | true =>
      have em : mid t (z == 1) = ⟨t.unknown.drop t.pool.length, t.pool, t.left, t.ill⟩ := by
        unfold mid
        rw [if_neg (by simpa using eg), if_pos hz1, ep]
      refine iteT ⟨_, rfl, _, rfl, p, C, dx, _, rfl, upd_same, T.cl, T.group, (by have := hf2.len; omega), ?_⟩
      rw [upd_upd]
      refine done r2 r _ _ _ rfl rfl ⟨dx, _, upd_same, ?_, ?_, ?_, ?_⟩ (fresh _ hr2) br ((But.same (fun b o e _ => e) s2).put _)
      · rw [em]; exact hf2.putG r
      · rw [em, upd_ne n2]; exact upd_same
      · rw [em, upd_ne nr]; exact s2 _ _ h1
      · rw [em, upd_ne (ins_ne_lst hp hca)]; exact s2 _ _ hca
    | false =>
      have em : mid t (z == 1) = ⟨t.unknown.drop t.pool.length, [], t.left, t.ill⟩ := by
        unfold mid
        rw [if_neg (by simpa using eg), if_neg (by rw [hz1]; decide)]
      refine iteF ⟨Nat.zero_le _, fun r3 hr3 => ?_⟩
      have n3 : r3 ≠ p := fun e => by rw [e, upd_same] at hr3; cases hr3
      rw [upd_ne n3] at hr3
      have s3 := same_new hr3 (.lst [])
      refine ⟨_, rfl, p, C, dx, _, rfl, by rw [upd_ne n3.symm]; exact upd_same, T.cl, T.group, (by have := hf2.len; omega), ?_⟩
      refine done r2 r3 _ _ _ rfl rfl ⟨dx, _, upd_same, ?_, ?_, ?_, ?_⟩ (fresh _ hr2) (fresh _ (s2.free hr3)) fun b o e n => ?_
      · rw [em]; exact hf2.putG r3
      · rw [em, upd_ne n2, upd_ne (ne_of_none upd_same hr3), upd_ne n2]; exact upd_same
      · rw [em, upd_ne n3]; exact upd_same
      · have nc := ins_ne_lst hp hca
        rw [em, upd_ne nc, upd_ne (ne_of_none (s2 _ _ hca) hr3), upd_ne nc]; exact s2 _ _ hca
      · rw [upd_ne n, upd_ne (ne_of_none (s2 _ _ e) hr3), upd_ne n]; exact s2 _ _ e
  · have e1 : t.group.isEmpty = false := by
      cases e : t.group with
      | nil => exact absurd e eg
      | cons a b => rfl
    rw [e1]
    have ep : t.group.take t.pool.length = t.pool := by rw [pool_group eg, take_len]
    refine iteT ⟨_, rfl, p, C, dx, fs, _, rfl, hp, T.cl, T.group, hf.group, _, rfl, r, _, rfl, .inl (SqL.of h1), _, rfl, g, _, rfl, SqL.of hg, fun r2 hr2 => ?_⟩
    rw [cut_from, vN_drop, vN_len]
    have s2 := same_new hr2 (.lst (vN (t.group.drop t.pool.length)))
    have n2 : r2 ≠ p := ne_of_none' hp hr2
    refine ⟨_, rfl, _, rfl, ?_⟩
    rw [ze]
    cases hz1 : z == 1 with
    | true =>
      have em : mid t (z == 1) = ⟨t.group.drop t.pool.length ++ t.unknown, t.pool, t.left, t.ill⟩ := by
        unfold mid
        rw [if_pos eg, if_pos hz1, ep]
      refine iteT ⟨_, rfl, _, rfl, p, C, dx, fs, _, rfl, s2 _ _ hp, T.cl, T.unknown, hf.unknown, r2, u, _, _, rfl, rfl, upd_same, s2 _ _ hu, ?_, fun r3 hr3 => ?_⟩
      · rw [vN_len, vN_len, List.length_drop]
        exact Nat.le_of_lt (lt_line (by omega))
      have s3 := same_new hr3 (.lst (vN (t.group.drop t.pool.length) ++ vN t.unknown))
      have n3 : r3 ≠ p := ne_of_none' (s2 _ _ hp) hr3
      refine ⟨_, rfl, p, C, dx, fs, rfl, s3 _ _ (s2 _ _ hp), T.cl, T.unknown, (by have := hf.len; omega), ?_⟩
      have hf2 := hf.putU r3
      refine ⟨_, rfl, _, rfl, ?_⟩
      rw [ze, hz1]
      refine iteT ⟨_, rfl, _, rfl, p, C, dx, _, rfl, upd_same, T.cl, T.group, (by have := hf2.len; omega), ?_⟩
      rw [upd_upd]
      refine done r3 r _ _ _ rfl rfl ⟨dx, _, upd_same, ?_, ?_, ?_, ?_⟩ (fresh _ (s2.free hr3)) br ((But.same (fun b o e _ => e) (s2.trans s3)).put _)
      · rw [em]; exact hf2.putG r
      · rw [em, upd_ne n3, upd_same, vN_app]
      · rw [em, upd_ne nr]; exact s3 _ _ (s2 _ _ h1)
      · rw [em, upd_ne (ins_ne_lst hp hca)]; exact s3 _ _ (s2 _ _ hca)
    | false =>
      have em : mid t (z == 1) = ⟨t.unknown, t.group.drop t.pool.length, t.left, t.ill⟩ := by
        unfold mid
        rw [if_pos eg, if_neg (by rw [hz1]; decide)]
      refine iteF ⟨_, rfl, _, rfl, ?_⟩
      rw [ze, hz1]
      refine iteF ⟨_, rfl, _, rfl, p, C, dx, fs, rfl, s2 _ _ hp, T.cl, T.group, (by have := hf.len; omega), ?_⟩
      refine done u r2 _ _ _ rfl rfl ⟨dx, _, upd_same, ?_, ?_, ?_, ?_⟩ bu (fresh _ hr2) ((But.same (fun b o e _ => e) s2).put _)
      · rw [em]; exact hf.putG r2
      · rw [em, upd_ne (ins_ne_lst hp hu)]; exact s2 _ _ hu
      · rw [em, upd_ne n2]; exact upd_same
      · rw [em, upd_ne (ins_ne_lst hp hca)]; exact s2 _ _ hca
theorem ok_halving (T : TxtH K C) (m_list : mg "list" = none) (m_range : mg "range" = none)
    (F : Fun K "__init__" "Halving.__init__" s_Halving___init__ f fd) : FnOk P w K mg base CX0 1 f fd (["self", "n", "d"] : List Str) (spHalving C) := by
  refine F.ok sc_Halving___init__ (fun vs H Q E h => ?_) (fun cdv A outer s H vs Q E hr h => ?_)
  · obtain ⟨p, dx, n, d, rfl, _⟩ := h
    rfl
  obtain ⟨p, dx, n, d, rfl, hp, hn, q⟩ := h
  refine ⟨_, (pss_cons (ps_fld (pv 0) (pe_callTy (call_list_rng rfl) (by rfl) m_list PyProof.Rows.boot_list (pa_cons (pe_callTy call_rng1 (by rfl) m_range PyProof.Rows.boot_range (pa_cons (pv 1) pa_nil)) pa_nil)) rfl)
   (pss_cons (ps_fld (pv 0) (pe_lst pa_nil) rfl)
   (pss_cons (ps_fld (pv 0) (pe_lst pa_nil) rfl)
   (pss_one (ps_fld (pv 0) (pv 2) rfl))))), ?_⟩
  refine ⟨_, rfl, _, rfl, fun r1 hr1 => ?_⟩
  have s1 := same_new hr1 (.rng 0 (n : Int))
  refine ⟨r1, n, rfl, upd_same, by omega, fun u hu => ?_⟩
  have s2 := same_new hu (.lst ((List.range n).map fun (i : Nat) => V.int (i : Int)))
  have hp2 := s2 _ _ (s1 _ _ hp)
  have s12 := s1.trans s2
  have nu : u ≠ p := ne_of_none' (s1 _ _ hp) hu
  refine ⟨_, rfl, p, C, dx, [], rfl, hp2, T.cl, T.unknown, (by show 0 < 1000; decide), ?_⟩
  refine ⟨Nat.zero_le _, fun g hg => ?_⟩
  have ng : g ≠ p := fun e => by rw [e, upd_same] at hg; cases hg
  rw [upd_ne ng] at hg
  have gu : g ≠ u := fun e => by rw [e, upd_same] at hg; cases hg
  have l1 : ∀ (g : Str) (v : V) (fs : List (Str × V)) (n : Nat), fs.length ≤ n → (putF g v fs).length ≤ n + 1 := fun g v fs n h => Nat.le_trans (length_putF g v fs) (by omega)
  have a1 := l1 "unknown" (.ref u) [] 0 (Nat.le_refl _)
  have a2 := l1 "group" (.ref g) _ 1 a1
  refine ⟨_, rfl, p, C, dx, _, rfl, by rw [upd_ne ng.symm]; exact upd_same, T.cl, T.group, (by omega), ?_⟩
  refine ⟨Nat.zero_le _, fun ca hca => ?_⟩
  have nc : ca ≠ p := fun e => by rw [e, upd_same] at hca; cases hca
  rw [upd_ne nc] at hca
  have cg : ca ≠ g := fun e => by rw [e, upd_same] at hca; cases hca
  rw [upd_ne cg, upd_ne nc] at hca
  have cu : ca ≠ u := fun e => by rw [e, upd_same] at hca; cases hca
  have a3 := l1 "caught" (.ref ca) _ 2 a2
  refine ⟨_, rfl, p, C, dx, _, rfl, by rw [upd_ne nc.symm]; exact upd_same, T.cl, T.caught, (by omega), ?_⟩
  refine ⟨_, rfl, _, rfl, p, C, dx, _, rfl, upd_same, T.cl, T.left, (by omega), ?_⟩
  rw [upd_upd]
  refine q u g ca _ ⟨dx, _, upd_same, ⟨?_, ?_, ?_, ?_, ?_, ?_, ?_, ?_, l1 "ill_left" _ _ 3 a3⟩, ?_, ?_, ?_⟩ (s1.free hu) (s12.free hg) (s12.free hca) fun b o e n => ?_
  · rw [look_there (by decide +kernel), look_there (by decide +kernel), look_there (by decide +kernel), look_here]
  · rw [look_there (by decide +kernel), look_there (by decide +kernel), look_here]
  · rw [look_there (by decide +kernel), look_here]
  · rw [look_here]; rfl
  · rw [look_there (by decide +kernel), look_there (by decide +kernel), look_there (by decide +kernel), look_there (by decide +kernel)]; rfl
  · rw [look_there (by decide +kernel), look_there (by decide +kernel), look_there (by decide +kernel), look_there (by decide +kernel)]; rfl
  · rw [look_there (by decide +kernel), look_there (by decide +kernel), look_there (by decide +kernel), look_there (by decide +kernel)]; rfl
  · rw [look_there (by decide +kernel), look_there (by decide +kernel), look_there (by decide +kernel), look_there (by decide +kernel)]; rfl
  · rw [upd_ne nu, upd_ne cu.symm, upd_ne nu, upd_ne gu.symm, upd_ne nu, upd_same]; rfl
  · rw [upd_ne ng, upd_ne cg.symm, upd_ne ng, upd_same]; rfl
  · rw [upd_ne nc, upd_same]; rfl
  · have e2 := s12 _ _ e
    have e3 : b ≠ g := ne_of_none e2 hg
    have e4 : b ≠ ca := ne_of_none e2 hca
    rw [upd_ne n, upd_ne e4, upd_ne n, upd_ne e3, upd_ne n]
    exact e2
end
abbrev s_Line___init__ : Stmt := inClass (top 36) 0
theorem sc_Line___init__ : FnScope (["self", "numbers"] : List Str) (["self", "numbers"] : List Str) (defScope s_Line___init__) := fsc
abbrev s_Line_goes_on : Stmt := inClass (top 36) 1
theorem sc_Line_goes_on : FnScope (["self"] : List Str) (["self"] : List Str) (defScope s_Line_goes_on) := fsc
abbrev s_Line_take_number : Stmt := inClass (top 36) 2
theorem sc_Line_take_number : FnScope (["self", "number"] : List Str) (["self"] : List Str) (defScope s_Line_take_number) := fsc
abbrev s_Line_take_row : Stmt := inClass (top 36) 3
theorem sc_Line_take_row : FnScope (["self", "length", "row"] : List Str) (["self"] : List Str) (defScope s_Line_take_row) := fsc
structure TxtL (K : PySem.W.Frag) (C : Addr) : Prop where
  cl : Cls K C
  numbers : NoAttr K C "numbers"
  place : NoAttr K C "place"
structure LF (fs : List (Str × V)) (a : Addr) (i : Nat) : Prop where
  numbers : fs.lookup ("numbers" : Str) = some (.ref a)
  place : fs.lookup ("place" : Str) = some (.int i)
  m1 : fs.lookup ("goes_on" : Str) = none
  m2 : fs.lookup ("take_number" : Str) = none
  m3 : fs.lookup ("take_row" : Str) = none
  len : fs.length ≤ 2
def Ind (K : PySem.W.Frag) (a : Addr) (l : List Nat) (p : Addr) : Prop := a ≠ p ∨ ∀ H, SqL K H a (vN l)
theorem But.seq2 {K : PySem.W.Frag} {p a : Addr} {H H' : Hp} {l : List Nat} (h : But p H H') (n : Ind K a l p) (q : SqL K H a (vN l)) : SqL K H' a (vN l) := n.elim (fun n => h.seq n q) fun n => n H'
def LAt (K : PySem.W.Frag) (C : Addr) (H : Hp) (p a : Addr) (l : List Nat) (i : Nat) : Prop := ∃ (dx : Addr) (fs : List (Str × V)), H p = some (.ins C dx fs) ∧ LF fs a i ∧ SqL K H a (vN l) ∧ Ind K a l p
theorem LF.put {fs : List (Str × V)} {a : Addr} {i : Nat} (h : LF fs a i) (j : Nat) : LF (putF "place" (.int j) fs) a j :=
  ⟨(look_there (by decide +kernel)).trans h.numbers, look_here, (look_there (by decide +kernel)).trans h.m1, (look_there (by decide +kernel)).trans h.m2, (look_there (by decide +kernel)).trans h.m3, (len_putF h.place).symm ▸ h.len⟩
theorem But.refl (p : Addr) (H : Hp) : But p H H := fun _ _ e _ => e
theorem LAt.put {K : PySem.W.Frag} {C : Addr} {H : Hp} {p a dx : Addr} {l : List Nat} {i : Nat} {fs : List (Str × V)} (hp : H p = some (.ins C dx fs)) (hf : LF fs a i) (hS : SqL K H a (vN l)) (ne : Ind K a l p) (j : Nat) : LAt K C (upd H p (.ins C dx (putF "place" (.int j) fs))) p a l j :=
  ⟨dx, _, upd_same, hf.put j, ((But.refl p H).put _).seq2 ne hS, ne⟩
theorem LAt.keep {K : PySem.W.Frag} {C : Addr} {H H' : Hp} {p a : Addr} {l : List Nat} {i : Nat} (h : LAt K C H p a l i) (k : ∀ b o, (b = p ∨ b = a) → H b = some o → H' b = some o) : LAt K C H' p a l i := by
  obtain ⟨dx, fs, h1, h2, h3, h4⟩ := h
  refine ⟨dx, fs, k _ _ (.inl rfl) h1, h2, ?_, h4⟩
  rcases h3 with (q | ⟨o, q⟩) | q
  · exact .inl (.inl (k _ _ (.inr rfl) q))
  · exact .inl (.inr ⟨o, k _ _ (.inr rfl) q⟩)
  · exact .inr q
theorem cut_mid (xs : List V) (i n : Nat) (h : i + n ≤ xs.length) : cutV xs (some ((i : Nat) : Int)) (some ((i + n : Nat) : Int)) = (xs.drop i).take n := by
  unfold cutV
  rw [HT.sIx_nat, HT.sIx_nat, Nat.min_eq_left h, Nat.min_eq_left (show i ≤ xs.length by omega), Nat.add_sub_cancel_left]
def spLine (K : PySem.W.Frag) (C : Addr) : Sp := fun vs H Q _ => ∃ (p dx a : Addr) (l : List Nat), vs = [.ref p, .ref a] ∧ H p = some (.ins C dx []) ∧ SqL K H a (vN l) ∧ Ind K a l p ∧ ∀ H', LAt K C H' p a l 0 → But p H H' → Q .non H'
def spGoes (K : PySem.W.Frag) (C : Addr) : Sp := fun vs H Q _ => ∃ (p a : Addr) (l : List Nat) (i : Nat), vs = [.ref p] ∧ LAt K C H p a l i ∧ Q (.bl (decide (i < l.length))) H
def spNum (K : PySem.W.Frag) (C : Addr) : Sp := fun vs H Q _ => ∃ (p a : Addr) (l : List Nat) (i x : Nat), vs = [.ref p] ∧ LAt K C H p a l i ∧ l[i]? = some x ∧ ∀ H', LAt K C H' p a l (i + 1) → But p H H' → Q (.int x) H'
def spRow (K : PySem.W.Frag) (C : Addr) : Sp := fun vs H Q _ => ∃ (p a : Addr) (l : List Nat) (i n : Nat), vs = [.ref p] ∧ LAt K C H p a l i ∧ l[i]? = some n ∧ i + 1 + n ≤ l.length ∧
  ∀ r H', LAt K C H' p a l (i + 1 + n) → But p H H' → H r = none → H' r = some (.lst (vN ((l.drop (i + 1)).take n))) → Q (.ref r) H'
section
variable {P : Program} {w : World} {K : PySem.W.Frag} {mg : Str → Option Value} {base : Heap} {f C : Addr} {fd : FuncData}
theorem ok_line (T : TxtL K C) (F : Fun K "__init__" "Line.__init__" s_Line___init__ f fd) : FnOk P w K mg base CX0 1 f fd (["self", "numbers"] : List Str) (spLine K C) := by
  refine F.ok sc_Line___init__ (fun vs H Q E h => ?_) (fun cdv A outer s H vs Q E hr h => ?_)
  · obtain ⟨p, dx, a, l, rfl, _⟩ := h
    rfl
  obtain ⟨p, dx, a, l, rfl, hp, hS, ne, q⟩ := h
  refine ⟨_, (pss_cons (ps_fld (pv 0) (pv 1) rfl)
   (pss_one (ps_fld (pv 0) pe_int rfl))), ?_⟩
  have l1 : ∀ (g : Str) (v : V) (fs : List (Str × V)) (n : Nat), fs.length ≤ n → (putF g v fs).length ≤ n + 1 := fun g v fs n h => Nat.le_trans (length_putF g v fs) (by omega)
  have a1 := l1 "numbers" (.ref a) [] 0 (Nat.le_refl _)
  refine ⟨_, rfl, _, rfl, p, C, dx, [], rfl, hp, T.cl, T.numbers, (by show 0 < 1000; decide), ?_⟩
  refine ⟨_, rfl, p, C, dx, _, rfl, upd_same, T.cl, T.place, (by omega), ?_⟩
  rw [upd_upd]
  refine q _ ⟨dx, _, upd_same, ⟨?_, ?_, ?_, ?_, ?_, l1 "place" _ _ 1 a1⟩, ((But.refl p H).put _).seq2 ne hS, ne⟩ ((But.refl p H).put _)
  · rw [look_there (by decide +kernel), look_here]
  · rw [look_here]; rfl
  · rw [look_there (by decide +kernel), look_there (by decide +kernel)]; rfl
  · rw [look_there (by decide +kernel), look_there (by decide +kernel)]; rfl
  · rw [look_there (by decide +kernel), look_there (by decide +kernel)]; rfl
theorem ok_goes (T : TxtL K C) (m_len : mg "len" = none) (F : Fun K "goes_on" "Line.goes_on" s_Line_goes_on f fd) : FnOk P w K mg base CX0 1 f fd (["self"] : List Str) (spGoes K C) := by
  refine F.ok sc_Line_goes_on (fun vs H Q E h => ?_) (fun cdv A outer s H vs Q E hr h => ?_)
  · obtain ⟨p, a, l, i, rfl, _⟩ := h
    rfl
  obtain ⟨p, a, l, i, rfl, ⟨dx, fs, hp, hf, hS, ne⟩, q⟩ := h
  refine ⟨_, (pss_one (ps_ret (pe_cmpR op_lt (pe_fld (pv 0) rfl) (pe_callB call_len_seq (by rfl) m_len PySem.boot_len (pa_cons (pe_fld (pv 0) rfl) pa_nil)) (nomark _)))), ?_⟩
  refine ⟨_, rfl, p, C, dx, fs, _, rfl, hp, T.cl, T.place, hf.place, _, rfl, p, C, dx, fs, _, rfl, hp, T.cl, T.numbers, hf.numbers, a, _, rfl, .inl hS, _, _, rfl, rfl, ?_⟩
  have e : decide ((i : Int) < (((vN l).length : Nat) : Int)) = decide (i < l.length) := by
    rw [vN_len]
    by_cases h : i < l.length
    · rw [decide_eq_true h, decide_eq_true (by omega)]
    · rw [decide_eq_false h, decide_eq_false (by omega)]
  dsimp only
  rw [e]
  exact q
theorem ok_num (T : TxtL K C) (F : Fun K "take_number" "Line.take_number" s_Line_take_number f fd) : FnOk P w K mg base CX0 1 f fd (["self"] : List Str) (spNum K C) := by
  refine F.ok sc_Line_take_number (fun vs H Q E h => ?_) (fun cdv A outer s H vs Q E hr h => ?_)
  · obtain ⟨p, a, l, i, x, rfl, _⟩ := h
    rfl
  obtain ⟨p, a, l, i, x, rfl, ⟨dx, fs, hp, hf, hS, ne⟩, hx, q⟩ := h
  refine ⟨_, (pss_cons (ps_sw (i := 1) sc_Line_take_number.nd (pe_ix ix_list (pe_fld (pv 0) rfl) (pe_fld (pv 0) rfl) (fun _ _ => rfl)))
   (pss_cons (ps_fldaug (pv 0) pe_int in_add)
   (pss_one (ps_ret (pv 1))))), ?_⟩
  refine ⟨_, rfl, p, C, dx, fs, _, rfl, hp, T.cl, T.numbers, hf.numbers, _, rfl, p, C, dx, fs, _, rfl, hp, T.cl, T.place, hf.place, a, vN l, (i : Int), V.int (x : Int), rfl, rfl, hS, atI_nat (at_vN hx), ?_⟩
  refine ⟨_, rfl, p, C, dx, fs, _, rfl, hp, T.cl, T.place, hf.place, _, _, rfl, rfl, dx, fs, hp, (by have := hf.len; omega), _, rfl, ?_⟩
  have e : (i : Int) + 1 = ((i + 1 : Nat) : Int) := rfl
  rw [e]
  exact q _ (LAt.put hp hf hS ne (i + 1)) ((But.refl p H).put _)
theorem ok_row (T : TxtL K C) (M_Line_take_number : MCallee P w K mg base 1 C "take_number" (["self"] : List Str) (spNum K C)) (F : Fun K "take_row" "Line.take_row" s_Line_take_row f fd) : FnOk P w K mg base CX0 2 f fd (["self"] : List Str) (spRow K C) := by
  refine F.ok sc_Line_take_row (fun vs H Q E h => ?_) (fun cdv A outer s H vs Q E hr h => ?_)
  · obtain ⟨p, a, l, i, n, rfl, _⟩ := h
    rfl
  obtain ⟨p, a, l, i, n, rfl, hA, hx, hn, q⟩ := h
  refine ⟨_, (pss_cons (ps_sw (i := 1) sc_Line_take_row.nd (pe_methC0 (pv 0) M_Line_take_number (hr.mono (by omega))))
   (pss_cons (ps_sw (i := 2) sc_Line_take_row.nd (pe_slice sl_list (pe_fld (pv 0) rfl) (po_some (pe_fld (pv 0) rfl)) (po_some (pe_op op_add (pe_fld (pv 0) rfl) (pv 1)))))
   (pss_cons (ps_fldaug (pv 0) (pv 1) in_add)
   (pss_one (ps_ret (pv 2)))))), ?_⟩
  obtain ⟨dx, fs, hp, hf, hS, ne⟩ := id hA
  refine ⟨_, rfl, p, dx, fs, rfl, hp, hf.m2, p, a, l, i, n, rfl, hA, hx, fun H1 hA1 b1 => ?_⟩
  obtain ⟨dx, fs, hp, hf, hS, ne⟩ := id hA1
  refine ⟨_, rfl, p, C, dx, fs, _, rfl, hp, T.cl, T.numbers, hf.numbers, _, rfl, p, C, dx, fs, _, rfl, hp, T.cl, T.place, hf.place, _, rfl, _, rfl, p, C, dx, fs, _, rfl, hp, T.cl, T.place, hf.place, _, rfl, _, _, rfl, rfl, _, rfl, a, _, rfl, hS, fun r hr => ?_⟩
  have e : ((i + 1 : Nat) : Int) + (n : Int) = ((i + 1 + n : Nat) : Int) := rfl
  dsimp only
  rw [e, cut_mid _ _ _ (by rw [vN_len]; exact hn), vN_drop, vN_take]
  have s2 := same_new hr (.lst (vN ((l.drop (i + 1)).take n)))
  have nr : r ≠ p := ne_of_none' hp hr
  have hp2 := s2 _ _ hp
  refine ⟨_, rfl, p, C, dx, fs, _, rfl, hp2, T.cl, T.place, hf.place, _, rfl, _, _, rfl, rfl, dx, fs, hp2, (by have := hf.len; omega), _, rfl, ?_⟩
  rw [e]
  have f0 : H r = none := by
    cases eb : H r with
    | none => rfl
    | some o =>
      by_cases z : r = p
      · exact absurd z nr
      · rw [b1 r o eb z] at hr; cases hr
  exact q r _ (LAt.put hp2 hf (s2.seq hS) ne _) ((b1.same s2).put _) f0 (by rw [upd_ne nr]; exact upd_same)
end
abbrev s_Book___init__ : Stmt := inClass (top 37) 0
theorem sc_Book___init__ : FnScope (["self"] : List Str) (["self"] : List Str) (defScope s_Book___init__) := fsc
abbrev s_Book_begin : Stmt := inClass (top 37) 1
theorem sc_Book_begin : FnScope (["self", "n"] : List Str) (["self", "n"] : List Str) (defScope s_Book_begin) := fsc
abbrev s_Book_add_test : Stmt := inClass (top 37) 2
theorem sc_Book_add_test : FnScope (["self", "positive", "pool", "crowd"] : List Str) (["self", "positive", "pool"] : List Str) (defScope s_Book_add_test) := fsc
abbrev s_Book_drop : Stmt := inClass (top 37) 3
theorem sc_Book_drop : FnScope (["self", "k"] : List Str) (["self", "k"] : List Str) (defScope s_Book_drop) := fsc
abbrev s_Book_has_strangers : Stmt := inClass (top 37) 4
theorem sc_Book_has_strangers : FnScope (["self", "crowd"] : List Str) (["self", "crowd"] : List Str) (defScope s_Book_has_strangers) := fsc
abbrev s_Book_everybody : Stmt := inClass (top 37) 5
theorem sc_Book_everybody : FnScope (["self"] : List Str) (["self"] : List Str) (defScope s_Book_everybody) := fsc
abbrev s_Book_certainly_well : Stmt := inClass (top 37) 6
theorem sc_Book_certainly_well : FnScope (["self", "crowd", "positive", "pool"] : List Str) (["self"] : List Str) (defScope s_Book_certainly_well) := fsc
abbrev s_Book_suspects : Stmt := inClass (top 37) 7
theorem sc_Book_suspects : FnScope (["self", "doubtful", "positive", "pool"] : List Str) (["self"] : List Str) (defScope s_Book_suspects) := fsc
abbrev s_Book_ill : Stmt := inClass (top 37) 8
theorem sc_Book_ill : FnScope (["self", "crowd", "pool"] : List Str) (["self"] : List Str) (defScope s_Book_ill) := fsc
abbrev s_Book_fits : Stmt := inClass (top 37) 9
theorem sc_Book_fits : FnScope (["self", "some", "crowd", "positive", "pool"] : List Str) (["self", "some"] : List Str) (defScope s_Book_fits) := fsc
abbrev s_Book_about_covers : Stmt := inClass (top 37) 10
theorem sc_Book_about_covers : FnScope (["self", "call", "d"] : List Str) (["self", "call", "d"] : List Str) (defScope s_Book_about_covers) := fsc
abbrev s_Book_find_answer : Stmt := inClass (top 37) 11
theorem sc_Book_find_answer : FnScope (["self", "call", "d", "covers", "smallest", "in_some", "in_all"] : List Str) (["self", "call", "d"] : List Str) (defScope s_Book_find_answer) := fsc
abbrev s_Book_search : Stmt := inClass (top 37) 12
theorem sc_Book_search : FnScope (["self", "d"] : List Str) (["self", "d"] : List Str) (defScope s_Book_search) := fsc
abbrev s_Book_next_pool : Stmt := inClass (top 37) 13
theorem sc_Book_next_pool : FnScope (["self", "pool"] : List Str) (["self"] : List Str) (defScope s_Book_next_pool) := fsc
abbrev s_Book_told : Stmt := inClass (top 37) 14
theorem sc_Book_told : FnScope (["self", "positive"] : List Str) (["self", "positive"] : List Str) (defScope s_Book_told) := fsc
abbrev s_Book_found : Stmt := inClass (top 37) 15
theorem sc_Book_found : FnScope (["self"] : List Str) (["self"] : List Str) (defScope s_Book_found) := fsc
structure TxtB (K : PySem.W.Frag) (C : Addr) : Prop where
  cl : Cls K C
  n : NoAttr K C "n"
  tests : NoAttr K C "tests"
  halving : NoAttr K C "halving"
  enough : NoAttr K C "enough"
  kept : NoAttr K C "kept"
def bfl (n : Nat) (ta kd : Addr) (hv : V) (e : Nat) (g : Str) : Option V :=
  if g = "n" then some (.int n) else if g = "tests" then some (.ref ta) else if g = "halving" then some hv else if g = "enough" then some (.int e) else if g = "kept" then some (.ref kd) else none
structure BF (fs : List (Str × V)) (n : Nat) (ta kd : Addr) (hv : V) (e : Nat) : Prop where
  look : ∀ g : Str, fs.lookup g = bfl n ta kd hv e g
  len : fs.length ≤ 5
section
variable {fs : List (Str × V)} {n e : Nat} {ta kd : Addr} {hv : V}
theorem BF.num (h : BF fs n ta kd hv e) : fs.lookup ("n" : Str) = some (.int n) := (h.look _).trans (by unfold bfl; rw [if_pos rfl])
theorem BF.tests (h : BF fs n ta kd hv e) : fs.lookup ("tests" : Str) = some (.ref ta) := (h.look _).trans (by unfold bfl; rw [if_neg (by decide +kernel), if_pos rfl])
theorem BF.halving (h : BF fs n ta kd hv e) : fs.lookup ("halving" : Str) = some hv := (h.look _).trans (by unfold bfl; rw [if_neg (by decide +kernel), if_neg (by decide +kernel), if_pos rfl])
theorem BF.enough (h : BF fs n ta kd hv e) : fs.lookup ("enough" : Str) = some (.int e) := (h.look _).trans (by unfold bfl; rw [if_neg (by decide +kernel), if_neg (by decide +kernel), if_neg (by decide +kernel), if_pos rfl])
theorem BF.kept (h : BF fs n ta kd hv e) : fs.lookup ("kept" : Str) = some (.ref kd) := (h.look _).trans (by unfold bfl; rw [if_neg (by decide +kernel), if_neg (by decide +kernel), if_neg (by decide +kernel), if_neg (by decide +kernel), if_pos rfl])
theorem BF.no (h : BF fs n ta kd hv e) {m : Str} (hm : ¬ m = "n" ∧ ¬ m = "tests" ∧ ¬ m = "halving" ∧ ¬ m = "enough" ∧ ¬ m = "kept") : fs.lookup m = none := (h.look _).trans (by unfold bfl; rw [if_neg hm.1, if_neg hm.2.1, if_neg hm.2.2.1, if_neg hm.2.2.2.1, if_neg hm.2.2.2.2])
theorem BF.putN (h : BF fs n ta kd hv e) (x : Nat) : BF (putF "n" (.int x) fs) x ta kd hv e := ⟨fun g => by
  rw [lookup_putF, h.look]
  unfold bfl
  by_cases c : g = "n"
  · rw [if_pos c, if_pos c]
  · rw [if_neg c, if_neg c, if_neg c], (len_putF h.num).symm ▸ h.len⟩
theorem BF.putT (h : BF fs n ta kd hv e) (x : Addr) : BF (putF "tests" (.ref x) fs) n x kd hv e := ⟨fun g => by
  rw [lookup_putF, h.look]
  unfold bfl
  by_cases c : g = "tests"
  · rw [if_pos c, c, if_neg (by decide +kernel), if_pos rfl]
  · rw [if_neg c, if_neg c, if_neg c], (len_putF h.tests).symm ▸ h.len⟩
theorem BF.putH (h : BF fs n ta kd hv e) (x : V) : BF (putF "halving" x fs) n ta kd x e := ⟨fun g => by
  rw [lookup_putF, h.look]
  unfold bfl
  by_cases c : g = "halving"
  · rw [if_pos c, c, if_neg (by decide +kernel), if_neg (by decide +kernel), if_pos rfl]
  · rw [if_neg c, if_neg c, if_neg c], (len_putF h.halving).symm ▸ h.len⟩
theorem BF.putE (h : BF fs n ta kd hv e) (x : Nat) : BF (putF "enough" (.int x) fs) n ta kd hv x := ⟨fun g => by
  rw [lookup_putF, h.look]
  unfold bfl
  by_cases c : g = "enough"
  · rw [if_pos c, c, if_neg (by decide +kernel), if_neg (by decide +kernel), if_neg (by decide +kernel), if_pos rfl]
  · rw [if_neg c, if_neg c, if_neg c], (len_putF h.enough).symm ▸ h.len⟩
theorem BF.putK (h : BF fs n ta kd hv e) (x : Addr) : BF (putF "kept" (.ref x) fs) n ta x hv e := ⟨fun g => by
  rw [lookup_putF, h.look]
  unfold bfl
  by_cases c : g = "kept"
  · rw [if_pos c, c, if_neg (by decide +kernel), if_neg (by decide +kernel), if_neg (by decide +kernel), if_neg (by decide +kernel), if_pos rfl]
  · rw [if_neg c, if_neg c, if_neg c], (len_putF h.kept).symm ▸ h.len⟩
end
abbrev Tests := List (Addr × (Nat × Nat))
abbrev tso (es : Tests) : List (Nat × Nat) := es.map (·.2)
def HK (CH : Addr) (pr : Addr → Prop) (H : Hp) (p ta : Addr) (o : Option Sh12.Search) (v : V) : Prop := match o with
  | none => v = .non
  | some t => ∃ hv u g ca : Addr, v = .ref hv ∧ HAt CH H hv u g ca t ∧ SOk t ∧ hv ≠ p ∧ ta ≠ u ∧ ta ≠ g ∧ ta ≠ ca ∧ ¬ pr hv ∧ ¬ pr u ∧ ¬ pr g ∧ ¬ pr ca
def keyOf (c d : Nat) : List Key := [.inl (c : Int), .inl (d : Int)]
def KK (pr : Addr → Prop) (H : Hp) (s : Sh12.St) (kvs : List (List Key × V)) : Prop := ∀ (c d : Nat) (v : V), valV kvs (keyOf c d) = some v → (c = 6 ∨ c = 7 ∨ c = 8) ∧ ∃ r, v = .ref r ∧ ¬ pr r ∧ H r = some (.lst ((Sh12Neutral.step s [[(c : Int), (d : Int)]]).2.map V.int))
structure BI (CB CH : Addr) (pr : Addr → Prop) (N : Nat) (H : Hp) (p : Addr) (s : Sh12.St) (dx ta kd : Addr) (fs : List (Str × V)) (es : Tests) (e : Nat) (kvs : List (List Key × V)) (hv : V) : Prop where
  here : H p = some (.ins CB dx fs)
  bf : BF fs s.n ta kd hv e
  hta : H ta = some (.lst (es.map fun x => V.ref x.1))
  hes : ∀ x ∈ es, H x.1 = some (.tup [.int x.2.1, .int x.2.2]) ∧ ¬ pr x.1
  tests : s.tests = (tso es).map Ex.tst
  ok : Ex.TOk s.n (tso es)
  few : es.length ≤ 1024
  ppl : s.n ≤ 1024
  e5 : e ≤ 5
  enough : ∀ j, j < e → ¬ Cv.Cov (Ex.susp s.n (tso es)) (Ex.doubt s.n (tso es)) j
  hkd : H kd = some (.dT kvs)
  kl : kvs.length ≤ N
  kept : KK pr H s kvs
  halv : HK CH pr H p ta s.search hv
  np : ¬ pr p ∧ ¬ pr ta ∧ ¬ pr kd
  tr : ∀ b, pr b → H b ≠ none
def BS (CB CH : Addr) (pr : Addr → Prop) (N : Nat) (H : Hp) (p : Addr) (s : Sh12.St) : Prop := ∃ (dx ta kd : Addr) (fs : List (Str × V)) (es : Tests) (e : Nat) (kvs : List (List Key × V)) (hv : V), BI CB CH pr N H p s dx ta kd fs es e kvs hv
def Kp (pr : Addr → Prop) (H H' : Hp) : Prop := ∀ b o, pr b → H b = some o → H' b = some o
section
variable {CB CH : Addr} {pr : Addr → Prop} {N : Nat} {H H' : Hp} {p : Addr} {s : Sh12.St} {dx ta kd : Addr} {fs : List (Str × V)} {es : Tests} {e : Nat} {kvs : List (List Key × V)} {hv : V}
theorem Kp.refl (pr : Addr → Prop) (H : Hp) : Kp pr H H := fun _ _ _ e => e
theorem Kp.trans {H'' : Hp} (a : Kp pr H H') (b : Kp pr H' H'') : Kp pr H H'' := fun x o hx e => b x o hx (a x o hx e)
theorem Kp.same (s : Same H H') : Kp pr H H' := fun b o _ e => s b o e
theorem Kp.tr (k : Kp pr H H') (t : ∀ b, pr b → H b ≠ none) : ∀ b, pr b → H' b ≠ none := fun b hb e => by
  cases eb : H b with
  | none => exact t b hb eb
  | some o => rw [k b o hb eb] at e; cases e
theorem Kp.but (np : ¬ pr p) (b : But p H H') : Kp pr H H' := fun x o hx e => b x o e fun z => np (z ▸ hx)
theorem HAt.keep {C q u g ca : Addr} {t : Sh12.Search} (h : HAt C H q u g ca t) (k : ∀ b o, (b = q ∨ b = u ∨ b = g ∨ b = ca) → H b = some o → H' b = some o) : HAt C H' q u g ca t := by
  obtain ⟨dx, fs, h1, h2, h3, h4, h5⟩ := h
  exact ⟨dx, fs, k _ _ (.inl rfl) h1, h2, k _ _ (.inr (.inl rfl)) h3, k _ _ (.inr (.inr (.inl rfl))) h4, k _ _ (.inr (.inr (.inr rfl))) h5⟩
theorem BI.keep (I : BI CB CH pr N H p s dx ta kd fs es e kvs hv) (k : ∀ b o, ¬ pr b → H b = some o → H' b = some o) (t : ∀ b, pr b → H' b ≠ none) : BI CB CH pr N H' p s dx ta kd fs es e kvs hv := by
  refine ⟨k _ _ I.np.1 I.here, I.bf, k _ _ I.np.2.1 I.hta, fun x hx => ⟨k _ _ (I.hes x hx).2 (I.hes x hx).1, (I.hes x hx).2⟩, I.tests, I.ok, I.few, I.ppl, I.e5, I.enough, k _ _ I.np.2.2 I.hkd, I.kl, fun c d v h => ?_, ?_, I.np, t⟩
  · obtain ⟨hc, r, e1, e2, e3⟩ := I.kept c d v h
    exact ⟨hc, r, e1, e2, k _ _ e2 e3⟩
  · have h := I.halv
    unfold HK at h ⊢
    cases es : s.search with
    | none => rw [es] at h; exact h
    | some t =>
      rw [es] at h
      obtain ⟨hv, u, g, ca, e1, ha, so, n1, n2, n3, n4, n5, n6, n7, n8⟩ := h
      refine ⟨hv, u, g, ca, e1, ha.keep fun b o hb => ?_, so, n1, n2, n3, n4, n5, n6, n7, n8⟩
      rcases hb with rfl | rfl | rfl | rfl
      · exact k _ _ n5
      · exact k _ _ n6
      · exact k _ _ n7
      · exact k _ _ n8
theorem BI.same (I : BI CB CH pr N H p s dx ta kd fs es e kvs hv) (m : Same H H') : BI CB CH pr N H' p s dx ta kd fs es e kvs hv := I.keep (fun b o _ e => m b o e) ((Kp.same m).tr I.tr)
theorem BI.up (I : BI CB CH pr N H p s dx ta kd fs es e kvs hv) {M : Nat} (m : N ≤ M) : BI CB CH pr M H p s dx ta kd fs es e kvs hv :=
  ⟨I.here, I.bf, I.hta, I.hes, I.tests, I.ok, I.few, I.ppl, I.e5, I.enough, I.hkd, Nat.le_trans I.kl m, I.kept, I.halv, I.np, I.tr⟩
def F3 (p ta kd : Addr) (H H' : Hp) : Prop := ∀ b o, H b = some o → b ≠ p → b ≠ ta → b ≠ kd → H' b = some o
def F2 (p kd : Addr) (H H' : Hp) : Prop := ∀ b o, H b = some o → b ≠ p → b ≠ kd → H' b = some o
theorem kind_ne {a b : Addr} {x y : HO} (h1 : H a = some x) (h2 : H b = some y) (h : x ≠ y) : a ≠ b := fun z => by
  rw [z, h2] at h1
  exact h (Option.some.inj h1).symm
theorem F2.f3 (k : F2 p kd H H') : F3 p ta kd H H' := fun b o e n1 _ n3 => k b o e n1 n3
theorem BI.hes3 (I : BI CB CH pr N H p s dx ta kd fs es e kvs hv) (k : F3 p ta kd H H') : ∀ x ∈ es, H' x.1 = some (.tup [.int x.2.1, .int x.2.2]) ∧ ¬ pr x.1 := fun x hx =>
  have h := (I.hes x hx).1
  ⟨k _ _ h (kind_ne h I.here (by simp)) (kind_ne h I.hta (by simp)) (kind_ne h I.hkd (by simp)), (I.hes x hx).2⟩
theorem BI.halv3 (I : BI CB CH pr N H p s dx ta kd fs es e kvs hv) (k : F3 p ta kd H H') : HK CH pr H' p ta s.search hv := by
  have h := I.halv
  unfold HK at h ⊢
  cases es : s.search with
  | none => rw [es] at h; exact h
  | some t =>
    rw [es] at h
    obtain ⟨hv, u, g, ca, e1, ha, so, n1, n2, n3, n4, n5, n6, n7, n8⟩ := h
    obtain ⟨dx, fs, h1, h2, h3, h4, h5⟩ := id ha
    refine ⟨hv, u, g, ca, e1, ha.keep fun b o hb e => ?_, so, n1, n2, n3, n4, n5, n6, n7, n8⟩
    rcases hb with rfl | rfl | rfl | rfl
    · exact k _ _ e n1 (kind_ne h1 I.hta (by simp)) (kind_ne h1 I.hkd (by simp))
    · exact k _ _ e (kind_ne h3 I.here (by simp)) n2.symm (kind_ne h3 I.hkd (by simp))
    · exact k _ _ e (kind_ne h4 I.here (by simp)) n3.symm (kind_ne h4 I.hkd (by simp))
    · exact k _ _ e (kind_ne h5 I.here (by simp)) n4.symm (kind_ne h5 I.hkd (by simp))
theorem BI.kept2 (I : BI CB CH pr N H p s dx ta kd fs es e kvs hv) (k : F2 p kd H H') : KK pr H' s kvs := fun c d v h => by
  obtain ⟨hc, r, e1, e2, e3⟩ := I.kept c d v h
  exact ⟨hc, r, e1, e2, k _ _ e3 (kind_ne e3 I.here (by simp)) (kind_ne e3 I.hkd (by simp))⟩
theorem BI.hta2 (I : BI CB CH pr N H p s dx ta kd fs es e kvs hv) (k : F2 p kd H H') : H' ta = some (.lst (es.map fun x => V.ref x.1)) := k _ _ I.hta (kind_ne I.hta I.here (by simp)) (kind_ne I.hta I.hkd (by simp))
theorem BI.hkd1 (I : BI CB CH pr N H p s dx ta kd fs es e kvs hv) (k : But p H H') : H' kd = some (.dT kvs) := k _ _ I.hkd (kind_ne I.hkd I.here (by simp))
theorem BI.own (I : BI CB CH pr N H p s dx ta kd fs es e kvs hv) (k : But p H H') {fs' : List (Str × V)} {e' : Nat} (hp : H' p = some (.ins CB dx fs')) (b : BF fs' s.n ta kd hv e') (h5 : e' ≤ 5) (hn : ∀ j, j < e' → ¬ Cv.Cov (Ex.susp s.n (tso es)) (Ex.doubt s.n (tso es)) j) : BI CB CH pr N H' p s dx ta kd fs' es e' kvs hv :=
  have k2 : F2 p kd H H' := fun b o e n _ => k b o e n
  ⟨hp, b, I.hta2 k2, I.hes3 k2.f3, I.tests, I.ok, I.few, I.ppl, h5, hn, I.hkd1 k, I.kl, I.kept2 k2, I.halv3 k2.f3, I.np, (Kp.but I.np.1 k).tr I.tr⟩
end
def Ans (CB CH : Addr) (pr : Addr → Prop) (N : Nat) (H : Hp) (p : Addr) (x : Sh12.St × List Int) (Q : VK) : Prop := ∀ (r : Addr) (H' : Hp), BS CB CH pr N H' p x.1 → Kp pr H H' → ¬ pr r → H' r = some (.lst (x.2.map V.int)) → Q (.ref r) H'
def spEvery (CB CH : Addr) : Sp := fun vs H Q _ => ∃ (pr : Addr → Prop) (N : Nat) (p : Addr) (s : Sh12.St), vs = [.ref p] ∧ BS CB CH pr N H p s ∧ Q (.int (2 ^ s.n - 1 : Nat)) H
def spStrange (CB CH : Addr) : Sp := fun vs H Q _ => ∃ (pr : Addr → Prop) (N : Nat) (p : Addr) (s : Sh12.St) (c : Nat), vs = [.ref p, .int c] ∧ BS CB CH pr N H p s ∧ Q (.bl (decide (2 ^ s.n ≤ c))) H
def spWell (CB CH : Addr) : Sp := fun vs H Q _ => ∃ (pr : Addr → Prop) (N : Nat) (p : Addr) (s : Sh12.St) (dx ta kd : Addr) (fs : List (Str × V)) (es : Tests) (e : Nat) (kvs : List (List Key × V)) (hv : V), vs = [.ref p] ∧ BI CB CH pr N H p s dx ta kd fs es e kvs hv ∧ Q (.int (Ex.wl (tso es) : Nat)) H
def spSusp (CB CH : Addr) : Sp := fun vs H Q _ => ∃ (pr : Addr → Prop) (N : Nat) (p : Addr) (s : Sh12.St) (dx ta kd : Addr) (fs : List (Str × V)) (es : Tests) (e : Nat) (kvs : List (List Key × V)) (hv : V), vs = [.ref p] ∧ BI CB CH pr N H p s dx ta kd fs es e kvs hv ∧
  ∀ r H', Same H H' → H r = none → H' r = some (.lst (vN (Ex.susp s.n (tso es)))) → Q (.ref r) H'
theorem ent_at {es : Tests} {j : Nat} {y : V} (h : (es.map fun x => V.ref x.1)[j]? = some y) : ∃ x, es[j]? = some x ∧ x ∈ es ∧ y = V.ref x.1 := by
  rw [List.getElem?_map] at h
  cases e : es[j]? with
  | none => rw [e] at h; cases h
  | some a => rw [e] at h; exact ⟨a, rfl, List.mem_of_getElem? e, (Option.some.inj h).symm⟩
theorem tso_snoc {es : Tests} {j : Nat} {x : Addr × (Nat × Nat)} (h : es[j]? = some x) : tso (es.take (j + 1)) = tso (es.take j) ++ [x.2] := by
  unfold tso
  rw [take_snoc h, List.map_append]
  rfl
section
variable {P : Program} {w : World} {K : PySem.W.Frag} {mg : Str → Option Value} {base : Heap} {f CB CH : Addr} {fd : FuncData}
theorem ok_every (T : TxtB K CB) (F : Fun K "everybody" "Book.everybody" s_Book_everybody f fd) : FnOk P w K mg base CX0 1 f fd (["self"] : List Str) (spEvery CB CH) := by
  refine F.ok sc_Book_everybody (fun vs H Q E h => ?_) (fun cdv A outer s H vs Q E hr h => ?_)
  · obtain ⟨pr, N, p, s, rfl, _⟩ := h
    rfl
  obtain ⟨pr, N, p, s, rfl, ⟨dx, ta, kd, fs, es, e, kvs, hv, I⟩, q⟩ := h
  refine ⟨_, (pss_one (ps_ret (pe_op op_sub (pe_op op_shl pe_int (pe_fld (pv 0) rfl)) pe_int))), ?_⟩
  have := I.ppl
  refine ⟨_, rfl, p, CB, dx, fs, _, rfl, I.here, T.cl, T.n, I.bf.num, _, _, rfl, rfl, ⟨by omega, by omega, by decide⟩, _, _, rfl, rfl, ?_⟩
  dsimp only
  rw [sub_pow]
  exact q
theorem shr_pos (c n : Nat) : decide ((0 : Int) < (c : Int) / 2 ^ ((n : Int)).toNat) = decide (2 ^ n ≤ c) := by
  rw [shr_nat]
  by_cases h : 2 ^ n ≤ c
  · have : 0 < c / 2 ^ n := Nat.div_pos h (Nat.pow_pos (by decide))
    rw [decide_eq_true h, decide_eq_true (by omega)]
  · rw [decide_eq_false h, Nat.div_eq_of_lt (by omega)]
    rfl
theorem ok_strange (T : TxtB K CB) (F : Fun K "has_strangers" "Book.has_strangers" s_Book_has_strangers f fd) : FnOk P w K mg base CX0 1 f fd (["self", "crowd"] : List Str) (spStrange CB CH) := by
  refine F.ok sc_Book_has_strangers (fun vs H Q E h => ?_) (fun cdv A outer s H vs Q E hr h => ?_)
  · obtain ⟨pr, N, p, s, c, rfl, _⟩ := h
    rfl
  obtain ⟨pr, N, p, s, c, rfl, ⟨dx, ta, kd, fs, es, e, kvs, hv, I⟩, q⟩ := h
  refine ⟨_, (pss_one (ps_ret (pe_cmpR op_gt (pe_op op_shr (pv 1) (pe_fld (pv 0) rfl)) pe_int (nomark _)))), ?_⟩
  refine ⟨_, rfl, _, rfl, p, CB, dx, fs, _, rfl, I.here, T.cl, T.n, I.bf.num, _, _, rfl, rfl, by omega, _, _, rfl, rfl, ?_⟩
  dsimp only
  rw [shr_pos]
  exact q
theorem ok_well (T : TxtB K CB) (F : Fun K "certainly_well" "Book.certainly_well" s_Book_certainly_well f fd) : FnOk P w K mg base CX0 1 f fd (["self"] : List Str) (spWell CB CH) := by
  refine F.ok sc_Book_certainly_well (fun vs H Q E h => ?_) (fun cdv A outer s H vs Q E hr h => ?_)
  · obtain ⟨pr, N, p, s, dx, ta, kd, fs, es, e, kvs, hv, rfl, _⟩ := h
    rfl
  obtain ⟨pr, N, p, s, dx, ta, kd, fs, es, e, kvs, hv, rfl, I, q⟩ := h
  refine ⟨_, (pss_cons (ps_sw (i := 1) sc_Book_certainly_well.nd pe_int)
   (pss_cons (ps_for PassesOwn.never rfl (pi_list (pe_fld (pv 0) rfl)) (pg_tupK (K := K) (n := 2) (by rfl) (by rfl) (by exact pgs_cons (by exact (pg_nw (i := 2) sc_Book_certainly_well.nd)) (by exact pgs_cons (by exact (pg_nw (i := 3) sc_Book_certainly_well.nd)) (by exact pgs_nil)))) (pss_one (ps_if (pt_not (pt_truth (pv 2) (fun _ => rfl))) (pss_one (ps_aw (i := 1) sc_Book_certainly_well.nd (pv 3) (ip_of iop_or))) pss_nil)))
   (pss_one (ps_ret (pv 1))))), ?_⟩
  refine ⟨_, rfl, p, CB, dx, fs, _, rfl, I.here, T.cl, T.tests, I.bf.tests, ta, rfl, ⟨_, SqL.of I.hta⟩, for_list (K := K) (a := ta) (xs := es.map fun x => V.ref x.1) (fun i σ H' => ∃ (v w : Option V), σ = [some (.ref p), some (.int (Ex.wl (tso (es.take i)) : Nat)), v, w] ∧ H' = H) ⟨none, none, rfl, rfl⟩ (fun i σ H' _ ⟨_, _, _, e⟩ => e ▸ SqL.of I.hta) ?_ ?_⟩
  · rintro i y σ H' hi ⟨v, w, rfl, rfl⟩
    obtain ⟨x, hx, hm, rfl⟩ := ent_at hi
    have hb := (I.hes x hm).1
    refine ⟨x.1, _, rfl, SqT.of hb, rfl, _, _, rfl, _, _, rfl, rfl, _, rfl, _, rfl, ?_⟩
    have one := I.ok.one x.2 (List.mem_map.mpr ⟨x, hm, rfl⟩)
    rw [tso_snoc hx]
    by_cases hz : x.2.1 = 0
    · rw [hz]
      refine iteT ⟨_, rfl, _, rfl, _, _, rfl, rfl, some (.int 0), some (.int (x.2.2 : Nat)), ?_, rfl⟩
      rw [Ex.wl_snoc, if_pos hz, ← Cr.or_nat]
      rfl
    · rw [bne0 hz]
      refine iteF ⟨some (.int (x.2.1 : Nat)), some (.int (x.2.2 : Nat)), ?_, rfl⟩
      rw [Ex.wl_snoc, if_neg hz]
      rfl
  · rintro σ H' ⟨v, w, rfl, rfl⟩
    refine ⟨_, rfl, ?_⟩
    rw [List.length_map, List.take_length]
    exact q
theorem ok_susp (T : TxtB K CB) (M_Book_everybody : MCallee P w K mg base 1 CB "everybody" (["self"] : List Str) (spEvery CB CH)) (M_Book_certainly_well : MCallee P w K mg base 1 CB "certainly_well" (["self"] : List Str) (spWell CB CH))
    (F : Fun K "suspects" "Book.suspects" s_Book_suspects f fd) : FnOk P w K mg base CX0 2 f fd (["self"] : List Str) (spSusp CB CH) := by
  refine F.ok sc_Book_suspects (fun vs H Q E h => ?_) (fun cdv A outer s H vs Q E hr h => ?_)
  · obtain ⟨pr, N, p, s, dx, ta, kd, fs, es, e, kvs, hv, rfl, _⟩ := h
    rfl
  obtain ⟨pr, N, p, s, dx, ta, kd, fs, es, e, kvs, hv, rfl, I, q⟩ := h
  refine ⟨_, (pss_cons (ps_sw (i := 1) sc_Book_suspects.nd (pe_op op_xor (pe_methC0 (pv 0) M_Book_everybody (hr.mono (by omega))) (pe_methC0 (pv 0) M_Book_certainly_well (hr.mono (by omega)))))
   (pss_one (ps_ret (pe_lc rfl sc_Book_suspects.nd (pi_list (pe_fld (pv 0) rfl)) (blkOk_by (N := (["self", "doubtful", "positive", "pool"] : List Str)) (sc := defScope s_Book_suspects) (own := [("positive", 2), ("pool", 3)]) (by decide +kernel)) (fun _ _ _ _ _ => (by exact (pg_tupK (K := K) (n := 2) (by rfl) (by rfl) (by exact pgs_cons (by exact (pg_nw (i := 2) sc_Book_suspects.nd)) (by exact pgs_cons (by exact (pg_nw (i := 3) sc_Book_suspects.nd)) (by exact pgs_nil)))))) (fun _ _ _ _ _ => (pts_one (pt_truthK (K := K) (by rfl) (pv 2) (fun _ => rfl)))) (fun _ _ _ _ _ => (pe_op op_and (pv 3) (pv 1))))))), ?_⟩
  refine ⟨_, rfl, p, dx, fs, rfl, I.here, I.bf.no (by decide +kernel), pr, N, p, s, rfl, ⟨dx, ta, kd, fs, es, e, kvs, hv, I⟩, _, rfl, p, dx, fs, rfl, I.here, I.bf.no (by decide +kernel), pr, N, p, s, dx, ta, kd, fs, es, e, kvs, hv, rfl, I, _, _, rfl, rfl, ?_⟩
  dsimp only
  rw [Cr.xor_nat]
  refine ⟨_, rfl, p, CB, dx, fs, _, rfl, I.here, T.cl, T.tests, I.bf.tests, ta, rfl, ⟨_, SqL.of I.hta⟩, fun D hD => ?_⟩
  have part : ∀ (j : Nat) (x : Addr × (Nat × Nat)), es[j]? = some x → ((tso (es.take (j + 1))).filter (fun q => q.1 != 0)).map (fun q => q.2 &&& Ex.doubt s.n (tso es)) = ((tso (es.take j)).filter (fun q => q.1 != 0)).map (fun q => q.2 &&& Ex.doubt s.n (tso es)) ++ (if x.2.1 = 0 then [] else [x.2.2 &&& Ex.doubt s.n (tso es)]) := fun j x hx => by
    rw [tso_snoc hx, List.filter_append, List.map_append]
    congr 1
    by_cases hz : x.2.1 = 0
    · rw [if_pos hz, List.filter_cons, if_neg (by rw [hz]; decide)]
      rfl
    · rw [if_neg hz, List.filter_cons, if_pos (by simpa using hz)]
      rfl
  refine lc_list (xs := es.map fun x => V.ref x.1) (fun j H' => H' = upd H D (.lst (vN (((tso (es.take j)).filter (fun q => q.1 != 0)).map (fun q => q.2 &&& Ex.doubt s.n (tso es)))))) rfl (fun j H' _ h => h ▸ SqL.of (by rw [upd_ne (ne_of_none I.hta hD)]; exact I.hta)) ?_ ?_
  · rintro j y H' hy rfl
    obtain ⟨x, hx, hm, rfl⟩ := ent_at hy
    have hb := (I.hes x hm).1
    refine ⟨x.1, _, rfl, SqT.of (by rw [upd_ne (ne_of_none hb hD)]; exact hb), rfl, _, _, rfl, _, _, rfl, rfl, rfl, V.int (x.2.1 : Int), rfl, _, rfl, ?_⟩
    rw [part j x hx]
    by_cases hz : x.2.1 = 0
    · rw [hz, if_pos rfl, List.append_nil]
      exact iteF rfl
    · rw [bne0 hz, if_neg hz]
      refine iteT ⟨V.int (x.2.2 : Int), rfl, V.int (Ex.doubt s.n (tso es) : Nat), rfl, _, _, rfl, rfl, _, upd_same, ?_, ?_⟩
      · rw [vN_len, List.length_map]
        have h1 := List.length_filter_le (fun q : Nat × Nat => q.1 != 0) (tso (es.take j))
        have h2 : (tso (es.take j)).length ≤ 1024 := by
          unfold tso
          rw [List.length_map, List.length_take]
          have := I.few
          omega
        exact lt_line (by omega)
      · rw [upd_upd, vN_app]
        show _ = upd H D (.lst (_ ++ [V.int ((x.2.2 &&& Ex.doubt s.n (tso es) : Nat) : Int)]))
        rw [← Cr.and_nat]
  · rintro H' rfl
    rw [List.length_map, List.take_length]
    exact q D _ (same_new hD _) hD upd_same
end
section
variable {CB CH : Addr} {pr : Addr → Prop} {N : Nat} {H0 H H' : Hp} {p : Addr} {s : Sh12.St} {dx ta kd : Addr} {fs : List (Str × V)} {es : Tests} {e : Nat} {kvs : List (List Key × V)} {hv : V} {x : Sh12.St × List Int} {Q : VK}
theorem BS.same (h : BS CB CH pr N H p s) (m : Same H H') : BS CB CH pr N H' p s := by
  obtain ⟨dx, ta, kd, fs, es, e, kvs, hv, I⟩ := h
  exact ⟨dx, ta, kd, fs, es, e, kvs, hv, I.same m⟩
theorem BS.tr (h : BS CB CH pr N H p s) : ∀ b, pr b → H b ≠ none := by
  obtain ⟨dx, ta, kd, fs, es, e, kvs, hv, I⟩ := h
  exact I.tr
theorem Ans.new (q : Ans CB CH pr N H0 p x Q) (I : BS CB CH pr N H p x.1) (k : Kp pr H0 H) {xs : List V} (e : x.2.map V.int = xs) {r : Addr} (hr : H r = none) : Q (.ref r) (upd H r (.lst xs)) :=
  q r _ (I.same (same_new hr _)) (k.trans (Kp.same (same_new hr _))) (fun z => I.tr r z hr) (by rw [upd_same, e])
theorem Ans.one (q : Ans CB CH pr N H p x Q) (I : BS CB CH pr N H p s) {out : List Int} (hx : x = (s, out)) {xs : List V} (e : out.map V.int = xs) {r : Addr} (hr : H r = none) : Q (.ref r) (upd H r (.lst xs)) := by
  subst hx
  exact q.new I (Kp.refl _ _) e hr
end
theorem nats_ints (l : List Nat) : Sh12Neutral.nats (Sh12Neutral.ints l) = l := by
  unfold Sh12Neutral.nats Sh12Neutral.ints
  rw [List.map_map]
  exact (List.map_congr_left fun x _ => Int.toNat_natCast x).trans (List.map_id l)
theorem set_ints (l : List Nat) : Sh12Neutral.set (Sh12Neutral.ints l) = Sh12.wide fun i => (Cr.crowd l).testBit i := by
  unfold Sh12Neutral.set Sh12.bits
  rw [nats_ints]
  congr 1
  funext i
  rw [Cr.crowd_bit]
theorem members_set {l : List Nat} {i : Nat} (h : ∀ x ∈ l, x < 1024) : i ∈ Sh12.members (Sh12Neutral.set (Sh12Neutral.ints l)) ↔ i ∈ l := by
  rw [set_ints, Ex.members_wide, List.mem_filter, List.mem_range, Cr.crowd_bit, List.contains_iff_mem]
  exact ⟨fun z => z.2, fun z => ⟨h i z, z⟩⟩
theorem within_eq {s : Sh12.St} {l : List Nat} (h : ∀ x ∈ l, x < 1024) : s.within (Sh12Neutral.set (Sh12Neutral.ints l)) = !decide (2 ^ s.n ≤ Cr.crowd l) := by
  unfold Sh12.St.within
  rw [Bool.eq_iff_iff, List.all_eq_true, Bool.not_eq_true', decide_eq_false_iff_not, Nat.not_le]
  constructor
  · intro k
    refine Ex.lt_of_bits fun i hi => ?_
    rw [Cr.crowd_bit, List.contains_iff_mem] at hi
    exact of_decide_eq_true (k i ((members_set h).mpr hi))
  · intro k i hi
    have hi := (members_set h).mp hi
    refine decide_eq_true (Cv.bit_lt k ?_)
    rw [Cr.crowd_bit, List.contains_iff_mem]
    exact hi
theorem meet_eq {l : List Nat} {c : Nat} (h : ∀ x ∈ l, x < 1024) : ((Sh12.members (Sh12Neutral.set (Sh12Neutral.ints l))).any fun x => c.testBit x) = (c &&& Cr.crowd l != 0) := by
  rw [Bool.eq_iff_iff, List.any_eq_true, bne_iff_ne]
  constructor
  · rintro ⟨i, hi, e⟩ z
    have := congrArg (fun y => y.testBit i) z
    simp only [Nat.testBit_and, Nat.zero_testBit, e, Bool.true_and, Cr.crowd_bit] at this
    rw [List.contains_iff_mem.mpr ((members_set h).mp hi)] at this
    cases this
  · intro z
    obtain ⟨i, lx, _⟩ := Cr.low_of _ z
    have hi := lx.1
    rw [Nat.testBit_and, Bool.and_eq_true, Cr.crowd_bit, List.contains_iff_mem] at hi
    exact ⟨i, (members_set h).mpr hi.2, hi.1⟩
theorem more_none {n : Nat} (hn : n ≤ 1024) {TS : List (Nat × Nat)} {q : Nat × Nat} (h : Ex.TOk n (TS ++ [q])) {j : Nat} (hc : ¬ Cv.Cov (Ex.susp n TS) (Ex.doubt n TS) j) : ¬ Cv.Cov (Ex.susp n (TS ++ [q])) (Ex.doubt n (TS ++ [q])) j := by
  have h0 : Ex.TOk n TS := ⟨fun x hx => h.one x (List.mem_append_left _ hx), fun x hx => h.lt x (List.mem_append_left _ hx)⟩
  rw [← Ex.explains_nil hn h]
  have k := (Ex.explains_nil hn h0).mpr hc
  unfold Sh12.explains at k ⊢
  rw [List.filter_eq_nil_iff] at k ⊢
  intro x hx z
  refine k x hx ?_
  unfold Sh12.fits at z ⊢
  rw [List.map_append, List.all_append, Bool.and_eq_true] at z
  exact z.1
def spBegin (CB CH : Addr) : Sp := fun vs H Q _ => ∃ (pr : Addr → Prop) (N : Nat) (p : Addr) (s : Sh12.St) (n : Nat), vs = [.ref p, .int n] ∧ BS CB CH pr N H p s ∧ Ans CB CH pr N H p (Sh12Neutral.step s [[0, (n : Int)]]) Q
def spAdd (K : PySem.W.Frag) (CB CH : Addr) : Sp := fun vs H Q _ => ∃ (pr : Addr → Prop) (N : Nat) (p : Addr) (s : Sh12.St) (z : Nat) (b : Addr) (l : List Nat), vs = [.ref p, .int z, .ref b] ∧ BS CB CH pr N H p s ∧ SqL K H b (vN l) ∧ (∀ x ∈ l, x < 1024) ∧ Ans CB CH pr N H p (Sh12Neutral.step s [[1, (z : Int)], Sh12Neutral.ints l]) Q
def spDrop (CB CH : Addr) : Sp := fun vs H Q _ => ∃ (pr : Addr → Prop) (N : Nat) (p : Addr) (s : Sh12.St) (k : Nat), vs = [.ref p, .int k] ∧ BS CB CH pr N H p s ∧ Ans CB CH pr N H p (Sh12Neutral.step s [[2, (k : Int)]]) Q
def spFits (K : PySem.W.Frag) (CB CH : Addr) : Sp := fun vs H Q _ => ∃ (pr : Addr → Prop) (N : Nat) (p : Addr) (s : Sh12.St) (b : Addr) (l : List Nat), vs = [.ref p, .ref b] ∧ BS CB CH pr N H p s ∧ SqL K H b (vN l) ∧ (∀ x ∈ l, x < 1024) ∧ Ans CB CH pr N H p (Sh12Neutral.step s [[5], Sh12Neutral.ints l]) Q
section
variable {P : Program} {w : World} {K : PySem.W.Frag} {mg : Str → Option Value} {base : Heap} {f CB CH : Addr} {fd : FuncData}
theorem ok_begin (T : TxtB K CB) {t1 t2 : Tok} (m_WRONG : mg "WRONG" = some (.int (-1) t1)) (m_MOST_PEOPLE : mg "MOST_PEOPLE" = some (.int 1024 t2))
    (F : Fun K "begin" "Book.begin" s_Book_begin f fd) : FnOk P w K mg base CX0 1 f fd (["self", "n"] : List Str) (spBegin CB CH) := by
  refine F.ok sc_Book_begin (fun vs H Q E h => ?_) (fun cdv A outer s H vs Q E hr h => ?_)
  · obtain ⟨pr, N, p, s, n, rfl, _⟩ := h
    rfl
  obtain ⟨pr, N, p, s, n, rfl, hB, q⟩ := h
  obtain ⟨dx, ta, kd, fs, es, e, kvs, hv, I⟩ := id hB
  refine ⟨_, (pss_cons (ps_if (pw_or (pt_cmpR op_eq (pv 1) pe_int (nomark _)) (pw_or1 (pt_cmpR op_gt (pv 1) (pe_globI (by rfl) m_MOST_PEOPLE) (nomark _)))).pt (pss_one (ps_ret (pe_lst (pa_cons (pe_globI (by rfl) m_WRONG) pa_nil)))) pss_nil)
   (pss_cons (ps_fld (pv 0) (pv 1) rfl)
   (pss_cons (ps_fld (pv 0) (pe_lst pa_nil) rfl)
   (pss_cons (ps_fld (pv 0) pe_non rfl)
   (pss_cons (ps_fld (pv 0) pe_int rfl)
   (pss_cons (ps_fld (pv 0) pe_dnewT rfl)
   (pss_one (ps_ret (pe_lst (pa_cons pe_int pa_nil)))))))))), ?_⟩
  have es0 : Sh12Neutral.step s [[0, (n : Int)]] = if (n : Int) = 0 ∨ (Sh12.MOST : Int) < n then (s, [-1]) else (⟨(n : Int).toNat, [], none⟩, [0]) := rfl
  refine ⟨_, rfl, rfl, _, rfl, ?_⟩
  by_cases h0 : n = 0
  · subst h0
    exact iteT ⟨one_le _, fun r hr => q.one hB (es0.trans (if_pos (.inl rfl))) rfl hr⟩
  rw [decide_eq_false (show ¬ V.int (n : Int) = V.int 0 from fun z => by injection z with z; omega)]
  refine iteF ⟨_, rfl, _, _, rfl, rfl, _, rfl, ?_⟩
  refine ite2 (fun c0 => ?_) (fun c0 => ?_)
  · have c0 : (1024 : Int) < (n : Int) := of_decide_eq_true c0
    exact ⟨one_le _, fun r hr => q.one hB (es0.trans (if_pos (.inr c0))) rfl hr⟩
  have c0 : ¬ (1024 : Int) < (n : Int) := of_decide_eq_false (Bool.eq_false_iff.mpr c0)
  have es1 : Sh12Neutral.step s [[0, (n : Int)]] = (⟨n, [], none⟩, [0]) := es0.trans ((if_neg (fun z => z.elim (fun z => by omega) (fun z => c0 z))).trans (by rw [Int.toNat_natCast]))
  rw [es1] at q
  have g0 := I.bf
  have g1 := g0.putN n
  refine ⟨_, rfl, _, rfl, p, CB, dx, fs, rfl, I.here, T.cl, T.n, (by have := g0.len; omega), ?_⟩
  refine ⟨Nat.zero_le _, fun ta' hta' => ?_⟩
  have n1 : ta' ≠ p := fun e => by rw [e, upd_same] at hta'; cases hta'
  rw [upd_ne n1] at hta'
  refine ⟨_, rfl, p, CB, dx, _, rfl, by rw [upd_ne n1.symm]; exact upd_same, T.cl, T.tests, (by have := g1.len; omega), ?_⟩
  have g2 := g1.putT ta'
  refine ⟨_, rfl, p, CB, dx, _, rfl, upd_same, T.cl, T.halving, (by have := g2.len; omega), ?_⟩
  have g3 := g2.putH .non
  rw [upd_upd]
  refine ⟨_, rfl, p, CB, dx, _, rfl, upd_same, T.cl, T.enough, (by have := g3.len; omega), ?_⟩
  have g4 : BF (putF "enough" (.int 0) _) _ _ _ _ 0 := g3.putE 0
  rw [upd_upd]
  intro kd' hkd'
  have n2 : kd' ≠ p := fun e => by rw [e, upd_same] at hkd'; cases hkd'
  rw [upd_ne n2] at hkd'
  have n3 : kd' ≠ ta' := fun e => by rw [e, upd_same] at hkd'; cases hkd'
  rw [upd_ne n3, upd_ne n2] at hkd'
  refine ⟨_, rfl, p, CB, dx, _, rfl, by rw [upd_ne n2.symm]; exact upd_same, T.cl, T.kept, (by have := g4.len; omega), ?_⟩
  have g5 := g4.putK kd'
  have np := I.np
  have ka : Kp pr H (upd (upd (upd (upd (upd H p (.ins CB dx (putF "n" (.int n) fs))) ta' (.lst [])) p (.ins CB dx (putF "enough" (.int 0) (putF "halving" .non (putF "tests" (.ref ta') (putF "n" (.int n) fs)))))) kd' (.dT [])) p (.ins CB dx (putF "kept" (.ref kd') (putF "enough" (.int 0) (putF "halving" .non (putF "tests" (.ref ta') (putF "n" (.int n) fs))))))) := fun b o hb eb => by
    have b1 : b ≠ p := fun z => np.1 (z ▸ hb)
    rw [upd_ne b1, upd_ne (ne_of_none eb hkd'), upd_ne b1, upd_ne (ne_of_none eb hta'), upd_ne b1]
    exact eb
  refine ⟨one_le _, fun r hr => q.new ⟨dx, ta', kd', _, [], 0, [], .non, upd_same, g5, ?_, fun x hx => (by cases hx), rfl, ⟨fun x hx => (by cases hx), fun x hx => (by cases hx)⟩, Nat.zero_le _, (by show n ≤ 1024; omega), Nat.zero_le _, fun j hj => (by omega), ?_, Nat.zero_le _, fun c d v hv => (by cases hv), rfl, ⟨np.1, fun z => I.tr _ z hta', fun z => I.tr _ z hkd'⟩, ka.tr I.tr⟩ ka rfl hr⟩
  · rw [upd_ne n1, upd_ne n3.symm, upd_ne n1]
    exact upd_same
  · rw [upd_ne n2]
    exact upd_same
end
theorem tso_app (a b : Tests) : tso (a ++ b) = tso a ++ tso b := List.map_append
theorem tell_num (v : Int) : Sh12Neutral.told (Sh12.num v) = [v] := by
  unfold Sh12Neutral.told Sh12.num
  split <;> rfl
section
variable {P : Program} {w : World} {K : PySem.W.Frag} {mg : Str → Option Value} {base : Heap} {f CB CH : Addr} {fd : FuncData}
theorem ok_add (T : TxtB K CB) {t1 t2 t3 : Tok} (m_WRONG : mg "WRONG" = some (.int (-1) t1)) (m_NOT_NOW : mg "NOT_NOW" = some (.int (-2) t2)) (m_MOST_TESTS : mg "MOST_TESTS" = some (.int 1024 t3)) (m_len : mg "len" = none)
    (C_crowd_of : Callee P w K mg base 1 "crowd_of" (["people"] : List Str) (spCrowdOf K)) (M_Book_has_strangers : MCallee P w K mg base 1 CB "has_strangers" (["self", "crowd"] : List Str) (spStrange CB CH))
    (F : Fun K "add_test" "Book.add_test" s_Book_add_test f fd) : FnOk P w K mg base CX0 2 f fd (["self", "positive", "pool"] : List Str) (spAdd K CB CH) := by
  refine F.ok sc_Book_add_test (fun vs H Q E h => ?_) (fun cdv A outer s H vs Q E hr h => ?_)
  · obtain ⟨pr, N, p, s, z, b, l, rfl, _⟩ := h
    rfl
  obtain ⟨pr, N, p, s, z, b, l, rfl, hB, hS, hl, q⟩ := h
  obtain ⟨dx, ta, kd, fs, es, e, kvs, hv, I⟩ := id hB
  refine ⟨_, (pss_cons (ps_sw (i := 3) sc_Book_add_test.nd (pe_callC C_crowd_of (hr.mono (by omega)) (by rfl) (pa_cons (pv 2) pa_nil)))
   (pss_cons (ps_if (pw_or (pt_cmpR op_gt (pv 1) pe_int (nomark _)) (pw_or1 (pt_truth (pe_methC (pv 0) M_Book_has_strangers (hr.mono (by omega)) (pa_cons (pv 3) pa_nil)) (fun _ => rfl)))).pt (pss_one (ps_ret (pe_lst (pa_cons (pe_globI (by rfl) m_WRONG) pa_nil)))) pss_nil)
   (pss_cons (ps_if (pt_cmpR op_eq (pe_callB call_len_seq (by rfl) m_len PySem.boot_len (pa_cons (pe_fld (pv 0) rfl) pa_nil)) (pe_globI (by rfl) m_MOST_TESTS) (nomark _)) (pss_one (ps_ret (pe_lst (pa_cons (pe_globI (by rfl) m_NOT_NOW) pa_nil)))) pss_nil)
   (pss_cons (ps_expr (pe_bm PySem.F.plainAttrs_list PySem.F.slot_list_append PySem.F.type_list_append mt_append (pe_fld (pv 0) rfl) (pa_cons (pe_tup (pa_cons (pv 1) (pa_cons (pv 3) pa_nil))) pa_nil)))
   (pss_cons (ps_fld (pv 0) pe_dnewT rfl)
   (pss_one (ps_ret (pe_lst (pa_cons (pe_op op_sub (pe_callB call_len_seq (by rfl) m_len PySem.boot_len (pa_cons (pe_fld (pv 0) rfl) pa_nil)) pe_int) pa_nil))))))))), ?_⟩
  have es0 : Sh12Neutral.step s [[1, (z : Int)], Sh12Neutral.ints l] = if 1 < (z : Int) ∨ s.within (Sh12Neutral.set (Sh12Neutral.ints l)) = false then (s, [-1]) else if Sh12.MOST ≤ s.tests.length then (s, [-2]) else ({ s with tests := s.tests ++ [⟨Sh12Neutral.set (Sh12Neutral.ints l), (z : Int) == 1⟩] }, [(s.tests.length : Int)]) := rfl
  rw [within_eq hl] at es0
  have tl : s.tests.length = es.length := by
    rw [I.tests]
    unfold tso
    rw [List.length_map, List.length_map]
  refine ⟨_, rfl, b, l, rfl, hS, fun x hx => (by have := hl x hx; omega), _, rfl, _, _, rfl, rfl, _, rfl, ?_⟩
  refine ite2 (fun c0 => ?_) (fun c0 => ?_)
  · have c0 : (1 : Int) < (z : Int) := of_decide_eq_true c0
    exact iteT ⟨one_le _, fun r hr => q.one hB (es0.trans (if_pos (.inl c0))) rfl hr⟩
  have c0 : ¬ (1 : Int) < (z : Int) := of_decide_eq_false (Bool.eq_false_iff.mpr c0)
  refine ⟨_, rfl, p, dx, fs, rfl, I.here, I.bf.no (by decide +kernel), _, rfl, pr, N, p, s, Cr.crowd l, rfl, hB, _, rfl, ?_⟩
  by_cases c1 : 2 ^ s.n ≤ Cr.crowd l
  · rw [decide_eq_true c1] at es0 ⊢
    exact iteT ⟨one_le _, fun r hr => q.one hB (es0.trans (if_pos (.inr rfl))) rfl hr⟩
  rw [decide_eq_false c1] at es0 ⊢
  have es1 := es0.trans (if_neg fun z => z.elim c0 fun z => by cases z)
  refine iteF ⟨_, rfl, p, CB, dx, fs, _, rfl, I.here, T.cl, T.tests, I.bf.tests, ta, _, rfl, .inl (SqL.of I.hta), rfl, _, rfl, ?_⟩
  rw [List.length_map]
  have few := I.few
  by_cases c2 : es.length = 1024
  · rw [c2]
    refine iteT ⟨one_le _, fun r hr => q.one hB (es1.trans (if_pos ?_)) rfl hr⟩
    rw [tl, c2]
    exact Nat.le_refl _
  rw [decide_eq_false (show ¬ V.int (es.length : Int) = V.int 1024 from fun z => by injection z with z; omega)]
  have es2 := es1.trans (if_neg (show ¬ Sh12.MOST ≤ s.tests.length by rw [tl]; unfold Sh12.MOST; omega))
  rw [es2] at q
  refine iteF ⟨_, rfl, p, CB, dx, fs, _, rfl, I.here, T.cl, T.tests, I.bf.tests, Or.inl ⟨rfl, _, SqL.of I.hta⟩, _, rfl, _, rfl, (by show 2 ≤ sizeLine; decide), fun t ht => ?_⟩
  have s1 := same_new ht (.tup [V.int (z : Int), V.int (Cr.crowd l : Nat)])
  refine ⟨ta, _, _, rfl, rfl, s1 _ _ I.hta, (by rw [List.length_map]; exact lt_line (by omega)), ?_⟩
  have nt : t ≠ ta := ne_of_none' I.hta ht
  have npt : p ≠ ta := kind_ne I.here I.hta (by simp)
  have tp : t ≠ p := ne_of_none' I.here ht
  have hp2 : upd (upd H t (.tup [V.int (z : Int), V.int (Cr.crowd l : Nat)])) ta (.lst ((es.map fun x => V.ref x.1) ++ [V.ref t])) p = some (.ins CB dx fs) := by
    rw [upd_ne npt]
    exact s1 _ _ I.here
  intro kd' hkd'
  have n1 : kd' ≠ ta := fun z => by rw [z, upd_same] at hkd'; cases hkd'
  have n2 : kd' ≠ p := fun z => by rw [z, hp2] at hkd'; cases hkd'
  have n3 : kd' ≠ t := fun z => by rw [z, upd_ne nt, upd_same] at hkd'; cases hkd'
  have fk : H kd' = none := by
    rw [upd_ne n1, upd_ne n3] at hkd'
    exact hkd'
  refine ⟨_, rfl, p, CB, dx, fs, rfl, by rw [upd_ne n2.symm]; exact hp2, T.cl, T.kept, (by have := I.bf.len; omega), ?_⟩
  have g1 := I.bf.putK kd'
  have f3 : F3 p ta kd H (upd (upd (upd (upd H t (.tup [V.int (z : Int), V.int (Cr.crowd l : Nat)])) ta (.lst ((es.map fun x => V.ref x.1) ++ [V.ref t]))) kd' (.dT [])) p (.ins CB dx (putF "kept" (.ref kd') fs))) := fun b o eb b1 b2 _ => by
    rw [upd_ne b1, upd_ne (ne_of_none eb fk), upd_ne b2]
    exact s1 _ _ eb
  have ka : Kp pr H (upd (upd (upd (upd H t (.tup [V.int (z : Int), V.int (Cr.crowd l : Nat)])) ta (.lst ((es.map fun x => V.ref x.1) ++ [V.ref t]))) kd' (.dT [])) p (.ins CB dx (putF "kept" (.ref kd') fs))) := fun b o hb eb => f3 b o eb (fun z => I.np.1 (z ▸ hb)) (fun z => I.np.2.1 (z ▸ hb)) (fun z => I.np.2.2 (z ▸ hb))
  have ok' : Ex.TOk s.n (tso es ++ [(z, Cr.crowd l)]) := ⟨fun x hx => by
      rcases List.mem_append.mp hx with hx | hx
      · exact I.ok.one x hx
      · rw [List.mem_singleton.mp hx]
        show z ≤ 1
        omega, fun x hx => by
      rcases List.mem_append.mp hx with hx | hx
      · exact I.ok.lt x hx
      · rw [List.mem_singleton.mp hx]
        exact Nat.lt_of_not_le c1⟩
  have hta4 : upd (upd (upd (upd H t (.tup [V.int (z : Int), V.int (Cr.crowd l : Nat)])) ta (.lst ((es.map fun x => V.ref x.1) ++ [V.ref t]))) kd' (.dT [])) p (.ins CB dx (putF "kept" (.ref kd') fs)) ta = some (.lst ((es ++ [(t, (z, Cr.crowd l))]).map fun x => V.ref x.1)) := by
    rw [upd_ne npt.symm, upd_ne n1.symm, upd_same, List.map_append]
    rfl
  have ts4 : ∀ x ∈ es ++ [(t, (z, Cr.crowd l))], upd (upd (upd (upd H t (.tup [V.int (z : Int), V.int (Cr.crowd l : Nat)])) ta (.lst ((es.map fun x => V.ref x.1) ++ [V.ref t]))) kd' (.dT [])) p (.ins CB dx (putF "kept" (.ref kd') fs)) x.1 = some (.tup [.int x.2.1, .int x.2.2]) ∧ ¬ pr x.1 := fun x hx => by
    rcases List.mem_append.mp hx with hx | hx
    · exact I.hes3 f3 x hx
    · rw [List.mem_singleton.mp hx]
      refine ⟨?_, fun w => I.tr t w ht⟩
      rw [upd_ne tp, upd_ne n3.symm, upd_ne nt]
      exact upd_same
  have tt4 : s.tests ++ [(⟨Sh12Neutral.set (Sh12Neutral.ints l), (z : Int) == 1⟩ : Sh12.Test)] = (tso (es ++ [(t, (z, Cr.crowd l))])).map Ex.tst := by
    rw [tso_app, List.map_append, ← I.tests, set_ints]
    congr 1
    show [_] = [_]
    congr 1
    unfold Ex.tst
    congr 1
    rw [Bool.eq_iff_iff, beq_iff_eq, beq_iff_eq]
    show (z : Int) = 1 ↔ z = 1
    omega
  refine ⟨_, rfl, p, CB, dx, _, _, rfl, upd_same, T.cl, T.tests, g1.tests, ta, _, rfl, .inl (SqL.of hta4), _, _, rfl, rfl, one_le _, fun r hr => q.new ⟨dx, ta, kd', _, es ++ [(t, (z, Cr.crowd l))], e, [], hv, upd_same, g1, hta4, ts4, tt4, by rw [tso_app]; exact ok', (by rw [List.length_append, List.length_singleton]; omega), I.ppl, I.e5, fun j hj => by rw [tso_app]; exact more_none I.ppl ok' (I.enough j hj), ?_, Nat.zero_le _, fun c d v hv => (by cases hv), I.halv3 f3, ⟨I.np.1, I.np.2.1, fun w => I.tr _ w fk⟩, ka.tr I.tr⟩ ka ?_ hr⟩
  · rw [upd_ne n2]
    exact upd_same
  · show [V.int (s.tests.length : Int)] = _
    rw [tl, List.length_map, List.length_append, List.length_singleton]
    congr 2
    omega
end
theorem map_erase {α β : Type} (g : α → β) : ∀ (l : List α) (k : Nat), (l.map g).eraseIdx k = (l.eraseIdx k).map g
  | [], k => rfl
  | a :: r, 0 => rfl
  | a :: r, k + 1 => by
    show g a :: (r.map g).eraseIdx k = g a :: (r.eraseIdx k).map g
    rw [map_erase g r k]
theorem seq_nat {k n : Nat} (h : k < n) : seqIndex? (k : Int) n = some k := by
  unfold seqIndex?
  simp [h]
  try omega
def spIll (CB CH : Addr) : Sp := fun vs H Q _ => ∃ (pr : Addr → Prop) (N : Nat) (p : Addr) (s : Sh12.St), vs = [.ref p] ∧ BS CB CH pr N H p s ∧ Ans CB CH pr N H p (Sh12Neutral.step s [[4]]) Q
section
variable {P : Program} {w : World} {K : PySem.W.Frag} {mg : Str → Option Value} {base : Heap} {f CB CH : Addr} {fd : FuncData}
theorem ok_drop (T : TxtB K CB) {t1 : Tok} (m_WRONG : mg "WRONG" = some (.int (-1) t1)) (m_len : mg "len" = none)
    (F : Fun K "drop" "Book.drop" s_Book_drop f fd) : FnOk P w K mg base CX0 1 f fd (["self", "k"] : List Str) (spDrop CB CH) := by
  refine F.ok sc_Book_drop (fun vs H Q E h => ?_) (fun cdv A outer s H vs Q E hr h => ?_)
  · obtain ⟨pr, N, p, s, k, rfl, _⟩ := h
    rfl
  obtain ⟨pr, N, p, s, k, rfl, hB, q⟩ := h
  obtain ⟨dx, ta, kd, fs, es, e, kvs, hv, I⟩ := id hB
  refine ⟨_, (pss_cons (ps_if (pt_cmpR op_ge (pv 1) (pe_callB call_len_seq (by rfl) m_len PySem.boot_len (pa_cons (pe_fld (pv 0) rfl) pa_nil)) (nomark _)) (pss_one (ps_ret (pe_lst (pa_cons (pe_globI (by rfl) m_WRONG) pa_nil)))) pss_nil)
   (pss_cons (ps_expr (pe_bm PySem.F.plainAttrs_list PySem.F.slot_list_pop PySem.F.type_list_pop mt_popAt (pe_fld (pv 0) rfl) (pa_cons (pv 1) pa_nil)))
   (pss_cons (ps_fld (pv 0) pe_int rfl)
   (pss_cons (ps_fld (pv 0) pe_dnewT rfl)
   (pss_one (ps_ret (pe_lst (pa_cons pe_int pa_nil)))))))), ?_⟩
  have es0 : Sh12Neutral.step s [[2, (k : Int)]] = if (s.tests.length : Int) ≤ (k : Int) then (s, [-1]) else ({ s with tests := s.tests.eraseIdx (k : Int).toNat }, [0]) := rfl
  have tl : s.tests.length = es.length := by
    rw [I.tests]
    unfold tso
    rw [List.length_map, List.length_map]
  rw [tl, Int.toNat_natCast] at es0
  have few := I.few
  refine ⟨_, rfl, _, rfl, p, CB, dx, fs, _, rfl, I.here, T.cl, T.tests, I.bf.tests, ta, _, rfl, .inl (SqL.of I.hta), _, _, rfl, rfl, _, rfl, ?_⟩
  rw [List.length_map]
  refine ite2 (fun c0 => ?_) (fun c0 => ?_)
  · have c0 : (es.length : Int) ≤ (k : Int) := of_decide_eq_true c0
    exact ⟨one_le _, fun r hr => q.one hB (es0.trans (if_pos c0)) rfl hr⟩
  have c0 : ¬ (es.length : Int) ≤ (k : Int) := of_decide_eq_false (Bool.eq_false_iff.mpr c0)
  have kl : k < es.length := by omega
  rw [es0.trans (if_neg c0)] at q
  have npt : p ≠ ta := kind_ne I.here I.hta (by simp)
  refine ⟨_, rfl, p, CB, dx, fs, _, rfl, I.here, T.cl, T.tests, I.bf.tests, Or.inl ⟨rfl, _, SqL.of I.hta⟩, _, rfl, ta, _, (k : Int), k, V.ref es[k].1, rfl, rfl, I.hta, by omega, by omega, by rw [List.length_map]; exact seq_nat kl, by rw [List.getElem?_map, List.getElem?_eq_getElem kl]; rfl, ?_⟩
  rw [map_erase]
  have hp2 : upd H ta (.lst ((es.eraseIdx k).map fun x => V.ref x.1)) p = some (.ins CB dx fs) := by
    rw [upd_ne npt]
    exact I.here
  refine ⟨_, rfl, p, CB, dx, fs, rfl, hp2, T.cl, T.enough, (by have := I.bf.len; omega), ?_⟩
  have g1 : BF (putF "enough" (.int 0) fs) _ _ _ _ 0 := I.bf.putE 0
  intro kd' hkd'
  have n2 : kd' ≠ p := fun z => by rw [z, upd_same] at hkd'; cases hkd'
  rw [upd_ne n2] at hkd'
  have n1 : kd' ≠ ta := fun z => by rw [z, upd_same] at hkd'; cases hkd'
  have fk : H kd' = none := by
    rw [upd_ne n1] at hkd'
    exact hkd'
  refine ⟨_, rfl, p, CB, dx, _, rfl, by rw [upd_ne n2.symm]; exact upd_same, T.cl, T.kept, (by have := g1.len; omega), ?_⟩
  have g2 := g1.putK kd'
  have f3 : F3 p ta kd H (upd (upd (upd (upd H ta (.lst ((es.eraseIdx k).map fun x => V.ref x.1))) p (.ins CB dx (putF "enough" (.int 0) fs))) kd' (.dT [])) p (.ins CB dx (putF "kept" (.ref kd') (putF "enough" (.int 0) fs)))) := fun b o eb b1 b2 _ => by
    rw [upd_ne b1, upd_ne (ne_of_none eb fk), upd_ne b1, upd_ne b2]
    exact eb
  have ka : Kp pr H _ := fun b o hb eb => f3 b o eb (fun z => I.np.1 (z ▸ hb)) (fun z => I.np.2.1 (z ▸ hb)) (fun z => I.np.2.2 (z ▸ hb))
  have sub : ∀ x, x ∈ es.eraseIdx k → x ∈ es := fun x hx => List.mem_of_mem_eraseIdx hx
  have sub2 : ∀ x, x ∈ tso (es.eraseIdx k) → x ∈ tso es := fun x hx => by
    obtain ⟨y, hy, rfl⟩ := List.mem_map.mp hx
    exact List.mem_map.mpr ⟨y, sub y hy, rfl⟩
  refine ⟨one_le _, fun r hr => q.new ⟨dx, ta, kd', _, es.eraseIdx k, 0, [], hv, upd_same, g2, ?_, fun x hx => I.hes3 f3 x (sub x hx), ?_, ⟨fun x hx => I.ok.one x (sub2 x hx), fun x hx => I.ok.lt x (sub2 x hx)⟩, ?_, I.ppl, Nat.zero_le _, fun j hj => (by omega), ?_, Nat.zero_le _, fun c d v hv => (by cases hv), I.halv3 f3, ⟨I.np.1, I.np.2.1, fun w => I.tr _ w fk⟩, ka.tr I.tr⟩ ka rfl hr⟩
  · rw [upd_ne npt.symm, upd_ne n1.symm, upd_ne npt.symm]
    exact upd_same
  · show s.tests.eraseIdx k = _
    rw [I.tests]
    unfold tso
    rw [map_erase, map_erase]
  · rw [List.length_eraseIdx]
    split <;> omega
  · rw [upd_ne n2]
    exact upd_same
theorem ok_fits (T : TxtB K CB) {t1 : Tok} (m_WRONG : mg "WRONG" = some (.int (-1) t1)) (C_crowd_of : Callee P w K mg base 1 "crowd_of" (["people"] : List Str) (spCrowdOf K)) (M_Book_has_strangers : MCallee P w K mg base 1 CB "has_strangers" (["self", "crowd"] : List Str) (spStrange CB CH))
    (F : Fun K "fits" "Book.fits" s_Book_fits f fd) : FnOk P w K mg base CX0 2 f fd (["self", "some"] : List Str) (spFits K CB CH) := by
  refine F.ok sc_Book_fits (fun vs H Q E h => ?_) (fun cdv A outer s H vs Q E hr h => ?_)
  · obtain ⟨pr, N, p, s, b, l, rfl, _⟩ := h
    rfl
  obtain ⟨pr, N, p, s, b, l, rfl, hB, hS, hl, q⟩ := h
  obtain ⟨dx, ta, kd, fs, es, e, kvs, hv, I⟩ := id hB
  refine ⟨_, (pss_cons (ps_sw (i := 2) sc_Book_fits.nd (pe_callC C_crowd_of (hr.mono (by omega)) (by rfl) (pa_cons (pv 1) pa_nil)))
   (pss_cons (ps_if (pt_truth (pe_methC (pv 0) M_Book_has_strangers (hr.mono (by omega)) (pa_cons (pv 2) pa_nil)) (fun _ => rfl)) (pss_one (ps_ret (pe_lst (pa_cons (pe_globI (by rfl) m_WRONG) pa_nil)))) pss_nil)
   (pss_cons (ps_for PassesOwn.never rfl (pi_list (pe_fld (pv 0) rfl)) (pg_tupK (K := K) (n := 2) (by rfl) (by rfl) (by exact pgs_cons (by exact (pg_nw (i := 3) sc_Book_fits.nd)) (by exact pgs_cons (by exact (pg_nw (i := 4) sc_Book_fits.nd)) (by exact pgs_nil)))) (pss_one (ps_if (pt_cmpR op_ne (pe_cmpR op_ne (pe_op op_and (pv 4) (pv 2)) pe_int (nomark _)) (pe_cmpR op_eq (pv 3) pe_int (nomark _)) (nomark _)) (pss_one (ps_ret (pe_lst (pa_cons pe_int pa_nil)))) pss_nil)))
   (pss_one (ps_ret (pe_lst (pa_cons pe_int pa_nil))))))), ?_⟩
  have es0 : Sh12Neutral.step s [[5], Sh12Neutral.ints l] = (s, Sh12Neutral.told (if s.within (Sh12Neutral.set (Sh12Neutral.ints l)) = true then Sh12.truth (Sh12.fits s.tests (Sh12.members (Sh12Neutral.set (Sh12Neutral.ints l)))) else Sh12.num (-1))) := rfl
  rw [within_eq hl] at es0
  refine ⟨_, rfl, b, l, rfl, hS, fun x hx => (by have := hl x hx; omega), _, rfl, p, dx, fs, rfl, I.here, I.bf.no (by decide +kernel), _, rfl, pr, N, p, s, Cr.crowd l, rfl, hB, _, rfl, ?_⟩
  by_cases c1 : 2 ^ s.n ≤ Cr.crowd l
  · rw [decide_eq_true c1] at es0 ⊢
    refine iteT ⟨one_le _, fun r hr => q.one (out := [-1]) hB (es0.trans ?_) rfl hr⟩
    rw [if_neg (by decide), tell_num]
  rw [decide_eq_false c1] at es0 ⊢
  rw [if_pos (by decide)] at es0
  have m1024 : ∀ x ∈ Sh12.members (Sh12Neutral.set (Sh12Neutral.ints l)), x < 1024 := fun x hx => hl x ((members_set hl).mp hx)
  have fi := Ex.fits_iff (TS := tso es) m1024
  rw [← I.tests] at fi
  refine iteF ⟨_, rfl, p, CB, dx, fs, _, rfl, I.here, T.cl, T.tests, I.bf.tests, ta, rfl, ⟨_, SqL.of I.hta⟩, for_list (K := K) (a := ta) (xs := es.map fun x => V.ref x.1) (fun i σ H' => ∃ (v w : Option V), σ = [some (.ref p), some (.ref b), some (.int (Cr.crowd l : Nat)), v, w] ∧ H' = H ∧ ∀ q ∈ tso (es.take i), (q.2 &&& Cr.crowd l != 0) = (q.1 == 1)) ⟨none, none, rfl, rfl, fun q hq => by cases hq⟩ (fun i σ H' _ ⟨_, _, _, e, _⟩ => e ▸ SqL.of I.hta) ?_ ?_⟩
  · rintro i y σ H' hi ⟨v, w, rfl, rfl, hq⟩
    obtain ⟨x, hx, hm, rfl⟩ := ent_at hi
    have hb := (I.hes x hm).1
    have one := I.ok.one x.2 (List.mem_map.mpr ⟨x, hm, rfl⟩)
    refine ⟨x.1, _, rfl, SqT.of hb, rfl, _, _, rfl, _, _, rfl, rfl, _, rfl, _, rfl, _, _, rfl, rfl, rfl, _, rfl, rfl, rfl, _, rfl, ?_⟩
    have e1 : (!decide (V.int (Builtin.bitAnd (x.2.2 : Int) (Cr.crowd l : Nat)) = V.int 0)) = (x.2.2 &&& Cr.crowd l != 0) := by
      rw [Cr.and_nat]
      by_cases z : x.2.2 &&& Cr.crowd l = 0
      · rw [z]
        rfl
      · rw [decide_eq_false (fun w => z (by injection w with w; omega)), bne_iff_ne.mpr z]
        rfl
    have e2 : decide (V.int (x.2.1 : Int) = V.int 1) = (x.2.1 == 1) := by
      by_cases z : x.2.1 = 1
      · rw [z]
        rfl
      · rw [decide_eq_false (fun w => z (by injection w with w; omega)), beq_eq_false_iff_ne.mpr z]
    rw [e1, e2]
    by_cases c2 : (x.2.2 &&& Cr.crowd l != 0) = (x.2.1 == 1)
    · rw [c2, decide_eq_true rfl]
      refine iteF ⟨some (.int (x.2.1 : Nat)), some (.int (x.2.2 : Nat)), rfl, rfl, fun y hy => ?_⟩
      rw [tso_snoc hx] at hy
      rcases List.mem_append.mp hy with hy | hy
      · exact hq y hy
      · rw [List.mem_singleton.mp hy]
        exact c2
    · rw [decide_eq_false (fun w => c2 (by injection w))]
      refine iteT ⟨one_le _, fun r hr => q.one (out := [0]) hB (es0.trans ?_) rfl hr⟩
      have : Sh12.fits s.tests (Sh12.members (Sh12Neutral.set (Sh12Neutral.ints l))) = false := Bool.eq_false_iff.mpr fun z => by
        have := fi.mp z x.2 (List.mem_map.mpr ⟨x, hm, rfl⟩)
        rw [meet_eq hl] at this
        exact c2 this
      rw [this]
      unfold Sh12.truth
      rw [if_neg (by decide), tell_num]
  · rintro σ H' ⟨v, w, rfl, rfl, hq⟩
    rw [List.length_map, List.take_length] at hq
    refine ⟨one_le _, fun r hr => q.one (out := [1]) hB (es0.trans ?_) rfl hr⟩
    have : Sh12.fits s.tests (Sh12.members (Sh12Neutral.set (Sh12Neutral.ints l))) = true := fi.mpr fun x hx => by
      rw [meet_eq hl]
      exact hq x hx
    rw [this]
    unfold Sh12.truth
    rw [if_pos rfl, tell_num]
theorem ok_ill (T : TxtB K CB) {t1 : Tok} (m_CLASH : mg "CLASH" = some (.int (-3) t1)) (M_Book_suspects : MCallee P w K mg base 2 CB "suspects" (["self"] : List Str) (spSusp CB CH)) (C_tell : Callee P w K mg base 2 "tell" (["crowd"] : List Str) spTell)
    (F : Fun K "ill" "Book.ill" s_Book_ill f fd) : FnOk P w K mg base CX0 3 f fd (["self"] : List Str) (spIll CB CH) := by
  refine F.ok sc_Book_ill (fun vs H Q E h => ?_) (fun cdv A outer s H vs Q E hr h => ?_)
  · obtain ⟨pr, N, p, s, rfl, _⟩ := h
    rfl
  obtain ⟨pr, N, p, s, rfl, hB, q⟩ := h
  obtain ⟨dx, ta, kd, fs, es, e, kvs, hv, I⟩ := id hB
  refine ⟨_, (pss_cons (ps_sw (i := 1) sc_Book_ill.nd pe_int)
   (pss_cons (ps_for PassesOwn.never rfl (pi_list (pe_methC0 (pv 0) M_Book_suspects (hr.mono (by omega)))) (pg_nw (i := 2) sc_Book_ill.nd) (pss_cons (ps_if (pt_cmpR op_eq (pv 2) pe_int (nomark _)) (pss_one (ps_ret (pe_lst (pa_cons (pe_globI (by rfl) m_CLASH) pa_nil)))) pss_nil)
   (pss_one (ps_if (pt_cmpR op_eq (pe_op op_and (pv 2) (pe_op op_sub (pv 2) pe_int)) pe_int (nomark _)) (pss_one (ps_aw (i := 1) sc_Book_ill.nd (pv 2) (ip_of iop_or))) pss_nil))))
   (pss_one (ps_ret (pe_callC C_tell (hr.mono (by omega)) (by rfl) (pa_cons (pv 1) pa_nil)))))), ?_⟩
  have es0 : Sh12Neutral.step s [[4]] = (s, Sh12Neutral.told (if Sh12.clash s.n s.tests = true then Sh12.num (-3) else Sh12.set1 (Sh12.wide fun (i : Nat) => decide (i < s.n) && Sh12.isIll s.n s.tests i))) := rfl
  have ci := Ex.clash_iff I.ppl I.ok
  have ii := fun i => Ex.isIll_iff I.ppl I.ok (i := i)
  rw [← I.tests] at ci ii
  generalize hsu : Ex.susp s.n (tso es) = su at *
  have slt : ∀ x ∈ su, x < 2 ^ s.n := fun x hx => by
    rw [← hsu] at hx
    obtain ⟨y, hy, _, rfl⟩ := (Ex.mem_susp I.ok).mp hx
    exact Nat.lt_of_le_of_lt Nat.and_le_left (I.ok.lt y hy)
  refine ⟨_, rfl, p, dx, fs, rfl, I.here, I.bf.no (by decide +kernel), pr, N, p, s, dx, ta, kd, fs, es, e, kvs, hv, rfl, I, fun a H1 s1 f1 h1 => ?_⟩
  rw [hsu] at h1
  have hB1 := hB.same s1
  refine ⟨a, rfl, ⟨_, SqL.of h1⟩, for_list (K := K) (a := a) (xs := vN su) (fun i σ H' => ∃ (c : Nat) (v : Option V), σ = [some (.ref p), some (.int c), v] ∧ H' = H1 ∧ (∀ k, c.testBit k = true ↔ 2 ^ k ∈ su.take i) ∧ 0 ∉ su.take i) ⟨0, none, rfl, rfl, fun k => by simp, by simp⟩ (fun i σ H' _ ⟨_, _, _, e, _⟩ => e ▸ SqL.of h1) ?_ ?_⟩
  · rintro i y σ H' hi ⟨c, v, rfl, rfl, hc, hz⟩
    obtain ⟨x, hx, rfl⟩ := vN_at hi
    have hm := List.mem_of_getElem? hx
    refine ⟨_, rfl, rfl, _, rfl, ?_⟩
    by_cases x0 : x = 0
    · subst x0
      refine iteT ⟨one_le _, fun r hr => q.new hB1 (Kp.same s1) ?_ hr⟩
      rw [es0, if_pos (ci.mpr hm), tell_num]
      rfl
    rw [decide_eq_false (show ¬ V.int (x : Int) = V.int 0 from fun w => x0 (by injection w with w; omega))]
    have ex : (x : Int) - 1 = ((x - 1 : Nat) : Int) := by omega
    have nz : 0 ∉ su.take (i + 1) := fun w => by
      rw [take_snoc hx] at w
      rcases List.mem_append.mp w with w | w
      · exact hz w
      · exact x0 (List.mem_singleton.mp w).symm
    refine iteF ⟨_, rfl, _, rfl, _, _, rfl, rfl, _, _, rfl, rfl, rfl, _, rfl, ?_⟩
    dsimp only
    by_cases al : x &&& (x - 1) = 0
    · rw [decide_eq_true (show V.int (Builtin.bitAnd (x : Int) ((x : Int) - 1)) = V.int 0 by rw [ex, Cr.and_nat, al]; rfl)]
      obtain ⟨k, rfl⟩ := (Ex.alone_iff x0).mp al
      refine iteT ⟨_, rfl, _, rfl, _, _, rfl, rfl, c ||| 2 ^ k, some (.int (2 ^ k : Nat)), ?_, rfl, fun j => ?_, nz⟩
      · rw [← Cr.or_nat]
        rfl
      · rw [Nat.testBit_or, Bool.or_eq_true, hc j, take_snoc hx, List.mem_append, List.mem_singleton, Nat.testBit_two_pow]
        rw [decide_eq_true_iff]
        have : 2 ^ j = 2 ^ k ↔ k = j := (Nat.pow_right_inj (by decide)).trans eq_comm
        rw [this]
    · rw [decide_eq_false (show ¬ V.int (Builtin.bitAnd (x : Int) ((x : Int) - 1)) = V.int 0 from fun w => al (by rw [ex, Cr.and_nat] at w; injection w with w; omega))]
      refine iteF ⟨c, some (.int (x : Nat)), rfl, rfl, fun j => ?_, nz⟩
      rw [hc j, take_snoc hx, List.mem_append, List.mem_singleton]
      exact ⟨.inl, fun z => z.resolve_right fun z => al ((Ex.alone_iff x0).mpr ⟨j, z.symm⟩)⟩
  · rintro σ H' ⟨c, v, rfl, rfl, hc, hz⟩
    rw [vN_len, List.take_length] at hc hz
    have clt : c < 2 ^ s.n := Ex.lt_of_bits fun i hi => (Nat.pow_lt_pow_iff_right (by decide)).mp (slt _ ((hc i).mp hi))
    refine ⟨_, rfl, c, 1024, rfl, Ex.up I.ppl clt, by decide, fun r H2 s2 f2 h2 => ?_⟩
    have hB2 := hB1.same s2
    refine q r H2 (by rw [es0]; exact hB2) (Kp.same (s1.trans s2)) (fun z => I.tr r z (s1.free f2)) ?_
    rw [h2, es0, if_neg (fun z => hz (ci.mp z)), Ex.told_wide]
    have : (List.range 1024).filter (fun i => decide (i < s.n) && Sh12.isIll s.n s.tests i) = Cr.ms 1024 c := by
      unfold Cr.ms
      refine List.filter_congr fun i hi => ?_
      rw [Bool.eq_iff_iff, hc i, Bool.and_eq_true, ii i, decide_eq_true_iff]
      exact ⟨fun z => z.2, fun z => ⟨(Nat.pow_lt_pow_iff_right (by decide)).mp (slt _ z), z⟩⟩
    rw [this]
    unfold vN
    rw [List.map_cons, List.map_cons, List.map_map]
    rfl
end
def spSearch (CB CH : Addr) : Sp := fun vs H Q _ => ∃ (pr : Addr → Prop) (N : Nat) (p : Addr) (s : Sh12.St) (d : Nat), vs = [.ref p, .int d] ∧ BS CB CH pr N H p s ∧ Ans CB CH pr N H p (Sh12Neutral.step s [[9, (d : Int)]]) Q
def spNext (CB CH : Addr) : Sp := fun vs H Q _ => ∃ (pr : Addr → Prop) (N : Nat) (p : Addr) (s : Sh12.St), vs = [.ref p] ∧ BS CB CH pr N H p s ∧ Ans CB CH pr N H p (Sh12Neutral.step s [[10]]) Q
def spTold (CB CH : Addr) : Sp := fun vs H Q _ => ∃ (pr : Addr → Prop) (N : Nat) (p : Addr) (s : Sh12.St) (z : Nat), vs = [.ref p, .int z] ∧ BS CB CH pr N H p s ∧ Ans CB CH pr N H p (Sh12Neutral.step s [[11, (z : Int)]]) Q
def spFound (CB CH : Addr) : Sp := fun vs H Q _ => ∃ (pr : Addr → Prop) (N : Nat) (p : Addr) (s : Sh12.St), vs = [.ref p] ∧ BS CB CH pr N H p s ∧ Ans CB CH pr N H p (Sh12Neutral.step s [[12]]) Q
def spBook (CB CH : Addr) : Sp := fun vs H Q _ => ∃ (pr : Addr → Prop) (p dx : Addr), vs = [.ref p] ∧ H p = some (.ins CB dx []) ∧ ¬ pr p ∧ (∀ b, pr b → H b ≠ none) ∧ ∀ H', BS CB CH pr 0 H' p ⟨0, [], none⟩ → But p H H' → Q .non H'
theorem step_other {c d n : Nat} {ts : List Sh12.Test} {o o' : Option Sh12.Search} (hc : c = 6 ∨ c = 7 ∨ c = 8) : (Sh12Neutral.step ⟨n, ts, o⟩ [[(c : Int), (d : Int)]]).2 = (Sh12Neutral.step ⟨n, ts, o'⟩ [[(c : Int), (d : Int)]]).2 := by
  rcases hc with rfl | rfl | rfl <;> rfl
section
variable {P : Program} {w : World} {K : PySem.W.Frag} {mg : Str → Option Value} {base : Heap} {f CB CH : Addr} {fd : FuncData}
theorem ok_search (T : TxtB K CB) {t1 : Tok} (m_WRONG : mg "WRONG" = some (.int (-1) t1)) (K_Halving : KCallee P w K mg base 1 CH "Halving" (["self", "n", "d"] : List Str) (spHalving CH))
    (F : Fun K "search" "Book.search" s_Book_search f fd) : FnOk P w K mg base CX0 3 f fd (["self", "d"] : List Str) (spSearch CB CH) := by
  refine F.ok sc_Book_search (fun vs H Q E h => ?_) (fun cdv A outer s H vs Q E hr h => ?_)
  · obtain ⟨pr, N, p, s, d, rfl, _⟩ := h
    rfl
  obtain ⟨pr, N, p, s, d, rfl, hB, q⟩ := h
  obtain ⟨dx, ta, kd, fs, es, e, kvs, hv, I⟩ := id hB
  refine ⟨_, (pss_cons (ps_if (pt_cmpR op_gt (pv 1) (pe_fld (pv 0) rfl) (nomark _)) (pss_one (ps_ret (pe_lst (pa_cons (pe_globI (by rfl) m_WRONG) pa_nil)))) pss_nil)
   (pss_cons (ps_fld (pv 0) (pe_makeC K_Halving (hr.mono (by omega)) (by rfl) (pa_cons (pe_fld (pv 0) rfl) (pa_cons (pv 1) pa_nil))) rfl)
   (pss_one (ps_ret (pe_lst (pa_cons pe_int pa_nil)))))), ?_⟩
  have es0 : Sh12Neutral.step s [[9, (d : Int)]] = if (s.n : Int) < (d : Int) then (s, [-1]) else ({ s with search := some (Sh12.begins s.n (d : Int).toNat) }, [0]) := rfl
  rw [Int.toNat_natCast] at es0
  refine ⟨_, rfl, _, rfl, p, CB, dx, fs, _, rfl, I.here, T.cl, T.n, I.bf.num, _, _, rfl, rfl, _, rfl, ?_⟩
  refine ite2 (fun c0 => ?_) (fun c0 => ?_)
  · have c0 : (s.n : Int) < (d : Int) := of_decide_eq_true c0
    exact ⟨one_le _, fun r hr => q.one hB (es0.trans (if_pos c0)) rfl hr⟩
  have c0 : ¬ (s.n : Int) < (d : Int) := of_decide_eq_false (Bool.eq_false_iff.mpr c0)
  rw [es0.trans (if_neg c0)] at q
  refine ⟨_, rfl, p, CB, dx, fs, _, rfl, I.here, T.cl, T.n, I.bf.num, _, rfl, fun x dx' hx hdx nd => ⟨x, dx', s.n, d, rfl, upd_same, I.ppl, fun u g ca H1 hA hu hg hca b1 => ⟨rfl, ?_⟩⟩⟩
  have s1 := same_new hdx (.own x)
  have sx : Same H (upd (upd H dx' (.own x)) x (.ins CH dx' [])) := s1.trans (same_new (by rw [upd_ne nd.symm]; exact hx) _)
  have b2 : ∀ b o, H b = some o → H1 b = some o := fun b o eb => b1 b o (sx _ _ eb) (ne_of_none eb hx)
  have hp1 := b2 _ _ I.here
  refine ⟨_, rfl, p, CB, dx, fs, rfl, hp1, T.cl, T.halving, (by have := I.bf.len; omega), ?_⟩
  have nx : x ≠ p := ne_of_none' I.here hx
  have f2 : But p H (upd H1 p (.ins CB dx (putF "halving" (.ref x) fs))) := fun b o eb n => by
    rw [upd_ne n]
    exact b2 b o eb
  have f22 : F2 p kd H (upd H1 p (.ins CB dx (putF "halving" (.ref x) fs))) := fun b o eb n _ => f2 b o eb n
  have ka := Kp.but (pr := pr) I.np.1 f2
  have fu := sx.free hu
  have fg := sx.free hg
  have fc := sx.free hca
  obtain ⟨dxh, fsh, a1, a2, a3, a4, a5⟩ := id hA
  refine ⟨one_le _, fun r hr => q.new ⟨dx, ta, kd, _, es, e, kvs, .ref x, upd_same, I.bf.putH _, I.hta2 f22, I.hes3 f22.f3, I.tests, I.ok, I.few, I.ppl, I.e5, I.enough, I.hkd1 f2, I.kl, ?_, ⟨x, u, g, ca, rfl, hA.keep fun b o hb eb => ?_, begins_ok I.ppl, nx, ne_of_none I.hta fu, ne_of_none I.hta fg, ne_of_none I.hta fc, fun z => I.tr _ z hx, fun z => I.tr _ z fu, fun z => I.tr _ z fg, fun z => I.tr _ z fc⟩, I.np, ka.tr I.tr⟩ ka rfl hr⟩
  · intro c d' v hv'
    obtain ⟨hc, r', e1, e2, e3⟩ := I.kept2 f22 c d' v hv'
    refine ⟨hc, r', e1, e2, e3.trans ?_⟩
    rw [step_other hc]
  · rw [upd_ne ?_]
    · exact eb
    · rcases hb with rfl | rfl | rfl | rfl
      · exact nx
      · exact kind_ne a3 hp1 (by simp)
      · exact kind_ne a4 hp1 (by simp)
      · exact kind_ne a5 hp1 (by simp)
theorem ok_next (T : TxtB K CB) {t1 : Tok} (m_NOT_NOW : mg "NOT_NOW" = some (.int (-2) t1)) (m_len : mg "len" = none) (M_Halving_pool : MCallee P w K mg base 2 CH "pool" (["self"] : List Str) (spPool CH))
    (F : Fun K "next_pool" "Book.next_pool" s_Book_next_pool f fd) : FnOk P w K mg base CX0 3 f fd (["self"] : List Str) (spNext CB CH) := by
  refine F.ok sc_Book_next_pool (fun vs H Q E h => ?_) (fun cdv A outer s H vs Q E hr h => ?_)
  · obtain ⟨pr, N, p, s, rfl, _⟩ := h
    rfl
  obtain ⟨pr, N, p, s, rfl, hB, q⟩ := h
  obtain ⟨dx, ta, kd, fs, es, e, kvs, hv, I⟩ := id hB
  refine ⟨_, (pss_cons (ps_if (pt_cmpR op_isN (pe_fld (pv 0) rfl) pe_non (nomark _)) (pss_one (ps_ret (pe_lst (pa_cons (pe_globI (by rfl) m_NOT_NOW) pa_nil)))) pss_nil)
   (pss_cons (ps_sw (i := 1) sc_Book_next_pool.nd (pe_methC0 (pe_fld (pv 0) rfl) M_Halving_pool (hr.mono (by omega))))
   (pss_one (ps_ret (pe_op op_cat (pe_lst (pa_cons (pe_callB call_len_seq (by rfl) m_len PySem.boot_len (pa_cons (pv 1) pa_nil)) pa_nil)) (pv 1)))))), ?_⟩
  have es0 : Sh12Neutral.step s [[10]] = (s, Sh12Neutral.told (match s.search with
    | none => Sh12.num (-2)
    | some t => Sh12.set1 (Sh12.bits t.pool))) := rfl
  have ha := I.halv
  unfold HK at ha
  refine ⟨_, rfl, p, CB, dx, fs, _, rfl, I.here, T.cl, T.halving, I.bf.halving, rfl, _, rfl, ?_⟩
  cases hs : s.search with
  | none =>
    rw [hs] at ha es0
    rw [ha]
    refine iteT ⟨one_le _, fun r hr => q.one (out := [-2]) hB (es0.trans ?_) rfl hr⟩
    rw [tell_num]
  | some t =>
    rw [hs] at ha es0
    obtain ⟨h1, u, g, ca, rfl, hA, so, _⟩ := ha
    obtain ⟨dxh, fsh, a1, a2, a3, a4, a5⟩ := id hA
    refine iteF ⟨_, rfl, p, CB, dx, fs, _, rfl, I.here, T.cl, T.halving, I.bf.halving, h1, dxh, fsh, rfl, a1, a2.m2, h1, u, g, ca, t, rfl, hA, so, fun a H1 s1 f1 e1 => ?_⟩
    refine ⟨_, rfl, a, _, rfl, .inl (SqL.of e1), one_le _, fun r hr => ?_⟩
    have s2 := same_new hr (.lst [V.int (((vN t.pool).length : Nat) : Int)])
    have pl : t.pool.length ≤ 1024 := asc_len so.pool.1 so.pool.2
    refine ⟨_, rfl, r, a, _, _, rfl, rfl, upd_same, s2 _ _ e1, ?_, fun r2 hr2 => q.new (by rw [es0]; exact (hB.same s1).same s2) ((Kp.same s1).trans (Kp.same s2)) ?_ hr2⟩
    · rw [vN_len]
      exact Nat.le_of_lt (lt_line (by show 1 + t.pool.length ≤ _; omega))
    · rw [es0]
      show (Sh12Neutral.told (Sh12.set1 (Sh12.bits t.pool))).map V.int = _
      rw [told_bits so.pool.1 so.pool.2, vN_len]
      unfold vN
      rw [List.map_cons, List.map_map]
      rfl
theorem ok_found (T : TxtB K CB) (TH : TxtH K CH) {t1 : Tok} (m_NOT_NOW : mg "NOT_NOW" = some (.int (-2) t1)) (m_len : mg "len" = none)
    (F : Fun K "found" "Book.found" s_Book_found f fd) : FnOk P w K mg base CX0 1 f fd (["self"] : List Str) (spFound CB CH) := by
  refine F.ok sc_Book_found (fun vs H Q E h => ?_) (fun cdv A outer s H vs Q E hr h => ?_)
  · obtain ⟨pr, N, p, s, rfl, _⟩ := h
    rfl
  obtain ⟨pr, N, p, s, rfl, hB, q⟩ := h
  obtain ⟨dx, ta, kd, fs, es, e, kvs, hv, I⟩ := id hB
  refine ⟨_, (pss_cons (ps_if (pt_cmpR op_isN (pe_fld (pv 0) rfl) pe_non (nomark _)) (pss_one (ps_ret (pe_lst (pa_cons (pe_globI (by rfl) m_NOT_NOW) pa_nil)))) pss_nil)
   (pss_one (ps_ret (pe_op op_cat (pe_lst (pa_cons (pe_callB call_len_seq (by rfl) m_len PySem.boot_len (pa_cons (pe_fld (pe_fld (pv 0) rfl) rfl) pa_nil)) pa_nil)) (pe_fld (pe_fld (pv 0) rfl) rfl))))), ?_⟩
  have es0 : Sh12Neutral.step s [[12]] = (s, Sh12Neutral.told (match s.search with
    | none => Sh12.num (-2)
    | some t => Sh12.set1 (Sh12.bits t.ill))) := rfl
  have ha := I.halv
  unfold HK at ha
  refine ⟨_, rfl, p, CB, dx, fs, _, rfl, I.here, T.cl, T.halving, I.bf.halving, rfl, _, rfl, ?_⟩
  cases hs : s.search with
  | none =>
    rw [hs] at ha es0
    rw [ha]
    refine iteT ⟨one_le _, fun r hr => q.one (out := [-2]) hB (es0.trans ?_) rfl hr⟩
    rw [tell_num]
  | some t =>
    rw [hs] at ha es0
    obtain ⟨h1, u, g, ca, rfl, hA, so, _⟩ := ha
    obtain ⟨dxh, fsh, a1, a2, a3, a4, a5⟩ := id hA
    refine iteF ⟨_, rfl, p, CB, dx, fs, _, rfl, I.here, T.cl, T.halving, I.bf.halving, h1, CH, dxh, fsh, _, rfl, a1, TH.cl, TH.caught, a2.caught, ca, _, rfl, .inl (SqL.of a5), one_le _, fun r hr => ?_⟩
    have s2 := same_new hr (.lst [V.int (((vN t.ill).length : Nat) : Int)])
    have pl : t.ill.length ≤ 1024 := asc_len so.ill.1 so.ill.2
    refine ⟨_, rfl, p, CB, dx, fs, _, rfl, s2 _ _ I.here, T.cl, T.halving, I.bf.halving, h1, CH, dxh, fsh, _, rfl, s2 _ _ a1, TH.cl, TH.caught, a2.caught, r, ca, _, _, rfl, rfl, upd_same, s2 _ _ a5, ?_, fun r2 hr2 => q.new (by rw [es0]; exact hB.same s2) (Kp.same s2) ?_ hr2⟩
    · rw [vN_len]
      exact Nat.le_of_lt (lt_line (by show 1 + t.ill.length ≤ _; omega))
    · rw [es0]
      show (Sh12Neutral.told (Sh12.set1 (Sh12.bits t.ill))).map V.int = _
      rw [told_bits so.ill.1 so.ill.2, vN_len]
      unfold vN
      rw [List.map_cons, List.map_map]
      rfl
theorem ok_told (T : TxtB K CB) {t1 t2 : Tok} (m_WRONG : mg "WRONG" = some (.int (-1) t1)) (m_NOT_NOW : mg "NOT_NOW" = some (.int (-2) t2)) (M_Halving_is_over : MCallee P w K mg base 1 CH "is_over" (["self"] : List Str) (spOver CH)) (M_Halving_take_in : MCallee P w K mg base 3 CH "take_in" (["self", "positive"] : List Str) (spTake CH))
    (F : Fun K "told" "Book.told" s_Book_told f fd) : FnOk P w K mg base CX0 4 f fd (["self", "positive"] : List Str) (spTold CB CH) := by
  refine F.ok sc_Book_told (fun vs H Q E h => ?_) (fun cdv A outer s H vs Q E hr h => ?_)
  · obtain ⟨pr, N, p, s, z, rfl, _⟩ := h
    rfl
  obtain ⟨pr, N, p, s, z, rfl, hB, q⟩ := h
  obtain ⟨dx, ta, kd, fs, es, e, kvs, hv, I⟩ := id hB
  refine ⟨_, (pss_cons (ps_if (pt_cmpR op_gt (pv 1) pe_int (nomark _)) (pss_one (ps_ret (pe_lst (pa_cons (pe_globI (by rfl) m_WRONG) pa_nil)))) pss_nil)
   (pss_cons (ps_if (pw_or (pt_cmpR op_isN (pe_fld (pv 0) rfl) pe_non (nomark _)) (pw_or1 (pt_truth (pe_methC0 (pe_fld (pv 0) rfl) M_Halving_is_over (hr.mono (by omega))) (fun _ => rfl)))).pt (pss_one (ps_ret (pe_lst (pa_cons (pe_globI (by rfl) m_NOT_NOW) pa_nil)))) pss_nil)
   (pss_cons (ps_expr (pe_methC (pe_fld (pv 0) rfl) M_Halving_take_in (hr.mono (by omega)) (pa_cons (pv 1) pa_nil)))
   (pss_one (ps_ret (pe_lst (pa_cons pe_int pa_nil))))))), ?_⟩
  have es0 : Sh12Neutral.step s [[11, (z : Int)]] = if 1 < (z : Int) then (s, [-1]) else (match s.search with
      | none => (s, [-2])
      | some t => if t.pool.isEmpty = true then (s, [-2]) else ({ s with search := some (t.told ((z : Int) == 1)) }, [0])) := rfl
  refine ⟨_, rfl, _, _, rfl, rfl, _, rfl, ?_⟩
  refine ite2 (fun c0 => ?_) (fun c0 => ?_)
  · have c0 : (1 : Int) < (z : Int) := of_decide_eq_true c0
    exact ⟨one_le _, fun r hr => q.one hB (es0.trans (if_pos c0)) rfl hr⟩
  have c0 : ¬ (1 : Int) < (z : Int) := of_decide_eq_false (Bool.eq_false_iff.mpr c0)
  rw [if_neg c0] at es0
  have ha := I.halv
  unfold HK at ha
  refine ⟨_, rfl, p, CB, dx, fs, _, rfl, I.here, T.cl, T.halving, I.bf.halving, rfl, _, rfl, ?_⟩
  cases hs : s.search with
  | none =>
    rw [hs] at ha es0
    rw [ha]
    exact iteT ⟨one_le _, fun r hr => q.one hB es0 rfl hr⟩
  | some t =>
    rw [hs] at ha es0
    obtain ⟨h1, u, g, ca, rfl, hA, so, n1, n2, n3, n4, n5, n6, n7, n8⟩ := ha
    obtain ⟨dxh, fsh, a1, a2, a3, a4, a5⟩ := id hA
    refine iteF ⟨_, rfl, p, CB, dx, fs, _, rfl, I.here, T.cl, T.halving, I.bf.halving, h1, dxh, fsh, rfl, a1, a2.m1, h1, u, g, ca, t, rfl, hA, _, rfl, ?_⟩
    have es1 : Sh12Neutral.step s [[11, (z : Int)]] = if over t = true then (s, [-2]) else ({ s with search := some (t.told ((z : Int) == 1)) }, [0]) := es0.trans (by rw [← pool_empty so])
    cases ov : over t with
    | true =>
      exact iteT ⟨one_le _, fun r hr => q.one hB (es1.trans (if_pos ov)) rfl hr⟩
    | false =>
      rw [es1.trans (if_neg (by rw [ov]; decide))] at q
      have ez : ((z : Int) == 1) = (z == 1) := by
        rw [Bool.eq_iff_iff, beq_iff_eq, beq_iff_eq]
        omega
      rw [ez] at q
      have lists : ∀ {c : Addr} {xs : List V}, H c = some (.lst xs) → c ≠ p := fun hc => kind_ne hc I.here (by simp)
      refine iteF ⟨_, rfl, p, CB, dx, fs, _, rfl, I.here, T.cl, T.halving, I.bf.halving, h1, dxh, fsh, rfl, a1, a2.m4, _, rfl, h1, u, g, ca, t, z, (fun b => pr b ∨ b = p ∨ b = ta), rfl, hA, so, ov, by omega, fun b hb => ?_, fun w => w.elim n5 fun w => w.elim n1 (kind_ne a1 I.hta (by simp)), fun w => w.elim n6 fun w => w.elim (lists a3) fun w => n2 w.symm, fun w => w.elim n7 fun w => w.elim (lists a4) fun w => n3 w.symm, fun w => w.elim n8 fun w => w.elim (lists a5) fun w => n4 w.symm, fun u' g' ca' H1 hA1 w1 w2 w3 b1 => ?_⟩
      · rcases hb with hb | rfl | rfl
        · exact I.tr b hb
        · rw [I.here]; simp
        · rw [I.hta]; simp
      have hne : ∀ {b : Addr} {o : HO}, H b = some o → (∀ C' dx' fs', o ≠ .ins C' dx' fs') → H1 b = some o := fun {b o} eb ho => b1 b o eb (fun w => by
        rw [w, a1] at eb
        exact ho _ _ _ (Option.some.inj eb).symm)
      have ka : Kp pr H H1 := Kp.but n5 b1
      refine ⟨one_le _, fun r hr => q.new ⟨dx, ta, kd, fs, es, e, kvs, .ref h1, b1 _ _ I.here n1.symm, I.bf, hne I.hta (by simp), fun x hx => ⟨hne (I.hes x hx).1 (by simp), (I.hes x hx).2⟩, I.tests, I.ok, I.few, I.ppl, I.e5, I.enough, hne I.hkd (by simp), I.kl, ?_, ⟨h1, u', g', ca', rfl, hA1, told_ok so ov _, n1, fun w => w1 (.inr (.inr w.symm)), fun w => w2 (.inr (.inr w.symm)), fun w => w3 (.inr (.inr w.symm)), n5, fun w => w1 (.inl w), fun w => w2 (.inl w), fun w => w3 (.inl w)⟩, I.np, ka.tr I.tr⟩ ka rfl hr⟩
      intro c d' v hv'
      obtain ⟨hc, r', e1, e2, e3⟩ := I.kept c d' v hv'
      refine ⟨hc, r', e1, e2, (hne e3 (by simp)).trans ?_⟩
      rw [step_other hc]
theorem ok_book (T : TxtB K CB) (F : Fun K "__init__" "Book.__init__" s_Book___init__ f fd) : FnOk P w K mg base CX0 1 f fd (["self"] : List Str) (spBook CB CH) := by
  refine F.ok sc_Book___init__ (fun vs H Q E h => ?_) (fun cdv A outer s H vs Q E hr h => ?_)
  · obtain ⟨pr, p, dx, rfl, _⟩ := h
    rfl
  obtain ⟨pr, p, dx, rfl, hp, np, tr, q⟩ := h
  refine ⟨_, (pss_cons (ps_fld (pv 0) pe_int rfl)
   (pss_cons (ps_fld (pv 0) (pe_lst pa_nil) rfl)
   (pss_cons (ps_fld (pv 0) pe_non rfl)
   (pss_cons (ps_fld (pv 0) pe_int rfl)
   (pss_one (ps_fld (pv 0) pe_dnewT rfl)))))), ?_⟩
  have l1 : ∀ (g : Str) (v : V) (fs : List (Str × V)) (n : Nat), fs.length ≤ n → (putF g v fs).length ≤ n + 1 := fun g v fs n h => Nat.le_trans (length_putF g v fs) (by omega)
  have a1 := l1 "n" (.int 0) [] 0 (Nat.le_refl _)
  refine ⟨_, rfl, p, CB, dx, [], rfl, hp, T.cl, T.n, (by show 0 < 1000; decide), ?_⟩
  refine ⟨Nat.zero_le _, fun ta hta => ?_⟩
  have n1 : ta ≠ p := fun e => by rw [e, upd_same] at hta; cases hta
  rw [upd_ne n1] at hta
  refine ⟨_, rfl, p, CB, dx, _, rfl, by rw [upd_ne n1.symm]; exact upd_same, T.cl, T.tests, (by omega), ?_⟩
  have a2 := l1 "tests" (.ref ta) _ 1 a1
  refine ⟨_, rfl, p, CB, dx, _, rfl, upd_same, T.cl, T.halving, (by omega), ?_⟩
  have a3 := l1 "halving" .non _ 2 a2
  rw [upd_upd]
  refine ⟨_, rfl, p, CB, dx, _, rfl, upd_same, T.cl, T.enough, (by omega), ?_⟩
  have a4 := l1 "enough" (.int 0) _ 3 a3
  rw [upd_upd]
  intro kd hkd
  have n2 : kd ≠ p := fun e => by rw [e, upd_same] at hkd; cases hkd
  rw [upd_ne n2] at hkd
  have n3 : kd ≠ ta := fun e => by rw [e, upd_same] at hkd; cases hkd
  rw [upd_ne n3, upd_ne n2] at hkd
  refine ⟨_, rfl, p, CB, dx, _, rfl, by rw [upd_ne n2.symm]; exact upd_same, T.cl, T.kept, (by omega), ?_⟩
  have a5 := l1 "kept" (.ref kd) _ 4 a4
  have bt : But p H _ := fun b o eb b1 => by
    show upd (upd (upd (upd (upd H p (.ins CB dx (putF "n" (.int 0) []))) ta (.lst [])) p (.ins CB dx (putF "enough" (.int 0) (putF "halving" .non (putF "tests" (.ref ta) (putF "n" (.int 0) [])))))) kd (.dT [])) p (.ins CB dx (putF "kept" (.ref kd) (putF "enough" (.int 0) (putF "halving" .non (putF "tests" (.ref ta) (putF "n" (.int 0) [])))))) b = some o
    rw [upd_ne b1, upd_ne (ne_of_none eb hkd), upd_ne b1, upd_ne (ne_of_none eb hta), upd_ne b1]
    exact eb
  refine q _ ⟨dx, ta, kd, _, [], 0, [], .non, upd_same, ⟨fun g => ?_, a5⟩, ?_, fun x hx => (by cases hx), rfl, ⟨fun x hx => (by cases hx), fun x hx => (by cases hx)⟩, Nat.zero_le _, Nat.zero_le _, Nat.zero_le _, fun j hj => (by omega), ?_, Nat.zero_le _, fun c d v hv => (by cases hv), rfl, ⟨np, fun z => tr _ z hta, fun z => tr _ z hkd⟩, (Kp.but np bt).tr tr⟩ bt
  · rw [lookup_putF, lookup_putF, lookup_putF, lookup_putF, lookup_putF]
    unfold bfl
    by_cases c1 : g = "n"
    · subst c1
      rw [if_neg (by decide +kernel), if_neg (by decide +kernel), if_neg (by decide +kernel), if_neg (by decide +kernel), if_pos rfl, if_pos rfl]
      rfl
    · by_cases c2 : g = "tests"
      · subst c2
        rw [if_neg (by decide +kernel), if_neg (by decide +kernel), if_neg (by decide +kernel), if_pos rfl, if_neg (by decide +kernel), if_pos rfl]
      · by_cases c3 : g = "halving"
        · subst c3
          rw [if_neg (by decide +kernel), if_neg (by decide +kernel), if_pos rfl, if_neg (by decide +kernel), if_neg (by decide +kernel), if_pos rfl]
        · by_cases c4 : g = "enough"
          · subst c4
            rw [if_neg (by decide +kernel), if_pos rfl, if_neg (by decide +kernel), if_neg (by decide +kernel), if_neg (by decide +kernel), if_pos rfl]
            rfl
          · rw [if_neg c1, if_neg c1, if_neg c2, if_neg c2, if_neg c3, if_neg c3, if_neg c4, if_neg c4]
            rfl
  · rw [upd_ne n1, upd_ne n3.symm, upd_ne n1]
    exact upd_same
  · rw [upd_ne n2]
    exact upd_same
end
section
variable {s : Sh12.St} {TS : List (Nat × Nat)} {d : Nat}
theorem due6 (hd : d ≤ 4) : Sh12Neutral.step s [[6, (d : Int)]] = (s, [0, ((Sh12.explains s.n s.tests d).length : Int)]) := by
  have e : Sh12Neutral.step s [[6, (d : Int)]] = (s, let x := s.tells (.sets (d : Int).toNat); if x.1 < 0 then [x.1] else [x.1, ((x.2.1 : Nat) : Int)]) := rfl
  rw [e, Int.toNat_natCast]
  have e2 : s.tells (.sets d) = (0, (Sh12.explains s.n s.tests d).length, []) := by
    unfold Sh12.St.tells
    simp only
    rw [if_neg (by omega)]
  rw [e2]
  rfl
theorem due7 (hd : d ≤ 4) : Sh12Neutral.step s [[7, (d : Int)]] = (s, Sh12Neutral.told (match Sh12.explains s.n s.tests d with
    | [] => Sh12.num (-4)
    | x :: _ => Sh12.set1 (Sh12.bits x))) := by
  have e : Sh12Neutral.step s [[7, (d : Int)]] = (s, Sh12Neutral.told (s.tells (.least (d : Int).toNat))) := rfl
  rw [e, Int.toNat_natCast]
  have e2 : s.tells (.least d) = (match Sh12.explains s.n s.tests d with
    | [] => Sh12.num (-4)
    | x :: _ => Sh12.set1 (Sh12.bits x)) := by
    unfold Sh12.St.tells
    simp only
    rw [if_neg (by omega)]
    rfl
  rw [e2]
theorem due8 (hd : d ≤ 4) : Sh12Neutral.step s [[8, (d : Int)]] = (s, if Sh12.explains s.n s.tests d = [] then [-4] else
    0 :: (((List.range 1024).filter fun i => decide (i < s.n) && (Sh12.explains s.n s.tests d).all fun x => !x.contains i).map fun (n : Nat) => (n : Int)) ++ ((1024 : Int) :: (((List.range 1024).filter fun i => decide (i < s.n) && (Sh12.explains s.n s.tests d).all fun x => x.contains i).map fun (n : Nat) => (n : Int)))) := by
  have e : Sh12Neutral.step s [[8, (d : Int)]] = (s, let x := s.tells (.certain (d : Int).toNat)
      if x.1 < 0 then [x.1] else x.1 :: (match x.2.2 with
        | [p, q] => Sh12Neutral.ints (Sh12.members p) ++ ((1024 : Int) :: Sh12Neutral.ints (Sh12.members q))
        | _ => [])) := rfl
  rw [e, Int.toNat_natCast]
  have e2 : s.tells (.certain d) = (match Sh12.explains s.n s.tests d with
    | [] => Sh12.num (-4)
    | l => (0, 0, [Sh12.wide fun (i : Nat) => decide (i < s.n) && l.all (fun (x : List Nat) => !x.contains i), Sh12.wide fun (i : Nat) => decide (i < s.n) && l.all (fun (x : List Nat) => x.contains i)])) := by
    unfold Sh12.St.tells
    simp only
    rw [if_neg (by omega)]
    rfl
  rw [e2]
  cases h : Sh12.explains s.n s.tests d with
  | nil => rfl
  | cons a b =>
    simp only [reduceCtorEq, if_false, Ex.members_wide]
    rfl
theorem due_none (hn : s.n ≤ 1024) (ht : s.tests = TS.map Ex.tst) (ok : Ex.TOk s.n TS) (hd : d ≤ 4) (hc : ¬ Cv.Cov (Ex.susp s.n TS) (Ex.doubt s.n TS) d) :
    Sh12Neutral.step s [[6, (d : Int)]] = (s, [0, 0]) ∧ Sh12Neutral.step s [[7, (d : Int)]] = (s, [-4]) ∧ Sh12Neutral.step s [[8, (d : Int)]] = (s, [-4]) := by
  have e := (Ex.explains_nil hn ok).mpr hc
  rw [← ht] at e
  rw [due6 hd, due7 hd, due8 hd, e]
  exact ⟨rfl, rfl, rfl⟩
theorem due_least (hn : s.n ≤ 1024) (ht : s.tests = TS.map Ex.tst) (ok : Ex.TOk s.n TS) (hd : d ≤ 4) {k : Nat} {x : Nat} {y : List Nat} (hk : k ≤ d) (hf : Ex.First (Ex.susp s.n TS) (Cv.M (Ex.doubt s.n TS)) k y) (hno : ∀ j, j < k → ¬ Cv.Cov (Ex.susp s.n TS) (Ex.doubt s.n TS) j) (hx : ∀ i, x.testBit i = y.contains i) :
    x < 2 ^ 1024 ∧ Sh12Neutral.step s [[7, (d : Int)]] = (s, ((Cr.ms 1024 x).length : Int) :: (Cr.ms 1024 x).map fun (n : Nat) => (n : Int)) := by
  obtain ⟨r, e⟩ := Ex.explains_first hn ok hk hf hno
  rw [← ht] at e
  obtain ⟨r', hr'⟩ := hf
  have hm : y ∈ Cv.HS (Ex.susp s.n TS) (Cv.M (Ex.doubt s.n TS)) k := by rw [hr']; exact List.mem_cons_self
  refine ⟨Ex.lt_of_bits fun i hi => ?_, ?_⟩
  · rw [hx i, List.contains_iff_mem] at hi
    exact (Cv.mem_M.mp ((Cv.mem_HS.mp hm).1.subset hi)).1
  · rw [due7 hd, e]
    show (s, Sh12Neutral.told (Sh12.set1 (Sh12.bits y))) = _
    unfold Sh12.bits
    rw [Ex.told_wide]
    have : (List.range 1024).filter (fun i => y.contains i) = Cr.ms 1024 x := by
      unfold Cr.ms
      exact List.filter_congr fun i _ => (hx i).symm
    rw [this]
theorem due_certain (hn : s.n ≤ 1024) (ht : s.tests = TS.map Ex.tst) (ok : Ex.TOk s.n TS) (hd : d ≤ 4) (hc : Cv.Cov (Ex.susp s.n TS) (Ex.doubt s.n TS) d) {a b : Nat} (ha : ∀ i, a.testBit i = true ↔ InS (Ex.susp s.n TS) (Ex.doubt s.n TS) d i) (hb : ∀ i, b.testBit i = true ↔ InA (Ex.susp s.n TS) (Ex.doubt s.n TS) d i) :
    (2 ^ s.n - 1) ^^^ a < 2 ^ 1024 ∧ b < 2 ^ 1024 ∧ Sh12Neutral.step s [[8, (d : Int)]] = (s, 0 :: ((Cr.ms 1024 ((2 ^ s.n - 1) ^^^ a)).map fun (n : Nat) => (n : Int)) ++ ((1024 : Int) :: (Cr.ms 1024 b).map fun (n : Nat) => (n : Int))) := by
  have hne : ¬ Sh12.explains s.n s.tests d = [] := fun z => by
    rw [ht] at z
    exact (Ex.explains_nil hn ok).mp z hc
  have si := fun i => Ex.some_iff hn ok (d := d) (i := i)
  have ai := fun i => Ex.all_iff hn ok (d := d) (i := i)
  rw [← ht] at si ai
  have lt : ∀ i, InS (Ex.susp s.n TS) (Ex.doubt s.n TS) d i → i < s.n := fun i ⟨y, _, h2, _, h4⟩ => Cv.bit_lt (Ex.doubt_lt ok) (h2 i h4)
  have lta : ∀ i, InA (Ex.susp s.n TS) (Ex.doubt s.n TS) d i → i < s.n := fun i h => by
    obtain ⟨y, h1, h2, h3⟩ := hc
    exact Cv.bit_lt (Ex.doubt_lt ok) (h2 i (h y h1 h2 h3))
  have ba : ∀ i, ((2 ^ s.n - 1) ^^^ a).testBit i = (decide (i < s.n) && (Sh12.explains s.n s.tests d).all fun x => !x.contains i) := fun i => by
    rw [Nat.testBit_xor, Nat.testBit_two_pow_sub_one]
    have e : ((Sh12.explains s.n s.tests d).all fun x => !x.contains i) = !a.testBit i := by
      rw [Bool.eq_iff_iff, List.all_eq_true, Bool.not_eq_true', Bool.eq_false_iff, ne_eq, ha i]
      unfold InS
      rw [← si i]
      constructor
      · rintro h ⟨y, hy, hi⟩
        have := h y hy
        rw [List.contains_iff_mem.mpr hi] at this
        cases this
      · intro h y hy
        rw [Bool.not_eq_true', Bool.eq_false_iff, ne_eq, List.contains_iff_mem]
        exact fun hi => h ⟨y, hy, hi⟩
    rw [e]
    by_cases hi : i < s.n
    · rw [decide_eq_true hi]
      cases a.testBit i <;> rfl
    · rw [decide_eq_false hi]
      have : a.testBit i = false := Bool.eq_false_iff.mpr fun z => hi (lt i ((ha i).mp z))
      rw [this]
      rfl
  have bb : ∀ i, b.testBit i = (decide (i < s.n) && (Sh12.explains s.n s.tests d).all fun x => x.contains i) := fun i => by
    rw [Bool.eq_iff_iff, hb i, Bool.and_eq_true, decide_eq_true_iff, List.all_eq_true]
    constructor
    · intro h
      exact ⟨lta i h, fun y hy => List.contains_iff_mem.mpr ((ai i).mpr h y hy)⟩
    · rintro ⟨_, h⟩
      exact (ai i).mp fun y hy => List.contains_iff_mem.mp (h y hy)
  refine ⟨Ex.up hn (Ex.lt_of_bits fun i hi => ?_), Ex.up hn (Ex.lt_of_bits fun i hi => lta i ((hb i).mp hi)), ?_⟩
  · rw [ba i, Bool.and_eq_true] at hi
    exact of_decide_eq_true hi.1
  · rw [due8 hd, if_neg hne]
    unfold Cr.ms
    rw [List.filter_congr (fun i _ => ba i), List.filter_congr (fun i _ => bb i)]
end
section
variable {l l' : List Nat} {c : Nat}
theorem cov_mem (h : ∀ x, x ∈ l' ↔ x ∈ l) {j : Nat} : Cv.Cov l' c j ↔ Cv.Cov l c j :=
  ⟨fun ⟨s, h1, h2, h3⟩ => ⟨s, h1, h2, fun p hp => h3 p ((h p).mpr hp)⟩, fun ⟨s, h1, h2, h3⟩ => ⟨s, h1, h2, fun p hp => h3 p ((h p).mp hp)⟩⟩
theorem inS_mem (h : ∀ x, x ∈ l' ↔ x ∈ l) {j i : Nat} : InS l' c j i ↔ InS l c j i :=
  ⟨fun ⟨s, h1, h2, h3, h4⟩ => ⟨s, h1, h2, fun p hp => h3 p ((h p).mpr hp), h4⟩, fun ⟨s, h1, h2, h3, h4⟩ => ⟨s, h1, h2, fun p hp => h3 p ((h p).mp hp), h4⟩⟩
theorem inA_mem (h : ∀ x, x ∈ l' ↔ x ∈ l) {j i : Nat} : InA l' c j i ↔ InA l c j i :=
  ⟨fun k s h1 h2 h3 => k s h1 h2 fun p hp => h3 p ((h p).mp hp), fun k s h1 h2 h3 => k s h1 h2 fun p hp => h3 p ((h p).mpr hp)⟩
theorem first_mem (h : ∀ x, x ∈ l' ↔ x ∈ l) {L : List Nat} {k : Nat} {s : List Nat} (f : Ex.First l' L k s) : Ex.First l L k s := by
  unfold Ex.First at f ⊢
  rw [← Cv.HS_mem h]
  exact f
end
theorem sql_but {K : PySem.W.Frag} {p a C dx : Addr} {H H' : Hp} {fs : List (Str × V)} {xs : List V} (hp : H p = some (.ins C dx fs)) (b : But p H H') (q : SqL K H a xs) : SqL K H' a xs := by
  rcases q with (q | ⟨o, q⟩) | q
  · exact .inl (.inl (b _ _ q (kind_ne q hp (by simp))))
  · exact .inl (.inr ⟨o, b _ _ q (kind_ne q hp (by simp))⟩)
  · exact .inr q
theorem CAt.but {K : PySem.W.Frag} {p C C' x dx : Addr} {H H' : Hp} {fs : List (Str × V)} {c : Nat} {l : List Nat} (h : CAt K C H x c l) (hp : H p = some (.ins C' dx fs)) (n : x ≠ p) (b : But p H H') : CAt K C H' x c l := by
  obtain ⟨dx, pa, fs, h1, h2, h3, h4, h5⟩ := h
  exact ⟨dx, pa, fs, b _ _ h1 n, h2, h3, h4, sql_but hp b h5⟩
def spFind (CB CH : Addr) : Sp := fun vs H Q _ => ∃ (pr : Addr → Prop) (N : Nat) (p : Addr) (s : Sh12.St) (c d : Nat), vs = [.ref p, .int c, .int d] ∧ (c = 6 ∨ c = 7 ∨ c = 8) ∧ d ≤ 4 ∧ BS CB CH pr N H p s ∧ Ans CB CH pr N H p (Sh12Neutral.step s [[(c : Int), (d : Int)]]) Q
theorem int_ne {a b : Int} (h : ¬ a = b) : decide (V.int a = V.int b) = false := decide_eq_false fun z => h (by injection z)
theorem int_eq {a b : Int} (h : a = b) : decide (V.int a = V.int b) = true := decide_eq_true (by rw [h])
section
variable {P : Program} {w : World} {K : PySem.W.Frag} {mg : Str → Option Value} {base : Heap} {f CB CH CC : Addr} {fd : FuncData}
theorem ok_find (T : TxtB K CB) {t1 t2 t3 t4 : Tok} (m_SETS : mg "SETS" = some (.int 6 t1)) (m_LEAST : mg "LEAST" = some (.int 7 t2)) (m_NONE_FITS : mg "NONE_FITS" = some (.int (-4) t3)) (m_BETWEEN : mg "BETWEEN" = some (.int 1024 t4)) (m_max : mg "max" = none)
    (K_Covers : KCallee P w K mg base 4 CC "Covers" (["self", "crowd", "pools"] : List Str) (spCovers K CC)) (M_Covers_size_of : MCallee P w K mg base 1 CC "size_of" (["self", "crowd"] : List Str) (spSize CC)) (M_Covers_smallest : MCallee P w K mg base 9 CC "smallest" (["self", "fewest", "most"] : List Str) (spSmallest K CC))
    (M_Covers_how_many : MCallee P w K mg base 9 CC "how_many" (["self", "most"] : List Str) (spHow K CC)) (M_Covers_least : MCallee P w K mg base 9 CC "least" (["self", "size"] : List Str) (spLeast K CC)) (M_Covers_in_some : MCallee P w K mg base 9 CC "in_some" (["self", "smallest", "most"] : List Str) (spInSome K CC)) (M_Covers_in_all : MCallee P w K mg base 9 CC "in_all" (["self", "smallest", "most"] : List Str) (spInAll K CC))
    (M_Book_everybody : MCallee P w K mg base 1 CB "everybody" (["self"] : List Str) (spEvery CB CH)) (M_Book_certainly_well : MCallee P w K mg base 1 CB "certainly_well" (["self"] : List Str) (spWell CB CH)) (M_Book_suspects : MCallee P w K mg base 2 CB "suspects" (["self"] : List Str) (spSusp CB CH))
    (C_tell : Callee P w K mg base 2 "tell" (["crowd"] : List Str) spTell) (C_people_of : Callee P w K mg base 1 "people_of" (["crowd"] : List Str) spPeopleOf)
    (F : Fun K "find_answer" "Book.find_answer" s_Book_find_answer f fd) : FnOk P w K mg base CX0 10 f fd (["self", "call", "d"] : List Str) (spFind CB CH) := by
  refine F.ok sc_Book_find_answer (fun vs H Q E h => ?_) (fun cdv A outer s H vs Q E hr h => ?_)
  · obtain ⟨pr, N, p, s, c, d, rfl, _⟩ := h
    rfl
  obtain ⟨pr, N, p, s, c, d, rfl, hc, hd, hB, q⟩ := h
  obtain ⟨dx, ta, kd, fs, es, e, kvs, hv, I⟩ := id hB
  refine ⟨_, (pss_cons (ps_sw (i := 3) sc_Book_find_answer.nd (pe_makeC K_Covers (hr.mono (by omega)) (by rfl) (pa_cons (pe_op op_xor (pe_methC0 (pv 0) M_Book_everybody (hr.mono (by omega))) (pe_methC0 (pv 0) M_Book_certainly_well (hr.mono (by omega)))) (pa_cons (pe_methC0 (pv 0) M_Book_suspects (hr.mono (by omega))) pa_nil))))
   (pss_cons (ps_sw (i := 4) sc_Book_find_answer.nd (pe_methC (pv 3) M_Covers_smallest (hr.mono (by omega)) (pa_cons (pe_fld (pv 0) rfl) (pa_cons (pv 2) pa_nil))))
   (pss_cons (ps_if (pt_cmpR op_isN (pv 4) pe_non (nomark _)) (pss_cons (ps_fld (pv 0) (pe_callB (call_max2 rfl) (by rfl) m_max PyProof.Rows.boot_max (pa_cons (pe_fld (pv 0) rfl) (pa_cons (pe_op op_add (pv 2) pe_int) pa_nil))) rfl)
   (pss_one (ps_ret (pe_ifExp (pt_cmpR op_eq (pv 1) (pe_globI (by rfl) m_SETS) (nomark _)) (pe_lst (pa_cons pe_int (pa_cons pe_int pa_nil))) (pe_lst (pa_cons (pe_globI (by rfl) m_NONE_FITS) pa_nil)))))) pss_nil)
   (pss_cons (ps_fld (pv 0) (pe_methC (pv 3) M_Covers_size_of (hr.mono (by omega)) (pa_cons (pv 4) pa_nil)) rfl)
   (pss_cons (ps_if (pt_cmpR op_eq (pv 1) (pe_globI (by rfl) m_SETS) (nomark _)) (pss_one (ps_ret (pe_lst (pa_cons pe_int (pa_cons (pe_methC (pv 3) M_Covers_how_many (hr.mono (by omega)) (pa_cons (pv 2) pa_nil)) pa_nil))))) pss_nil)
   (pss_cons (ps_if (pt_cmpR op_eq (pv 1) (pe_globI (by rfl) m_LEAST) (nomark _)) (pss_one (ps_ret (pe_callC C_tell (hr.mono (by omega)) (by rfl) (pa_cons (pe_methC (pv 3) M_Covers_least (hr.mono (by omega)) (pa_cons (pe_fld (pv 0) rfl) pa_nil)) pa_nil)))) pss_nil)
   (pss_cons (ps_sw (i := 5) sc_Book_find_answer.nd (pe_methC (pv 3) M_Covers_in_some (hr.mono (by omega)) (pa_cons (pv 4) (pa_cons (pv 2) pa_nil))))
   (pss_cons (ps_sw (i := 6) sc_Book_find_answer.nd (pe_methC (pv 3) M_Covers_in_all (hr.mono (by omega)) (pa_cons (pv 4) (pa_cons (pv 2) pa_nil))))
   (pss_one (ps_ret (pe_op op_cat (pe_op op_cat (pe_op op_cat (pe_lst (pa_cons pe_int pa_nil)) (pe_callC C_people_of (hr.mono (by omega)) (by rfl) (pa_cons (pe_op op_xor (pe_methC0 (pv 0) M_Book_everybody (hr.mono (by omega))) (pv 5)) pa_nil))) (pe_lst (pa_cons (pe_globI (by rfl) m_BETWEEN) pa_nil))) (pe_callC C_people_of (hr.mono (by omega)) (by rfl) (pa_cons (pv 6) pa_nil))))))))))))), ?_⟩
  have dn := Ex.doubt_lt I.ok
  have dlt := Ex.up I.ppl dn
  have dno := due_none (d := d) I.ppl I.tests I.ok hd
  have dle := fun {k x : Nat} {y : List Nat} => due_least (d := d) (k := k) (x := x) (y := y) I.ppl I.tests I.ok hd
  have dce := fun hc {a b : Nat} => due_certain (d := d) I.ppl I.tests I.ok hd hc (a := a) (b := b)
  have dse := due6 (s := s) hd
  rw [I.tests, Ex.explains_len I.ppl I.ok] at dse
  have slt : ∀ x ∈ Ex.susp s.n (tso es), x < 2 ^ 1024 := fun x hx => Ex.susp_lt I.ppl I.ok hx
  have sll : (Ex.susp s.n (tso es)).length ≤ 1024 := by
    unfold Ex.susp
    rw [List.length_map]
    refine Nat.le_trans (List.length_filter_le _ _) ?_
    unfold tso
    rw [List.length_map]
    exact I.few
  have dx0 : Builtin.bitXor ((2 ^ s.n - 1 : Nat) : Int) ((Ex.wl (tso es) : Nat) : Int) = ((Ex.doubt s.n (tso es) : Nat) : Int) := Cr.xor_nat _ _
  have eno := I.enough
  generalize hsu : Ex.susp s.n (tso es) = su at *
  generalize hdo : Ex.doubt s.n (tso es) = dou at *
  refine ⟨_, rfl, p, dx, fs, rfl, I.here, I.bf.no (by decide +kernel), pr, N, p, s, rfl, hB, _, rfl, p, dx, fs, rfl, I.here, I.bf.no (by decide +kernel), pr, N, p, s, dx, ta, kd, fs, es, e, kvs, hv, rfl, I, _, _, rfl, rfl, _, rfl, p, dx, fs, rfl, I.here, I.bf.no (by decide +kernel), pr, N, p, s, dx, ta, kd, fs, es, e, kvs, hv, rfl, I, fun a H1 s1 f1 h1 => fun x dx' hx hdx nd => ?_⟩
  rw [hsu] at h1
  have sx : Same H1 (upd (upd H1 dx' (.own x)) x (.ins CC dx' [])) := (same_new hdx _).trans (same_new (by rw [upd_ne nd.symm]; exact hx) _)
  refine ⟨x, dx', a, dou, su, (by rw [← dx0]; rfl), upd_same, SqL.of (sx _ _ h1), ne_of_none h1 hx, by omega, dlt, slt, fun H2 l' hC hmem hlen b2 => ⟨rfl, ?_⟩⟩
  have s2 : Same H H2 := fun b o eb => b2 b o (sx _ _ (s1 _ _ eb)) (ne_of_none (s1 _ _ eb) hx)
  have I2 := I.same s2
  have nxp : x ≠ p := ne_of_none' I.here (s1.free hx)
  have cb : My.CB l' dou := ⟨by omega, dlt⟩
  obtain ⟨dxc, pac, fsc, hx2, cm, _⟩ := id hC
  refine ⟨_, rfl, x, dxc, fsc, rfl, hx2, cm.m9, _, rfl, p, CB, dx, fs, _, rfl, I2.here, T.cl, T.enough, I.bf.enough, _, rfl, x, l', dou, e, d, rfl, hC, cb, hd, I.e5, fun j hj z => eno j hj ((cov_mem hmem).mp z), fun H3 s3 => ⟨fun no => ?_, fun k r hk good hno => ?_⟩⟩
  · -- nothing
    have no : ¬ Cv.Cov su dou d := fun z => no ((cov_mem hmem).mpr z)
    have s13 := s2.trans s3
    have I3 := I.same s13
    obtain ⟨d6, d7, d8⟩ := dno no
    refine ⟨_, rfl, rfl, _, rfl, ?_⟩
    refine iteT ⟨_, rfl, p, CB, dx, fs, _, rfl, I3.here, T.cl, T.enough, I.bf.enough, _, rfl, _, _, rfl, rfl, _, _, rfl, _, rfl, p, CB, dx, fs, rfl, I3.here, T.cl, T.enough, (by have := I.bf.len; omega), ?_⟩
    have em : (if (d : Int) + 1 > (e : Int) then (d : Int) + 1 else (e : Int)) = ((max e (d + 1) : Nat) : Int) := by
      split <;> omega
    rw [em]
    have e5 := I.e5
    have bt : But p H3 (upd H3 p (.ins CB dx (putF "enough" (.int (max e (d + 1) : Nat)) fs))) := (But.refl p H3).put _
    have I4 := I3.own bt upd_same (I.bf.putE (max e (d + 1))) (by omega) fun j hj => by
      rw [hsu, hdo]
      intro z
      rcases Nat.lt_or_ge j e with w | w
      · exact eno j w z
      · exact no (z.sub (fun _ h => h) (by omega))
    have k4 : Kp pr H _ := (Kp.same s13).trans (Kp.but I.np.1 bt)
    have B4 : BS CB CH pr N _ p s := ⟨_, _, _, _, _, _, _, _, I4⟩
    refine ⟨_, rfl, rfl, _, rfl, ?_⟩
    by_cases c6 : c = 6
    · subst c6
      rw [int_eq (show ((6 : Nat) : Int) = 6 from rfl)]
      have d6 : Sh12Neutral.step s [[((6 : Nat) : Int), (d : Int)]] = (s, [0, 0]) := d6
      rw [d6] at q
      exact iteT ⟨(by show 2 ≤ sizeLine; decide), fun r hr => q.new B4 k4 rfl hr⟩
    · rw [int_ne (by omega)]
      have d7 : Sh12Neutral.step s [[(c : Int), (d : Int)]] = (s, [-4]) := by
        rcases hc with hc | hc | hc
        · exact absurd hc c6
        · rw [hc]; exact d7
        · rw [hc]; exact d8
      rw [d7] at q
      exact iteF ⟨one_le _, fun r hr => q.new B4 k4 rfl hr⟩
  · -- a smallest set r, of k
    have szr : Ms.sz r = k := good_exact dlt good hno
    have rlt : r < 2 ^ 1024 := good.lt dlt
    have cvk := good.cov dlt
    have s13 := s2.trans s3
    have I3 := I.same s13
    have hx3 := s3 _ _ hx2
    have hnosu : ∀ j, j < k → ¬ Cv.Cov su dou j := fun j hj z => hno j hj ((cov_mem hmem).mpr z)
    refine ⟨_, rfl, rfl, _, rfl, ?_⟩
    refine iteF ⟨_, rfl, x, dxc, fsc, rfl, hx3, cm.m1, _, rfl, x, r, rfl, ⟨dxc, fsc, hx3, cm⟩, rlt, _, rfl, p, CB, dx, fs, rfl, I3.here, T.cl, T.enough, (by have := I.bf.len; omega), ?_⟩
    rw [szr]
    have bt : But p H3 (upd H3 p (.ins CB dx (putF "enough" (.int (k : Nat)) fs))) := (But.refl p H3).put _
    have I4 := I3.own bt upd_same (I.bf.putE k) (by omega) fun j hj => by
      rw [hsu, hdo]
      exact hnosu j hj
    have k4 : Kp pr H _ := (Kp.same s13).trans (Kp.but I.np.1 bt)
    have B4 : BS CB CH pr N _ p s := ⟨_, _, _, _, _, _, _, _, I4⟩
    have hC4 := (hC.same s3).but I3.here nxp bt
    have hx4 := bt _ _ hx3 nxp
    have g1 := I.bf.putE k
    generalize upd H3 p (.ins CB dx (putF "enough" (.int (k : Nat)) fs)) = H4 at *
    refine ⟨_, rfl, rfl, _, rfl, ?_⟩
    by_cases c6 : c = 6
    · subst c6
      rw [int_eq (show ((6 : Nat) : Int) = 6 from rfl)]
      have d6 : Sh12Neutral.step s [[((6 : Nat) : Int), (d : Int)]] = (s, [0, ((Cv.hs su (Cv.M dou) d : Nat) : Int)]) := dse
      rw [d6] at q
      refine iteT ⟨_, rfl, x, dxc, fsc, rfl, hx4, cm.m2, _, rfl, x, l', dou, d, rfl, hC4, cb, hd, fun H5 s5 => ⟨(by show 2 ≤ sizeLine; decide), fun r hr => q.new (B4.same s5) (k4.trans (Kp.same s5)) ?_ hr⟩⟩
      rw [Cv.hs_mem hmem]
      rfl
    rw [int_ne (by omega)]
    refine iteF ⟨_, rfl, rfl, _, rfl, ?_⟩
    by_cases c7 : c = 7
    · subst c7
      rw [int_eq (show ((7 : Nat) : Int) = 7 from rfl)]
      refine iteT ⟨_, rfl, x, dxc, fsc, rfl, hx4, cm.m10, _, rfl, p, CB, dx, _, _, rfl, I4.here, T.cl, T.enough, g1.enough, x, l', dou, k, rfl, hC4, cb, by omega, cvk, hno, fun xx ss H5 s5 hf hb => ?_⟩
      obtain ⟨xlt, d7⟩ := dle hk (first_mem hmem hf) hnosu hb
      have d7 : Sh12Neutral.step s [[((7 : Nat) : Int), (d : Int)]] = _ := d7
      rw [d7] at q
      refine ⟨xx, 1024, rfl, xlt, by decide, fun r H6 s6 f6 h6 => q r H6 ((B4.same s5).same s6) ((k4.trans (Kp.same s5)).trans (Kp.same s6)) (fun z => (B4.same s5).tr r z f6) ?_⟩
      rw [h6]
      unfold vN
      rw [List.map_cons, List.map_cons, List.map_map]
      rfl
    · have c8 : c = 8 := by omega
      subst c8
      rw [int_ne (by omega)]
      refine iteF ⟨_, rfl, x, dxc, fsc, rfl, hx4, cm.m11, _, rfl, _, rfl, x, l', dou, k, r, d, rfl, hC4, cb, hk, hd, good, hno, fun xs H5 s5 hxs => ?_⟩
      refine ⟨_, rfl, x, dxc, fsc, rfl, s5 _ _ hx4, cm.m12, _, rfl, _, rfl, x, l', dou, r, d, rfl, hC4.same s5, cb, hd, ⟨good.1, Nat.le_trans good.2.1 hk, good.2.2⟩, fun xa H6 s6 hxa => ?_⟩
      have cvd : Cv.Cov su dou d := (cov_mem hmem).mp (cvk.sub (fun _ h => h) hk)
      obtain ⟨lt1, lt2, d8⟩ := dce cvd (fun i => (hxs i).trans (inS_mem hmem)) (fun i => (hxa i).trans (inA_mem hmem))
      have d8 : Sh12Neutral.step s [[((8 : Nat) : Int), (d : Int)]] = _ := d8
      rw [d8] at q
      have s46 := s5.trans s6
      refine ⟨one_le _, fun r0 hr0 => ?_⟩
      have z0 := same_new hr0 (.lst [V.int 0])
      have I7 := I4.same (s46.trans z0)
      refine ⟨_, rfl, p, dx, _, rfl, I7.here, g1.no (by decide +kernel), pr, N, p, s, rfl, ⟨_, _, _, _, _, _, _, _, I7⟩, _, rfl, _, _, rfl, rfl, (2 ^ s.n - 1) ^^^ xs, 1024, (by rw [← Cr.xor_nat]; rfl), lt1, by decide, fun r1 H8 s8 f8 h8 => ?_⟩
      have m1 := Cr.ms_le 1024 ((2 ^ s.n - 1) ^^^ xs)
      have m2 := Cr.ms_le 1024 xa
      refine ⟨r0, r1, _, _, rfl, rfl, s8 _ _ upd_same, h8, Nat.le_of_lt (lt_line (by rw [vN_len]; show 1 + _ ≤ _; omega)), fun r2 hr2 => ?_⟩
      have z2 := same_new hr2 (.lst ([V.int 0] ++ vN (Cr.ms 1024 ((2 ^ s.n - 1) ^^^ xs))))
      refine ⟨one_le _, fun r3 hr3 => ?_⟩
      have z3 := same_new hr3 (.lst [V.int 1024])
      refine ⟨r2, r3, _, _, rfl, rfl, z3 _ _ upd_same, upd_same, Nat.le_of_lt (lt_line (by rw [List.length_append, vN_len]; show 1 + _ + 1 ≤ _; omega)), fun r4 hr4 => ?_⟩
      have z4 := same_new hr4 (.lst ([V.int 0] ++ vN (Cr.ms 1024 ((2 ^ s.n - 1) ^^^ xs)) ++ [V.int 1024]))
      refine ⟨_, rfl, xa, 1024, rfl, lt2, by decide, fun r5 H9 s9 f9 h9 => ?_⟩
      refine ⟨r4, r5, _, _, rfl, rfl, s9 _ _ upd_same, h9, Nat.le_of_lt (lt_line (by rw [List.length_append, List.length_append, vN_len, vN_len]; show 1 + _ + 1 + _ ≤ _; omega)), fun r6 hr6 => ?_⟩
      have s49 := (((((s46.trans z0).trans s8).trans z2).trans z3).trans z4).trans s9
      refine q.new (B4.same s49) (k4.trans (Kp.same s49)) ?_ hr6
      unfold vN
      rw [List.map_append, List.map_cons, List.map_cons, List.map_map, List.map_map]
      rw [List.append_assoc]
      rfl
end
def spAbout (CB CH : Addr) : Sp := fun vs H Q _ => ∃ (pr : Addr → Prop) (N : Nat) (p : Addr) (s : Sh12.St) (c d : Nat), vs = [.ref p, .int c, .int d] ∧ (c = 6 ∨ c = 7 ∨ c = 8) ∧ N ≤ 100000 ∧ BS CB CH pr N H p s ∧ Ans CB CH pr (N + 1) H p (Sh12Neutral.step s [[(c : Int), (d : Int)]]) Q
theorem due_wrong {s : Sh12.St} {c d : Nat} (hc : c = 6 ∨ c = 7 ∨ c = 8) (hd : 4 < d) : Sh12Neutral.step s [[(c : Int), (d : Int)]] = (s, [-1]) := by
  rcases hc with rfl | rfl | rfl
  · have e : Sh12Neutral.step s [[((6 : Nat) : Int), (d : Int)]] = (s, let x := s.tells (.sets (d : Int).toNat); if x.1 < 0 then [x.1] else [x.1, ((x.2.1 : Nat) : Int)]) := rfl
    have e2 : s.tells (.sets d) = Sh12.num (-1) := by
      unfold Sh12.St.tells
      simp only
      rw [if_pos hd]
    rw [e, Int.toNat_natCast, e2]
    rfl
  · have e : Sh12Neutral.step s [[((7 : Nat) : Int), (d : Int)]] = (s, Sh12Neutral.told (s.tells (.least (d : Int).toNat))) := rfl
    have e2 : s.tells (.least d) = Sh12.num (-1) := by
      unfold Sh12.St.tells
      simp only
      rw [if_pos hd]
    rw [e, Int.toNat_natCast, e2]
    rfl
  · have e : Sh12Neutral.step s [[((8 : Nat) : Int), (d : Int)]] = (s, let x := s.tells (.certain (d : Int).toNat)
      if x.1 < 0 then [x.1] else x.1 :: (match x.2.2 with
        | [p, q] => Sh12Neutral.ints (Sh12.members p) ++ ((1024 : Int) :: Sh12Neutral.ints (Sh12.members q))
        | _ => [])) := rfl
    have e2 : s.tells (.certain d) = Sh12.num (-1) := by
      unfold Sh12.St.tells
      simp only
      rw [if_pos hd]
    rw [e, Int.toNat_natCast, e2]
    rfl
theorem step_stays {s : Sh12.St} {c d : Nat} (hc : c = 6 ∨ c = 7 ∨ c = 8) : (Sh12Neutral.step s [[(c : Int), (d : Int)]]).1 = s := by
  rcases hc with rfl | rfl | rfl <;> rfl
theorem BS.up {CB CH : Addr} {pr : Addr → Prop} {N M : Nat} {H : Hp} {p : Addr} {s : Sh12.St} (h : BS CB CH pr N H p s) (m : N ≤ M) : BS CB CH pr M H p s := by
  obtain ⟨dx, ta, kd, fs, es, e, kvs, hv, I⟩ := h
  exact ⟨dx, ta, kd, fs, es, e, kvs, hv, I.up m⟩
theorem two_le : 2 ≤ sizeLine := by decide
section
variable {P : Program} {w : World} {K : PySem.W.Frag} {mg : Str → Option Value} {base : Heap} {f CB CH : Addr} {fd : FuncData}
theorem ok_about (T : TxtB K CB) {t1 t2 : Tok} (m_WRONG : mg "WRONG" = some (.int (-1) t1)) (m_MOST_ILL : mg "MOST_ILL" = some (.int 4 t2)) (M_Book_find_answer : MCallee P w K mg base 10 CB "find_answer" (["self", "call", "d"] : List Str) (spFind CB CH))
    (F : Fun K "about_covers" "Book.about_covers" s_Book_about_covers f fd) : FnOk P w K mg base CX0 11 f fd (["self", "call", "d"] : List Str) (spAbout CB CH) := by
  refine F.ok sc_Book_about_covers (fun vs H Q E h => ?_) (fun cdv A outer s H vs Q E hr h => ?_)
  · obtain ⟨pr, N, p, s, c, d, rfl, _⟩ := h
    rfl
  obtain ⟨pr, N, p, s, c, d, rfl, hc, hN, hB, q⟩ := h
  obtain ⟨dx, ta, kd, fs, es, e, kvs, hv, I⟩ := id hB
  refine ⟨_, (pss_cons (ps_if (pt_cmpR op_gt (pv 2) (pe_globI (by rfl) m_MOST_ILL) (nomark _)) (pss_one (ps_ret (pe_lst (pa_cons (pe_globI (by rfl) m_WRONG) pa_nil)))) pss_nil)
   (pss_cons (ps_if (pt_cmp (pc_dnotin (hu_of hr) (pe_tup (pa_cons (pv 1) (pa_cons (pv 2) pa_nil))) (pe_fld (pv 0) rfl)) (by with_unfolding_all rfl)) (pss_one (ps_dput (hu_of hr) (pe_fld (pv 0) rfl) (pe_tup (pa_cons (pv 1) (pa_cons (pv 2) pa_nil))) (pe_methC (pv 0) M_Book_find_answer (hr.mono (by omega)) (pa_cons (pv 1) (pa_cons (pv 2) pa_nil))) rfl)) pss_nil)
   (pss_one (ps_ret (pe_dget (hu_of hr) (pe_fld (pv 0) rfl) (pe_tup (pa_cons (pv 1) (pa_cons (pv 2) pa_nil))) (fun _ _ => rfl)))))), ?_⟩
  refine ⟨_, rfl, _, _, rfl, rfl, _, rfl, ?_⟩
  refine ite2 (fun c0 => ?_) (fun c0 => ?_)
  · have c0 : (4 : Int) < (d : Int) := of_decide_eq_true c0
    exact ⟨one_le _, fun r hr => q.one (hB.up (Nat.le_succ N)) (due_wrong hc (by omega)) rfl hr⟩
  have c0 : ¬ (4 : Int) < (d : Int) := of_decide_eq_false (Bool.eq_false_iff.mpr c0)
  have last : ∀ (H3 : Hp) (dx3 ta3 kd3 : Addr) (fs3 : List (Str × V)) (es3 : Tests) (e3 : Nat) (kvs3 : List (List Key × V)) (hv3 : V) (v : V), BI CB CH pr (N + 1) H3 p s dx3 ta3 kd3 fs3 es3 e3 kvs3 hv3 → Kp pr H H3 → valV kvs3 (keyOf c d) = some v → ∀ t3, H3 t3 = none → 
      DGet (upd H3 t3 (.tup [V.int (c : Int), V.int (d : Int)])) kd3 (.ref t3) (some v) ∧ Q v (upd H3 t3 (.tup [V.int (c : Int), V.int (d : Int)])) := by
    intro H3 dx3 ta3 kd3 fs3 es3 e3 kvs3 hv3 v I3 k3 hval t3 ht3
    have z := same_new ht3 (.tup [V.int (c : Int), V.int (d : Int)])
    obtain ⟨_, r, rfl, nr, er⟩ := I3.kept c d v hval
    refine ⟨hval ▸ DGet.t (z _ _ I3.hkd) upd_same, q r _ ?_ (k3.trans (Kp.same z)) nr (z _ _ er)⟩
    rw [step_stays hc]
    exact ⟨_, _, _, _, _, _, _, _, I3.same z⟩
  refine ⟨_, rfl, _, rfl, two_le, fun t ht => ?_⟩
  have z1 := same_new ht (.tup [V.int (c : Int), V.int (d : Int)])
  have I1 := I.same z1
  refine ⟨_, rfl, p, CB, dx, fs, _, rfl, I1.here, T.cl, T.kept, I.bf.kept, kd, _, rfl, DGet.t (k := keyOf c d) I1.hkd upd_same, _, rfl, ?_⟩
  cases hval : valV kvs (keyOf c d) with
  | some v =>
    refine iteF ⟨_, rfl, p, CB, dx, fs, _, rfl, I1.here, T.cl, T.kept, I.bf.kept, _, rfl, _, rfl, two_le, fun t3 ht3 => ?_⟩
    obtain ⟨a1, a2⟩ := last _ _ _ _ _ _ _ _ _ v (I1.up (Nat.le_succ N)) (Kp.same z1) hval t3 ht3
    exact ⟨kd, v, rfl, a1, a2⟩
  | none =>
    refine iteT ⟨_, rfl, p, dx, fs, rfl, I1.here, I.bf.no (by decide +kernel), _, rfl, _, rfl, pr, N, p, s, c, d, rfl, hc, by omega, hB.same z1, fun r H2 B2 k2 nr e2 => ?_⟩
    rw [step_stays hc] at B2
    obtain ⟨dx2, ta2, kd2, fs2, es2, ee2, kvs2, hv2, I2⟩ := B2
    refine ⟨_, rfl, p, CB, dx2, fs2, _, rfl, I2.here, T.cl, T.kept, I2.bf.kept, _, rfl, _, rfl, two_le, fun t2 ht2 => ?_⟩
    have z2 := same_new ht2 (.tup [V.int (c : Int), V.int (d : Int)])
    have I3 := I2.same z2
    have kl := I2.kl
    refine ⟨kd2, _, rfl, DPut.t (k := keyOf c d) I3.hkd upd_same (lt_line (by omega)), ?_⟩
    have f2 : F2 p kd2 (upd H2 t2 (.tup [V.int (c : Int), V.int (d : Int)])) (upd (upd H2 t2 (.tup [V.int (c : Int), V.int (d : Int)])) kd2 (.dT (L2.putK kvs2 (keyOf c d) (.ref r)))) := fun b o eb _ n => by
      rw [upd_ne n]
      exact eb
    have k4 : Kp pr _ (upd (upd H2 t2 (.tup [V.int (c : Int), V.int (d : Int)])) kd2 (.dT (L2.putK kvs2 (keyOf c d) (.ref r)))) := fun b o hb eb => f2 b o eb (fun z => I3.np.1 (z ▸ hb)) (fun z => I3.np.2.2 (z ▸ hb))
    have I4 : BI CB CH pr (N + 1) (upd (upd H2 t2 (.tup [V.int (c : Int), V.int (d : Int)])) kd2 (.dT (L2.putK kvs2 (keyOf c d) (.ref r)))) p s dx2 ta2 kd2 fs2 es2 ee2 (L2.putK kvs2 (keyOf c d) (.ref r)) hv2 := by
      refine ⟨?_, I3.bf, I3.hta2 f2, I3.hes3 f2.f3, I3.tests, I3.ok, I3.few, I3.ppl, I3.e5, I3.enough, upd_same, Nat.le_trans (length_putK _ _ _) (by omega), ?_, I3.halv3 f2.f3, I3.np, k4.tr I3.tr⟩
      · rw [upd_ne (kind_ne I3.here I3.hkd (by simp))]
        exact I3.here
      · intro c' d' v hv'
        rw [valV_put] at hv'
        by_cases ek : keyOf c' d' = keyOf c d
        · rw [if_pos ek] at hv'
          have : c' = c ∧ d' = d := by
            unfold keyOf at ek
            injection ek with h1 h2
            injection h1 with h1
            injection h2 with h2 _
            injection h2 with h2
            exact ⟨Int.natCast_inj.mp h1, Int.natCast_inj.mp h2⟩
          obtain ⟨rfl, rfl⟩ := this
          refine ⟨hc, r, (Option.some.inj hv').symm, nr, ?_⟩
          have er := z2 _ _ e2
          rw [upd_ne (kind_ne er I3.hkd (by simp))]
          exact er
        · rw [if_neg ek] at hv'
          exact I3.kept2 f2 c' d' v hv'
    refine ⟨_, rfl, p, CB, dx2, fs2, _, rfl, I4.here, T.cl, T.kept, I4.bf.kept, _, rfl, _, rfl, two_le, fun t3 ht3 => ?_⟩
    obtain ⟨a1, a2⟩ := last _ _ _ _ _ _ _ _ _ (.ref r) I4 (((Kp.same z1).trans k2).trans ((Kp.same z2).trans k4)) (by rw [valV_put, if_pos rfl]) t3 ht3
    exact ⟨kd2, .ref r, rfl, a1, a2⟩
end
abbrev s_answer_next : Stmt := top 34
theorem sc_answer_next : FnScope (["line", "book", "call", "positive"] : List Str) (["line", "book"] : List Str) (defScope s_answer_next) := fsc
abbrev s_answers : Stmt := top 33
theorem sc_answers : FnScope (["calls", "line", "book", "said", "answer"] : List Str) (["calls"] : List Str) (defScope s_answers) := fsc
abbrev zs := Sh12Neutral.ints
theorem ints_cons (x : Nat) (r : List Nat) : zs (x :: r) = (x : Int) :: zs r := rfl
theorem ints_len (l : List Nat) : (zs l).length = l.length := List.length_map _
theorem ints_drop (l : List Nat) (k : Nat) : (zs l).drop k = zs (l.drop k) := List.map_drop.symm
theorem ints_take (l : List Nat) (k : Nat) : (zs l).take k = zs (l.take k) := List.map_take.symm
theorem drop_at {l : List Nat} {i : Nat} (h : i < l.length) : ∃ x, l[i]? = some x ∧ l.drop i = x :: l.drop (i + 1) := ⟨l[i], List.getElem?_eq_getElem h, List.drop_eq_getElem_cons h⟩
inductive Par (l : List Nat) (i : Nat) : List (List Int) → Nat → Prop
  | num (x y : Nat) : l[i]? = some x → x ∈ [0, 2, 6, 7, 8, 9, 11] → l[i + 1]? = some y → i + 2 ≤ l.length → Par l i [[(x : Int), (y : Int)]] (i + 2)
  | bare (x : Nat) : l[i]? = some x → x ∈ [3, 4, 10, 12] → i + 1 ≤ l.length → Par l i [[(x : Int)]] (i + 1)
  | test (y n : Nat) : l[i]? = some 1 → l[i + 1]? = some y → l[i + 2]? = some n → i + 3 + n ≤ l.length → Par l i [[1, (y : Int)], zs ((l.drop (i + 3)).take n)] (i + 3 + n)
  | fits (n : Nat) : l[i]? = some 5 → l[i + 1]? = some n → i + 2 + n ≤ l.length → Par l i [[5], zs ((l.drop (i + 2)).take n)] (i + 2 + n)
theorem row_eq {l : List Nat} {j : Nat} {x t : List Int} (h : PyFlat.row (zs (l.drop j)) = some (x, t)) : ∃ n, l[j]? = some n ∧ j + 1 + n ≤ l.length ∧ x = zs ((l.drop (j + 1)).take n) ∧ t = zs (l.drop (j + 1 + n)) := by
  rcases Nat.lt_or_ge j l.length with hj | hj
  · obtain ⟨n, hn, e⟩ := drop_at hj
    rw [e, ints_cons] at h
    unfold PyFlat.row at h
    by_cases c : (0 : Int) ≤ (n : Int) ∧ ((n : Int)).toNat ≤ (zs (l.drop (j + 1))).length
    · simp only [if_pos c] at h
      have c2 := c.2
      rw [Int.toNat_natCast, ints_len, List.length_drop] at c2
      rw [Int.toNat_natCast, ints_take, ints_drop, List.drop_drop] at h
      injection h with h
      injection h with h1 h2
      exact ⟨n, hn, by omega, h1.symm, h2.symm⟩
    · simp only [if_neg c] at h
      cases h
  · rw [List.drop_eq_nil_of_le hj] at h
    cases h
theorem shape_cases {x : Nat} {n k : Nat} (h : PySh12.shape (x : Int) = some (n, k)) : (x ∈ [0, 2, 6, 7, 8, 9, 11] ∧ n = 1 ∧ k = 0) ∨ (x ∈ [3, 4, 10, 12] ∧ n = 0 ∧ k = 0) ∨ (x = 1 ∧ n = 1 ∧ k = 1) ∨ (x = 5 ∧ n = 0 ∧ k = 1) := by
  rcases Nat.lt_or_ge x 13 with hx | hx
  · have : x ∈ List.range 13 := List.mem_range.mpr hx
    have all : ∀ y ∈ List.range 13, ∀ n k, PySh12.shape (y : Int) = some (n, k) → (y ∈ [0, 2, 6, 7, 8, 9, 11] ∧ n = 1 ∧ k = 0) ∨ (y ∈ [3, 4, 10, 12] ∧ n = 0 ∧ k = 0) ∨ (y = 1 ∧ n = 1 ∧ k = 1) ∨ (y = 5 ∧ n = 0 ∧ k = 1) := by
      intro y hy n k h
      simp only [List.mem_range] at hy
      match y, hy with
      | 0, _ => cases h; simp
      | 1, _ => cases h; simp
      | 2, _ => cases h; simp
      | 3, _ => cases h; simp
      | 4, _ => cases h; simp
      | 5, _ => cases h; simp
      | 6, _ => cases h; simp
      | 7, _ => cases h; simp
      | 8, _ => cases h; simp
      | 9, _ => cases h; simp
      | 10, _ => cases h; simp
      | 11, _ => cases h; simp
      | 12, _ => cases h; simp
    exact all x this n k h
  · exfalso
    unfold PySh12.shape at h
    rw [if_neg (by omega), if_neg (by omega), if_neg (by omega), if_neg (by omega), if_neg (by omega), if_neg (by omega), if_neg (by omega), if_neg (by omega), if_neg (by omega), if_neg (by omega), if_neg (by omega), if_neg (by omega), if_neg (by omega)] at h
    cases h
theorem parse {l : List Nat} {i : Nat} {c : List (List Int)} {t : List Int} (h : PyFlat.call PySh12.shape (zs (l.drop i)) = some (c, t)) : ∃ i', Par l i c i' ∧ t = zs (l.drop i') := by
  rcases Nat.lt_or_ge i l.length with hi | hi
  · obtain ⟨x, hx, e⟩ := drop_at hi
    rw [e, ints_cons] at h
    unfold PyFlat.call at h
    cases hs : PySh12.shape (x : Int) with
    | none => simp only [hs] at h; cases h
    | some nk =>
      obtain ⟨n, k⟩ := nk
      simp only [hs] at h
      by_cases hl : (zs (l.drop (i + 1))).length < n
      · simp only [if_pos hl] at h; cases h
      simp only [if_neg hl] at h
      rw [ints_len, List.length_drop] at hl
      rw [ints_drop, ints_take, List.drop_drop] at h
      rcases shape_cases hs with ⟨hm, rfl, rfl⟩ | ⟨hm, rfl, rfl⟩ | ⟨rfl, rfl, rfl⟩ | ⟨rfl, rfl, rfl⟩
      · obtain ⟨y, hy, e2⟩ := drop_at (l := l) (i := i + 1) (by omega)
        have h : some (((x : Int) :: zs ((l.drop (i + 1)).take 1)) :: [], zs (l.drop (i + 1 + 1))) = some (c, t) := h
        injection h with h
        injection h with h1 h2
        rw [e2] at h1
        exact ⟨i + 2, h1 ▸ Par.num x y hx hm hy (by omega), h2.symm⟩
      · have h : some (((x : Int) :: zs ((l.drop (i + 1)).take 0)) :: [], zs (l.drop (i + 1 + 0))) = some (c, t) := h
        injection h with h
        injection h with h1 h2
        exact ⟨i + 1, h1 ▸ Par.bare x hx hm (by omega), h2.symm⟩
      · obtain ⟨y, hy, e2⟩ := drop_at (l := l) (i := i + 1) (by omega)
        have h : (match (match PyFlat.row (zs (l.drop (i + 1 + 1))) with
          | none => none
          | some (x, s) => some ([x], s)) with
          | none => none
          | some (xs, t) => some ((((1 : Nat) : Int) :: zs ((l.drop (i + 1)).take 1)) :: xs, t)) = some (c, t) := h
        cases hr : PyFlat.row (zs (l.drop (i + 1 + 1))) with
        | none => rw [hr] at h; cases h
        | some q =>
          obtain ⟨a, b⟩ := q
          rw [hr] at h
          obtain ⟨n, hn, hle, rfl, rfl⟩ := row_eq hr
          have h : some ((((1 : Nat) : Int) :: zs ((l.drop (i + 1)).take 1)) :: [zs ((l.drop (i + 1 + 1 + 1)).take n)], zs (l.drop (i + 1 + 1 + 1 + n))) = some (c, t) := h
          injection h with h
          injection h with h1 h2
          rw [e2] at h1
          exact ⟨i + 3 + n, h1 ▸ Par.test y n hx hy hn (by omega), h2.symm⟩
      · have h : (match (match PyFlat.row (zs (l.drop (i + 1 + 0))) with
          | none => none
          | some (x, s) => some ([x], s)) with
          | none => none
          | some (xs, t) => some ((((5 : Nat) : Int) :: zs ((l.drop (i + 1)).take 0)) :: xs, t)) = some (c, t) := h
        cases hr : PyFlat.row (zs (l.drop (i + 1 + 0))) with
        | none => rw [hr] at h; cases h
        | some q =>
          obtain ⟨a, b⟩ := q
          rw [hr] at h
          obtain ⟨n, hn, hle, rfl, rfl⟩ := row_eq hr
          have h : some ((((5 : Nat) : Int) :: zs ((l.drop (i + 1)).take 0)) :: [zs ((l.drop (i + 1 + 1)).take n)], zs (l.drop (i + 1 + 1 + n))) = some (c, t) := h
          injection h with h
          injection h with h1 h2
          exact ⟨i + 2 + n, h1 ▸ Par.fits n hx hn (by omega), h2.symm⟩
  · rw [List.drop_eq_nil_of_le hi] at h
    cases h
theorem Par.gt {l : List Nat} {i i' : Nat} {c : List (List Int)} (h : Par l i c i') : i < i' ∧ i' ≤ l.length := by
  cases h <;> omega
theorem people_lt {r : List Nat} (h : Sh12Neutral.people (zs r) = true) : ∀ x ∈ r, x < 1024 := fun x hx => by
  unfold Sh12Neutral.people at h
  have := List.all_eq_true.mp h (x : Int) (List.mem_map.mpr ⟨x, hx, rfl⟩)
  rw [Bool.and_eq_true] at this
  have := of_decide_eq_true this.2
  omega
theorem LAt.kp {K : PySem.W.Frag} {C : Addr} {pr : Addr → Prop} {H H' : Hp} {p a : Addr} {l : List Nat} {i : Nat} (h : LAt K C H p a l i) (hL : pr p) (ha : pr a ∨ ∀ H, SqL K H a (vN l)) (k : Kp pr H H') : LAt K C H' p a l i := by
  obtain ⟨dx, fs, h1, h2, h3, h4⟩ := h
  refine ⟨dx, fs, k _ _ hL h1, h2, ?_, h4⟩
  rcases ha with ha | ha
  · rcases h3 with (q | ⟨o, q⟩) | q
    · exact .inl (.inl (k _ _ ha q))
    · exact .inl (.inr ⟨o, k _ _ ha q⟩)
    · exact .inr q
  · exact ha H'
theorem BS.line {K : PySem.W.Frag} {CB CH CL : Addr} {pr : Addr → Prop} {N : Nat} {H H' : Hp} {p L a : Addr} {l : List Nat} {i : Nat} {s : Sh12.St} (h : BS CB CH pr N H p s) (b : But L H H') (hL : pr L) (hl : LAt K CL H' L a l i) : BS CB CH pr N H' p s := by
  obtain ⟨dx, ta, kd, fs, es, e, kvs, hv, I⟩ := h
  refine ⟨dx, ta, kd, fs, es, e, kvs, hv, I.keep (fun x o hx e => b x o e fun z => hx (z ▸ hL)) fun x hx e => ?_⟩
  obtain ⟨dl, fl, h1, _⟩ := hl
  by_cases z : x = L
  · rw [z, h1] at e
    cases e
  · cases eb : H x with
    | none => exact I.tr x hx eb
    | some o => rw [b x o eb z] at e; cases e
theorem Ans.down {CB CH : Addr} {pr : Addr → Prop} {N : Nat} {H : Hp} {p : Addr} {x : Sh12.St × List Int} {Q : VK} (q : Ans CB CH pr (N + 1) H p x Q) : Ans CB CH pr N H p x Q := fun r H' B => q r H' (B.up (Nat.le_succ N))
theorem due3 {s : Sh12.St} {TS : List (Nat × Nat)} (hn : s.n ≤ 1024) (ht : s.tests = TS.map Ex.tst) (ok : Ex.TOk s.n TS) : Sh12Neutral.step s [[3]] = (s, ((Cr.ms 1024 (Ex.wl TS)).length : Int) :: (Cr.ms 1024 (Ex.wl TS)).map fun (n : Nat) => (n : Int)) := by
  have e : Sh12Neutral.step s [[3]] = (s, Sh12Neutral.told (Sh12.set1 (Sh12.wide fun (i : Nat) => decide (i < s.n) && Sh12.isWell s.tests i))) := rfl
  rw [e, Ex.told_wide]
  have : (List.range 1024).filter (fun i => decide (i < s.n) && Sh12.isWell s.tests i) = Cr.ms 1024 (Ex.wl TS) := by
    unfold Cr.ms
    refine List.filter_congr fun i hi => ?_
    have e2 : Sh12.isWell s.tests i = (Ex.wl TS).testBit i := by
      rw [Ex.wl_bit, ht]
      unfold Sh12.isWell
      rw [List.any_map, Bool.eq_iff_iff, List.any_eq_true, List.any_eq_true]
      have each : ∀ q ∈ TS, ((fun t : Sh12.Test => !t.positive && Sh12.has t.pool i) ∘ Ex.tst) q = (q.1 == 0 && q.2.testBit i) := fun q hq => by
        show (!(q.1 == 1) && Sh12.has (Sh12.wide fun i => q.2.testBit i) i) = _
        rw [Ex.has_wide _ (List.mem_range.mp hi)]
        have := ok.one q hq
        match q.1, this with
        | 0, _ => rfl
        | 1, _ => rfl
      exact ⟨fun ⟨q, hq, h⟩ => ⟨q, hq, (each q hq) ▸ h⟩, fun ⟨q, hq, h⟩ => ⟨q, hq, (each q hq).symm ▸ h⟩⟩
    rw [e2]
    by_cases h : (Ex.wl TS).testBit i = true
    · rw [h, decide_eq_true (Cv.bit_lt (Ex.wl_lt ok) h)]
      rfl
    · rw [Bool.eq_false_iff.mpr h, Bool.and_false]
  rw [this]
theorem ask_test {y : Int} {r : List Int} (h : Sh12Neutral.asked1 [[1, y], r] = true) : Sh12Neutral.people r = true := by
  have e : Sh12Neutral.asked1 [[1, y], r] = (Sh12Neutral.natural y 32 && Sh12Neutral.people r) := rfl
  rw [e, Bool.and_eq_true] at h
  exact h.2
theorem ask_fits {r : List Int} (h : Sh12Neutral.asked1 [[5], r] = true) : Sh12Neutral.people r = true := by
  have e : Sh12Neutral.asked1 [[5], r] = Sh12Neutral.people r := rfl
  rw [e] at h
  exact h
def spNextA (K : PySem.W.Frag) (CB CH CL : Addr) : Sp := fun vs H Q _ => ∃ (pr : Addr → Prop) (N : Nat) (L p a : Addr) (l : List Nat) (i i' : Nat) (s : Sh12.St) (c : List (List Int)), vs = [.ref L, .ref p] ∧ LAt K CL H L a l i ∧ pr L ∧ (pr a ∨ ∀ H, SqL K H a (vN l)) ∧ BS CB CH pr N H p s ∧ N ≤ 100000 ∧ Par l i c i' ∧ Sh12Neutral.asked1 c = true ∧
  ∀ r H', LAt K CL H' L a l i' → BS CB CH pr (N + 1) H' p (Sh12Neutral.step s c).1 → (∀ b o, pr b → b ≠ L → H b = some o → H' b = some o) → ¬ pr r → H' r = some (.lst ((Sh12Neutral.step s c).2.map V.int)) → Q (.ref r) H'
section
variable {P : Program} {w : World} {K : PySem.W.Frag} {mg : Str → Option Value} {base : Heap} {f CB CH CL : Addr} {fd : FuncData}
theorem ok_next_a {t0 t1 t2 t3 t4 t5 t6 t7 t8 t9 t10 t11 : Tok} (m_BEGIN : mg "BEGIN" = some (.int 0 t0)) (m_TEST : mg "TEST" = some (.int 1 t1)) (m_DROP : mg "DROP" = some (.int 2 t2)) (m_WELL : mg "WELL" = some (.int 3 t3)) (m_ILL : mg "ILL" = some (.int 4 t4)) (m_FITS : mg "FITS" = some (.int 5 t5)) (m_SETS : mg "SETS" = some (.int 6 t6)) (m_LEAST : mg "LEAST" = some (.int 7 t7)) (m_CERTAIN : mg "CERTAIN" = some (.int 8 t8)) (m_SEARCH : mg "SEARCH" = some (.int 9 t9)) (m_NEXT : mg "NEXT" = some (.int 10 t10)) (m_TOLD : mg "TOLD" = some (.int 11 t11))
    (M_Line_take_number : MCallee P w K mg base 1 CL "take_number" (["self"] : List Str) (spNum K CL)) (M_Line_take_row : MCallee P w K mg base 2 CL "take_row" (["self"] : List Str) (spRow K CL))
    (M_Book_begin : MCallee P w K mg base 1 CB "begin" (["self", "n"] : List Str) (spBegin CB CH)) (M_Book_add_test : MCallee P w K mg base 2 CB "add_test" (["self", "positive", "pool"] : List Str) (spAdd K CB CH)) (M_Book_drop : MCallee P w K mg base 1 CB "drop" (["self", "k"] : List Str) (spDrop CB CH)) (M_Book_certainly_well : MCallee P w K mg base 1 CB "certainly_well" (["self"] : List Str) (spWell CB CH))
    (M_Book_ill : MCallee P w K mg base 3 CB "ill" (["self"] : List Str) (spIll CB CH)) (M_Book_fits : MCallee P w K mg base 2 CB "fits" (["self", "some"] : List Str) (spFits K CB CH)) (M_Book_about_covers : MCallee P w K mg base 11 CB "about_covers" (["self", "call", "d"] : List Str) (spAbout CB CH)) (M_Book_search : MCallee P w K mg base 3 CB "search" (["self", "d"] : List Str) (spSearch CB CH))
    (M_Book_next_pool : MCallee P w K mg base 3 CB "next_pool" (["self"] : List Str) (spNext CB CH)) (M_Book_told : MCallee P w K mg base 4 CB "told" (["self", "positive"] : List Str) (spTold CB CH)) (M_Book_found : MCallee P w K mg base 1 CB "found" (["self"] : List Str) (spFound CB CH)) (C_tell : Callee P w K mg base 2 "tell" (["crowd"] : List Str) spTell)
    (F : Fun K "answer_next" "answer_next" s_answer_next f fd) : FnOk P w K mg base CX0 12 f fd (["line", "book"] : List Str) (spNextA K CB CH CL) := by
  refine F.ok sc_answer_next (fun vs H Q E h => ?_) (fun cdv A outer s H vs Q E hr h => ?_)
  · obtain ⟨pr, N, L, p, a, l, i, i', s, c, rfl, _⟩ := h
    rfl
  obtain ⟨pr, N, L, p, a, l, i, i', s, c, rfl, hA, pL, pa, hB, hN, par, ask, q⟩ := h
  refine ⟨_, (pss_cons (ps_sw (i := 2) sc_answer_next.nd (pe_methC0 (pv 0) M_Line_take_number (hr.mono (by omega))))
   (pss_cons (ps_if (pt_cmpR op_eq (pv 2) (pe_globI (by rfl) m_BEGIN) (nomark _)) (pss_one (ps_ret (pe_methC (pv 1) M_Book_begin (hr.mono (by omega)) (pa_cons (pe_methC0 (pv 0) M_Line_take_number (hr.mono (by omega))) pa_nil)))) pss_nil)
   (pss_cons (ps_if (pt_cmpR op_eq (pv 2) (pe_globI (by rfl) m_TEST) (nomark _)) (pss_cons (ps_sw (i := 3) sc_answer_next.nd (pe_methC0 (pv 0) M_Line_take_number (hr.mono (by omega))))
   (pss_one (ps_ret (pe_methC (pv 1) M_Book_add_test (hr.mono (by omega)) (pa_cons (pv 3) (pa_cons (pe_methC0 (pv 0) M_Line_take_row (hr.mono (by omega))) pa_nil)))))) pss_nil)
   (pss_cons (ps_if (pt_cmpR op_eq (pv 2) (pe_globI (by rfl) m_DROP) (nomark _)) (pss_one (ps_ret (pe_methC (pv 1) M_Book_drop (hr.mono (by omega)) (pa_cons (pe_methC0 (pv 0) M_Line_take_number (hr.mono (by omega))) pa_nil)))) pss_nil)
   (pss_cons (ps_if (pt_cmpR op_eq (pv 2) (pe_globI (by rfl) m_WELL) (nomark _)) (pss_one (ps_ret (pe_callC C_tell (hr.mono (by omega)) (by rfl) (pa_cons (pe_methC0 (pv 1) M_Book_certainly_well (hr.mono (by omega))) pa_nil)))) pss_nil)
   (pss_cons (ps_if (pt_cmpR op_eq (pv 2) (pe_globI (by rfl) m_ILL) (nomark _)) (pss_one (ps_ret (pe_methC0 (pv 1) M_Book_ill (hr.mono (by omega))))) pss_nil)
   (pss_cons (ps_if (pt_cmpR op_eq (pv 2) (pe_globI (by rfl) m_FITS) (nomark _)) (pss_one (ps_ret (pe_methC (pv 1) M_Book_fits (hr.mono (by omega)) (pa_cons (pe_methC0 (pv 0) M_Line_take_row (hr.mono (by omega))) pa_nil)))) pss_nil)
   (pss_cons (ps_if (pw_or (pt_cmpR op_eq (pv 2) (pe_globI (by rfl) m_SETS) (nomark _)) (pw_or (pt_cmpR op_eq (pv 2) (pe_globI (by rfl) m_LEAST) (nomark _)) (pw_or1 (pt_cmpR op_eq (pv 2) (pe_globI (by rfl) m_CERTAIN) (nomark _))))).pt (pss_one (ps_ret (pe_methC (pv 1) M_Book_about_covers (hr.mono (by omega)) (pa_cons (pv 2) (pa_cons (pe_methC0 (pv 0) M_Line_take_number (hr.mono (by omega))) pa_nil))))) pss_nil)
   (pss_cons (ps_if (pt_cmpR op_eq (pv 2) (pe_globI (by rfl) m_SEARCH) (nomark _)) (pss_one (ps_ret (pe_methC (pv 1) M_Book_search (hr.mono (by omega)) (pa_cons (pe_methC0 (pv 0) M_Line_take_number (hr.mono (by omega))) pa_nil)))) pss_nil)
   (pss_cons (ps_if (pt_cmpR op_eq (pv 2) (pe_globI (by rfl) m_NEXT) (nomark _)) (pss_one (ps_ret (pe_methC0 (pv 1) M_Book_next_pool (hr.mono (by omega))))) pss_nil)
   (pss_cons (ps_if (pt_cmpR op_eq (pv 2) (pe_globI (by rfl) m_TOLD) (nomark _)) (pss_one (ps_ret (pe_methC (pv 1) M_Book_told (hr.mono (by omega)) (pa_cons (pe_methC0 (pv 0) M_Line_take_number (hr.mono (by omega))) pa_nil)))) pss_nil)
   (pss_one (ps_ret (pe_methC0 (pv 1) M_Book_found (hr.mono (by omega)))))))))))))))), ?_⟩
  obtain ⟨dl, fl, hl, lf, _⟩ := id hA
  have done : ∀ H2, LAt K CL H2 L a l i' → (∀ b o, b ≠ L → H b = some o → H2 b = some o) → Ans CB CH pr (N + 1) H2 p (Sh12Neutral.step s c) Q := fun H2 hA2 b2 r H' B k nr er => q r H' (hA2.kp pL pa k) B (fun b o hb n e => k b o hb (b2 b o n e)) nr er
  cases par with
  | num x y hx hm hy hle =>
    refine ⟨_, rfl, L, dl, fl, rfl, hl, lf.m2, L, a, l, i, x, rfl, hA, hx, fun H1 hA1 b1 => ?_⟩
    obtain ⟨dl1, fl1, hl1, lf1, _⟩ := id hA1
    have B1 := hB.line b1 pL hA1
    obtain ⟨dx, ta, kd, fs, es, e, kvs, hv, I⟩ := id B1
    simp only [List.mem_cons, List.not_mem_nil, or_false] at hm
    rcases hm with rfl | rfl | rfl | rfl | rfl | rfl | rfl
    · refine ⟨_, rfl, rfl, _, rfl, iteT ?_⟩
      exact ⟨_, rfl, p, dx, fs, rfl, I.here, I.bf.no (by decide +kernel), _, rfl, L, dl1, fl1, rfl, hl1, lf1.m2, L, a, l, i + 1, y, rfl, hA1, hy, fun H2 hA2 b2 => ⟨pr, N, p, s, y, rfl, B1.line b2 pL hA2, (done H2 hA2 fun b o n e => b2 b o (b1 b o e n) n).down⟩⟩
    · refine ⟨_, rfl, rfl, _, rfl, iteF ?_⟩
      refine ⟨_, rfl, rfl, _, rfl, iteF ?_⟩
      refine ⟨_, rfl, rfl, _, rfl, iteT ?_⟩
      exact ⟨_, rfl, p, dx, fs, rfl, I.here, I.bf.no (by decide +kernel), _, rfl, L, dl1, fl1, rfl, hl1, lf1.m2, L, a, l, i + 1, y, rfl, hA1, hy, fun H2 hA2 b2 => ⟨pr, N, p, s, y, rfl, B1.line b2 pL hA2, (done H2 hA2 fun b o n e => b2 b o (b1 b o e n) n).down⟩⟩
    · refine ⟨_, rfl, rfl, _, rfl, iteF ?_⟩
      refine ⟨_, rfl, rfl, _, rfl, iteF ?_⟩
      refine ⟨_, rfl, rfl, _, rfl, iteF ?_⟩
      refine ⟨_, rfl, rfl, _, rfl, iteF ?_⟩
      refine ⟨_, rfl, rfl, _, rfl, iteF ?_⟩
      refine ⟨_, rfl, rfl, _, rfl, iteF ?_⟩
      refine ⟨_, rfl, rfl, _, rfl, iteT (iteT ?_)⟩
      exact ⟨_, rfl, p, dx, fs, rfl, I.here, I.bf.no (by decide +kernel), _, rfl, _, rfl, L, dl1, fl1, rfl, hl1, lf1.m2, L, a, l, i + 1, y, rfl, hA1, hy, fun H2 hA2 b2 => ⟨pr, N, p, s, 6, y, rfl, .inl rfl, hN, B1.line b2 pL hA2, done H2 hA2 fun b o n e => b2 b o (b1 b o e n) n⟩⟩
    · refine ⟨_, rfl, rfl, _, rfl, iteF ?_⟩
      refine ⟨_, rfl, rfl, _, rfl, iteF ?_⟩
      refine ⟨_, rfl, rfl, _, rfl, iteF ?_⟩
      refine ⟨_, rfl, rfl, _, rfl, iteF ?_⟩
      refine ⟨_, rfl, rfl, _, rfl, iteF ?_⟩
      refine ⟨_, rfl, rfl, _, rfl, iteF ?_⟩
      refine ⟨_, rfl, rfl, _, rfl, iteF ⟨_, rfl, rfl, _, rfl, iteT (iteT ?_)⟩⟩
      exact ⟨_, rfl, p, dx, fs, rfl, I.here, I.bf.no (by decide +kernel), _, rfl, _, rfl, L, dl1, fl1, rfl, hl1, lf1.m2, L, a, l, i + 1, y, rfl, hA1, hy, fun H2 hA2 b2 => ⟨pr, N, p, s, 7, y, rfl, .inr (.inl rfl), hN, B1.line b2 pL hA2, done H2 hA2 fun b o n e => b2 b o (b1 b o e n) n⟩⟩
    · refine ⟨_, rfl, rfl, _, rfl, iteF ?_⟩
      refine ⟨_, rfl, rfl, _, rfl, iteF ?_⟩
      refine ⟨_, rfl, rfl, _, rfl, iteF ?_⟩
      refine ⟨_, rfl, rfl, _, rfl, iteF ?_⟩
      refine ⟨_, rfl, rfl, _, rfl, iteF ?_⟩
      refine ⟨_, rfl, rfl, _, rfl, iteF ?_⟩
      refine ⟨_, rfl, rfl, _, rfl, iteF ⟨_, rfl, rfl, _, rfl, iteF ⟨_, rfl, rfl, _, rfl, iteT ?_⟩⟩⟩
      exact ⟨_, rfl, p, dx, fs, rfl, I.here, I.bf.no (by decide +kernel), _, rfl, _, rfl, L, dl1, fl1, rfl, hl1, lf1.m2, L, a, l, i + 1, y, rfl, hA1, hy, fun H2 hA2 b2 => ⟨pr, N, p, s, 8, y, rfl, .inr (.inr rfl), hN, B1.line b2 pL hA2, done H2 hA2 fun b o n e => b2 b o (b1 b o e n) n⟩⟩
    · refine ⟨_, rfl, rfl, _, rfl, iteF ?_⟩
      refine ⟨_, rfl, rfl, _, rfl, iteF ?_⟩
      refine ⟨_, rfl, rfl, _, rfl, iteF ?_⟩
      refine ⟨_, rfl, rfl, _, rfl, iteF ?_⟩
      refine ⟨_, rfl, rfl, _, rfl, iteF ?_⟩
      refine ⟨_, rfl, rfl, _, rfl, iteF ?_⟩
      refine ⟨_, rfl, rfl, _, rfl, iteF ⟨_, rfl, rfl, _, rfl, iteF ⟨_, rfl, rfl, _, rfl, iteF ?_⟩⟩⟩
      refine ⟨_, rfl, rfl, _, rfl, iteT ?_⟩
      exact ⟨_, rfl, p, dx, fs, rfl, I.here, I.bf.no (by decide +kernel), _, rfl, L, dl1, fl1, rfl, hl1, lf1.m2, L, a, l, i + 1, y, rfl, hA1, hy, fun H2 hA2 b2 => ⟨pr, N, p, s, y, rfl, B1.line b2 pL hA2, (done H2 hA2 fun b o n e => b2 b o (b1 b o e n) n).down⟩⟩
    · refine ⟨_, rfl, rfl, _, rfl, iteF ?_⟩
      refine ⟨_, rfl, rfl, _, rfl, iteF ?_⟩
      refine ⟨_, rfl, rfl, _, rfl, iteF ?_⟩
      refine ⟨_, rfl, rfl, _, rfl, iteF ?_⟩
      refine ⟨_, rfl, rfl, _, rfl, iteF ?_⟩
      refine ⟨_, rfl, rfl, _, rfl, iteF ?_⟩
      refine ⟨_, rfl, rfl, _, rfl, iteF ⟨_, rfl, rfl, _, rfl, iteF ⟨_, rfl, rfl, _, rfl, iteF ?_⟩⟩⟩
      refine ⟨_, rfl, rfl, _, rfl, iteF ?_⟩
      refine ⟨_, rfl, rfl, _, rfl, iteF ?_⟩
      refine ⟨_, rfl, rfl, _, rfl, iteT ?_⟩
      exact ⟨_, rfl, p, dx, fs, rfl, I.here, I.bf.no (by decide +kernel), _, rfl, L, dl1, fl1, rfl, hl1, lf1.m2, L, a, l, i + 1, y, rfl, hA1, hy, fun H2 hA2 b2 => ⟨pr, N, p, s, y, rfl, B1.line b2 pL hA2, (done H2 hA2 fun b o n e => b2 b o (b1 b o e n) n).down⟩⟩
  | bare x hx hm hle =>
    refine ⟨_, rfl, L, dl, fl, rfl, hl, lf.m2, L, a, l, i, x, rfl, hA, hx, fun H1 hA1 b1 => ?_⟩
    have B1 := hB.line b1 pL hA1
    obtain ⟨dx, ta, kd, fs, es, e, kvs, hv, I⟩ := id B1
    have D := done H1 hA1 fun b o n e => b1 b o e n
    simp only [List.mem_cons, List.not_mem_nil, or_false] at hm
    rcases hm with rfl | rfl | rfl | rfl
    · refine ⟨_, rfl, rfl, _, rfl, iteF ?_⟩
      refine ⟨_, rfl, rfl, _, rfl, iteF ?_⟩
      refine ⟨_, rfl, rfl, _, rfl, iteF ?_⟩
      refine ⟨_, rfl, rfl, _, rfl, iteT ?_⟩
      refine ⟨_, rfl, p, dx, fs, rfl, I.here, I.bf.no (by decide +kernel), pr, N, p, s, dx, ta, kd, fs, es, e, kvs, hv, rfl, I, Ex.wl (tso es), 1024, rfl, Ex.up I.ppl (Ex.wl_lt I.ok), by decide, fun r H2 s2 f2 h2 => ?_⟩
      have d3 : Sh12Neutral.step s [[((3 : Nat) : Int)]] = _ := due3 I.ppl I.tests I.ok
      rw [d3] at D
      refine D r H2 ((B1.same s2).up (Nat.le_succ N)) (Kp.same s2) (fun z => I.tr r z f2) ?_
      rw [h2]
      unfold vN
      rw [List.map_cons, List.map_cons, List.map_map]
      rfl
    · refine ⟨_, rfl, rfl, _, rfl, iteF ?_⟩
      refine ⟨_, rfl, rfl, _, rfl, iteF ?_⟩
      refine ⟨_, rfl, rfl, _, rfl, iteF ?_⟩
      refine ⟨_, rfl, rfl, _, rfl, iteF ?_⟩
      refine ⟨_, rfl, rfl, _, rfl, iteT ?_⟩
      exact ⟨_, rfl, p, dx, fs, rfl, I.here, I.bf.no (by decide +kernel), pr, N, p, s, rfl, B1, D.down⟩
    · refine ⟨_, rfl, rfl, _, rfl, iteF ?_⟩
      refine ⟨_, rfl, rfl, _, rfl, iteF ?_⟩
      refine ⟨_, rfl, rfl, _, rfl, iteF ?_⟩
      refine ⟨_, rfl, rfl, _, rfl, iteF ?_⟩
      refine ⟨_, rfl, rfl, _, rfl, iteF ?_⟩
      refine ⟨_, rfl, rfl, _, rfl, iteF ?_⟩
      refine ⟨_, rfl, rfl, _, rfl, iteF ⟨_, rfl, rfl, _, rfl, iteF ⟨_, rfl, rfl, _, rfl, iteF ?_⟩⟩⟩
      refine ⟨_, rfl, rfl, _, rfl, iteF ?_⟩
      refine ⟨_, rfl, rfl, _, rfl, iteT ?_⟩
      exact ⟨_, rfl, p, dx, fs, rfl, I.here, I.bf.no (by decide +kernel), pr, N, p, s, rfl, B1, D.down⟩
    · refine ⟨_, rfl, rfl, _, rfl, iteF ?_⟩
      refine ⟨_, rfl, rfl, _, rfl, iteF ?_⟩
      refine ⟨_, rfl, rfl, _, rfl, iteF ?_⟩
      refine ⟨_, rfl, rfl, _, rfl, iteF ?_⟩
      refine ⟨_, rfl, rfl, _, rfl, iteF ?_⟩
      refine ⟨_, rfl, rfl, _, rfl, iteF ?_⟩
      refine ⟨_, rfl, rfl, _, rfl, iteF ⟨_, rfl, rfl, _, rfl, iteF ⟨_, rfl, rfl, _, rfl, iteF ?_⟩⟩⟩
      refine ⟨_, rfl, rfl, _, rfl, iteF ?_⟩
      refine ⟨_, rfl, rfl, _, rfl, iteF ?_⟩
      refine ⟨_, rfl, rfl, _, rfl, iteF ?_⟩
      exact ⟨_, rfl, p, dx, fs, rfl, I.here, I.bf.no (by decide +kernel), pr, N, p, s, rfl, B1, D.down⟩
  | test y n hx hy hn hle =>
    refine ⟨_, rfl, L, dl, fl, rfl, hl, lf.m2, L, a, l, i, 1, rfl, hA, hx, fun H1 hA1 b1 => ?_⟩
    obtain ⟨dl1, fl1, hl1, lf1, _⟩ := id hA1
    have B1 := hB.line b1 pL hA1
    refine ⟨_, rfl, rfl, _, rfl, iteF ?_⟩
    refine ⟨_, rfl, rfl, _, rfl, iteT ?_⟩
    refine ⟨_, rfl, L, dl1, fl1, rfl, hl1, lf1.m2, L, a, l, i + 1, y, rfl, hA1, hy, fun H2 hA2 b2 => ?_⟩
    obtain ⟨dl2, fl2, hl2, lf2, _⟩ := id hA2
    have B2 := B1.line b2 pL hA2
    obtain ⟨dx, ta, kd, fs, es, e, kvs, hv, I⟩ := id B2
    have pp : ∀ x ∈ (l.drop (i + 3)).take n, x < 1024 := people_lt (ask_test ask)
    exact ⟨_, rfl, p, dx, fs, rfl, I.here, I.bf.no (by decide +kernel), _, rfl, _, rfl, L, dl2, fl2, rfl, hl2, lf2.m3, L, a, l, i + 2, n, rfl, hA2, hn, hle, fun r H3 hA3 b3 f3 h3 => ⟨pr, N, p, s, y, r, _, rfl, B2.line b3 pL hA3, SqL.of h3, pp, (done H3 hA3 fun b o n e => b3 b o (b2 b o (b1 b o e n) n) n).down⟩⟩
  | fits n hx hn hle =>
    refine ⟨_, rfl, L, dl, fl, rfl, hl, lf.m2, L, a, l, i, 5, rfl, hA, hx, fun H1 hA1 b1 => ?_⟩
    obtain ⟨dl1, fl1, hl1, lf1, _⟩ := id hA1
    have B1 := hB.line b1 pL hA1
    obtain ⟨dx, ta, kd, fs, es, e, kvs, hv, I⟩ := id B1
    refine ⟨_, rfl, rfl, _, rfl, iteF ?_⟩
    refine ⟨_, rfl, rfl, _, rfl, iteF ?_⟩
    refine ⟨_, rfl, rfl, _, rfl, iteF ?_⟩
    refine ⟨_, rfl, rfl, _, rfl, iteF ?_⟩
    refine ⟨_, rfl, rfl, _, rfl, iteF ?_⟩
    refine ⟨_, rfl, rfl, _, rfl, iteT ?_⟩
    have pp : ∀ x ∈ (l.drop (i + 2)).take n, x < 1024 := people_lt (ask_fits ask)
    exact ⟨_, rfl, p, dx, fs, rfl, I.here, I.bf.no (by decide +kernel), _, rfl, L, dl1, fl1, rfl, hl1, lf1.m3, L, a, l, i + 1, n, rfl, hA1, hn, hle, fun r H3 hA3 b3 f3 h3 => ⟨pr, N, p, s, r, _, rfl, B1.line b3 pL hA3, SqL.of h3, pp, (done H3 hA3 fun b o n e => b3 b o (b1 b o e n) n).down⟩⟩
end
theorem whole_par {l : List Nat} {i i' : Nat} {c : List (List Int)} (h : Par l i c i') : PySh12.whole c = c := by
  cases h with
  | num x y hx hm =>
    simp only [List.mem_cons, List.not_mem_nil, or_false] at hm
    rcases hm with rfl | rfl | rfl | rfl | rfl | rfl | rfl <;> rfl
  | bare x hx hm =>
    simp only [List.mem_cons, List.not_mem_nil, or_false] at hm
    rcases hm with rfl | rfl | rfl | rfl <;> rfl
  | test => rfl
  | fits => rfl
theorem alone_no {l : List Nat} {i i' : Nat} {c : List (List Int)} (h : Par l i c i') : Sh12Neutral.alone c = false := by
  cases h with
  | num x y hx hm =>
    simp only [List.mem_cons, List.not_mem_nil, or_false] at hm
    exact decide_eq_false (by omega)
  | bare x hx hm =>
    simp only [List.mem_cons, List.not_mem_nil, or_false] at hm
    exact decide_eq_false (by omega)
  | test => rfl
  | fits => rfl
theorem calls_step {l : List Nat} {i f : Nat} {cs : List (List (List Int))} (h : PyFlat.calls PySh12.shape f (zs (l.drop i)) = some cs) (hi : i < l.length) :
    ∃ f' i' c cs', cs = c :: cs' ∧ Par l i c i' ∧ PyFlat.calls PySh12.shape f' (zs (l.drop i')) = some cs' := by
  obtain ⟨x, hx, e⟩ := drop_at hi
  have e2 : zs (l.drop i) = (x : Int) :: zs (l.drop (i + 1)) := by rw [e, ints_cons]
  rw [e2] at h
  cases f with
  | zero => cases h
  | succ f =>
    unfold PyFlat.calls at h
    cases hc : PyFlat.call PySh12.shape ((x : Int) :: zs (l.drop (i + 1))) with
    | none => rw [hc] at h; cases h
    | some ct =>
      obtain ⟨c, t⟩ := ct
      rw [hc] at h
      simp only at h
      cases hr : PyFlat.calls PySh12.shape f t with
      | none => rw [hr] at h; cases h
      | some cs' =>
        rw [hr] at h
        simp only at h
        rw [← e2] at hc
        obtain ⟨i', p, rfl⟩ := parse hc
        exact ⟨f, i', c, cs', (Option.some.inj h).symm, p, hr⟩
theorem calls_end {l : List Nat} {i f : Nat} {cs : List (List (List Int))} (h : PyFlat.calls PySh12.shape f (zs (l.drop i)) = some cs) (hi : ¬ i < l.length) : cs = [] := by
  rw [List.drop_eq_nil_of_le (by omega)] at h
  have e : PyFlat.calls PySh12.shape f (zs []) = some [] := by cases f <;> rfl
  rw [e] at h
  exact (Option.some.inj h).symm
theorem calls_par {l : List Nat} : ∀ (cs : List (List (List Int))) {f i : Nat}, PyFlat.calls PySh12.shape f (zs (l.drop i)) = some cs → ∀ c ∈ cs, PySh12.whole c = c
  | [], _, _, _, c, hc => by cases hc
  | c :: cs', f, i, h, x, hx => by
    by_cases hi : i < l.length
    · obtain ⟨f', i', c2, cs2, e, par, h2⟩ := calls_step h hi
      injection e with e1 e2
      subst e1 e2
      rcases List.mem_cons.mp hx with rfl | hx
      · exact whole_par par
      · exact calls_par cs' h2 x hx
    · cases calls_end h hi
theorem told_len : ∀ (cs : List (List (List Int))) (s : Sh12.St), (PyFlat.told (PyFlat.played Sh12Neutral.step s cs)).length = Sh12Neutral.total s cs + cs.length
  | [], s => rfl
  | c :: r, s => by
    have ih := told_len r (Sh12Neutral.step s c).1
    show (PyFlat.told ((Sh12Neutral.step s c).2 :: PyFlat.played Sh12Neutral.step (Sh12Neutral.step s c).1 r)).length = ((Sh12Neutral.step s c).2.length + Sh12Neutral.total (Sh12Neutral.step s c).1 r) + (r.length + 1)
    unfold PyFlat.told at ih ⊢
    rw [List.flatMap_cons, List.length_append, List.length_cons, ih]
    omega
theorem told_cons (s : Sh12.St) (c : List (List Int)) (r : List (List (List Int))) : PyFlat.told (PyFlat.played Sh12Neutral.step s (c :: r)) = (((Sh12Neutral.step s c).2.length : Int) :: (Sh12Neutral.step s c).2) ++ PyFlat.told (PyFlat.played Sh12Neutral.step (Sh12Neutral.step s c).1 r) := by
  show PyFlat.told ((Sh12Neutral.step s c).2 :: PyFlat.played Sh12Neutral.step (Sh12Neutral.step s c).1 r) = _
  unfold PyFlat.told
  rw [List.flatMap_cons]
theorem begins_same {n : Int} (h1 : 1 ≤ n) (h2 : n ≤ 1024) (r : List (List (List Int))) (s s' : Sh12.St) : PyFlat.played Sh12Neutral.step s ([[0, n]] :: r) = PyFlat.played Sh12Neutral.step s' ([[0, n]] :: r) := by
  have e : ∀ s : Sh12.St, Sh12Neutral.step s [[0, n]] = (⟨n.toNat, [], none⟩, [0]) := fun s => by
    have e : Sh12Neutral.step s [[0, n]] = if n = 0 ∨ (Sh12.MOST : Int) < n then (s, [-1]) else (⟨n.toNat, [], none⟩, [0]) := rfl
    rw [e, if_neg]
    intro z
    rcases z with z | z
    · omega
    · unfold Sh12.MOST at z
      omega
  show (Sh12Neutral.step s [[0, n]]).2 :: PyFlat.played Sh12Neutral.step (Sh12Neutral.step s [[0, n]]).1 r = (Sh12Neutral.step s' [[0, n]]).2 :: PyFlat.played Sh12Neutral.step (Sh12Neutral.step s' [[0, n]]).1 r
  rw [e s, e s']
theorem ask_head {c : List (List Int)} {cs : List (List (List Int))} (h : Sh12Neutral.asked (c :: cs) = true) (al : Sh12Neutral.alone c = false) : ∃ n : Int, c = [[0, n]] ∧ 1 ≤ n ∧ n ≤ 1024 := by
  unfold Sh12Neutral.asked at h
  rw [Bool.and_eq_true] at h
  have h := h.2
  split at h
  · rename_i d heq
    injection heq with h1 h2
    subst h1
    rw [al, Bool.false_or] at h
    split at h
    · rw [Bool.and_eq_true] at h
      exact ⟨_, rfl, of_decide_eq_true h.1, of_decide_eq_true h.2⟩
    · cases h
  · rename_i heq
    injection heq with h1 h2
    rw [Bool.and_eq_true, Bool.and_eq_true] at h
    exact ⟨_, h1, of_decide_eq_true h.1, of_decide_eq_true h.2.1⟩
  · cases h
theorem facts {l : List Nat} (h : PySh12.answers_asked (zs l) = true) : ∃ cs, PyFlat.calls PySh12.shape l.length (zs l) = some cs ∧ cs.length ≤ 3000 ∧ (∀ c ∈ cs, Sh12Neutral.asked1 c = true) ∧ PySh12.answers (zs l) = PyFlat.told (PyFlat.played Sh12Neutral.step ⟨0, [], none⟩ cs) ∧ (PySh12.answers (zs l)).length ≤ 1100000 := by
  have ecalls : ∀ cs, PyFlat.calls PySh12.shape (zs l).length (zs l) = some cs → PySh12.calls (zs l) = some cs := fun cs e => by
    unfold PySh12.calls
    rw [e]
    show some (cs.map PySh12.whole) = some cs
    congr 1
    exact (List.map_congr_left fun c hc => calls_par (l := l) (i := 0) cs e c hc).trans (List.map_id cs)
  cases e : PyFlat.calls PySh12.shape (zs l).length (zs l) with
  | none =>
    unfold PySh12.answers_asked PySh12.calls at h
    rw [e] at h
    cases h
  | some cs =>
    have ec := ecalls cs e
    unfold PySh12.answers_asked at h
    rw [ec] at h
    simp only [Bool.and_eq_true] at h
    obtain ⟨h1, h2⟩ := h
    have ha : PySh12.answers (zs l) = PyFlat.told (PyFlat.played Sh12Neutral.step Sh12Neutral.start cs) := by
      unfold PySh12.answers
      rw [ec]
    have h1 : cs.length ≤ 3000 := of_decide_eq_true h1
    have h2' := h2
    unfold Sh12Neutral.asked at h2
    rw [Bool.and_eq_true, Bool.and_eq_true] at h2
    obtain ⟨⟨ask, tot⟩, hd⟩ := h2
    have tot := of_decide_eq_true tot
    rw [ints_len] at e
    refine ⟨cs, e, h1, fun c hc => List.all_eq_true.mp ask c hc, ?_, ?_⟩
    · rw [ha]
      have hl : 0 < l.length := by
        rcases Nat.eq_zero_or_pos l.length with z | z
        · rw [List.eq_nil_of_length_eq_zero z] at e
          cases e
          cases hd
        · exact z
      obtain ⟨_, i', c, cs', rfl, par, _⟩ := calls_step (l := l) (i := 0) e hl
      have al := alone_no par
      have hb := ask_head h2' al
      obtain ⟨n, rfl, n1, n2⟩ := hb
      rw [begins_same n1 n2 cs' Sh12Neutral.start ⟨0, [], none⟩]
    · rw [ha, told_len]
      omega
theorem BS.more {CB CH : Addr} {pr : Addr → Prop} {N : Nat} {H : Hp} {p S : Addr} {s : Sh12.St} (h : BS CB CH pr N H p s) (hS : H S = none) (o : HO) : BS CB CH (fun b => pr b ∨ b = S) N (upd H S o) p s := by
  obtain ⟨dx, ta, kd, fs, es, e, kvs, hv, I⟩ := h
  have no : ∀ {b : Addr} {u : HO}, ¬ pr b → H b = some u → ¬ (pr b ∨ b = S) := fun n eb z => z.elim n fun z => by rw [z, hS] at eb; cases eb
  have m := same_new hS o
  have I' := I.same m
  refine ⟨dx, ta, kd, fs, es, e, kvs, hv, I'.here, I'.bf, I'.hta, fun x hx => ⟨(I'.hes x hx).1, no (I.hes x hx).2 (I.hes x hx).1⟩, I.tests, I.ok, I.few, I.ppl, I.e5, I.enough, I'.hkd, I.kl, fun c d v hv' => ?_, ?_, ⟨no I.np.1 I.here, no I.np.2.1 I.hta, no I.np.2.2 I.hkd⟩, fun b hb => ?_⟩
  · obtain ⟨hc, r, e1, e2, e3⟩ := I.kept c d v hv'
    exact ⟨hc, r, e1, no e2 e3, m _ _ e3⟩
  · have h := I.halv
    unfold HK at h ⊢
    cases es : s.search with
    | none => rw [es] at h; exact h
    | some t =>
      rw [es] at h
      obtain ⟨hv, u, g, ca, e1, ha, so, n1, n2, n3, n4, n5, n6, n7, n8⟩ := h
      obtain ⟨dxh, fsh, a1, a2, a3, a4, a5⟩ := id ha
      exact ⟨hv, u, g, ca, e1, ha.same m, so, n1, n2, n3, n4, no n5 a1, no n6 a3, no n7 a4, no n8 a5⟩
  · rcases hb with hb | rfl
    · exact I'.tr b hb
    · rw [upd_same]
      simp
theorem BS.said {CB CH : Addr} {pr : Addr → Prop} {N : Nat} {H : Hp} {p S : Addr} {s : Sh12.St} (h : BS CB CH pr N H p s) (hS : pr S) (o : HO) : BS CB CH pr N (upd H S o) p s := by
  obtain ⟨dx, ta, kd, fs, es, e, kvs, hv, I⟩ := h
  refine ⟨dx, ta, kd, fs, es, e, kvs, hv, I.keep (fun b u nb eb => by rw [upd_ne (fun z : b = S => nb (z.symm ▸ hS))]; exact eb) fun b hb => ?_⟩
  by_cases z : b = S
  · rw [z, upd_same]
    simp
  · rw [upd_ne z]
    exact I.tr b hb
theorem LAt.said {K : PySem.W.Frag} {C : Addr} {H : Hp} {L a S : Addr} {l : List Nat} {i : Nat} (h : LAt K C H L a l i) (n : L ≠ S) (ha : a ≠ S ∨ ∀ H, SqL K H a (vN l)) (o : HO) : LAt K C (upd H S o) L a l i := by
  obtain ⟨dx, fs, h1, h2, h3, h4⟩ := h
  refine ⟨dx, fs, by rw [upd_ne n]; exact h1, h2, ?_, h4⟩
  rcases ha with ha | ha
  · exact ((But.refl S H).put o).seq ha h3
  · exact ha _
def spAnswers (K : PySem.W.Frag) : Sp := fun vs H Q _ => ∃ (a : Addr) (l : List Nat), vs = [.ref a] ∧ SqL K H a (vN l) ∧ PySh12.answers_asked (zs l) = true ∧ ∀ r H', H' r = some (.lst ((PySh12.answers (zs l)).map V.int)) → Q (.ref r) H'
section
variable {P : Program} {w : World} {K : PySem.W.Frag} {mg : Str → Option Value} {base : Heap} {f CB CH CL : Addr} {fd : FuncData}
theorem ok_answers (m_len : mg "len" = none) (K_Line : KCallee P w K mg base 1 CL "Line" (["self", "numbers"] : List Str) (spLine K CL)) (K_Book : KCallee P w K mg base 1 CB "Book" (["self"] : List Str) (spBook CB CH)) (M_Line_goes_on : MCallee P w K mg base 1 CL "goes_on" (["self"] : List Str) (spGoes K CL)) (C_answer_next : Callee P w K mg base 12 "answer_next" (["line", "book"] : List Str) (spNextA K CB CH CL))
    (F : Fun K "answers" "answers" s_answers f fd) : FnOk P w K mg base CX0 13 f fd (["calls"] : List Str) (spAnswers K) := by
  refine F.ok sc_answers (fun vs H Q E h => ?_) (fun cdv A outer s H vs Q E hr h => ?_)
  · obtain ⟨a, l, rfl, _⟩ := h
    rfl
  obtain ⟨a, l, rfl, hS, ask, q⟩ := h
  obtain ⟨cs, hcs, hlen, hask, hans, hbig⟩ := facts ask
  refine ⟨_, (pss_cons (ps_sw (i := 1) sc_answers.nd (pe_makeC K_Line (hr.mono (by omega)) (by rfl) (pa_cons (pv 0) pa_nil)))
   (pss_cons (ps_sw (i := 2) sc_answers.nd (pe_makeC0 K_Book (hr.mono (by omega)) (by rfl)))
   (pss_cons (ps_sw (i := 3) sc_answers.nd (pe_lst pa_nil))
   (pss_cons (ps_while PassesOwn.never (pt_truth (pe_methC0 (pv 1) M_Line_goes_on (hr.mono (by omega))) (fun _ => rfl)) (pss_cons (ps_sw (i := 4) sc_answers.nd (pe_callC C_answer_next (hr.mono (by omega)) (by rfl) (pa_cons (pv 1) (pa_cons (pv 2) pa_nil))))
   (pss_cons (ps_expr (pe_bm PySem.F.plainAttrs_list PySem.F.slot_list_append PySem.F.type_list_append mt_append (pv 3) (pa_cons (pe_callB call_len_seq (by rfl) m_len PySem.boot_len (pa_cons (pv 4) pa_nil)) pa_nil)))
   (pss_one (ps_expr (pe_bm PySem.F.plainAttrs_list PySem.F.slot_list_extend PySem.F.type_list_extend mt_extend (pv 3) (pa_cons (pv 4) pa_nil)))))))
   (pss_one (ps_ret (pv 3))))))), ?_⟩
  generalize hR : PySh12.answers (zs l) = R at *
  have stat : (∃ o, H a = some o) ∨ ∀ H, SqL K H a (vN l) := by
    rcases hS with (z | ⟨o, z⟩) | z
    · exact .inl ⟨_, z⟩
    · exact .inl ⟨_, z⟩
    · exact .inr fun H => .inr z
  refine ⟨_, rfl, fun L dl hL hdl nd => ?_⟩
  have sL : Same H (upd (upd H dl (.own L)) L (.ins CL dl [])) := (same_new hdl _).trans (same_new (by rw [upd_ne nd.symm]; exact hL) _)
  refine ⟨L, dl, a, l, rfl, upd_same, sL.seq hS, stat.imp (fun ⟨o, e⟩ => ne_of_none e hL) id, fun H1 hA1 b1 => ⟨rfl, ?_⟩⟩
  have s1 : Same H H1 := fun b o eb => b1 b o (sL _ _ eb) (ne_of_none eb hL)
  obtain ⟨dl1, fl1, hl1, _⟩ := id hA1
  refine fun p dp hp hdp ndp => ⟨(fun b => b = L ∨ (b = a ∧ ∃ o, H a = some o)), p, dp, rfl, upd_same, ?_, ?_, fun H2 hB2 b2 => ⟨rfl, ?_⟩⟩
  · rintro (z | ⟨z, o, e⟩)
    · rw [z, hl1] at hp; cases hp
    · rw [z, s1 _ _ e] at hp; cases hp
  · have sp : Same H1 (upd (upd H1 dp (.own p)) p (.ins CB dp [])) := (same_new hdp _).trans (same_new (by rw [upd_ne ndp.symm]; exact hp) _)
    rintro b (z | ⟨z, o, e⟩) w
    · rw [z, sp _ _ hl1] at w; cases w
    · rw [z, sp _ _ (s1 _ _ e)] at w; cases w
  have sp : Same H1 (upd (upd H1 dp (.own p)) p (.ins CB dp [])) := (same_new hdp _).trans (same_new (by rw [upd_ne ndp.symm]; exact hp) _)
  have s2 : Same H1 H2 := fun b o eb => b2 b o (sp _ _ eb) (ne_of_none eb hp)
  have hA2 : LAt K CL H2 L a l 0 := hA1.keep fun b o _ e => s2 b o e
  refine ⟨Nat.zero_le _, fun S hSS => ?_⟩
  have hB3 := hB2.more hSS (.lst [])
  have nLS : L ≠ S := ne_of_none (s2 _ _ hl1) hSS
  have aS : a ≠ S ∨ ∀ H, SqL K H a (vN l) := stat.imp (fun ⟨o, e⟩ => ne_of_none (s2 _ _ (s1 _ _ e)) hSS) id
  have hA3 := hA2.said nLS aS (.lst [])
  have pa : ((a = L ∨ (a = a ∧ ∃ o, H a = some o)) ∨ a = S) ∨ ∀ H, SqL K H a (vN l) := stat.imp (fun z => .inl (.inr ⟨rfl, z⟩)) id
  generalize hpr : (fun b => (b = L ∨ (b = a ∧ ∃ o, H a = some o)) ∨ b = S) = pr at hB3
  have prL : pr L := by rw [← hpr]; exact .inl (.inl rfl)
  have prS : pr S := by rw [← hpr]; exact .inr rfl
  have pra : pr a ∨ ∀ H, SqL K H a (vN l) := by rw [← hpr]; exact pa
  refine ⟨fun m σ H' => ∃ (i N : Nat) (s : Sh12.St) (out : List Int) (cs : List (List (List Int))) (f : Nat) (v : Option V), σ = [some (.ref a), some (.ref L), some (.ref p), some (.ref S), v] ∧ m = l.length - i ∧ LAt K CL H' L a l i ∧ BS CB CH pr N H' p s ∧ H' S = some (.lst (out.map V.int)) ∧ PyFlat.calls PySh12.shape f (zs (l.drop i)) = some cs ∧ (∀ c ∈ cs, Sh12Neutral.asked1 c = true) ∧ N + cs.length ≤ 3000 ∧ out ++ PyFlat.told (PyFlat.played Sh12Neutral.step s cs) = R,
    ⟨_, 0, 0, ⟨0, [], none⟩, [], cs, l.length, none, rfl, rfl, hA3, hB3, upd_same, hcs, hask, by omega, hans.symm⟩, ?_⟩
  rintro m σ H' ⟨i, N, s, out, cs, f, v, rfl, rfl, hA, hB, hS, hcs, hask, hn, hout⟩
  obtain ⟨dl, fl, hl, lf, _⟩ := id hA
  refine ⟨_, rfl, L, dl, fl, rfl, hl, lf.m1, L, a, l, i, rfl, hA, _, rfl, ?_⟩
  by_cases hi : i < l.length
  · rw [decide_eq_true hi]
    obtain ⟨f', i', c, cs', rfl, par, hcs'⟩ := calls_step hcs hi
    obtain ⟨gt, gl⟩ := par.gt
    rw [List.length_cons] at hn
    refine iteT ⟨_, fun _ _ z => z, _, rfl, _, rfl, pr, N, L, p, a, l, i, i', s, c, rfl, hA, prL, pra, hB, by omega, par, hask c List.mem_cons_self, fun r H2 hA2 hB2 k2 nr er => ?_⟩
    have hS2 := k2 _ _ prS nLS.symm hS
    rw [told_cons] at hout
    have ol : out.length + (1 + (Sh12Neutral.step s c).2.length) ≤ 1100000 := by
      have := congrArg List.length hout
      rw [List.length_append, List.length_append, List.length_cons] at this
      omega
    have rS : r ≠ S := fun z => nr (z ▸ prS)
    refine ⟨_, rfl, Or.inl ⟨rfl, _, SqL.of hS2⟩, _, rfl, r, _, rfl, .inl (SqL.of er), S, _, _, rfl, rfl, hS2, (by rw [List.length_map]; exact lt_line (by omega)), ?_⟩
    refine ⟨_, rfl, Or.inl ⟨rfl, _, SqL.of upd_same⟩, _, rfl, S, r, _, _, rfl, rfl, upd_same, by rw [upd_ne rS]; exact er, Nat.le_of_lt (by rw [List.length_append, List.length_map, List.length_map, List.length_singleton]; exact lt_line (by omega)), ?_⟩
    rw [upd_upd]
    refine ⟨l.length - i', by omega, i', N + 1, (Sh12Neutral.step s c).1, out ++ (((Sh12Neutral.step s c).2.length : Int) :: (Sh12Neutral.step s c).2), cs', f', some (.ref r), rfl, rfl, hA2.said nLS aS _, hB2.said prS _, ?_, hcs', fun c' hc' => hask c' (List.mem_cons_of_mem _ hc'), by omega, by rw [List.append_assoc]; exact hout⟩
    rw [upd_same, List.map_append, List.map_cons, List.length_map, List.append_assoc]
    rfl
  · rw [decide_eq_false hi]
    have := calls_end hcs hi
    subst this
    refine iteF ⟨_, rfl, q S H' ?_⟩
    rw [hS, ← hout]
    show some (HO.lst (out.map V.int)) = some (HO.lst ((out ++ []).map V.int))
    rw [List.append_nil]
end
theorem all_mk {P : Program} {w : World} {K : PySem.W.Frag} {h : Heap} {mg : Str → Option Value} {fa C_Covers C_Line C_Book C_Halving fz : Addr} (X : K.In h) (G : h.Ns mainGlobals mg) (hfa : mg "answers" = some (.ref fa)) {t_MOST_MISSED t_BEGIN t_TEST t_DROP t_WELL t_ILL t_FITS t_SETS t_LEAST t_CERTAIN t_SEARCH t_NEXT t_TOLD t_WRONG t_NOT_NOW t_CLASH t_NONE_FITS t_MOST_PEOPLE t_MOST_TESTS t_MOST_ILL t_BETWEEN : Tok}
    (n_Covers : PySem.W.nsIn K mainGlobals "Covers" = some (some (.ref C_Covers))) (c_Covers : ClsFacts K C_Covers) (w_Covers_one_of_three : PySem.W.findIn K (.ref C_Covers) "one_of_three" = some none) (w_Covers_two_of_three : PySem.W.findIn K (.ref C_Covers) "two_of_three" = some none) (w_Covers_three_of_six : PySem.W.findIn K (.ref C_Covers) "three_of_six" = some none) (w_Covers_six_of_twelve : PySem.W.findIn K (.ref C_Covers) "six_of_twelve" = some none) (w_Covers_crowd : PySem.W.findIn K (.ref C_Covers) "crowd" = some none) (w_Covers_pools : PySem.W.findIn K (.ref C_Covers) "pools" = some none)
    (E_Covers_init : TopMeth K C_Covers "__init__" "Covers.__init__" s_Covers___init__ (["self", "crowd", "pools"] : List Str))
    (E_Covers_size_of : TopMeth K C_Covers "size_of" "Covers.size_of" s_Covers_size_of (["self", "crowd"] : List Str))
    (E_Covers_how_many : TopMeth K C_Covers "how_many" "Covers.how_many" s_Covers_how_many (["self", "most"] : List Str))
    (E_Covers_count_in : TopMeth K C_Covers "count_in" "Covers.count_in" s_Covers_count_in (["self", "pools", "crowd", "most"] : List Str))
    (E_Covers_one_of_these : TopMeth K C_Covers "one_of_these" "Covers.one_of_these" s_Covers_one_of_these (["self", "pools", "crowd", "most"] : List Str))
    (E_Covers_missed_is_shorter : TopMeth K C_Covers "missed_is_shorter" "Covers.missed_is_shorter" s_Covers_missed_is_shorter (["self", "pools", "crowd", "most"] : List Str))
    (E_Covers_count_by_missed : TopMeth K C_Covers "count_by_missed" "Covers.count_by_missed" s_Covers_count_by_missed (["self", "pools", "crowd", "most"] : List Str))
    (E_Covers_sizes_by_hits : TopMeth K C_Covers "sizes_by_hits" "Covers.sizes_by_hits" s_Covers_sizes_by_hits (["self", "pools", "crowd"] : List Str))
    (E_Covers_some : TopMeth K C_Covers "some" "Covers.some" s_Covers_some (["self", "pools", "crowd", "most"] : List Str))
    (E_Covers_smallest : TopMeth K C_Covers "smallest" "Covers.smallest" s_Covers_smallest (["self", "fewest", "most"] : List Str))
    (E_Covers_least : TopMeth K C_Covers "least" "Covers.least" s_Covers_least (["self", "size"] : List Str))
    (E_Covers_in_some : TopMeth K C_Covers "in_some" "Covers.in_some" s_Covers_in_some (["self", "smallest", "most"] : List Str))
    (E_Covers_in_all : TopMeth K C_Covers "in_all" "Covers.in_all" s_Covers_in_all (["self", "smallest", "most"] : List Str))
    (n_Line : PySem.W.nsIn K mainGlobals "Line" = some (some (.ref C_Line))) (c_Line : ClsFacts K C_Line) (w_Line_numbers : PySem.W.findIn K (.ref C_Line) "numbers" = some none) (w_Line_place : PySem.W.findIn K (.ref C_Line) "place" = some none)
    (E_Line_init : TopMeth K C_Line "__init__" "Line.__init__" s_Line___init__ (["self", "numbers"] : List Str))
    (E_Line_goes_on : TopMeth K C_Line "goes_on" "Line.goes_on" s_Line_goes_on (["self"] : List Str))
    (E_Line_take_number : TopMeth K C_Line "take_number" "Line.take_number" s_Line_take_number (["self"] : List Str))
    (E_Line_take_row : TopMeth K C_Line "take_row" "Line.take_row" s_Line_take_row (["self"] : List Str))
    (n_Book : PySem.W.nsIn K mainGlobals "Book" = some (some (.ref C_Book))) (c_Book : ClsFacts K C_Book) (w_Book_n : PySem.W.findIn K (.ref C_Book) "n" = some none) (w_Book_tests : PySem.W.findIn K (.ref C_Book) "tests" = some none) (w_Book_halving : PySem.W.findIn K (.ref C_Book) "halving" = some none) (w_Book_enough : PySem.W.findIn K (.ref C_Book) "enough" = some none) (w_Book_kept : PySem.W.findIn K (.ref C_Book) "kept" = some none)
    (E_Book_init : TopMeth K C_Book "__init__" "Book.__init__" s_Book___init__ (["self"] : List Str))
    (E_Book_begin : TopMeth K C_Book "begin" "Book.begin" s_Book_begin (["self", "n"] : List Str))
    (E_Book_add_test : TopMeth K C_Book "add_test" "Book.add_test" s_Book_add_test (["self", "positive", "pool"] : List Str))
    (E_Book_drop : TopMeth K C_Book "drop" "Book.drop" s_Book_drop (["self", "k"] : List Str))
    (E_Book_has_strangers : TopMeth K C_Book "has_strangers" "Book.has_strangers" s_Book_has_strangers (["self", "crowd"] : List Str))
    (E_Book_everybody : TopMeth K C_Book "everybody" "Book.everybody" s_Book_everybody (["self"] : List Str))
    (E_Book_certainly_well : TopMeth K C_Book "certainly_well" "Book.certainly_well" s_Book_certainly_well (["self"] : List Str))
    (E_Book_suspects : TopMeth K C_Book "suspects" "Book.suspects" s_Book_suspects (["self"] : List Str))
    (E_Book_ill : TopMeth K C_Book "ill" "Book.ill" s_Book_ill (["self"] : List Str))
    (E_Book_fits : TopMeth K C_Book "fits" "Book.fits" s_Book_fits (["self", "some"] : List Str))
    (E_Book_about_covers : TopMeth K C_Book "about_covers" "Book.about_covers" s_Book_about_covers (["self", "call", "d"] : List Str))
    (E_Book_find_answer : TopMeth K C_Book "find_answer" "Book.find_answer" s_Book_find_answer (["self", "call", "d"] : List Str))
    (E_Book_search : TopMeth K C_Book "search" "Book.search" s_Book_search (["self", "d"] : List Str))
    (E_Book_next_pool : TopMeth K C_Book "next_pool" "Book.next_pool" s_Book_next_pool (["self"] : List Str))
    (E_Book_told : TopMeth K C_Book "told" "Book.told" s_Book_told (["self", "positive"] : List Str))
    (E_Book_found : TopMeth K C_Book "found" "Book.found" s_Book_found (["self"] : List Str))
    (n_Halving : PySem.W.nsIn K mainGlobals "Halving" = some (some (.ref C_Halving))) (c_Halving : ClsFacts K C_Halving) (w_Halving_unknown : PySem.W.findIn K (.ref C_Halving) "unknown" = some none) (w_Halving_group : PySem.W.findIn K (.ref C_Halving) "group" = some none) (w_Halving_caught : PySem.W.findIn K (.ref C_Halving) "caught" = some none) (w_Halving_ill_left : PySem.W.findIn K (.ref C_Halving) "ill_left" = some none)
    (E_Halving_init : TopMeth K C_Halving "__init__" "Halving.__init__" s_Halving___init__ (["self", "n", "d"] : List Str))
    (E_Halving_is_over : TopMeth K C_Halving "is_over" "Halving.is_over" s_Halving_is_over (["self"] : List Str))
    (E_Halving_pool : TopMeth K C_Halving "pool" "Halving.pool" s_Halving_pool (["self"] : List Str))
    (E_Halving_first_size : TopMeth K C_Halving "first_size" "Halving.first_size" s_Halving_first_size (["self"] : List Str))
    (E_Halving_take_in : TopMeth K C_Halving "take_in" "Halving.take_in" s_Halving_take_in (["self", "positive"] : List Str))
    (D_crowd_of : TopDef K mg "crowd_of" s_crowd_of (["people"] : List Str))
    (D_people_of : TopDef K mg "people_of" s_people_of (["crowd"] : List Str))
    (D_not_hit : TopDef K mg "not_hit" s_not_hit (["pools", "one"] : List Str))
    (D_in_all_others : TopDef K mg "in_all_others" s_in_all_others (["pools", "one", "crowd"] : List Str))
    (D_in_at_least : TopDef K mg "in_at_least" s_in_at_least (["pools", "crowd", "least"] : List Str))
    (D_counted_at_least : TopDef K mg "counted_at_least" s_counted_at_least (["planes", "crowd", "least"] : List Str))
    (D_bit_planes : TopDef K mg "bit_planes" s_bit_planes (["pools"] : List Str))
    (D_too_many_apart : TopDef K mg "too_many_apart" s_too_many_apart (["pools", "crowd", "most"] : List Str))
    (D_subsets : TopDef K mg "subsets" s_subsets (["size", "most"] : List Str))
    (D_answers : TopDef K mg "answers" s_answers (["calls"] : List Str))
    (D_answer_next : TopDef K mg "answer_next" s_answer_next (["line", "book"] : List Str))
    (D_tell : TopDef K mg "tell" s_tell (["crowd"] : List Str))
    (z_range : PySem.W.nsIn K mainGlobals "range" = some none)
    (z_len : PySem.W.nsIn K mainGlobals "len" = some none)
    (z_list : PySem.W.nsIn K mainGlobals "list" = some none)
    (z_max : PySem.W.nsIn K mainGlobals "max" = some none)
    (z_min : PySem.W.nsIn K mainGlobals "min" = some none)
    (z_sum : PySem.W.nsIn K mainGlobals "sum" = some none)
    (z_zip : PySem.W.nsIn K mainGlobals "zip" = some none)
    (z_sorted : PySem.W.nsIn K mainGlobals "sorted" = some none)
    (z_set : PySem.W.nsIn K mainGlobals "set" = some none)
    (v_MOST_MISSED : PySem.W.nsIn K mainGlobals "MOST_MISSED" = some (some (.int 20 t_MOST_MISSED)))
    (v_BEGIN : PySem.W.nsIn K mainGlobals "BEGIN" = some (some (.int 0 t_BEGIN)))
    (v_TEST : PySem.W.nsIn K mainGlobals "TEST" = some (some (.int 1 t_TEST)))
    (v_DROP : PySem.W.nsIn K mainGlobals "DROP" = some (some (.int 2 t_DROP)))
    (v_WELL : PySem.W.nsIn K mainGlobals "WELL" = some (some (.int 3 t_WELL)))
    (v_ILL : PySem.W.nsIn K mainGlobals "ILL" = some (some (.int 4 t_ILL)))
    (v_FITS : PySem.W.nsIn K mainGlobals "FITS" = some (some (.int 5 t_FITS)))
    (v_SETS : PySem.W.nsIn K mainGlobals "SETS" = some (some (.int 6 t_SETS)))
    (v_LEAST : PySem.W.nsIn K mainGlobals "LEAST" = some (some (.int 7 t_LEAST)))
    (v_CERTAIN : PySem.W.nsIn K mainGlobals "CERTAIN" = some (some (.int 8 t_CERTAIN)))
    (v_SEARCH : PySem.W.nsIn K mainGlobals "SEARCH" = some (some (.int 9 t_SEARCH)))
    (v_NEXT : PySem.W.nsIn K mainGlobals "NEXT" = some (some (.int 10 t_NEXT)))
    (v_TOLD : PySem.W.nsIn K mainGlobals "TOLD" = some (some (.int 11 t_TOLD)))
    (v_WRONG : PySem.W.nsIn K mainGlobals "WRONG" = some (some (.int (-1) t_WRONG)))
    (v_NOT_NOW : PySem.W.nsIn K mainGlobals "NOT_NOW" = some (some (.int (-2) t_NOT_NOW)))
    (v_CLASH : PySem.W.nsIn K mainGlobals "CLASH" = some (some (.int (-3) t_CLASH)))
    (v_NONE_FITS : PySem.W.nsIn K mainGlobals "NONE_FITS" = some (some (.int (-4) t_NONE_FITS)))
    (v_MOST_PEOPLE : PySem.W.nsIn K mainGlobals "MOST_PEOPLE" = some (some (.int 1024 t_MOST_PEOPLE)))
    (v_MOST_TESTS : PySem.W.nsIn K mainGlobals "MOST_TESTS" = some (some (.int 1024 t_MOST_TESTS)))
    (v_MOST_ILL : PySem.W.nsIn K mainGlobals "MOST_ILL" = some (some (.int 4 t_MOST_ILL)))
    (v_BETWEEN : PySem.W.nsIn K mainGlobals "BETWEEN" = some (some (.int 1024 t_BETWEEN)))
    (y0 : PySem.W.findIn K (.ref C_Covers) "size_of" = some (some (.ref fz))) (y1 : PySem.W.specialIn K (.ref fz) "__get__" = some (some (.builtin "function.__get__"))) (y2 : PySem.W.takesIn K (.ref fz) = some false) :
    ∃ fd : FuncData, (∀ (s : Shared) (us : List Value), us.length = (["calls"] : List Str).length → BindsTo s fd ⟨us, []⟩ ((["calls"] : List Str).zip us)) ∧ ∀ base : Heap, K.In base → base.Ns mainGlobals mg →
      FnOk P w K mg base CX0 13 fa fd (["calls"] : List Str) (spAnswers K) := by
  obtain ⟨f, fd, F, m, _, b⟩ := D_answers.ex
  have e := hfa.symm.trans m
  cases e
  have no := fun {x : Str} (z : PySem.W.nsIn K mainGlobals x = some none) => PySem.W.mg_none_of X G z
  have TC : TxtC K C_Covers := ⟨c_Covers.cl, w_Covers_one_of_three, w_Covers_two_of_three, w_Covers_three_of_six, w_Covers_six_of_twelve, w_Covers_crowd, w_Covers_pools⟩
  have TL : TxtL K C_Line := ⟨c_Line.cl, w_Line_numbers, w_Line_place⟩
  have TB : TxtB K C_Book := ⟨c_Book.cl, w_Book_n, w_Book_tests, w_Book_halving, w_Book_enough, w_Book_kept⟩
  have TH : TxtH K C_Halving := ⟨c_Halving.cl, w_Halving_unknown, w_Halving_group, w_Halving_caught, w_Halving_ill_left⟩
  have hB : ∀ f, PySem.W.findIn K (.ref C_Covers) "size_of" = some (some (.ref f)) → Bound K "size_of" f := fun f hf => by
    rw [y0] at hf
    cases hf
    exact ⟨y1, y2, by decide +kernel⟩
  refine ⟨fd, b, fun base _ _ => ?_⟩
  have g_crowd_of := D_crowd_of.callee (P := P) (w := w) (base := base) fun _ _ F => ok_crowd_of F
  have g_people_of := D_people_of.callee (P := P) (w := w) (base := base) fun _ _ F => ok_people_of F
  have g_not_hit := D_not_hit.callee (P := P) (w := w) (base := base) fun _ _ F => ok_not_hit F
  have g_in_all_others := D_in_all_others.callee (P := P) (w := w) (base := base) fun _ _ F => ok_all_others F
  have g_counted_at_least := D_counted_at_least.callee (P := P) (w := w) (base := base) fun _ _ F => ok_counted (no z_range) (no z_len) F
  have g_bit_planes := D_bit_planes.callee (P := P) (w := w) (base := base) fun _ _ F => ok_planes (no z_len) (no z_list) F
  have g_in_at_least := D_in_at_least.callee (P := P) (w := w) (base := base) fun _ _ F => ok_at_least g_counted_at_least g_bit_planes F
  have g_too_many_apart := D_too_many_apart.callee (P := P) (w := w) (base := base) fun _ _ F => ok_too_many F
  have g_subsets := D_subsets.callee (P := P) (w := w) (base := base) fun _ _ F => ok_subsets (no z_range) F
  have g_tell := D_tell.callee (P := P) (w := w) (base := base) fun _ _ F => ok_tell (no z_len) g_people_of F
  have h_Covers_size_of := E_Covers_size_of.callee (P := P) (w := w) (base := base) (mg := mg) c_Covers.cl fun _ _ F => ok_size TC F
  have h_Covers_one_of_these := E_Covers_one_of_these.callee (P := P) (w := w) (base := base) (mg := mg) c_Covers.cl fun _ _ F => ok_one_of TC (no z_len) g_in_at_least h_Covers_size_of F
  have h_Covers_missed_is_shorter := E_Covers_missed_is_shorter.callee (P := P) (w := w) (base := base) (mg := mg) c_Covers.cl fun _ _ F => ok_short TC (PySem.W.mg_of X G v_MOST_MISSED) (no z_len) (no z_range) (no z_min) h_Covers_size_of F
  have h_Covers_sizes_by_hits := E_Covers_sizes_by_hits.callee (P := P) (w := w) (base := base) (mg := mg) c_Covers.cl fun _ _ F => ok_sizes_by TC (no z_zip) h_Covers_size_of F
  have h_Covers_count_by_missed := E_Covers_count_by_missed.callee (P := P) (w := w) (base := base) (mg := mg) c_Covers.cl fun _ _ F => ok_by_missed TC (no z_zip) (no z_sum) g_subsets h_Covers_sizes_by_hits F
  have h_Covers_count_in := count_all TC g_subsets g_too_many_apart g_in_all_others g_not_hit h_Covers_size_of h_Covers_missed_is_shorter h_Covers_count_by_missed h_Covers_one_of_these E_Covers_count_in 5
  have h_Covers_some := some_all TC g_too_many_apart g_in_all_others g_not_hit h_Covers_one_of_these E_Covers_some 5
  have h_Covers_how_many := E_Covers_how_many.callee (P := P) (w := w) (base := base) (mg := mg) c_Covers.cl fun _ _ F => ok_how TC h_Covers_count_in F
  have h_Covers_smallest := E_Covers_smallest.callee (P := P) (w := w) (base := base) (mg := mg) c_Covers.cl fun _ _ F => ok_smallest TC (no z_range) h_Covers_some F
  have h_Covers_least := E_Covers_least.callee (P := P) (w := w) (base := base) (mg := mg) c_Covers.cl fun _ _ F => ok_least TC (no z_len) g_not_hit h_Covers_some F
  have h_Covers_in_some := E_Covers_in_some.callee (P := P) (w := w) (base := base) (mg := mg) c_Covers.cl fun _ _ F => ok_in_some TC (no z_len) g_not_hit h_Covers_size_of h_Covers_some F
  have h_Covers_in_all := E_Covers_in_all.callee (P := P) (w := w) (base := base) (mg := mg) c_Covers.cl fun _ _ F => ok_in_all TC h_Covers_some F
  have k_Covers := E_Covers_init.makes (P := P) (w := w) (base := base) c_Covers.mks c_Covers.kc (PySem.W.mg_of X G n_Covers) fun _ _ F => ok_covers TC (no z_sorted) (no z_set) hB h_Covers_size_of F
  have h_Halving_is_over := E_Halving_is_over.callee (P := P) (w := w) (base := base) (mg := mg) c_Halving.cl fun _ _ F => ok_over TH F
  have h_Halving_first_size := E_Halving_first_size.callee (P := P) (w := w) (base := base) (mg := mg) c_Halving.cl fun _ _ F => ok_first TH (no z_len) F
  have h_Halving_pool := E_Halving_pool.callee (P := P) (w := w) (base := base) (mg := mg) c_Halving.cl fun _ _ F => ok_pool TH (no z_len) h_Halving_is_over h_Halving_first_size F
  have h_Halving_take_in := E_Halving_take_in.callee (P := P) (w := w) (base := base) (mg := mg) c_Halving.cl fun _ _ F => ok_take TH (no z_len) h_Halving_pool F
  have k_Halving := E_Halving_init.makes (P := P) (w := w) (base := base) c_Halving.mks c_Halving.kc (PySem.W.mg_of X G n_Halving) fun _ _ F => ok_halving TH (no z_list) (no z_range) F
  have k_Line := E_Line_init.makes (P := P) (w := w) (base := base) c_Line.mks c_Line.kc (PySem.W.mg_of X G n_Line) fun _ _ F => ok_line TL F
  have h_Line_goes_on := E_Line_goes_on.callee (P := P) (w := w) (base := base) (mg := mg) c_Line.cl fun _ _ F => ok_goes TL (no z_len) F
  have h_Line_take_number := E_Line_take_number.callee (P := P) (w := w) (base := base) (mg := mg) c_Line.cl fun _ _ F => ok_num TL F
  have h_Line_take_row := E_Line_take_row.callee (P := P) (w := w) (base := base) (mg := mg) c_Line.cl fun _ _ F => ok_row TL h_Line_take_number F
  have k_Book := E_Book_init.makes (P := P) (w := w) (base := base) c_Book.mks c_Book.kc (PySem.W.mg_of X G n_Book) fun _ _ F => ok_book (CH := C_Halving) TB F
  have h_Book_everybody := E_Book_everybody.callee (P := P) (w := w) (base := base) (mg := mg) c_Book.cl fun _ _ F => ok_every (CH := C_Halving) TB F
  have h_Book_has_strangers := E_Book_has_strangers.callee (P := P) (w := w) (base := base) (mg := mg) c_Book.cl fun _ _ F => ok_strange (CH := C_Halving) TB F
  have h_Book_certainly_well := E_Book_certainly_well.callee (P := P) (w := w) (base := base) (mg := mg) c_Book.cl fun _ _ F => ok_well (CH := C_Halving) TB F
  have h_Book_suspects := E_Book_suspects.callee (P := P) (w := w) (base := base) (mg := mg) c_Book.cl fun _ _ F => ok_susp (CH := C_Halving) TB h_Book_everybody h_Book_certainly_well F
  have h_Book_begin := E_Book_begin.callee (P := P) (w := w) (base := base) (mg := mg) c_Book.cl fun _ _ F => ok_begin (CH := C_Halving) TB (PySem.W.mg_of X G v_WRONG) (PySem.W.mg_of X G v_MOST_PEOPLE) F
  have h_Book_add_test := E_Book_add_test.callee (P := P) (w := w) (base := base) (mg := mg) c_Book.cl fun _ _ F => ok_add (CH := C_Halving) TB (PySem.W.mg_of X G v_WRONG) (PySem.W.mg_of X G v_NOT_NOW) (PySem.W.mg_of X G v_MOST_TESTS) (no z_len) g_crowd_of h_Book_has_strangers F
  have h_Book_drop := E_Book_drop.callee (P := P) (w := w) (base := base) (mg := mg) c_Book.cl fun _ _ F => ok_drop (CH := C_Halving) TB (PySem.W.mg_of X G v_WRONG) (no z_len) F
  have h_Book_fits := E_Book_fits.callee (P := P) (w := w) (base := base) (mg := mg) c_Book.cl fun _ _ F => ok_fits (CH := C_Halving) TB (PySem.W.mg_of X G v_WRONG) g_crowd_of h_Book_has_strangers F
  have h_Book_ill := E_Book_ill.callee (P := P) (w := w) (base := base) (mg := mg) c_Book.cl fun _ _ F => ok_ill (CH := C_Halving) TB (PySem.W.mg_of X G v_CLASH) h_Book_suspects g_tell F
  have h_Book_search := E_Book_search.callee (P := P) (w := w) (base := base) (mg := mg) c_Book.cl fun _ _ F => ok_search (CH := C_Halving) TB (PySem.W.mg_of X G v_WRONG) k_Halving F
  have h_Book_next_pool := E_Book_next_pool.callee (P := P) (w := w) (base := base) (mg := mg) c_Book.cl fun _ _ F => ok_next (CH := C_Halving) TB (PySem.W.mg_of X G v_NOT_NOW) (no z_len) h_Halving_pool F
  have h_Book_told := E_Book_told.callee (P := P) (w := w) (base := base) (mg := mg) c_Book.cl fun _ _ F => ok_told (CH := C_Halving) TB (PySem.W.mg_of X G v_WRONG) (PySem.W.mg_of X G v_NOT_NOW) h_Halving_is_over h_Halving_take_in F
  have h_Book_found := E_Book_found.callee (P := P) (w := w) (base := base) (mg := mg) c_Book.cl fun _ _ F => ok_found (CH := C_Halving) TB TH (PySem.W.mg_of X G v_NOT_NOW) (no z_len) F
  have h_Book_find_answer := E_Book_find_answer.callee (P := P) (w := w) (base := base) (mg := mg) c_Book.cl fun _ _ F => ok_find (CH := C_Halving) TB (PySem.W.mg_of X G v_SETS) (PySem.W.mg_of X G v_LEAST) (PySem.W.mg_of X G v_NONE_FITS) (PySem.W.mg_of X G v_BETWEEN) (no z_max) k_Covers h_Covers_size_of h_Covers_smallest h_Covers_how_many h_Covers_least h_Covers_in_some h_Covers_in_all h_Book_everybody h_Book_certainly_well h_Book_suspects g_tell g_people_of F
  have h_Book_about_covers := E_Book_about_covers.callee (P := P) (w := w) (base := base) (mg := mg) c_Book.cl fun _ _ F => ok_about (CH := C_Halving) TB (PySem.W.mg_of X G v_WRONG) (PySem.W.mg_of X G v_MOST_ILL) h_Book_find_answer F
  have g_answer_next := D_answer_next.callee (P := P) (w := w) (base := base) fun _ _ F => ok_next_a (PySem.W.mg_of X G v_BEGIN) (PySem.W.mg_of X G v_TEST) (PySem.W.mg_of X G v_DROP) (PySem.W.mg_of X G v_WELL) (PySem.W.mg_of X G v_ILL) (PySem.W.mg_of X G v_FITS) (PySem.W.mg_of X G v_SETS) (PySem.W.mg_of X G v_LEAST) (PySem.W.mg_of X G v_CERTAIN) (PySem.W.mg_of X G v_SEARCH) (PySem.W.mg_of X G v_NEXT) (PySem.W.mg_of X G v_TOLD) h_Line_take_number h_Line_take_row h_Book_begin h_Book_add_test h_Book_drop h_Book_certainly_well h_Book_ill h_Book_fits h_Book_about_covers h_Book_search h_Book_next_pool h_Book_told h_Book_found g_tell F
  exact ok_answers (no z_len) k_Line k_Book h_Line_goes_on g_answer_next F
theorem app1 {R : Type} {c1 : PySem.W.Codec} (f : PySem.W.Codec.fn R [c1]) (x1 : c1.denote) (u : Unit) : PySem.W.Codec.app [c1] f (x1, u) = f x1 := rfl
theorem request (K : PySem.W.Frag) (w : World) (h : Heap) (vals : List Value) (args : List PySem.W.WData) (a : PySem.W.Codec.denoteAll PySem.Challenge.rw_pooledtests_s01_answers.args) (KX : K.In h)
    (hd : PySem.W.Codec.decAll PySem.Challenge.rw_pooledtests_s01_answers.args args = some a) (hask : PySem.W.Codec.app PySem.Challenge.rw_pooledtests_s01_answers.args PySem.Challenge.rw_pooledtests_s01_answers.asked a = true)
    (hw : PySem.W.WellAll w.params h vals args) : vals.length = (["calls"] : List Str).length ∧ vals.all okV = true ∧ ∃ ret : List Int, PySem.Challenge.rw_pooledtests_s01_answers.ret.enc (PySem.W.Codec.app PySem.Challenge.rw_pooledtests_s01_answers.args PySem.Challenge.rw_pooledtests_s01_answers.f a) = .list (ret.map .int) ∧
        spAnswers K (vals.map abV) (argHp K h) (fun v H => ∃ b, v = .ref b ∧ H b = some (.lst (ret.map V.int))) fun _ _ _ => False := by
  obtain ⟨x1, q1, rfl, h1, hd⟩ := dec_consI hd
  obtain rfl := dec_endI hd
  obtain ⟨l, u⟩ := a
  obtain ⟨rfl, l1, s1⟩ := dec_intsI h1
  have ask : PySh12.answers_asked l = true := (app1 (R := Bool) (c1 := .list 0 30000 (.int 0 4294967295)) @PySh12.answers_asked l u).symm.trans hask
  have el : zs (nats l) = l := by
    unfold nats
    show (l.map Int.toNat).map (fun (n : Nat) => (n : Int)) = l
    rw [List.map_map]
    refine (List.map_congr_left fun x hx => ?_).trans (List.map_id l)
    have := (s1 x hx).1
    show ((x.toNat : Nat) : Int) = x
    omega
  cases hw with
  | cons w1 hw =>
    cases hw
    obtain ⟨o1, a, e1, hS⟩ := well_ints KX (Nat.le_of_lt (lt_line (by omega))) w1
    rw [nats_vN (fun z hz => (s1 z hz).1)] at hS
    exact ⟨rfl, by simp [o1], PySh12.answers l, rfl, a, nats l, by simp [e1], hS, by rw [el]; exact ask, fun b H' hb => ⟨b, rfl, by rw [el] at hb; exact hb⟩⟩
end My
namespace PySem.W.Fast
def tw15556318042922389703 := ()
def tw8357325053707101945 := ()
def tw7553687399589111318 := ()
def tw5235866681820669547 := ()
def tw5753338638244329467 := ()
def tw8636071641647313524 := ()
def tw4763242011454989046 := ()
def tw1950470690202080794 := ()
def tw10569263395002456669 := ()
def tw10301046697054762735 := ()
def tw18262740645531729216 := ()
def tw9004368905938049840 := ()
def tw5164227731973944035 := ()
def tw9933921971302267297 := ()
def tw7991419345922531228 := ()
def tw1474078599560617259 := ()
def tw17099449506704534993 := ()
def tw13709026711924209708 := ()
def tw7512315758505131435 := ()
def tw6782836354320920712 := ()
def tw11701132972159466058 := ()
def tw1340275598523357348 := ()
def tw16913989202220074343 := ()
def tw1640934388730062355 := ()
def tw4073493376704199750 := ()
def tw11853969957458797414 := ()
def tw17371045584637978233 := ()
def tw13201194370937893141 := ()
def tw6121589825552718877 := ()
def tw17740169418881713502 := ()
def tw16868148001619418853 := ()
def tw17321760950277619352 := ()
def tw10451084342686329115 := ()
def tw16046841975783154144 := ()
def tw2380942884574245239 := ()
def tw7061436825507746890 := ()
def tw13218409758130811064 := ()
def tw2943802736886914577 := ()
def tw9830560860823740565 := ()
def tw13792279831032359910 := ()
def tw13108042775550421916 := ()
def tw7612744215087163866 := ()
def tw5624754204207807590 := ()
def tw16166753512709550229 := ()
def tw10122315448038791428 := ()
def tw4833548941267752750 := ()
def tw15672529155597213957 := ()
def tw9122103453358830895 := ()
def tw2511268296280510027 := ()
def tw5570813195618891850 := ()
def tw3051426503719988430 := ()
def tw17576864887709476293 := ()
def tw11282500098870115365 := ()
def tw12790680798178033058 := ()
def tw1656773539565385039 := ()
def tw3713194952399826171 := ()
def tw16632008970103166702 := ()
def tw17421066779851862163 := ()
def tw16800298540134965243 := ()
def tw13885917763111661415 := ()
def tw10989142807953886680 := ()
def tw8103747783520686056 := ()
def tw1219841328362953398 := ()
def tw10506903856176683213 := ()
def tw5052857694279165184 := ()
def tw13626361256292291820 := ()
def tw4460664146406261741 := ()
def tw5728024457794599893 := ()
end PySem.W.Fast
open PySem PySem.W PyProof.Rows
set_option maxRecDepth 100000 in
set_option maxHeartbeats 0 in
theorem PySem.Challenge.cw_pooledtests_s01_answers_holds : PySem.Challenge.rw_pooledtests_s01_answers.Holds := by
  w_on; k_headS; (case hw => exact ⟨[.list [.int 0, .int 1]], by decide +kernel, by decide +kernel⟩)
  k_fillS
  refine L2.walk_spec (r := PySem.Challenge.rw_pooledtests_s01_answers) (k := 13) (xs := (["calls"] : List Str)) (sp := fun K => My.spAnswers K) rfl ⟨rfl, by decide, by decide⟩ (fun w h Y => PySem.W.kIn_of Y) ?F (fun w h vals args a => My.request _ w h vals args a)
  case F =>
    intro w mg fa h KX G hmg
    refine' My.all_mk KX G hmg ?a1 (L2.clsFacts_mk ?a2 ?a3 ?a4 ?a5 ?a6 ?a7) ?a8 ?a9 ?a10 ?a11 ?a12 ?a13 (L2.topMeth_mk ?a14 ?a15 ?a16 ?a17 ?a18 ?a19) (L2.topMeth_mk ?a20 ?a21 ?a22 ?a23 ?a24 ?a25) (L2.topMeth_mk ?a26 ?a27 ?a28 ?a29 ?a30 ?a31) (L2.topMeth_mk ?a32 ?a33 ?a34 ?a35 ?a36 ?a37) (L2.topMeth_mk ?a38 ?a39 ?a40 ?a41 ?a42 ?a43) (L2.topMeth_mk ?a44 ?a45 ?a46 ?a47 ?a48 ?a49) (L2.topMeth_mk ?a50 ?a51 ?a52 ?a53 ?a54 ?a55) (L2.topMeth_mk ?a56 ?a57 ?a58 ?a59 ?a60 ?a61) (L2.topMeth_mk ?a62 ?a63 ?a64 ?a65 ?a66 ?a67) (L2.topMeth_mk ?a68 ?a69 ?a70 ?a71 ?a72 ?a73) (L2.topMeth_mk ?a74 ?a75 ?a76 ?a77 ?a78 ?a79) (L2.topMeth_mk ?a80 ?a81 ?a82 ?a83 ?a84 ?a85) (L2.topMeth_mk ?a86 ?a87 ?a88 ?a89 ?a90 ?a91) ?a92 (L2.clsFacts_mk ?a93 ?a94 ?a95 ?a96 ?a97 ?a98) ?a99 ?a100 (L2.topMeth_mk ?a101 ?a102 ?a103 ?a104 ?a105 ?a106) (L2.topMeth_mk ?a107 ?a108 ?a109 ?a110 ?a111 ?a112) (L2.topMeth_mk ?a113 ?a114 ?a115 ?a116 ?a117 ?a118) (L2.topMeth_mk ?a119 ?a120 ?a121 ?a122 ?a123 ?a124) ?a125 (L2.clsFacts_mk ?a126 ?a127 ?a128 ?a129 ?a130 ?a131) ?a132 ?a133 ?a134 ?a135 ?a136 (L2.topMeth_mk ?a137 ?a138 ?a139 ?a140 ?a141 ?a142) (L2.topMeth_mk ?a143 ?a144 ?a145 ?a146 ?a147 ?a148) (L2.topMeth_mk ?a149 ?a150 ?a151 ?a152 ?a153 ?a154) (L2.topMeth_mk ?a155 ?a156 ?a157 ?a158 ?a159 ?a160) (L2.topMeth_mk ?a161 ?a162 ?a163 ?a164 ?a165 ?a166) (L2.topMeth_mk ?a167 ?a168 ?a169 ?a170 ?a171 ?a172) (L2.topMeth_mk ?a173 ?a174 ?a175 ?a176 ?a177 ?a178) (L2.topMeth_mk ?a179 ?a180 ?a181 ?a182 ?a183 ?a184) (L2.topMeth_mk ?a185 ?a186 ?a187 ?a188 ?a189 ?a190) (L2.topMeth_mk ?a191 ?a192 ?a193 ?a194 ?a195 ?a196) (L2.topMeth_mk ?a197 ?a198 ?a199 ?a200 ?a201 ?a202) (L2.topMeth_mk ?a203 ?a204 ?a205 ?a206 ?a207 ?a208) (L2.topMeth_mk ?a209 ?a210 ?a211 ?a212 ?a213 ?a214) (L2.topMeth_mk ?a215 ?a216 ?a217 ?a218 ?a219 ?a220) (L2.topMeth_mk ?a221 ?a222 ?a223 ?a224 ?a225 ?a226) (L2.topMeth_mk ?a227 ?a228 ?a229 ?a230 ?a231 ?a232) ?a233 (L2.clsFacts_mk ?a234 ?a235 ?a236 ?a237 ?a238 ?a239) ?a240 ?a241 ?a242 ?a243 (L2.topMeth_mk ?a244 ?a245 ?a246 ?a247 ?a248 ?a249) (L2.topMeth_mk ?a250 ?a251 ?a252 ?a253 ?a254 ?a255) (L2.topMeth_mk ?a256 ?a257 ?a258 ?a259 ?a260 ?a261) (L2.topMeth_mk ?a262 ?a263 ?a264 ?a265 ?a266 ?a267) (L2.topMeth_mk ?a268 ?a269 ?a270 ?a271 ?a272 ?a273) (L2.topDef_mk KX G ?a274 ?a275 ?a276 ?a277 ?a278) (L2.topDef_mk KX G ?a279 ?a280 ?a281 ?a282 ?a283) (L2.topDef_mk KX G ?a284 ?a285 ?a286 ?a287 ?a288) (L2.topDef_mk KX G ?a289 ?a290 ?a291 ?a292 ?a293) (L2.topDef_mk KX G ?a294 ?a295 ?a296 ?a297 ?a298) (L2.topDef_mk KX G ?a299 ?a300 ?a301 ?a302 ?a303) (L2.topDef_mk KX G ?a304 ?a305 ?a306 ?a307 ?a308) (L2.topDef_mk KX G ?a309 ?a310 ?a311 ?a312 ?a313) (L2.topDef_mk KX G ?a314 ?a315 ?a316 ?a317 ?a318) (L2.topDef_mk KX G ?a319 ?a320 ?a321 ?a322 ?a323) (L2.topDef_mk KX G ?a324 ?a325 ?a326 ?a327 ?a328) (L2.topDef_mk KX G ?a329 ?a330 ?a331 ?a332 ?a333) ?a334 ?a335 ?a336 ?a337 ?a338 ?a339 ?a340 ?a341 ?a342 ?a343 ?a344 ?a345 ?a346 ?a347 ?a348 ?a349 ?a350 ?a351 ?a352 ?a353 ?a354 ?a355 ?a356 ?a357 ?a358 ?a359 ?a360 ?a361 ?a362 ?a363 ?a364 ?a365 ?a366
    case a1 | a2 | a3 | a4 | a5 | a6 | a7 | a8 | a9 | a10 | a11 | a12 | a13 | a14 | a15 | a16 | a17 | a18 | a20 | a21 | a22 | a23 | a24 | a26 | a27 | a28 | a29 | a30 | a32 | a33 | a34 | a35 | a36 | a38 | a39 | a40 | a41 | a42 | a44 | a45 | a46 | a47 | a48 | a50 | a51 | a52 | a53 | a54 | a56 | a57 | a58 | a59 | a60 | a62 | a63 | a64 | a65 | a66 | a68 | a69 | a70 | a71 | a72 | a74 | a75 | a76 | a77 | a78 | a80 | a81 | a82 | a83 | a84 | a86 | a87 | a88 | a89 | a90 | a92 | a93 | a94 | a95 | a96 | a97 | a98 | a99 | a100 | a101 | a102 | a103 | a104 | a105 | a107 | a108 | a109 | a110 | a111 | a113 | a114 | a115 | a116 | a117 | a119 | a120 | a121 | a122 | a123 | a125 | a126 | a127 | a128 | a129 | a130 | a131 | a132 | a133 | a134 | a135 | a136 | a137 | a138 | a139 | a140 | a141 | a143 | a144 | a145 | a146 | a147 | a149 | a150 | a151 | a152 | a153 | a155 | a156 | a157 | a158 | a159 | a161 | a162 | a163 | a164 | a165 | a167 | a168 | a169 | a170 | a171 | a173 | a174 | a175 | a176 | a177 | a179 | a180 | a181 | a182 | a183 | a185 | a186 | a187 | a188 | a189 | a191 | a192 | a193 | a194 | a195 | a197 | a198 | a199 | a200 | a201 | a203 | a204 | a205 | a206 | a207 | a209 | a210 | a211 | a212 | a213 | a215 | a216 | a217 | a218 | a219 | a221 | a222 | a223 | a224 | a225 | a227 | a228 | a229 | a230 | a231 | a233 | a234 | a235 | a236 | a237 | a238 | a239 | a240 | a241 | a242 | a243 | a244 | a245 | a246 | a247 | a248 | a250 | a251 | a252 | a253 | a254 | a256 | a257 | a258 | a259 | a260 | a262 | a263 | a264 | a265 | a266 | a268 | a269 | a270 | a271 | a272 | a274 | a275 | a276 | a277 | a279 | a280 | a281 | a282 | a284 | a285 | a286 | a287 | a289 | a290 | a291 | a292 | a294 | a295 | a296 | a297 | a299 | a300 | a301 | a302 | a304 | a305 | a306 | a307 | a309 | a310 | a311 | a312 | a314 | a315 | a316 | a317 | a319 | a320 | a321 | a322 | a324 | a325 | a326 | a327 | a329 | a330 | a331 | a332 | a334 | a335 | a336 | a337 | a338 | a339 | a340 | a341 | a342 | a343 | a344 | a345 | a346 | a347 | a348 | a349 | a350 | a351 | a352 | a353 | a354 | a355 | a356 | a357 | a358 | a359 | a360 | a361 | a362 | a363 | a364 | a365 | a366 => k_is
    case a19 | a61 | a73 | a85 | a91 | a154 | a202 | a208 | a249 | a293 | a298 | a303 | a313 => exact fun _ _ _ _ _ _ us hl => match us, hl with | [_, _, _], _ => rfl
    case a25 | a31 | a79 | a106 | a148 | a160 | a166 | a196 | a214 | a226 | a273 | a288 | a318 | a328 => exact fun _ _ _ _ _ _ us hl => match us, hl with | [_, _], _ => rfl
    case a37 | a43 | a49 | a55 | a67 => exact fun _ _ _ _ _ _ us hl => match us, hl with | [_, _, _, _], _ => rfl
    case a112 | a118 | a124 | a142 | a172 | a178 | a184 | a190 | a220 | a232 | a255 | a261 | a267 | a278 | a283 | a308 | a323 | a333 => exact fun _ _ _ _ _ _ us hl => match us, hl with | [_], _ => rfl
#print axioms PySem.Challenge.cw_pooledtests_s01_answers_holds
