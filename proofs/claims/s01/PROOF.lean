import PyProof.Rows.All
import Wide.All
import OpenK.AllK
import Wide.FinOn
import PyProof.EqAt
import PyProof.EqKinds
import PyProof.TupleCall
import KE.BitLaws
import Open.SpecLaws
import KE.OsHead
import KE.OsGo
import KE.KLam
import KE.KNestM
import KE.KMinKey
import PySem.Challenge.RW_twobaskets_s01_answers
set_option Elab.async false
set_option linter.all false
set_option maxRecDepth 100000
set_option Elab.async false
set_option linter.all false
set_option maxRecDepth 100000
namespace L2
open PySem PySem.Spec PyProof.Rows

noncomputable abbrev Key := Sum Int Str
noncomputable def keyIs : Key → Value → Bool
  | .inl k, v => Value.isInt k v
  | .inr x, v => Value.isStrOf x v
noncomputable def keyH (w : World) : Key → Int
  | .inl k => hashInt k
  | .inr x => hashStr w x
theorem keyIs_shape : ∀ {k : Key} {v : Value}, keyIs k v = true → (∃ i t, k = Sum.inl i ∧ v = Value.int i t) ∨ (∃ x t, k = Sum.inr x ∧ v = Value.str x t)
  | .inl i, v, h => by
    obtain ⟨t, e⟩ := Value.isInt_shape (k := i) (v := v) h
    exact .inl ⟨i, t, rfl, e⟩
  | .inr x, v, h => by
    obtain ⟨t, e⟩ := Value.isStrOf_shape (x := x) (v := v) h
    exact .inr ⟨x, t, rfl, e⟩
theorem keyIs_int (i : Int) (t : Tok) : keyIs (.inl i) (.int i t) = true := by simp [keyIs, Value.isInt]
theorem keyIs_str (x : Str) (t : Tok) : keyIs (.inr x) (.str x t) = true := by simp [keyIs, Value.isStrOf]
theorem key_ll (a b : Int) : decide ((Sum.inl a : Key) = Sum.inl b) = (a == b) := by
  by_cases e : a = b
  · subst e; simp
  · have h : ¬ (Sum.inl a : Key) = Sum.inl b := fun q => e (Sum.inl.inj q)
    rw [decide_eq_false h]
    exact (beq_eq_false_iff_ne.mpr e).symm
theorem key_rr (a b : Str) : decide ((Sum.inr a : Key) = Sum.inr b) = decide (a = b) := by
  by_cases e : a = b
  · subst e; simp
  · have h : ¬ (Sum.inr a : Key) = Sum.inr b := fun q => e (Sum.inr.inj q)
    rw [decide_eq_false h, decide_eq_false e]
theorem key_lr (a : Int) (b : Str) : decide ((Sum.inl a : Key) = Sum.inr b) = false := decide_eq_false (fun q => nomatch q)
theorem key_rl (a : Str) (b : Int) : decide ((Sum.inr a : Key) = Sum.inl b) = false := decide_eq_false (fun q => nomatch q)

noncomputable def mixKind (prog : Program) (w : World) : PySem.KeyKind prog w Key where
  is := keyIs
  hash := keyH w
  inj := fun v a b ha hb => by
    rcases keyIs_shape ha with ⟨i, t, rfl, rfl⟩ | ⟨x, t, rfl, rfl⟩
    · rcases keyIs_shape hb with ⟨j, u, rfl, e⟩ | ⟨y, u, rfl, e⟩
      · injection e with e1 _; rw [e1]
      · exact nomatch e
    · rcases keyIs_shape hb with ⟨j, u, rfl, e⟩ | ⟨y, u, rfl, e⟩
      · exact nomatch e
      · injection e with e1 _; rw [e1]
  byValue := fun k v h => by
    rcases keyIs_shape h with ⟨i, t, rfl, rfl⟩ | ⟨x, t, rfl, rfl⟩ <;> rfl
  pyHash := fun hv h => by
    rcases keyIs_shape hv with ⟨i, t, rfl, rfl⟩ | ⟨x, t, rfl, rfl⟩
    · exact wpAny_pyHash_int h
    · exact wpAny_pyHash_str h
  eqBool := fun hu hv h => by
    rcases keyIs_shape hu with ⟨i, t, rfl, rfl⟩ | ⟨x, t, rfl, rfl⟩
    · rcases keyIs_shape hv with ⟨j, u, rfl, rfl⟩ | ⟨y, u, rfl, rfl⟩
      · rw [key_ll] at h; exact wpAny_eqBool_int h
      · rw [key_lr] at h; exact SeqAt.EqAt.int_str i t y u _ _ _ _ h
    · rcases keyIs_shape hv with ⟨j, u, rfl, rfl⟩ | ⟨y, u, rfl, rfl⟩
      · rw [key_rl] at h; exact SeqAt.EqAt.str_int x t j u _ _ _ _ h
      · rw [key_rr] at h; exact wpAny_eqBool_str h
  «strs» := fun k x t v h => by
    rcases keyIs_shape h with ⟨i, u, rfl, e⟩ | ⟨y, u, rfl, e⟩
    · exact nomatch e
    · injection e with e1 _
      subst e1
      cases v <;> rfl

theorem mixKind_int (prog : Program) (w : World) (i : Int) (t : Tok) : (mixKind prog w).is (.inl i) (.int i t) = true := keyIs_int i t
theorem mixKind_str (prog : Program) (w : World) (x : Str) (t : Tok) : (mixKind prog w).is (.inr x) (.str x t) = true := keyIs_str x t
end L2

namespace L2
open PySem PySem.Spec PyProof.Rows

inductive V where
  | non | bl (b : Bool) | int (i : Int) | str (x : Str) | byt (b : Array UInt8) | flt (b : UInt64) | ref (a : Addr) | ty (n : String)
  deriving DecidableEq

noncomputable def RelV : V → Value → Prop
  | .non, u => u = Value.none
  | .bl b, u => u = Value.bool b
  | .int i, u => ∃ t, u = Value.int i t
  | .str x, u => ∃ t, u = Value.str x t
  | .byt b, u => ∃ t, u = Value.bytes b t
  | .flt b, u => ∃ t, u = Value.float b t
  | .ref a, u => u = Value.ref a
  | .ty n, u => u = Value.type n

noncomputable abbrev Vals : List V → List Value → Prop := Paired RelV
theorem Vals.length {xs : List V} {us : List Value} (r : Vals xs us) : xs.length = us.length := Paired.length r
theorem Vals.get : ∀ {xs : List V} {us : List Value} {i : Nat} {x : V}, Vals xs us → xs[i]? = some x → ∃ u, us[i]? = some u ∧ RelV x u
  | _, _, _, _, .nil, e => by simp at e
  | _, _, 0, _, .cons r _, e => by simp at e; subst e; exact ⟨_, rfl, r⟩
  | _, _, i + 1, x, .cons _ t, e => by
    obtain ⟨u, h1, h2⟩ := Vals.get (i := i) (x := x) t (by simpa using e)
    exact ⟨u, by simpa using h1, h2⟩
theorem Vals.append : ∀ {xs ys : List V} {us ws : List Value}, Vals xs us → Vals ys ws → Vals (xs ++ ys) (us ++ ws)
  | _, _, _, _, .nil, s => s
  | _, _, _, _, .cons r t, s => .cons r (Vals.append t s)
theorem Vals.take : ∀ {xs : List V} {us : List Value} (n : Nat), Vals xs us → Vals (xs.take n) (us.take n)
  | _, _, 0, _ => .nil
  | _, _, _ + 1, .nil => .nil
  | _, _, n + 1, .cons r t => .cons r (Vals.take n t)
theorem Vals.drop : ∀ {xs : List V} {us : List Value} (n : Nat), Vals xs us → Vals (xs.drop n) (us.drop n)
  | _, _, 0, r => r
  | _, _, _ + 1, .nil => .nil
  | _, _, n + 1, .cons _ t => Vals.drop n t
noncomputable def RelO : Option V → Option Value → Prop
  | some v, some u => RelV v u
  | none, none => True
  | _, _ => False
noncomputable def KV {κ : Type} : List (κ × V) → List (κ × Value) → Prop := Paired fun (p : κ × V) (q : κ × Value) => p.1 = q.1 ∧ RelV p.2 q.2

noncomputable def kV : Key → V
  | .inl i => .int i
  | .inr x => .str x

inductive HO where
  /-- a list -/
  | lst (xs : List V)
  /-- a tuple (never changes) -/
  | tup (xs : List V)
  /-- a dict whose keys are ints and texts; one whose keys are tuples of ints and texts (the empty one is both) -/
  | dK (kvs : List (Key × V)) | dT (kvs : List (List Key × V))
  /-- a set of ints: its members, its size -/
  | set (S : Int → Bool) (n : Nat)
  /-- an instance of the class at C, its dict at dx, its attributes -/
  | ins (C dx : Addr) (fs : List (Str × V))
  /-- the dict of the instance at x -/
  | own (x : Addr)
  /-- the dict of an exception -/
  | xd (fs : List (Str × V))
  /-- a bound method, f of x -/
  | met (f x : Addr)
  /-- a range object lo, lo + 1, .. below hi -/
  | rng (lo hi : Int)
  /-- a thing that is known to the object (the script; a dict while a loop walks it): read, never written while it is so -/
  | frz (o : Obj) (u : HO)
  /-- a code object's table -/
  | tbl (ps : Array Value)
  /-- any other thing, by what is true of its one object (a def of one's own: SetO a S n := HO.ext fun h => ..) -/
  | ext (φ : Heap → Prop)

noncomputable abbrev Hp := Addr → Option HO
noncomputable def upd (H : Hp) (a : Addr) (o : HO) : Hp := fun b => if b = a then some o else H b
theorem upd_same {H : Hp} {a : Addr} {o : HO} : upd H a o a = some o := by unfold upd; rw [if_pos rfl]
theorem upd_ne {H : Hp} {a b : Addr} {o : HO} (h : b ≠ a) : upd H a o b = H b := by unfold upd; rw [if_neg h]
theorem upd_upd {H : Hp} {a : Addr} {o u : HO} : upd (upd H a o) a u = upd H a u := by
  funext b; unfold upd; split <;> rfl
noncomputable def tblQual (ps : Array Value) : Str := match ps.getD 2 .none with
  | .str q _ => q
  | _ => ""
noncomputable def TblOk (H : Hp) (h : Heap) (a : Addr) (ps : Array Value) : Prop :=
  ∃ qs : Array Value, h.get? a = some { cls := .none, data := .fields qs } ∧ (qs = #[] ∨ ∃ c' : Addr, H c' = some (.own a) ∧ qs = #[ps.getD 0 .none, ps.getD 1 .none, .ref c'] ∧ h.CodeRec (.ref c') (tblQual ps))
theorem ne_of {H : Hp} {a b : Addr} {o u : HO} (h : H a = some o) (h' : H b = some u) (d : o ≠ u) : a ≠ b := by
  intro e; subst e; rw [h] at h'; exact d (Option.some.inj h')
theorem ne_of_none {H : Hp} {a b : Addr} {o : HO} (h : H a = some o) (h' : H b = none) : a ≠ b := by
  intro e; subst e; rw [h] at h'; cases h'

section
variable (P : Program) (w : World)
noncomputable def ObjOk (H : Hp) (h : Heap) (a : Addr) : HO → Prop
  | .lst xs => xs.length ≤ sizeLine ∧ ∃ (its : List Value) (n : Nat), Vals xs its ∧ h.get? a = some { cls := .type "list", data := .seq its.toArray n }
  | .tup xs => xs.length ≤ sizeLine ∧ ∃ its : List Value, Vals xs its ∧ IsTup h a its.toArray
  | .dK kvs => kvs.length ≤ sizeLine ∧ (a == sysModules) = false ∧ ∃ vs, KV kvs vs ∧ h.DictOf (mixKind P w) a vs
  | .dT kvs => kvs.length ≤ sizeLine ∧ (a == sysModules) = false ∧ ∃ xs : List (List Key × Addr × Value),
      Paired (fun (p : List Key × V) (q : List Key × Addr × Value) => p.1 = q.1 ∧ H q.2.1 = some (.tup (p.1.map kV)) ∧ RelV p.2 q.2.2) kvs xs ∧
      ∃ o es ep, h.get? a = some o ∧ o.ExactDict ∧ o.data = .dict es ep ∧ es.toList = xs.map (entryOfKey (tupleKind (mixKind P w))) ∧ (xs.map (·.1)).Nodup
  | .set S n => h.SetOf (intKind P w) a S n
  | .ins C dx fs => H dx = some (.own a) ∧ fs.length ≤ 1000 ∧ dx ≠ a ∧ h.get? a = some (PySem.W.instObj C dx) ∧
      ∃ mA, h.Ns1 dx mA ∧ (∀ f, RelO (fs.lookup f) (mA f)) ∧ PySem.Within mA (fs.map (·.1))
  | .own _ => ∃ o, h.get? a = some o
  | .xd fs => ∃ mA, h.Ns1 a mA ∧ ∀ f, RelO (fs.lookup f) (mA f)
  | .rng lo hi => ∃ t u v, h.get? a = some { cls := .type "range", data := .fields #[.int lo t, .int hi u, .int 1 v] }
  | .frz o u => h.get? a = some o ∧ ObjOk H h a u
  | .tbl ps => TblOk H h a ps
  | .met f x => h.get? a = some (PySem.W.methodObj (.ref f) (.ref x))
  | .ext φ => φ h ∧ (∃ o, h.get? a = some o) ∧ ∀ h1 h2 : Heap, φ h1 → (∀ o, h1.get? a = some o → h2.get? a = some o) → φ h2
noncomputable def HOk (H : Hp) (h : Heap) : Prop := ∀ a o, H a = some o → ObjOk P w H h a o
end

section
variable {P : Program} {w : World} {H H' : Hp} {h h' : Heap} {a : Addr} {o : HO}
theorem ObjOk.lt (x : ObjOk P w H h a o) : a < h.objs.size := by
  cases o with
  | lst xs => obtain ⟨_, _, _, _, e⟩ := x; exact Heap.lt_size e
  | tup xs => obtain ⟨_, _, _, p⟩ := x; exact p.lt
  | dK kvs => obtain ⟨_, _, _, _, o, _, _, e, _⟩ := x; exact Heap.lt_size e
  | dT kvs => obtain ⟨_, _, _, _, o, _, _, e, _⟩ := x; exact Heap.lt_size e
  | set S n => obtain ⟨o, _, _, _, e, _⟩ := x; exact Heap.lt_size e
  | ins C dx fs => obtain ⟨_, _, _, e, _⟩ := x; exact Heap.lt_size e
  | own y => obtain ⟨_, e⟩ := x; exact Heap.lt_size e
  | xd fs => obtain ⟨_, ⟨_, _, _, e, _⟩, _⟩ := x; exact Heap.lt_size e
  | rng lo hi => obtain ⟨_, _, _, e⟩ := x; exact Heap.lt_size e
  | frz ob u => obtain ⟨e, _⟩ := x; exact Heap.lt_size e
  | tbl ps => obtain ⟨_, e, _⟩ := x; exact Heap.lt_size e
  | met f y => exact Heap.lt_size (show h.get? a = some _ from x)
  | ext φ => obtain ⟨_, ⟨_, e⟩, _⟩ := x; exact Heap.lt_size e
theorem Paired.mapP {α β : Type} {F G : α → β → Prop} : ∀ {l₁ : List α} {l₂ : List β}, Paired F l₁ l₂ → (∀ a b, F a b → G a b) → Paired G l₁ l₂
  | _, _, .nil, _ => .nil
  | _, _, .cons r t, f => .cons (f _ _ r) (Paired.mapP t f)
theorem ObjOk.stay (x : ObjOk P w H h a o) (k : ∀ b u, (b = a ∨ H b = some (.own a)) → h.get? b = some u → h'.get? b = some u)
    (ho : ∀ b, H b = some (.own a) → H' b = some (.own a)) (ht : ∀ b xs, H b = some (.tup xs) → H' b = some (.tup xs)) : ObjOk P w H' h' a o := by
  induction o with
  | lst xs => obtain ⟨z, its, n, r, e⟩ := x; exact ⟨z, its, n, r, k _ _ (.inl rfl) e⟩
  | tup xs => obtain ⟨z, its, r, ob, e, c⟩ := x; exact ⟨z, its, r, ob, k _ _ (.inl rfl) e, c⟩
  | dK kvs => obtain ⟨z, y, vs, r, ob, es, ep, e, c⟩ := x; exact ⟨z, y, vs, r, ob, es, ep, k _ _ (.inl rfl) e, c⟩
  | dT kvs =>
    obtain ⟨z, y, xs, r, ob, es, ep, e, c⟩ := x
    exact ⟨z, y, xs, Paired.mapP r fun p q z => ⟨z.1, ht _ _ z.2.1, z.2.2⟩, ob, es, ep, k _ _ (.inl rfl) e, c⟩
  | set S n => obtain ⟨ob, es, ep, t, e, c⟩ := x; exact ⟨ob, es, ep, t, k _ _ (.inl rfl) e, c⟩
  | ins C dx fs =>
    obtain ⟨d, z, ne, e, mA, ⟨od, es, ep, e2, c⟩, r⟩ := x
    exact ⟨ho _ d, z, ne, k _ _ (.inl rfl) e, mA, ⟨od, es, ep, k _ _ (.inr d) e2, c⟩, r⟩
  | own y => obtain ⟨ob, e⟩ := x; exact ⟨ob, k _ _ (.inl rfl) e⟩
  | xd fs => obtain ⟨mA, ⟨od, es, ep, e, c⟩, r⟩ := x; exact ⟨mA, ⟨od, es, ep, k _ _ (.inl rfl) e, c⟩, r⟩
  | rng lo hi => obtain ⟨t, u, v, e⟩ := x; exact ⟨t, u, v, k _ _ (.inl rfl) e⟩
  | frz ob u ih => obtain ⟨e, q⟩ := x; exact ⟨k _ _ (.inl rfl) e, ih q⟩
  | tbl ps =>
    obtain ⟨qs, e, z⟩ := x
    refine ⟨qs, k _ _ (.inl rfl) e, ?_⟩
    rcases z with z | ⟨c', hc, hq, c2, ob, vs, t, e1, e2, r⟩
    · exact .inl z
    · cases e1
      exact .inr ⟨c', ho _ hc, hq, c', ob, vs, t, rfl, k _ _ (.inr hc) e2, r⟩
  | met f y =>
    have e : h.get? a = some (PySem.W.methodObj (.ref f) (.ref y)) := x
    show h'.get? a = some (PySem.W.methodObj (.ref f) (.ref y))
    exact k a _ (.inl rfl) e
  | ext φ => obtain ⟨p, ⟨o, e⟩, st⟩ := x; exact ⟨st _ _ p fun o q => k _ _ (.inl rfl) q, ⟨o, k _ _ (.inl rfl) e⟩, st⟩
theorem HOk.lt (x : HOk P w H h) (e : H a = some o) : a < h.objs.size := (x a o e).lt
theorem HOk.fresh (x : HOk P w H h) (e : h.objs.size ≤ a) : H a = none := by
  cases q : H a with
  | none => rfl
  | some u => exact absurd (Nat.lt_of_lt_of_le (x.lt q) e) (Nat.lt_irrefl _)
theorem HOk.kept (x : HOk P w H h) (k : ∀ b u, h.get? b = some u → h'.get? b = some u) : HOk P w H h' := fun a o e =>
  (x a o e).stay (fun b u _ q => k b u q) (fun _ q => q) fun _ _ q => q
theorem HOk.laid (x : HOk P w H h) (k : ∀ b u, h.get? b = some u → h'.get? b = some u) (hp : h.objs.size ≤ a) (new : ObjOk P w (upd H a o) h' a o) : HOk P w (upd H a o) h' := fun b u e => by
  have hn := x.fresh hp
  by_cases hb : b = a
  · subst hb; rw [upd_same] at e; cases e; exact new
  · rw [upd_ne hb] at e
    exact (x b u e).stay (fun c v _ q => k c v q) (fun c q => by rw [upd_ne (ne_of_none q hn)]; exact q) fun c xs q => by rw [upd_ne (ne_of_none q hn)]; exact q
end

noncomputable def Rd (H : Hp) (a : Addr) (u : HO) : Prop := H a = some u ∨ ∃ o, H a = some (.frz o u)
theorem Rd.ok {P : Program} {w : World} {H : Hp} {h : Heap} {a : Addr} {u : HO} (r : Rd H a u) (x : HOk P w H h) : ObjOk P w H h a u := by
  rcases r with r | ⟨o, r⟩
  · exact x a u r
  · obtain ⟨_, q⟩ := x a _ r
    exact q
noncomputable def Mut : Option HO → Prop
  | some (.lst _) => True
  | some (.dK _) => True
  | some (.dT _) => True
  | some (.set _ _) => True
  | some (.ins _ _ _) => True
  | some (.ext _) => True
  | _ => False
section
variable {P : Program} {w : World} {H : Hp} {h h' : Heap} {x e : Addr} {o' : HO}
theorem HOk.write (ok : HOk P w H h) (mu : Mut (H x)) (he : e = x ∨ H e = some (.own x)) (k : ∀ b u, b ≠ e → h.get? b = some u → h'.get? b = some u) (heo : ∃ u, h'.get? e = some u)
    (new : ObjOk P w (upd H x o') h' x o') : HOk P w (upd H x o') h' := fun b u q => by
  have nown : ∀ c y, H c = some (.own y) → c ≠ x := fun c y r z => by subst z; rw [r] at mu; exact mu
  have ntup : ∀ c xs, H c = some (.tup xs) → c ≠ x := fun c xs r z => by subst z; rw [r] at mu; exact mu
  by_cases hb : b = x
  · subst hb; rw [upd_same] at q; cases q; exact new
  · rw [upd_ne hb] at q
    by_cases hbe : b = e
    · have q' : H b = some (.own x) := by
        rcases he with z | z
        · exact absurd (hbe.trans z) hb
        · rw [hbe]; exact z
      rw [q] at q'; cases q'
      obtain ⟨v, hv⟩ := heo
      exact ⟨v, by rw [hbe]; exact hv⟩
    · refine (ok b u q).stay (fun c v hc r => k c v ?_ r) (fun c r => by rw [upd_ne (nown c b r)]; exact r) fun c xs r => by rw [upd_ne (ntup c xs r)]; exact r
      rcases hc with rfl | hc
      · exact hbe
      · rintro rfl
        rcases he with z | z
        · exact nown c b hc z
        · rw [hc] at z; cases z; exact hb rfl
end

structure Un (fs ex : List Addr) (H H' : Hp) (h h' : Heap) : Prop where
  keep : ∀ b o, h.get? b = some o → H b = none → b ∉ fs → b ∉ ex → h'.get? b = some o
  slot : ∀ b o, h.get? b = some o → H b = none → b ∈ fs → b ∉ ex → ∃ sl, h'.get? b = some { o with slots := sl }
  free : ∀ b o, h.get? b = some o → H b = none → b ∉ ex → H' b = none
  there : ∀ b o, h.get? b = some o → b ∉ ex → ∃ o', h'.get? b = some o'
  tups : ∀ b xs, H b = some (.tup xs) → H' b = some (.tup xs)
  frzs : ∀ b o u, H b = some (.frz o u) → H' b = some (.frz o u)
  tbls : ∀ b ps, H b = some (.tbl ps) → ∃ more, H' b = some (.tbl (ps ++ more))
section
variable {fs fs' ex ex' : List Addr} {H H1 H2 : Hp} {h h1 h2 h' : Heap} {a x e : Addr} {o : HO}
theorem Un.any (u : Un fs ex H H1 h h1) {b : Addr} {ob : Obj} (q : h.get? b = some ob) (n : H b = none) (hx : b ∉ ex) : ∃ sl, h1.get? b = some { ob with slots := sl } := by
  by_cases hb : b ∈ fs
  · exact u.slot b ob q n hb hx
  · exact ⟨ob.slots, u.keep b ob q n hb hx⟩
theorem Un.kept (k : ∀ b u, h.get? b = some u → h'.get? b = some u) : Un fs ex H H h h' :=
  ⟨fun b ob q _ _ _ => k b ob q, fun b ob q _ _ _ => ⟨ob.slots, k b ob q⟩, fun _ _ _ n _ => n, fun b ob q _ => ⟨ob, k b ob q⟩, fun _ _ q => q, fun _ _ _ q => q, fun _ ps q => ⟨#[], by rw [q]; simp⟩⟩
theorem Un.refl : Un fs ex H H h h := Un.kept fun _ _ q => q
theorem Un.laid (k : ∀ b u, h.get? b = some u → h'.get? b = some u) (hp : h.objs.size ≤ a) (hn : H a = none) : Un fs ex H (upd H a o) h h' where
  keep := fun b u q _ _ _ => k b u q
  slot := fun b u q _ _ _ => ⟨u.slots, k b u q⟩
  free := fun b u q n _ => by rw [upd_ne (Nat.ne_of_lt (Nat.lt_of_lt_of_le (Heap.lt_size q) hp))]; exact n
  there := fun b u q _ => ⟨u, k b u q⟩
  tups := fun b xs q => by rw [upd_ne (ne_of_none q hn)]; exact q
  frzs := fun b u xs q => by rw [upd_ne (ne_of_none q hn)]; exact q
  tbls := fun b ps q => ⟨#[], by rw [upd_ne (ne_of_none q hn), q]; simp⟩
theorem Un.write (mu : Mut (H x)) (he : e = x ∨ H e = some (.own x)) (k : ∀ b u, b ≠ e → h.get? b = some u → h'.get? b = some u) (heo : ∃ u, h'.get? e = some u) : Un fs ex H (upd H x o) h h' := by
  have hx : ∀ b, H b = none → b ≠ x := fun b n z => by subst z; rw [n] at mu; exact mu
  have hb : ∀ b, H b = none → b ≠ e := fun b n z => by
    subst z
    rcases he with r | r
    · exact hx b n r
    · rw [n] at r; cases r
  have hm : ∀ b u, H b = some u → ¬ Mut (some u) → b ≠ x := fun b u q nm z => by subst z; rw [q] at mu; exact nm mu
  refine ⟨fun b u q n _ _ => k b u (hb b n) q, fun b u q n _ _ => ⟨u.slots, k b u (hb b n) q⟩, fun b u q n _ => by rw [upd_ne (hx b n)]; exact n, fun b u q _ => ?_,
    fun b xs q => by rw [upd_ne (hm b _ q fun z => z)]; exact q, fun b u xs q => by rw [upd_ne (hm b _ q fun z => z)]; exact q, fun b ps q => ⟨#[], by rw [upd_ne (hm b _ q fun z => z), q]; simp⟩⟩
  by_cases hbe : b = e
  · subst hbe; exact heo
  · exact ⟨u, k b u hbe q⟩
end

noncomputable def trk (h : Heap) (H : Hp) : List Addr := (List.range h.objs.size).filter fun a => (H a).isSome
noncomputable def hidT (h : Heap) (H : Hp) : Heap := PySem.W.hideAll h (trk h H)
theorem hidT_size (h : Heap) (H : Hp) : (hidT h H).objs.size = h.objs.size := PySem.W.hideAll_size _ _
theorem hidT_get {h : Heap} {H : Hp} {b : Addr} {o : Obj} (e : h.get? b = some o) (n : H b = none) : (hidT h H).get? b = some o :=
  PySem.W.hideAll_get _ e fun hm => by
    have q : (H b).isSome = true := (List.mem_filter.mp hm).2
    rw [n] at q; simp at q
theorem of_hidT {h : Heap} {H : Hp} {b : Addr} {o : Obj} (e : (hidT h H).get? b = some o) : h.get? b = some o ∧ H b = none := by
  have e' : h.get? b = some o := PySem.W.of_hideAll (trk h H) e
  refine ⟨e', ?_⟩
  cases q : H b with
  | none => rfl
  | some x =>
    have hm : b ∈ trk h H := List.mem_filter.mpr ⟨List.mem_range.mpr (Heap.lt_size e'), by simp [q]⟩
    have z : (hidT h H).get? b = none := PySem.W.hideAll_none (trk h H) hm
    rw [z] at e; cases e

end L2

namespace L2
open PySem PySem.Spec PyProof.Rows

structure Mod (K : PySem.W.Frag) (mg : Str → Option Value) (base : Heap) : Prop where
  kin : K.In base
  glob : base.Ns mainGlobals mg
  blt : ∃ mb, base.Ns builtinsNs mb ∧ ∀ x : Str, x ≠ "__name__" → mb x = bootBuiltins x
  nolimit : base.NoLimit

structure Cx where
  prog : Program
  w : World
  K : PySem.W.Frag
  mg : Str → Option Value
  base : Heap
  A : Around
  N : List Str
  s_0 : Shared
  H_0 : Hp
  env : Env
  outer : List Env
  stack : List Env
  ex : List Addr
  fn : Str → Bool
  calm : Bool
  pn : List (Addr × Obj)
  xe : Value → Shared → Prop
noncomputable def frs (l : List Env) : List Addr := l.filterMap (·.frame)
noncomputable abbrev Cx.fs (X : Cx) : List Addr := frs X.outer

noncomputable def Vis (sc : Scope) (x : Str) : Prop := sc.names.lookup x = some .local ∨ sc.names.lookup x = some .cell ∨ sc.names.lookup x = some .free
noncomputable def Loc (sc : Scope) (x : Str) : Prop := sc.names.lookup x = some .local ∨ sc.names.lookup x = some .cell
noncomputable def Look (env : Env) (h : Heap) (m : Str → Option Value) (x : Str) (u : Value) : Prop :=
  (env.kindOf x = some .local ∧ m x = some u) ∨ ((env.kindOf x = some .cell ∨ env.kindOf x = some .free) ∧ ∃ c, env.cells.lookup x = some c ∧ h.IsCell c (some u))

structure Cx.Ok (X : Cx) : Prop where
  mod : Mod X.K X.mg X.base
  kind : X.env.scope.kind = .function
  glob : X.env.globals = mainGlobals
  blt : X.env.builtins = builtinsNs
  above : X.s_0.heap.objs.size ≤ X.env.locals
  inj : ∀ x y c, X.env.cells.lookup x = some c → X.env.cells.lookup y = some c → x = y
  has : ∀ x, (X.env.kindOf x = some .cell ∨ X.env.kindOf x = some .free) → ∃ c, X.env.cells.lookup x = some c
  cab : ∀ x c, X.fn x = true → X.env.cells.lookup x = some c → X.s_0.heap.objs.size ≤ c
  hd : X.calm = true → X.A.handled = none
  frames : X.A.frames = some X.stack
  stk : X.stack = X.outer ∨ (X.stack = X.env :: X.outer ∧ X.env.frame = some X.env.locals)
  exf : ∀ b ∈ X.ex, b ≠ X.env.locals ∧ ∀ x c, X.env.cells.lookup x = some c → c ≠ b
  bs : ∀ b o, X.base.get? b = some o → X.s_0.heap.get? b = some o ∧ X.H_0 b = none
  bsz : X.base.objs.size ≤ X.s_0.heap.objs.size
  noex : ∀ b o, X.base.get? b = some o → b ∉ X.ex
  exfs : ∀ b ∈ X.ex, b ∉ X.fs
  funs : X.s_0.heap.FunFrames X.base X.outer
  frf : ∀ b ∈ X.fs, X.H_0 b = none

structure Inv (X : Cx) (pins : List (Addr × Obj)) (σ : List (Option V)) (H : Hp) (s : Shared) : Prop where
  ok : X.Ok
  os : s.os = X.s_0.os
  bare : AllBare s.gens
  base : Un X.fs X.ex X.H_0 H X.s_0.heap s.heap
  loc : ∃ m, s.heap.Ns X.env.locals m ∧ ∀ (i : Nat) (x : Str) (v : V), X.N[i]? = some x → σ[i]? = some (some v) → Vis X.env.scope x → ∃ u, RelV v u ∧ Look X.env s.heap m x u
  cell : ∀ x c, X.env.cells.lookup x = some c → ∃ v, s.heap.IsCell c v
  free : H X.env.locals = none
  freeC : ∀ x c, X.env.cells.lookup x = some c → H c = none
  pin : ∀ p ∈ X.pn ++ pins, s.heap.get? p.1 = some p.2 ∧ H p.1 = none ∧ p.1 ≠ X.env.locals ∧ p.1 ∉ X.fs ∧ ∀ v, p.2.data ≠ .cell v
  hok : HOk X.prog X.w H s.heap
  len : σ.length = X.N.length

section
variable {X : Cx} {pins : List (Addr × Obj)} {σ : List (Option V)} {H H' : Hp} {s : Shared} {h' : Heap}

theorem Cx.Ok.nofr (ok : X.Ok) {b : Addr} {o : Obj} (e : X.base.get? b = some o) : b ∉ X.fs := fun hb => by
  have := (ok.funs.mem hb).1
  rw [e] at this; cases this
theorem Inv.bs (I : Inv X pins σ H s) : ∀ b o, X.base.get? b = some o → s.heap.get? b = some o ∧ H b = none := fun b o e =>
  ⟨I.base.keep b o (I.ok.bs b o e).1 (I.ok.bs b o e).2 (I.ok.nofr e) (I.ok.noex b o e), I.base.free b o (I.ok.bs b o e).1 (I.ok.bs b o e).2 (I.ok.noex b o e)⟩
theorem Inv.bk (I : Inv X pins σ H s) : ∀ b o, X.base.get? b = some o → s.heap.get? b = some o := fun b o e => (I.bs b o e).1
theorem Inv.mod (I : Inv X pins σ H s) : Mod X.K X.mg X.base := I.ok.mod
theorem Inv.kIn (I : Inv X pins σ H s) : X.K.In s.heap := I.ok.mod.kin.keeps I.bk
theorem Inv.nolimit (I : Inv X pins σ H s) : s.heap.NoLimit := I.ok.mod.nolimit.keeps I.bk
theorem Inv.fr (I : Inv X pins σ H s) : ∃ m, Fr X.base X.env.locals s.heap m :=
  let ⟨m, hn, _⟩ := I.loc
  ⟨m, hn, I.bk, Nat.le_trans I.ok.bsz I.ok.above⟩
theorem Inv.lt (I : Inv X pins σ H s) : X.env.locals < s.heap.objs.size := let ⟨_, hn, _⟩ := I.loc; hn.lt
theorem Inv.sz (I : Inv X pins σ H s) : X.s_0.heap.objs.size ≤ s.heap.objs.size := Nat.le_trans I.ok.above (Nat.le_of_lt I.lt)
theorem Inv.nofs (I : Inv X pins σ H s) {a : Addr} (h : s.heap.objs.size ≤ a) : a ∉ X.fs := fun hb => by
  obtain ⟨_, o, ho, _⟩ := I.ok.funs.mem hb
  exact absurd (Nat.lt_of_lt_of_le (Heap.lt_size ho) (Nat.le_trans I.sz h)) (Nat.lt_irrefl _)
theorem Inv.cne (I : Inv X pins σ H s) : ∀ x c, X.env.cells.lookup x = some c → c ≠ X.env.locals := fun x c e z => by
  obtain ⟨v, o, ho, hd⟩ := I.cell x c e
  obtain ⟨m, ⟨o', es, ep, ho', hd', _⟩, _⟩ := I.loc
  rw [z, ho'] at ho; cases ho; rw [hd'] at hd; cases hd
theorem Inv.funs (I : Inv X pins σ H s) : s.heap.FunFrames X.base X.outer := by
  have all : ∀ (l : List Env), (∀ b ∈ frs l, b ∈ X.fs) → X.s_0.heap.FunFrames X.base l → s.heap.FunFrames X.base l := by
    intro l
    induction l with
    | nil => intro _ _; trivial
    | cons env r ih =>
      intro hs hl
      obtain ⟨hk, ⟨L, o, hf, hn, ho, hd⟩, hr⟩ := hl
      have hL : L ∈ X.fs := hs L (by unfold frs; rw [List.filterMap_cons, hf]; exact List.mem_cons_self)
      obtain ⟨sl, e⟩ := I.base.slot L o ho (I.ok.frf L hL) hL fun z => I.ok.exfs L z hL
      exact ⟨hk, ⟨L, _, hf, hn, e, hd⟩, ih (fun b hb => hs b (by unfold frs; rw [List.filterMap_cons, hf]; exact List.mem_cons_of_mem _ hb)) hr⟩
  exact all X.outer (fun _ hb => hb) I.ok.funs

theorem Inv.stack (I : Inv X pins σ H s) : s.heap.FunFrames X.base X.stack := by
  rcases I.ok.stk with e | ⟨e, hf⟩
  · rw [e]; exact I.funs
  · rw [e]
    obtain ⟨m, hn, _⟩ := I.loc
    refine .cons (by rw [I.ok.kind]; decide) hf hn ?_ I.funs
    exact Heap.get?_none_of_le (Nat.le_trans I.ok.bsz I.ok.above)
theorem Inv.stkSub (I : Inv X pins σ H s) : ∀ b ∈ frs X.stack, b ∈ X.env.locals :: X.fs := fun b hb => by
  rcases I.ok.stk with e | ⟨e, hf⟩
  · rw [e] at hb; exact List.mem_cons_of_mem _ hb
  · rw [e] at hb
    unfold frs at hb
    rw [List.filterMap_cons, hf] at hb
    exact hb
theorem Inv.stkFree (I : Inv X pins σ H s) : ∀ b ∈ frs X.stack, H b = none := fun b hb => by
  rcases List.mem_cons.mp (I.stkSub b hb) with e | hb
  · rw [e]; exact I.free
  · obtain ⟨_, o, ho, _⟩ := I.ok.funs.mem hb
    exact I.base.free b o ho (I.ok.frf b hb) fun z => I.ok.exfs b z hb

theorem Inv.step {g' : Array GenState} {t' : Nat} {d' : Drawn} {ch : List Addr} (I : Inv X pins σ H s)
    (hch : ∀ b ∈ ch, (b ∈ X.ex ∨ X.s_0.heap.objs.size ≤ b) ∧ b ≠ X.env.locals ∧ (∀ x c, X.env.cells.lookup x = some c → c ≠ b) ∧ ∀ p ∈ X.pn ++ pins, p.1 ≠ b)
    (keep : ∀ b o, b ≠ X.env.locals → b ∉ X.fs → b ∉ ch → s.heap.get? b = some o → H b = none → h'.get? b = some o)
    (slot : ∀ b o, b ≠ X.env.locals → b ∈ X.fs → b ∉ ch → s.heap.get? b = some o → H b = none → ∃ sl, h'.get? b = some { o with slots := sl }) (free : ∀ b o, b ∉ ch → s.heap.get? b = some o → H b = none → H' b = none)
    (there : ∀ b o, b ∉ ch → s.heap.get? b = some o → ∃ o', h'.get? b = some o')
    (tups : ∀ b xs, H b = some (.tup xs) → H' b = some (.tup xs)) (frzs : ∀ b o u, H b = some (.frz o u) → H' b = some (.frz o u)) (tbls : ∀ b ps, H b = some (.tbl ps) → ∃ more, H' b = some (.tbl (ps ++ more)))
    (ns : ∀ m, s.heap.Ns X.env.locals m → h'.Ns X.env.locals m) (hok : HOk X.prog X.w H' h') (hg : AllBare g') :
    Inv X pins σ H' { s with heap := h', gens := g', drawn := d', toks := t' } := by
  have neL : ∀ b o, X.s_0.heap.get? b = some o → b ≠ X.env.locals := fun b o e => Nat.ne_of_lt (Nat.lt_of_lt_of_le (Heap.lt_size e) I.ok.above)
  have neC : ∀ b o, X.s_0.heap.get? b = some o → b ∉ X.ex → b ∉ ch := fun b o e hx hb => by
    rcases (hch b hb).1 with z | z
    · exact hx z
    · exact absurd (Nat.lt_of_lt_of_le (Heap.lt_size e) z) (Nat.lt_irrefl _)
  have cellK : ∀ x c, X.env.cells.lookup x = some c → ∀ v, s.heap.IsCell c v → h'.IsCell c v := fun x c e v ⟨o, ho, hd⟩ => by
    have nch : c ∉ ch := fun z => (hch c z).2.2.1 x c e rfl
    by_cases hc : c ∈ X.fs
    · obtain ⟨sl, q⟩ := slot c o (I.cne x c e) hc nch ho (I.freeC x c e)
      exact ⟨_, q, hd⟩
    · exact ⟨o, keep c o (I.cne x c e) hc nch ho (I.freeC x c e), hd⟩
  refine ⟨I.ok, I.os, hg, ⟨fun b o e n hb hx => ?_, fun b o e n hb hx => ?_, fun b o e n hx => ?_, fun b o e hx => ?_, fun b xs e => tups b xs (I.base.tups b xs e), fun b o xs e => frzs b o xs (I.base.frzs b o xs e), fun b ps e => ?_⟩, ?_, fun x c e => ?_, ?_, fun x c e => ?_, fun p hp => ?_, hok, I.len⟩
  · exact keep b o (neL b o e) hb (neC b o e hx) (I.base.keep b o e n hb hx) (I.base.free b o e n hx)
  · obtain ⟨sl, e1⟩ := I.base.slot b o e n hb hx
    obtain ⟨sl', e2⟩ := slot b _ (neL b o e) hb (neC b o e hx) e1 (I.base.free b o e n hx)
    exact ⟨sl', e2⟩
  · obtain ⟨o', e1⟩ := I.base.there b o e hx
    exact free b o' (neC b o e hx) e1 (I.base.free b o e n hx)
  · obtain ⟨o', e1⟩ := I.base.there b o e hx
    exact there b o' (neC b o e hx) e1
  · obtain ⟨m1, e1⟩ := I.base.tbls b ps e
    obtain ⟨m2, e2⟩ := tbls b _ e1
    exact ⟨m1 ++ m2, by rw [e2, Array.append_assoc]⟩
  · obtain ⟨m, hn, hl⟩ := I.loc
    refine ⟨m, ns m hn, fun i x v e1 e2 e3 => ?_⟩
    obtain ⟨u, r, l⟩ := hl i x v e1 e2 e3
    refine ⟨u, r, ?_⟩
    rcases l with l | ⟨k, c, e, z⟩
    · exact .inl l
    · exact .inr ⟨k, c, e, cellK x c e _ z⟩
  · obtain ⟨v, z⟩ := I.cell x c e
    exact ⟨v, cellK x c e v z⟩
  · obtain ⟨m, ⟨o, _, _, ho, _⟩, _⟩ := I.loc
    exact free _ o (fun z => (hch _ z).2.1 rfl) ho I.free
  · obtain ⟨v, o, ho, hd⟩ := I.cell x c e
    exact free c o (fun z => (hch c z).2.2.1 x c e rfl) ho (I.freeC x c e)
  · obtain ⟨e, n, ne, nf, d⟩ := I.pin p hp
    have nch : p.1 ∉ ch := fun z => (hch p.1 z).2.2.2 p hp rfl
    exact ⟨keep p.1 p.2 ne nf nch e n, free p.1 p.2 nch e n, ne, nf, d⟩
theorem Inv.un {t' : Nat} (I : Inv X pins σ H s) (u : Un X.fs [] H H' s.heap h') (hok : HOk X.prog X.w H' h') : Inv X pins σ H' { s with heap := h', toks := t' } := by
  obtain ⟨m, ⟨o, es, ep, ho, r⟩, _⟩ := id I.loc
  obtain ⟨sl, hL⟩ := u.any ho I.free (by simp)
  exact I.step (g' := s.gens) (d' := s.drawn) (ch := []) (fun _ z => nomatch z) (fun b o _ hb _ e n => u.keep b o e n hb (by simp)) (fun b o _ hb _ e n => u.slot b o e n hb (by simp)) (fun b o _ e n => u.free b o e n (by simp)) (fun b o _ e => u.there b o e (by simp)) u.tups u.frzs u.tbls (fun m' hm => by
    obtain ⟨o', es', ep', ho', r'⟩ := hm
    rw [ho] at ho'; cases ho'
    exact ⟨_, es', ep', hL, r'⟩) hok I.bare
theorem Inv.call {g' : Array GenState} {t' : Nat} {d' : Drawn} {ch : List Addr} (I : Inv X pins σ H s) (u : Un (frs X.stack) ch H H' s.heap h') (hok : HOk X.prog X.w H' h') (hg : AllBare g')
    (hch : ∀ b ∈ ch, (b ∈ X.ex ∨ X.s_0.heap.objs.size ≤ b) ∧ b ≠ X.env.locals ∧ (∀ x c, X.env.cells.lookup x = some c → c ≠ b) ∧ ∀ p ∈ X.pn ++ pins, p.1 ≠ b) :
    Inv X pins σ H' { s with heap := h', gens := g', drawn := d', toks := t' } := by
  obtain ⟨m, ⟨o, es, ep, ho, r⟩, _⟩ := id I.loc
  obtain ⟨sl, hL⟩ := u.any ho I.free fun z => (hch _ z).2.1 rfl
  exact I.step (ch := ch) hch (fun b o hL hb hc e n => u.keep b o e n (fun z => (List.mem_cons.mp (I.stkSub b z)).elim hL hb) hc) (fun b o _ _ hc e n => u.any e n hc) (fun b o hc e n => u.free b o e n hc) (fun b o hc e => u.there b o e hc) u.tups u.frzs u.tbls (fun m' hm => by
    obtain ⟨o', es', ep', ho', r'⟩ := hm
    rw [ho] at ho'; cases ho'
    exact ⟨_, es', ep', hL, r'⟩) hok hg
theorem Inv.turned {t' : Nat} {it : Addr} (I : Inv X pins σ H s) (k : ∀ b o, b ≠ it → s.heap.get? b = some o → h'.get? b = some o) (hn : H it = none) (hL : it ≠ X.env.locals)
    (h1 : it ∈ X.ex ∨ X.s_0.heap.objs.size ≤ it) (h2 : ∀ x c, X.env.cells.lookup x = some c → c ≠ it) (h3 : ∀ p ∈ X.pn ++ pins, p.1 ≠ it) : Inv X pins σ H { s with heap := h', toks := t' } := by
  have nit : ∀ b u, H b = some u → b ≠ it := fun b u e z => by rw [z, hn] at e; cases e
  refine I.step (g' := s.gens) (d' := s.drawn) (ch := [it]) (fun b hb => ?_) (fun b o _ _ hc e _ => k b o (fun z => hc (by simp [z])) e) (fun b o _ _ hc e _ => ⟨o.slots, k b o (fun z => hc (by simp [z])) e⟩) (fun _ _ _ _ n => n)
    (fun b o hc e => ⟨o, k b o (fun z => hc (by simp [z])) e⟩) (fun _ _ e => e) (fun _ _ _ e => e) (fun b ps e => ⟨#[], by rw [e]; simp⟩) (fun m hm => ?_) (fun b u e => ?_) I.bare
  · have e : b = it := by simpa using hb
    subst e
    exact ⟨h1, hL, h2, h3⟩
  · obtain ⟨o, es, ep, ho, r⟩ := hm
    exact ⟨o, es, ep, k _ o (Ne.symm hL) ho, r⟩
  · refine (I.hok b u e).stay (fun c v hc q => k c v ?_ q) (fun _ q => q) fun _ _ q => q
    rcases hc with z | z
    · rw [z]; exact nit b u e
    · exact nit c _ z
theorem Inv.tok (I : Inv X pins σ H s) (t : Nat) : Inv X pins σ H { s with toks := t } := I.un (h' := s.heap) (t' := t) Un.refl I.hok
theorem Inv.kept {t' : Nat} (I : Inv X pins σ H s) (k : ∀ b u, s.heap.get? b = some u → h'.get? b = some u) : Inv X pins σ H { s with heap := h', toks := t' } := I.un (Un.kept k) (I.hok.kept k)
theorem Inv.laid {a : Addr} {o : HO} {t' : Nat} (I : Inv X pins σ H s) (k : ∀ b u, s.heap.get? b = some u → h'.get? b = some u) (hp : s.heap.objs.size ≤ a) (new : ObjOk X.prog X.w (upd H a o) h' a o) :
    Inv X pins σ (upd H a o) { s with heap := h', toks := t' } := I.un (Un.laid k hp (I.hok.fresh hp)) (I.hok.laid k hp new)
theorem Inv.write {x e : Addr} {o : HO} {t' : Nat} (I : Inv X pins σ H s) (mu : Mut (H x)) (he : e = x ∨ H e = some (.own x)) (k : ∀ b u, b ≠ e → s.heap.get? b = some u → h'.get? b = some u) (heo : ∃ u, h'.get? e = some u)
    (new : ObjOk X.prog X.w (upd H x o) h' x o) : Inv X pins σ (upd H x o) { s with heap := h', toks := t' } := I.un (Un.write mu he k heo) (I.hok.write mu he k heo new)
theorem Inv.weak {σ' : List (Option V)} (I : Inv X pins σ H s) (hl : σ'.length = σ.length) (w : ∀ (i : Nat) v, σ'[i]? = some (some v) → σ[i]? = some (some v)) : Inv X pins σ' H s :=
  ⟨I.ok, I.os, I.bare, I.base, let ⟨m, hn, hl'⟩ := I.loc; ⟨m, hn, fun i x v e1 e2 e3 => hl' i x v e1 (w i v e2) e3⟩, I.cell, I.free, I.freeC, I.pin, I.hok, hl.trans I.len⟩
theorem Inv.pins_of {pins' : List (Addr × Obj)} (I : Inv X pins σ H s) (h : ∀ p ∈ pins', s.heap.get? p.1 = some p.2 ∧ H p.1 = none ∧ p.1 ≠ X.env.locals ∧ p.1 ∉ X.fs ∧ ∀ v, p.2.data ≠ .cell v) : Inv X pins' σ H s :=
  ⟨I.ok, I.os, I.bare, I.base, I.loc, I.cell, I.free, I.freeC, fun p hp => (List.mem_append.mp hp).elim (fun z => I.pin p (List.mem_append_left _ z)) (h p), I.hok, I.len⟩

theorem nodup_ix {N : List Str} (hN : N.Nodup) {i j : Nat} {x : Str} (a : N[i]? = some x) (b : N[j]? = some x) : i = j := by
  obtain ⟨h1, e1⟩ := List.getElem?_eq_some_iff.mp a
  obtain ⟨h2, e2⟩ := List.getElem?_eq_some_iff.mp b
  exact (List.getElem_inj hN).mp (e1.trans e2.symm)

theorem store_ok2 {M : Model} {A : Around} {E : Value → Shared → Prop} {i : Nat} {x : Str} {v : V} {u : Value} {Q : Unit → Shared → Prop} (I : Inv X pins σ H s) (hN : X.N.Nodup) (hi : X.N[i]? = some x) (hx : Loc X.env.scope x) (r : RelV v u)
    (h : ∀ s', Inv X pins (σ.set i (some v)) H s' → (∃ a, Heap.SameBut a s.heap s'.heap ∧ (a = X.env.locals ∨ X.env.cells.lookup x = some a)) → Q () s') (hf : X.fn x = true ∨ X.env.scope.names.lookup x = some .local := by first | exact .inl rfl | exact .inr rfl | assumption) : wpAny M A (storeName X.env x u) Q E s := by
  obtain ⟨m, hn, hl⟩ := id I.loc
  have hcls : (X.env.scope.kind == .class || (X.env.scope.kind == .module && X.env.locals != X.env.globals)) = false := by rw [I.ok.kind]; rfl
  have hiσ : i < σ.length := by rw [I.len]; exact (List.getElem?_eq_some_iff.mp hi).1
  have cne := I.cne
  have tracked : ∀ {a : Addr} {h' : Heap}, (∃ o, s.heap.get? a = some o ∧ H a = none) → Heap.SameBut a s.heap h' → HOk X.prog X.w H h' := fun {a h'} ha hs b ob e => by
    obtain ⟨_, _, hfree⟩ := ha
    refine (I.hok b ob e).stay (fun c w' hc q => (hs.2 c ?_).trans q) (fun _ q => q) fun _ _ q => q
    rintro rfl
    rcases hc with rfl | hc
    · rw [hfree] at e; cases e
    · rw [hfree] at hc; cases hc
  rcases hx with hk | hk
  · refine wpAny_storeName_local hk hn (fun h' hn' hs => ?_) hcls
    obtain ⟨oL, _, _, hoL, _⟩ := id hn
    refine h _ ⟨I.ok, I.os, I.bare, ⟨fun b o e n hb hx => ?_, fun b o e n hb hx => ?_, I.base.free, fun b o e hx => ?_, I.base.tups, I.base.frzs, I.base.tbls⟩, ⟨_, hn', fun j y v' e1 e2 e3 => ?_⟩, fun y c e => ?_, I.free, I.freeC, fun p hp => ?_, tracked ⟨oL, hoL, I.free⟩ hs, by simpa using I.len⟩ ⟨_, hs, .inl rfl⟩
    · exact (hs.2 b (Nat.ne_of_lt (Nat.lt_of_lt_of_le (Heap.lt_size e) I.ok.above))).trans (I.base.keep b o e n hb hx)
    · obtain ⟨sl, e1⟩ := I.base.slot b o e n hb hx
      exact ⟨sl, (hs.2 b (Nat.ne_of_lt (Nat.lt_of_lt_of_le (Heap.lt_size e) I.ok.above))).trans e1⟩
    · obtain ⟨o', e1⟩ := I.base.there b o e hx
      exact ⟨o', (hs.2 b (Nat.ne_of_lt (Nat.lt_of_lt_of_le (Heap.lt_size e) I.ok.above))).trans e1⟩
    · by_cases hj : j = i
      · subst hj
        rw [hi] at e1; cases e1
        rw [List.getElem?_set_self hiσ] at e2
        cases e2
        exact ⟨u, r, .inl ⟨hk, by simp⟩⟩
      · rw [List.getElem?_set_ne (Ne.symm hj)] at e2
        obtain ⟨u', r', q⟩ := hl j y v' e1 e2 e3
        refine ⟨u', r', ?_⟩
        rcases q with ⟨k, e⟩ | ⟨k, c, e, z⟩
        · refine .inl ⟨k, ?_⟩
          have : y ≠ x := fun e => hj (nodup_ix hN e1 (e ▸ hi))
          simp [this, e]
        · exact .inr ⟨k, c, e, z.sameBut hs (cne y c e)⟩
    · obtain ⟨w', z⟩ := I.cell y c e
      exact ⟨w', z.sameBut hs (cne y c e)⟩
    · obtain ⟨e, n, ne, nf, d⟩ := I.pin p hp
      exact ⟨(hs.2 p.1 ne).trans e, n, ne, nf, d⟩
  · have hfn : X.fn x = true := by
      rcases hf with z | z
      · exact z
      · rw [z] at hk; cases hk
    obtain ⟨c, hc⟩ := I.ok.has x (.inl hk)
    obtain ⟨w', z⟩ := I.cell x c hc
    refine wpAny_storeName_cell I.ok.kind hk hc z (fun h' hc' hs => ?_)
    obtain ⟨oc, hoc, hocd⟩ := id z
    refine h { s with heap := h' } ⟨I.ok, I.os, I.bare, ⟨fun b o e n hb hx => ?_, fun b o e n hb hx => ?_, I.base.free, fun b o e hx => ?_, I.base.tups, I.base.frzs, I.base.tbls⟩, ⟨m, hn.sameBut hs (Ne.symm (cne x c hc)), fun j y v' e1 e2 e3 => ?_⟩, fun y c' e => ?_, I.free, I.freeC, fun p hp => ?_, tracked ⟨oc, hoc, I.freeC x c hc⟩ hs, by simpa using I.len⟩ ⟨c, hs, .inr hc⟩
    · exact (hs.2 b (Nat.ne_of_lt (Nat.lt_of_lt_of_le (Heap.lt_size e) (I.ok.cab x c hfn hc)))).trans (I.base.keep b o e n hb hx)
    · obtain ⟨sl, e1⟩ := I.base.slot b o e n hb hx
      exact ⟨sl, (hs.2 b (Nat.ne_of_lt (Nat.lt_of_lt_of_le (Heap.lt_size e) (I.ok.cab x c hfn hc)))).trans e1⟩
    · obtain ⟨o', e1⟩ := I.base.there b o e hx
      exact ⟨o', (hs.2 b (Nat.ne_of_lt (Nat.lt_of_lt_of_le (Heap.lt_size e) (I.ok.cab x c hfn hc)))).trans e1⟩
    · by_cases hj : j = i
      · subst hj
        rw [hi] at e1; cases e1
        rw [List.getElem?_set_self hiσ] at e2
        cases e2
        exact ⟨u, r, .inr ⟨.inl hk, c, hc, hc'⟩⟩
      · rw [List.getElem?_set_ne (Ne.symm hj)] at e2
        obtain ⟨u', r', q⟩ := hl j y v' e1 e2 e3
        refine ⟨u', r', ?_⟩
        rcases q with q | ⟨k, c', e, z'⟩
        · exact .inl q
        · refine .inr ⟨k, c', e, z'.sameBut hs ?_⟩
          rintro rfl
          exact hj (nodup_ix hN e1 (I.ok.inj _ _ _ e hc ▸ hi))
    · by_cases hcc : c' = c
      · subst hcc; exact ⟨_, hc'⟩
      · obtain ⟨w2, z2⟩ := I.cell y c' e
        exact ⟨w2, z2.sameBut hs hcc⟩
    · obtain ⟨e, n, ne, nf, d⟩ := I.pin p hp
      refine ⟨(hs.2 p.1 ?_).trans e, n, ne, nf, d⟩
      intro q
      rw [q, hoc] at e
      have q' : oc = p.2 := Option.some.inj e
      exact d w' (by rw [← q']; exact hocd)
theorem store_ok {M : Model} {A : Around} {E : Value → Shared → Prop} {i : Nat} {x : Str} {v : V} {u : Value} {Q : Unit → Shared → Prop} (I : Inv X pins σ H s) (hN : X.N.Nodup) (hi : X.N[i]? = some x) (hx : Loc X.env.scope x) (r : RelV v u)
    (h : ∀ s', Inv X pins (σ.set i (some v)) H s' → Q () s') (hf : X.fn x = true ∨ X.env.scope.names.lookup x = some .local := by first | exact .inl rfl | exact .inr rfl | assumption) : wpAny M A (storeName X.env x u) Q E s :=
  store_ok2 I hN hi hx r (fun s' I' _ => h s' I') hf
theorem Inv.call' {s' : Shared} {ch : List Addr} (I : Inv X pins σ H s) (ho : s'.os = s.os) (u : Un (frs X.stack) ch H H' s.heap s'.heap) (hok : HOk X.prog X.w H' s'.heap) (hg : AllBare s'.gens)
    (hch : ∀ b ∈ ch, (b ∈ X.ex ∨ X.s_0.heap.objs.size ≤ b) ∧ b ≠ X.env.locals ∧ (∀ x c, X.env.cells.lookup x = some c → c ≠ b) ∧ ∀ p ∈ X.pn ++ pins, p.1 ≠ b) : Inv X pins σ H' s' := by
  obtain ⟨h', g', d', t', o'⟩ := s'
  have e : o' = s.os := ho
  subst e
  exact I.call (g' := g') (t' := t') (d' := d') u hok hg hch
end

noncomputable abbrev XK := Value → Option Addr → Hp → Prop
noncomputable abbrev St := List (Option V)
noncomputable abbrev VK := V → Hp → Prop
noncomputable abbrev TE := St → Hp → VK → Prop
noncomputable abbrev TT := St → Hp → (Bool → Hp → Prop) → Prop
noncomputable abbrev TA := St → Hp → (List V → Hp → Prop) → Prop
structure Ends where
  nx : St → Hp → Prop
  rt : VK
  bk : St → Hp → Prop := fun _ _ => False
  ct : St → Hp → Prop := fun _ _ => False
noncomputable abbrev TS := Ends → St → Hp → Prop

noncomputable def EP (X : Cx) (pins : List (Addr × Obj)) (σ : St) (Q : VK) (u : Value) (s' : Shared) : Prop := ∃ v H', Inv X pins σ H' s' ∧ RelV v u ∧ Q v H'
noncomputable def TP (X : Cx) (pins : List (Addr × Obj)) (σ : St) (Q : Bool → Hp → Prop) (b : Bool) (s' : Shared) : Prop := ∃ H', Inv X pins σ H' s' ∧ Q b H'
noncomputable def AP (X : Cx) (pins : List (Addr × Obj)) (σ : St) (Q : List V → Hp → Prop) (us : List Value) (s' : Shared) : Prop := ∃ vs H', Inv X pins σ H' s' ∧ Vals vs us ∧ Q vs H'
noncomputable def SP (X : Cx) (pins : List (Addr × Obj)) (D : Ends) (f : Flow) (s' : Shared) : Prop :=
  match f with
  | .next => ∃ σ' H', Inv X pins σ' H' s' ∧ D.nx σ' H'
  | .brk => ∃ σ' H', Inv X pins σ' H' s' ∧ D.bk σ' H'
  | .cont => ∃ σ' H', Inv X pins σ' H' s' ∧ D.ct σ' H'
  | .ret u => ∃ v σ' H', Inv X pins σ' H' s' ∧ RelV v u ∧ D.rt v H'

noncomputable def PE (X : Cx) (e : Expr) (t : TE) : Prop :=
  ∀ (pins : List (Addr × Obj)) (s : Shared) (σ : St) (H : Hp) (Q : VK), Inv X pins σ H s → t σ H Q → wpAny (model X.prog X.w) X.A (eval e X.env) (EP X pins σ Q) X.xe s
noncomputable def PT (X : Cx) (e : Expr) (t : TT) : Prop :=
  ∀ (pins : List (Addr × Obj)) (s : Shared) (σ : St) (H : Hp) (Q : Bool → Hp → Prop), Inv X pins σ H s → t σ H Q → wpAny (model X.prog X.w) X.A (isTrue e X.env (eval e X.env)) (TP X pins σ Q) X.xe s
noncomputable def PW (X : Cx) (e : Expr) (t : TT) : Prop :=
  ∀ (whole : Sem Value) (pins : List (Addr × Obj)) (s : Shared) (σ : St) (H : Hp) (Q : Bool → Hp → Prop), Inv X pins σ H s → t σ H Q → wpAny (model X.prog X.w) X.A (isTrue e X.env whole) (TP X pins σ Q) X.xe s
theorem PW.pt {X : Cx} {e : Expr} {t : TT} (h : PW X e t) : PT X e t := h _
noncomputable def PA (X : Cx) (es : List Expr) (t : TA) : Prop :=
  ∀ (pos : Pos) (pins : List (Addr × Obj)) (s : Shared) (σ : St) (H : Hp) (Q : List V → Hp → Prop), Inv X pins σ H s → t σ H Q → wpAny (model X.prog X.w) X.A (spliced (backTo pos (starEach es X.env))) (AP X pins σ Q) X.xe s
noncomputable def PS (X : Cx) (st : Stmt) (t : TS) : Prop :=
  ∀ (pins : List (Addr × Obj)) (s : Shared) (σ : St) (H : Hp) (D : Ends), Inv X pins σ H s → t D σ H → wpAny (model X.prog X.w) X.A (exec st X.env) (SP X pins D) X.xe s
noncomputable def PSs (X : Cx) (st : List Stmt) (t : TS) : Prop :=
  ∀ (pins : List (Addr × Obj)) (s : Shared) (σ : St) (H : Hp) (D : Ends), Inv X pins σ H s → t D σ H → wpAny (model X.prog X.w) X.A (execs st X.env) (SP X pins D) X.xe s
theorem thn {α : Type} {t : Sem α} {Q Q' : α → Shared → Prop} {M : Model} {A : Around} {E : Value → Shared → Prop} {s : Shared} (h : wpAny M A t Q E s) (hQ : ∀ a s, Q a s → Q' a s) : wpAny M A t Q' E s := wpAny_mono h hQ fun _ _ x => x
end L2

namespace L2
open PySem PySem.Spec PyProof.Rows
section
variable {X : Cx}

theorem bin {a b : Expr} {ta tb : TE} (ha : PE X a ta) (hb : PE X b tb) {pins : List (Addr × Obj)} {s : Shared} {σ : St} {H : Hp} {R : V → V → Hp → Prop} (I : Inv X pins σ H s) (h : ta σ H fun x H1 => tb σ H1 fun y H2 => R x y H2)
    {α : Type} {Q : α → Shared → Prop} {f : Value → Value → Sem α}
    (hf : ∀ v u s2 x y H2, Inv X pins σ H2 s2 → RelV x v → RelV y u → R x y H2 → wpAny (model X.prog X.w) X.A (f v u) Q X.xe s2) :
    wpAny (model X.prog X.w) X.A (eval a X.env) (fun v s₁ => wpAny (model X.prog X.w) X.A (eval b X.env) (fun u s₂ => wpAny (model X.prog X.w) X.A (f v u) Q X.xe s₂) X.xe s₁) X.xe s := by
  refine thn (ha pins s σ H _ I h) fun v s1 hpt0 => ?_
  obtain ⟨x, H1, I1, r1, q1⟩ := hpt0
  refine thn (hb pins s1 σ H1 _ I1 q1) fun u s2 hpt1 => ?_
  obtain ⟨y, H2, I2, r2, q2⟩ := hpt1
  exact hf v u s2 x y H2 I2 r1 r2 q2

noncomputable def tVar (i : Nat) : TE := fun σ H Q => ∃ v, σ[i]? = some (some v) ∧ Q v H
noncomputable def tC (v : V) : TE := fun _ H Q => Q v H
theorem pe_var {i : Nat} {x : Str} {pos : Pos} (hN : X.N[i]? = some x) (hv : Vis X.env.scope x) (hd : (x == ("__debug__" : Str)) = false := by decide) (hcd : (x == ("__classdict__" : Str)) = false := by decide) : PE X (.Name x pos) (tVar i) := by
  intro pins s σ H Q I h
  obtain ⟨v, e, h⟩ := h
  obtain ⟨m, hn, hl⟩ := I.loc
  obtain ⟨u, r, l⟩ := hl i x v hN e hv
  have fin : EP X pins σ Q u s := ⟨v, H, I, r, h⟩
  rcases l with ⟨hk, hm⟩ | ⟨hk, c, hc, hcell⟩
  · exact wpAny_Name (wpAny_loadName_local I.ok.kind hk hn hm fin) hd
  · rcases hk with hk | hk
    · exact wpAny_Name (wpAny_loadName_cell I.ok.kind hk hc hcell fin) hd
    · exact wpAny_Name (wpAny_loadName_free I.ok.kind hk hc hcell fin hcd) hd
theorem pe_int {i j pos} : PE X (.Constant (.int i) j pos) (tC (.int i)) := fun _ _ _ H _ I h => wpAny_Constant_int ⟨.int i, H, I.tok _, ⟨_, rfl⟩, h⟩
theorem pe_bl {b j pos} : PE X (.Constant (.bool b) j pos) (tC (.bl b)) := fun _ _ _ H _ I h => Constant_bool ⟨.bl b, H, I, rfl, h⟩
theorem pe_non {j pos} : PE X (.Constant .none j pos) (tC .non) := fun _ _ _ H _ I h => Constant_none ⟨.non, H, I, rfl, h⟩
noncomputable def Gl (X : Cx) (x : Str) : Prop := X.env.kindOf x = some .globalImplicit
theorem ld_glob {E : Value → Shared → Prop} {pins : List (Addr × Obj)} {s : Shared} {σ : St} {H : Hp} {x : Str} {u : Value} {pos : Pos} {Q : Value → Shared → Prop} (I : Inv X pins σ H s) (hg : Gl X x) (hm : X.mg x = some u) (h : Q u s)
    (hd : (x == ("__debug__" : Str)) = false := by decide) : wpAny (model X.prog X.w) X.A (eval (.Name x pos) X.env) Q E s :=
  Calls.Name_function_global I.ok.kind hg (Calls.loadGlobal_global (by rw [I.ok.glob]; exact I.mod.glob.keeps I.bk) hm h) hd
theorem ld_blt {E : Value → Shared → Prop} {pins : List (Addr × Obj)} {s : Shared} {σ : St} {H : Hp} {x : Str} {u : Value} {pos : Pos} {Q : Value → Shared → Prop} (I : Inv X pins σ H s) (hg : Gl X x) (hm : X.mg x = none) (hv : bootBuiltins x = some u) (h : Q u s)
    (hn : x ≠ "__name__" := by decide) (hd : (x == ("__debug__" : Str)) = false := by decide) : wpAny (model X.prog X.w) X.A (eval (.Name x pos) X.env) Q E s := by
  obtain ⟨mb, h1, h2⟩ := I.mod.blt
  exact Calls.Name_function_global I.ok.kind hg (Calls.loadGlobal_builtin (by rw [I.ok.glob]; exact I.mod.glob.keeps I.bk) hm (by rw [I.ok.blt]; exact h1.keeps I.bk) ((h2 x hn).trans hv) h) hd
theorem pe_glob {x : Str} {v : V} {u : Value} {pos : Pos} (hg : Gl X x) (hm : X.mg x = some u) (r : RelV v u) (hd : (x == ("__debug__" : Str)) = false := by decide) : PE X (.Name x pos) (tC v) :=
  fun _ _ _ H _ I h => ld_glob I hg hm ⟨v, H, I, r, h⟩ hd
variable {a b : Expr} {ta tb : TE} {pos : Pos}
noncomputable def PC (X : Cx) (op : CmpOp) (a b : Expr) (t : TE) : Prop :=
  ∀ (pins : List (Addr × Obj)) (s : Shared) (σ : St) (H : Hp) (Q : VK), Inv X pins σ H s → t σ H Q →
    wpAny (model X.prog X.w) X.A (eval a X.env) (fun v s₁ => wpAny (model X.prog X.w) X.A (eval b X.env) (fun u s₂ => wpAny (model X.prog X.w) X.A (compareOp op v u) (EP X pins σ Q) X.xe s₂) X.xe s₁) X.xe s
noncomputable def tIsN (ta : TE) : TE := fun σ H Q => ta σ H fun x H1 => Q (.bl (decide (x = .non))) H1
theorem RelV.none_iff {x : V} {v : Value} (r : RelV x v) : (v == Value.none) = decide (x = .non) := by
  cases x with
  | non => cases r; rfl
  | bl _ => cases r; rfl
  | int _ => obtain ⟨t, rfl⟩ := r; rfl
  | str _ => obtain ⟨t, rfl⟩ := r; rfl
  | byt _ => obtain ⟨t, rfl⟩ := r; rfl
  | flt _ => obtain ⟨t, rfl⟩ := r; rfl
  | ref _ => cases r; rfl
  | ty _ => cases r; rfl
theorem pc_isN {j pos'} (ha : PE X a ta) : PC X .Is a (.Constant .none j pos') (tIsN ta) := by
  intro pins s σ H Q I h
  refine thn (ha pins s σ H _ I h) fun v s1 hpt2 => ?_
  obtain ⟨x, H1, I1, r1, q1⟩ := hpt2
  exact Constant_none (is_none_gen ⟨.bl _, H1, I1, by rw [r1.none_iff]; rfl, q1⟩)
noncomputable def tB (t : TE) : TT := fun σ H Q => t σ H fun x H1 => ∃ c, x = .bl c ∧ Q c H1
theorem pt_cmp {op : CmpOp} {t : TE} (h : PC X op a b t) (h1 : behindInMarks op b = false := by first | exact nobehind _ (by decide) (by decide) | rfl) : PT X (.Compare a [op] [b] pos) (tB t) := by
  intro pins s σ H Q I hw
  refine wpAny_isTrue_Compare1 (thn (h pins s σ H _ I hw) fun v s1 h1 => thn h1 fun u s2 h2 => thn h2 fun c s3 ⟨x, H1, I1, r1, q1⟩ => ?_) h1
  obtain ⟨d, rfl, q⟩ := q1
  cases r1
  exact wpAny_truthy_bool ⟨H1, I1, q⟩
theorem pt_val {e : Expr} {t : TE} (h : PE X e t) (he : ∀ whole, isTrue e X.env whole = (do let v ← whole; standAt e.pos; holding [v] (truthy v)) := by intro _; rfl) : PT X e (tB t) := by
  intro pins s σ H Q I hw
  refine isTrue_plain (thn (h pins s σ H _ I hw) fun v s1 ⟨x, H1, I1, r1, q1⟩ => ?_) (he _)
  obtain ⟨d, rfl, q⟩ := q1
  cases r1
  exact wpAny_truthy_bool ⟨H1, I1, q⟩

variable {tA tB' : TT} {rest : List Expr}
noncomputable def tOr (t u : TT) : TT := fun σ H Q => t σ H fun c H1 => if c = true then Q true H1 else u σ H1 Q
noncomputable def tNot (t : TT) : TT := fun σ H Q => t σ H fun c H1 => Q (!c) H1
theorem pw_or1 (ha : PT X a tA) : PW X (.BoolOp .Or [a] pos) tA := by
  intro wh pins s σ H Q I h
  refine isTrue_or (thn (ha pins s σ H Q I h) fun c s1 e => ?_)
  cases c with
  | false => exact isTrue_or_nil e
  | true => exact e
theorem pw_or (ha : PT X a tA) (hb : PW X (.BoolOp .Or (b :: rest) pos) tB') : PW X (.BoolOp .Or (a :: b :: rest) pos) (tOr tA tB') := by
  intro wh pins s σ H Q I h
  refine isTrue_or (thn (ha pins s σ H _ I h) fun c s1 hpt3 => ?_)
  obtain ⟨H1, I1, q1⟩ := hpt3
  cases c with
  | true => exact ⟨H1, I1, q1⟩
  | false => exact hb wh pins s1 σ H1 Q I1 q1
theorem pt_not (ha : PT X a tA) : PT X (.UnaryOp .Not a pos) (tNot tA) := by
  intro pins s σ H Q I h
  exact isTrue_not (ha pins s σ H (fun c H1 => Q (!c) H1) I h)
noncomputable def tAndV (ta tb : TE) : TE := fun σ H Q => ta σ H fun x H1 => ∃ c, x = .bl c ∧ if c = true then tb σ H1 Q else Q (.bl false) H1
noncomputable def tOrV (ta tb : TE) : TE := fun σ H Q => ta σ H fun x H1 => ∃ c, x = .bl c ∧ if c = true then Q (.bl true) H1 else tb σ H1 Q
theorem pe_one {op} {t : TE} (h : PE X a t) : PE X (.BoolOp op [a] pos) t := fun pins s σ H Q I hw => BoolOp_one (h pins s σ H Q I hw)
theorem pe_and (ha : PE X a ta) (hb : PE X (.BoolOp .And (b :: rest) pos) tb) : PE X (.BoolOp .And (a :: b :: rest) pos) (tAndV ta tb) := by
  intro pins s σ H Q I h
  refine BoolOp_and (thn (ha pins s σ H _ I h) fun v s1 hpt4 => ?_)
  obtain ⟨x, H1, I1, r1, q1⟩ := hpt4
  obtain ⟨c, rfl, q1⟩ := q1
  cases r1
  refine wpAny_truthy_bool ?_
  cases c with
  | true => exact hb pins s1 σ H1 Q I1 q1
  | false => exact ⟨.bl false, H1, I1, rfl, q1⟩
theorem pe_or (ha : PE X a ta) (hb : PE X (.BoolOp .Or (b :: rest) pos) tb) : PE X (.BoolOp .Or (a :: b :: rest) pos) (tOrV ta tb) := by
  intro pins s σ H Q I h
  refine BoolOp_or (thn (ha pins s σ H _ I h) fun v s1 hpt5 => ?_)
  obtain ⟨x, H1, I1, r1, q1⟩ := hpt5
  obtain ⟨c, rfl, q1⟩ := q1
  cases r1
  refine wpAny_truthy_bool ?_
  cases c with
  | false => exact hb pins s1 σ H1 Q I1 q1
  | true => exact ⟨.bl true, H1, I1, rfl, q1⟩
noncomputable def tIf (t : TT) (ta tb : TE) : TE := fun σ H Q => t σ H fun c H1 => if c = true then ta σ H1 Q else tb σ H1 Q
theorem pe_ifExp {c : Expr} (hc : PT X c tA) (ha : PE X a ta) (hb : PE X b tb) : PE X (.IfExp c a b pos) (tIf tA ta tb) := by
  intro pins s σ H Q I h
  refine wpAny_IfExp (thn (hc pins s σ H _ I h) fun d s1 hpt6 => ?_)
  obtain ⟨H1, I1, q1⟩ := hpt6
  cases d with
  | true => exact ha pins s1 σ H1 Q I1 q1
  | false => exact hb pins s1 σ H1 Q I1 q1
end
end L2

namespace L2
open PySem PySem.Spec PyProof.Rows

noncomputable def SqL (K : PySem.W.Frag) (H : Hp) (a : Addr) (xs : List V) : Prop :=
  Rd H a (.lst xs) ∨
    ∃ (o : Obj) (its : Array Value) (n : Nat), K.lookup a = some o ∧ o.cls = .type "list" ∧ o.dict = none ∧ o.data = .seq its n ∧ its.size ≤ sizeLine ∧ Vals xs its.toList
noncomputable def SqT (K : PySem.W.Frag) (H : Hp) (a : Addr) (xs : List V) : Prop :=
  Rd H a (.tup xs) ∨
    ∃ (o : Obj) (its : Array Value) (n : Nat), K.lookup a = some o ∧ o.cls = .type "tuple" ∧ o.data = .seq its n ∧ its.size ≤ sizeLine ∧ Vals xs its.toList
noncomputable def absV : Value → Option V
  | .none => some .non
  | .bool b => some (.bl b)
  | .int i _ => some (.int i)
  | .str x _ => some (.str x)
  | .bytes b _ => some (.byt b)
  | .float b _ => some (.flt b)
  | .ref a => some (.ref a)
  | .type n => some (.ty n)
  | _ => none
theorem RelV.abs {x : V} {u : Value} (r : RelV x u) : absV u = some x := by
  cases x with
  | non => cases r; rfl
  | bl _ => cases r; rfl
  | int _ => obtain ⟨t, rfl⟩ := r; rfl
  | str _ => obtain ⟨t, rfl⟩ := r; rfl
  | byt _ => obtain ⟨t, rfl⟩ := r; rfl
  | flt _ => obtain ⟨t, rfl⟩ := r; rfl
  | ref _ => cases r; rfl
  | ty _ => cases r; rfl
theorem RelV.inj {x y : V} {u : Value} (r : RelV x u) (q : RelV y u) : x = y := Option.some.inj (r.abs.symm.trans q.abs)
theorem Vals.inj : ∀ {xs ys : List V} {us : List Value}, Vals xs us → Vals ys us → xs = ys
  | _, _, _, .nil, .nil => rfl
  | _, _, _, .cons r t, .cons r' t' => by rw [r.inj r', Vals.inj t t']
section
variable {X : Cx} {pins : List (Addr × Obj)} {σ : St} {H : Hp} {s : Shared} {a : Addr} {xs ys : List V}
theorem SqL.of {K : PySem.W.Frag} (h : H a = some (.lst xs)) : SqL K H a xs := .inl (.inl h)
theorem SqT.of {K : PySem.W.Frag} (h : H a = some (.tup xs)) : SqT K H a xs := .inl (.inl h)
theorem Inv.list (I : Inv X pins σ H s) (h : SqL X.K H a xs) : ∃ its : List Value, Vals xs its ∧ PlainL s.heap a its.toArray ∧ xs.length ≤ sizeLine := by
  rcases h with h | ⟨o, its, n, hk, hc, hd, hs, hz, r⟩
  · obtain ⟨z, its, n, r, e⟩ := h.ok I.hok
    exact ⟨its, r, ⟨_, n, e, rfl, rfl, rfl⟩, z⟩
  · refine ⟨its.toList, r, ⟨o, n, I.kIn a o hk, hc, hd, by simpa using hs⟩, ?_⟩
    have e := r.length
    simp only [Array.length_toList] at e
    first | lia | omega
theorem Inv.tuple (I : Inv X pins σ H s) (h : SqT X.K H a xs) : ∃ its : List Value, Vals xs its ∧ IsTup s.heap a its.toArray ∧ xs.length ≤ sizeLine := by
  rcases h with h | ⟨o, its, n, hk, hc, hs, hz, r⟩
  · obtain ⟨z, its, r, p⟩ := h.ok I.hok
    exact ⟨its, r, p, z⟩
  · refine ⟨its.toList, r, ⟨o, I.kIn a o hk, hc, n, by simpa using hs⟩, ?_⟩
    have e := r.length
    simp only [Array.length_toList] at e
    first | lia | omega
theorem Inv.list_inj (I : Inv X pins σ H s) (h : SqL X.K H a xs) (h' : SqL X.K H a ys) : xs = ys := by
  obtain ⟨its, r, ⟨o, n, e, _, _, d⟩, _⟩ := I.list h
  obtain ⟨its', r', ⟨o', n', e', _, _, d'⟩, _⟩ := I.list h'
  rw [e] at e'; cases e'
  rw [d] at d'
  injection d' with d1 _
  have : its = its' := by simpa using congrArg Array.toList d1
  subst this
  exact r.inj r'
theorem Inv.tuple_inj (I : Inv X pins σ H s) (h : SqT X.K H a xs) (h' : SqT X.K H a ys) : xs = ys := by
  obtain ⟨its, r, ⟨o, e, _, n, d⟩, _⟩ := I.tuple h
  obtain ⟨its', r', ⟨o', e', _, n', d'⟩, _⟩ := I.tuple h'
  rw [e] at e'; cases e'
  rw [d] at d'
  injection d' with d1 _
  have : its = its' := by simpa using congrArg Array.toList d1
  subst this
  exact r.inj r'
end

noncomputable abbrev Cx.wish (X : Cx) (E : Value → Shared → Prop) : Cx := { X with xe := E }
noncomputable abbrev Cx.nox (X : Cx) : Cx := X.wish fun _ _ => False
theorem Cx.Ok.wish {X : Cx} (ok : X.Ok) (E : Value → Shared → Prop) : (X.wish E).Ok :=
  ⟨ok.mod, ok.kind, ok.glob, ok.blt, ok.above, ok.inj, ok.has, ok.cab, ok.hd, ok.frames, ok.stk, ok.exf, ok.bs, ok.bsz, ok.noex, ok.exfs, ok.funs, ok.frf⟩
theorem Cx.Ok.unwish {X : Cx} {E : Value → Shared → Prop} (ok : (X.wish E).Ok) : X.Ok :=
  ⟨ok.mod, ok.kind, ok.glob, ok.blt, ok.above, ok.inj, ok.has, ok.cab, ok.hd, ok.frames, ok.stk, ok.exf, ok.bs, ok.bsz, ok.noex, ok.exfs, ok.funs, ok.frf⟩
section
variable {X : Cx} {pins : List (Addr × Obj)} {σ : St} {H : Hp} {s : Shared} {E : Value → Shared → Prop}
theorem Inv.wish (I : Inv X pins σ H s) (E : Value → Shared → Prop) : Inv (X.wish E) pins σ H s := ⟨I.ok.wish E, I.os, I.bare, I.base, I.loc, I.cell, I.free, I.freeC, I.pin, I.hok, I.len⟩
theorem Inv.unwish (I : Inv (X.wish E) pins σ H s) : Inv X pins σ H s := ⟨I.ok.unwish, I.os, I.bare, I.base, I.loc, I.cell, I.free, I.freeC, I.pin, I.hok, I.len⟩
theorem SP.unwish {D : Ends} {f : Flow} {s' : Shared} (h : SP (X.wish E) pins D f s') : SP X pins D f s' := by
  cases f with
  | next => obtain ⟨σ', H', I, q⟩ := h; exact ⟨σ', H', I.unwish, q⟩
  | brk => obtain ⟨σ', H', I, q⟩ := h; exact ⟨σ', H', I.unwish, q⟩
  | cont => obtain ⟨σ', H', I, q⟩ := h; exact ⟨σ', H', I.unwish, q⟩
  | ret u => obtain ⟨v, σ', H', I, r, q⟩ := h; exact ⟨v, σ', H', I.unwish, r, q⟩
theorem PSs.nox {st : List Stmt} {t : TS} (h : PSs X.nox st t) : PSs X st t := fun pins s σ H D I hw =>
  wpAny_mono (h pins s σ H D (I.wish _) hw) (fun _ _ q => q.unwish) fun _ _ z => False.elim z
end

section
variable {X : Cx} {st : Stmt} {rest : List Stmt} {t u : TS} {e : Expr} {te : TE} {pos : Pos}
noncomputable def tNext : TS := fun D σ H => D.nx σ H
noncomputable def tSeq (t u : TS) : TS := fun D σ H => t { D with nx := u D } σ H
theorem pss_nil : PSs X [] tNext := fun _ _ σ H _ I h => wpAny_execs_nil ⟨σ, H, I, h⟩
theorem pss_cons (h1 : PS X st t) (h2 : PSs X rest u) : PSs X (st :: rest) (tSeq t u) := by
  intro pins s σ H D I h
  refine wpAny_execs_cons (thn (h1 pins s σ H { D with nx := u D } I h) fun f s1 q => ?_)
  cases f with
  | next =>
    obtain ⟨σ', H', I', q⟩ := q
    exact h2 pins s1 σ' H' D I' q
  | ret v => exact q
  | brk => exact q
  | cont => exact q
theorem pss_one (h1 : PS X st t) : PSs X [st] t := by
  intro pins s σ H D I h
  refine wpAny_execs_cons (thn (h1 pins s σ H D I h) fun f s1 q => ?_)
  cases f with
  | next => exact wpAny_execs_nil q
  | ret v => exact q
  | brk => exact q
  | cont => exact q
theorem Inv.quiet {pins : List (Addr × Obj)} {σ : St} {H : Hp} {s : Shared} (I : Inv X pins σ H s) : interactive X.env = false := by simp [interactive, I.ok.kind]
noncomputable def tDrop (te : TE) : TS := fun D σ H => te σ H fun _ H1 => D.nx σ H1
theorem ps_expr (he : PE X e te) (hs : swapsWith e none pos.line X.env = pure false := by rfl) : PS X (.Expr e pos) (tDrop te) := by
  intro pins s σ H D I h
  exact wpAny_Expr_any (thn (he pins s σ H _ I h) fun v s1 ⟨x, H1, I1, r1, q1⟩ => ⟨σ, H1, I1, q1⟩) I.quiet hs
noncomputable def tRet (te : TE) : TS := fun D σ H => te σ H D.rt
theorem ps_ret (he : PE X e te) : PS X (.Return (some e) pos) (tRet te) := by
  intro pins s σ H D I h
  refine wpAny_Return_some (thn (he pins s σ H _ I h) fun v s1 hpt7 => ?_)
  obtain ⟨x, H1, I1, r1, q1⟩ := hpt7
  exact ⟨x, σ, H1, I1, r1, q1⟩
noncomputable def tIfS (c : TT) (t u : TS) : TS := fun D σ H => c σ H fun b H1 => if b = true then t D σ H1 else u D σ H1
theorem ps_if {c : Expr} {a b : List Stmt} {tc : TT} (hc : PT X c tc) (ha : PSs X a t) (hb : PSs X b u) : PS X (.If c a b pos) (tIfS tc t u) := by
  intro pins s σ H D I h
  refine wpAny_If (thn (hc pins s σ H _ I h) fun d s1 hpt8 => ?_)
  obtain ⟨H1, I1, q1⟩ := hpt8
  cases d with
  | true => exact ha pins s1 σ H1 D I1 q1
  | false => exact hb pins s1 σ H1 D I1 q1
end

noncomputable abbrev TG := V → St → Hp → (St → Hp → Prop) → Prop
noncomputable def PG (X : Cx) (target : Expr) (t : TG) : Prop :=
  ∀ (pins : List (Addr × Obj)) (s : Shared) (σ : St) (H : Hp) (v : V) (u : Value) (Q : St → Hp → Prop), Inv X pins σ H s → RelV v u → t v σ H Q →
    wpAny (model X.prog X.w) X.A (assign target X.env u) (fun _ s' => ∃ σ' H', Inv X pins σ' H' s' ∧ Q σ' H') X.xe s
noncomputable abbrev TIp := V → V → Hp → VK → Prop
noncomputable def PIp (X : Cx) (op : Operator) (t : TIp) : Prop :=
  ∀ (pins : List (Addr × Obj)) (s : Shared) (σ : St) (H : Hp) (x y : V) (v u : Value) (Q : VK), Inv X pins σ H s → RelV x v → RelV y u → t x y H Q →
    wpAny (model X.prog X.w) X.A (inplaceOp op v u) (EP X pins σ Q) X.xe s
section
variable {X : Cx} {pos : Pos}
noncomputable def gName (i : Nat) : TG := fun v σ H Q => Q (σ.set i (some v)) H
theorem pg_name {i : Nat} {x : Str} (hN : X.N.Nodup) (hi : X.N[i]? = some x) (hx : Loc X.env.scope x) (hf : X.fn x = true ∨ X.env.scope.names.lookup x = some .local := by first | exact .inl rfl | exact .inr rfl | assumption) : PG X (.Name x pos) (gName i) := by
  intro pins s σ H v u Q I r h
  exact wpAny_assign_Name (store_ok I hN hi hx r (fun s' I' => ⟨_, H, I', h⟩) hf)
noncomputable def tAsg (te : TE) (g : TG) : TS := fun D σ H => te σ H fun x H1 => g x σ H1 D.nx
theorem ps_set {i : Nat} {x : Str} {e : Expr} {te : TE} {pos' : Pos} (hN : X.N.Nodup) (hi : X.N[i]? = some x) (hx : Loc X.env.scope x) (he : PE X e te) (hs : swapsWith e (some (.Name x pos')) pos.line X.env = pure false := by rfl) (hf : X.fn x = true ∨ X.env.scope.names.lookup x = some .local := by first | exact .inl rfl | exact .inr rfl | assumption) :
    PS X (.Assign [.Name x pos'] e pos) (tAsg te (gName i)) := by
  intro pins s σ H D I h
  refine wpAny_Assign_Name (thn (he pins s σ H _ I h) fun v s1 ⟨y, H1, I1, r1, q1⟩ => ?_) hs
  exact store_ok I1 hN hi hx r1 (fun s2 I2 => ⟨_, H1, I2, q1⟩) hf
noncomputable def tAug (i : Nat) (te : TE) (ti : TIp) : TS := fun D σ H => ∃ x, σ[i]? = some (some x) ∧ te σ H fun y H1 => ti x y H1 fun z H2 => D.nx (σ.set i (some z)) H2
theorem ps_aug {i : Nat} {x : Str} {e : Expr} {te : TE} {op : Operator} {ti : TIp} {pos' : Pos} (hN : X.N.Nodup) (hi : X.N[i]? = some x) (hx : Loc X.env.scope x) (he : PE X e te) (ho : PIp X op ti) (hf : X.fn x = true ∨ X.env.scope.names.lookup x = some .local := by first | exact .inl rfl | exact .inr rfl | assumption) :
    PS X (.AugAssign (.Name x pos') op e pos) (tAug i te ti) := by
  intro pins s σ H D I h
  obtain ⟨v, e1, h⟩ := h
  obtain ⟨m, hn, hl⟩ := I.loc
  have vis : Vis X.env.scope x := by rcases hx with k | k; exact .inl k; exact .inr (.inl k)
  obtain ⟨u, r, l⟩ := hl i x v hi e1 vis
  refine wpAny_AugAssign_Name ?_
  have go : wpAny (model X.prog X.w) X.A (eval e X.env) (fun w s₂ => wpAny (model X.prog X.w) X.A (inplaceOp op u w) (fun r s₃ => wpAny (model X.prog X.w) X.A (storeName X.env x r) (fun _ => SP X pins D .next) X.xe s₃) X.xe s₂) X.xe s := by
    refine thn (he pins s σ H _ I h) fun w s1 hpt9 => ?_
    obtain ⟨y, H1, I1, r1, q1⟩ := hpt9
    refine thn (ho pins s1 σ H1 v y u w _ I1 r r1 q1) fun z s2 hpt10 => ?_
    obtain ⟨zv, H2, I2, r2, q2⟩ := hpt10
    exact store_ok I2 hN hi hx r2 (fun s3 I3 => ⟨_, H2, I3, q2⟩) hf
  rcases l with ⟨hk, hm⟩ | ⟨hk, c, hc, hcell⟩
  · exact wpAny_loadName_local I.ok.kind hk hn hm go
  · rcases hk with hk | hk
    · exact wpAny_loadName_cell I.ok.kind hk hc hcell go
    · rcases hx with k | k
      · have : X.env.scope.names.lookup x = some .free := hk
        rw [k] at this; cases this
      · have : X.env.scope.names.lookup x = some .free := hk
        rw [k] at this; cases this
noncomputable def ipI (f : Int → Int → Int) : TIp := fun x y H Q => ∃ i j, x = .int i ∧ y = .int j ∧ Q (.int (f i j)) H
theorem ip_add : PIp X .Add (ipI fun i j => i + j) := by
  intro pins s σ H x y v u Q I r1 r2 h
  obtain ⟨i, j, e1, e2, q⟩ := h
  subst e1; subst e2
  obtain ⟨t, rfl⟩ := r1
  obtain ⟨t', rfl⟩ := r2
  exact iadd_int ⟨.int _, H, I.tok _, ⟨_, rfl⟩, q⟩
end

section
variable {X : Cx} {pos : Pos}
noncomputable def tWhile (c : TT) (tb : TS) : TS := fun D σ H => ∃ W : Nat → St → Hp → Prop, (∃ m, W m σ H) ∧ ∀ m σ H, W m σ H →
  c σ H fun b H1 => if b = true then ∃ N : St → Hp → Prop, (∀ σ' H', N σ' H' → ∃ m', m' < m ∧ W m' σ' H') ∧ tb { D with nx := N, ct := N, bk := D.nx } σ H1 else D.nx σ H1
theorem ps_while {c : Expr} {body : List Stmt} {tc : TT} {tb : TS} (hp : PassesOwn (model X.prog X.w) X.A X.env X.xe) (hc : PT X c tc) (hb : PSs X body tb) : PS X (.While c body [] pos) (tWhile tc tb) := by
  intro pins s σ H D I h
  obtain ⟨W, ⟨m0, w0⟩, turn⟩ := h
  refine wpAny_While (codeAny_whileLoop (fun n s' => ∃ σ' H', Inv X pins σ' H' s' ∧ W n σ' H') ?_ m0 ⟨σ, H, I, w0⟩)
  rintro n s1 ⟨σ1, H1, I1, w1⟩
  refine wpAny_passesOwn hp (thn (hc pins s1 σ1 H1 _ I1 (turn n σ1 H1 w1)) fun b s2 hpt11 => ?_)
  obtain ⟨H2, I2, q2⟩ := hpt11
  cases b with
  | true =>
    obtain ⟨N, hN, q2⟩ := q2
    rw [if_pos rfl]
    refine wpAny_passesOwn hp (thn (hb pins s2 σ1 H2 _ I2 q2) fun f s3 q3 => ?_)
    cases f with
    | next =>
      obtain ⟨σ3, H3, I3, n3⟩ := q3
      obtain ⟨m', hm, w3⟩ := hN σ3 H3 n3
      exact ⟨m', hm, σ3, H3, I3, w3⟩
    | cont =>
      obtain ⟨σ3, H3, I3, n3⟩ := q3
      obtain ⟨m', hm, w3⟩ := hN σ3 H3 n3
      exact ⟨m', hm, σ3, H3, I3, w3⟩
    | brk => exact q3
    | ret v => exact q3
  | false =>
    rw [if_neg Bool.false_ne_true]
    exact wpAny_execs_nil ⟨σ1, H2, I2, q2⟩
end

structure It where
  go : Nat → Hp → Prop
  yld : Nat → Hp → V → Hp → Prop
  stop : Nat → Hp → Prop
noncomputable def FpOk (X : Cx) (pins : List (Addr × Obj)) (H : Hp) (b : Addr) : Prop :=
  H b = none ∧ b ≠ X.env.locals ∧ b ∉ X.fs ∧ (b ∈ X.ex ∨ X.s_0.heap.objs.size ≤ b) ∧ (∀ x c, X.env.cells.lookup x = some c → c ≠ b) ∧ ∀ p ∈ X.pn ++ pins, p.1 ≠ b
theorem Inv.fpOk {X : Cx} {pins : List (Addr × Obj)} {σ : St} {H H' : Hp} {s : Shared} {b : Addr} (I : Inv X pins σ H s) (hb : s.heap.objs.size ≤ b) (hn : H' b = none) : FpOk X pins H' b := by
  refine ⟨hn, Nat.ne_of_gt (Nat.lt_of_lt_of_le I.lt hb), I.nofs hb, .inr (Nat.le_trans I.sz hb), fun x c e z => ?_, fun p hp z => ?_⟩
  · obtain ⟨v, q⟩ := I.cell x c e
    exact absurd (Nat.lt_of_lt_of_le q.lt (by rw [z]; exact hb)) (Nat.lt_irrefl _)
  · exact absurd (Nat.lt_of_lt_of_le (Heap.lt_size (I.pin p hp).1) (by rw [z]; exact hb)) (Nat.lt_irrefl _)
structure Turn (P : Program) (w : World) (K : PySem.W.Frag) (tg : Expr) (J : It) (fp : List Addr) (it : Addr) (tn : Nat → Heap → Prop) : Prop where
  mem : it ∈ fp
  obj : ∀ i h, tn i h → ∀ b ∈ fp, ∃ o, h.get? b = some o ∧ ∀ v, o.data ≠ .cell v
  keep : ∀ i h h', tn i h → (∀ b ∈ fp, ∀ o, h.get? b = some o → h'.get? b = some o) → tn i h'
  item : ∀ (X : Cx), X.prog = P → X.w = w → X.K = K → X.calm = true → ∀ (i : Nat) (pins : List (Addr × Obj)) (s : Shared) (σ : St) (H : Hp) (E : Value → Shared → Prop), Inv X pins σ H s → (∀ b ∈ fp, FpOk X pins H b) → tn i s.heap → J.go i H →
    wpAny (model P w) X.A (pyNext (.ref it)) (fun r s1 => ∃ u, r = some u ∧
      wpAny (model P w) X.A (letOwnedTupleGo tg (.ref it) u) (fun _ s2 => ∃ x H', Inv X pins σ H' s2 ∧ RelV x u ∧ J.yld i H x H' ∧ tn (i + 1) s2.heap ∧ ∀ b ∈ fp, H' b = none) E s1) E s
  done : ∀ (X : Cx), X.prog = P → X.w = w → X.K = K → X.calm = true → ∀ (i : Nat) (pins : List (Addr × Obj)) (s : Shared) (σ : St) (H : Hp) (E : Value → Shared → Prop), Inv X pins σ H s → (∀ b ∈ fp, FpOk X pins H b) → tn i s.heap → J.stop i H →
    wpAny (model P w) X.A (pyNext (.ref it)) (fun r s1 => r = none ∧ Inv X pins σ H s1) E s
  self : ∀ (A : Around) (i : Nat) (s : Shared) (Q : Value → Shared → Prop) (E : Value → Shared → Prop), tn i s.heap → Q (.ref it) s → wpAny (model P w) A (pyIter (.ref it)) Q E s
noncomputable abbrev TI := St → Hp → (It → Hp → Prop) → Prop
noncomputable def PIE (X : Cx) (pins : List (Addr × Obj)) (σ : St) (tg : Expr) (R : It → Hp → Prop) (itv : Value) (s2 : Shared) : Prop :=
  ∃ (it : Addr) (fp : List Addr) (tn : Nat → Heap → Prop) (J : It) (H' : Hp), itv = .ref it ∧ Inv X pins σ H' s2 ∧ Turn X.prog X.w X.K tg J fp it tn ∧ tn 0 s2.heap ∧ (∀ b ∈ fp, FpOk X pins H' b) ∧ R J H'
noncomputable def PI (X : Cx) (tg iter : Expr) (wi : TI) : Prop :=
  ∀ (pins : List (Addr × Obj)) (s : Shared) (σ : St) (H : Hp) (R : It → Hp → Prop), Inv X pins σ H s → wi σ H R →
    wpAny (model X.prog X.w) X.A (eval iter X.env) (fun v s1 => wpAny (model X.prog X.w) X.A (pyIter v) (PIE X pins σ tg R) X.xe s1) X.xe s

theorem go_of {M : Model} {A : Around} {E : Value → Shared → Prop} {s : Shared} {tg : Expr} {it : Addr} {u : Value} {o : Obj} {n : String} {vs : Array Value} {Q : Unit → Shared → Prop} (ho : s.heap.get? it = some o) (hc : o.cls = .type n) (hd : o.data = .fields vs)
    (hn : ["enumerate", "zip", "dict_itemiterator", "dict_reverseitemiterator", "odict_iterator", "itertools.zip_longest", "itertools.pairwise"].contains n = false) (hQ : Q () s) : wpAny M A (letOwnedTupleGo tg (.ref it) u) Q E s := by
  unfold letOwnedTupleGo
  cases tg <;> first
    | exact wpAny_pure hQ
    | (cases u <;> first
        | exact wpAny_pure hQ
        | (refine wpAny_bind (wpAny_load ho ?_)
           rw [hc, hd]
           show wpAny M A (if (["enumerate", "zip", "dict_itemiterator", "dict_reverseitemiterator", "odict_iterator", "itertools.zip_longest", "itertools.pairwise"].contains n && vs[0]? == some (rawInt _)) = true then _ else _) Q E s
           rw [if_neg (by intro h; rw [hn, Bool.false_and] at h; cases h)]
           exact wpAny_pure hQ))

noncomputable def Itl (K : PySem.W.Frag) (a : Addr) : It :=
  ⟨fun i H => ∃ xs x, SqL K H a xs ∧ xs[i]? = some x, fun i H x H' => H' = H ∧ ∀ xs, SqL K H a xs → xs[i]? = some x, fun i H => ∃ xs, SqL K H a xs ∧ xs.length ≤ i⟩
noncomputable def Itt (K : PySem.W.Frag) (a : Addr) : It :=
  ⟨fun i H => ∃ xs x, SqT K H a xs ∧ xs[i]? = some x, fun i H x H' => H' = H ∧ ∀ xs, SqT K H a xs → xs[i]? = some x, fun i H => ∃ xs, SqT K H a xs ∧ xs.length ≤ i⟩
noncomputable def Itr (lo : Int) (n : Nat) : It := ⟨fun i _ => i < n, fun i H x H' => H' = H ∧ x = .int (lo + i), fun i _ => n ≤ i⟩
theorem turn_list {P : Program} {w : World} {K : PySem.W.Frag} {tg : Expr} (a it : Addr) : Turn P w K tg (Itl K a) [it] it (fun i h => h.IsListIter it a i) where
  mem := by simp
  obj := fun i h st b hb => by
    have e : b = it := by simpa using hb
    subst e
    obtain ⟨o, e, c, d⟩ := st
    exact ⟨o, e, fun v z => by rw [d] at z; cases z⟩
  keep := fun i h h' st k => st.at fun o e => k it (by simp) o e
  item := by
    intro X hP hw hK hc i pins s σ H E I hf st hg
    subst hP hw hK
    obtain ⟨xs, x, hq, hx⟩ := hg
    obtain ⟨its, rv, p, hz⟩ := I.list hq
    obtain ⟨u, hu, ru⟩ := rv.get hx
    obtain ⟨f0, f1, f2, f3, f4, f5⟩ := hf it (by simp)
    refine wpAny_pyNext_list_item st p.isList (x := u) (by simpa using hu) fun h' st' sb => ?_
    have I1 : Inv X pins σ H { s with heap := h' } := I.turned (t' := s.toks) (fun b o hb e => (sb.2 b hb).trans e) f0 f1 f3 f4 f5
    obtain ⟨o, e, c, d⟩ := id st'
    exact ⟨u, rfl, go_of (s := { s with heap := h' }) e c d (by decide) ⟨x, H, I1, ru, ⟨rfl, fun ys hy => by rw [I.list_inj hy hq]; exact hx⟩, st', fun b hb => (hf b hb).1⟩⟩
  done := by
    intro X hP hw hK hc i pins s σ H E I hf st hg
    subst hP hw hK
    obtain ⟨xs, hq, hx⟩ := hg
    obtain ⟨its, rv, p, hz⟩ := I.list hq
    obtain ⟨f0, f1, f2, f3, f4, f5⟩ := hf it (by simp)
    have hl := rv.length
    exact wpAny_pyNext_list_end (I.ok.hd hc) st p.isList (by simp; first | lia | omega) fun h' eb => ⟨rfl, I.turned (t' := s.toks) (fun b o hb e => eb b o hb e) f0 f1 f3 f4 f5⟩
  self := fun _ _ _ _ _ st h => wpAny_pyIter_listiter st h
theorem turn_tuple {P : Program} {w : World} {K : PySem.W.Frag} {tg : Expr} (a it : Addr) : Turn P w K tg (Itt K a) [it] it (fun i h => h.IsTupleIter it a i) where
  mem := by simp
  obj := fun i h st b hb => by
    have e : b = it := by simpa using hb
    subst e
    obtain ⟨o, e, c, d⟩ := st
    exact ⟨o, e, fun v z => by rw [d] at z; cases z⟩
  keep := fun i h h' st k => st.at fun o e => k it (by simp) o e
  item := by
    intro X hP hw hK hc i pins s σ H E I hf st hg
    subst hP hw hK
    obtain ⟨xs, x, hq, hx⟩ := hg
    obtain ⟨its, rv, p, hz⟩ := I.tuple hq
    obtain ⟨u, hu, ru⟩ := rv.get hx
    obtain ⟨f0, f1, f2, f3, f4, f5⟩ := hf it (by simp)
    refine wpAny_pyNext_tuple_item st (show s.heap.IsTuple a its.toArray from p) (x := u) (by simpa using hu) fun h' st' sb => ?_
    have I1 : Inv X pins σ H { s with heap := h' } := I.turned (t' := s.toks) (fun b o hb e => (sb.2 b hb).trans e) f0 f1 f3 f4 f5
    obtain ⟨o, e, c, d⟩ := id st'
    exact ⟨u, rfl, go_of (s := { s with heap := h' }) e c d (by decide) ⟨x, H, I1, ru, ⟨rfl, fun ys hy => by rw [I.tuple_inj hy hq]; exact hx⟩, st', fun b hb => (hf b hb).1⟩⟩
  done := by
    intro X hP hw hK hc i pins s σ H E I hf st hg
    subst hP hw hK
    obtain ⟨xs, hq, hx⟩ := hg
    obtain ⟨its, rv, p, hz⟩ := I.tuple hq
    obtain ⟨f0, f1, f2, f3, f4, f5⟩ := hf it (by simp)
    have hl := rv.length
    exact wpAny_pyNext_tuple_end (I.ok.hd hc) st (show s.heap.IsTuple a its.toArray from p) (by simp; first | lia | omega) fun h' eb => ⟨rfl, I.turned (t' := s.toks) (fun b o hb e => eb b o hb e) f0 f1 f3 f4 f5⟩
  self := fun _ _ _ _ _ st h => wpAny_pyIter_tupleiter st h
theorem turn_range {P : Program} {w : World} {K : PySem.W.Frag} {tg : Expr} (it : Addr) (lo : Int) (n : Nat) : Turn P w K tg (Itr lo n) [it] it (fun i h => IsRangeIter h it (lo + (i : Nat) * 1) ((n : Int) - (i : Nat)) 1) where
  mem := by simp
  obj := fun i h st b hb => by
    have e : b = it := by simpa using hb
    subst e
    exact ⟨_, st, fun v z => by
      have z' : Data.fields _ = Data.cell v := z
      cases z'⟩
  keep := fun i h h' st k => k it (by simp) _ st
  item := by
    intro X hP hw hK hc i pins s σ H E I hf st hg
    subst hP hw hK
    obtain ⟨f0, f1, f2, f3, f4, f5⟩ := hf it (by simp)
    have W := Walks.range (prog := X.prog) (w := X.w) (I.ok.hd hc) it lo 1 n
    refine W.item i s _ _ hg st fun v h' tk hv st' kk => ?_
    obtain ⟨t, rfl⟩ := hv
    have I1 : Inv X pins σ H { s with heap := h', toks := tk } := I.turned (fun b o hb e => kk b o (by simpa using hb) e) f0 f1 f3 f4 f5
    refine ⟨_, rfl, go_of (s := { s with heap := h', toks := tk }) (n := "range_iterator") st' rfl rfl (by decide) ⟨.int (lo + i), H, I1, ⟨t, ?_⟩, ⟨rfl, rfl⟩, st', fun b hb => (hf b hb).1⟩⟩
    rw [Int.mul_one]
  done := by
    intro X hP hw hK hc i pins s σ H E I hf st hg
    subst hP hw hK
    obtain ⟨f0, f1, f2, f3, f4, f5⟩ := hf it (by simp)
    exact wpAny_pyNext_range_end (I.ok.hd hc) st (by have : n ≤ i := hg; first | lia | omega) fun h' eb => ⟨rfl, I.turned (t' := s.toks) (fun b o hb e => eb b o hb e) f0 f1 f3 f4 f5⟩
  self := fun _ _ _ _ _ st h => wpAny_pyIter_rangeiter st h
end L2

namespace L2
open PySem PySem.Spec PyProof.Rows
section
variable {X : Cx} {tg : Expr}
noncomputable def iList (K : PySem.W.Frag) (tl : TE) : TI := fun σ H R => tl σ H fun x H1 => ∃ a, x = .ref a ∧ (∃ xs, SqL K H1 a xs) ∧ R (Itl K a) H1
theorem pi_list {l : Expr} {tl : TE} (hl : PE X l tl) : PI X tg l (iList X.K tl) := by
  intro pins s σ H R I h
  refine thn (hl pins s σ H _ I h) fun v s1 hpt12 => ?_
  obtain ⟨x, H1, I1, r1, q1⟩ := hpt12
  obtain ⟨a, e, ⟨xs, hq⟩, q⟩ := q1
  subst e
  cases r1
  obtain ⟨its, rv, p, hz⟩ := I1.list hq
  refine wpAny_pyIter_list p.isList ?_
  refine ⟨s1.heap.objs.size, [s1.heap.objs.size], _, _, H1, rfl, I1.kept (t' := s1.toks) fun b o e => Heap.get?_push_of_some _ e, turn_list a _, ⟨_, Heap.get?_push_size _ rfl, rfl, rfl⟩, fun b hb => ?_, q⟩
  have e : b = s1.heap.objs.size := by simpa using hb
  subst e
  exact I1.fpOk (Nat.le_refl _) (I1.hok.fresh (Nat.le_refl _))
theorem range_it {pins : List (Addr × Obj)} {σ : St} {H : Hp} {s : Shared} {R : It → Hp → Prop} {E : Value → Shared → Prop} {lo hi : Int} {t u v : Tok} {tk : Nat} (I : Inv X pins σ H s) (h1 : -(2 ^ 62) ≤ lo) (h2 : lo < 2 ^ 62) (h3 : -(2 ^ 62) ≤ hi) (h4 : hi < 2 ^ 62)
    (q : R (Itr lo (hi - lo).toNat) H) : wpAny (model X.prog X.w) X.A (pyIter (.ref s.heap.objs.size)) (PIE X pins σ tg R) E { s with heap := s.heap.push { cls := .type "range", data := .fields #[.int lo t, .int hi u, .int 1 v] }, toks := tk } := by
  refine wpAny_pyIter_range (IsRange.new ..) (small_one h1 h2 h3 h4) ?_
  have I1 : Inv X pins σ H { s with heap := s.heap.push { cls := .type "range", data := .fields #[.int lo t, .int hi u, .int 1 v] }, toks := tk } := I.kept fun b o e => Heap.get?_push_of_some _ e
  refine ⟨(s.heap.push { cls := .type "range", data := .fields #[.int lo t, .int hi u, .int 1 v] }).objs.size, [(s.heap.push { cls := .type "range", data := .fields #[.int lo t, .int hi u, .int 1 v] }).objs.size], _, _, H, rfl,
    I1.kept (t' := tk) fun b o e => Heap.get?_push_of_some _ e, turn_range _ lo (hi - lo).toNat, ?_, fun b hb => ?_, q⟩
  · have e1 : lo + ((0 : Nat) : Int) * 1 = lo := by simp
    have e2 : (((hi - lo).toNat : Nat) : Int) - ((0 : Nat) : Int) = Builtin.Range.rangeSize lo hi 1 := by rw [rangeSize_one]; split <;> first | lia | omega
    show IsRangeIter _ _ (lo + ((0 : Nat) : Int) * 1) ((((hi - lo).toNat : Nat) : Int) - ((0 : Nat) : Int)) 1
    rw [e1, e2]
    exact Heap.get?_push_size _ rfl
  · have e : b = (s.heap.push { cls := .type "range", data := .fields #[.int lo t, .int hi u, .int 1 v] }).objs.size := by simpa using hb
    subst e
    exact I1.fpOk (Nat.le_refl _) (I1.hok.fresh (Nat.le_refl _))
noncomputable def iRng1 (ta : TA) : TI := fun σ H R => ta σ H fun vs H1 => ∃ j : Int, vs = [.int j] ∧ -(2 ^ 62) ≤ j ∧ j < 2 ^ 62 ∧ R (Itr 0 j.toNat) H1
noncomputable def iRng2 (ta : TA) : TI := fun σ H R => ta σ H fun vs H1 => ∃ i j : Int, vs = [.int i, .int j] ∧ (-(2 ^ 62) ≤ i ∧ i < 2 ^ 62 ∧ -(2 ^ 62) ≤ j ∧ j < 2 ^ 62) ∧ R (Itr i (j - i).toNat) H1
theorem pi_range1 {a : Expr} {ta : TA} {p pos : Pos} (hg : Gl X "range") (hm : X.mg "range" = none) (ha : PA X [a] ta) (hs : starEach [a] X.env = [(false, eval a X.env)] := by rfl) : PI X tg (.Call (.Name "range" p) [a] [] pos) (iRng1 ta) := by
  intro pins s σ H R I h
  refine Call_ (ld_blt I hg hm boot_range (PyProof.Rows.callWith_type1 (thn (ha pos pins s σ H _ I h) fun us s1 ⟨vs, H1, I1, r1, q1⟩ => ?_) hs rfl))
  obtain ⟨j, e, q1, q2, q⟩ := q1
  subst e
  cases r1 with
  | cons r rr =>
    cases rr
    obtain ⟨t, rfl⟩ := r
    exact call_range_1 (range_it I1 (by first | lia | omega) (by first | lia | omega) q1 q2 (by simpa using q))
theorem pi_range2 {a b : Expr} {ta : TA} {p pos : Pos} (hg : Gl X "range") (hm : X.mg "range" = none) (ha : PA X [a, b] ta) (hs : starEach [a, b] X.env = [(false, eval a X.env), (false, eval b X.env)] := by rfl) (hs2 : starEach [b] X.env = [(false, eval b X.env)] := by rfl) :
    PI X tg (.Call (.Name "range" p) [a, b] [] pos) (iRng2 ta) := by
  intro pins s σ H R I h
  refine Call_ (ld_blt I hg hm boot_range (PyProof.Rows.callWith_type1 (thn (ha pos pins s σ H _ I h) fun us s1 ⟨vs, H1, I1, r1, q1⟩ => ?_) (by rw [hs, hs2]) (by rw [hs2]; rfl)))
  obtain ⟨i, j, e, ⟨q1, q2, q3, q4⟩, q⟩ := q1
  subst e
  cases r1 with
  | cons r rr =>
    cases rr with
    | cons r' rr =>
      cases rr
      obtain ⟨t, rfl⟩ := r
      obtain ⟨t', rfl⟩ := r'
      exact call_range_2 (range_it I1 q1 q2 q3 q4 q)

noncomputable def tFor (wi : TI) (g : TG) (tb : TS) : TS := fun D σ H => wi σ H fun J H1 => ∃ W : Nat → Nat → St → Hp → Prop, (∃ m, W 0 m σ H1) ∧ ∀ i m σ H, W i m σ H →
  (J.stop i H ∧ D.nx σ H) ∨ (J.go i H ∧ ∃ N : St → Hp → Prop, (∀ σ' H', N σ' H' → ∃ m', m' < m ∧ W (i + 1) m' σ' H') ∧ ∀ x H', J.yld i H x H' → g x σ H' fun σ2 H2 => tb { D with nx := N, ct := N, bk := D.nx } σ2 H2)
noncomputable def pinsAt (fp : List Addr) (h : Heap) : List (Addr × Obj) := fp.filterMap fun b => (h.get? b).map fun o => (b, o)
theorem mem_pinsAt {fp : List Addr} {h : Heap} {b : Addr} {o : Obj} (hb : b ∈ fp) (e : h.get? b = some o) : (b, o) ∈ pinsAt fp h := List.mem_filterMap.mpr ⟨b, hb, by rw [e]; rfl⟩
theorem of_pinsAt {fp : List Addr} {h : Heap} {p : Addr × Obj} (hp : p ∈ pinsAt fp h) : p.1 ∈ fp ∧ h.get? p.1 = some p.2 := by
  obtain ⟨b, hb, e⟩ := List.mem_filterMap.mp hp
  cases q : h.get? b with
  | none => rw [q] at e; cases e
  | some o =>
    rw [q] at e
    have e' : (b, o) = p := Option.some.inj e
    subst e'
    exact ⟨hb, q⟩
theorem Inv.pinned {pins : List (Addr × Obj)} {σ : St} {H : Hp} {s : Shared} {fp : List Addr} (I : Inv X pins σ H s) (hf : ∀ b ∈ fp, FpOk X pins H b) (ho : ∀ b ∈ fp, ∃ o, s.heap.get? b = some o ∧ ∀ v, o.data ≠ .cell v) : Inv X (pins ++ pinsAt fp s.heap) σ H s :=
  I.pins_of fun p hp => (List.mem_append.mp hp).elim (fun z => I.pin p (List.mem_append_right _ z)) fun z => by
    obtain ⟨hb, e⟩ := of_pinsAt z
    obtain ⟨f0, f1, f2, _⟩ := hf p.1 hb
    obtain ⟨o, e', d⟩ := ho p.1 hb
    rw [e] at e'; cases e'
    exact ⟨e, f0, f1, f2, d⟩
theorem Inv.unpinned {pins pl : List (Addr × Obj)} {σ : St} {H : Hp} {s : Shared} (I : Inv X (pins ++ pl) σ H s) : Inv X pins σ H s := I.pins_of fun p hp => I.pin p (List.mem_append_right _ (List.mem_append_left _ hp))
theorem ps_for {iter : Expr} {body : List Stmt} {wi : TI} {g : TG} {tb : TS} {pos : Pos} (hp : PassesOwn (model X.prog X.w) X.A X.env X.xe) (hc : X.calm = true) (hi : PI X tg iter wi) (hg : PG X tg g) (hb : PSs X body tb)
    (hs : ∀ x, foldedSetIterable iter X.env x = pure x := by intro _; rfl) : PS X (.For tg iter body [] pos) (tFor wi g tb) := by
  intro pins s σ H D I h
  refine wpAny_For (thn (hi pins s σ H _ I h) fun v s1 h1 => thn h1 fun itv s2 h2 => ?_) hs
  obtain ⟨it, fp, tn, J, H2, e, I2, T, st2, f2, W, ⟨m0, w0⟩, turn⟩ := h2
  subst e
  -- what stays true of the iterator's objects through the loop
  have stat : ∀ {H' : Hp}, (∀ b ∈ fp, H' b = none) → ∀ b ∈ fp, FpOk X pins H' b := fun hn b hb => ⟨hn b hb, (f2 b hb).2⟩
  refine codeAny_forLoop_any (fun n s' => ∃ i σ' H', Inv X pins σ' H' s' ∧ tn i s'.heap ∧ (∀ b ∈ fp, H' b = none) ∧ W i n σ' H') ?_ m0 ⟨0, σ, H2, I2, st2, fun b hb => (f2 b hb).1, w0⟩
  rintro n s3 ⟨i, σ3, H3, I3, st3, fr3, w3⟩
  rcases turn i n σ3 H3 w3 with ⟨stop, qn⟩ | ⟨go, N, hN, step⟩
  · refine wpAny_passesOwn hp (thn (T.done X rfl rfl rfl hc i pins s3 σ3 H3 X.xe I3 (stat fr3) st3 stop) fun r s4 hpt13 => ?_)
    obtain ⟨hr, I4⟩ := hpt13
    subst hr
    exact wpAny_execs_nil ⟨σ3, H3, I4, qn⟩
  · refine wpAny_passesOwn hp (thn (T.item X rfl rfl rfl hc i pins s3 σ3 H3 X.xe I3 (stat fr3) st3 go) fun r s4 hpt14 => ?_)
    obtain ⟨u, hr, h4⟩ := hpt14
    subst hr
    refine wpAny_passesOwn hp (thn h4 fun _ s5 hpt15 => ?_)
    obtain ⟨x, H5, I5, r5, y5, st5, fr5⟩ := hpt15
    have I5' := I5.pinned (stat fr5) (T.obj _ _ st5)
    refine wpAny_passesOwn hp (thn (hg _ s5 σ3 H5 x u _ I5' r5 (step x H5 y5)) fun _ s6 hpt16 => ?_)
    obtain ⟨σ6, H6, I6, q6⟩ := hpt16
    refine wpAny_passesOwn hp (thn (hb _ s6 σ6 H6 _ I6 q6) fun f s7 q7 => ?_)
    have again : ∀ {σ7 : St} {H7 : Hp}, Inv X (pins ++ pinsAt fp s5.heap) σ7 H7 s7 → N σ7 H7 → ∃ m, m < n ∧ ∃ i σ' H', Inv X pins σ' H' s7 ∧ tn i s7.heap ∧ (∀ b ∈ fp, H' b = none) ∧ W i m σ' H' := fun {σ7 H7} I7 n7 => by
      obtain ⟨m', hm, w7⟩ := hN σ7 H7 n7
      refine ⟨m', hm, i + 1, σ7, H7, I7.unpinned, T.keep _ _ _ st5 fun b hb o e => (I7.pin (b, o) (List.mem_append_right _ (List.mem_append_right _ (mem_pinsAt hb e)))).1, fun b hb => ?_, w7⟩
      obtain ⟨o, e, d⟩ := T.obj _ _ st5 b hb
      exact (I7.pin (b, o) (List.mem_append_right _ (List.mem_append_right _ (mem_pinsAt hb e)))).2.1
    cases f with
    | next => obtain ⟨σ7, H7, I7, n7⟩ := q7; exact again I7 n7
    | cont => obtain ⟨σ7, H7, I7, n7⟩ := q7; exact again I7 n7
    | brk => obtain ⟨σ7, H7, I7, q7⟩ := q7; exact ⟨σ7, H7, I7.unpinned, q7⟩
    | ret v => obtain ⟨x7, σ7, H7, I7, r7, q7⟩ := q7; exact ⟨x7, σ7, H7, I7.unpinned, r7, q7⟩
end

theorem for_list {K : PySem.W.Frag} {a : Addr} {xs : List V} {g : TG} {tb : TS} {D : Ends} {σ : St} {H : Hp} (Pv : Nat → St → Hp → Prop) (h0 : Pv 0 σ H) (hl : ∀ i σ H, i ≤ xs.length → Pv i σ H → SqL K H a xs)
    (hs : ∀ i x σ H, xs[i]? = some x → Pv i σ H → g x σ H fun σ2 H2 => tb { D with nx := Pv (i + 1), ct := Pv (i + 1), bk := D.nx } σ2 H2) (hd : ∀ σ H, Pv xs.length σ H → D.nx σ H) :
    ∃ W : Nat → Nat → St → Hp → Prop, (∃ m, W 0 m σ H) ∧ ∀ i m σ H, W i m σ H →
      ((Itl K a).stop i H ∧ D.nx σ H) ∨ ((Itl K a).go i H ∧ ∃ N : St → Hp → Prop, (∀ σ' H', N σ' H' → ∃ m', m' < m ∧ W (i + 1) m' σ' H') ∧ ∀ x H', (Itl K a).yld i H x H' → g x σ H' fun σ2 H2 => tb { D with nx := N, ct := N, bk := D.nx } σ2 H2) := by
  refine ⟨fun i m σ H => m = xs.length - i ∧ i ≤ xs.length ∧ Pv i σ H, ⟨xs.length, by simp, Nat.zero_le _, h0⟩, ?_⟩
  rintro i m σ H ⟨rfl, hi, p⟩
  have q := hl i σ H hi p
  by_cases hlt : i < xs.length
  · refine .inr ⟨⟨xs, xs[i], q, by simp [hlt]⟩, Pv (i + 1), fun σ' H' p' => ⟨xs.length - (i + 1), by first | lia | omega, rfl, hlt, p'⟩, fun x H' y => ?_⟩
    obtain ⟨e, y⟩ := y
    subst e
    exact hs i x σ _ (y xs q) p
  · have e : i = xs.length := by first | lia | omega
    subst e
    exact .inl ⟨⟨xs, q, Nat.le_refl _⟩, hd σ H p⟩
theorem for_range {lo : Int} {n : Nat} {g : TG} {tb : TS} {D : Ends} {σ : St} {H : Hp} (Pv : Nat → St → Hp → Prop) (h0 : Pv 0 σ H)
    (hs : ∀ i σ H, i < n → Pv i σ H → g (.int (lo + i)) σ H fun σ2 H2 => tb { D with nx := Pv (i + 1), ct := Pv (i + 1), bk := D.nx } σ2 H2) (hd : ∀ σ H, Pv n σ H → D.nx σ H) :
    ∃ W : Nat → Nat → St → Hp → Prop, (∃ m, W 0 m σ H) ∧ ∀ i m σ H, W i m σ H →
      ((Itr lo n).stop i H ∧ D.nx σ H) ∨ ((Itr lo n).go i H ∧ ∃ N : St → Hp → Prop, (∀ σ' H', N σ' H' → ∃ m', m' < m ∧ W (i + 1) m' σ' H') ∧ ∀ x H', (Itr lo n).yld i H x H' → g x σ H' fun σ2 H2 => tb { D with nx := N, ct := N, bk := D.nx } σ2 H2) := by
  refine ⟨fun i m σ H => m = n - i ∧ i ≤ n ∧ Pv i σ H, ⟨n, by simp, Nat.zero_le _, h0⟩, ?_⟩
  rintro i m σ H ⟨rfl, hi, p⟩
  by_cases hlt : i < n
  · refine .inr ⟨hlt, Pv (i + 1), fun σ' H' p' => ⟨n - (i + 1), by first | lia | omega, rfl, hlt, p'⟩, fun x H' y => ?_⟩
    obtain ⟨e, y⟩ := y
    subst e y
    exact hs i σ _ hlt p
  · have e : i = n := by first | lia | omega
    subst e
    exact .inl ⟨Nat.le_refl _, hd σ H p⟩
end L2

namespace L2
open PySem PySem.Spec PyProof.Rows

noncomputable abbrev R2 := V → V → Hp → VK → Prop
noncomputable def OpR (X : Cx) (f : Value → Value → Sem Value) (r : R2) : Prop :=
  ∀ (pins : List (Addr × Obj)) (s : Shared) (σ : St) (H : Hp) (x y : V) (v u : Value) (Q : VK), Inv X pins σ H s → RelV x v → RelV y u → r x y H Q →
    wpAny (model X.prog X.w) X.A (f v u) (EP X pins σ Q) X.xe s
noncomputable def UnR (X : Cx) (f : Value → Sem Value) (r : V → Hp → VK → Prop) : Prop :=
  ∀ (pins : List (Addr × Obj)) (s : Shared) (σ : St) (H : Hp) (x : V) (v : Value) (Q : VK), Inv X pins σ H s → RelV x v → r x H Q →
    wpAny (model X.prog X.w) X.A (f v) (EP X pins σ Q) X.xe s
noncomputable def CallR (X : Cx) (f : Value) (r : List V → Hp → VK → Prop) : Prop :=
  ∀ (pins : List (Addr × Obj)) (s : Shared) (σ : St) (H : Hp) (xs : List V) (us : List Value) (Q : VK), Inv X pins σ H s → Vals xs us → r xs H Q →
    wpAny (model X.prog X.w) X.A (call f us) (EP X pins σ Q) X.xe s
noncomputable def tOp (r : R2) (ta tb : TE) : TE := fun σ H Q => ta σ H fun x H1 => tb σ H1 fun y H2 => r x y H2 Q
noncomputable def tUn (r : V → Hp → VK → Prop) (ta : TE) : TE := fun σ H Q => ta σ H fun x H1 => r x H1 Q
noncomputable def rI0 (g : Int → Int → V) : R2 := fun x y H Q => ∃ i j, x = .int i ∧ y = .int j ∧ Q (g i j) H
noncomputable def rU (g : Int → V) : V → Hp → VK → Prop := fun x H Q => ∃ i, x = .int i ∧ Q (g i) H

section
variable {X : Cx} {a b c : Expr} {ta tb tc : TE} {pos : Pos}

theorem binT (ha : PE X a ta) (hb : PE X b tb) {pins : List (Addr × Obj)} {s : Shared} {σ : St} {H : Hp} {R : V → V → Hp → Prop} (I : Inv X pins σ H s)
    (h : ta σ H fun x H1 => tb σ H1 fun y H2 => R x y H2) {Q : Value → Shared → Prop} {f : Value → Value → Sem Value}
    (hf : ∀ v u s2 x y H2, Inv X pins σ H2 s2 → RelV x v → RelV y u → R x y H2 → wpAny (model X.prog X.w) X.A (f v u) Q X.xe s2) :
    wpAny (model X.prog X.w) X.A (eval a X.env) (fun v s₁ => wpAny (model X.prog X.w) X.A (eval b X.env) (fun u s₂ => wpAny (model X.prog X.w) X.A (f v u) Q X.xe s₂) X.xe s₁) X.xe s := by
  refine thn (ha pins s σ H _ I h) fun v s1 hpt17 => ?_
  obtain ⟨x, H1, I1, r1, q1⟩ := hpt17
  refine thn (hb pins s1 σ H1 _ I1 q1) fun u s2 hpt18 => ?_
  obtain ⟨y, H2, I2, r2, q2⟩ := hpt18
  exact hf v u s2 x y H2 I2 r1 r2 q2

theorem pe_op {op : Operator} {r : R2} (ho : OpR X (binaryOp op) r) (ha : PE X a ta) (hb : PE X b tb) : PE X (.BinOp a op b pos) (tOp r ta tb) := by
  intro pins s σ H Q I h
  exact wpAny_BinOp (binT ha hb I h fun v u s2 x y H2 I2 rx ry q => ho pins s2 σ H2 x y v u Q I2 rx ry q)
theorem pe_un {op : UnaryOp} {r : V → Hp → VK → Prop} (ho : UnR X (unaryOp op) r) (ha : PE X a ta) : PE X (.UnaryOp op a pos) (tUn r ta) := by
  intro pins s σ H Q I h
  refine UnaryOp_ (thn (ha pins s σ H _ I h) fun v s1 hpt19 => ?_)
  obtain ⟨x, H1, I1, r1, q1⟩ := hpt19
  exact ho pins s1 σ H1 x v Q I1 r1 q1
theorem opI0 {f : Value → Value → Sem Value} {g : Int → Int → Int}
    (rule : ∀ (i j : Int) (t u : Tok) (s : Shared) (Q : Value → Shared → Prop) (E : Value → Shared → Prop), Q (.int (g i j) s.toks) { s with toks := s.toks + 1 } → wpAny (model X.prog X.w) X.A (f (.int i t) (.int j u)) Q E s) :
    OpR X f (rI0 fun i j => .int (g i j)) := by
  intro pins s σ H x y v u Q I rx ry h
  obtain ⟨i, j, rfl, rfl, q⟩ := h
  obtain ⟨t, rfl⟩ := rx
  obtain ⟨t', rfl⟩ := ry
  exact rule i j t t' s _ _ ⟨.int (g i j), H, I.tok _, ⟨_, rfl⟩, q⟩
theorem opB0 {f : Value → Value → Sem Value} {g : Int → Int → Bool}
    (rule : ∀ (i j : Int) (t u : Tok) (s : Shared) (Q : Value → Shared → Prop) (E : Value → Shared → Prop), Q (.bool (g i j)) s → wpAny (model X.prog X.w) X.A (f (.int i t) (.int j u)) Q E s) :
    OpR X f (rI0 fun i j => .bl (g i j)) := by
  intro pins s σ H x y v u Q I rx ry h
  obtain ⟨i, j, rfl, rfl, q⟩ := h
  obtain ⟨t, rfl⟩ := rx
  obtain ⟨t', rfl⟩ := ry
  exact rule i j t t' s _ _ ⟨.bl (g i j), H, I, rfl, q⟩

theorem op_add : OpR X (binaryOp .Add) (rI0 fun i j => .int (i + j)) := opI0 fun _ _ _ _ _ _ _ q => add_int q
theorem op_sub : OpR X (binaryOp .Sub) (rI0 fun i j => .int (i - j)) := opI0 fun _ _ _ _ _ _ _ q => sub_int q
theorem unI {f : Value → Sem Value} {g : Int → Int}
    (rule : ∀ (i : Int) (t : Tok) (s : Shared) (Q : Value → Shared → Prop) (E : Value → Shared → Prop), Q (.int (g i) s.toks) { s with toks := s.toks + 1 } → wpAny (model X.prog X.w) X.A (f (.int i t)) Q E s) :
    UnR X f (rU fun i => .int (g i)) := by
  intro pins s σ H x v Q I rx h
  obtain ⟨i, rfl, q⟩ := h
  obtain ⟨t, rfl⟩ := rx
  exact rule i t s _ _ ⟨.int (g i), H, I.tok _, ⟨_, rfl⟩, q⟩
theorem un_neg : UnR X (unaryOp .USub) (rU fun i => .int (-i)) := unI fun _ _ _ _ _ q => neg_int q
end

noncomputable def scal : V → V → Bool
  | .non, .non => true | .non, .int _ => true | .int _, .non => true | .non, .bl _ => true | .bl _, .non => true | .non, .str _ => true | .str _, .non => true
  | .int _, .int _ => true | .bl _, .bl _ => true | .str _, .str _ => true | .byt _, .byt _ => true
  | .int _, .str _ => true | .str _, .int _ => true | .bl _, .str _ => true | .str _, .bl _ => true
  | _, _ => false
noncomputable def rEq : R2 := fun x y H Q => scal x y = true ∧ Q (.bl (decide (x = y))) H
noncomputable def rNe : R2 := fun x y H Q => scal x y = true ∧ Q (.bl (!decide (x = y))) H

theorem dec_int {i j : Int} : decide (V.int i = V.int j) = (i == j) := by
  rw [Bool.eq_iff_iff]
  simp
theorem dec_bl {i j : Bool} : decide (V.bl i = V.bl j) = (i == j) := by
  rw [Bool.eq_iff_iff]
  simp
theorem dec_str {i j : Str} : decide (V.str i = V.str j) = (i == j) := by
  rw [Bool.eq_iff_iff]
  simp
theorem dec_byt {i j : Array UInt8} : decide (V.byt i = V.byt j) = (i.toList == j.toList) := by
  rw [Bool.eq_iff_iff]
  cases i
  cases j
  simp

section
variable {X : Cx} {a b c : Expr} {ta tb tc : TE} {pos : Pos}
theorem fin_bl {pins : List (Addr × Obj)} {σ : St} {H : Hp} {s : Shared} {Q : VK} {k k' : Bool} (I : Inv X pins σ H s) (q : Q (.bl k) H) (e : k = k') : EP X pins σ Q (.bool k') s := by
  subst e
  exact ⟨.bl k, H, I, rfl, q⟩
theorem op_eq : OpR X (compareOp .Eq) rEq := by
  intro pins s σ H x y v u Q I rx ry h
  obtain ⟨hs, q⟩ := h
  cases x with
  | non =>
    cases rx
    cases y with
    | non => cases ry; exact PySem.EqNone.eq_none_none (fin_bl I q (by simp))
    | bl j => cases ry; exact PySem.EqNone.eq_none_bool (fin_bl I q (by simp))
    | int j => obtain ⟨t', rfl⟩ := ry; exact PySem.EqNone.eq_none_int (fin_bl I q (by simp))
    | str j => obtain ⟨t', rfl⟩ := ry; exact PySem.EqNone.eq_none_str (fin_bl I q (by simp))
    | _ => exact absurd (show false = true from hs) Bool.false_ne_true
  | bl i =>
    cases rx
    cases y with
    | non => cases ry; exact PySem.EqNone.eq_bool_none (fin_bl I q (by simp))
    | bl j => cases ry; exact eq_bool (fin_bl I q dec_bl)
    | str j => obtain ⟨t', rfl⟩ := ry; exact PySem.EqMixed.eq_bool_str (fin_bl I q (by simp))
    | _ => exact absurd (show false = true from hs) Bool.false_ne_true
  | int i =>
    obtain ⟨t, rfl⟩ := rx
    cases y with
    | non => cases ry; exact PySem.EqNone.eq_int_none (fin_bl I q (by simp))
    | int j => obtain ⟨t', rfl⟩ := ry; exact eq_int (fin_bl I q dec_int)
    | str j => obtain ⟨t', rfl⟩ := ry; exact PySem.EqMixed.eq_int_str (fin_bl I q (by simp))
    | _ => exact absurd (show false = true from hs) Bool.false_ne_true
  | str i =>
    obtain ⟨t, rfl⟩ := rx
    cases y with
    | non => cases ry; exact PySem.EqNone.eq_str_none (fin_bl I q (by simp))
    | bl j => cases ry; exact PySem.EqMixed.eq_str_bool (fin_bl I q (by simp))
    | int j => obtain ⟨t', rfl⟩ := ry; exact PySem.EqMixed.eq_str_int (fin_bl I q (by simp))
    | str j => obtain ⟨t', rfl⟩ := ry; exact eq_str (fin_bl I q dec_str)
    | _ => exact absurd (show false = true from hs) Bool.false_ne_true
  | byt i =>
    obtain ⟨t, rfl⟩ := rx
    cases y with
    | byt j => obtain ⟨t', rfl⟩ := ry; exact PySem.W.eq_bytes (fin_bl I q dec_byt)
    | _ => exact absurd (show false = true from hs) Bool.false_ne_true
  | _ => cases y <;> exact absurd (show false = true from hs) Bool.false_ne_true
theorem op_ne : OpR X (compareOp .NotEq) rNe := by
  intro pins s σ H x y v u Q I rx ry h
  obtain ⟨hs, q⟩ := h
  cases x with
  | non =>
    cases rx
    cases y with
    | non => cases ry; exact PySem.EqNone.ne_none_none (fin_bl I q (by simp))
    | bl j => cases ry; exact PySem.EqNone.ne_none_bool (fin_bl I q (by simp))
    | int j => obtain ⟨t', rfl⟩ := ry; exact PySem.EqNone.ne_none_int (fin_bl I q (by simp))
    | str j => obtain ⟨t', rfl⟩ := ry; exact PySem.EqNone.ne_none_str (fin_bl I q (by simp))
    | _ => exact absurd (show false = true from hs) Bool.false_ne_true
  | bl i =>
    cases rx
    cases y with
    | non => cases ry; exact PySem.EqNone.ne_bool_none (fin_bl I q (by simp))
    | bl j => cases ry; exact ne_bool (fin_bl I q (congrArg not dec_bl))
    | str j => obtain ⟨t', rfl⟩ := ry; exact PySem.EqMixed.ne_bool_str (fin_bl I q (by simp))
    | _ => exact absurd (show false = true from hs) Bool.false_ne_true
  | int i =>
    obtain ⟨t, rfl⟩ := rx
    cases y with
    | non => cases ry; exact PySem.EqNone.ne_int_none (fin_bl I q (by simp))
    | int j => obtain ⟨t', rfl⟩ := ry; exact ne_int (fin_bl I q (congrArg not dec_int))
    | str j => obtain ⟨t', rfl⟩ := ry; exact PySem.EqMixed.ne_int_str (fin_bl I q (by simp))
    | _ => exact absurd (show false = true from hs) Bool.false_ne_true
  | str i =>
    obtain ⟨t, rfl⟩ := rx
    cases y with
    | non => cases ry; exact PySem.EqNone.ne_str_none (fin_bl I q (by simp))
    | bl j => cases ry; exact PySem.EqMixed.ne_str_bool (fin_bl I q (by simp))
    | int j => obtain ⟨t', rfl⟩ := ry; exact PySem.EqMixed.ne_str_int (fin_bl I q (by simp))
    | str j => obtain ⟨t', rfl⟩ := ry; exact ne_str (fin_bl I q (congrArg not dec_str))
    | _ => exact absurd (show false = true from hs) Bool.false_ne_true
  | byt i =>
    obtain ⟨t, rfl⟩ := rx
    cases y with
    | byt j => obtain ⟨t', rfl⟩ := ry; exact PySem.W.ne_bytes (fin_bl I q (congrArg not dec_byt))
    | _ => exact absurd (show false = true from hs) Bool.false_ne_true
  | _ => cases y <;> exact absurd (show false = true from hs) Bool.false_ne_true

theorem op_lt : OpR X (compareOp .Lt) (rI0 fun i j => .bl (decide (i < j))) := opB0 fun _ _ _ _ _ _ _ q => lt_int q
theorem op_le : OpR X (compareOp .LtE) (rI0 fun i j => .bl (decide (i ≤ j))) := opB0 fun _ _ _ _ _ _ _ q => le_int q
theorem op_gt : OpR X (compareOp .Gt) (rI0 fun i j => .bl (decide (j < i))) := opB0 fun _ _ _ _ _ _ _ q => gt_int q
theorem op_ge : OpR X (compareOp .GtE) (rI0 fun i j => .bl (decide (j ≤ i))) := opB0 fun _ _ _ _ _ _ _ q => ge_int q
theorem nomark (b : Expr) {op : CmpOp} (h : op ≠ .In := by decide) (h2 : op ≠ .NotIn := by decide) : behindInMarks op b = false := by
  have e1 : (op == CmpOp.In) = false := by cases op <;> first | rfl | exact absurd rfl h
  have e2 : (op == CmpOp.NotIn) = false := by cases op <;> first | rfl | exact absurd rfl h2
  cases b <;> simp [behindInMarks, e1, e2]
theorem pe_cmpR {op : CmpOp} {r : R2} (ho : OpR X (compareOp op) r) (ha : PE X a ta) (hb : PE X b tb) (hm : behindInMarks op b = false) : PE X (.Compare a [op] [b] pos) (tOp r ta tb) := by
  intro pins s σ H Q I h
  exact wpAny_Compare1 (binT ha hb I h fun v u s2 x y H2 I2 rx ry q => ho pins s2 σ H2 x y v u Q I2 rx ry q) hm
noncomputable def tTest (t : TE) : TT := fun σ H Q => t σ H fun x H' => ∃ k, x = .bl k ∧ Q k H'
theorem pt_cmpR {op : CmpOp} {r : R2} (ho : OpR X (compareOp op) r) (ha : PE X a ta) (hb : PE X b tb) (hm : behindInMarks op b = false) : PT X (.Compare a [op] [b] pos) (tTest (tOp r ta tb)) := by
  intro pins s σ H Q I h
  refine wpAny_isTrue_Compare1 (thn (ha pins s σ H _ I h) fun v s1 ⟨x, H1, I1, r1, q1⟩ => thn (hb pins s1 σ H1 _ I1 q1) fun u s2 ⟨y, H2, I2, r2, q2⟩ =>
    thn (ho pins s2 σ H2 x y v u _ I2 r1 r2 q2) fun c s3 ⟨z, H3, I3, r3, k, e, q3⟩ => ?_) hm
  subst e
  cases r3
  exact wpAny_truthy_bool ⟨H3, I3, q3⟩
noncomputable def tChain (r r' : R2) (ta tb tc : TE) : TE := fun σ H Q => ta σ H fun x H1 => tb σ H1 fun y H2 => r x y H2 fun z H3 => ∃ k, z = .bl k ∧
  (if k = true then tc σ H3 fun w' H4 => r' y w' H4 Q else Q (.bl false) H3)
theorem pe_chain {op op' : CmpOp} {r r' : R2} (ho : OpR X (compareOp op) r) (ho' : OpR X (compareOp op') r') (ha : PE X a ta) (hb : PE X b tb) (hc : PE X c tc)
    (hm : lastMarks [op, op'] [b, c] = false := by with_unfolding_all rfl) : PE X (.Compare a [op, op'] [b, c] pos) (tChain r r' ta tb tc) := by
  intro pins s σ H Q I h
  refine Compare_chain (thn (ha pins s σ H _ I h) fun v s1 ⟨x, H1, I1, r1, q1⟩ => chain_link (thn (hb pins s1 σ H1 _ I1 q1) fun u s2 ⟨y, H2, I2, r2, q2⟩ =>
    thn (ho pins s2 σ H2 x y v u _ I2 r1 r2 q2) fun d s3 ⟨z, H3, I3, r3, k, e, q3⟩ => ?_)) hm
  subst e
  cases r3
  refine wpAny_truthy_bool ?_
  cases k with
  | false => exact ite_ff ⟨.bl false, H3, I3, rfl, q3⟩
  | true => exact ite_tt (chain_last (thn (hc pins s3 σ H3 _ I3 q3) fun w' s4 ⟨z', H4, I4, r4, q4⟩ => ho' pins s4 σ H4 y z' u w' Q I4 r2 r4 q4))
theorem pt_chain {op op' : CmpOp} {r r' : R2} (ho : OpR X (compareOp op) r) (ho' : OpR X (compareOp op') r') (ha : PE X a ta) (hb : PE X b tb) (hc : PE X c tc)
    (hm : lastMarks [op, op'] [b, c] = false := by with_unfolding_all rfl) : PT X (.Compare a [op, op'] [b, c] pos) (tTest (tChain r r' ta tb tc)) := by
  intro pins s σ H Q I h
  refine isTrue_chain (thn (ha pins s σ H _ I h) fun v s1 ⟨x, H1, I1, r1, q1⟩ => test_link (thn (hb pins s1 σ H1 _ I1 q1) fun u s2 ⟨y, H2, I2, r2, q2⟩ =>
    thn (ho pins s2 σ H2 x y v u _ I2 r1 r2 q2) fun d s3 ⟨z, H3, I3, r3, k, e, q3⟩ => ?_)) hm
  subst e
  cases r3
  refine wpAny_truthy_bool ?_
  cases k with
  | false =>
    obtain ⟨k', e', q'⟩ := q3
    cases e'
    exact ite_ff ⟨H3, I3, q'⟩
  | true =>
    refine ite_tt (test_last (thn (hc pins s3 σ H3 _ I3 q3) fun w' s4 hpt20 => ?_))
    obtain ⟨z', H4, I4, r4, q4⟩ := hpt20
    refine thn (ho' pins s4 σ H4 y z' u w' _ I4 r2 r4 q4) fun d' s5 hpt21 => ?_
    obtain ⟨z2, H5, I5, r5, k2, e2, q5⟩ := hpt21
    subst e2
    cases r5
    exact wpAny_truthy_bool ⟨H5, I5, q5⟩

theorem line63 : (sizeLine : Nat) < 2 ^ 63 := by rw [sizeLine_eq]; decide
theorem vals1 {x : V} {us : List Value} (r : Vals [x] us) : ∃ u, us = [u] ∧ RelV x u := by
  cases r with
  | cons r1 r2 => cases r2; exact ⟨_, rfl, r1⟩
theorem vals2 {x y : V} {us : List Value} (r : Vals [x, y] us) : ∃ u w', us = [u, w'] ∧ RelV x u ∧ RelV y w' := by
  cases r with
  | cons r1 r2 =>
    cases r2 with
    | cons r3 r4 => cases r4; exact ⟨_, _, rfl, r1, r3⟩
theorem call_max2 (hc : X.calm = true) : CallR X (.builtin "max") (fun xs H Q => ∃ i j, xs = [.int i, .int j] ∧ Q (.int (if j > i then j else i)) H) := by
  intro pins s σ H xs us Q I r h
  obtain ⟨i, j, rfl, q⟩ := h
  obtain ⟨u, w', rfl, ⟨t, rfl⟩, ⟨t', rfl⟩⟩ := vals2 r
  refine max_two_ints (I.ok.hd hc) fun h' tk k => ⟨_, H, I.kept k, ?_, q⟩
  by_cases hj : j > i
  · rw [if_pos hj, if_pos hj]; exact ⟨_, rfl⟩
  · rw [if_neg hj, if_neg hj]; exact ⟨_, rfl⟩
theorem call_min2 (hc : X.calm = true) : CallR X (.builtin "min") (fun xs H Q => ∃ i j, xs = [.int i, .int j] ∧ Q (.int (if j < i then j else i)) H) := by
  intro pins s σ H xs us Q I r h
  obtain ⟨i, j, rfl, q⟩ := h
  obtain ⟨u, w', rfl, ⟨t, rfl⟩, ⟨t', rfl⟩⟩ := vals2 r
  refine min_two_ints (I.ok.hd hc) fun h' tk k => ⟨_, H, I.kept k, ?_, q⟩
  by_cases hj : j < i
  · rw [if_pos hj, if_pos hj]; exact ⟨_, rfl⟩
  · rw [if_neg hj, if_neg hj]; exact ⟨_, rfl⟩
end
end L2

namespace L2
open PySem PySem.Spec PyProof.Rows

structure ObjM (h : Heap) (x dx C : Addr) (mA : Str → Option Value) : Prop where
  obj : h.get? x = some (PySem.W.instObj C dx)
  ns : h.Ns1 dx mA
  ne : dx ≠ x

theorem lookIn_ns {h : Heap} {dx : Addr} {mA : Str → Option Value} (n : h.Ns1 dx mA) : ∃ od, h.get? dx = some od ∧ ∀ name, PySem.W.lookIn name od = some (mA name) := by
  obtain ⟨o, es, ep, ho, hd, hk, _, hm⟩ := n
  refine ⟨o, ho, fun name => ?_⟩
  have e := hm name
  unfold nsFind findBy at e
  rw [← Array.find?_toList] at e
  unfold PySem.W.lookIn
  rw [hd]
  dsimp only
  split
  · rename_i y q
    rw [q] at e
    exact congrArg some e
  · rename_i q
    rw [q] at e
    have a : es.toList.any (·.refKey) = false := by
      rw [List.any_eq_false]
      intro y hy
      obtain ⟨z, t, hkey⟩ := hk y (Array.mem_toList_iff.mp hy)
      simp [DictEntry.refKey, hkey]
    have a' : ¬ es.toList.any (·.refKey) = true := by rw [a]; exact Bool.false_ne_true
    rw [if_neg a']
    exact congrArg some e

theorem ObjM.look {h : Heap} {x dx C : Addr} {mA : Str → Option Value} (I : ObjM h x dx C mA) : ∃ od, PySem.W.InstAt h x (PySem.W.instObj C dx) C (some od) ∧ ∀ name, PySem.W.lookIn name od = some (mA name) :=
  let ⟨od, ho, hl⟩ := lookIn_ns I.ns
  ⟨od, ⟨I.obj, rfl, rfl, ho⟩, hl⟩

section
variable {prog : Program} {w : World} {A : Around} {E : Value → Shared → Prop} {s : Shared} {K : PySem.W.Frag} {x dx C f : Addr} {mA : Str → Option Value} {name : Str} {v : Value}

theorem get_map {expr : Bool} {Q : Value → Shared → Prop} (X : K.In s.heap) (I : ObjM s.heap x dx C mA) (hg : PySem.W.plainGet K C name = true) (hh : PySem.W.hasDictIn K C = true)
    (ha : PySem.W.findIn K (.ref C) name = some none) (hv : mA name = some v) (hv' : PySem.W.handedIn v = true) (h : Q v { s with toks := s.toks + 1 }) :
    wpAny (model prog w) A (getAttr (.ref x) name expr) Q E s := by
  obtain ⟨od, J, hl⟩ := I.look
  exact PySem.W.get_value X J (PySem.W.plainGet_of hg).1 (PySem.W.findObj_own hh ha rfl (by rw [hl, hv])) hv' h

theorem get_meth {pl : Sem Bool} {Q : Value × List Value → Shared → Prop} (X : K.In s.heap) (I : ObjM s.heap x dx C mA) (hg : PySem.W.plainGet K C name = true)
    (hf : PySem.W.findIn K (.ref C) name = some (some (.ref f))) (ht : PySem.W.isFn K (.ref f) = true) (hv : mA name = none) (h : Q (.ref f, [.ref x]) s) :
    wpAny (model prog w) A (getMethod (.ref x) name pl) Q E s := by
  obtain ⟨od, J, hl⟩ := I.look
  exact PySem.W.method_fn X J (PySem.W.plainGet_of hg).1 (PySem.W.plainGet_of hg).2 hf (beq_iff_eq.mp ht) (by show (PySem.W.lookIn name od).map (·.isSome) = some false; rw [hl, hv]; rfl) h

theorem set_map {ns : List Str} {Q : Unit → Shared → Prop} (X : K.In s.heap) (I : ObjM s.heap x dx C mA)
    (hs : PySem.W.findIn K (.ref C) "__setattr__" = some (some (.builtin "object.__setattr__"))) (hp : PySem.W.plainOver K C = true) (ht : PySem.W.takerIn K C name = some none) (hh : PySem.W.hasDictIn K C = true)
    (hw : PySem.Within mA ns) (hsz : ns.length ≤ sizeLine)
    (h : ∀ h', ObjM h' x dx C (fun y => if y = name then some v else mA y) → Heap.SameBut dx s.heap h' → Q () { s with heap := h', toks := s.toks + 2 }) :
    wpAny (model prog w) A (setAttr (.ref x) name v) Q E s := by
  obtain ⟨od, J, hl⟩ := I.look
  refine PySem.W.set_plain X J hs (PySem.W.osa_open (s := { s with toks := s.toks + 1 }) (r := none) X J hp ht fun b => ?_)
  obtain ⟨cd, hc, hd'⟩ := PySem.W.any_some hh
  have hx : s.heap.get? x = some ⟨.ref C, some dx, .plain, #[]⟩ := I.obj
  refine wpAny_bind (wpAny_pure (wpAny_bind (wpAny_bind (wpAny_loadPart hx (wpAny_bind (PySem.W.Looks.here (s := { s with toks := s.toks + 1 }) (PySem.W.looks_clsIn X hc) ?_))))))
  rw [hd']
  refine wpAny_pure (a := some dx) (wpAny_bind (wpAny_pure (wpAny_bind ?_)))
  refine wpAny_nsSet1 (s := { s with toks := s.toks + 1 }) I.ns fun h' hn2 hs2 => ?_
  obtain ⟨oD, esD, epD, hoD, hdD, hcD⟩ := hn2.count (PySem.Within.cons name v hw)
  refine wpAny_bind (wpAny_lookBehind hoD (by rw [hdD]; exact pastItsLine_dict (Nat.le_trans hcD (by rw [List.length_cons]; first | lia | omega))) ?_)
  exact wpAny_pure (h _ ⟨(hs2.2 _ (Ne.symm I.ne)).trans I.obj, hn2, I.ne⟩ hs2)

theorem make_map {R : Result → Shared → Prop} {vs : List Value} {kw : List (Str × Value)} (X : K.In s.heap) (hm : PySem.W.makesIn K C = true)
    (hi : PySem.W.findIn K (.ref C) "__init__" = some (some (.ref f))) (hf : PySem.W.typeIn K (.ref f) = some (.type "function"))
    (h : codeAny (model prog w) (A.under (.builtin "type.__call__" ⟨.ref C :: vs, kw⟩)) (.call (.ref f) ⟨.ref (s.heap.objs.size + 1) :: vs, kw⟩) (PySem.W.InitBack (s.heap.objs.size + 1) R)
      { s with heap := (s.heap.push PySem.W.emptyDict).push (PySem.W.instObj C s.heap.objs.size) }) :
    codeAny (model prog w) A (.call (.ref C) ⟨vs, kw⟩) R s := by
  obtain ⟨hh, g, d, t, os⟩ := s
  exact PySem.W.make_core (PySem.W.makes_of X hm) (PySem.W.looks_findIn X hi) (fun self => PySem.W.bind_fn X self hf) (.inl rfl) h
end

noncomputable def putF (f : Str) (v : V) : List (Str × V) → List (Str × V)
  | [] => [(f, v)]
  | (g, x) :: r => if g = f then (g, v) :: r else (g, x) :: putF f v r
theorem lookup_putF (f g : Str) (v : V) : ∀ fs : List (Str × V), (putF f v fs).lookup g = if g = f then some v else fs.lookup g
  | [] => by
    show List.lookup g [(f, v)] = _
    by_cases h : g = f
    · have hb : (g == f) = true := beq_iff_eq.mpr h
      simp only [List.lookup, hb, if_pos h]
    · have hb : (g == f) = false := beq_eq_false_iff_ne.mpr h
      simp only [List.lookup, hb, if_neg h]
  | (k, x) :: r => by
    have ih := lookup_putF f g v r
    rw [show putF f v ((k, x) :: r) = (if k = f then (k, v) :: r else (k, x) :: putF f v r) from rfl]
    by_cases hk : k = f
    · rw [if_pos hk]
      by_cases h : g = k
      · have hb : (g == k) = true := beq_iff_eq.mpr h
        simp only [List.lookup, hb, if_pos (h.trans hk)]
      · have hb : (g == k) = false := beq_eq_false_iff_ne.mpr h
        simp only [List.lookup, hb, if_neg (fun e : g = f => h (e.trans hk.symm))]
    · rw [if_neg hk]
      by_cases h : g = k
      · have hb : (g == k) = true := beq_iff_eq.mpr h
        simp only [List.lookup, hb, if_neg (fun e : g = f => hk (h.symm.trans e))]
      · have hb : (g == k) = false := beq_eq_false_iff_ne.mpr h
        simp only [List.lookup, hb]
        exact ih
theorem keys_putF (f : Str) (v : V) : ∀ fs : List (Str × V), f ∈ (putF f v fs).map (·.1) ∧ ∀ g, g ∈ fs.map (·.1) → g ∈ (putF f v fs).map (·.1)
  | [] => ⟨by simp [putF], fun g h => by simp at h⟩
  | (k, x) :: r => by
    obtain ⟨i1, i2⟩ := keys_putF f v r
    rw [show putF f v ((k, x) :: r) = (if k = f then (k, v) :: r else (k, x) :: putF f v r) from rfl]
    by_cases hk : k = f
    · rw [if_pos hk]
      subst hk
      exact ⟨by simp, fun g h => by simpa using h⟩
    · rw [if_neg hk]
      refine ⟨?_, fun g h => ?_⟩
      · rw [List.map_cons]
        exact List.mem_cons_of_mem _ i1
      · rw [List.map_cons] at h ⊢
        rcases List.mem_cons.mp h with e | e
        · exact List.mem_cons.mpr (.inl e)
        · exact List.mem_cons_of_mem _ (i2 g e)
theorem length_putF (f : Str) (v : V) : ∀ fs : List (Str × V), (putF f v fs).length ≤ fs.length + 1
  | [] => by simp [putF]
  | (k, x) :: r => by
    have ih := length_putF f v r
    rw [show putF f v ((k, x) :: r) = (if k = f then (k, v) :: r else (k, x) :: putF f v r) from rfl]
    by_cases hk : k = f
    · rw [if_pos hk, List.length_cons, List.length_cons]; first | lia | omega
    · rw [if_neg hk, List.length_cons, List.length_cons]; first | lia | omega

theorem RelO.some_of {v : V} {o : Option Value} (r : RelO (some v) o) : ∃ u, o = some u ∧ RelV v u := by
  cases o with
  | none => exact (show False from r).elim
  | some u => exact ⟨u, rfl, r⟩
theorem RelO.none_of {o : Option Value} (r : RelO none o) : o = none := by
  cases o with
  | none => rfl
  | some u => exact (show False from r).elim
theorem handed_of {v : V} {u : Value} (r : RelV v u) : PySem.W.handedIn u = true := by
  cases v with
  | non => cases (show u = Value.none from r); rfl
  | bl b => cases (show u = Value.bool b from r); rfl
  | int i => obtain ⟨t, e⟩ := (show ∃ t, u = Value.int i t from r); cases e; rfl
  | str x => obtain ⟨t, e⟩ := (show ∃ t, u = Value.str x t from r); cases e; rfl
  | byt b => obtain ⟨t, e⟩ := (show ∃ t, u = Value.bytes b t from r); cases e; rfl
  | flt b => obtain ⟨t, e⟩ := (show ∃ t, u = Value.float b t from r); cases e; rfl
  | ref a => cases (show u = Value.ref a from r); rfl
  | ty n => cases (show u = Value.type n from r); rfl

section
variable {P : Program} {w : World} {H H' : Hp} {h h' : Heap} {a C dx : Addr} {fs fs' : List (Str × V)}
theorem ins_get (hok : HOk P w H h) (e : H a = some (.ins C dx fs)) : ∃ mA, ObjM h a dx C mA ∧ (∀ f, RelO (fs.lookup f) (mA f)) ∧ PySem.Within mA (fs.map (·.1)) ∧ fs.length ≤ 1000 ∧ H dx = some (.own a) := by
  obtain ⟨d, z, ne, ob, mA, n, r, q⟩ := (show ObjOk P w H h a (.ins C dx fs) from hok a _ e)
  exact ⟨mA, ⟨ob, n, ne⟩, r, q, z, d⟩
end

structure Cls (K : PySem.W.Frag) (C : Addr) : Prop where
  pg : PySem.W.plainGet K C Str.empty = true
  hd : PySem.W.hasDictIn K C = true
  po : PySem.W.plainOver K C = true
  sa : PySem.W.findIn K (.ref C) "__setattr__" = some (some (.builtin "object.__setattr__"))
theorem Cls.get {K : PySem.W.Frag} {C : Addr} (c : Cls K C) (f : Str) : PySem.W.plainGet K C f = true := c.pg
noncomputable def NoAttr (K : PySem.W.Frag) (C : Addr) (f : Str) : Prop := PySem.W.findIn K (.ref C) f = some none
theorem NoAttr.taker {K : PySem.W.Frag} {C : Addr} {f : Str} (n : NoAttr K C f) : PySem.W.takerIn K C f = some none := by
  unfold PySem.W.takerIn
  rw [show PySem.W.findIn K (.ref C) f = some none from n]
  rfl
structure Meth (K : PySem.W.Frag) (C : Addr) (m : Str) (f : Addr) : Prop where
  at_ : PySem.W.findIn K (.ref C) m = some (some (.ref f))
  fn : PySem.W.isFn K (.ref f) = true
  kp : PySem.W.keepIn K (.ref f) = true

section
variable {X : Cx} {pins : List (Addr × Obj)} {σ : St} {H : Hp} {s : Shared} {a C dx : Addr} {fs : List (Str × V)} {f : Str} {v : V} {A : Around} {E : Value → Shared → Prop}

theorem getattr_ok {b : Bool} {Q : Value → Shared → Prop} (I : Inv X pins σ H s) (e : H a = some (.ins C dx fs)) (c : Cls X.K C) (n : NoAttr X.K C f) (l : fs.lookup f = some v)
    (h : ∀ u s', Inv X pins σ H s' → RelV v u → Q u s') : wpAny (model X.prog X.w) A (getAttr (.ref a) f b) Q E s := by
  obtain ⟨mA, O, r, _, _, _⟩ := ins_get I.hok e
  obtain ⟨u, hu, ru⟩ := RelO.some_of (v := v) (o := mA f) (by rw [← l]; exact r f)
  exact get_map I.kIn O (c.get f) c.hd n hu (handed_of ru) (h u _ (I.tok _) ru)

theorem getmeth_ok {m : Str} {g : Addr} {pl : Sem Bool} {Q : Value × List Value → Shared → Prop} (I : Inv X pins σ H s) (e : H a = some (.ins C dx fs)) (c : Cls X.K C) (k : Meth X.K C m g) (l : fs.lookup m = none)
    (h : Q (.ref g, [.ref a]) s) : wpAny (model X.prog X.w) A (getMethod (.ref a) m pl) Q E s := by
  obtain ⟨mA, O, r, _, _, _⟩ := ins_get I.hok e
  have hn : mA m = none := RelO.none_of (by rw [← l]; exact r m)
  exact get_meth I.kIn O (c.get m) k.at_ k.fn hn h

theorem setattr_ok {y : V} {u : Value} {Q : Unit → Shared → Prop} (I : Inv X pins σ H s) (e : H a = some (.ins C dx fs)) (c : Cls X.K C) (n : NoAttr X.K C f) (hl : fs.length < 1000) (ry : RelV y u)
    (h : ∀ s', Inv X pins σ (upd H a (.ins C dx (putF f y fs))) s' → Q () s') : wpAny (model X.prog X.w) A (setAttr (.ref a) f u) Q E s := by
  obtain ⟨mA, O, r, wi, _, ho⟩ := ins_get I.hok e
  have hz : (fs.map (·.1)).length ≤ sizeLine := by rw [List.length_map, sizeLine_eq]; first | lia | omega
  refine set_map I.kIn O c.sa c.po n.taker c.hd wi hz fun h' O' sb => h _ ?_
  have hd : ∃ o, h'.get? dx = some o := let ⟨o, _, _, e', _⟩ := O'.ns; ⟨o, e'⟩
  refine I.write (x := a) (e := dx) (by rw [e]; exact True.intro) (.inr ho) (fun b q hb z => (sb.2 b hb).trans z) hd ?_
  refine ⟨by rw [upd_ne O.ne]; exact ho, ?_, O.ne, O'.obj, _, O'.ns, fun g => ?_, fun g hg => ?_⟩
  · have := length_putF f y fs; first | lia | omega
  · show RelO ((putF f y fs).lookup g) (if g = f then some u else mA g)
    rw [lookup_putF]
    by_cases q : g = f
    · rw [if_pos q, if_pos q]; exact ry
    · rw [if_neg q, if_neg q]; exact r g
  · by_cases q : g = f
    · rw [q]; exact (keys_putF f y fs).1
    · refine (keys_putF f y fs).2 g (wi g fun z => hg ?_)
      show (if g = f then some u else mA g) = none
      rw [if_neg q]; exact z

theorem Inv.made (I : Inv X pins σ H s) : Inv X pins σ (upd (upd H s.heap.objs.size (.own (s.heap.objs.size + 1))) (s.heap.objs.size + 1) (.ins C s.heap.objs.size []))
    { s with heap := (s.heap.push PySem.W.emptyDict).push (PySem.W.instObj C s.heap.objs.size) } := by
  have e1 : (s.heap.push PySem.W.emptyDict).get? s.heap.objs.size = some PySem.W.emptyDict := Heap.get?_push_size s.heap rfl
  have e2 : ((s.heap.push PySem.W.emptyDict).push (PySem.W.instObj C s.heap.objs.size)).get? (s.heap.objs.size + 1) = some (PySem.W.instObj C s.heap.objs.size) := by
    have := Heap.get?_push_size (s.heap.push PySem.W.emptyDict) (o := PySem.W.instObj C s.heap.objs.size) rfl
    rwa [Heap.size_push] at this
  have e3 : (s.heap.push PySem.W.emptyDict).Ns s.heap.objs.size (fun _ => none) := ⟨PySem.W.emptyDict, #[], _, e1, rfl, (fun e he => absurd he (by simp)), fun _ => rfl⟩
  have I1 := I.laid (a := s.heap.objs.size) (o := .own (s.heap.objs.size + 1)) (h' := s.heap.push PySem.W.emptyDict) (t' := s.toks) (fun b u q => Heap.get?_push_of_some _ q) (Nat.le_refl _) ⟨_, e1⟩
  refine I1.laid (a := s.heap.objs.size + 1) (o := .ins C s.heap.objs.size []) (t' := s.toks) (fun b u q => Heap.get?_push_of_some _ q) (Nat.le_of_eq (Heap.size_push _ _)) ?_
  have ne : s.heap.objs.size ≠ s.heap.objs.size + 1 := Nat.ne_of_lt (Nat.lt_succ_self _)
  refine ⟨by rw [upd_ne ne, upd_same], Nat.zero_le _, ne, e2, fun _ => none, (Heap.Ns1.of_empty e3).at fun o q => Heap.get?_push_of_some _ q, fun _ => True.intro, fun y hy => absurd rfl hy⟩

theorem attr_of {prog : Program} {w : World} {env : Env} {e : Expr} {f : Str} {pos : Pos} {s : Shared} {Q : Value → Shared → Prop} (hb : attributeBase e f env (eval e env) = eval e env)
    (h : wpAny (model prog w) A (eval e env) (fun o s₁ => wpAny (model prog w) A (getAttr o f true) Q E s₁) E s) : wpAny (model prog w) A (eval (.Attribute e f pos) env) Q E s :=
  Attribute_any_ h (by rw [arm_eval_Attribute, hb])
end

noncomputable def tFld (K : PySem.W.Frag) (ta : TE) (f : Str) : TE := fun σ H Q => ta σ H fun x H1 => ∃ a C dx fs v, x = .ref a ∧ H1 a = some (.ins C dx fs) ∧ Cls K C ∧ NoAttr K C f ∧ fs.lookup f = some v ∧ Q v H1
noncomputable def sFld (K : PySem.W.Frag) (ta tv : TE) (f : Str) : TS := fun D σ H => tv σ H fun y H1 => ta σ H1 fun x H2 => ∃ a C dx fs, x = .ref a ∧ H2 a = some (.ins C dx fs) ∧ Cls K C ∧ NoAttr K C f ∧ fs.length < 1000 ∧
  D.nx σ (upd H2 a (.ins C dx (putF f y fs)))
noncomputable def InOp (X : Cx) (op : Operator) (rd : V → V → Hp → VK → Prop) : Prop :=
  ∀ (pins : List (Addr × Obj)) (s : Shared) (σ : St) (H : Hp) (x y : V) (u v : Value) (Q : VK), Inv X pins σ H s → RelV x u → RelV y v → rd x y H Q → wpAny (model X.prog X.w) X.A (inplaceOp op u v) (EP X pins σ Q) X.xe s
noncomputable def sFldAug (K : PySem.W.Frag) (ta tv : TE) (rd : V → V → Hp → VK → Prop) (f : Str) : TS := fun D σ H => ta σ H fun x H1 => ∃ a C dx fs v, x = .ref a ∧ H1 a = some (.ins C dx fs) ∧ Cls K C ∧ NoAttr K C f ∧ fs.lookup f = some v ∧
  tv σ H1 fun y H2 => rd v y H2 fun z H3 => ∃ dx' fs', H3 a = some (.ins C dx' fs') ∧ fs'.length < 1000 ∧ D.nx σ (upd H3 a (.ins C dx' (putF f z fs')))

section
variable {X : Cx} {o e value : Expr} {f : Str} {pos pos' tpos : Pos} {ta tv : TE}
theorem pe_fld (he : PE X e ta) (hb : attributeBase e f X.env (eval e X.env) = eval e X.env) : PE X (.Attribute e f pos) (tFld X.K ta f) := by
  intro pins s σ H Q I h
  refine attr_of hb (thn (he pins s σ H _ I h) fun u s1 hpt22 => ?_)
  obtain ⟨x, H1, I1, rx, a, C, dx, fs, v, ex, ea, c, n, l, q⟩ := hpt22
  subst ex
  obtain rfl : u = Value.ref a := rx
  exact getattr_ok I1 ea c n l fun u' s2 I2 ru => ⟨v, H1, I2, ru, q⟩
theorem ps_fld (ha : PE X o ta) (hv : PE X value tv) (hs : swapsWith value (some (.Attribute o f pos')) pos.line X.env = pure false) : PS X (.Assign [.Attribute o f pos'] value pos) (sFld X.K ta tv f) := by
  intro pins s σ H D I h
  refine plainObj_wpAny_Assign_Attribute (thn (hv pins s σ H _ I h) fun u s1 ⟨y, H1, I1, ry, q⟩ => thn (ha pins s1 σ H1 _ I1 q) fun ov s2 ⟨x, H2, I2, rx, a, C, dx, fs, ex, ea, c, n, l, q2⟩ => ?_) hs
  subst ex
  obtain rfl : ov = Value.ref a := rx
  exact setattr_ok I2 ea c n l ry fun s3 I3 => ⟨σ, _, I3, q2⟩
theorem ps_fldaug {op : Operator} {rd : V → V → Hp → VK → Prop} (ha : PE X o ta) (hv : PE X value tv) (hop : InOp X op rd) : PS X (.AugAssign (.Attribute o f tpos) op value pos) (sFldAug X.K ta tv rd f) := by
  intro pins s σ H D I h
  refine wpAny_AugAssign_AttributeAny (thn (ha pins s σ H _ I h) fun ov s1 hpt23 => ?_)
  obtain ⟨x, H1, I1, rx, a, C, dx, fs, v, ex, ea, c, n, l, q⟩ := hpt23
  subst ex
  obtain rfl : ov = Value.ref a := rx
  refine getattr_ok I1 ea c n l fun u s2 I2 ru => thn (hv pins s2 σ H1 _ I2 q) fun w3 s3 hpt24 => ?_
  obtain ⟨y, H2, I3, ry, q3⟩ := hpt24
  refine thn (hop pins s3 σ H2 v y u w3 _ I3 ru ry q3) fun w4 s4 hpt25 => ?_
  obtain ⟨z, H3, I4, rz, dx', fs', ea', l', q4⟩ := hpt25
  exact setattr_ok I4 ea' c n l' rz fun s5 I5 => ⟨σ, _, I5, q4⟩
noncomputable def rAdd : V → V → Hp → VK → Prop := fun x y H Q => ∃ i j, x = .int i ∧ y = .int j ∧ Q (.int (i + j)) H
theorem in_add : InOp X .Add rAdd := by
  rintro pins s σ H x y u v Q I rx ry ⟨i, j, rfl, rfl, q⟩
  obtain ⟨t, rfl⟩ := (show ∃ t, u = Value.int i t from rx)
  obtain ⟨t', rfl⟩ := (show ∃ t', v = Value.int j t' from ry)
  exact PyProof.Rows.iadd_int ⟨.int (i + j), H, I.tok _, ⟨_, rfl⟩, q⟩
theorem methcall_of {pl : Sem Bool} {m : Str} {apos : Pos} {args : List Expr} {pins : List (Addr × Obj)} {s : Shared} {σ : St} {H : Hp} {Q : Value → Shared → Prop} {te : TE} (he : PE X e te) (I : Inv X pins σ H s)
    (h : te σ H fun x H1 => ∃ a C dx fs g, x = .ref a ∧ H1 a = some (.ins C dx fs) ∧ Cls X.K C ∧ Meth X.K C m g ∧ fs.lookup m = none ∧
      ∀ s1, Inv X pins σ H1 s1 → wpAny (model X.prog X.w) X.A (callWith pos (.ref g) [.ref a] (backTo pos (starEach args X.env)) (backToKw pos (keywordEach [] X.env))) Q X.xe s1)
    (ht : eval (.Call (.Attribute e m apos) args [] pos) X.env = (do
      let ov ← eval e X.env
      standAt apos.atName
      let (f, first) ← holding [ov] (getMethod ov m pl)
      callWith pos f first (backTo pos (starEach args X.env)) (backToKw pos (keywordEach [] X.env)))) :
    wpAny (model X.prog X.w) X.A (eval (.Call (.Attribute e m apos) args [] pos) X.env) Q X.xe s := by
  refine PySem.W.methodCall_KW (pl := pl) (thn (he pins s σ H _ I h) fun u s1 ⟨x, H1, I1, rx, a, C, dx, fs, g, ex, ea, c, k, l, q⟩ => ?_) ht
  subst ex
  obtain rfl : u = Value.ref a := rx
  exact getmeth_ok I1 ea c k l (q s1 I1)
end

section
variable {X : Cx} {pins : List (Addr × Obj)} {σ : St} {H : Hp} {s : Shared} {A : Around} {E : Value → Shared → Prop} {Q : Value → Shared → Prop} {c : Value} {b : Bool}
end
end L2

namespace L2
open PySem PySem.Spec PyProof.Rows

structure Room (k : Nat) (A : Around) : Prop where
  hd : A.handled = none
  dp : A.depth + 3 * k + 5 < recursionLimit
  un : A.units + 16 * k + 200 < cLine
theorem Room.mono {j k : Nat} {A : Around} (r : Room k A) (h : j ≤ k) : Room j A := ⟨r.hd, by have := r.dp; first | lia | omega, by have := r.un; first | lia | omega⟩
theorem Room.deeper {k : Nat} {A : Around} (r : Room (k + 1) A) (env : Env) : Room k (A.deeper env) :=
  ⟨r.hd, by have := r.dp; show A.depth + 1 + 3 * k + 5 < _; first | lia | omega, by have := r.un; show A.units + 3 + 16 * k + 200 < _; first | lia | omega⟩
theorem Room.in1 {k : Nat} {A : Around} (r : Room (k + 1) A) : Room k A.in1 :=
  ⟨r.hd, by have := r.dp; show A.depth + 3 * k + 5 < _; first | lia | omega, by have := r.un; show A.units + 1 + 16 * k + 200 < _; first | lia | omega⟩
theorem make_depth {A : Around} {C : Addr} {us : List Value} {kw : List (Str × Value)} : (A.under (.builtin "type.__call__" ⟨.ref C :: us, kw⟩)).depth = A.depth + 1 := by
  first | rfl | simp [Around.under, Code.weight, Code.isCreation, Code.isGuard, Code.isCaller, Code.frames, Code.isFrame, guardIds]
theorem make_units {A : Around} {C : Addr} {us : List Value} {kw : List (Str × Value)} : (A.under (.builtin "type.__call__" ⟨.ref C :: us, kw⟩)).units = A.units + 1 := by
  first | rfl | simp [Around.under, Code.cUnits, Code.frames, Code.isFrame]
theorem Room.make {k : Nat} {A : Around} (r : Room (k + 1) A) (C : Addr) (us : List Value) (kw : List (Str × Value)) : Room k (A.under (.builtin "type.__call__" ⟨.ref C :: us, kw⟩)) :=
  ⟨r.hd, by have := r.dp; rw [make_depth]; first | lia | omega, by have := r.un; rw [make_units]; first | lia | omega⟩
theorem Room.depth {k : Nat} {A : Around} (r : Room k A) : A.depth < recursionLimit := by have := r.dp; first | lia | omega
theorem Room.units {k : Nat} {A : Around} (r : Room k A) : A.units + 64 < cLine := by have := r.un; first | lia | omega
noncomputable def tNil : TA := fun _ H Q => Q [] H
noncomputable def tCons (ta : TE) (tr : TA) : TA := fun σ H Q => ta σ H fun x H1 => tr σ H1 fun xs H2 => Q (x :: xs) H2
section
variable {X : Cx} {e : Expr} {es : List Expr} {te : TE} {t : TA} {pos : Pos}
theorem pa_nil : PA X [] tNil := fun _ _ _ _ H Q I h => Calls.spliced_nil ⟨[], H, I, .nil, h⟩
theorem pa_cons (ha : PE X e te) (hr : PA X es t) (hs : starEach (e :: es) X.env = (false, eval e X.env) :: starEach es X.env := by rfl) : PA X (e :: es) (tCons te t) := by
  intro pos pins s σ H Q I h
  rw [hs]
  show wpAny _ _ (spliced ((false, eval e X.env) :: backTo pos (starEach es X.env))) _ _ s
  refine Calls.spliced_cons (thn (ha pins s σ H _ I h) fun u s1 hpt26 => ?_)
  obtain ⟨x, H1, I1, r1, q1⟩ := hpt26
  refine thn (hr pos pins s1 σ H1 _ I1 q1) fun us s2 hpt27 => ?_
  obtain ⟨xs, H2, I2, r2, q2⟩ := hpt27
  exact ⟨x :: xs, H2, I2, .cons r1 r2, q2⟩

noncomputable def tTup (t : TA) : TE := fun σ H Q => t σ H fun xs H1 => xs.length ≤ sizeLine ∧ ∀ p, H1 p = none → Q (.ref p) (upd H1 p (.tup xs))
noncomputable def tLst (t : TA) : TE := fun σ H Q => t σ H fun xs H1 => xs.length ≤ sizeLine ∧ ∀ p, H1 p = none → Q (.ref p) (upd H1 p (.lst xs))
theorem pe_tup {x1} (h : PA X es t) : PE X (.Tuple es x1 pos) (tTup t) := by
  intro pins s σ H Q I hq
  refine wpAny_Tuple_spliced (thn (h pos pins s σ H _ I hq) fun us s1 hpt28 => ?_)
  obtain ⟨xs, H1, I1, r, z, q⟩ := hpt28
  refine ⟨by rw [← r.length]; exact z, ?_⟩
  have hf : H1 s1.heap.objs.size = none := I1.hok.fresh (Nat.le_refl _)
  refine ⟨.ref s1.heap.objs.size, upd H1 s1.heap.objs.size (.tup xs), I1.laid (t' := s1.toks) (fun b u e => Heap.get?_push_of_some _ e) (Nat.le_refl _) ?_, rfl, q _ hf⟩
  exact ⟨z, us, r, ⟨_, Heap.get?_push_size _ rfl, rfl, _, rfl⟩⟩
theorem pe_lst (h : PA X es t) : PE X (.List es pos) (tLst t) := by
  intro pins s σ H Q I hq
  refine wpAny_List_spliced (thn (h pos pins s σ H _ I hq) fun us s1 hpt29 => ?_)
  obtain ⟨xs, H1, I1, r, z, q⟩ := hpt29
  refine ⟨by rw [← r.length]; exact z, ?_⟩
  have hf : H1 s1.heap.objs.size = none := I1.hok.fresh (Nat.le_refl _)
  refine ⟨.ref s1.heap.objs.size, upd H1 s1.heap.objs.size (.lst xs), I1.laid (t' := s1.toks) (fun b u e => Heap.get?_push_of_some _ e) (Nat.le_refl _) ?_, rfl, q _ hf⟩
  exact ⟨z, us, 0, r, Heap.get?_push_size _ rfl⟩
end

noncomputable abbrev Sp := List V → Hp → VK → XK → Prop
noncomputable abbrev CXT := List Env → Hp → Shared → XK → Value → Shared → Prop

structure Env0 (P : Program) (w : World) (K : PySem.W.Frag) (mg : Str → Option Value) (base : Heap) (A : Around) (outer : List Env) (s : Shared) (H : Hp) : Prop where
  frames : A.frames = some outer
  mod : Mod K mg base
  bs : ∀ b o, base.get? b = some o → s.heap.get? b = some o ∧ H b = none
  bsz : base.objs.size ≤ s.heap.objs.size
  funs : s.heap.FunFrames base outer
  frf : ∀ b ∈ frs outer, H b = none
  hok : HOk P w H s.heap
  bare : AllBare s.gens
noncomputable def CE (outer : List Env) (P : Program) (w : World) (H : Hp) (s : Shared) (Q : VK) (u : Value) (s' : Shared) : Prop :=
  ∃ v H', s'.os = s.os ∧ AllBare s'.gens ∧ Un (frs outer) [] H H' s.heap s'.heap ∧ HOk P w H' s'.heap ∧ RelV v u ∧ Q v H'
noncomputable def CR (CX : CXT) (outer : List Env) (P : Program) (w : World) (H : Hp) (s : Shared) (Q : VK) (E : XK) (r : Result) (s' : Shared) : Prop :=
  match r with
  | .ok (.ret u) => CE outer P w H s Q u s'
  | .ok _ => False
  | .error e => CX outer H s E e s'
structure FnOk (P : Program) (w : World) (K : PySem.W.Frag) (mg : Str → Option Value) (base : Heap) (CX : CXT) (k : Nat) (f : Addr) (fd : FuncData) (ps : List Str) (sp : Sp) : Prop where
  len : ∀ vs H Q E, sp vs H Q E → vs.length = ps.length
  run : ∀ (A : Around) (outer : List Env) (s : Shared) (H : Hp) (args : Args) (us : List Value) (vs : List V) (Q : VK) (E : XK), Room k A → Env0 P w K mg base A outer s H → BindsTo s fd args (ps.zip us) → Vals vs us → sp vs H Q E →
    codeAny (model P w) A (.call (.ref f) args) (CR CX outer P w H s Q E) s
theorem FnOk.mono {P : Program} {w : World} {K : PySem.W.Frag} {mg : Str → Option Value} {base : Heap} {CX : CXT} {j k : Nat} {f : Addr} {fd : FuncData} {ps : List Str} {sp : Sp} (F : FnOk P w K mg base CX j f fd ps sp) (h : j ≤ k) :
    FnOk P w K mg base CX k f fd ps sp := ⟨F.len, fun A outer s H args us vs Q E hr => F.run A outer s H args us vs Q E (hr.mono h)⟩
theorem Env0.make {P : Program} {w : World} {K : PySem.W.Frag} {mg : Str → Option Value} {base : Heap} {A : Around} {outer : List Env} {s : Shared} {H : Hp} (e : Env0 P w K mg base A outer s H) (C : Addr) (us : List Value) (kw : List (Str × Value)) :
    Env0 P w K mg base (A.under (.builtin "type.__call__" ⟨.ref C :: us, kw⟩)) outer s H := ⟨by first | exact e.frames | (simpa [Around.under, Code.envs, Code.isFrame, pushEnvs] using e.frames), e.mod, e.bs, e.bsz, e.funs, e.frf, e.hok, e.bare⟩
theorem Env0.in1 {P : Program} {w : World} {K : PySem.W.Frag} {mg : Str → Option Value} {base : Heap} {A : Around} {outer : List Env} {s : Shared} {H : Hp} (e : Env0 P w K mg base A outer s H) :
    Env0 P w K mg base A.in1 outer s H := ⟨e.frames, e.mod, e.bs, e.bsz, e.funs, e.frf, e.hok, e.bare⟩

section
variable {X : Cx} {pins : List (Addr × Obj)} {σ : St} {H : Hp} {s s' : Shared}
theorem Inv.env0 (I : Inv X pins σ H s) : Env0 X.prog X.w X.K X.mg X.base X.A X.stack s H :=
  ⟨I.ok.frames, I.ok.mod, I.bs, Nat.le_trans I.ok.bsz I.sz, I.stack, I.stkFree, I.hok, I.bare⟩
theorem Inv.after {Q : VK} {u : Value} (I : Inv X pins σ H s) (h : CE X.stack X.prog X.w H s Q u s') : EP X pins σ Q u s' := by
  obtain ⟨v, H', os, bare, un, hok, r, q⟩ := h
  obtain ⟨hh, g, d, t, os'⟩ := s'
  obtain rfl : os' = s.os := os
  exact ⟨v, H', I.call (h' := hh) (g' := g) (d' := d) (t' := t) (ch := []) un hok bare (fun b z => absurd z (by simp)), r, q⟩
end

noncomputable def tCall (sp : Sp) (dvs : List V) (E : XK) (t : TA) : TE := fun σ H Q => t σ H fun vs H1 => sp (vs ++ dvs) H1 Q E
noncomputable def tMeth (C : Addr) (m : Str) (sp : Sp) (dvs : List V) (E : XK) (ta : TE) (t : TA) : TE := fun σ H Q => ta σ H fun x H1 => ∃ a dx fs, x = .ref a ∧ H1 a = some (.ins C dx fs) ∧ fs.lookup m = none ∧
  t σ H1 fun vs H2 => sp (x :: (vs ++ dvs)) H2 Q E
noncomputable def tMake (C : Addr) (sp : Sp) (dvs : List V) (E : XK) (t : TA) : TE := fun σ H Q => t σ H fun vs H1 => ∀ x dx, H1 x = none → H1 dx = none → dx ≠ x →
  sp (.ref x :: (vs ++ dvs)) (upd (upd H1 dx (.own x)) x (.ins C dx [])) (fun v H2 => v = .non ∧ Q (.ref x) H2) E

noncomputable def Binds (K : PySem.W.Frag) (fd : FuncData) (ps : List Str) (ds : List Value) : Prop :=
  ∀ (s : Shared) (us : List Value), K.In s.heap → (us ++ ds).length = ps.length → BindsTo s fd ⟨us, []⟩ (ps.zip (us ++ ds))
theorem Binds.all {K : PySem.W.Frag} {fd : FuncData} {ps : List Str} (h : ∀ us : List Value, us.length = ps.length → bindArgs fd ⟨us, []⟩ = pure (ps.zip us)) : Binds K fd ps [] := fun s us _ hl => by
  rw [List.append_nil] at hl ⊢
  exact .of_eq (h us hl)

noncomputable def Passes (CX : CXT) (X : Cx) (E : XK) : Prop := ∀ (pins : List (Addr × Obj)) (σ : St) (H : Hp) (s : Shared) (e : Value) (s' : Shared), Inv X pins σ H s → CX X.stack H s E e s' → X.xe e s'

section
variable {X : Cx} {CX : CXT} {k : Nat} {f C : Addr} {fd : FuncData} {ps : List Str} {sp : Sp} {dvs : List V} {ds : List Value} {E : XK} {x m : Str} {p pos apos : Pos} {e o : Expr} {es : List Expr} {ta : TE} {t : TA}

theorem run_fn {pins : List (Addr × Obj)} {σ : St} {H : Hp} {s : Shared} {Q : VK} {us : List Value} {vs : List V} (F : FnOk X.prog X.w X.K X.mg X.base CX k f fd ps sp) (hr : Room k X.A) (hb : Binds X.K fd ps ds) (hd : Vals dvs ds) (hx : Passes CX X E)
    (I : Inv X pins σ H s) (r : Vals vs us) (h : sp (vs ++ dvs) H Q E) : wpAny (model X.prog X.w) X.A (call (.ref f) us) (EP X pins σ Q) X.xe s := by
  have r2 : Vals (vs ++ dvs) (us ++ ds) := r.append hd
  have hl : (us ++ ds).length = ps.length := by rw [← r2.length]; exact F.len _ _ _ _ h
  refine wpAny_call (codeAny_mono (F.run X.A X.stack s H ⟨us, []⟩ (us ++ ds) (vs ++ dvs) Q E hr I.env0 (hb s us I.kIn hl) r2 h) fun r s' hq => ?_)
  cases r with
  | error e => exact hx pins σ H s e s' I hq
  | ok fl =>
    cases fl with
    | ret u => exact I.after hq
    | next => exact False.elim hq
    | brk => exact False.elim hq
    | cont => exact False.elim hq

theorem pe_call (F : FnOk X.prog X.w X.K X.mg X.base CX k f fd ps sp) (hr : Room k X.A) (hg : Gl X x) (hm : X.mg x = some (.ref f)) (hk : PySem.W.keepIn X.K (.ref f) = true) (hb : Binds X.K fd ps ds) (hd : Vals dvs ds) (hx : Passes CX X E)
    (ha : PA X (e :: es) t) (hdb : (x == ("__debug__" : Str)) = false := by decide) (he : starEach (e :: es) X.env = (false, eval e X.env) :: starEach es X.env := by rfl) (hpl : (backTo pos (starEach es X.env)).any (·.1) = false := by rfl) :
    PE X (.Call (.Name x p) (e :: es) [] pos) (tCall sp dvs E t) := by
  intro pins s σ H Q I h
  refine wpAny_Call_Name_kw (ld_glob I hg hm ?_ hdb)
  refine PySem.W.callWith_K (h₀ := X.base) I.ok.mod.kin hk (thn (ha pos pins s σ H _ I h) fun us s1 ⟨vs, H1, I1, r, q⟩ => ⟨I1.kIn, ?_⟩) he hpl
  exact run_fn F hr hb hd hx I1 r q
theorem pe_meth {pl : Sem Bool} (he : PE X o ta) (c : Cls X.K C) (hm : Meth X.K C m f) (F : FnOk X.prog X.w X.K X.mg X.base CX k f fd ps sp) (hr : Room k X.A) (hb : Binds X.K fd ps ds) (hd : Vals dvs ds) (hx : Passes CX X E) (ha : PA X (e :: es) t)
    (hst : starEach (e :: es) X.env = (false, eval e X.env) :: starEach es X.env := by rfl) (hpl : (backTo pos (starEach es X.env)).any (·.1) = false := by rfl)
    (ht : eval (.Call (.Attribute o m apos) (e :: es) [] pos) X.env = (do
      let ov ← eval o X.env
      standAt apos.atName
      let (f, first) ← holding [ov] (getMethod ov m pl)
      callWith pos f first (backTo pos (starEach (e :: es) X.env)) (backToKw pos (keywordEach [] X.env))) := by rfl) :
    PE X (.Call (.Attribute o m apos) (e :: es) [] pos) (tMeth C m sp dvs E ta t) := by
  intro pins s σ H Q I h
  refine PySem.W.methodCall_KW (pl := pl) (thn (he pins s σ H _ I h) fun u s1 ⟨x, H1, I1, rx, a, dx, fs, ex, ea, l, q⟩ => ?_) ht
  subst ex
  obtain rfl : u = Value.ref a := rx
  refine getmeth_ok I1 ea c hm l ?_
  refine PySem.W.callWith_K (first := [.ref a]) (h₀ := X.base) I.ok.mod.kin hm.kp (thn (ha pos pins s1 σ H1 _ I1 q) fun us s2 ⟨vs, H2, I2, r, q2⟩ => ⟨I2.kIn, ?_⟩) hst hpl
  exact run_fn (us := .ref a :: us) (vs := .ref a :: vs) F hr hb hd hx I2 (.cons rfl r) q2
theorem pe_meth0 {pl : Sem Bool} (he : PE X o ta) (c : Cls X.K C) (hm : Meth X.K C m f) (F : FnOk X.prog X.w X.K X.mg X.base CX k f fd ps sp) (hr : Room k X.A) (hb : Binds X.K fd ps ds) (hd : Vals dvs ds) (hx : Passes CX X E)
    (ht : eval (.Call (.Attribute o m apos) [] [] pos) X.env = (do
      let ov ← eval o X.env
      standAt apos.atName
      let (f, first) ← holding [ov] (getMethod ov m pl)
      callWith pos f first (backTo pos (starEach [] X.env)) (backToKw pos (keywordEach [] X.env))) := by rfl) :
    PE X (.Call (.Attribute o m apos) [] [] pos) (tMeth C m sp dvs E ta tNil) := by
  intro pins s σ H Q I h
  refine PySem.W.methodCall_KW (pl := pl) (thn (he pins s σ H _ I h) fun u s1 ⟨x, H1, I1, rx, a, dx, fs, ex, ea, l, q⟩ => ?_) ht
  subst ex
  obtain rfl : u = Value.ref a := rx
  refine getmeth_ok I1 ea c hm l ?_
  exact PySem.W.callWith_K0 (first := [.ref a]) I1.kIn hm.kp (run_fn (us := [.ref a]) (vs := [.ref a]) F hr hb hd hx I1 (.cons rfl .nil) q)

structure Mk (K : PySem.W.Frag) (C f : Addr) : Prop where
  makes : PySem.W.makesIn K C = true
  init : PySem.W.findIn K (.ref C) "__init__" = some (some (.ref f))
  fn : PySem.W.isFn K (.ref f) = true
  kp : PySem.W.keepIn K (.ref C) = true

theorem run_make {pins : List (Addr × Obj)} {σ : St} {H : Hp} {s : Shared} {Q : VK} {us : List Value} {vs : List V} (M : Mk X.K C f) (F : FnOk X.prog X.w X.K X.mg X.base CX k f fd ps sp) (hr : Room (k + 1) X.A) (hb : Binds X.K fd ps ds) (hd : Vals dvs ds)
    (hx : Passes CX X E) (I : Inv X pins σ H s) (r : Vals vs us)
    (h : ∀ x dx, H x = none → H dx = none → dx ≠ x → sp (.ref x :: (vs ++ dvs)) (upd (upd H dx (.own x)) x (.ins C dx [])) (fun v H2 => v = .non ∧ Q (.ref x) H2) E) :
    wpAny (model X.prog X.w) X.A (call (.ref C) us) (EP X pins σ Q) X.xe s := by
  have hq := h (s.heap.objs.size + 1) s.heap.objs.size (I.hok.fresh (Nat.le_succ _)) (I.hok.fresh (Nat.le_refl _)) (Nat.ne_of_lt (Nat.lt_succ_self _))
  have I2 := Inv.made (C := C) I
  have r2 : Vals (V.ref (s.heap.objs.size + 1) :: (vs ++ dvs)) (Value.ref (s.heap.objs.size + 1) :: (us ++ ds)) := .cons rfl (r.append hd)
  have hl : (Value.ref (s.heap.objs.size + 1) :: us ++ ds).length = ps.length := by
    have e := r2.length
    rw [F.len _ _ _ _ hq] at e
    exact e.symm
  refine wpAny_call (make_map (f := f) I.kIn M.makes M.init (beq_iff_eq.mp M.fn) (codeAny_mono (F.run _ X.stack _ _ ⟨Value.ref (s.heap.objs.size + 1) :: us, []⟩ (Value.ref (s.heap.objs.size + 1) :: (us ++ ds)) _ _ E (hr.make C us [])
    (I2.env0.make C us []) (hb _ (Value.ref (s.heap.objs.size + 1) :: us) I2.kIn hl) r2 hq) fun r s' hq' => ?_))
  cases r with
  | error e => exact hx pins σ _ _ e s' I2 hq'
  | ok fl =>
    cases fl with
    | ret u =>
      obtain ⟨v, H', I3, rv, ev, q3⟩ := I2.after hq'
      subst ev
      exact ⟨rv, ⟨V.ref (s.heap.objs.size + 1), H', I3, rfl, q3⟩⟩
    | next => exact False.elim hq'
    | brk => exact False.elim hq'
    | cont => exact False.elim hq'
theorem pe_make (M : Mk X.K C f) (F : FnOk X.prog X.w X.K X.mg X.base CX k f fd ps sp) (hr : Room (k + 1) X.A) (hg : Gl X x) (hm : X.mg x = some (.ref C)) (hb : Binds X.K fd ps ds) (hd : Vals dvs ds) (hx : Passes CX X E)
    (ha : PA X (e :: es) t) (hdb : (x == ("__debug__" : Str)) = false := by decide) (he : starEach (e :: es) X.env = (false, eval e X.env) :: starEach es X.env := by rfl) (hpl : (backTo pos (starEach es X.env)).any (·.1) = false := by rfl) :
    PE X (.Call (.Name x p) (e :: es) [] pos) (tMake C sp dvs E t) := by
  intro pins s σ H Q I h
  refine wpAny_Call_Name_kw (ld_glob I hg hm ?_ hdb)
  refine PySem.W.callWith_K (h₀ := X.base) I.ok.mod.kin M.kp (thn (ha pos pins s σ H _ I h) fun us s1 ⟨vs, H1, I1, r, q⟩ => ⟨I1.kIn, ?_⟩) he hpl
  exact run_make M F hr hb hd hx I1 r q
theorem pe_make0 (M : Mk X.K C f) (F : FnOk X.prog X.w X.K X.mg X.base CX k f fd ps sp) (hr : Room (k + 1) X.A) (hg : Gl X x) (hm : X.mg x = some (.ref C)) (hb : Binds X.K fd ps ds) (hd : Vals dvs ds) (hx : Passes CX X E)
    (hdb : (x == ("__debug__" : Str)) = false := by decide) : PE X (.Call (.Name x p) [] [] pos) (tMake C sp dvs E tNil) := by
  intro pins s σ H Q I h
  refine wpAny_Call_Name_kw (ld_glob I hg hm ?_ hdb)
  exact PySem.W.callWith_K0 I.kIn M.kp (run_make (us := []) M F hr hb hd hx I .nil h)
end

section
variable {X : Cx} {CX : CXT} {k : Nat} {f C : Addr} {fd : FuncData} {ps ks : List Str} {sp : Sp} {E : XK} {x m : Str} {p pos apos kpos : Pos} {e o : Expr} {es : List Expr} {kws : List Keyword} {te ta : TE} {t tk : TA} {nm : Option Str}
variable {g : List Value → List Value → List Value} {gV : List V → List V → List V}
end

structure FnScope (N P : List Str) (sc : Scope) : Prop where
  kind : sc.kind = .function
  co : sc.isCoroutine = false
  gen : sc.isGenerator = false
  nd : N.Nodup
  pre : N.take P.length = P
  par : ∀ x ∈ P, sc.names.lookup x = some .local ∨ sc.names.lookup x = some .cell
  nofree : ∀ y ∈ sc.names, y.2 ≠ .free

theorem bindL_out {kindOf : Str → Option NameKind} {x : Str} : ∀ {binds : List (Str × Value)} {m : Str → Option Value}, (∀ v, (x, v) ∉ binds) → bindL kindOf binds m x = m x
  | [], _, _ => rfl
  | (n, v) :: r, m, h => by
    unfold bindL
    rw [bindL_out fun w hw => h w (List.mem_cons_of_mem _ hw)]
    split
    · have : x ≠ n := by rintro rfl; exact h v List.mem_cons_self
      simp [this]
    · rfl
theorem bindC_out {kindOf : Str → Option NameKind} {x : Str} : ∀ {binds : List (Str × Value)} {m : Str → Option Value}, (∀ v, (x, v) ∉ binds) → bindC kindOf binds m x = m x
  | [], _, _ => rfl
  | (n, v) :: r, m, h => by
    unfold bindC
    rw [bindC_out fun w hw => h w (List.mem_cons_of_mem _ hw)]
    split
    · rfl
    · have : x ≠ n := by rintro rfl; exact h v List.mem_cons_self
      simp [this]
theorem bindL_get {kindOf : Str → Option NameKind} {x : Str} {v : Value} : ∀ {P : List Str} {vs : List Value} {i : Nat} {m : Str → Option Value}, P.Nodup → P[i]? = some x → vs[i]? = some v → kindOf x = some .local →
    bindL kindOf (P.zip vs) m x = some v
  | [], _, _, _, _, h, _, _ => by simp at h
  | _ :: _, [], _, _, _, _, h, _ => by simp at h
  | p :: P, w :: vs, 0, m, nd, h1, h2, hk => by
    simp at h1 h2; subst h1; subst h2
    show bindL kindOf ((p, w) :: P.zip vs) m p = _
    unfold bindL
    rw [bindL_out fun v hv => (List.nodup_cons.mp nd).1 (List.of_mem_zip hv).1, if_pos hk]
    simp
  | p :: P, w :: vs, i + 1, m, nd, h1, h2, hk => by
    show bindL kindOf ((p, w) :: P.zip vs) m x = _
    unfold bindL
    exact bindL_get (i := i) (List.nodup_cons.mp nd).2 (by simpa using h1) (by simpa using h2) hk
theorem bindC_get {kindOf : Str → Option NameKind} {x : Str} {v : Value} : ∀ {P : List Str} {vs : List Value} {i : Nat} {m : Str → Option Value}, P.Nodup → P[i]? = some x → vs[i]? = some v → kindOf x ≠ some .local →
    bindC kindOf (P.zip vs) m x = some v
  | [], _, _, _, _, h, _, _ => by simp at h
  | _ :: _, [], _, _, _, _, h, _ => by simp at h
  | p :: P, w :: vs, 0, m, nd, h1, h2, hk => by
    simp at h1 h2; subst h1; subst h2
    show bindC kindOf ((p, w) :: P.zip vs) m p = _
    unfold bindC
    rw [bindC_out fun v hv => (List.nodup_cons.mp nd).1 (List.of_mem_zip hv).1, if_neg hk]
    simp
  | p :: P, w :: vs, i + 1, m, nd, h1, h2, hk => by
    show bindC kindOf ((p, w) :: P.zip vs) m x = _
    unfold bindC
    exact bindC_get (i := i) (List.nodup_cons.mp nd).2 (by simpa using h1) (by simpa using h2) hk

noncomputable def start (N : List Str) (vs : List V) : St := vs.map some ++ List.replicate (N.length - vs.length) none

noncomputable def cxOf (CX : CXT) (P : Program) (w : World) (K : PySem.W.Frag) (mg : Str → Option Value) (base : Heap) (N : List Str) (qual : Str) (scope : Scope) (f : Addr) (cd : Value) (A : Around) (outer : List Env) (s : Shared) (H : Hp) (E : XK) : Cx where
  prog := P
  w := w
  K := K
  mg := mg
  base := base
  A := A.deeper (envOfC qual scope s.heap.objs.size f cd)
  N := N
  s_0 := s
  H_0 := H
  env := envOfC qual scope s.heap.objs.size f cd
  outer := outer
  stack := envOfC qual scope s.heap.objs.size f cd :: outer
  ex := []
  calm := true
  fn := fun _ => true
  pn := []
  xe := fun e s' => wpAny (model P w) (A.deeper (envOfC qual scope s.heap.objs.size f cd)) (leaving (envOfC qual scope s.heap.objs.size f cd) e) (fun _ s'' => CX outer H s E e s'') (fun e' s'' => CX outer H s E e' s'') s'

theorem cell_has {sc : Scope} {n : Nat} {x : Str} (h : sc.names.lookup x = some .cell) : ∃ c, (cellsFrom n sc.names []).lookup x = some c := by
  have q := PySem.W.cellsFrom_some sc.names n [] (.inl h)
  exact Option.isSome_iff_exists.mp q

theorem inv_start {CX : CXT} {P : Program} {w : World} {K : PySem.W.Frag} {mg : Str → Option Value} {base : Heap} {N ps : List Str} {qual : Str} {scope : Scope} {f : Addr} {cd : Value} {A : Around} {outer : List Env} {s s1 : Shared} {H : Hp} {E : XK} {us : List Value} {vs : List V}
    (S : FnScope N ps scope) (hd : A.handled = none) (e0 : Env0 P w K mg base A outer s H) (hl : vs.length = ps.length) (r : Vals vs us)
    (x : InCallC s s.heap.objs.size (bindL (envOfC qual scope s.heap.objs.size f cd).kindOf (ps.zip us) fun _ => none) (cellsFrom (s.heap.objs.size + 1) scope.names []) (bindC (envOfC qual scope s.heap.objs.size f cd).kindOf (ps.zip us) fun _ => none) s1) :
    Inv (cxOf CX P w K mg base N qual scope f cd A outer s H E) [] (start N vs) H s1 := by
  have hpl : ps.length ≤ N.length := by have := congrArg List.length S.pre; rw [List.length_take] at this; first | lia | omega
  obtain ⟨h1, tk, rfl, hk⟩ := x.done
  have noA : ∀ b : Addr, b ∉ (cxOf CX P w K mg base N qual scope f cd A outer s H E).ex := fun b z => absurd (show b ∈ ([] : List Addr) from z) (by simp)
  refine ⟨⟨e0.mod, S.kind, rfl, rfl, Nat.le_refl _, fun y z c h1 h2 => ?_, fun y hy => ?_, fun y c _ h => ?_, fun _ => hd, Around.frames_deeper e0.frames, .inr ⟨rfl, rfl⟩, fun b z => absurd z (noA b), e0.bs, e0.bsz, fun b _ _ => noA b, fun b z => absurd z (noA b), e0.funs, e0.frf⟩,
    rfl, e0.bare, Un.kept hk, ⟨_, x.toInCall.ns, fun i y v h1 h2 h3 => ?_⟩, fun y c h => ⟨_, x.cell y c h⟩, e0.hok.fresh (Nat.le_refl _), fun y c h => ?_, fun p hp => absurd (show p ∈ ([] : List (Addr × Obj)) from hp) (by simp), e0.hok.kept hk, ?_⟩
  · exact name_of_addr x.apart (PySem.mem_of_lookup h1) (PySem.mem_of_lookup h2)
  · have hy : scope.names.lookup y = some .cell ∨ scope.names.lookup y = some .free := hy
    rcases hy with hy | hy
    · exact cell_has hy
    · exact absurd rfl (S.nofree _ (PySem.mem_of_lookup hy))
  · exact Nat.le_of_lt (x.above y c (PySem.mem_of_lookup h))
  · have hi : i < vs.length := by
      unfold start at h2
      by_cases hi : i < vs.length
      · exact hi
      · rw [List.getElem?_append_right (by simpa using hi)] at h2
        rw [List.getElem?_replicate] at h2
        split at h2 <;> cases h2
    have ha : vs[i]? = some v := by
      unfold start at h2
      rw [List.getElem?_append_left (by simpa using hi), List.getElem?_map] at h2
      cases e : vs[i]? with
      | none => rw [e] at h2; cases h2
      | some a => rw [e] at h2; cases h2; rfl
    obtain ⟨u, hu, rv⟩ := r.get ha
    have hp : ps[i]? = some y := by
      rw [← S.pre, List.getElem?_take_of_lt (by first | lia | omega)]; exact h1
    have ndP : ps.Nodup := by rw [← S.pre]; exact S.nd.sublist (List.take_sublist _ _)
    refine ⟨u, rv, ?_⟩
    rcases S.par y (List.mem_of_getElem? hp) with k | k
    · exact .inl ⟨k, bindL_get ndP hp hu k⟩
    · obtain ⟨c, e⟩ := cell_has (n := s.heap.objs.size + 1) k
      refine .inr ⟨.inl k, c, e, ?_⟩
      have q := x.cell y c e
      rw [bindC_get ndP hp hu (by show scope.names.lookup y ≠ _; rw [k]; decide)] at q
      exact q
  · exact e0.hok.fresh (Nat.le_of_lt (x.above y c (PySem.mem_of_lookup h)))
  · unfold start
    show _ = N.length
    rw [List.length_append, List.length_map, List.length_replicate]
    first | lia | omega

theorem fn_of {CX : CXT} {P : Program} {w : World} {K : PySem.W.Frag} {mg : Str → Option Value} {base : Heap} {k : Nat} {f : Addr} {name qual : Str} {params : Arguments} {body : List Stmt} {scope : Scope} {dV kV doc pm cdv ct oc : Value} {an od : Option Addr}
    {osl : Array (Option Value)} {N ps : List Str} {sp : Sp} (lk : K.lookup f = some ⟨oc, od, .func (PySem.W.fnOf name qual params body scope dV kV doc pm an cdv ct), osl⟩) (hcd : PySem.W.codeIn K cdv qual = true) (S : FnScope N ps scope)
    (len : ∀ vs H Q E, sp vs H Q E → vs.length = ps.length)
    (hbody : ∀ (A : Around) (outer : List Env) (s : Shared) (H : Hp) (vs : List V) (Q : VK) (E : XK), Room k (A.deeper (envOfC qual scope s.heap.objs.size f cdv)) → sp vs H Q E →
      ∃ t, PSs (cxOf CX P w K mg base N qual scope f cdv A outer s H E) body t ∧ t { nx := fun _ H' => Q .non H', rt := Q } (start N vs) H) :
    FnOk P w K mg base CX (k + 1) f (PySem.W.fnOf name qual params body scope dV kV doc pm an cdv ct) ps sp := by
  refine ⟨len, fun A outer s H args us vs Q E hr e0 hb r hsp => ?_⟩
  have hl := len _ _ _ _ hsp
  have KX : K.In s.heap := e0.mod.kin.keeps fun b o e => (e0.bs b o e).1
  have lim : s.heap.NoLimit := e0.mod.nolimit.keeps fun b o e => (e0.bs b o e).1
  have hkind : ∀ y ∈ ps.zip us, scope.names.lookup y.1 = some .local ∨ (scope.names.lookup y.1 = some .cell ∧ ((cellsFrom (s.heap.objs.size + 1) scope.names []).lookup y.1).isSome = true) := fun ⟨n, v⟩ hy => by
    rcases S.par n (List.of_mem_zip hy).1 with q | q
    · exact .inl q
    · exact .inr ⟨q, PySem.W.cellsFrom_some _ _ _ (.inl q)⟩
  refine codeAny_call_function hr.depth (KX _ _ lk) rfl S.co S.gen rfl (PySem.W.codeRec_of KX hcd) (hb _ _ _ _ ?_)
  refine wpAny_newFunctionEnv_cells S.kind hkind fun env he s1 x => ?_
  subst he
  refine ⟨lim.keeps x.toInCall.keep, codeAny_func ?_⟩
  obtain ⟨t, ht, hq⟩ := hbody A outer s H vs Q E (hr.deeper _) hsp
  have I : Inv (cxOf CX P w K mg base N qual scope f cdv A outer s H E) [] (start N vs) H s1 := inv_start S hr.hd e0 hl r x
  refine wpAny_mono (ht [] s1 (start N vs) H _ I hq) (fun fl s' hs => ?_) fun e s' hs => hs
  have fin : ∀ {σ' : St} {H' : Hp} {v : V} {u : Value}, Inv (cxOf CX P w K mg base N qual scope f cdv A outer s H E) [] σ' H' s' → RelV v u → Q v H' → CE outer P w H s Q u s' :=
    fun {σ' H' v u} J rv q => ⟨v, H', J.os, J.bare, J.base, J.hok, rv, q⟩
  cases fl with
  | ret u =>
    obtain ⟨v, σ', H', J, rv, q⟩ := hs
    exact fin J rv q
  | next =>
    obtain ⟨σ', H', J, q⟩ := hs
    exact fin (v := V.non) (u := Value.none) J rfl q
  | brk =>
    obtain ⟨_, _, _, q⟩ := hs
    exact False.elim q
  | cont =>
    obtain ⟨_, _, _, q⟩ := hs
    exact False.elim q
end L2

namespace L2
open PySem PySem.Spec PyProof.Rows
section
variable {X : Cx} {x : Str} {p pos : Pos} {e : Expr} {es : List Expr} {t : TA} {id T : String} {r : List V → Hp → VK → Prop}

noncomputable def tCB (r : List V → Hp → VK → Prop) (t : TA) : TE := fun σ H Q => t σ H fun vs H1 => r vs H1 Q
theorem pe_callB (hc : CallR X (.builtin id) r) (hg : Gl X x) (hm : X.mg x = none) (hv : bootBuiltins x = some (.builtin id)) (ha : PA X (e :: es) t) (hn : x ≠ "__name__" := by decide) (hdb : (x == ("__debug__" : Str)) = false := by decide)
    (he : starEach (e :: es) X.env = (false, eval e X.env) :: starEach es X.env := by rfl) (hpl : (backTo pos (starEach es X.env)).any (·.1) = false := by rfl) : PE X (.Call (.Name x p) (e :: es) [] pos) (tCB r t) := by
  intro pins s σ H Q I h
  refine wpAny_Call_Name_kw (ld_blt I hg hm hv ?_ hn hdb)
  exact PyProof.Rows.callWith_builtin1 (thn (ha pos pins s σ H _ I h) fun us s1 ⟨vs, H1, I1, r1, q1⟩ => hc pins s1 σ H1 vs us Q I1 r1 q1) he hpl
theorem pe_callTy (hc : CallR X (.type T) r) (hg : Gl X x) (hm : X.mg x = none) (hv : bootBuiltins x = some (.type T)) (ha : PA X (e :: es) t) (hn : x ≠ "__name__" := by decide) (hdb : (x == ("__debug__" : Str)) = false := by decide)
    (he : starEach (e :: es) X.env = (false, eval e X.env) :: starEach es X.env := by rfl) (hpl : (backTo pos (starEach es X.env)).any (·.1) = false := by rfl) : PE X (.Call (.Name x p) (e :: es) [] pos) (tCB r t) := by
  intro pins s σ H Q I h
  refine wpAny_Call_Name_kw (ld_blt I hg hm hv ?_ hn hdb)
  exact PyProof.Rows.callWith_type1 (thn (ha pos pins s σ H _ I h) fun us s1 ⟨vs, H1, I1, r1, q1⟩ => hc pins s1 σ H1 vs us Q I1 r1 q1) he hpl
end
end L2

namespace HT
open PySem PyProof.Rows

section
open PySem.SeqAt
open PySem.AutoSeq1 (wpAny_loadPart')
open PySem.MeetsSeq PySem.MeetsSeq2 PySem.MeetsSeq3

end

section
variable {prog : Program} {w : World} {A : Around} {E : Value → Shared → Prop} {s : Shared}

noncomputable def sIx (n d : Nat) : Option Int → Nat
  | none => d
  | some v => if v < 0 then (v + (n : Int)).toNat else min v.toNat n
theorem sIx_none (n d : Nat) : sIx n d none = d := rfl
theorem sIx_nat (n d k : Nat) : sIx n d (some (k : Int)) = min k n := by
  show (if (k : Int) < 0 then ((k : Int) + (n : Int)).toNat else min (k : Int).toNat n) = min k n
  rw [if_neg (by first | lia | omega), Int.toNat_natCast]
end
end HT

namespace L2
open PySem PySem.Spec PyProof.Rows

noncomputable abbrev TO := St → Hp → (Option Int → Hp → Prop) → Prop
noncomputable def PO (X : Cx) (e : Option Expr) (t : TO) : Prop :=
  ∀ (pins : List (Addr × Obj)) (s : Shared) (σ : St) (H : Hp) (Q : Option Int → Hp → Prop), Inv X pins σ H s → t σ H Q →
    wpAny (model X.prog X.w) X.A (evalPart e X.env) (fun u s' => ∃ o H', Inv X pins σ H' s' ∧ IsPart u o ∧ Q o H') X.xe s
noncomputable def tNoPart : TO := fun _ H Q => Q none H
noncomputable def tPart (t : TE) : TO := fun σ H Q => t σ H fun x H1 => ∃ i, x = .int i ∧ Q (some i) H1

section
variable {X : Cx} {e : Expr} {te : TE} {lo hi : Option Expr} {tl th : TO} {pos p2 : Pos}

theorem po_none : PO X none tNoPart := by
  intro pins s σ H Q I h
  rw [evalPart_none]
  exact wpAny_pure ⟨none, H, I, .none, h⟩
theorem po_some (h : PE X e te) : PO X (some e) (tPart te) := by
  intro pins s σ H Q I hw
  rw [evalPart_some]
  refine thn (h pins s σ H _ I hw) fun u s1 hpt30 => ?_
  obtain ⟨x, H1, I1, r1, q1⟩ := hpt30
  obtain ⟨i, rfl, q⟩ := q1
  obtain ⟨t, rfl⟩ := r1
  exact ⟨some i, H1, I1, .int i t, q⟩

noncomputable def SlR (X : Cx) (r : V → Option Int → Option Int → Hp → VK → Prop) : Prop :=
  ∀ (pins : List (Addr × Obj)) (s : Shared) (σ : St) (H : Hp) (x : V) (v vl vu : Value) (lo hi : Option Int) (sl : Addr) (Q : VK), Inv X pins σ H s → RelV x v → s.heap.IsSliceOf sl vl vu .none → IsPart vl lo → IsPart vu hi → r x lo hi H Q →
    ∃ T id, typeLookup (.type T) "__getitem__" = pure (some (.builtin id)) ∧ s.TypeIs v T ∧ wpAny (model X.prog X.w) X.A (getItem v (.ref sl)) (EP X pins σ Q) X.xe s
noncomputable def tSl (r : V → Option Int → Option Int → Hp → VK → Prop) (te : TE) (tl th : TO) : TE := fun σ H Q => te σ H fun x H1 => tl σ H1 fun l H2 => th σ H2 fun u H3 => r x l u H3 Q
theorem pe_slice {r : V → Option Int → Option Int → Hp → VK → Prop} (hr : SlR X r) (he : PE X e te) (hl : PO X lo tl) (hu : PO X hi th) : PE X (.Subscript e (.Slice lo hi none p2) pos) (tSl r te tl th) := by
  intro pins s σ H Q I h
  refine Subscript_ (thn (he pins s σ H _ I h) fun v s1 hpt31 => ?_)
  obtain ⟨x, H1, I1, r1, q1⟩ := hpt31
  refine wpAny_Slice (thn (hl pins s1 σ H1 _ I1 q1) fun vl s2 hpt32 => ?_)
  obtain ⟨l, H2, I2, pl, q2⟩ := hpt32
  refine thn (hu pins s2 σ H2 _ I2 q2) fun vu s3 hpt33 => ?_
  obtain ⟨u, H3, I3, pu, q3⟩ := hpt33
  rw [evalPart_none]
  refine wpAny_pure ?_
  have I4 : Inv X pins σ H3 { s3 with heap := s3.heap.push { cls := .type "slice", data := .fields #[vl, vu, .none] } } := I3.kept (t' := s3.toks) fun b ob q => Heap.get?_push_of_some _ q
  obtain ⟨T, id, hT, ht, hg⟩ := hr pins { s3 with heap := s3.heap.push { cls := .type "slice", data := .fields #[vl, vu, .none] } } σ H3 x v vl vu l u s3.heap.objs.size Q I4 r1 (Heap.IsSliceOf.new ..) pl pu q3
  show wpAny (model X.prog X.w) X.A (subscriptTail e (.Slice lo hi none p2) v (.ref s3.heap.objs.size)) (EP X pins σ Q) X.xe { s3 with heap := s3.heap.push { cls := .type "slice", data := .fields #[vl, vu, .none] } }
  exact tail_any (ops := [.ref s3.heap.objs.size, v]) ht hT hg (by with_unfolding_all rfl)

noncomputable def cutV (xs : List V) (lo hi : Option Int) : List V := (xs.drop (HT.sIx xs.length 0 lo)).take (HT.sIx xs.length xs.length hi - HT.sIx xs.length 0 lo)
theorem cutV_length (xs : List V) (lo hi : Option Int) : (cutV xs lo hi).length ≤ xs.length := by
  unfold cutV
  rw [List.length_take, List.length_drop]
  first | lia | omega
end
end L2

namespace L2
open PySem PySem.Spec PyProof.Rows

noncomputable def ixN (n : Nat) (i : Int) : Option Nat := if 0 ≤ i then (if i < n then some i.toNat else none) else if -(n : Int) ≤ i then some (i + n).toNat else none
noncomputable def atI {α : Type} (xs : List α) (i : Int) : Option α := (ixN xs.length i).bind fun j => xs[j]?
theorem ixN_seq {n : Nat} {i : Int} {j : Nat} (h : ixN n i = some j) : seqIndex? i n = some j ∧ j < n ∧ -(n : Int) ≤ i ∧ i < n := by
  unfold ixN at h
  by_cases h0 : 0 ≤ i
  · rw [if_pos h0] at h
    by_cases h1 : i < n
    · rw [if_pos h1] at h
      have e : i.toNat = j := Option.some.inj h
      exact ⟨by rw [seqIndex_of h0 h1, e], by first | lia | omega, by first | lia | omega, h1⟩
    · rw [if_neg h1] at h; cases h
  · rw [if_neg h0] at h
    by_cases h1 : -(n : Int) ≤ i
    · rw [if_pos h1] at h
      have e : (i + n).toNat = j := Option.some.inj h
      exact ⟨by rw [seqIndex_neg (by first | lia | omega) h1, e], by first | lia | omega, h1, by first | lia | omega⟩
    · rw [if_neg h1] at h; cases h
theorem atI_get {α : Type} {xs : List α} {i : Int} {v : α} (h : atI xs i = some v) : ∃ j, seqIndex? i xs.length = some j ∧ xs[j]? = some v ∧ j < xs.length ∧ -(xs.length : Int) ≤ i ∧ i < xs.length := by
  unfold atI at h
  cases e : ixN xs.length i with
  | none => rw [e] at h; cases h
  | some j =>
    rw [e] at h
    obtain ⟨h1, h2, h3, h4⟩ := ixN_seq e
    exact ⟨j, h1, h, h2, h3, h4⟩
theorem atI_nat {α : Type} {xs : List α} {j : Nat} {v : α} (h : xs[j]? = some v) : atI xs (j : Int) = some v := by
  have hj : j < xs.length := (List.getElem?_eq_some_iff.mp h).1
  have e : ixN xs.length (j : Int) = some j := by
    unfold ixN
    rw [if_pos (by first | lia | omega), if_pos (by first | lia | omega)]; simp
  unfold atI; rw [e]; exact h
theorem atI_last {α : Type} (xs : List α) (v : α) : atI (xs ++ [v]) (-1) = some v := by
  have hl : (xs ++ [v]).length = xs.length + 1 := by simp
  have e : ixN (xs ++ [v]).length (-1) = some xs.length := by
    unfold ixN
    rw [hl, if_neg (by decide), if_pos (by first | lia | omega)]
    congr 1
    first | lia | omega
  unfold atI
  rw [e]
  show (xs ++ [v])[xs.length]? = some v
  simp

noncomputable def PlainIx (b : Expr) : Prop := ∀ o i, subscripted b false o i = operate [o, i] (getItem o i)
noncomputable def IxR (X : Cx) (r : R2) : Prop :=
  ∀ (value slice : Expr) (pins : List (Addr × Obj)) (s : Shared) (σ : St) (H : Hp) (x y : V) (v u : Value) (Q : VK), Inv X pins σ H s → RelV x v → RelV y u → r x y H Q →
    subscripted slice false v u = operate [v, u] (getItem v u) → wpAny (model X.prog X.w) X.A (subscriptTail value slice v u) (EP X pins σ Q) X.xe s
noncomputable def MtR (X : Cx) (id : String) (r : V → List V → Hp → VK → Prop) : Prop :=
  ∀ (pins : List (Addr × Obj)) (s : Shared) (σ : St) (H : Hp) (x : V) (xs : List V) (v : Value) (us : List Value) (Q : VK), Inv X pins σ H s → RelV x v → Vals xs us → r x xs H Q →
    wpAny (model X.prog X.w) X.A (call (.builtin id) (v :: us)) (EP X pins σ Q) X.xe s
section
variable {X : Cx} {a b : Expr} {ta tb : TE} {pos : Pos}
theorem pe_ix {r : R2} (hr : IxR X r) (ha : PE X a ta) (hb : PE X b tb) (hs : PlainIx b) : PE X (.Subscript a b pos) (tOp r ta tb) := by
  intro pins s σ H Q I h
  exact Subscript_ (binT ha hb I h fun v u s2 x y H2 I2 rx ry q => hr a b pins s2 σ H2 x y v u Q I2 rx ry q (hs _ _))

noncomputable def rIxL (K : PySem.W.Frag) : R2 := fun x y H Q => ∃ p xs i v, x = .ref p ∧ y = .int i ∧ SqL K H p xs ∧ atI xs i = some v ∧ Q v H
noncomputable def rIxT (K : PySem.W.Frag) : R2 := fun x y H Q => ∃ p xs i v, x = .ref p ∧ y = .int i ∧ SqT K H p xs ∧ atI xs i = some v ∧ Q v H
theorem ix_list : IxR X (rIxL X.K) := by
  intro value slice pins s σ H x y v u Q I rx ry h hs
  obtain ⟨p, xs, i, z, rfl, rfl, hq, he, q⟩ := h
  cases rx
  obtain ⟨t, rfl⟩ := ry
  obtain ⟨its, r, pl, hz⟩ := I.list hq
  obtain ⟨j, h1, h2, h3, h4, h5⟩ := atI_get he
  obtain ⟨w, ew, rw'⟩ := r.get h2
  have hl := r.length
  have hn := line63
  have fin : EP X pins σ Q w s := ⟨z, H, I, rw', q⟩
  by_cases h0 : 0 ≤ i
  · have hj : i.toNat = j := by
      rw [seqIndex_of h0 h5] at h1
      exact Option.some.inj h1
    exact item_listR pl.isList h0 (by first | lia | omega) (by rw [hj]; simpa using ew) fin hs
  · have hj : (i + (its.toArray.size : Int)).toNat = j := by
      rw [seqIndex_neg (by first | lia | omega) h4] at h1
      rw [List.size_toArray, ← hl]
      exact Option.some.inj h1
    exact subscriptTail_builtinR (x := w) pl.isList.typeIs slot_list_getitem.lookup
      (wpAny_getItem_list_neg (Q := fun r s' => r = w ∧ EP X pins σ Q r s') pl.isList (by first | lia | omega) (by rw [List.size_toArray] <;> first | lia | omega) (by first | lia | omega) (by rw [hj]; simpa using ew) ⟨rfl, fin⟩) hs
theorem ix_tup : IxR X (rIxT X.K) := by
  intro value slice pins s σ H x y v u Q I rx ry h hs
  obtain ⟨p, xs, i, z, rfl, rfl, hq, he, q⟩ := h
  cases rx
  obtain ⟨t, rfl⟩ := ry
  obtain ⟨its, r, pl, hz⟩ := I.tuple hq
  obtain ⟨j, h1, h2, h3, h4, h5⟩ := atI_get he
  obtain ⟨w, ew, rw'⟩ := r.get h2
  have hl := r.length
  have hn := line63
  have fin : EP X pins σ Q w s := ⟨z, H, I, rw', q⟩
  exact subscriptTail_builtinR (x := w) pl.typeIs slot_tuple_getitem.lookup
    (getItem_tuple (j := j) (Q := fun r s' => r = w ∧ EP X pins σ Q r s') pl (by first | lia | omega) (by first | lia | omega) (by rw [List.size_toArray, ← hl]; exact h1) (by simpa using ew) ⟨rfl, fin⟩) hs
theorem slice_bounds (lo hi : Option Int) (n : Nat) : (sliceBounds lo hi none n).1 = ((HT.sIx n 0 lo : Nat) : Int) ∧ (sliceBounds lo hi none n).2.1 = ((HT.sIx n n hi : Nat) : Int) ∧ (sliceBounds lo hi none n).2.2 = 1 := by
  refine ⟨?_, ?_, rfl⟩
  · cases lo with
    | none => simp [sliceBounds, HT.sIx]
    | some i =>
      simp only [sliceBounds, HT.sIx, Option.getD_none, show (1 : Int) > 0 by decide, if_true]
      by_cases h : i < 0
      · simp only [h, if_true] <;> first | lia | omega
      · simp only [h, if_false] <;> first | lia | omega
  · cases hi with
    | none => simp [sliceBounds, HT.sIx]
    | some i =>
      simp only [sliceBounds, HT.sIx, Option.getD_none, show (1 : Int) > 0 by decide, if_true]
      by_cases h : i < 0
      · simp only [h, if_true] <;> first | lia | omega
      · simp only [h, if_false] <;> first | lia | omega
theorem slicePick_cut (its : List Value) (lo hi : Option Int) : slicePick its.toArray lo hi none = ((its.drop (HT.sIx its.length 0 lo)).take (HT.sIx its.length its.length hi - HT.sIx its.length 0 lo)).toArray := by
  obtain ⟨h1, h2, h3⟩ := slice_bounds lo hi its.toArray.size
  unfold slicePick
  rw [h1, h2, h3]
  simp only [sliceRange_one, pick_run, List.size_toArray] <;> rfl
noncomputable def rSlL (K : PySem.W.Frag) : V → Option Int → Option Int → Hp → VK → Prop := fun x lo hi H Q => ∃ a xs, x = .ref a ∧ SqL K H a xs ∧ ∀ p, H p = none → Q (.ref p) (upd H p (.lst (cutV xs lo hi)))
theorem sl_list : SlR X (rSlL X.K) := by
  intro pins s σ H x v vl vu lo hi sl Q I rx hs pl pu h
  obtain ⟨a, xs, rfl, hx, q⟩ := h
  cases rx
  obtain ⟨its, r, ht, hz⟩ := I.list hx
  have hlen := r.length
  refine ⟨"list", _, slot_list_getitem.lookup, ht.isList.typeIs, ?_⟩
  refine wpAny_getItem_list_slice ht.isList hs pl pu .none (by simp) ?_ (by rw [List.size_toArray] <;> first | lia | omega)
  rw [slicePick_cut, ← hlen]
  refine ⟨.ref s.heap.objs.size, _, I.laid (t' := s.toks) (o := .lst (cutV xs lo hi)) (fun b ob q => Heap.get?_push_of_some _ q) (Nat.le_refl _) ?_, rfl, q _ (I.hok.fresh (Nat.le_refl _))⟩
  exact ⟨Nat.le_trans (cutV_length xs lo hi) hz, _, 0, (r.drop (HT.sIx xs.length 0 lo)).take (HT.sIx xs.length xs.length hi - HT.sIx xs.length 0 lo), Heap.get?_push_size _ rfl⟩

noncomputable def flatV : V → Bool
  | .non => true
  | .bl _ => true
  | .int _ => true
  | .str _ => true
  | _ => false
noncomputable def eqV : V → V → Bool
  | .non, .non => true
  | .bl a, .bl b => a == b
  | .bl a, .int b => (if a then 1 else 0) == b
  | .int a, .bl b => a == (if b then 1 else 0)
  | .int a, .int b => a == b
  | .str a, .str b => a == b
  | _, _ => false
theorem eqAt_V {A : Around} {s : Shared} {y x : V} {u v : Value} (ry : RelV y u) (rx : RelV x v) (fy : flatV y = true) (fx : flatV x = true) : SeqAt.EqAt A s u v (eqV y x) := by
  cases y with
  | non =>
    cases ry
    cases x with
    | non => cases rx; exact SeqAt.EqAt.same _
    | bl b => cases rx; exact SeqAt.EqAt.none_bool b
    | int b => obtain ⟨t, rfl⟩ := rx; exact SeqAt.EqAt.none_int b t
    | str b => obtain ⟨t, rfl⟩ := rx; exact SeqAt.EqAt.none_str b t
    | _ => exact absurd (show false = true from fx) Bool.false_ne_true
  | bl a =>
    cases ry
    cases x with
    | non => cases rx; exact SeqAt.EqAt.bool_none a
    | bl b => cases rx; exact SeqAt.EqAt.bool_bool a b
    | int b => obtain ⟨t, rfl⟩ := rx; exact SeqAt.EqAt.bool_int a b t
    | str b => obtain ⟨t, rfl⟩ := rx; exact SeqAt.EqAt.bool_str a b t
    | _ => exact absurd (show false = true from fx) Bool.false_ne_true
  | int a =>
    obtain ⟨t', rfl⟩ := ry
    cases x with
    | non => cases rx; exact SeqAt.EqAt.int_none a t'
    | bl b => cases rx; exact SeqAt.EqAt.int_bool a t' b
    | int b => obtain ⟨t, rfl⟩ := rx; exact SeqAt.EqAt.int_int a t' b t
    | str b => obtain ⟨t, rfl⟩ := rx; exact SeqAt.EqAt.int_str a t' b t
    | _ => exact absurd (show false = true from fx) Bool.false_ne_true
  | str a =>
    obtain ⟨t', rfl⟩ := ry
    cases x with
    | non => cases rx; exact SeqAt.EqAt.str_none a t'
    | bl b => cases rx; exact SeqAt.EqAt.str_bool a t' b
    | int b => obtain ⟨t, rfl⟩ := rx; exact SeqAt.EqAt.str_int a t' b t
    | str b => obtain ⟨t, rfl⟩ := rx; exact SeqAt.EqAt.str_str a t' b t
    | _ => exact absurd (show false = true from fx) Bool.false_ne_true
  | _ => exact absurd (show false = true from fy) Bool.false_ne_true
noncomputable def eqU (x : V) (u : Value) : Bool := match u with
  | .none => eqV .non x
  | .bool b => eqV (.bl b) x
  | .int i _ => eqV (.int i) x
  | .str z _ => eqV (.str z) x
  | _ => false
theorem eqU_of {x y : V} {u : Value} (r : RelV y u) (f : flatV y = true) : eqU x u = eqV y x := by
  cases y with
  | non => cases r; rfl
  | bl b => cases r; rfl
  | int i => obtain ⟨t, rfl⟩ := r; rfl
  | str z => obtain ⟨t, rfl⟩ := r; rfl
  | _ => exact absurd (show false = true from f) Bool.false_ne_true
theorem any_eqU {x : V} : ∀ {xs : List V} {us : List Value}, Vals xs us → xs.all flatV = true → us.any (eqU x) = xs.any fun y => eqV y x
  | _, _, .nil, _ => rfl
  | y :: xs, u :: us, .cons r t, f => by
    rw [List.all_cons, Bool.and_eq_true] at f
    rw [List.any_cons, List.any_cons, eqU_of r f.1, any_eqU t f.2]
theorem mem_eqAt {A : Around} {s : Shared} {x : V} {v : Value} (rx : RelV x v) (fx : flatV x = true) : ∀ {xs : List V} {us : List Value}, Vals xs us → xs.all flatV = true → ∀ u ∈ us, SeqAt.EqAt A s u v (eqU x u)
  | _, _, .nil, _ => fun u hu => by cases hu
  | y :: xs, u :: us, .cons r t, f => fun u' hu => by
    rw [List.all_cons, Bool.and_eq_true] at f
    rcases List.mem_cons.mp hu with rfl | hu
    · rw [eqU_of r f.1]; exact eqAt_V r rx f.1 fx
    · exact mem_eqAt rx fx t f.2 u' hu
noncomputable def inV (x : V) (xs : List V) : Bool := xs.any fun y => eqV y x
noncomputable def rIn (K : PySem.W.Frag) (neg : Bool) : R2 := fun x y H Q => ∃ p xs, y = .ref p ∧ (SqL K H p xs ∨ SqT K H p xs) ∧ flatV x = true ∧ xs.all flatV = true ∧ Q (.bl (if neg then !inV x xs else inV x xs)) H
theorem op_in_seq : OpR X (compareOp .In) (rIn X.K false) := by
  intro pins s σ H x y v u Q I rx ry h
  obtain ⟨p, xs, rfl, hq, fx, fs, q⟩ := h
  cases ry
  rcases hq with hq | hq
  · obtain ⟨its, r, pl, hz⟩ := I.list hq
    refine SeqAt.in_listAt (eqU x) pl.isList (fun w hw => mem_eqAt rx fx r fs w (by simpa using hw)) ⟨.bl _, H, I, rfl, ?_⟩
    rw [show its.toArray.any (eqU x) = its.any (eqU x) by simp, any_eqU r fs]
    exact q
  · obtain ⟨its, r, pl, hz⟩ := I.tuple hq
    refine SeqAt.in_tupleAt (eqU x) pl (fun w hw => mem_eqAt rx fx r fs w (by simpa using hw)) ⟨.bl _, H, I, rfl, ?_⟩
    rw [show its.toArray.any (eqU x) = its.any (eqU x) by simp, any_eqU r fs]
    exact q
theorem op_notIn_seq : OpR X (compareOp .NotIn) (rIn X.K true) := by
  intro pins s σ H x y v u Q I rx ry h
  obtain ⟨p, xs, rfl, hq, fx, fs, q⟩ := h
  cases ry
  rcases hq with hq | hq
  · obtain ⟨its, r, pl, hz⟩ := I.list hq
    refine SeqAt.notIn_listAt (eqU x) pl.isList (fun w hw => mem_eqAt rx fx r fs w (by simpa using hw)) ⟨.bl _, H, I, rfl, ?_⟩
    rw [show its.toArray.any (eqU x) = its.any (eqU x) by simp, any_eqU r fs]
    exact q
  · obtain ⟨its, r, pl, hz⟩ := I.tuple hq
    refine SeqAt.notIn_tupleAt (eqU x) pl (fun w hw => mem_eqAt rx fx r fs w (by simpa using hw)) ⟨.bl _, H, I, rfl, ?_⟩
    rw [show its.toArray.any (eqU x) = its.any (eqU x) by simp, any_eqU r fs]
    exact q
theorem call_len_seq : CallR X (.builtin "len") (fun xs H Q => ∃ p ys, xs = [.ref p] ∧ (SqL X.K H p ys ∨ SqT X.K H p ys) ∧ Q (.int ys.length) H) := by
  intro pins s σ H xs us Q I r h
  obtain ⟨p, ys, rfl, hq, q⟩ := h
  obtain ⟨u, rfl, rx⟩ := vals1 r
  cases rx
  have hn := line63
  rcases hq with hq | hq
  · obtain ⟨its, r', pl, hz⟩ := I.list hq
    have hlen := r'.length
    exact Calls.call_len_list pl.isList (by simp only [List.size_toArray] <;> first | lia | omega) ⟨.int ys.length, H, I.tok _, ⟨s.toks + 1, by rw [List.size_toArray, hlen]⟩, q⟩
  · obtain ⟨its, r', pl, hz⟩ := I.tuple hq
    have hlen := r'.length
    exact len_tuple pl (by simp only [List.size_toArray] <;> first | lia | omega) ⟨.int ys.length, H, I.tok _, ⟨s.toks + 1, by rw [List.size_toArray, hlen]⟩, q⟩
theorem call_list_of : CallR X (.type "list") (fun xs H Q => ∃ p ys, xs = [.ref p] ∧ (SqL X.K H p ys ∨ SqT X.K H p ys) ∧ ∀ l, H l = none → Q (.ref l) (upd H l (.lst ys))) := by
  intro pins s σ H xs us Q I r h
  obtain ⟨p, ys, rfl, hq, q⟩ := h
  obtain ⟨u, rfl, rx⟩ := vals1 r
  cases rx
  have fin : ∀ (its : List Value), Vals ys its → ys.length ≤ sizeLine → ∀ (h' : Heap) (c' : Nat), (∀ b o', s.heap.get? b = some o' → h'.get? b = some o') →
      h'.get? s.heap.objs.size = some { cls := .type "list", dict := none, data := .seq its.toArray c', slots := #[] } → EP X pins σ Q (.ref s.heap.objs.size) { s with heap := h' } := fun its r' hz h' c' kp e =>
    ⟨.ref s.heap.objs.size, _, I.laid (t' := s.toks) kp (Nat.le_refl _) (show ObjOk X.prog X.w _ h' _ (.lst ys) from ⟨hz, its, c', r', e⟩), rfl, q _ (I.hok.fresh (Nat.le_refl _))⟩
  rcases hq with hq | hq
  · obtain ⟨its, r', pl, hz⟩ := I.list hq
    have hlen := r'.length
    obtain ⟨o, ho, hc, n, hd⟩ := pl.isList
    exact call_list_seq p (.inl rfl) ho hc hd (fun h' c' kp e => fin its r' hz h' c' kp e) (by simp only [List.size_toArray] <;> first | lia | omega)
  · obtain ⟨its, r', pl, hz⟩ := I.tuple hq
    have hlen := r'.length
    obtain ⟨o, ho, hc, n, hd⟩ := pl
    exact call_list_seq p (.inr rfl) ho hc hd (fun h' c' kp e => fin its r' hz h' c' kp e) (by simp only [List.size_toArray] <;> first | lia | omega)
theorem call_tuple_of : CallR X (.type "tuple") (fun xs H Q => ∃ p ys, xs = [.ref p] ∧ ((SqL X.K H p ys ∧ ∀ l, H l = none → Q (.ref l) (upd H l (.tup ys))) ∨ (SqT X.K H p ys ∧ Q (.ref p) H))) := by
  intro pins s σ H xs us Q I r h
  obtain ⟨p, ys, rfl, h⟩ := h
  obtain ⟨u, rfl, rx⟩ := vals1 r
  cases rx
  rcases h with ⟨hq, q⟩ | ⟨hq, q⟩
  · obtain ⟨its, r', pl, hz⟩ := I.list hq
    have hlen := r'.length
    refine call_tuple_list pl.isList (fun h' kp => ?_) (by simp only [List.size_toArray] <;> first | lia | omega)
    have I1 : Inv X pins σ H { s with heap := h' } := I.kept (t' := s.toks) kp
    have I2 : Inv X pins σ (upd H h'.objs.size (.tup ys)) { s with heap := h'.push { cls := .type "tuple", data := .seq its.toArray } } :=
      I1.laid (t' := s.toks) (fun b o e => Heap.get?_push_of_some _ e) (Nat.le_refl _) (show ObjOk X.prog X.w _ _ _ (.tup ys) from ⟨hz, its, r', IsTup.new _ _⟩)
    exact ⟨.ref h'.objs.size, _, I2, rfl, q _ (I1.hok.fresh (Nat.le_refl _))⟩
  · obtain ⟨its, r', pl, hz⟩ := I.tuple hq
    exact call_tuple_same pl ⟨.ref p, H, I, rfl, q⟩

noncomputable def tyV (K : PySem.W.Frag) (T : String) (x : V) (H : Hp) : Prop := match x with
  | .str _ => T = "str"
  | .int _ => T = "int"
  | .ref p => (T = "list" ∧ ∃ xs, SqL K H p xs) ∨ (T = "tuple" ∧ ∃ o, K.lookup p = some o ∧ o.cls = .type "tuple" ∧ o.dict = none) ∨
      (T = "dict" ∧ ((∃ kvs, H p = some (.dK kvs)) ∨ ∃ kvs, H p = some (.dT kvs))) ∨ (T = "set" ∧ ∃ S n, H p = some (.set S n))
  | _ => False
theorem tyV_is {pins : List (Addr × Obj)} {σ : St} {H : Hp} {s : Shared} {T : String} {x : V} {v : Value} (I : Inv X pins σ H s) (r : RelV x v) (ty : tyV X.K T x H) :
    s.TypeIs v T ∧ ∀ a, v = .ref a → ∃ ob, s.heap.get? a = some ob ∧ ob.dict = none := by
  cases x with
  | str z =>
    obtain ⟨t, rfl⟩ := r
    cases (show T = "str" from ty)
    exact ⟨typeIs_str s z t, fun _ e => nomatch e⟩
  | int i =>
    obtain ⟨t, rfl⟩ := r
    cases (show T = "int" from ty)
    exact ⟨typeIs_int s i t, fun _ e => nomatch e⟩
  | ref p =>
    cases r
    rcases ty with ⟨rfl, xs, hq⟩ | ⟨rfl, o, hk, hc, hd⟩ | ⟨rfl, hk⟩ | ⟨rfl, S, n, hk⟩
    · obtain ⟨its, _, pl, _⟩ := I.list hq
      refine ⟨pl.isList.typeIs, fun a e => ?_⟩
      cases e
      obtain ⟨o, n, e, c, hd, _⟩ := pl
      exact ⟨o, e, hd⟩
    · refine ⟨⟨o, I.kIn p o hk, hc⟩, fun a e => ?_⟩
      cases e
      exact ⟨o, I.kIn _ o hk, hd⟩
    · have z : ∃ o, s.heap.get? p = some o ∧ o.ExactDict := by
        rcases hk with ⟨kvs, hk⟩ | ⟨kvs, hk⟩
        · obtain ⟨_, _, _, _, o, _, _, e, ex, _⟩ := I.hok p _ hk
          exact ⟨o, e, ex⟩
        · obtain ⟨_, _, _, _, o, _, _, e, ex, _⟩ := I.hok p _ hk
          exact ⟨o, e, ex⟩
      obtain ⟨o, e, ex⟩ := z
      refine ⟨⟨o, e, ex.1⟩, fun a e2 => ?_⟩
      cases e2
      exact ⟨o, e, ex.2.1⟩
    · obtain ⟨o, _, _, _, e, ex, _⟩ := I.hok p _ hk
      refine ⟨⟨o, e, ex.1⟩, fun a e2 => ?_⟩
      cases e2
      exact ⟨o, e, ex.2.1⟩
  | _ => exact False.elim ty
noncomputable def tBM (K : PySem.W.Frag) (T : String) (r : V → List V → Hp → VK → Prop) (to : TE) (t : TA) : TE := fun σ H Q => to σ H fun x H1 => tyV K T x H1 ∧ t σ H1 fun xs H2 => r x xs H2 Q
variable {o e : Expr} {es : List Expr} {to : TE} {t : TA} {name : Str} {apos cpos : Pos} {T id : String} {r : V → List V → Hp → VK → Prop}
theorem pe_bm (pa : PlainAttrs T) (slot : Slot T name id) (hty : typeOf (.builtin id) = pure (.type "method_descriptor")) (hm : MtR X id r) (ho : PE X o to) (ha : PA X (e :: es) t)
    (hbase : attributeBase o name X.env (eval o X.env) = eval o X.env := by rfl)
    (hfew : ((backTo cpos (starEach (e :: es) X.env)).all (fun x => !x.1) && (backToKw cpos (keywordEach [] X.env)).all (fun x => x.1.isSome)
      && decide ((e :: es).length + ([] : List Keyword).length + (if ([] : List Keyword).isEmpty then 0 else 1) < 30)) = true := by rfl)
    (hline : (apos.endLine == cpos.line) = true := by rfl) (hs : starEach (e :: es) X.env = (false, eval e X.env) :: starEach es X.env := by rfl) (hplain : (backTo cpos (starEach es X.env)).any (·.1) = false := by rfl) :
    PE X (.Call (.Attribute o name apos) (e :: es) [] cpos) (tBM X.K T r to t) := by
  intro pins s σ H Q I h
  refine wpAny_Call_method_late hbase hfew hline rfl (thn (ho pins s σ H _ I h) fun v s1 hpt34 => ?_)
  obtain ⟨x, H1, I1, r1, ty, q1⟩ := hpt34
  obtain ⟨h1, h2⟩ := tyV_is I1 r1 ty
  refine ⟨T, id, pa, slot, hty, h1, h2, ?_⟩
  have hA := ha cpos pins s1 σ H1 _ I1 q1
  rw [hs] at hA ⊢
  refine Calls.callWith_builtin (by show (false || (backTo cpos (starEach es X.env)).any (·.1)) = false; rw [hplain] <;> rfl) (Calls.evalArgs_plain ?_)
  refine thn hA fun us s2 hpt35 => ?_
  obtain ⟨vs, H2, I2, r2, q2⟩ := hpt35
  exact hm pins s2 σ H2 x vs v us Q I2 r1 r2 q2
end
end L2

namespace L2
open PySem PySem.Spec PyProof.Rows

noncomputable def MtM (X : Cx) (id : String) (r : V → List V → Hp → VK → Prop) : Prop :=
  ∀ (pins : List (Addr × Obj)) (s : Shared) (σ : St) (H : Hp) (x : V) (xs : List V) (v : Value) (us : List Value) (Q : VK), Inv X pins σ H s → RelV x v → Vals xs us → r x xs H Q →
    wpAny (model X.prog X.w) X.A (call (.builtin id) (v :: us)) (EP X pins σ Q) X.xe s

theorem Vals.one : ∀ {x : V} {us : List Value}, Vals [x] us → ∃ u, us = [u] ∧ RelV x u
  | _, _, .cons r .nil => ⟨_, rfl, r⟩
section
variable {X : Cx} {pins : List (Addr × Obj)} {σ : St} {H : Hp} {s : Shared} {l b : Addr} {xs ys zs : List V}

theorem Inv.lset {its its' : List Value} {n : Nat} {f : Array Value → Array Value} {t' : Nat} (I : Inv X pins σ H s) (hH : H l = some (.lst xs))
    (e : s.heap.get? l = some { cls := .type "list", data := .seq its.toArray n }) (hf : f its.toArray = its'.toArray) (hv : Vals ys its') (hz : ys.length ≤ sizeLine) :
    Inv X pins σ (upd H l (.lst ys)) { s with heap := s.heap.update l (Obj.mapSeq f), toks := t' } := by
  have q := PySem.IsL.update e f
  rw [hf] at q
  refine I.write (x := l) (e := l) (by rw [hH]; exact trivial) (.inl rfl) (fun b' u hb hu => (Heap.get?_update_other s.heap (Obj.mapSeq f) (Ne.symm hb)).trans hu) ⟨_, q⟩ ?_
  exact ⟨hz, its', _, hv, q⟩
theorem Inv.lnew {its : List Value} {t' : Nat} (I : Inv X pins σ H s) (hv : Vals ys its) (hz : ys.length ≤ sizeLine) :
    Inv X pins σ (upd H s.heap.objs.size (.lst ys)) { s with heap := s.heap.push { cls := .type "list", data := .seq its.toArray }, toks := t' } :=
  I.laid (fun _ _ q => Heap.get?_push_of_some _ q) (Nat.le_refl _) ⟨hz, its, 0, hv, Heap.get?_push_size _ rfl⟩
theorem Inv.fresh (I : Inv X pins σ H s) : H s.heap.objs.size = none := I.hok.fresh (Nat.le_refl _)
theorem Inv.lstM (I : Inv X pins σ H s) (hH : H l = some (.lst xs)) : xs.length ≤ sizeLine ∧ ∃ (its : List Value) (n : Nat), Vals xs its ∧ xs.length = its.length ∧ s.heap.get? l = some { cls := .type "list", data := .seq its.toArray n } := by
  obtain ⟨z, its, n, r, e⟩ := I.hok l _ hH
  exact ⟨z, its, n, r, r.length, e⟩

theorem notLongL {n : Nat} (h : n ≤ sizeLine) : Builtin.List.listTooLong n = false := by
  unfold Builtin.List.listTooLong
  exact decide_eq_false (by first | lia | omega)
end

section
variable {X : Cx}

noncomputable def rAppend : V → List V → Hp → VK → Prop := fun x vs H Q => ∃ l xs y, x = .ref l ∧ vs = [y] ∧ H l = some (.lst xs) ∧ xs.length < sizeLine ∧ Q .non (upd H l (.lst (xs ++ [y])))
theorem mt_append : MtM X "list.append" rAppend := by
  intro pins s σ H x vs v us Q I rx rv h
  obtain ⟨l, xs, y, rfl, rfl, hH, hz, q⟩ := h
  cases rx
  obtain ⟨u, rfl, ru⟩ := rv.one
  obtain ⟨z, its, n, r, hl, e⟩ := I.lstM hH
  refine call_meets F.slot_list_append ⟨_, e, rfl⟩ F.entry_list_append (F.args_list_append_2 _ _) (PySem.list_append l its.toArray n u (by rw [List.size_toArray]; first | lia | omega)) ⟨e, ?_⟩
  refine ⟨.non, _, I.lset (its' := its ++ [u]) hH e (by simp) (r.append (.cons ru .nil)) ?_, rfl, q⟩
  rw [List.length_append, List.length_singleton]
  first | lia | omega

noncomputable def rExtend : V → List V → Hp → VK → Prop := fun x vs H Q => ∃ l b xs zs, x = .ref l ∧ vs = [.ref b] ∧ H l = some (.lst xs) ∧ H b = some (.lst zs) ∧ xs.length + zs.length ≤ sizeLine ∧ Q .non (upd H l (.lst (xs ++ zs)))
theorem mt_extend : MtM X "list.extend" rExtend := by
  intro pins s σ H x vs v us Q I rx rv h
  obtain ⟨l, b, xs, zs, rfl, rfl, hH, hB, hz, q⟩ := h
  cases rx
  obtain ⟨u, rfl, ru⟩ := rv.one
  cases ru
  obtain ⟨z, its, n, r, hl, e⟩ := I.lstM hH
  obtain ⟨z2, its2, n2, r2, hl2, e2⟩ := I.lstM hB
  have hsz : its.toArray.size + its2.toArray.size ≤ sizeLine := by rw [List.size_toArray, List.size_toArray]; first | lia | omega
  have hlong : ¬ (!its.toArray.isEmpty && Builtin.List.listTooLong (its.toArray.size + its2.toArray.size)) = true := by
    rw [notLongL hsz, Bool.and_false]
    exact Bool.false_ne_true
  refine call_meets F.slot_list_extend ⟨_, e, rfl⟩ F.entry_list_extend (F.args_list_extend_2 _ _)
    (AutoSeq1.list_extend_list_list_0 l its.toArray n b its2.toArray n2 hlong (by rw [List.size_toArray]; first | lia | omega) (by first | lia | omega)) ⟨e, e2, ?_⟩
  refine ⟨.non, _, I.lset (its' := its ++ its2) hH e (by simp) (r.append r2) ?_, rfl, q⟩
  rw [List.length_append]
  first | lia | omega

noncomputable def rCat : R2 := fun x y H Q => ∃ l b xs zs, x = .ref l ∧ y = .ref b ∧ H l = some (.lst xs) ∧ H b = some (.lst zs) ∧ xs.length + zs.length ≤ sizeLine ∧ ∀ p, H p = none → Q (.ref p) (upd H p (.lst (xs ++ zs)))
theorem op_cat : OpR X (binaryOp .Add) rCat := by
  intro pins s σ H x y v u Q I rx ry h
  obtain ⟨l, b, xs, zs, rfl, rfl, hH, hB, hz, q⟩ := h
  cases rx
  cases ry
  obtain ⟨z, its, n, r, hl, e⟩ := I.lstM hH
  obtain ⟨z2, its2, n2, r2, hl2, e2⟩ := I.lstM hB
  refine PySem.P.add_list e e2 ?_ (by rw [List.size_toArray, List.size_toArray]; first | lia | omega)
  have ea : its.toArray ++ its2.toArray = (its ++ its2).toArray := by simp
  rw [ea]
  exact ⟨.ref _, _, I.lnew (t' := s.toks) (r.append r2) (by rw [List.length_append]; first | lia | omega), rfl, q _ I.fresh⟩
end

section
variable {prog : Program} {w : World} {A : Around} {E : Value → Shared → Prop} {s : Shared}
end

section
variable {X : Cx}
end
end L2

namespace L2
open PySem PySem.Spec PyProof.Rows

theorem Vals.ints : ∀ {ns : List Int} {us : List Value}, Vals (ns.map V.int) us → IntsAre us ns
  | [], us, h => by
    rw [List.map_nil] at h
    cases h
    exact IntsAre.nil
  | n :: ns, us, h => by
    rw [List.map_cons] at h
    cases h with
    | cons r t =>
      obtain ⟨k, rfl⟩ := r
      exact IntsAre.cons n k (Vals.ints t)
theorem vals_of_ints : ∀ {us : List Value} {ns : List Int}, IntsAre us ns → Vals (ns.map V.int) us
  | _, _, .nil => by rw [List.map_nil]; exact Paired.nil
  | _, _, .cons n t h => by rw [List.map_cons]; exact Paired.cons (show RelV (V.int n) (Value.int n t) from ⟨t, rfl⟩) (vals_of_ints h)
theorem Vals.bls : ∀ {bs : List Bool} {us : List Value}, Vals (bs.map V.bl) us → us = bs.map Value.bool
  | [], us, h => by
    rw [List.map_nil] at h
    cases h
    rfl
  | b :: bs, us, h => by
    rw [List.map_cons] at h
    cases h with
    | cons r t =>
      cases r
      rw [Vals.bls t, List.map_cons]
theorem Vals.ref1 {a : Addr} {us : List Value} (r : Vals [V.ref a] us) : us = [Value.ref a] := by
  cases r with
  | cons r t =>
    cases t
    cases r
    rfl
section
variable {prog : Program} {w : World} {A : Around} {E : Value → Shared → Prop} {s : Shared} {l : Addr} {its : List Value} {ns : List Int} {Q : Value → Shared → Prop}
theorem sum_raw (hh : A.handled = none) (hl : s.heap.IsList l its.toArray) (hi : IntsAre its ns)
    (h : ∀ h' tk t', (∀ b o, s.heap.get? b = some o → h'.get? b = some o) → Q (.int ns.sum t') { s with heap := h', toks := tk }) : wpAny (model prog w) A (call (.builtin "sum") [.ref l]) Q E s := by
  obtain ⟨xs, e⟩ := hi.allInts.items
  have hn : numsOf (intItems xs).toList = ns := by rw [← e]; exact hi.numsOf
  rw [nums_intItems] at hn
  rw [e] at hl
  refine PySem.sum_intListG hh hl fun h' tk t' hk => ?_
  have := h h' tk t' hk
  rw [preSum_eq, List.take_of_length_le (by simp), hn]; exact this
theorem max_raw (hh : A.handled = none) (hl : s.heap.IsList l its.toArray) (hi : IntsAre its ns) (hne : 0 < ns.length)
    (h : ∀ h' tk M t', (∀ b o, s.heap.get? b = some o → h'.get? b = some o) → M ∈ ns → (∀ a, a ∈ ns → a ≤ M) → Q (.int M t') { s with heap := h', toks := tk }) : wpAny (model prog w) A (call (.builtin "max") [.ref l]) Q E s := by
  obtain ⟨xs, e⟩ := hi.allInts.items
  have hn : numsOf (intItems xs).toList = ns := by rw [← e]; exact hi.numsOf
  rw [nums_intItems] at hn
  subst hn
  rw [e] at hl
  have hsz : 0 < xs.size := by simpa using hne
  refine PySem.max_intList hh hl hsz fun v h' tk hv hk => ?_
  obtain ⟨t, rfl⟩ := intItems_at hv
  obtain ⟨h1, h2⟩ := argBest_gt (numAt xs) (xs.size - 1)
  refine h h' tk _ t hk ?_ fun a ha => ?_
  · rw [numAt_eq]; exact PySem.getD_mem (by rw [List.length_map, Array.length_toList]; first | lia | omega)
  · obtain ⟨j, hj, rfl⟩ := mem_getD ha
    rw [List.length_map, Array.length_toList] at hj
    rw [← numAt_eq]; exact h2 j (by first | lia | omega)
theorem min_raw (hh : A.handled = none) (hl : s.heap.IsList l its.toArray) (hi : IntsAre its ns) (hne : 0 < ns.length)
    (h : ∀ h' tk M t', (∀ b o, s.heap.get? b = some o → h'.get? b = some o) → M ∈ ns → (∀ a, a ∈ ns → M ≤ a) → Q (.int M t') { s with heap := h', toks := tk }) : wpAny (model prog w) A (call (.builtin "min") [.ref l]) Q E s := by
  obtain ⟨xs, e⟩ := hi.allInts.items
  have hn : numsOf (intItems xs).toList = ns := by rw [← e]; exact hi.numsOf
  rw [nums_intItems] at hn
  subst hn
  rw [e] at hl
  have hsz : 0 < xs.size := by simpa using hne
  refine PySem.min_intList hh hl hsz fun v h' tk hv hk => ?_
  obtain ⟨t, rfl⟩ := intItems_at hv
  obtain ⟨h1, h2⟩ := argBest_lt (numAt xs) (xs.size - 1)
  refine h h' tk _ t hk ?_ fun a ha => ?_
  · rw [numAt_eq]; exact PySem.getD_mem (by rw [List.length_map, Array.length_toList]; first | lia | omega)
  · obtain ⟨j, hj, rfl⟩ := mem_getD ha
    rw [List.length_map, Array.length_toList] at hj
    rw [← numAt_eq]; exact h2 j (by first | lia | omega)
end

section
variable {X : Cx}
noncomputable def rSum (K : PySem.W.Frag) : List V → Hp → VK → Prop := fun vs H Q => ∃ (a : Addr) (ns : List Int), vs = [V.ref a] ∧ SqL K H a (ns.map V.int) ∧ Q (.int ns.sum) H
noncomputable def rMin (K : PySem.W.Frag) : List V → Hp → VK → Prop := fun vs H Q => ∃ (a : Addr) (ns : List Int), vs = [V.ref a] ∧ SqL K H a (ns.map V.int) ∧ 0 < ns.length ∧ ∀ m, m ∈ ns → (∀ y, y ∈ ns → m ≤ y) → Q (.int m) H
theorem cr_sum (hc : X.calm = true) : CallR X (.builtin "sum") (rSum X.K) := by
  intro pins s σ H vs us Q I r h
  obtain ⟨a, ns, rfl, hs, q⟩ := h
  obtain ⟨its, rv, hl, _⟩ := I.list hs
  rw [Vals.ref1 r]
  exact sum_raw (I.ok.hd hc) hl.isList rv.ints fun h' tk t' hk => ⟨.int _, H, I.kept hk, ⟨_, rfl⟩, q⟩
theorem cr_min (hc : X.calm = true) : CallR X (.builtin "min") (rMin X.K) := by
  intro pins s σ H vs us Q I r h
  obtain ⟨a, ns, rfl, hs, hne, q⟩ := h
  obtain ⟨its, rv, hl, _⟩ := I.list hs
  rw [Vals.ref1 r]
  exact min_raw (I.ok.hd hc) hl.isList rv.ints hne fun h' tk m t' hk h1 h2 => ⟨.int _, H, I.kept hk, ⟨_, rfl⟩, q m h1 h2⟩

noncomputable def rSorted (K : PySem.W.Frag) : List V → Hp → VK → Prop := fun vs H Q => ∃ (a : Addr) (ns : List Int), vs = [V.ref a] ∧ SqL K H a (ns.map V.int) ∧ ns.length < 64 ∧
  ∀ (ns' : List Int) (p : Addr), ns'.Perm ns → ns'.Pairwise (· ≤ ·) → H p = none → Q (.ref p) (upd H p (.lst (ns'.map V.int)))
theorem small64 {n : Nat} (h : n < 64) : n ≤ sizeLine := by rw [sizeLine_eq]; first | lia | omega
theorem cr_sorted : CallR X (.builtin "sorted") (rSorted X.K) := by
  intro pins s σ H vs us Q I r h
  obtain ⟨a, ns, rfl, hs, h64, q⟩ := h
  obtain ⟨its, rv, hl, _⟩ := I.list hs
  rw [Vals.ref1 r]
  have hi := rv.ints
  refine PyProof.Rows.sorted_ints hl.isList hi (by rw [hi.length]; exact h64) fun out ns' h1 h2 h3 => ?_
  obtain ⟨ep, he'⟩ := PyProof.Rows.sortedAll_at s.heap its out
  have hlen : (ns'.map V.int).length ≤ sizeLine := by rw [List.length_map, h2.length_eq]; exact small64 h64
  exact ⟨.ref _, upd H (s.heap.objs.size + 1) (.lst (ns'.map V.int)), I.laid (t' := s.toks) (fun _ _ => PyProof.Rows.sortedAll_old) (Nat.le_succ _) ⟨hlen, out.toList, ep, vals_of_ints h1, he'⟩, rfl, q ns' _ h2 h3 (I.hok.fresh (Nat.le_succ _))⟩
end

section
variable {X : Cx}
end

section
variable {X : Cx}
end

theorem iter_any {prog : Program} {w : World} {A : Around} {E : Value → Shared → Prop} {s : Shared} {l : Addr} {items : Array Value} {Q : Value → Shared → Prop} (hl : s.heap.IsList l items)
    (h : ∀ s₂ : Shared, s₂ = { s with heap := s.heap.push { cls := .type "list_iterator", data := .fields #[.ref l, .int 0 0] } } →
      (s₂.heap.IsListIter s.heap.objs.size l 0 ∧ s₂.heap.IsList l items) → l ≠ s.heap.objs.size → Q (.ref s.heap.objs.size) s₂) : wpAny (model prog w) A (pyIter (.ref l)) Q E s := by
  have hlt : l < s.heap.objs.size := by obtain ⟨_, e, _⟩ := hl; exact Heap.lt_size e
  exact wpAny_pyIter_list hl (h _ rfl ⟨⟨_, Heap.get?_push_size _ rfl, rfl, rfl⟩, hl.push _⟩ (Nat.ne_of_lt hlt))
theorem truth_bools {prog : Program} {w : World} {A : Around} {bs : List Bool} {its : List Value} (e : its = bs.map Value.bool) :
    TruthOf prog w A (fun i v => its.toArray[i]? = some v) (fun i => bs.getD i false) := fun i v s Q E hv hq => by
  have hv' : its[i]? = some v := by simpa using hv
  rw [e, List.getElem?_map] at hv'
  obtain ⟨b, hb, rfl⟩ := Option.map_eq_some_iff.mp hv'
  have hg : bs.getD i false = b := by rw [List.getD_eq_getElem?_getD, hb] <;> rfl
  have hq' : Q (bs.getD i false) s := hq
  rw [hg] at hq'
  exact wpAny_truthy_bool hq'
theorem any_range : ∀ bs : List Bool, (List.range bs.length).any (fun i => bs.getD i false) = bs.any id
  | [] => rfl
  | b :: bs => by
    rw [List.length_cons, List.range_succ_eq_map, List.any_cons, List.any_map, List.any_cons, ← any_range bs]
    all_goals rfl
theorem all_range : ∀ bs : List Bool, (List.range bs.length).all (fun i => bs.getD i false) = bs.all id
  | [] => rfl
  | b :: bs => by
    rw [List.length_cons, List.range_succ_eq_map, List.all_cons, List.all_map, List.all_cons, ← all_range bs]
    all_goals rfl
section
variable {X : Cx}
noncomputable def rAll (K : PySem.W.Frag) : List V → Hp → VK → Prop := fun vs H Q => ∃ (a : Addr) (bs : List Bool), vs = [V.ref a] ∧ SqL K H a (bs.map V.bl) ∧ Q (.bl (bs.all id)) H
theorem cr_all (hc : X.calm = true) : CallR X (.builtin "all") (rAll X.K) := by
  intro pins s σ H vs us Q I r h
  obtain ⟨a, bs, rfl, hs, q⟩ := h
  obtain ⟨its, rv, hl, _⟩ := I.list hs
  rw [Vals.ref1 r]
  have hb := rv.bls
  refine call_all_walk (iter_any hl.isList fun s₂ e2 st hne => ?_)
  subst e2
  refine ⟨_, _, _, _, _, _, _, rfl, Walks.list (A := X.A.in1) (I.ok.hd hc) _ a hne its.toArray, st, truth_bools hb, fun h' tk hk => ?_⟩
  refine ⟨.bl _, H, I.kept fun b o eo => hk b o (fun hmem => ?_) (Heap.get?_push_of_some _ eo), ?_, q⟩
  · rcases List.mem_cons.mp hmem with e1 | hmem
    · exact absurd (e1 ▸ Heap.lt_size eo) (Nat.lt_irrefl _)
    · cases hmem
  · show Value.bool _ = Value.bool _
    rw [← all_range, hb, List.size_toArray, List.length_map]
end

section
variable {X : Cx} {pins : List (Addr × Obj)} {σ : St} {H : Hp} {s : Shared}
end
section
variable {X : Cx}
end
end L2

namespace L2
open PySem PySem.Spec PyProof.Rows
noncomputable abbrev CellAt (h : Heap) (c : Addr) (v : Option Value) : Prop := h.IsCell c v
noncomputable def relS (scope sc : Scope) : Scope :=
  { scope with names := scope.names.map fun (n, k) => if (k == .free && sc.kind == .function && sc.names.lookup n == some .cell) then (n, .cell) else (n, k) }

noncomputable def cloFrom (cells : List (Str × Addr)) : List (Str × NameKind) → List (Str × Addr) → List (Str × Addr)
  | [], acc => acc
  | (n, k) :: r, acc => if k == .free then cloFrom cells r ((n, (cells.lookup n).getD 0) :: acc) else cloFrom cells r acc

theorem closure_loop (env : Env) (f : Str × NameKind → List (Str × Addr) → Sem (ForInStep (List (Str × Addr))))
    (hf : ∀ n k c, f (n, k) c = if k == .free then (do let a ← cellOf env n; pure (.yield ((n, a) :: c))) else pure (.yield c)) :
    ∀ (names : List (Str × NameKind)) (acc : List (Str × Addr)), (∀ y ∈ names, y.2 = .free → ∃ c, env.cells.lookup y.1 = some c) → forIn names acc f = pure (cloFrom env.cells names acc)
  | [], acc, _ => by rw [List.forIn_nil]; rfl
  | (n, k) :: r, acc, h => by
    rw [List.forIn_cons, hf]
    have ih := fun acc => closure_loop env f hf r acc fun y hy => h y (List.mem_cons_of_mem _ hy)
    unfold cloFrom
    by_cases hk : (k == NameKind.free) = true
    · rw [if_pos hk, if_pos hk]
      obtain ⟨c, hc⟩ := h (n, k) List.mem_cons_self (by simpa using hk)
      have e : cellOf env n = pure c := by unfold cellOf; rw [hc]
      rw [e]
      have e2 : (env.cells.lookup n).getD 0 = c := by rw [hc]; rfl
      rw [e2]
      exact ih _
    · rw [if_neg hk, if_neg hk]
      exact ih _
theorem closure_ok {scope : Scope} {env : Env} (h : ∀ y ∈ scope.names, y.2 = .free → ∃ c, env.cells.lookup y.1 = some c) : closureFor scope env = pure (cloFrom env.cells scope.names []) := by
  simp only [closureFor]
  rw [closure_loop env _ (fun n k c => rfl) scope.names [] h]
  rfl

theorem mem_lookup {α : Type} : ∀ {l : List (Str × α)} {n : Str} {c : α}, (n, c) ∈ l → ∃ c', l.lookup n = some c'
  | (k, v) :: r, n, c, h => by
    rw [List.lookup_cons]
    cases hb : n == k with
    | true => exact ⟨_, rfl⟩
    | false =>
      rcases List.mem_cons.mp h with e | h
      · cases e; simp at hb
      · exact mem_lookup h

theorem cloFrom_mem {cells : List (Str × Addr)} : ∀ {names : List (Str × NameKind)} {acc : List (Str × Addr)} {n : Str} {c : Addr}, (n, c) ∈ cloFrom cells names acc → (n, c) ∈ acc ∨ ((n, .free) ∈ names ∧ c = (cells.lookup n).getD 0)
  | [], _, _, _, h => .inl h
  | (m, k) :: r, acc, n, c, h => by
    unfold cloFrom at h
    split at h
    · rename_i hk
      have hk : k = .free := by simpa using hk
      rcases cloFrom_mem h with h | ⟨h1, h2⟩
      · rcases List.mem_cons.mp h with e | h
        · cases e; exact .inr ⟨hk ▸ List.mem_cons_self, rfl⟩
        · exact .inl h
      · exact .inr ⟨List.mem_cons_of_mem _ h1, h2⟩
    · rcases cloFrom_mem h with h | ⟨h1, h2⟩
      · exact .inl h
      · exact .inr ⟨List.mem_cons_of_mem _ h1, h2⟩
theorem cloFrom_acc {cells : List (Str × Addr)} : ∀ {names : List (Str × NameKind)} {acc : List (Str × Addr)} {p : Str × Addr}, p ∈ acc → p ∈ cloFrom cells names acc
  | [], _, _, h => h
  | (m, k) :: r, acc, p, h => by
    unfold cloFrom
    split
    · exact cloFrom_acc (List.mem_cons_of_mem _ h)
    · exact cloFrom_acc h
theorem cloFrom_has {cells : List (Str × Addr)} : ∀ {names : List (Str × NameKind)} {acc : List (Str × Addr)} {n : Str}, (n, .free) ∈ names → (n, (cells.lookup n).getD 0) ∈ cloFrom cells names acc
  | (m, k) :: r, acc, n, h => by
    unfold cloFrom
    rcases List.mem_cons.mp h with e | h
    · cases e
      exact cloFrom_acc List.mem_cons_self
    · split
      · exact cloFrom_has h
      · exact cloFrom_has h

theorem cells_mem : ∀ {names : List (Str × NameKind)} {h : Heap} {acc : List (Str × Addr)} {x : Str} {c : Addr}, (x, c) ∈ cellsFrom h.objs.size names acc →
    (x, c) ∈ acc ∨ ((x, .cell) ∈ names ∧ h.objs.size ≤ c ∧ CellAt (pushCells h names) c none)
  | [], _, _, _, _, h => .inl h
  | (n, k) :: r, h, acc, x, c, hm => by
    unfold cellsFrom at hm
    unfold pushCells
    split at hm
    · rename_i hk
      rw [if_pos hk]
      have hk : k = .cell := by simpa using hk
      rw [← Heap.size_push h { cls := .type "cell", data := .cell none }] at hm
      rcases cells_mem hm with hm | ⟨h1, h2, h3⟩
      · rcases List.mem_cons.mp hm with e | hm
        · cases e
          exact .inr ⟨hk ▸ List.mem_cons_self, Nat.le_refl _, _, pushCells_keeps r _ _ _ (Heap.get?_push_size _ rfl), rfl⟩
        · exact .inl hm
      · rw [Heap.size_push] at h2
        exact .inr ⟨List.mem_cons_of_mem _ h1, Nat.le_of_succ_le h2, h3⟩
    · rename_i hk
      rw [if_neg hk]
      rcases cells_mem hm with hm | ⟨h1, h2, h3⟩
      · exact .inl hm
      · exact .inr ⟨List.mem_cons_of_mem _ h1, h2, h3⟩
theorem cells_acc : ∀ {names : List (Str × NameKind)} {n : Nat} {acc : List (Str × Addr)} {p : Str × Addr}, p ∈ acc → p ∈ cellsFrom n names acc
  | [], _, _, _, h => h
  | (m, k) :: r, n, acc, p, h => by
    unfold cellsFrom
    split
    · exact cells_acc (List.mem_cons_of_mem _ h)
    · exact cells_acc h
theorem cells_has : ∀ {names : List (Str × NameKind)} {n : Nat} {acc : List (Str × Addr)} {x : Str}, (x, .cell) ∈ names → ∃ c, (x, c) ∈ cellsFrom n names acc
  | (m, k) :: r, n, acc, x, h => by
    unfold cellsFrom
    rcases List.mem_cons.mp h with e | h
    · cases e
      exact ⟨n, cells_acc List.mem_cons_self⟩
    · split
      · exact cells_has h
      · exact cells_has h
theorem cells_inj : ∀ {names : List (Str × NameKind)} {h : Heap} {acc : List (Str × Addr)} {x y : Str} {c : Addr}, (∀ p ∈ acc, p.2 < h.objs.size) → (∀ x y c, (x, c) ∈ acc → (y, c) ∈ acc → x = y) →
    (x, c) ∈ cellsFrom h.objs.size names acc → (y, c) ∈ cellsFrom h.objs.size names acc → x = y
  | [], _, _, _, _, _, _, hi, h1, h2 => hi _ _ _ h1 h2
  | (n, k) :: r, h, acc, x, y, c, hl, hi, h1, h2 => by
    unfold cellsFrom at h1 h2
    split at h1
    · rename_i hk
      rw [if_pos hk] at h2
      rw [← Heap.size_push h { cls := .type "cell", data := .cell none }] at h1 h2
      refine cells_inj (h := h.push _) (fun p hp => ?_) (fun x y c a b => ?_) h1 h2
      · rw [Heap.size_push]
        rcases List.mem_cons.mp hp with rfl | hp
        · exact Nat.lt_succ_self _
        · exact Nat.lt_succ_of_lt (hl p hp)
      · rcases List.mem_cons.mp a with e | a <;> rcases List.mem_cons.mp b with e' | b
        · cases e; cases e'; rfl
        · cases e; exact absurd (hl _ b) (Nat.lt_irrefl _)
        · cases e'; exact absurd (hl _ a) (Nat.lt_irrefl _)
        · exact hi _ _ _ a b
    · rename_i hk
      rw [if_neg hk] at h2
      exact cells_inj hl hi h1 h2

theorem newEnv_comp {M : Model} {A : Around} {E : Value → Shared → Prop} {s : Shared} {scope : Scope} {globals : Addr} {closure : List (Str × Addr)} {qual : Str} {func : Option Addr} {code : Value} {around : Env} {builtins : Addr} {Q : Env → Shared → Prop}
    (h : Q (newEnv scope s.heap.objs.size globals (cellsFrom (s.heap.objs.size + 1) scope.names closure) qual func code (some around) builtins)
      { s with heap := pushCells (s.heap.push { cls := .type "dict", data := .dict #[] }) scope.names }) :
    wpAny M A (newFunctionEnv scope globals closure [] qual func code (some around) builtins) Q E s := by
  simp only [newFunctionEnv, Option.isSome_some, if_true]
  refine wpAny_bind (wpAny_alloc ?_)
  refine wpAny_bind (wpAny_layCells _ (fun n k c => rfl) scope.names closure _ _ ?_)
  rw [show ({ s with heap := s.heap.push { cls := .type "dict", data := .dict #[] } } : Shared).heap.objs.size = s.heap.objs.size + 1 from Heap.size_push ..]
  rw [List.forIn_nil]
  exact wpAny_bind (wpAny_pure (wpAny_pure h))

theorem lookup_relS {sc : Scope} : ∀ {names : List (Str × NameKind)} {x : Str} {k : NameKind},
    (names.map fun (n, k) => if (k == NameKind.free && sc.kind == .function && sc.names.lookup n == some .cell) then (n, NameKind.cell) else (n, k)).lookup x = some k →
    ∃ k', names.lookup x = some k' ∧ (k = k' ∨ (k' = .free ∧ k = .cell))
  | [], _, _, h => by simp at h
  | (n, k₀) :: r, x, k, h => by
    have ih := @lookup_relS sc r x k
    have h' : List.lookup x ((if (k₀ == NameKind.free && sc.kind == .function && sc.names.lookup n == some .cell) = true then (n, NameKind.cell) else (n, k₀)) :: (r.map _)) = some k := h
    cases hx : x == n with
    | true =>
      simp only [List.lookup_cons, hx]
      by_cases hc : (k₀ == NameKind.free && sc.kind == .function && sc.names.lookup n == some .cell) = true
      · rw [if_pos hc] at h'
        simp only [List.lookup_cons, hx] at h'
        cases h'
        simp only [Bool.and_eq_true, beq_iff_eq] at hc
        exact ⟨k₀, rfl, .inr ⟨hc.1.1, rfl⟩⟩
      · rw [if_neg hc] at h'
        simp only [List.lookup_cons, hx] at h'
        cases h'
        exact ⟨_, rfl, .inl rfl⟩
    | false =>
      simp only [List.lookup_cons, hx]
      by_cases hc : (k₀ == NameKind.free && sc.kind == .function && sc.names.lookup n == some .cell) = true
      · rw [if_pos hc] at h'
        simp only [List.lookup_cons, hx] at h'
        exact ih h'
      · rw [if_neg hc] at h'
        simp only [List.lookup_cons, hx] at h'
        exact ih h'
structure BlkOk (N : List Str) (sc scope : Scope) (own : List (Str × Nat)) : Prop where
  kind : scope.kind = .function
  uniq : ∀ y ∈ scope.names, scope.names.lookup y.1 = some y.2
  ix : ∀ p ∈ own, N[p.2]? = some p.1
  free : ∀ y ∈ scope.names, y.2 = .free → sc.names.lookup y.1 = some .cell ∨ sc.names.lookup y.1 = some .free
  own : ∀ y ∈ scope.names, y.2 = .local ∨ y.2 = .cell → y.1 ∈ own.map (·.1) ∨ y.1 ∉ N
noncomputable def wipe (σ : St) : List Nat → St
  | [] => σ
  | v :: vs => (wipe σ vs).set v none
theorem wipe_length (σ : St) : ∀ vs : List Nat, (wipe σ vs).length = σ.length
  | [] => rfl
  | v :: vs => by unfold wipe; rw [List.length_set, wipe_length σ vs]
theorem wipe_some {σ : St} {i : Nat} {x : V} : ∀ {vs : List Nat}, (wipe σ vs)[i]? = some (some x) → σ[i]? = some (some x) ∧ i ∉ vs
  | [], h => ⟨h, by simp⟩
  | v :: vs, h => by
    unfold wipe at h
    by_cases hi : v = i
    · subst hi
      by_cases hv : v < (wipe σ vs).length
      · rw [List.getElem?_set_self hv] at h; cases h
      · rw [List.getElem?_eq_none (by simpa using hv)] at h; cases h
    · rw [List.getElem?_set_ne hi] at h
      obtain ⟨h1, h2⟩ := wipe_some h
      exact ⟨h1, by simp only [List.mem_cons, not_or]; exact ⟨fun e => hi e.symm, h2⟩⟩

noncomputable abbrev Cx.blk (X : Cx) (s : Shared) (H : Hp) (scope : Scope) (cenv : Env) (fp : List Addr) : Cx := { X with s_0 := s, H_0 := H, env := cenv, outer := X.stack, ex := fp, fn := fun x => scope.names.lookup x == some .cell, pn := [], xe := fun _ _ => False }
section
variable {X : Cx} {pins : List (Addr × Obj)} {σ : St} {H : Hp} {s : Shared}
theorem block_start {scope : Scope} {own : List (Str × Nat)} {fp : List Addr} (I : Inv X pins σ H s) (ok : BlkOk X.N X.env.scope scope own) (hN : X.N.Nodup) (hfp : ∀ b ∈ fp, FpOk X pins H b ∧ b < s.heap.objs.size) :
    Inv (X.blk s H scope (compEnvC scope (cellsFrom (s.heap.objs.size + 1) scope.names (cloFrom X.env.cells scope.names [])) s.heap.objs.size X.env) fp) [] (wipe σ (own.map (·.2))) H { s with heap := pushCells (s.heap.push { cls := .type "dict", data := .dict #[] }) scope.names } := by
  have hfree : ∀ y ∈ scope.names, y.2 = .free → ∃ c, X.env.cells.lookup y.1 = some c := fun y hy e => by
    rcases ok.free y hy e with k | k
    · exact I.ok.has _ (.inl k)
    · exact I.ok.has _ (.inr k)
  generalize hcenv : compEnvC scope (cellsFrom (s.heap.objs.size + 1) scope.names (cloFrom X.env.cells scope.names [])) s.heap.objs.size X.env = cenv
  have kp : ∀ b o, s.heap.get? b = some o → (pushCells (s.heap.push { cls := .type "dict", data := .dict #[] }) scope.names).get? b = some o := fun b o e => pushCells_keeps _ _ _ _ (Heap.get?_push_of_some _ e)
  have hL : cenv.locals = s.heap.objs.size := by rw [← hcenv]; rfl
  have hcl : cenv.cells = cellsFrom (s.heap.objs.size + 1) scope.names (cloFrom X.env.cells scope.names []) := by rw [← hcenv]; rfl
  have hsc : cenv.scope = relS scope X.env.scope := by rw [← hcenv]; rfl
  rw [← Heap.size_push s.heap { cls := .type "dict", data := .dict #[] }] at hcl
  have cm : ∀ {y c}, (y, c) ∈ cloFrom X.env.cells scope.names [] → X.env.cells.lookup y = some c ∧ c < s.heap.objs.size := fun {y c} hm => by
    rcases cloFrom_mem hm with hm | ⟨h1, rfl⟩
    · cases hm
    · obtain ⟨c, hc⟩ := hfree _ h1 rfl
      rw [hc]
      obtain ⟨w, z⟩ := I.cell _ _ hc
      exact ⟨rfl, z.lt⟩
  have mem : ∀ {y c}, cenv.cells.lookup y = some c → (X.env.cells.lookup y = some c ∧ c < s.heap.objs.size) ∨ (s.heap.objs.size + 1 ≤ c ∧ CellAt (pushCells (s.heap.push { cls := .type "dict", data := .dict #[] }) scope.names) c none) := fun {y c} e => by
    rw [hcl] at e
    rcases cells_mem (PySem.mem_of_lookup e) with hm | ⟨_, h2, h3⟩
    · exact .inl (cm hm)
    · rw [Heap.size_push] at h2; exact .inr ⟨h2, h3⟩
  have look : ∀ {y}, scope.names.lookup y = some .free → ∃ c, cenv.cells.lookup y = some c ∧ X.env.cells.lookup y = some c := fun {y} hl => by
    have hy : (y, NameKind.free) ∈ scope.names := PySem.mem_of_lookup hl
    obtain ⟨c', e'⟩ := mem_lookup (cells_acc (names := scope.names) (n := (s.heap.push { cls := .type "dict", data := .dict #[] }).objs.size) (cloFrom_has (cells := X.env.cells) (acc := []) hy))
    rw [← hcl] at e'
    refine ⟨c', e', ?_⟩
    rw [hcl] at e'
    rcases cells_mem (PySem.mem_of_lookup e') with hm | ⟨h1, _, _⟩
    · exact (cm hm).1
    · have := ok.uniq _ h1
      rw [hl] at this; cases this
  have okB : (X.blk s H scope cenv fp).Ok := by
    refine ⟨I.ok.mod, by show cenv.scope.kind = _; rw [hsc]; exact ok.kind, by show cenv.globals = _; rw [← hcenv]; exact I.ok.glob, by show cenv.builtins = _; rw [← hcenv]; exact I.ok.blt, by show s.heap.objs.size ≤ cenv.locals; rw [hL]; exact Nat.le_refl _,
      fun y z c e1 e2 => ?_, fun y hy => ?_, fun y c z e => ?_, I.ok.hd, I.ok.frames, .inl rfl, fun b hb => ⟨?_, fun y c e z => ?_⟩, I.bs, Nat.le_trans I.ok.bsz I.sz, fun b o e hb => ?_, fun b hb z => ?_, I.stack, I.stkFree⟩
    · have e1 : cenv.cells.lookup y = some c := e1
      have e2 : cenv.cells.lookup z = some c := e2
      rw [hcl] at e1 e2
      refine cells_inj (fun p hp => ?_) (fun y z c a b => I.ok.inj y z c (cm a).1 (cm b).1) (PySem.mem_of_lookup e1) (PySem.mem_of_lookup e2)
      rw [Heap.size_push]
      exact Nat.lt_succ_of_lt (cm (y := p.1) (c := p.2) hp).2
    · show ∃ c, cenv.cells.lookup y = some c
      have key : ∀ k, cenv.kindOf y = some k → (k = .cell ∨ k = .free) → ∃ c, cenv.cells.lookup y = some c := fun k hk hk' => by
        unfold Env.kindOf at hk
        rw [hsc] at hk
        obtain ⟨k', e, r⟩ := lookup_relS hk
        have : k' = .cell ∨ k' = .free := by
          rcases r with rfl | ⟨rfl, _⟩
          · exact hk'
          · exact .inr rfl
        rcases this with rfl | rfl
        · obtain ⟨c, hm⟩ := cells_has (n := (s.heap.push { cls := .type "dict", data := .dict #[] }).objs.size) (acc := cloFrom X.env.cells scope.names []) (PySem.mem_of_lookup e)
          obtain ⟨c', e'⟩ := mem_lookup hm
          exact ⟨c', by rw [hcl]; exact e'⟩
        · obtain ⟨c, h1, _⟩ := look e
          exact ⟨c, h1⟩
      rcases hy with hy | hy
      · exact key _ hy (.inl rfl)
      · exact key _ hy (.inr rfl)
    · have z : (scope.names.lookup y == some NameKind.cell) = true := z
      have z : scope.names.lookup y = some .cell := by simpa using z
      have e : cenv.cells.lookup y = some c := e
      rw [hcl] at e
      rcases cells_mem (PySem.mem_of_lookup e) with hm | ⟨_, h2, _⟩
      · rcases cloFrom_mem hm with hm | ⟨h1, _⟩
        · cases hm
        · have q := ok.uniq _ h1
          rw [z] at q; cases q
      · rw [Heap.size_push] at h2
        exact Nat.le_of_succ_le h2
    · show b ≠ cenv.locals
      rw [hL]; exact Nat.ne_of_lt (hfp b hb).2
    · have e : cenv.cells.lookup y = some c := e
      rcases mem e with ⟨h1, _⟩ | ⟨h1, _⟩
      · exact (hfp b hb).1.2.2.2.2.1 y c h1 z
      · have h2 : s.heap.objs.size + 1 ≤ b := by rw [← z]; exact h1
        exact absurd (Nat.lt_of_lt_of_le (hfp b hb).2 (Nat.le_of_succ_le h2)) (Nat.lt_irrefl _)
    · rcases (hfp b hb).1.2.2.2.1 with z | z
      · exact I.ok.noex b o e z
      · exact absurd (Nat.lt_of_lt_of_le (Heap.lt_size e) (Nat.le_trans I.ok.bsz z)) (Nat.lt_irrefl _)
    · rcases List.mem_cons.mp (I.stkSub b z) with z | z
      · exact (hfp b hb).1.2.1 z
      · exact (hfp b hb).1.2.2.1 z
  refine ⟨okB, rfl, I.bare, Un.kept kp, ⟨fun _ => none, ?_, fun i y av e1 e2 e3 => ?_⟩, fun y c e => ?_, ?_, fun y c e => ?_, fun p hp => ?_, I.hok.kept kp, by rw [wipe_length]; exact I.len⟩
  · show Heap.Ns _ cenv.locals _
    rw [hL]
    exact Heap.Ns.keeps (Heap.Ns.new ..) fun b o e => pushCells_keeps _ _ _ _ e
  · obtain ⟨e2, hne⟩ := wipe_some e2
    have hfr : scope.names.lookup y = some .free ∧ (cenv.kindOf y = some .cell ∨ cenv.kindOf y = some .free) := by
      have key : ∀ k, cenv.scope.names.lookup y = some k → k = .local ∨ k = .cell ∨ k = .free → scope.names.lookup y = some .free ∧ (cenv.kindOf y = some .cell ∨ cenv.kindOf y = some .free) := fun k hk hk' => by
        have hk0 := hk
        rw [hsc] at hk
        obtain ⟨k', e, r⟩ := lookup_relS hk
        have no : ¬ (k' = .local ∨ k' = .cell) := fun hh => by
          rcases ok.own _ (PySem.mem_of_lookup e) hh with e' | e'
          · obtain ⟨p, hp, hpy⟩ := List.mem_map.mp e'
            have e3 := ok.ix p hp
            have : p.1 = y := hpy
            rw [this] at e3
            exact hne (List.mem_map.mpr ⟨p, hp, nodup_ix hN e3 e1⟩)
          · exact e' (List.mem_of_getElem? e1)
        rcases r with rfl | ⟨rfl, rfl⟩
        · rcases hk' with rfl | rfl | rfl
          · exact absurd (.inl rfl) no
          · exact absurd (.inr rfl) no
          · exact ⟨e, .inr hk0⟩
        · exact ⟨e, .inl hk0⟩
      have e3 : Vis cenv.scope y := e3
      rcases e3 with e3 | e3 | e3
      · exact key _ e3 (.inl rfl)
      · exact key _ e3 (.inr (.inl rfl))
      · exact key _ e3 (.inr (.inr rfl))
    obtain ⟨m, hn, hl⟩ := I.loc
    have hvis : Vis X.env.scope y := (ok.free _ (PySem.mem_of_lookup hfr.1) rfl).elim (fun k => .inr (.inl k)) (fun k => .inr (.inr k))
    obtain ⟨w, r, q⟩ := hl i y av e1 e2 hvis
    refine ⟨w, r, .inr ⟨hfr.2, ?_⟩⟩
    obtain ⟨c, h1, h2⟩ := look hfr.1
    rcases q with ⟨k, _⟩ | ⟨_, c', e', z⟩
    · have k : X.env.scope.names.lookup y = some .local := k
      rcases ok.free _ (PySem.mem_of_lookup hfr.1) rfl with k' | k' <;> rw [show X.env.scope.names.lookup y = _ from k'] at k <;> cases k
    · rw [h2] at e'; cases e'
      exact ⟨c, h1, z.keeps kp⟩
  · have e : cenv.cells.lookup y = some c := e
    rcases mem e with ⟨h1, _⟩ | ⟨_, z⟩
    · obtain ⟨w, z⟩ := I.cell y c h1
      exact ⟨w, z.keeps kp⟩
    · exact ⟨_, z⟩
  · show H cenv.locals = none
    rw [hL]; exact I.hok.fresh (Nat.le_refl _)
  · have e : cenv.cells.lookup y = some c := e
    rcases mem e with ⟨h1, _⟩ | ⟨h1, _⟩
    · exact I.freeC y c h1
    · exact I.hok.fresh (Nat.le_of_succ_le h1)
  · exact absurd (show p ∈ ([] : List (Addr × Obj)) ++ [] from hp) (by simp)

theorem app_ok {E : Value → Shared → Prop} {D : Addr} {xs : List V} {y : V} {v : Value} {Q : Value → Shared → Prop} (I : Inv X pins σ H s) (hD : H D = some (.lst xs)) (hz : xs.length < sizeLine) (r : RelV y v)
    (h : ∀ s', Inv X pins σ (upd H D (.lst (xs ++ [y]))) s' → Q .none s') : wpAny (model X.prog X.w) X.A (call (.builtin "list.append") [.ref D, v]) Q E s := by
  obtain ⟨hz', its, n, ri, e⟩ := I.hok D _ hD
  have hl := ri.length
  refine append_at (hsz := by rw [List.size_toArray]; first | lia | omega) e fun h' sb ho' => ?_
  refine h { s with heap := h' } (I.write (t' := s.toks) (by rw [hD]; trivial) (.inl rfl) (fun b u hb q => (sb.2 b hb).trans q) ⟨_, ho'⟩ ⟨by rw [List.length_append]; exact hz, its ++ [v], n + 1, ri.append (.cons r .nil), ?_⟩)
  rw [ho']
  simp

noncomputable def PTs (X : Cx) (ifs : List Expr) (t : TT) : Prop :=
  ∀ (pins : List (Addr × Obj)) (s : Shared) (σ : St) (H : Hp) (Q : Bool → Hp → Prop), Inv X pins σ H s → t σ H Q →
    wpAny (model X.prog X.w) X.A (forIn ifs true fun c r => if r = true then do let ok ← isTrue c X.env (eval c X.env); pure (ForInStep.yield ok) else pure (ForInStep.yield r)) (TP X pins σ Q) X.xe s
noncomputable def tYes : TT := fun _ H Q => Q true H
theorem pts_nil : PTs X [] tYes := fun _ _ _ H _ I h => wpAny_tests_nil ⟨H, I, h⟩
theorem pts_one {c : Expr} {t : TT} (h : PT X c t) : PTs X [c] t := fun pins s σ H Q I hw => wpAny_tests_one (h pins s σ H Q I hw)
end

theorem thnF {α : Type} {t : Sem α} {Q Q' : α → Shared → Prop} {M : Model} {A : Around} {E : Value → Shared → Prop} {s : Shared} (h : wpAny M A t Q (fun _ _ => False) s) (hQ : ∀ a s, Q a s → Q' a s) : wpAny M A t Q' E s := wpAny_mono h hQ fun _ _ z => False.elim z

theorem compLoop_any {prog : Program} {w : World} {A : Around} {R : Result → Shared → Prop} {s : Shared} {elt target iter : Expr} {ifs : List Expr} {scope : Scope} {pos : Pos} {it acc : Value} {env : Env} (I : Nat → Shared → Prop)
    (turn : ∀ n s, I n s → wpAny (model prog w) A (pyNext it) (fun r s₁ => match r with
      | none => R (.ok .next) s₁
      | some v => wpAny (model prog w) A (letOwnedTupleGo target it v) (fun _ s₁' => wpAny (model prog w) A (assign target env v) (fun _ s₂ =>
          wpAny (model prog w) A (forIn ifs true fun c r => if r = true then do let ok ← isTrue c env (eval c env); pure (ForInStep.yield ok) else pure (ForInStep.yield r)) (fun ok s₃ =>
            if ok = true then wpAny (model prog w) A (eval elt env) (fun x s₄ =>
              wpAny (model prog w) A (call (.builtin "list.append") [acc, x]) (fun _ s₅ => ∃ m, m < n ∧ I m s₅) (notedBy (model prog w) A env fun e s' => R (.error e) s') s₄) (notedBy (model prog w) A env fun e s' => R (.error e) s') s₃
            else ∃ m, m < n ∧ I m s₃) (notedBy (model prog w) A env fun e s' => R (.error e) s') s₂) (notedBy (model prog w) A env fun e s' => R (.error e) s') s₁') (notedBy (model prog w) A env fun e s' => R (.error e) s') s₁) (notedBy (model prog w) A env fun e s' => R (.error e) s') s)
    (n : Nat) (h : I n s) :
    codeAny (model prog w) A (.compLoop (.ListComp elt [⟨target, iter, ifs, 0⟩] scope pos) 0 it acc env) R s := by
  refine codeAny_loop rfl I (fun n s hI => ?_) n h
  show wpAny _ A ((compTurn (.ListComp elt [⟨target, iter, ifs, 0⟩] scope pos) 0 it acc env).onRaise (fun x => do noteFrame x env; theTreesLotGoes x)) _ _ s
  refine wpAny_noted ?_
  rw [compTurn_list]
  refine wpAny_bind (wpAny_standAt (wpAny_bind (wpAny_mono (turn n s hI) (fun r s₁ h₁ => ?_) fun _ _ h' => h')))
  cases r with
  | none => exact wpAny_pure h₁
  | some v =>
    refine wpAny_bind (wpAny_mono h₁ (fun _ s₁' h₁' => ?_) fun _ _ h' => h')
    refine wpAny_bind (wpAny_mono h₁' (fun _ s₂ h₂ => wpAny_bind (wpAny_mono h₂ (fun ok s₃ h₃ => ?_) fun _ _ h' => h')) fun _ _ h' => h')
    cases ok with
    | false => exact wpAny_pure ⟨rfl, h₃⟩
    | true =>
      exact wpAny_bind (wpAny_bind (wpAny_mono h₃ (fun x s₄ h₄ => wpAny_bind (wpAny_mono h₄ (fun _ s₅ h₅ => wpAny_pure (wpAny_pure ⟨rfl, h₅⟩)) fun _ _ h' => h')) fun _ _ h' => h'))

section
variable {X : Cx}
noncomputable def tLc (wi : TI) (g : TG) (tt : TT) (te : TE) (vs : List Nat) : TE := fun σ H Q => wi σ H fun J H1 => ∀ D, H1 D = none → ∃ W : Nat → Nat → Hp → Prop, (∃ m, W 0 m (upd H1 D (.lst []))) ∧ ∀ i m H, W i m H →
  (J.stop i H ∧ Q (.ref D) H) ∨ (J.go i H ∧ ∃ Nx : Hp → Prop, (∀ H', Nx H' → ∃ m', m' < m ∧ W (i + 1) m' H') ∧ ∀ x H', J.yld i H x H' → g x (wipe σ vs) H' fun σ2 H2 => wipe σ2 vs = wipe σ vs ∧ tt σ2 H2 fun b H3 =>
    if b = true then te σ2 H3 fun y H4 => ∃ acc, H4 D = some (.lst acc) ∧ acc.length < sizeLine ∧ Nx (upd H4 D (.lst (acc ++ [y]))) else Nx H3)
theorem lc_core {pins : List (Addr × Obj)} {s : Shared} {σ : St} {H : Hp} {Q : VK} {elt tg iter : Expr} {ifs : List Expr} {scope : Scope} {own : List (Str × Nat)} {pos pos' : Pos} {wi : TI} {g : TG} {tt : TT} {te : TE} {use : Option (Value → Sem Unit)} {Qf : Value → Shared → Prop}
    (hc : X.calm = true) (hN : X.N.Nodup) (I : Inv X pins σ H s) (hi : PI X tg iter wi) (ok : BlkOk X.N X.env.scope scope own)
    (hg : ∀ (s : Shared) (H : Hp) (C : Addr) (cl : List (Str × Addr)) (fp : List Addr), PG (X.blk s H scope (compEnvC scope cl C X.env) fp) tg g) (ht : ∀ (s : Shared) (H : Hp) (C : Addr) (cl : List (Str × Addr)) (fp : List Addr), PTs (X.blk s H scope (compEnvC scope cl C X.env) fp) ifs tt)
    (he : ∀ (s : Shared) (H : Hp) (C : Addr) (cl : List (Str × Addr)) (fp : List Addr), PE (X.blk s H scope (compEnvC scope cl C X.env) fp) elt te) (hs : ∀ x, foldedSetIterable iter X.env x = pure x)
    (h : tLc wi g tt te (own.map (·.2)) σ H Q)
    (hRR : ∀ D C s' m H', Inv X pins σ H' s' → Q (.ref D) H' → s'.heap.Ns C m → FpOk X pins H' C → compPost (model X.prog X.w) X.A X.xe use Qf (.ref D) C (.ok .next) s') :
    wpAny (model X.prog X.w) X.A (comprehension (.ListComp elt [⟨tg, iter, ifs, 0⟩] scope pos) scope X.env pos' (newList []) false (eval iter X.env) use) Qf X.xe s := by
  have hfree : ∀ y ∈ scope.names, y.2 = .free → ∃ c, X.env.cells.lookup y.1 = some c := fun y hy e => by
    rcases ok.free y hy e with k | k
    · exact I.ok.has _ (.inl k)
    · exact I.ok.has _ (.inr k)
  refine wpAny_comprehension_free (use := use) rfl hs (closure_ok hfree) ok.kind (fun y hy e => by rw [ok.uniq y hy, e])
    (thn (hi pins s σ H _ I h) fun xv s1 hx => thn hx fun itv s2 h2 => ?_)
  obtain ⟨it, fp, tn, J, H2, e, I2, T, st2, f2, q⟩ := h2
  subst e
  refine wpAny_newObj_type (newEnv_comp ?_) (by show 0 ≤ sizeLine; decide)
  generalize hD : s2.heap.objs.size = D
  have hDn : H2 D = none := I2.hok.fresh (Nat.le_of_eq hD)
  obtain ⟨W, ⟨m0, w0⟩, turn⟩ := q D hDn
  -- the new list
  generalize hs3 : ({ s2 with heap := s2.heap.push { cls := .type "list", data := .seq ([] : List Value).toArray } } : Shared) = s3
  have I3 : Inv X pins σ (upd H2 D (.lst [])) s3 := by
    rw [← hs3]
    refine I2.laid (t' := s2.toks) (fun b o e => Heap.get?_push_of_some _ e) (Nat.le_of_eq hD) ⟨Nat.zero_le _, [], 0, .nil, ?_⟩
    rw [← hD]
    exact Heap.get?_push_size _ rfl
  have h3 : s3.heap = s2.heap.push { cls := .type "list", data := .seq ([] : List Value).toArray } := by rw [← hs3]
  have sz : ∀ b ∈ fp, b < s2.heap.objs.size := fun b hb => by
    obtain ⟨o, e, _⟩ := T.obj _ _ st2 b hb
    exact Heap.lt_size e
  have f3 : ∀ b ∈ fp, FpOk X pins (upd H2 D (.lst [])) b ∧ b < s3.heap.objs.size := fun b hb => by
    have hlt := sz b hb
    refine ⟨⟨?_, (f2 b hb).2⟩, by rw [h3, Heap.size_push]; exact Nat.lt_succ_of_lt hlt⟩
    rw [upd_ne (by rw [← hD]; exact Nat.ne_of_lt hlt)]
    exact (f2 b hb).1
  have st3 : tn 0 s3.heap := T.keep _ _ _ st2 fun b _ o e => by rw [h3]; exact Heap.get?_push_of_some _ e
  have I4 := block_start I3 ok hN f3
  have pg := hg s3 (upd H2 D (.lst [])) s3.heap.objs.size (cellsFrom (s3.heap.objs.size + 1) scope.names (cloFrom X.env.cells scope.names [])) fp
  have pt := ht s3 (upd H2 D (.lst [])) s3.heap.objs.size (cellsFrom (s3.heap.objs.size + 1) scope.names (cloFrom X.env.cells scope.names [])) fp
  have pe := he s3 (upd H2 D (.lst [])) s3.heap.objs.size (cellsFrom (s3.heap.objs.size + 1) scope.names (cloFrom X.env.cells scope.names [])) fp
  show codeAny _ _ (.compStart (.ListComp elt [⟨tg, iter, ifs, 0⟩] scope pos) 0 (.ref it) (.ref D) (compEnvC scope (cellsFrom (s3.heap.objs.size + 1) scope.names (cloFrom X.env.cells scope.names [])) s3.heap.objs.size X.env)) (compPost (model X.prog X.w) X.A X.xe use Qf (.ref D) s3.heap.objs.size) { s3 with heap := pushCells (s3.heap.push { cls := .type "dict", data := .dict #[] }) scope.names }
  have nfp : ∀ b ∈ fp, (upd H2 D (.lst [])) b = none := fun b hb => (f3 b hb).1.1
  generalize hce : compEnvC scope (cellsFrom (s3.heap.objs.size + 1) scope.names (cloFrom X.env.cells scope.names [])) s3.heap.objs.size X.env = ce at I4 pg pt pe ⊢
  have cL : ce.locals = s3.heap.objs.size := by subst hce; rfl
  generalize hH3 : upd H2 D (.lst []) = H3 at I3 I4 pg pt pe w0 nfp f3
  generalize hs4 : ({ s3 with heap := pushCells (s3.heap.push { cls := .type "dict", data := .dict #[] }) scope.names } : Shared) = s4 at I4 ⊢
  have st4 : tn 0 s4.heap := T.keep _ _ _ st3 fun b _ o e => by rw [← hs4]; exact pushCells_keeps _ _ _ _ (Heap.get?_push_of_some _ e)
  have stat : ∀ {σ' : St} {H' : Hp} {s' : Shared}, Inv (X.blk s3 H3 scope ce fp) [] σ' H' s' → (∀ b ∈ fp, H' b = none) → ∀ b ∈ fp, FpOk (X.blk s3 H3 scope ce fp) [] H' b := fun {σ' H' s'} I' hn b hb =>
    ⟨hn b hb, (I'.ok.exf b hb).1, I'.ok.exfs b hb, .inl hb, fun x c e => (I'.ok.exf b hb).2 x c e, fun p hp => absurd (show p ∈ ([] : List (Addr × Obj)) ++ [] from hp) (by simp)⟩
  have loop : codeAny (model X.prog X.w) X.A (.compLoop (.ListComp elt [⟨tg, iter, ifs, 0⟩] scope pos) 0 (.ref it) (.ref D) ce) (compPost (model X.prog X.w) X.A X.xe use Qf (.ref D) s3.heap.objs.size) s4 := by
    refine compLoop_any (fun n s' => ∃ i H', Inv (X.blk s3 H3 scope ce fp) [] (wipe σ (own.map (·.2))) H' s' ∧ tn i s'.heap ∧ (∀ b ∈ fp, H' b = none) ∧ W i n H') ?_ m0 ⟨0, H3, I4, st4, nfp, w0⟩
    rintro n s5 ⟨i, H5, I5, st5, n5, w5⟩
    rcases turn i n H5 w5 with ⟨stop, qq⟩ | ⟨go, Nx, hNx, step⟩
    · have td := T.done (X.blk s3 H3 scope ce fp) rfl rfl rfl hc i [] s5 _ H5 (fun _ _ => False) I5 (stat I5 n5) st5 stop
      refine thnF td fun r s6 hpt36 => ?_
      obtain ⟨hr, I6⟩ := hpt36
      subst hr
      -- back in the def's context
      have I7 : Inv X pins σ H5 s6 := I3.call' (ch := fp) I6.os I6.base I6.hok I6.bare fun b hb => ⟨(f3 b hb).1.2.2.2.1, (f3 b hb).1.2.1, (f3 b hb).1.2.2.2.2.1, (f3 b hb).1.2.2.2.2.2⟩
      have nC : H5 s3.heap.objs.size = none := by
        have z : H5 ce.locals = none := I6.free
        rw [cL] at z
        exact z
      obtain ⟨m, hn, _⟩ := I6.loc
      have hn : s6.heap.Ns ce.locals m := hn
      rw [cL] at hn
      exact hRR D s3.heap.objs.size s6 m H5 I7 qq hn (I3.fpOk (Nat.le_refl _) nC)
    · have ti := T.item (X.blk s3 H3 scope ce fp) rfl rfl rfl hc i [] s5 _ H5 (fun _ _ => False) I5 (stat I5 n5) st5 go
      refine thnF ti fun r s6 hpt37 => ?_
      obtain ⟨u, hr, h6⟩ := hpt37
      subst hr
      refine thnF h6 fun _ s7 hpt38 => ?_
      obtain ⟨x, H7, I7, r7, y7, st7, n7⟩ := hpt38
      have I7' := I7.pinned (stat I7 n7) (T.obj _ _ st7)
      refine thnF (pg _ s7 _ H7 x u _ I7' r7 (step x H7 y7)) fun _ s8 hpt39 => ?_
      obtain ⟨σ8, H8, I8, hw8, q8⟩ := hpt39
      refine thnF (pt _ s8 σ8 H8 _ I8 q8) fun b s9 hpt40 => ?_
      obtain ⟨H9, I9, q9⟩ := hpt40
      -- the turn's end
      have fin : ∀ {s' : Shared} {H' : Hp}, Inv (X.blk s3 H3 scope ce fp) ([] ++ pinsAt fp s7.heap) σ8 H' s' → Nx H' → ∃ m, m < n ∧ ∃ i H', Inv (X.blk s3 H3 scope ce fp) [] (wipe σ (own.map (·.2))) H' s' ∧ tn i s'.heap ∧ (∀ b ∈ fp, H' b = none) ∧ W i m H' := fun {s' H'} I' nx => by
        obtain ⟨m', hm, w'⟩ := hNx H' nx
        have pin' : ∀ b ∈ fp, ∀ o, s7.heap.get? b = some o → s'.heap.get? b = some o ∧ H' b = none := fun b hb o e =>
          let z := I'.pin (b, o) (List.mem_append_right _ (List.mem_append_right _ (mem_pinsAt hb e)))
          ⟨z.1, z.2.1⟩
        have hl : (wipe σ (own.map (·.2))).length = σ8.length := by rw [← hw8, wipe_length]
        refine ⟨m', hm, i + 1, H', (I'.unpinned (pins := [])).weak hl (fun j v e => ?_), T.keep _ _ _ st7 fun b hb o e => (pin' b hb o e).1, fun b hb => ?_, w'⟩
        · rw [← hw8] at e
          exact (wipe_some e).1
        · obtain ⟨o, e, _⟩ := T.obj _ _ st7 b hb
          exact (pin' b hb o e).2
      cases b with
      | false =>
        simp only [Bool.false_eq_true, if_false] at q9 ⊢
        exact fin I9 q9
      | true =>
        simp only [if_true] at q9 ⊢
        refine thnF (pe _ s9 σ8 H9 _ I9 q9) fun z s10 hpt41 => ?_
        obtain ⟨yv, H10, I10, r10, acc, hD10, hz10, nx⟩ := hpt41
        exact app_ok (X := X.blk s3 H3 scope ce fp) I10 hD10 hz10 r10 fun s11 I11 => fin I11 nx
  exact codeAny_compStart_list loop (T.self X.A 0 _ _ _ st4 loop)
theorem pe_lc {elt tg iter : Expr} {ifs : List Expr} {scope : Scope} {own : List (Str × Nat)} {pos : Pos} {wi : TI} {g : TG} {tt : TT} {te : TE} (hc : X.calm = true) (hN : X.N.Nodup) (hi : PI X tg iter wi) (ok : BlkOk X.N X.env.scope scope own)
    (hg : ∀ (s : Shared) (H : Hp) (C : Addr) (cl : List (Str × Addr)) (fp : List Addr), PG (X.blk s H scope (compEnvC scope cl C X.env) fp) tg g) (ht : ∀ (s : Shared) (H : Hp) (C : Addr) (cl : List (Str × Addr)) (fp : List Addr), PTs (X.blk s H scope (compEnvC scope cl C X.env) fp) ifs tt)
    (he : ∀ (s : Shared) (H : Hp) (C : Addr) (cl : List (Str × Addr)) (fp : List Addr), PE (X.blk s H scope (compEnvC scope cl C X.env) fp) elt te) (hs : ∀ x, foldedSetIterable iter X.env x = pure x := by intro _; rfl) :
    PE X (.ListComp elt [⟨tg, iter, ifs, 0⟩] scope pos) (tLc wi g tt te (own.map (·.2))) := by
  intro pins s σ H Q I h
  rw [eval_ListComp]
  refine lc_core hc hN I hi ok hg ht he hs h fun D C s' m H' I' q hn f => ⟨m, hn, fun h'' sb => ?_⟩
  obtain ⟨f0, f1, f2, f3, f4, f5⟩ := f
  exact ⟨.ref D, H', I'.turned (t' := s'.toks) (fun b o hb e => (sb.2 b hb).trans e) f0 f1 f3 f4 f5, rfl, q⟩
theorem ps_setLc {i : Nat} {y : Str} {py : Pos} {elt tg iter : Expr} {ifs : List Expr} {scope : Scope} {own : List (Str × Nat)} {pos spos : Pos} {wi : TI} {g : TG} {tt : TT} {te : TE} (hc : X.calm = true) (hN : X.N.Nodup) (hy : X.N[i]? = some y) (hyl : X.env.scope.names.lookup y = some .local)
    (hsw : swapsWith (.ListComp elt [⟨tg, iter, ifs, 0⟩] scope pos) (some (.Name y py)) spos.line X.env = pure true) (hi : PI X tg iter wi) (ok : BlkOk X.N X.env.scope scope own)
    (hg : ∀ (s : Shared) (H : Hp) (C : Addr) (cl : List (Str × Addr)) (fp : List Addr), PG (X.blk s H scope (compEnvC scope cl C X.env) fp) tg g) (ht : ∀ (s : Shared) (H : Hp) (C : Addr) (cl : List (Str × Addr)) (fp : List Addr), PTs (X.blk s H scope (compEnvC scope cl C X.env) fp) ifs tt)
    (he : ∀ (s : Shared) (H : Hp) (C : Addr) (cl : List (Str × Addr)) (fp : List Addr), PE (X.blk s H scope (compEnvC scope cl C X.env) fp) elt te) (hs : ∀ x, foldedSetIterable iter X.env x = pure x := by intro _; rfl) :
    PS X (.Assign [.Name y py] (.ListComp elt [⟨tg, iter, ifs, 0⟩] scope pos) spos) (tAsg (tLc wi g tt te (own.map (·.2))) (gName i)) := by
  intro pins s σ H D I h
  rw [exec_Assign_Name_used _ _ _ _ hsw]
  refine wpAny_bind (wpAny_standAt (wpAny_bind ?_))
  show wpAny _ X.A (do let _ ← comprehension (.ListComp elt [⟨tg, iter, ifs, 0⟩] scope pos) scope X.env (firstIterPos [⟨tg, iter, ifs, 0⟩] pos) (newList []) false (eval iter X.env) (some (assign (.Name y py) X.env))) _ _ s
  have h : tLc wi g tt te (own.map (·.2)) σ H (fun x H1 => gName i x σ H1 D.nx) := h
  refine wpAny_bind (thn (lc_core (Qf := fun _ s' => SP X pins D .next s') hc hN I hi ok hg ht he hs h fun L C s' m H' I' q hn f => ?_) fun _ s' hq => wpAny_pure (wpAny_pure hq))
  show wpAny _ _ (assign (.Name y py) X.env (.ref L)) _ _ _
  refine wpAny_assign_Name (store_ok2 (v := V.ref L) I' hN hy (.inl hyl) rfl (fun s2 I2 ⟨a, sb, ha⟩ => ?_) (.inr hyl))
  obtain ⟨f0, f1, f2, f3, f4, f5⟩ := f
  have haC : C ≠ a := by
    rcases ha with z | z
    · rw [z]; exact f1
    · exact fun e => f4 y a z e.symm
  refine ⟨m, hn.sameBut sb haC, fun h3 sb3 => ?_⟩
  exact ⟨_, H', I2.turned (t' := s2.toks) (fun b o hb e => (sb3.2 b hb).trans e) f0 f1 f3 f4 f5, q⟩
theorem sw_true {elt : Expr} {gs : List Comprehension} {scope : Scope} {pos py : Pos} {y : Str} {l : Nat} {env : Env} (hk : env.scope.kind = .function) (hy : env.scope.names.lookup y = some .local) (hl : (py.line == pos.line) = true)
    (ha : (scope.names.any fun (n, k) => n == y && (k == .local || k == .cell)) = false) : swapsWith (.ListComp elt gs scope pos) (some (.Name y py)) l env = pure true := by
  have ky : env.kindOf y = some .local := hy
  have hb : env.blockKind = .function := by unfold Env.blockKind; rw [hk]; rfl
  unfold swapsWith
  simp only [hb, ky, ha]
  exact congrArg pure (by show ((true && (py.line == pos.line)) && !false) = true; rw [hl]; rfl)
end

theorem lc_range {lo : Int} {n : Nat} {g : TG} {tt : TT} {te : TE} {vs : List Nat} {σ : St} {H1 : Hp} {D : Addr} {Qd : Hp → Prop} (Pv : Nat → Hp → Prop) (h0 : Pv 0 (upd H1 D (.lst [])))
    (hs : ∀ i H, i < n → Pv i H → g (.int (lo + i)) (wipe σ vs) H fun σ2 H2 => wipe σ2 vs = wipe σ vs ∧ tt σ2 H2 fun b H3 =>
      if b = true then te σ2 H3 fun y H4 => ∃ acc, H4 D = some (.lst acc) ∧ acc.length < sizeLine ∧ Pv (i + 1) (upd H4 D (.lst (acc ++ [y]))) else Pv (i + 1) H3) (hd : ∀ H, Pv n H → Qd H) :
    ∃ W : Nat → Nat → Hp → Prop, (∃ m, W 0 m (upd H1 D (.lst []))) ∧ ∀ i m H, W i m H →
      ((Itr lo n).stop i H ∧ Qd H) ∨ ((Itr lo n).go i H ∧ ∃ Nx : Hp → Prop, (∀ H', Nx H' → ∃ m', m' < m ∧ W (i + 1) m' H') ∧ ∀ x H', (Itr lo n).yld i H x H' → g x (wipe σ vs) H' fun σ2 H2 => wipe σ2 vs = wipe σ vs ∧ tt σ2 H2 fun b H3 =>
        if b = true then te σ2 H3 fun y H4 => ∃ acc, H4 D = some (.lst acc) ∧ acc.length < sizeLine ∧ Nx (upd H4 D (.lst (acc ++ [y]))) else Nx H3) := by
  refine ⟨fun i m H => m = n - i ∧ i ≤ n ∧ Pv i H, ⟨n, by simp, Nat.zero_le _, h0⟩, ?_⟩
  rintro i m H ⟨rfl, hi, p⟩
  by_cases hlt : i < n
  · refine .inr ⟨hlt, Pv (i + 1), fun H' p' => ⟨n - (i + 1), by first | lia | omega, rfl, hlt, p'⟩, fun x H' y => ?_⟩
    obtain ⟨e, y⟩ := y
    subst e y
    exact hs i _ hlt p
  · have e : i = n := by first | lia | omega
    subst e
    exact .inl ⟨Nat.le_refl _, hd H p⟩
theorem lc_list {K : PySem.W.Frag} {a : Addr} {xs : List V} {g : TG} {tt : TT} {te : TE} {vs : List Nat} {σ : St} {H1 : Hp} {D : Addr} {Qd : Hp → Prop} (Pv : Nat → Hp → Prop) (h0 : Pv 0 (upd H1 D (.lst []))) (hl : ∀ i H, i ≤ xs.length → Pv i H → SqL K H a xs)
    (hs : ∀ i x H, xs[i]? = some x → Pv i H → g x (wipe σ vs) H fun σ2 H2 => wipe σ2 vs = wipe σ vs ∧ tt σ2 H2 fun b H3 =>
      if b = true then te σ2 H3 fun y H4 => ∃ acc, H4 D = some (.lst acc) ∧ acc.length < sizeLine ∧ Pv (i + 1) (upd H4 D (.lst (acc ++ [y]))) else Pv (i + 1) H3) (hd : ∀ H, Pv xs.length H → Qd H) :
    ∃ W : Nat → Nat → Hp → Prop, (∃ m, W 0 m (upd H1 D (.lst []))) ∧ ∀ i m H, W i m H →
      ((Itl K a).stop i H ∧ Qd H) ∨ ((Itl K a).go i H ∧ ∃ Nx : Hp → Prop, (∀ H', Nx H' → ∃ m', m' < m ∧ W (i + 1) m' H') ∧ ∀ x H', (Itl K a).yld i H x H' → g x (wipe σ vs) H' fun σ2 H2 => wipe σ2 vs = wipe σ vs ∧ tt σ2 H2 fun b H3 =>
        if b = true then te σ2 H3 fun y H4 => ∃ acc, H4 D = some (.lst acc) ∧ acc.length < sizeLine ∧ Nx (upd H4 D (.lst (acc ++ [y]))) else Nx H3) := by
  refine ⟨fun i m H => m = xs.length - i ∧ i ≤ xs.length ∧ Pv i H, ⟨xs.length, by simp, Nat.zero_le _, h0⟩, ?_⟩
  rintro i m H ⟨rfl, hi, p⟩
  have q := hl i H hi p
  by_cases hlt : i < xs.length
  · refine .inr ⟨⟨xs, xs[i], q, by simp [hlt]⟩, Pv (i + 1), fun H' p' => ⟨xs.length - (i + 1), by first | lia | omega, rfl, hlt, p'⟩, fun x H' y => ?_⟩
    obtain ⟨e, y⟩ := y
    subst e
    exact hs i x _ (y xs q) p
  · have e : i = xs.length := by first | lia | omega
    subst e
    exact .inl ⟨⟨xs, q, Nat.le_refl _⟩, hd H p⟩
theorem lc_tup {K : PySem.W.Frag} {a : Addr} {xs : List V} {g : TG} {tt : TT} {te : TE} {vs : List Nat} {σ : St} {H1 : Hp} {D : Addr} {Qd : Hp → Prop} (Pv : Nat → Hp → Prop) (h0 : Pv 0 (upd H1 D (.lst []))) (hl : ∀ i H, i ≤ xs.length → Pv i H → SqT K H a xs)
    (hs : ∀ i x H, xs[i]? = some x → Pv i H → g x (wipe σ vs) H fun σ2 H2 => wipe σ2 vs = wipe σ vs ∧ tt σ2 H2 fun b H3 =>
      if b = true then te σ2 H3 fun y H4 => ∃ acc, H4 D = some (.lst acc) ∧ acc.length < sizeLine ∧ Pv (i + 1) (upd H4 D (.lst (acc ++ [y]))) else Pv (i + 1) H3) (hd : ∀ H, Pv xs.length H → Qd H) :
    ∃ W : Nat → Nat → Hp → Prop, (∃ m, W 0 m (upd H1 D (.lst []))) ∧ ∀ i m H, W i m H →
      ((Itt K a).stop i H ∧ Qd H) ∨ ((Itt K a).go i H ∧ ∃ Nx : Hp → Prop, (∀ H', Nx H' → ∃ m', m' < m ∧ W (i + 1) m' H') ∧ ∀ x H', (Itt K a).yld i H x H' → g x (wipe σ vs) H' fun σ2 H2 => wipe σ2 vs = wipe σ vs ∧ tt σ2 H2 fun b H3 =>
        if b = true then te σ2 H3 fun y H4 => ∃ acc, H4 D = some (.lst acc) ∧ acc.length < sizeLine ∧ Nx (upd H4 D (.lst (acc ++ [y]))) else Nx H3) := by
  refine ⟨fun i m H => m = xs.length - i ∧ i ≤ xs.length ∧ Pv i H, ⟨xs.length, by simp, Nat.zero_le _, h0⟩, ?_⟩
  rintro i m H ⟨rfl, hi, p⟩
  have q := hl i H hi p
  by_cases hlt : i < xs.length
  · refine .inr ⟨⟨xs, xs[i], q, by simp [hlt]⟩, Pv (i + 1), fun H' p' => ⟨xs.length - (i + 1), by first | lia | omega, rfl, hlt, p'⟩, fun x H' y => ?_⟩
    obtain ⟨e, y⟩ := y
    subst e
    exact hs i x _ (y xs q) p
  · have e : i = xs.length := by first | lia | omega
    subst e
    exact .inl ⟨⟨xs, q, Nat.le_refl _⟩, hd H p⟩
noncomputable def blkC (N : List Str) (sc scope : Scope) (own : List (Str × Nat)) : Bool :=
  (match scope.kind with | .function => true | _ => false) && (scope.names.all fun y => decide (scope.names.lookup y.1 = some y.2)) && (own.all fun p => decide (N[p.2]? = some p.1)) &&
    (scope.names.all fun y => match y.2 with
      | .free => (match sc.names.lookup y.1 with | some .cell => true | some .free => true | _ => false)
      | .local => decide (y.1 ∈ own.map (·.1)) || decide (y.1 ∉ N)
      | .cell => decide (y.1 ∈ own.map (·.1)) || decide (y.1 ∉ N)
      | _ => true)
theorem blkOk_by {N : List Str} {sc scope : Scope} {own : List (Str × Nat)} (h : blkC N sc scope own = true) : BlkOk N sc scope own := by
  unfold blkC at h
  simp only [Bool.and_eq_true, List.all_eq_true, decide_eq_true_eq] at h
  obtain ⟨⟨⟨h1, h2⟩, h3⟩, h4⟩ := h
  refine ⟨?_, h2, h3, fun y hy e => ?_, fun y hy e => ?_⟩
  · split at h1
    · assumption
    · cases h1
  · have q := h4 y hy
    simp only [e] at q
    split at q <;> first | exact .inl (by assumption) | exact .inr (by assumption) | cases q
  · have q := h4 y hy
    rcases e with e | e <;> (simp only [e, Bool.or_eq_true, decide_eq_true_eq] at q; exact q)
end L2

namespace L2
open PySem PySem.Spec PyProof.Rows

section
variable {prog : Program} {w : World} {A : Around} {R : Result → Shared → Prop} {s : Shared} {elt t0 i0 t1 i1 : Expr} {ifs0 ifs1 : List Expr} {scope : Scope} {pos : Pos} {it acc : Value} {env : Env}
end

section
variable {X : Cx}
end
end L2

namespace L2
open PySem PySem.Spec PyProof.Rows

section
variable {κ : Type} [DecidableEq κ]
noncomputable def valV (kvs : List (κ × V)) (k : κ) : Option V := (kvs.find? fun kv => decide (kv.1 = k)).map (·.2)
noncomputable def putK (kvs : List (κ × V)) (k : κ) (v : V) : List (κ × V) :=
  if (kvs.any fun kv => decide (kv.1 = k)) = true then kvs.map (fun kv => if kv.1 = k then (kv.1, v) else kv) else kvs ++ [(k, v)]
theorem valV_pos {p : κ × V} {r : List (κ × V)} {k : κ} (e : p.1 = k) : valV (p :: r) k = some p.2 := by simp [valV, List.find?_cons, e]
theorem valV_neg {p : κ × V} {r : List (κ × V)} {k : κ} (e : ¬ p.1 = k) : valV (p :: r) k = valV r k := by simp [valV, List.find?_cons, e]
theorem valV_any (k : κ) : ∀ kvs : List (κ × V), (kvs.any fun kv => decide (kv.1 = k)) = (valV kvs k).isSome
  | [] => rfl
  | p :: r => by
    rw [List.any_cons]
    by_cases e : p.1 = k
    · simp only [valV_pos e, decide_eq_true e, Bool.true_or, Option.isSome_some]
    · rw [valV_neg e, decide_eq_false e, Bool.false_or]; exact valV_any k r
theorem length_putK (kvs : List (κ × V)) (k : κ) (v : V) : (putK kvs k v).length ≤ kvs.length + 1 := by
  unfold putK
  split
  · rw [List.length_map]; first | lia | omega
  · rw [List.length_append, List.length_cons, List.length_nil]; first | lia | omega
theorem putK_new {kvs : List (κ × V)} {k : κ} (v : V) (h : valV kvs k = none) : putK kvs k v = kvs ++ [(k, v)] := by
  unfold putK
  rw [valV_any, h]
  exact if_neg (by decide)

theorem RelO.isSome_eq {o : Option V} {u : Option Value} (r : RelO o u) : o.isSome = u.isSome := by
  cases o with
  | none => cases u with
    | none => rfl
    | some _ => exact (show False from r).elim
  | some _ => cases u with
    | none => exact (show False from r).elim
    | some _ => rfl
theorem KV.val {kvs : List (κ × V)} {vs : List (κ × Value)} (r : KV kvs vs) (k : κ) : RelO (valV kvs k) (valueAt vs k) := by
  unfold KV at r
  induction r with
  | nil => exact True.intro
  | @cons p q ps qs h t ih =>
    obtain ⟨h1, h2⟩ := h
    by_cases e : p.1 = k
    · have e' : q.1 = k := h1.symm.trans e
      have b : valueAt (q :: qs) k = some q.2 := by simp [valueAt, List.find?_cons, e']
      rw [valV_pos e, b]; exact h2
    · have e' : ¬ q.1 = k := fun z => e (h1.trans z)
      have b : valueAt (q :: qs) k = valueAt qs k := by simp [valueAt, List.find?_cons, e']
      rw [valV_neg e, b]; exact ih
theorem KV.any {kvs : List (κ × V)} {vs : List (κ × Value)} (r : KV kvs vs) (k : κ) : (kvs.any fun kv => decide (kv.1 = k)) = vs.any fun kv => decide (kv.1 = k) := by
  unfold KV at r
  induction r with
  | nil => rfl
  | cons h t ih => rw [List.any_cons, List.any_cons, ih, h.1]
theorem KV.repl {kvs : List (κ × V)} {vs : List (κ × Value)} (r : KV kvs vs) (k : κ) {y : V} {u : Value} (ry : RelV y u) :
    KV (kvs.map fun kv => if kv.1 = k then (kv.1, y) else kv) (vs.map fun kv => if kv.1 = k then (kv.1, u) else kv) := by
  unfold KV at r ⊢
  induction r with
  | nil => exact .nil
  | @cons p q ps qs h t ih =>
    rw [List.map_cons, List.map_cons]
    refine .cons ?_ ih
    obtain ⟨h1, h2⟩ := h
    by_cases e : p.1 = k
    · rw [if_pos e, if_pos (h1.symm.trans e)]; exact ⟨h1, ry⟩
    · rw [if_neg e, if_neg (fun z => e (h1.trans z))]; exact ⟨h1, h2⟩
theorem KV.put {kvs : List (κ × V)} {vs : List (κ × Value)} (r : KV kvs vs) (k : κ) {y : V} {u : Value} (ry : RelV y u) : KV (putK kvs k y) (stored vs k u) := by
  unfold putK stored
  rw [r.any k]
  by_cases e : (vs.any fun kv => decide (kv.1 = k)) = true
  · rw [if_pos e, if_pos e]; exact r.repl k ry
  · rw [if_neg e, if_neg e]; exact Paired.snoc r ⟨rfl, ry⟩
theorem KV.length {kvs : List (κ × V)} {vs : List (κ × Value)} (r : KV kvs vs) : kvs.length = vs.length := Paired.length r
end


theorem kV_is {P : Program} {w : World} {k : Key} {u : Value} (r : RelV (kV k) u) : (mixKind P w).is k u = true := by
  cases k with
  | inl i => obtain ⟨t, e⟩ := (show ∃ t, u = Value.int i t from r); subst e; exact mixKind_int P w i t
  | inr x => obtain ⟨t, e⟩ := (show ∃ t, u = Value.str x t from r); subst e; exact mixKind_str P w x t
theorem kV_inj {a b : Key} (e : kV a = kV b) : a = b := by
  cases a with
  | inl i => cases b with
    | inl j => have e' : V.int i = V.int j := e; injection e' with e'; rw [e']
    | inr y => exact nomatch (show V.int i = V.str y from e)
  | inr x => cases b with
    | inl j => exact nomatch (show V.str x = V.int j from e)
    | inr y => have e' : V.str x = V.str y := e; injection e' with e'; rw [e']
theorem kVs_inj : ∀ {a b : List Key}, a.map kV = b.map kV → a = b
  | [], [], _ => rfl
  | [], _ :: _, e => by simp at e
  | _ :: _, [], e => by simp at e
  | x :: xs, y :: ys, e => by
    rw [List.map_cons, List.map_cons] at e
    injection e with e1 e2
    rw [kV_inj e1, kVs_inj e2]
theorem items_are {P : Program} {w : World} : ∀ {ks : List Key} {us : List Value}, Vals (ks.map kV) us → ItemsAre (mixKind P w) ks us
  | [], _, r => by rw [List.map_nil] at r; cases r; exact .nil
  | k :: ks, _, r => by
    rw [List.map_cons] at r
    cases r with
    | cons h t => exact .cons (kV_is h) (items_are t)

noncomputable abbrev KT (H : Hp) : List (List Key × V) → List (List Key × Addr × Value) → Prop := Paired fun p q => p.1 = q.1 ∧ H q.2.1 = some (.tup (p.1.map kV)) ∧ RelV p.2 q.2.2
theorem KT.val {H : Hp} {kvs : List (List Key × V)} {xs : List (List Key × Addr × Value)} (r : KT H kvs xs) (k : List Key) : RelO (valV kvs k) ((atKey xs k).map (·.2)) := by
  induction r with
  | nil => exact True.intro
  | @cons p q ps qs h t ih =>
    obtain ⟨h1, _, h2⟩ := h
    by_cases e : p.1 = k
    · have e' : q.1 = k := h1.symm.trans e
      have b : atKey (q :: qs) k = some q.2 := by simp [atKey, List.find?_cons, e']
      rw [valV_pos e, b]; exact h2
    · have e' : ¬ q.1 = k := fun z => e (h1.trans z)
      have b : atKey (q :: qs) k = atKey qs k := by simp [atKey, List.find?_cons, e']
      rw [valV_neg e, b]; exact ih
theorem KT.repl {H : Hp} {kvs : List (List Key × V)} {xs : List (List Key × Addr × Value)} (r : KT H kvs xs) (k : List Key) {y : V} {u : Value} (ry : RelV y u) :
    KT H (kvs.map fun kv => if kv.1 = k then (kv.1, y) else kv) (xs.map (putAt k u)) := by
  induction r with
  | nil => exact .nil
  | @cons p q ps qs h t ih =>
    rw [List.map_cons, List.map_cons]
    refine .cons ?_ ih
    obtain ⟨h1, h2, h3⟩ := h
    unfold putAt
    by_cases e : p.1 = k
    · rw [if_pos e, if_pos (h1.symm.trans e)]; exact ⟨h1, h2, ry⟩
    · rw [if_neg e, if_neg (fun z => e (h1.trans z))]; exact ⟨h1, h2, h3⟩
theorem KT.put {H : Hp} {kvs : List (List Key × V)} {xs : List (List Key × Addr × Value)} (r : KT H kvs xs) (k : List Key) {b : Addr} {y : V} {u : Value} (hb : H b = some (.tup (k.map kV))) (ry : RelV y u) :
    KT H (putK kvs k y) (storedH xs k b u) := by
  have e : (kvs.any fun kv => decide (kv.1 = k)) = (atKey xs k).isSome := by
    rw [valV_any, (r.val k).isSome_eq, Option.isSome_map]
  unfold putK storedH
  rw [e]
  by_cases q : (atKey xs k).isSome = true
  · rw [if_pos q, if_pos q]; exact r.repl k ry
  · rw [if_neg q, if_neg q]; exact Paired.snoc r ⟨rfl, hb, ry⟩
theorem KT.keeps {H H' : Hp} {kvs : List (List Key × V)} {xs : List (List Key × Addr × Value)} (r : KT H kvs xs) (ht : ∀ b ys, H b = some (.tup ys) → H' b = some (.tup ys)) : KT H' kvs xs :=
  Paired.mapP r fun _ _ z => ⟨z.1, ht _ _ z.2.1, z.2.2⟩

section
variable {P : Program} {w : World} {H : Hp} {h : Heap} {a : Addr}
theorem rd_of {u : HO} (ok : HOk P w H h) (e : Rd H a u) : ObjOk P w H h a u := e.ok ok
theorem dk_rd {kvs : List (Key × V)} (ok : HOk P w H h) (e : Rd H a (.dK kvs)) : kvs.length ≤ sizeLine ∧ (a == sysModules) = false ∧ ∃ vs, KV kvs vs ∧ h.DictOf (mixKind P w) a vs :=
  show ObjOk P w H h a (.dK kvs) from rd_of ok e
theorem dk_of {kvs : List (Key × V)} (ok : HOk P w H h) (e : H a = some (.dK kvs)) : kvs.length ≤ sizeLine ∧ (a == sysModules) = false ∧ ∃ vs, KV kvs vs ∧ h.DictOf (mixKind P w) a vs := dk_rd ok (.inl e)
theorem key_of {ks : List Key} (ok : HOk P w H h) (e : H a = some (.tup (ks.map kV))) : (tupleKind (mixKind P w)).is h ks a := by
  obtain ⟨_, its, r, o, h1, h2, n, h3⟩ := (show ObjOk P w H h a (.tup (ks.map kV)) from ok a _ e)
  exact ⟨o, its.toArray, n, h1, h2, h3, by simpa using items_are r⟩
theorem dt_rd {kvs : List (List Key × V)} (ok : HOk P w H h) (e : Rd H a (.dT kvs)) : kvs.length ≤ sizeLine ∧ (a == sysModules) = false ∧
    ∃ xs, KT H kvs xs ∧ h.DictOfH (tupleKind (mixKind P w)) a xs := by
  obtain ⟨z, y, xs, r, o, es, ep, h1, h2, h3, h4, h5⟩ := (show ObjOk P w H h a (.dT kvs) from rd_of ok e)
  refine ⟨z, y, xs, r, o, es, ep, h1, h2, h3, h4, fun x hx => ?_, h5⟩
  have all : ∀ {l : List (List Key × V)} {m : List (List Key × Addr × Value)}, KT H l m → ∀ x ∈ m, (tupleKind (mixKind P w)).is h x.1 x.2.1 := by
    intro l m q
    induction q with
    | nil => intro x hx; exact nomatch hx
    | @cons p q ps qs hq t ih =>
      intro x hx
      rcases List.mem_cons.mp hx with e | hx
      · subst e
        exact key_of ok (by rw [← hq.1]; exact hq.2.1)
      · exact ih x hx
  exact all r x hx
theorem dt_of {kvs : List (List Key × V)} (ok : HOk P w H h) (e : H a = some (.dT kvs)) : kvs.length ≤ sizeLine ∧ (a == sysModules) = false ∧
    ∃ xs, KT H kvs xs ∧ h.DictOfH (tupleKind (mixKind P w)) a xs := dt_rd ok (.inl e)
end

noncomputable def DGet (H : Hp) (a : Addr) (y : V) (r : Option V) : Prop :=
  (∃ kvs k, Rd H a (.dK kvs) ∧ y = kV k ∧ r = valV kvs k) ∨ ∃ kvs k b, Rd H a (.dT kvs) ∧ y = .ref b ∧ H b = some (.tup (k.map kV)) ∧ r = valV kvs k
noncomputable def DPut (H : Hp) (a : Addr) (y v : V) (H' : Hp) : Prop :=
  (∃ kvs k, H a = some (.dK kvs) ∧ y = kV k ∧ kvs.length < sizeLine ∧ H' = upd H a (.dK (putK kvs k v))) ∨
  ∃ kvs k b, H a = some (.dT kvs) ∧ y = .ref b ∧ H b = some (.tup (k.map kV)) ∧ kvs.length < sizeLine ∧ H' = upd H a (.dT (putK kvs k v))
theorem DGet.t {H : Hp} {a b : Addr} {kvs : List (List Key × V)} {k : List Key} (e : H a = some (.dT kvs)) (eb : H b = some (.tup (k.map kV))) : DGet H a (.ref b) (valV kvs k) := .inr ⟨kvs, k, b, .inl e, rfl, eb, rfl⟩
theorem DPut.t {H : Hp} {a b : Addr} {kvs : List (List Key × V)} {k : List Key} {v : V} (e : H a = some (.dT kvs)) (eb : H b = some (.tup (k.map kV))) (hl : kvs.length < sizeLine) :
    DPut H a (.ref b) v (upd H a (.dT (putK kvs k v))) := .inr ⟨kvs, k, b, e, rfl, eb, hl, rfl⟩


section
variable {X : Cx} {pins : List (Addr × Obj)} {σ : St} {H : Hp} {s : Shared} {a : Addr} {y v : V} {u r : Value} {o : Option V} {A : Around} {E : Value → Shared → Prop}

theorem Inv.big (I : Inv X pins σ H s) : sysModules < s.heap.objs.size := by
  have h : mainGlobals < s.heap.objs.size := (I.mod.glob.keeps I.bk).lt
  exact Nat.lt_trans (by decide) h

theorem d_getItem {Q : Value → Shared → Prop} (hu : A.units + 1 < cLine) (I : Inv X pins σ H s) (g : DGet H a y (some v)) (ry : RelV y u) (h : ∀ w' s', Inv X pins σ H s' → RelV v w' → Q w' s') :
    wpAny (model X.prog X.w) A (getItem (.ref a) u) Q E s := by
  rcases g with ⟨kvs, k, e, ey, l⟩ | ⟨kvs, k, b, e, ey, eb, l⟩
  · subst ey
    obtain ⟨z, hd, vs, rel, dd⟩ := dk_rd I.hok e
    obtain ⟨w', hw, rw'⟩ := RelO.some_of (v := v) (o := valueAt vs k) (by rw [l]; exact rel.val k)
    exact wpAny_getItem_of (kV_is ry) dd.mapOf hw (h w' _ (I.tok _) rw')
  · subst ey
    cases (show u = Value.ref b from ry)
    obtain ⟨z, hd, xs, rel, dd⟩ := dt_rd I.hok e
    obtain ⟨w', hw, rw'⟩ := RelO.some_of (v := v) (o := (atKey xs k).map (·.2)) (by rw [l]; exact rel.val k)
    obtain ⟨p, hp, hp2⟩ := Option.map_eq_some_iff.mp hw
    refine wpAny_getItem_heap (tupleKind_room_in1 hu) (key_of I.hok eb) dd hp ?_
    rw [hp2]
    exact h w' _ (I.tok _) rw'
theorem d_notIn {Q : Value → Shared → Prop} (hu : A.units + 1 < cLine) (I : Inv X pins σ H s) (g : DGet H a y o) (ry : RelV y u) (h : ∀ s', Inv X pins σ H s' → Q (.bool (!o.isSome)) s') :
    wpAny (model X.prog X.w) A (compareOp .NotIn u (.ref a)) Q E s := by
  rcases g with ⟨kvs, k, e, ey, l⟩ | ⟨kvs, k, b, e, ey, eb, l⟩
  · subst ey
    obtain ⟨z, hd, vs, rel, dd⟩ := dk_rd I.hok e
    refine wpAny_notIn_of (kV_is ry) hd dd.mapOf ?_
    rw [← (rel.val k).isSome_eq, ← l]
    exact h _ (I.tok _)
  · subst ey
    cases (show u = Value.ref b from ry)
    obtain ⟨z, hd, xs, rel, dd⟩ := dt_rd I.hok e
    refine wpAny_notIn_heap (tupleKind_room_in1 hu) (key_of I.hok eb) hd dd ?_
    have q := (rel.val k).isSome_eq
    rw [Option.isSome_map] at q
    rw [← q, ← l]
    exact h _ (I.tok _)
theorem d_write {h' : Heap} {t' : Nat} {ob : HO} (I : Inv X pins σ H s) (mu : Mut (H a)) (hs : Heap.SameBut a s.heap h') (he : ∃ q, h'.get? a = some q) (new : ObjOk X.prog X.w (upd H a ob) h' a ob) :
    Inv X pins σ (upd H a ob) { s with heap := h', toks := t' } :=
  I.write (x := a) (e := a) mu (.inl rfl) (fun b q hb z => (hs.2 b hb).trans z) he new
theorem dk_new {P : Program} {w : World} {H' : Hp} {h' : Heap} {kvs : List (Key × V)} {vs : List (Key × Value)} (z : kvs.length ≤ sizeLine) (hd : (a == sysModules) = false) (rel : KV kvs vs) (dd : h'.DictOf (mixKind P w) a vs) :
    ObjOk P w H' h' a (.dK kvs) := ⟨z, hd, vs, rel, dd⟩
theorem d_setItem {H' : Hp} {Q : Unit → Shared → Prop} (hu : A.units + 1 < cLine) (I : Inv X pins σ H s) (g : DPut H a y v H') (ry : RelV y u) (rv : RelV v r) (h : ∀ s', Inv X pins σ H' s' → Q () s') :
    wpAny (model X.prog X.w) A (setItem (.ref a) u r) Q E s := by
  rcases g with ⟨kvs, k, e, ey, l, eH⟩ | ⟨kvs, k, b, e, ey, eb, l, eH⟩
  · subst ey eH
    obtain ⟨z, hd, vs, rel, dd⟩ := dk_of I.hok e
    have hz : vs.length ≤ sizeLine := by rw [← rel.length]; exact z
    have hl : (putK kvs k v).length ≤ sizeLine := by have := length_putK kvs k v; first | lia | omega
    refine wpAny_setItem_pairs (hsz := hz) (kV_is ry) dd fun h' dd' hs => h _ ?_
    have he : ∃ q, h'.get? a = some q := let ⟨q, _, _, hq, _⟩ := dd'; ⟨q, hq⟩
    exact d_write I (by rw [e]; exact True.intro) hs he (dk_new hl hd (rel.put k rv) dd')
  · subst ey eH
    cases (show u = Value.ref b from ry)
    obtain ⟨z, hd, xs, rel, dd⟩ := dt_of I.hok e
    have hz : xs.length ≤ sizeLine := by rw [← Paired.length rel]; exact z
    have hl : (putK kvs k v).length ≤ sizeLine := by have := length_putK kvs k v; first | lia | omega
    refine wpAny_setItem_heap (hsz := hz) (tupleKind_room_in1 hu) (key_of I.hok eb) dd fun h' dd' hs => h _ ?_
    obtain ⟨q, es, ep, hq, h2, h3, h4, _, h5⟩ := dd'
    refine d_write I (by rw [e]; exact True.intro) hs ⟨q, hq⟩ ⟨hl, hd, _, (rel.put k eb rv).keeps fun c ys ec => ?_, q, es, ep, hq, h2, h3, h4, h5⟩
    rw [upd_ne (ne_of ec e (fun z => nomatch z))]
    exact ec
end

section
variable {X : Cx} {pins : List (Addr × Obj)} {σ : St} {H : Hp} {s : Shared} {a : Addr} {kvs : List (Key × V)} {k : Key} {u : Value} {A : Around} {E : Value → Shared → Prop}
end


noncomputable def NoSl (i : Expr) : Prop := ∀ ov iv, subscripted i false ov iv = operate [ov, iv] (getItem ov iv)
theorem subD_of {prog : Program} {w : World} {A : Around} {E : Value → Shared → Prop} {s : Shared} {env : Env} {value slice : Expr} {pos : Pos} {T id : String} {Q : Value → Shared → Prop}
    (hl : typeLookup (.type T) "__getitem__" = pure (some (.builtin id))) (hs : NoSl slice)
    (h : wpAny (model prog w) A (eval value env) (fun o s₁ => wpAny (model prog w) A (eval slice env) (fun i s₂ => s₂.TypeIs o T ∧ wpAny (model prog w) A (getItem o i) Q E s₂) E s₁) E s) :
    wpAny (model prog w) A (eval (.Subscript value slice pos) env) Q E s := by
  refine Subscript_ (wpAny_mono h (fun o s₁ h₁ => wpAny_mono h₁ (fun i s₂ h₂ => ?_) fun _ _ x => x) fun _ _ x => x)
  obtain ⟨hT, h₂⟩ := h₂
  unfold subscriptTail
  refine wpAny_bind ?_
  rw [getitemInPython_of_ne hT.not_modules]
  refine wpAny_bind (wpAny_specialOf hT hl ?_)
  have fin : wpAny (model prog w) A (subscripted slice false o i) (fun r s₃ => wpAny (model prog w) A (letTemporaryGo value o r >>= fun _ => pure r) Q E s₃) E s₂ := by
    rw [hs o i]
    exact wpAny_operating (wpAny_mono h₂ (fun r s₃ h₃ => wpAny_bind (wpAny_letTemporaryGo (wpAny_pure h₃))) fun _ _ x => x)
  first
    | exact wpAny_pure (wpAny_bind fin)
    | exact wpAny_bind (wpAny_pure (wpAny_bind fin))
    | exact wpAny_bind fin

theorem dict_typeIs {X : Cx} {pins : List (Addr × Obj)} {σ : St} {H : Hp} {s : Shared} {a : Addr} {y : V} {o : Option V} (I : Inv X pins σ H s) (g : DGet H a y o) : s.TypeIs (.ref a) "dict" := by
  rcases g with ⟨kvs, k, e, _, _⟩ | ⟨kvs, k, b, e, _, _, _⟩
  · obtain ⟨_, _, vs, _, dd⟩ := dk_rd I.hok e
    exact dd.typeIs
  · obtain ⟨_, _, xs, _, dd⟩ := dt_rd I.hok e
    exact dd.typeIs
noncomputable def tDGet (td ty : TE) : TE := fun σ H Q => td σ H fun x H1 => ty σ H1 fun y H2 => ∃ a v, x = .ref a ∧ DGet H2 a y (some v) ∧ Q v H2
noncomputable def tDNotIn (ty td : TE) : TE := fun σ H Q => ty σ H fun y H1 => td σ H1 fun x H2 => ∃ a o, x = .ref a ∧ DGet H2 a y o ∧ Q (.bl (!o.isSome)) H2
noncomputable def sDPut (td ty tv : TE) : TS := fun D σ H => tv σ H fun v H1 => td σ H1 fun x H2 => ty σ H2 fun y H3 => ∃ a H4, x = .ref a ∧ DPut H3 a y v H4 ∧ D.nx σ H4
section
variable {X : Cx} {o i e value : Expr} {pos pos' tpos : Pos} {td ty tv : TE}
theorem pe_dget (hu : X.A.units + 1 < cLine) (ho : PE X o td) (hi : PE X i ty) (hs : NoSl i) : PE X (.Subscript o i pos) (tDGet td ty) := by
  intro pins s σ H Q I h
  refine subD_of PySem.F.slot_dict_getitem.lookup hs (thn (ho pins s σ H _ I h) fun u s1 hpt42 => ?_)
  obtain ⟨x, H1, I1, rx, q1⟩ := hpt42
  refine thn (hi pins s1 σ H1 _ I1 q1) fun iv s2 hpt43 => ?_
  obtain ⟨y, H2, I2, ry, a, v, ex, g, q2⟩ := hpt43
  subst ex
  obtain rfl : u = Value.ref a := rx
  exact ⟨dict_typeIs I2 g, d_getItem hu I2 g ry fun w' s3 I3 rw' => ⟨v, H2, I3, rw', q2⟩⟩
theorem pc_dnotin (hu : X.A.units + 1 < cLine) (hi : PE X i ty) (ho : PE X o td) : PC X .NotIn i o (tDNotIn ty td) := by
  intro pins s σ H Q I h
  refine thn (hi pins s σ H _ I h) fun iv s1 hpt44 => ?_
  obtain ⟨y, H1, I1, ry, q1⟩ := hpt44
  refine thn (ho pins s1 σ H1 _ I1 q1) fun u s2 hpt45 => ?_
  obtain ⟨x, H2, I2, rx, a, ov, ex, g, q2⟩ := hpt45
  subst ex
  obtain rfl : u = Value.ref a := rx
  exact d_notIn hu I2 g ry fun s3 I3 => ⟨.bl (!ov.isSome), H2, I3, rfl, q2⟩
theorem ps_dput (hu : X.A.units + 1 < cLine) (ho : PE X o td) (hi : PE X i ty) (hv : PE X value tv) (hs : swapsWith value (some (.Subscript o i pos')) pos.line X.env = pure false) :
    PS X (.Assign [.Subscript o i pos'] value pos) (sDPut td ty tv) := by
  intro pins s σ H D I h
  refine wpAny_Assign_Subscript (thn (hv pins s σ H _ I h) fun r s1 ⟨v, H1, I1, rv, q1⟩ => thn (ho pins s1 σ H1 _ I1 q1) fun u s2 ⟨x, H2, I2, rx, q2⟩ => thn (hi pins s2 σ H2 _ I2 q2) fun iv s3 ⟨y, H3, I3, ry, a, H4, ex, g, q3⟩ => ?_) hs
  subst ex
  obtain rfl : u = Value.ref a := rx
  exact d_setItem hu I3 g ry rv fun s4 I4 => ⟨σ, H4, I4, q3⟩
end


theorem dt_empty {P : Program} {w : World} {H : Hp} (h : Heap) (hb : sysModules < h.objs.size) : ObjOk P w H (h.push { cls := .type "dict", data := .dict #[] }) h.objs.size (.dT []) :=
  ⟨Nat.zero_le _, beq_eq_false_iff_ne.mpr (Ne.symm (Nat.ne_of_lt hb)), [], .nil, _, #[], 0, Heap.get?_push_size _ rfl, ⟨rfl, rfl, rfl⟩, rfl, rfl, List.nodup_nil⟩
section
variable {X : Cx} {pos : Pos}
end

noncomputable def tPairs : List (TE × TE) → St → Hp → (List (V × V) → Hp → Prop) → Prop
  | [], _, H, Q => Q [] H
  | (tk, tv) :: r, σ, H, Q => tk σ H fun x H1 => tv σ H1 fun y H2 => tPairs r σ H2 fun ps H3 => Q ((x, y) :: ps) H3
noncomputable abbrev VV : List (V × V) → List (Value × Value) → Prop := Paired fun p q => RelV p.1 q.1 ∧ RelV p.2 q.2
noncomputable def PPs (X : Cx) (pos : Pos) (keys : List (Option Expr)) (values : List Expr) (trs : List (TE × TE)) : Prop :=
  ∀ (pins : List (Addr × Obj)) (s : Shared) (σ : St) (H : Hp) (Q : List (V × V) → Hp → Prop), Inv X pins σ H s → tPairs trs σ H Q →
    wpAny (model X.prog X.w) X.A (evalPairs (pairTrees keys values X.env pos)) (fun vs s' => ∃ ps H', Inv X pins σ H' s' ∧ VV ps vs ∧ Q ps H') X.xe s
theorem pps_nil {X : Cx} {pos : Pos} : PPs X pos [] [] [] := fun pins s σ H Q I h => pairTrees_nil_walk ⟨[], H, I, .nil, h⟩
theorem pps_cons {X : Cx} {pos : Pos} {k v : Expr} {ks : List (Option Expr)} {vs : List Expr} {tk tv : TE} {trs : List (TE × TE)} (hk : PE X k tk) (hv : PE X v tv) (hr : PPs X pos ks vs trs) :
    PPs X pos (some k :: ks) (v :: vs) ((tk, tv) :: trs) := fun pins s σ H Q I h =>
  pairTrees_cons_walk (thn (hk pins s σ H _ I h) fun u s1 ⟨x, H1, I1, rx, q1⟩ => thn (hv pins s1 σ H1 _ I1 q1) fun w2 s2 ⟨y, H2, I2, ry, q2⟩ =>
    thn (hr pins s2 σ H2 _ I2 q2) fun ws s3 ⟨ps, H3, I3, rel, q3⟩ => ⟨(x, y) :: ps, H3, I3, .cons ⟨rx, ry⟩ rel, q3⟩)

section
variable {X : Cx} {pins : List (Addr × Obj)} {σ : St} {H : Hp} {s : Shared} {a : Addr} {y d : V} {u r : Value} {o : Option V} {A : Around} {E : Value → Shared → Prop}
end

section
variable {X : Cx} {o e f : Expr} {apos cpos : Pos} {td ty tx : TE}
end

section
variable {X : Cx} {pins : List (Addr × Obj)} {σ : St} {H : Hp} {s : Shared} {a : Addr} {kvs : List (Key × V)} {A : Around} {E : Value → Shared → Prop}
end


section
variable {X : Cx} {pins : List (Addr × Obj)} {σ : St} {H : Hp} {s : Shared} {a : Addr} {y : V} {u : Value} {A : Around} {E : Value → Shared → Prop}
end
end L2

namespace L2
open PySem PySem.Spec PyProof.Rows

section
variable {prog : Program} {w : World} {A : Around} {E : Value → Shared → Prop}
end

section
variable {X : Cx}
end
end L2

namespace L2
open PySem PySem.Spec PyProof.Rows

section
variable {X : Cx} {pins : List (Addr × Obj)} {σ : St} {H : Hp} {s : Shared} {h' : Heap}
theorem Inv.lock {d : Addr} {u : HO} (I : Inv X pins σ H s) (h : H d = some u) (mu : Mut (some u)) : ∃ od, Inv X pins σ (upd H d (.frz od u)) s := by
  have x := I.hok d u h
  have ex : ∃ od, s.heap.get? d = some od := by
    cases u with
    | lst xs => obtain ⟨_, _, _, _, e⟩ := x; exact ⟨_, e⟩
    | dK kvs => obtain ⟨_, _, _, _, o, _, _, e, _⟩ := x; exact ⟨o, e⟩
    | dT kvs => obtain ⟨_, _, _, _, o, _, _, e, _⟩ := x; exact ⟨o, e⟩
    | set S n => obtain ⟨o, _, _, _, e, _⟩ := x; exact ⟨o, e⟩
    | ins C dx fs => obtain ⟨_, _, _, e, _⟩ := x; exact ⟨_, e⟩
    | ext φ => obtain ⟨_, ⟨_, e⟩, _⟩ := x; exact ⟨_, e⟩
    | _ => exact False.elim mu
  obtain ⟨od, e⟩ := ex
  have new : ObjOk X.prog X.w (upd H d (.frz od u)) s.heap d (.frz od u) := by
    refine ⟨e, x.stay (fun b v _ q => q) (fun b q => ?_) fun b xs q => ?_⟩
    · rw [upd_ne (fun z => by rw [z, h] at q; cases q; exact mu)]; exact q
    · rw [upd_ne (fun z => by rw [z, h] at q; cases q; exact mu)]; exact q
  exact ⟨od, I.write (x := d) (e := d) (t' := s.toks) (h' := s.heap) (by rw [h]; exact mu) (.inl rfl) (fun b v _ q => q) ⟨od, e⟩ new⟩
theorem Inv.nofrz {d : Addr} {u : HO} (I : Inv X pins σ H s) (h : H d = some u) (mu : Mut (some u)) : ∀ o' u', X.H_0 d ≠ some (.frz o' u') := fun o' u' e => by
  have q := I.base.frzs d o' u' e
  rw [h] at q
  cases q
  exact mu
theorem Inv.unlock {d : Addr} {od : Obj} {u : HO} (I : Inv X pins σ H s) (h : H d = some (.frz od u)) (hn : ∀ o' u', X.H_0 d ≠ some (.frz o' u')) : Inv X pins σ (upd H d u) s := by
  have neH : ∀ b o, H b = some o → (∀ o' u', o ≠ .frz o' u') → b ≠ d := fun b o e hne z => by
    rw [z, h] at e
    cases e
    exact hne _ _ rfl
  have neN : ∀ b, H b = none → b ≠ d := fun b e z => by rw [z, h] at e; cases e
  refine ⟨I.ok, I.os, I.bare, ⟨I.base.keep, I.base.slot, fun b o e n hx => ?_, I.base.there, fun b xs e => ?_, fun b o x e => ?_, fun b ps e => ?_⟩, I.loc, I.cell, ?_, fun x c e => ?_, fun p hp => ?_, fun b o e => ?_, I.len⟩
  · rw [upd_ne (neN b (I.base.free b o e n hx))]; exact I.base.free b o e n hx
  · have q := I.base.tups b xs e
    rw [upd_ne (neH b _ q (fun _ _ z => nomatch z))]; exact q
  · have q := I.base.frzs b o x e
    rw [upd_ne (fun z => by rw [z] at e; exact hn _ _ e)]; exact q
  · obtain ⟨m, q⟩ := I.base.tbls b ps e
    exact ⟨m, by rw [upd_ne (neH b _ q (fun _ _ z => nomatch z))]; exact q⟩
  · rw [upd_ne (neN _ I.free)]; exact I.free
  · rw [upd_ne (neN c (I.freeC x c e))]; exact I.freeC x c e
  · obtain ⟨e, n, r⟩ := I.pin p hp
    exact ⟨e, by rw [upd_ne (neN _ n)]; exact n, r⟩
  · by_cases hb : b = d
    · rw [hb, upd_same] at e
      cases e
      rw [hb]
      obtain ⟨_, x⟩ := I.hok d _ h
      exact x.stay (fun c v _ q => q) (fun c q => by rw [upd_ne (neH c _ q (fun _ _ z => nomatch z))]; exact q) fun c xs q => by rw [upd_ne (neH c _ q (fun _ _ z => nomatch z))]; exact q
    · rw [upd_ne hb] at e
      exact (I.hok b o e).stay (fun c v _ q => q) (fun c q => by rw [upd_ne (neH c _ q (fun _ _ z => nomatch z))]; exact q) fun c xs q => by rw [upd_ne (neH c _ q (fun _ _ z => nomatch z))]; exact q
end
noncomputable def tLock (t : TS) : TS := fun D σ H => ∃ d u, H d = some u ∧ Mut (some u) ∧ ∀ od, t ⟨fun σ' H' => H' d = some (.frz od u) ∧ D.nx σ' (upd H' d u), fun v H' => H' d = some (.frz od u) ∧ D.rt v (upd H' d u), fun σ' H' => H' d = some (.frz od u) ∧ D.bk σ' (upd H' d u), fun σ' H' => H' d = some (.frz od u) ∧ D.ct σ' (upd H' d u)⟩ σ (upd H d (.frz od u))
section
variable {X : Cx}
theorem ps_lock {st : Stmt} {t : TS} (h : PS X st t) : PS X st (tLock t) := by
  intro pins s σ H D I hw
  obtain ⟨d, u, hd, mu, hw⟩ := hw
  obtain ⟨od, I1⟩ := I.lock hd mu
  refine thn (h pins s σ _ _ I1 (hw od)) fun f s1 q => ?_
  cases f with
  | next => obtain ⟨σ', H', I2, e, q⟩ := q; exact ⟨σ', _, I2.unlock e (I.nofrz hd mu), q⟩
  | brk => obtain ⟨σ', H', I2, e, q⟩ := q; exact ⟨σ', _, I2.unlock e (I.nofrz hd mu), q⟩
  | cont => obtain ⟨σ', H', I2, e, q⟩ := q; exact ⟨σ', _, I2.unlock e (I.nofrz hd mu), q⟩
  | ret v => obtain ⟨x, σ', H', I2, r, e, q⟩ := q; exact ⟨x, σ', _, I2.unlock e (I.nofrz hd mu), r, q⟩
theorem pi_one {tg : Expr} {pins : List (Addr × Obj)} {σ : St} {H : Hp} {s : Shared} {R : It → Hp → Prop} {J : It} {tn : Nat → Heap → Prop} {tk : Nat} (I : Inv X pins σ H s) (o : Obj)
    (T : Turn X.prog X.w X.K tg J [s.heap.objs.size] s.heap.objs.size tn) (st : tn 0 (s.heap.push o)) (q : R J H) : PIE X pins σ tg R (.ref s.heap.objs.size) { s with heap := s.heap.push o, toks := tk } := by
  refine ⟨s.heap.objs.size, [s.heap.objs.size], tn, J, H, rfl, I.kept fun b ob e => Heap.get?_push_of_some _ e, T, st, fun b hb => ?_, q⟩
  have e : b = s.heap.objs.size := by simpa using hb
  subst e
  exact I.fpOk (Nat.le_refl _) (I.hok.fresh (Nat.le_refl _))
end

section
variable {X : Cx} {tg : Expr}
end
section
variable {X : Cx} {tg : Expr}
end

section
variable {prog : Program} {w : World} {A : Around} {E : Value → Shared → Prop} {s : Shared}
theorem iter_keys {d : Addr} {o : Obj} {es : Array DictEntry} {ep : Nat} {Q : Value → Shared → Prop} (hd : (d == sysModules) = false) (ho : s.heap.get? d = some o) (hc : o.ExactDict) (hdat : o.data = .dict es ep)
    (hQ : Q (.ref s.heap.objs.size) { s with heap := s.heap.push { cls := .type "dict_keyiterator", data := .fields #[.ref d, .int 0 0, .int es.size 0, .int ep 0] } }) :
    wpAny (model prog w) A (pyIter (.ref d)) Q E s := by
  have hT : s.TypeIs (.ref d) "dict" := ⟨o, ho, hc.1⟩
  refine wpAny_pyIter_slot hT F.slot_dict_iter (wpAny_call_entry F.slot_dict_iter hT F.entry_dict_iter ?_ (F.args_dict_iter_1 _))
  unfold Builtin.«dict.__iter__»
  refine wpAny_bind ?_
  unfold Builtin.Dict.dictSlotNone
  refine wpAny_bind (wpAny_notOrdered_dict hT ?_)
  show wpAny _ _ (pure (Value.ref d)) _ _ s
  refine wpAny_pure ?_
  show wpAny _ _ (Builtin.Dict.showsAll d >>= _) _ _ s
  unfold Builtin.Dict.showsAll
  rw [if_neg (by rw [hd]; exact Bool.false_ne_true)]
  refine wpAny_bind (wpAny_pure ?_)
  refine wpAny_bind (wpAny_dictEntries ho hdat ?_)
  refine wpAny_bind (wpAny_dictEpoch ho hdat ?_)
  refine wpAny_bind (wpAny_newObj_type (wpAny_pure ⟨_, rfl, "dict_keyiterator", _, ⟨_, Heap.get?_push_size _ rfl, rfl⟩, F.slot_dict_keyiterator_next.lookup, ?_⟩))
  simpa [rawInt] using hQ
theorem next_key_item {it d : Addr} {i n ep : Nat} {od : Obj} {es : Array DictEntry} {en : DictEntry} {Q : Option Value → Shared → Prop} (hit : s.heap.IsKeyIter it d i n ep) (hod : s.heap.get? d = some od) (hdd : od.data = .dict es ep)
    (hsz : es.size = n) (hx : es[i]? = some en) (hQ : ∀ h', h'.IsKeyIter it d (i + 1) n ep → Heap.SameBut it s.heap h' → Q (some en.key) { s with heap := h' }) : wpAny (model prog w) A (pyNext (.ref it)) Q E s := by
  obtain ⟨o, ho, hc, hd⟩ := id hit
  unfold pyNext
  refine wpAny_bind (wpAny_attempt (wpAny_callSpecial?_slot (name := Str.ofString "__next__") hit.typeIs F.slot_dict_keyiterator_next
    (wpAny_call_entry F.slot_dict_keyiterator_next hit.typeIs F.entry_dict_keyiterator_next ?_ (F.args_dict_keyiterator_next_1 _))))
  refine wpAny_bind (wpAny_pure ?_)
  refine wpAny_bind ?_
  refine wpAny_bind ?_
  first | refine wpAny_bind (wpAny_typeNameOfWhole_keyiter hit.typeIs (wpAny_pure ?_)) | refine wpAny_bind (wpAny_typeNameOf_keyiter hit.typeIs (wpAny_pure ?_))
  refine wpAny_bind (wpAny_fieldsOf ho hd ?_)
  have hown : Builtin.Dict_items.ownsTuple "dict_keyiterator" = false := by decide
  simp only [hown, Bool.false_eq_true, if_false]
  show wpAny _ _ (if (Value.ref d == Value.none) = true then _ else _) _ _ s
  rw [if_neg (show ¬ ((Value.ref d == Value.none) = true) from Bool.false_ne_true)]
  refine wpAny_bind (wpAny_pure ?_)
  refine wpAny_bind (wpAny_dictEntries hod hdd ?_)
  rw [if_neg (by rw [hsz]; simp)]
  refine wpAny_bind (wpAny_pure ?_)
  refine wpAny_bind (wpAny_dictEpoch hod hdd ?_)
  rw [if_neg (by simp)]
  refine wpAny_pure ?_
  obtain ⟨hlt', hen⟩ := Array.getElem?_eq_some_iff.mp hx
  simp only [show ¬ ((i : Int) < 0) from by first | lia | omega, if_false, Int.toNat_natCast, Array.getElem?_eq_getElem hlt']
  refine wpAny_bind ?_
  first | refine wpAny_bind (wpAny_typeNameOfWhole_keyiter hit.typeIs (wpAny_pure ?_)) | refine wpAny_bind (wpAny_typeNameOf_keyiter hit.typeIs (wpAny_pure ?_))
  refine wpAny_bind (wpAny_isOneOf_keyiter hit.typeIs ?_)
  show wpAny _ _ (setField (.ref it) 1 (rawInt ((i : Int) + 1)) >>= _) _ _ s
  refine wpAny_bind (wpAny_setField ho hd (by simp) ?_)
  have hit' : (s.heap.update it (Obj.mapFields (·.setIfInBounds 1 (rawInt ((i : Int) + 1))))).IsKeyIter it d (i + 1) n ep :=
    ⟨_, Heap.get?_update_self _ ho (Obj.isFreed_of_fields (Obj.data_mapFields hd _)), (Obj.cls_mapFields ..).trans hc, by rw [Obj.data_mapFields hd]; simp [rawInt]⟩
  refine wpAny_bind (wpAny_holding ?_)
  refine wpAny_bind (wpAny_isOneOf_keyiter (s := { s with heap := s.heap.update it (Obj.mapFields (·.setIfInBounds 1 (rawInt ((i : Int) + 1)))) }) hit'.typeIs ?_)
  show wpAny _ _ (pure es[i].key) _ _ _
  rw [hen]
  exact wpAny_pure (wpAny_pure ⟨_, rfl, wpAny_pure (hQ _ hit' (Heap.SameBut.update ..))⟩)
theorem next_key_end {it d : Addr} {i n ep : Nat} {od : Obj} {es : Array DictEntry} {Q : Option Value → Shared → Prop} (hh : A.handled = none) (hit : s.heap.IsKeyIter it d i n ep) (hod : s.heap.get? d = some od) (hdd : od.data = .dict es ep)
    (hsz : es.size = n) (hge : n ≤ i) (hQ : ∀ h', Heap.ExtBut it s.heap h' → Q none { s with heap := h' }) : wpAny (model prog w) A (pyNext (.ref it)) Q E s := by
  obtain ⟨o, ho, hc, hd⟩ := id hit
  unfold pyNext
  refine wpAny_bind (wpAny_attempt (wpAny_callSpecial?_slot (name := Str.ofString "__next__") hit.typeIs F.slot_dict_keyiterator_next
    (wpAny_call_entry F.slot_dict_keyiterator_next hit.typeIs F.entry_dict_keyiterator_next ?_ (F.args_dict_keyiterator_next_1 _))))
  refine wpAny_bind (wpAny_pure ?_)
  refine wpAny_bind ?_
  refine wpAny_bind ?_
  first | refine wpAny_bind (wpAny_typeNameOfWhole_keyiter hit.typeIs (wpAny_pure ?_)) | refine wpAny_bind (wpAny_typeNameOf_keyiter hit.typeIs (wpAny_pure ?_))
  refine wpAny_bind (wpAny_fieldsOf ho hd ?_)
  have hown : Builtin.Dict_items.ownsTuple "dict_keyiterator" = false := by decide
  simp only [hown, Bool.false_eq_true, if_false]
  show wpAny _ _ (if (Value.ref d == Value.none) = true then _ else _) _ _ s
  rw [if_neg (show ¬ ((Value.ref d == Value.none) = true) from Bool.false_ne_true)]
  refine wpAny_bind (wpAny_pure ?_)
  refine wpAny_bind (wpAny_dictEntries hod hdd ?_)
  rw [if_neg (by rw [hsz]; simp)]
  refine wpAny_bind (wpAny_pure ?_)
  refine wpAny_bind (wpAny_dictEpoch hod hdd ?_)
  rw [if_neg (by simp)]
  refine wpAny_pure ?_
  have hge' : es.size ≤ i := by rw [hsz]; exact hge
  simp only [show ¬ ((i : Int) < 0) from by first | lia | omega, if_false, Int.toNat_natCast, Array.getElem?_eq_none hge']
  refine wpAny_bind ?_
  first | refine wpAny_bind (wpAny_typeNameOfWhole_keyiter hit.typeIs (wpAny_pure ?_)) | refine wpAny_bind (wpAny_typeNameOf_keyiter hit.typeIs (wpAny_pure ?_))
  show wpAny _ _ (setField (.ref it) 0 .none >>= _) _ _ s
  refine wpAny_bind (wpAny_setField ho hd (by simp) ?_)
  show wpAny _ _ (newExc (.type "StopIteration") [] >>= _) _ _ _
  refine wpAny_bind ?_
  simp only [newExc, newTuple]
  refine wpAny_bind (wpAny_newObj_type ?_ (by size_fits))
  refine wpAny_bind (m := firstArgMember _ _) (wpAny_of_eq (a := Value.none) (by first | rfl | (simp only [firstArgMember]; rfl)) ?_)
  refine wpAny_newObj_type ?_ (by size_fits)
  simp only [raiseNew]
  refine wpAny_bind (wpAny_handled ?_)
  rw [show A.in1.handled = none from hh]
  refine wpAny_bind (wpAny_pure (wpAny_throw ?_))
  refine wpAny_bind (wpAny_isInstance (T := "StopIteration") (b := true) ⟨_, Heap.get?_push_size _ rfl, rfl⟩ isSubtype_stop ?_)
  exact wpAny_pure (hQ _ (((Heap.SameBut.update ..).extBut.push _).push _))
end

theorem kv_get {κ : Type} {kvs : List (κ × V)} {vs : List (κ × Value)} (h : KV kvs vs) : ∀ {i : Nat} {k : κ} {v : V}, kvs[i]? = some (k, v) → ∃ u, vs[i]? = some (k, u) ∧ RelV v u := by
  unfold KV at h
  induction h with
  | nil => intro i k v e; simp at e
  | @cons a b l₁ l₂ r t ih =>
    intro i k v e
    cases i with
    | zero =>
      simp only [List.getElem?_cons_zero, Option.some.injEq] at e
      subst e
      refine ⟨b.2, ?_, r.2⟩
      simp only [List.getElem?_cons_zero]
      exact congrArg some (Prod.ext r.1.symm rfl)
    | succ j =>
      simp only [List.getElem?_cons_succ] at e ⊢
      exact ih e
theorem paired_get {α β : Type} {G : α → β → Prop} {l₁ : List α} {l₂ : List β} (h : Paired G l₁ l₂) : ∀ {i : Nat} {a : α}, l₁[i]? = some a → ∃ b, l₂[i]? = some b ∧ G a b := by
  induction h with
  | nil => intro i a e; simp at e
  | @cons a b l₁ l₂ r t ih =>
    intro i a' e
    cases i with
    | zero =>
      simp only [List.getElem?_cons_zero, Option.some.injEq] at e
      subst e
      exact ⟨b, rfl, r⟩
    | succ j =>
      simp only [List.getElem?_cons_succ] at e ⊢
      exact ih e
theorem relV_key {k : Key} {u : Value} (h : keyIs k u = true) : RelV (kV k) u := by
  rcases keyIs_shape h with ⟨i, t, rfl, rfl⟩ | ⟨x, t, rfl, rfl⟩
  · exact ⟨t, rfl⟩
  · exact ⟨t, rfl⟩
section
variable {X : Cx} {pins : List (Addr × Obj)} {σ : St} {H : Hp} {s : Shared} {d : Addr} {o : Obj}
theorem Inv.frzK {kvs : List (Key × V)} (I : Inv X pins σ H s) (h : H d = some (.frz o (.dK kvs))) :
    (d == sysModules) = false ∧ s.heap.get? d = some o ∧ o.ExactDict ∧ ∃ (es : Array DictEntry) (ep : Nat) (vs : List (Key × Value)), o.data = .dict es ep ∧ es.size = kvs.length ∧ KV kvs vs ∧ s.heap.DictAt (mixKind X.prog X.w) d vs ep := by
  obtain ⟨hd, z, hs, vs, kv, o', es, ep, ho, hx, hdt, r⟩ := I.hok d _ h
  rw [hd] at ho
  cases ho
  refine ⟨hs, hd, hx, es, ep, vs, hdt, ?_, kv, o, es, hd, hx, hdt, r⟩
  have l1 := r.2.1.length
  have l2 : kvs.length = vs.length := Paired.length kv
  rw [Array.length_toList] at l1
  first | lia | omega
theorem Inv.frzT {kvs : List (List Key × V)} (I : Inv X pins σ H s) (h : H d = some (.frz o (.dT kvs))) :
    (d == sysModules) = false ∧ s.heap.get? d = some o ∧ o.ExactDict ∧ ∃ (es : Array DictEntry) (ep : Nat), o.data = .dict es ep ∧ es.size = kvs.length ∧
      ∀ (i : Nat) (k : List Key) (v : V), kvs[i]? = some (k, v) → ∃ (en : DictEntry) (q : Addr), es[i]? = some en ∧ en.key = .ref q ∧ H q = some (.tup (k.map kV)) := by
  obtain ⟨hd, z, hs, xs, pr, o', es, ep, ho, hx, hdt, he, _⟩ := I.hok d _ h
  rw [hd] at ho
  cases ho
  refine ⟨hs, hd, hx, es, ep, hdt, ?_, fun i k v e => ?_⟩
  · have l1 : es.size = xs.length := size_of_entries he
    have l2 : kvs.length = xs.length := Paired.length pr
    first | lia | omega
  · obtain ⟨b, hb, e1, e2, _⟩ := paired_get pr e
    have q := entry_at he i
    rw [hb] at q
    exact ⟨_, b.2.1, q, rfl, e2⟩
end

noncomputable def Itk (d : Addr) (o : Obj) (kvs : List (Key × V)) : It :=
  ⟨fun i H => H d = some (.frz o (.dK kvs)) ∧ i < kvs.length, fun i H x H' => H' = H ∧ ∃ k v, kvs[i]? = some (k, v) ∧ x = kV k, fun i H => H d = some (.frz o (.dK kvs)) ∧ kvs.length ≤ i⟩
noncomputable def Itkt (d : Addr) (o : Obj) (kvs : List (List Key × V)) : It :=
  ⟨fun i H => H d = some (.frz o (.dT kvs)) ∧ i < kvs.length, fun i H x H' => H' = H ∧ ∃ (k : List Key) (v : V) (q : Addr), kvs[i]? = some (k, v) ∧ x = .ref q ∧ H q = some (.tup (k.map kV)), fun i H => H d = some (.frz o (.dT kvs)) ∧ kvs.length ≤ i⟩
theorem dict_ep {o : Obj} {es es' : Array DictEntry} {ep ep' : Nat} (h : o.data = .dict es ep) (h' : o.data = .dict es' ep') : es' = es ∧ ep' = ep := by
  rw [h] at h'
  cases h'
  exact ⟨rfl, rfl⟩
section
variable {P : Program} {w : World} {K : PySem.W.Frag} {tg : Expr} {d : Addr} {o : Obj} {es : Array DictEntry} {ep : Nat}
theorem turn_keys {kvs : List (Key × V)} (it : Addr) (hod : o.data = .dict es ep) : Turn P w K tg (Itk d o kvs) [it] it (fun i h => h.IsKeyIter it d i kvs.length ep) where
  mem := by simp
  obj := fun i h st b hb => by
    have e : b = it := by simpa using hb
    subst e
    obtain ⟨oi, e, c, dd⟩ := st
    exact ⟨oi, e, fun v z => by rw [dd] at z; cases z⟩
  keep := fun i h h' st k => st.at fun oi e => k it (by simp) oi e
  item := by
    intro X hP hw hK hc i pins s σ H E I hf st hg
    subst hP hw hK
    obtain ⟨hd, hi⟩ := hg
    obtain ⟨f0, f1, f2, f3, f4, f5⟩ := hf it (by simp)
    obtain ⟨hs, hgd, hx, es', ep', vs, hdt, hsz, kv, hm⟩ := I.frzK hd
    obtain ⟨rfl, rfl⟩ := dict_ep hod hdt
    obtain ⟨⟨k, v⟩, hkv⟩ : ∃ p, kvs[i]? = some p := ⟨kvs[i], List.getElem?_eq_getElem hi⟩
    obtain ⟨u, hu, ru⟩ := kv_get kv hkv
    have hl : kvs.length = vs.length := Paired.length kv
    rw [hl] at st
    refine wpAny_pyNext_dict_item st hm hu fun key h' hkey st' sb => ?_
    have I1 : Inv X pins σ H { s with heap := h' } := I.turned (t' := s.toks) (fun b ob hb e => (sb.2 b hb).trans e) f0 f1 f3 f4 f5
    obtain ⟨oi, e, c, dd⟩ := id st'
    refine ⟨key, rfl, go_of (s := { s with heap := h' }) e c dd (by decide) ⟨kV k, H, I1, relV_key (show keyIs k key = true from hkey), ⟨rfl, k, v, hkv, rfl⟩, ?_, fun b hb => (hf b hb).1⟩⟩
    show h'.IsKeyIter it d (i + 1) kvs.length _
    rw [hl]
    exact st'
  done := by
    intro X hP hw hK hc i pins s σ H E I hf st hg
    subst hP hw hK
    obtain ⟨hd, hi⟩ := hg
    obtain ⟨f0, f1, f2, f3, f4, f5⟩ := hf it (by simp)
    obtain ⟨hs, hgd, hx, es', ep', vs, hdt, hsz, kv, hm⟩ := I.frzK hd
    obtain ⟨rfl, rfl⟩ := dict_ep hod hdt
    exact next_key_end (I.ok.hd hc) st hgd hdt hsz hi fun h' eb => ⟨rfl, I.turned (t' := s.toks) (fun b ob hb e => eb b ob hb e) f0 f1 f3 f4 f5⟩
  self := fun A i s Q E st h => wpAny_pyIter_keyiter st h
theorem turn_keysT {kvs : List (List Key × V)} (it : Addr) (hod : o.data = .dict es ep) : Turn P w K tg (Itkt d o kvs) [it] it (fun i h => h.IsKeyIter it d i kvs.length ep) where
  mem := by simp
  obj := fun i h st b hb => by
    have e : b = it := by simpa using hb
    subst e
    obtain ⟨oi, e, c, dd⟩ := st
    exact ⟨oi, e, fun v z => by rw [dd] at z; cases z⟩
  keep := fun i h h' st k => st.at fun oi e => k it (by simp) oi e
  item := by
    intro X hP hw hK hc i pins s σ H E I hf st hg
    subst hP hw hK
    obtain ⟨hd, hi⟩ := hg
    obtain ⟨f0, f1, f2, f3, f4, f5⟩ := hf it (by simp)
    obtain ⟨hs, hgd, hx, es', ep', hdt, hsz, ent⟩ := I.frzT hd
    obtain ⟨rfl, rfl⟩ := dict_ep hod hdt
    obtain ⟨⟨k, v⟩, hkv⟩ : ∃ p, kvs[i]? = some p := ⟨kvs[i], List.getElem?_eq_getElem hi⟩
    obtain ⟨en, q, hen, hkey, hq⟩ := ent i k v hkv
    refine next_key_item st hgd hdt hsz hen fun h' st' sb => ?_
    have I1 : Inv X pins σ H { s with heap := h' } := I.turned (t' := s.toks) (fun b ob hb e => (sb.2 b hb).trans e) f0 f1 f3 f4 f5
    obtain ⟨oi, e, c, dd⟩ := id st'
    exact ⟨en.key, rfl, go_of (s := { s with heap := h' }) e c dd (by decide) ⟨.ref q, H, I1, hkey, ⟨rfl, k, v, q, hkv, rfl, hq⟩, st', fun b hb => (hf b hb).1⟩⟩
  done := by
    intro X hP hw hK hc i pins s σ H E I hf st hg
    subst hP hw hK
    obtain ⟨hd, hi⟩ := hg
    obtain ⟨f0, f1, f2, f3, f4, f5⟩ := hf it (by simp)
    obtain ⟨hs, hgd, hx, es', ep', hdt, hsz, ent⟩ := I.frzT hd
    obtain ⟨rfl, rfl⟩ := dict_ep hod hdt
    exact next_key_end (I.ok.hd hc) st hgd hdt hsz hi fun h' eb => ⟨rfl, I.turned (t' := s.toks) (fun b ob hb e => eb b ob hb e) f0 f1 f3 f4 f5⟩
  self := fun A i s Q E st h => by
    refine wpAny_pyIter_slot st.typeIs F.slot_dict_keyiterator_iter (wpAny_call_entry F.slot_dict_keyiterator_iter st.typeIs F.entry_dict_keyiterator_iter ?_ (F.args_dict_keyiterator_iter_1 _))
    show wpAny _ _ (ret (.ref it)) _ _ s
    exact wpAny_pure ⟨_, rfl, "dict_keyiterator", _, st.typeIs, F.slot_dict_keyiterator_next.lookup, h⟩
end

noncomputable def iKeys (td : TE) : TI := fun σ H R => td σ H fun x H1 => ∃ d o, x = .ref d ∧ ((∃ kvs, H1 d = some (.frz o (.dK kvs)) ∧ R (Itk d o kvs) H1) ∨ ∃ kvs, H1 d = some (.frz o (.dT kvs)) ∧ R (Itkt d o kvs) H1)
section
variable {X : Cx} {tg e : Expr} {td : TE} {apos cpos : Pos}
theorem pi_keys (he : PE X e td) : PI X tg e (iKeys td) := by
  intro pins s σ H R I h
  refine thn (he pins s σ H _ I h) fun u s1 hpt46 => ?_
  obtain ⟨x, H1, I1, rx, d, o, ex, q⟩ := hpt46
  subst ex
  obtain rfl : u = Value.ref d := rx
  rcases q with ⟨kvs, hd, q⟩ | ⟨kvs, hd, q⟩
  · obtain ⟨hs, hgd, hx, es, ep, vs, hdt, hsz, kv, hm⟩ := I1.frzK hd
    refine iter_keys hs hgd hx hdt (pi_one (tk := s1.toks) I1 _ (turn_keys _ hdt) ⟨_, Heap.get?_push_size _ rfl, rfl, ?_⟩ q)
    rw [hsz] <;> rfl
  · obtain ⟨hs, hgd, hx, es, ep, hdt, hsz, ent⟩ := I1.frzT hd
    refine iter_keys hs hgd hx hdt (pi_one (tk := s1.toks) I1 _ (turn_keysT _ hdt) ⟨_, Heap.get?_push_size _ rfl, rfl, ?_⟩ q)
    rw [hsz] <;> rfl
end

end L2

section 
namespace Bits
open PySem PyProof.Rows

end Bits
end 

section 
namespace TL
open PySem PySem.Builtin PySem.Builtin.Str PySem.StrLaws

end TL
end 

namespace L2
open PySem PySem.Spec PyProof.Rows

section
variable {X : Cx} {pins : List (Addr × Obj)} {σ : St} {H : Hp} {s : Shared} {Q : VK}
end

section
variable {X : Cx}

end

section
variable {X : Cx} {o e : Expr} {to te : TE}
end
end L2

namespace L2
open PySem PySem.Spec PyProof.Rows

section
variable {X : Cx}
end

end L2

namespace Att
open PySem PySem.W PySem.Calls PyProof.Rows

section
variable {prog : Program} {w : World} {A : Around} {E : Value → Shared → Prop} {s : Shared} {K : Frag}

end
end Att

namespace L2
open PySem PySem.Spec PyProof.Rows

end L2

namespace L2
open PySem PySem.Spec PyProof.Rows

end L2


namespace L2
open PySem PySem.Spec PyProof.Rows

noncomputable def inClass (s : Stmt) (j : Nat) : Stmt := match s with
  | .ClassDef _ _ _ body _ _ _ _ _ _ _ => body.getD j (.Pass ⟨0, 0, 0, 0⟩)
  | _ => .Pass ⟨0, 0, 0, 0⟩
noncomputable def defArgs (s : Stmt) : Arguments := match s with
  | .FunctionDef _ a _ _ _ _ _ _ _ _ => a
  | _ => { posonlyargs := [], args := [], vararg := none, kwonlyargs := [], kw_defaults := [], kwarg := none, defaults := [] }
noncomputable def defBody (s : Stmt) : List Stmt := match s with
  | .FunctionDef _ _ b _ _ _ _ _ _ _ => b
  | _ => []
noncomputable def defScope (s : Stmt) : Scope := match s with
  | .FunctionDef _ _ _ _ _ _ sc _ _ _ => sc
  | _ => { kind := .function, names := [], isGenerator := false, isCoroutine := false }

noncomputable abbrev CX0 : CXT := fun _ _ _ _ _ _ => False
noncomputable abbrev E0 : XK := fun _ _ _ => False
theorem pass0 {X : Cx} : Passes CX0 X E0 := fun _ _ _ _ _ _ _ h => h.elim

structure Fun (K : PySem.W.Frag) (x qual : Str) (st : Stmt) (f : Addr) (fd : FuncData) : Prop where
  ex : ∃ (oc : Value) (od : Option Addr) (kV doc pm : Value) (an : Option Addr) (cdv ct : Value) (osl : Array (Option Value)),
    fd = PySem.W.fnOf x qual (defArgs st) (defBody st) (defScope st) .none kV doc pm an cdv ct ∧ K.lookup f = some ⟨oc, od, .func fd, osl⟩ ∧ PySem.W.codeIn K cdv qual = true
  kp : PySem.W.keepIn K (.ref f) = true
section
variable {P : Program} {w : World} {K : PySem.W.Frag} {mg : Str → Option Value} {base : Heap}
theorem Fun.ok {x qual : Str} {st : Stmt} {f : Addr} {fd : FuncData} {N ps : List Str} {k : Nat} {sp : Sp} (F : Fun K x qual st f fd) (S : FnScope N ps (defScope st)) (len : ∀ vs H Q E, sp vs H Q E → vs.length = ps.length)
    (hbody : ∀ (cdv : Value) (A : Around) (outer : List Env) (s : Shared) (H : Hp) (vs : List V) (Q : VK) (E : XK), Room k (A.deeper (envOfC qual (defScope st) s.heap.objs.size f cdv)) → sp vs H Q E →
      ∃ t, PSs (cxOf CX0 P w K mg base N qual (defScope st) f cdv A outer s H E).nox (defBody st) t ∧ t { nx := fun _ H' => Q .non H', rt := Q } (start N vs) H) : FnOk P w K mg base CX0 (k + 1) f fd ps sp := by
  obtain ⟨oc, od, kV, doc, pm, an, cdv, ct, osl, rfl, lk, hcd⟩ := F.ex
  refine fn_of lk hcd S len fun A outer s H vs Q E hr hsp => ?_
  obtain ⟨t, h, q⟩ := hbody cdv A outer s H vs Q E hr hsp
  exact ⟨t, h.nox, q⟩
theorem Fun.binds {x qual : Str} {st : Stmt} {f : Addr} {fd : FuncData} {ps : List Str} (F : Fun K x qual st f fd)
    (h : ∀ (kV doc pm : Value) (an : Option Addr) (cdv ct : Value) (us : List Value), us.length = ps.length → bindArgs (PySem.W.fnOf x qual (defArgs st) (defBody st) (defScope st) .none kV doc pm an cdv ct) ⟨us, []⟩ = pure (ps.zip us)) : Binds K fd ps [] := by
  obtain ⟨oc, od, kV, doc, pm, an, cdv, ct, osl, rfl, lk, hcd⟩ := F.ex
  exact .all (h kV doc pm an cdv ct)
theorem fun_mk {x qual : Str} {st : Stmt} {f : Addr} {oc : Value} {od an : Option Addr} {osl : Array (Option Value)} {kV doc pm cdv ct : Value} (l : K.lookup f = some ⟨oc, od, .func (PySem.W.fnOf x qual (defArgs st) (defBody st) (defScope st) .none kV doc pm an cdv ct), osl⟩)
    (c : PySem.W.codeIn K cdv qual = true) (k : PySem.W.keepIn K (.ref f) = true) : Fun K x qual st f (PySem.W.fnOf x qual (defArgs st) (defBody st) (defScope st) .none kV doc pm an cdv ct) := ⟨⟨oc, od, kV, doc, pm, an, cdv, ct, osl, rfl, l, c⟩, k⟩
end
theorem hu_of {A : Around} {k : Nat} (hr : Room k A) : A.units + 1 < cLine := Nat.lt_of_le_of_lt (Nat.add_le_add_left (by decide : 1 ≤ 64) _) hr.units
theorem small1000 {n : Nat} (h : n ≤ 1000) : n < sizeLine := Nat.lt_of_le_of_lt h (by decide)

section
variable {X : Cx}
theorem pv (i : Nat) {x : Str} {pos : Pos} (hN : X.N[i]? = some x := by rfl) (hv : Vis X.env.scope x := by first | exact Or.inl rfl | exact Or.inr (Or.inl rfl) | exact Or.inr (Or.inr rfl)) (hd : (x == ("__debug__" : Str)) = false := by decide)
    (hcd : (x == ("__classdict__" : Str)) = false := by decide) : PE X (.Name x pos) (tVar i) := pe_var hN hv hd hcd
end

theorem iteF {A B : Prop} (h : B) : if false = true then A else B := by
  rw [if_neg Bool.false_ne_true]
  exact h
theorem iteT {A B : Prop} (h : A) : if true = true then A else B := by
  rw [if_pos rfl]
  exact h
theorem ite2 {c A B : Prop} [Decidable c] (h1 : c → A) (h2 : ¬ c → B) : if c then A else B := by
  by_cases h : c
  · rw [if_pos h]
    exact h1 h
  · rw [if_neg h]
    exact h2 h
theorem iteNS {c A B : Prop} [Decidable c] (hc : c) (h : B) : if (!decide c) = true then A else B := by
  rw [decide_eq_true hc]
  exact iteF h

noncomputable def Same (H H' : Hp) : Prop := ∀ b o, H b = some o → H' b = some o
theorem Same.refl (H : Hp) : Same H H := fun _ _ h => h
theorem Same.trans {H H1 H2 : Hp} (a : Same H H1) (b : Same H1 H2) : Same H H2 := fun c o h => b c o (a c o h)
theorem Same.free {H H' : Hp} (e : Same H H') {l : Addr} (h : H' l = Option.none) : H l = Option.none := by
  cases q : H l with
  | none => rfl
  | some o =>
    rw [e l o q] at h
    cases h
theorem Same.seq {K : PySem.W.Frag} {H H' : Hp} {a : Addr} {xs : List V} (e : Same H H') (h : SqL K H a xs) : SqL K H' a xs := by
  rcases h with (h | ⟨o, h⟩) | h
  · exact .inl (.inl (e _ _ h))
  · exact .inl (.inr ⟨o, e _ _ h⟩)
  · exact .inr h

section
variable {κ : Type} [DecidableEq κ]
end
theorem nd_ix {α : Type} {l : List α} (hN : l.Nodup) {i j : Nat} {x : α} (a : l[i]? = some x) (b : l[j]? = some x) : i = j := by
  obtain ⟨h1, e1⟩ := List.getElem?_eq_some_iff.mp a
  obtain ⟨h2, e2⟩ := List.getElem?_eq_some_iff.mp b
  exact (List.getElem_inj hN).mp (e1.trans e2.symm)
theorem Same.made {H H1 : Hp} {x dx C : Addr} (nx : H x = Option.none) (nd : H dx = Option.none) (k : ∀ b o, (upd (upd H dx (.own x)) x (.ins C dx [])) b = some o → b ≠ x → H1 b = some o) : Same H H1 := fun b o e =>
  k b o (by rw [upd_ne (ne_of_none e nx), upd_ne (ne_of_none e nd)]; exact e) (ne_of_none e nx)
end L2

section
set_option Elab.async false
set_option linter.all false
set_option maxRecDepth 100000
set_option maxHeartbeats 2000000
namespace L2
open PySem PySem.Spec PyProof.Rows
open PySem.W (WData Codec OpenSpec Well WellAll ReadsW ReadsAllW)
mutual
/-- x stands for the datum d, lists and tuples all the way -/
inductive Dw (K : PySem.W.Frag) (H : Hp) : V → WData → Prop
  | non : Dw K H .non .none
  | bl (b : Bool) : Dw K H (.bl b) (.bool b)
  | int (i : Int) : Dw K H (.int i) (.int i)
  | str (x : Str) : Dw K H (.str x) (.str x)
  | byt (b : Array UInt8) : Dw K H (.byt b) (.bytes b.toList)
  | lst {a : Addr} {xs : List V} {ds : List WData} : SqL K H a xs → DwAll K H xs ds → Dw K H (.ref a) (.list ds)
  | tup {a : Addr} {xs : List V} {ds : List WData} : SqT K H a xs → DwAll K H xs ds → Dw K H (.ref a) (.tuple ds)
inductive DwAll (K : PySem.W.Frag) (H : Hp) : List V → List WData → Prop
  | nil : DwAll K H [] []
  | cons {v : V} {vs : List V} {d : WData} {ds : List WData} : Dw K H v d → DwAll K H vs ds → DwAll K H (v :: vs) (d :: ds)
end
theorem dw_ints {K : PySem.W.Frag} {H : Hp} : ∀ ns : List Int, DwAll K H (ns.map V.int) (ns.map WData.int)
  | [] => .nil
  | n :: r => .cons (.int n) (dw_ints r)
theorem ints_dw {K : PySem.W.Frag} {H : Hp} : ∀ (ns : List Int) (xs : List V), DwAll K H xs (ns.map WData.int) → xs = ns.map V.int
  | [], xs, h => by
    cases h
    rfl
  | n :: r, xs, h => by
    cases h with
    | cons h1 h2 =>
      cases h1
      rw [ints_dw r _ h2] <;> rfl
section
variable {P : Program} {w : World} {K : PySem.W.Frag} {H : Hp} {h : Heap} {R : PySem.W.WRecords} {cl : Str → Option Addr}
theorem sqL_at {a : Addr} {xs : List V} (hok : HOk P w H h) (KX : K.In h) (q : SqL K H a xs) : ∃ (its : List Value) (o : Obj) (n : Nat), Vals xs its ∧ h.get? a = some o ∧ o.cls = .type "list" ∧ o.data = .seq its.toArray n := by
  rcases q with q | ⟨o, its, n, e, hc, _, hd, _, hv⟩
  · obtain ⟨_, its, n, hv, e⟩ := (show ObjOk P w H h a (.lst xs) from q.ok hok)
    exact ⟨its, _, n, hv, e, rfl, rfl⟩
  · exact ⟨its.toList, o, n, hv, KX _ _ e, hc, by simp [hd]⟩
theorem sqT_at {a : Addr} {xs : List V} (hok : HOk P w H h) (KX : K.In h) (q : SqT K H a xs) : ∃ (its : List Value) (o : Obj) (n : Nat), Vals xs its ∧ h.get? a = some o ∧ o.cls = .type "tuple" ∧ o.data = .seq its.toArray n := by
  rcases q with q | ⟨o, its, n, e, hc, hd, _, hv⟩
  · obtain ⟨_, its, hv, o, e, hc, n, hd⟩ := (show ObjOk P w H h a (.tup xs) from q.ok hok)
    exact ⟨its, o, n, hv, e, hc, hd⟩
  · exact ⟨its.toList, o, n, hv, KX _ _ e, hc, by simp [hd]⟩
mutual
theorem Dw.reads (hok : HOk P w H h) (KX : K.In h) : ∀ (d : WData) (v : V) (u : Value), Dw K H v d → RelV v u → ∃ as, ReadsW R cl h u d as
  | .none, _, _, x, r => by
    cases x
    cases r
    exact ⟨_, ReadsW.none⟩
  | .bool b, _, _, x, r => by
    cases x
    cases r
    exact ⟨_, ReadsW.bool b⟩
  | .int i, _, _, x, r => by
    cases x
    obtain ⟨t, rfl⟩ := r
    exact ⟨_, ReadsW.int i t⟩
  | .str s, _, _, x, r => by
    cases x
    obtain ⟨t, rfl⟩ := r
    exact ⟨_, ReadsW.str s t⟩
  | .bytes b, _, _, x, r => by
    cases x
    obtain ⟨t, rfl⟩ := r
    exact ⟨_, ReadsW.bytes _ t⟩
  | .list ds, _, _, x, r => by
    cases x with
    | lst hs ha =>
      cases r
      obtain ⟨its, o, n, rv, ho, hc, hd⟩ := sqL_at hok KX hs
      obtain ⟨as, hr⟩ := Dw.readsAll hok KX ds _ its ha rv
      exact ⟨_, ReadsW.list ho hc hd hr⟩
  | .tuple ds, _, _, x, r => by
    cases x with
    | tup hs ha =>
      cases r
      obtain ⟨its, o, n, rv, ho, hc, hd⟩ := sqT_at hok KX hs
      obtain ⟨as, hr⟩ := Dw.readsAll hok KX ds _ its ha rv
      exact ⟨_, ReadsW.tuple ho hc hd hr⟩
  | .float _, _, _, x, _ => by cases x
  | .dict _, _, _, x, _ => by cases x
  | .bytearray _, _, _, x, _ => by cases x
  | .set _, _, _, x, _ => by cases x
  | .frozenset _, _, _, x, _ => by cases x
  | .obj _ _, _, _, x, _ => by cases x
theorem Dw.readsAll (hok : HOk P w H h) (KX : K.In h) : ∀ (ds : List WData) (vs : List V) (us : List Value), DwAll K H vs ds → Vals vs us → ∃ as, ReadsAllW R cl h us ds as
  | [], _, _, x, r => by
    cases x
    cases r
    exact ⟨_, ReadsAllW.nil⟩
  | d :: ds, _, _, x, r => by
    cases x with
    | cons h1 h2 =>
      cases r with
      | cons r1 r2 =>
        obtain ⟨as, q1⟩ := Dw.reads hok KX d _ _ h1 r1
        obtain ⟨bs, q2⟩ := Dw.readsAll hok KX ds _ _ h2 r2
        exact ⟨_, ReadsAllW.cons q1 q2⟩
end
end
mutual
/-- data that a codec tells -/
def plW : WData → Bool
  | .none => true
  | .bool _ => true
  | .int _ => true
  | .str _ => true
  | .bytes _ => true
  | .list xs => plWs xs
  | .tuple xs => plWs xs
  | _ => false
def plWs : List WData → Bool
  | [] => true
  | x :: r => plW x && plWs r
end
theorem plWs_map {α : Type} {f : α → WData} (h : ∀ a, plW (f a) = true) : ∀ l : List α, plWs (l.map f) = true
  | [] => rfl
  | x :: r => by
    show (plW (f x) && plWs (r.map f)) = true
    rw [h x, plWs_map h r] <;> rfl
theorem pl_enc : ∀ (c : Codec) (a : c.denote), plW (c.enc a) = true
  | .unit, _ => rfl
  | .bool, _ => rfl
  | .int _ _, _ => rfl
  | .nat _ _, _ => rfl
  | .u8, _ => rfl
  | .bytes _ _, _ => rfl
  | .text _ _ _ _, _ => rfl
  | .list _ _ c, a => plWs_map (fun x => pl_enc c x) a
  | .pair c d, a => by
    show (plW (c.enc a.1) && (plW (d.enc a.2) && true)) = true
    rw [pl_enc c a.1, pl_enc d a.2] <;> rfl
  | .triple c d e, a => by
    show (plW (c.enc a.1) && (plW (d.enc a.2.1) && (plW (e.enc a.2.2) && true))) = true
    rw [pl_enc c a.1, pl_enc d a.2.1, pl_enc e a.2.2] <;> rfl
  | .option c, none => rfl
  | .option c, some x => pl_enc c x
theorem pl_encAll : ∀ (cs : List Codec) (a : Codec.denoteAll cs), plWs (Codec.encAll cs a) = true
  | [], _ => rfl
  | c :: cs, a => by
    show (plW (c.enc a.1) && plWs (Codec.encAll cs a.2)) = true
    rw [pl_enc c a.1, pl_encAll cs a.2] <;> rfl
theorem weight_mem : ∀ {xs : List WData} {d : WData}, d ∈ xs → d.weight ≤ WData.weightAll xs
  | [], d, h => absurd h (by simp)
  | x :: r, d, h => by
    show d.weight ≤ x.weight + 1 + WData.weightAll r
    rcases List.mem_cons.mp h with e | m
    · rw [e]
      first | lia | omega
    · have z := weight_mem m
      first | lia | omega
noncomputable def toV : Value → V
  | .none => .non
  | .bool b => .bl b
  | .int i _ => .int i
  | .str x _ => .str x
  | .bytes b _ => .byt b
  | .ref a => .ref a
  | _ => .non
noncomputable def OkU (A : List Addr) : Value → Prop
  | .none => True
  | .bool _ => True
  | .int _ _ => True
  | .str _ _ => True
  | .bytes _ _ => True
  | .ref a => a ∈ A
  | _ => False
theorem OkU.mono {A B : List Addr} (h : ∀ a ∈ A, a ∈ B) : ∀ {u : Value}, OkU A u → OkU B u := fun {u} x => by
  cases u with
  | ref a => exact h a x
  | none => trivial
  | bool b => trivial
  | int i t => trivial
  | str s t => trivial
  | bytes b t => trivial
  | _ => exact False.elim x
theorem relV_toV {A : List Addr} {u : Value} (x : OkU A u) : RelV (toV u) u := by
  cases u with
  | ref a => rfl
  | none => rfl
  | bool b => rfl
  | int i t => exact ⟨t, rfl⟩
  | str s t => exact ⟨t, rfl⟩
  | bytes b t => exact ⟨t, rfl⟩
  | _ => exact False.elim x
theorem vals_toV {A : List Addr} : ∀ {vs : List Value}, (∀ u ∈ vs, OkU A u) → Vals (vs.map toV) vs
  | [], _ => .nil
  | u :: r, h => .cons (relV_toV (h u (List.mem_cons_self ..))) (vals_toV fun x hx => h x (List.mem_cons_of_mem _ hx))
noncomputable def ArgOb (h : Heap) (A : List Addr) (a : Addr) : Prop := ∃ vs : List Value, vs.length ≤ sizeLine ∧ (∀ u ∈ vs, OkU A u) ∧
  (h.get? a = some { cls := .type "list", data := .seq vs.toArray } ∨ h.get? a = some { cls := .type "tuple", data := .seq vs.toArray })
theorem ArgOb.mono {h : Heap} {A B : List Addr} {a : Addr} (k : ∀ a ∈ A, a ∈ B) (x : ArgOb h A a) : ArgOb h B a := by
  obtain ⟨vs, h1, h2, h3⟩ := x
  exact ⟨vs, h1, fun u hu => (h2 u hu).mono k, h3⟩
theorem wellAll_len {P : Params} {h : Heap} : ∀ {vs : List Value} {ds : List WData}, WellAll P h vs ds → vs.length = ds.length
  | _, _, .nil => rfl
  | _, _, .cons _ b => by
    show _ + 1 = _ + 1
    rw [wellAll_len b]
theorem well_list {P : Params} {h : Heap} {v : Value} {ds : List WData} (x : Well P h v (.list ds)) : ∃ (a : Addr) (vs : List Value), v = .ref a ∧ h.get? a = some { cls := .type "list", data := .seq vs.toArray } ∧ WellAll P h vs ds := by
  cases x with
  | list ho hall => exact ⟨_, _, rfl, ho, hall⟩
theorem well_tuple {P : Params} {h : Heap} {v : Value} {ds : List WData} (x : Well P h v (.tuple ds)) : ∃ (a : Addr) (vs : List Value), v = .ref a ∧ h.get? a = some { cls := .type "tuple", data := .seq vs.toArray } ∧ WellAll P h vs ds := by
  cases x with
  | tuple ho hall => exact ⟨_, _, rfl, ho, hall⟩
theorem well_cons {P : Params} {h : Heap} {us : List Value} {d : WData} {ds : List WData} (x : WellAll P h us (d :: ds)) : ∃ (v : Value) (vs : List Value), us = v :: vs ∧ Well P h v d ∧ WellAll P h vs ds := by
  cases x with
  | cons a b => exact ⟨_, _, rfl, a, b⟩
theorem line_of {n : Nat} (h : n ≤ 1048576) : n ≤ sizeLine := Nat.le_trans h (by decide)
section
variable {P : Params} {h : Heap}
mutual
theorem area_one : ∀ (d : WData) (v : Value), Well P h v d → plW d = true → d.weight ≤ 1048576 → ∃ A : List Addr, OkU A v ∧ ∀ a ∈ A, ArgOb h A a
  | .none, _, x, _, _ => by
    cases x
    exact ⟨[], trivial, fun a m => absurd m (by simp)⟩
  | .bool b, _, x, _, _ => by
    cases x
    exact ⟨[], trivial, fun a m => absurd m (by simp)⟩
  | .int i, _, x, _, _ => by
    cases x
    exact ⟨[], trivial, fun a m => absurd m (by simp)⟩
  | .str s, _, x, _, _ => by
    cases x
    exact ⟨[], trivial, fun a m => absurd m (by simp)⟩
  | .bytes b, _, x, _, _ => by
    cases x
    exact ⟨[], trivial, fun a m => absurd m (by simp)⟩
  | .list ds, _, x, p, z => by
    obtain ⟨a, vs, rfl, ho, hall⟩ := well_list x
    have z2 : WData.weightAll ds ≤ 1048576 := z
    obtain ⟨A, h1, h2⟩ := area_all ds _ hall p fun d hd => Nat.le_trans (weight_mem hd) z2
    have k : ∀ b ∈ A, b ∈ a :: A := fun b hb => List.mem_cons_of_mem _ hb
    refine ⟨a :: A, List.mem_cons_self .., fun b hb => ?_⟩
    rcases List.mem_cons.mp hb with e | m
    · rw [e]
      exact ⟨vs, line_of (by rw [wellAll_len hall]; exact Nat.le_trans (PySem.W.length_le_weightAllW ds) z2), fun u hu => (h1 u hu).mono k, .inl ho⟩
    · exact (h2 b m).mono k
  | .tuple ds, _, x, p, z => by
    obtain ⟨a, vs, rfl, ho, hall⟩ := well_tuple x
    have z2 : WData.weightAll ds ≤ 1048576 := z
    obtain ⟨A, h1, h2⟩ := area_all ds _ hall p fun d hd => Nat.le_trans (weight_mem hd) z2
    have k : ∀ b ∈ A, b ∈ a :: A := fun b hb => List.mem_cons_of_mem _ hb
    refine ⟨a :: A, List.mem_cons_self .., fun b hb => ?_⟩
    rcases List.mem_cons.mp hb with e | m
    · rw [e]
      exact ⟨vs, line_of (by rw [wellAll_len hall]; exact Nat.le_trans (PySem.W.length_le_weightAllW ds) z2), fun u hu => (h1 u hu).mono k, .inr ho⟩
    · exact (h2 b m).mono k
  | .float _, _, _, p, _ => Bool.noConfusion (show false = true from p)
  | .dict _, _, _, p, _ => Bool.noConfusion (show false = true from p)
  | .bytearray _, _, _, p, _ => Bool.noConfusion (show false = true from p)
  | .set _, _, _, p, _ => Bool.noConfusion (show false = true from p)
  | .frozenset _, _, _, p, _ => Bool.noConfusion (show false = true from p)
  | .obj _ _, _, _, p, _ => Bool.noConfusion (show false = true from p)
theorem area_all : ∀ (ds : List WData) (vs : List Value), WellAll P h vs ds → plWs ds = true → (∀ d ∈ ds, d.weight ≤ 1048576) → ∃ A : List Addr, (∀ u ∈ vs, OkU A u) ∧ ∀ a ∈ A, ArgOb h A a
  | [], _, x, _, _ => by
    cases x
    exact ⟨[], fun u m => absurd m (by simp), fun a m => absurd m (by simp)⟩
  | d :: ds, _, x, p, z => by
    obtain ⟨v, vs, rfl, x1, x2⟩ := well_cons x
    have q : plW d = true ∧ plWs ds = true := Bool.and_eq_true_iff.mp p
    obtain ⟨A, a1, a2⟩ := area_one d v x1 q.1 (z d (List.mem_cons_self ..))
    obtain ⟨B, b1, b2⟩ := area_all ds vs x2 q.2 fun e he => z e (List.mem_cons_of_mem _ he)
    have kA : ∀ b ∈ A, b ∈ A ++ B := fun b hb => List.mem_append.mpr (.inl hb)
    have kB : ∀ b ∈ B, b ∈ A ++ B := fun b hb => List.mem_append.mpr (.inr hb)
    refine ⟨A ++ B, fun u hu => ?_, fun b hb => ?_⟩
    · rcases List.mem_cons.mp hu with e | m
      · rw [e]
        exact a1.mono kA
      · exact (b1 u m).mono kB
    · rcases List.mem_append.mp hb with m | m
      · exact (a2 b m).mono kA
      · exact (b2 b m).mono kB
end
end
noncomputable def hoOf (o : Obj) : Option HO := match o.data with
  | .seq vs _ => if (o.cls == Value.type "list") = true then some (.frz o (.lst (vs.toList.map toV))) else some (.frz o (.tup (vs.toList.map toV)))
  | _ => none
noncomputable def argH (K : PySem.W.Frag) (h : Heap) (A : List Addr) : Hp := fun b => if b ∈ A then (if (K.lookup b).isNone = true then (h.get? b).bind hoOf else none) else none
noncomputable def OnlyF (H : Hp) : Prop := ∀ b, H b = none ∨ ∃ o u, H b = some (.frz o u)
theorem hoOf_lst (vs : List Value) : hoOf { cls := .type "list", data := .seq vs.toArray } = some (.frz { cls := .type "list", data := .seq vs.toArray } (.lst (vs.map toV))) := by
  show (if (Value.type "list" == Value.type "list") = true then some (HO.frz { cls := .type "list", data := .seq vs.toArray } (.lst (vs.toArray.toList.map toV))) else some (HO.frz { cls := .type "list", data := .seq vs.toArray } (.tup (vs.toArray.toList.map toV)))) = _
  rw [if_pos (beq_self_eq_true _)]
theorem hoOf_tup (vs : List Value) : hoOf { cls := .type "tuple", data := .seq vs.toArray } = some (.frz { cls := .type "tuple", data := .seq vs.toArray } (.tup (vs.map toV))) := by
  show (if (Value.type "tuple" == Value.type "list") = true then some (HO.frz { cls := .type "tuple", data := .seq vs.toArray } (.lst (vs.toArray.toList.map toV))) else some (HO.frz { cls := .type "tuple", data := .seq vs.toArray } (.tup (vs.toArray.toList.map toV)))) = _
  rw [if_neg (by decide)]
section
variable {P : Program} {w : World} {K : PySem.W.Frag} {h : Heap} {A : List Addr}
theorem argH_at {b : Addr} {o : Obj} (hb : b ∈ A) (hk : K.lookup b = none) (e : h.get? b = some o) : argH K h A b = hoOf o := by
  unfold argH
  rw [if_pos hb, hk, if_pos (show (none : Option Obj).isNone = true from rfl), e] <;> rfl
theorem of_argH {b : Addr} {u : HO} (q : argH K h A b = some u) : b ∈ A ∧ K.lookup b = none := by
  unfold argH at q
  by_cases hb : b ∈ A
  · rw [if_pos hb] at q
    cases hk : K.lookup b with
    | none => exact ⟨hb, rfl⟩
    | some o =>
      rw [hk, if_neg (by simp)] at q
      cases q
  · rw [if_neg hb] at q
    cases q
theorem argH_is (ar : ∀ a ∈ A, ArgOb h A a) {b : Addr} {u : HO} (q : argH K h A b = some u) : K.lookup b = none ∧ ∃ vs : List Value, vs.length ≤ sizeLine ∧ (∀ u ∈ vs, OkU A u) ∧
    ((h.get? b = some { cls := .type "list", data := .seq vs.toArray } ∧ u = .frz { cls := .type "list", data := .seq vs.toArray } (.lst (vs.map toV))) ∨
     (h.get? b = some { cls := .type "tuple", data := .seq vs.toArray } ∧ u = .frz { cls := .type "tuple", data := .seq vs.toArray } (.tup (vs.map toV)))) := by
  obtain ⟨hb, hk⟩ := of_argH q
  obtain ⟨vs, h1, h2, h3⟩ := ar b hb
  refine ⟨hk, vs, h1, h2, ?_⟩
  rcases h3 with e | e
  · rw [argH_at hb hk e, hoOf_lst] at q
    exact .inl ⟨e, (Option.some.inj q).symm⟩
  · rw [argH_at hb hk e, hoOf_tup] at q
    exact .inr ⟨e, (Option.some.inj q).symm⟩
theorem argH_only (ar : ∀ a ∈ A, ArgOb h A a) : OnlyF (argH K h A) := fun b => by
  cases q : argH K h A b with
  | none => exact .inl rfl
  | some u =>
    obtain ⟨_, vs, _, _, ⟨_, e⟩ | ⟨_, e⟩⟩ := argH_is ar q
    · exact .inr ⟨_, _, by rw [e]⟩
    · exact .inr ⟨_, _, by rw [e]⟩
theorem argH_ok (ar : ∀ a ∈ A, ArgOb h A a) : HOk P w (argH K h A) h := fun b u q => by
  obtain ⟨_, vs, h1, h2, ⟨e, rfl⟩ | ⟨e, rfl⟩⟩ := argH_is ar q
  · exact ⟨e, by rw [List.length_map]; exact h1, vs, _, vals_toV h2, e⟩
  · exact ⟨e, by rw [List.length_map]; exact h1, vs, vals_toV h2, _, e, rfl, _, rfl⟩
theorem seq_inj {c c' : Value} {vs us : List Value} (e : (some { cls := c, data := .seq vs.toArray } : Option Obj) = some { cls := c', data := .seq us.toArray }) : c = c' ∧ vs = us := by
  have e1 := Option.some.inj e
  have e2 : c = c' := congrArg Obj.cls e1
  have e3 : Data.seq vs.toArray = Data.seq us.toArray := congrArg Obj.data e1
  injection e3 with e4
  refine ⟨e2, ?_⟩
  have e5 := congrArg Array.toList e4
  simpa using e5
theorem argL (KX : K.In h) (ar : ∀ a ∈ A, ArgOb h A a) {a : Addr} {vs : List Value} (ha : a ∈ A) (e : h.get? a = some { cls := .type "list", data := .seq vs.toArray }) : (∀ u ∈ vs, OkU A u) ∧ SqL K (argH K h A) a (vs.map toV) := by
  obtain ⟨us, h1, h2, h3⟩ := ar a ha
  have hu : us = vs := by
    rcases h3 with q | q
    · rw [e] at q
      exact (seq_inj q).2.symm
    · rw [e] at q
      exact absurd (Value.type.inj (seq_inj q).1) (by decide)
  subst hu
  refine ⟨h2, ?_⟩
  cases hk : K.lookup a with
  | none => exact .inl (.inr ⟨_, by rw [argH_at ha hk e, hoOf_lst]⟩)
  | some o =>
    have e2 := KX a o hk
    rw [e] at e2
    obtain rfl := Option.some.inj e2
    exact .inr ⟨_, us.toArray, _, hk, rfl, rfl, rfl, by rw [List.size_toArray]; exact h1, by simpa using vals_toV h2⟩
theorem argT (KX : K.In h) (ar : ∀ a ∈ A, ArgOb h A a) {a : Addr} {vs : List Value} (ha : a ∈ A) (e : h.get? a = some { cls := .type "tuple", data := .seq vs.toArray }) : (∀ u ∈ vs, OkU A u) ∧ SqT K (argH K h A) a (vs.map toV) := by
  obtain ⟨us, h1, h2, h3⟩ := ar a ha
  have hu : us = vs := by
    rcases h3 with q | q
    · rw [e] at q
      exact absurd (Value.type.inj (seq_inj q).1) (by decide)
    · rw [e] at q
      exact (seq_inj q).2.symm
  subst hu
  refine ⟨h2, ?_⟩
  cases hk : K.lookup a with
  | none => exact .inl (.inr ⟨_, by rw [argH_at ha hk e, hoOf_tup]⟩)
  | some o =>
    have e2 := KX a o hk
    rw [e] at e2
    obtain rfl := Option.some.inj e2
    exact .inr ⟨_, us.toArray, _, hk, rfl, rfl, by rw [List.size_toArray]; exact h1, by simpa using vals_toV h2⟩
mutual
theorem dw_one {Pm : Params} (KX : K.In h) (ar : ∀ a ∈ A, ArgOb h A a) : ∀ (d : WData) (v : Value), Well Pm h v d → plW d = true → OkU A v → Dw K (argH K h A) (toV v) d
  | .none, _, x, _, _ => by
    cases x
    exact .non
  | .bool b, _, x, _, _ => by
    cases x
    exact .bl b
  | .int i, _, x, _, _ => by
    cases x
    exact .int i
  | .str s, _, x, _, _ => by
    cases x
    exact .str s
  | .bytes b, _, x, _, _ => by
    cases x
    have z := Dw.byt (K := K) (H := argH K h A) b.toArray
    exact z
  | .list ds, _, x, p, hu => by
    obtain ⟨a, vs, rfl, ho, hall⟩ := well_list x
    obtain ⟨h2, hs⟩ := argL KX ar hu ho
    exact .lst hs (dw_all KX ar ds _ hall p h2)
  | .tuple ds, _, x, p, hu => by
    obtain ⟨a, vs, rfl, ho, hall⟩ := well_tuple x
    obtain ⟨h2, hs⟩ := argT KX ar hu ho
    exact .tup hs (dw_all KX ar ds _ hall p h2)
  | .float _, _, _, p, _ => Bool.noConfusion (show false = true from p)
  | .dict _, _, _, p, _ => Bool.noConfusion (show false = true from p)
  | .bytearray _, _, _, p, _ => Bool.noConfusion (show false = true from p)
  | .set _, _, _, p, _ => Bool.noConfusion (show false = true from p)
  | .frozenset _, _, _, p, _ => Bool.noConfusion (show false = true from p)
  | .obj _ _, _, _, p, _ => Bool.noConfusion (show false = true from p)
theorem dw_all {Pm : Params} (KX : K.In h) (ar : ∀ a ∈ A, ArgOb h A a) : ∀ (ds : List WData) (vs : List Value), WellAll Pm h vs ds → plWs ds = true → (∀ u ∈ vs, OkU A u) → DwAll K (argH K h A) (vs.map toV) ds
  | [], _, x, _, _ => by
    cases x
    exact .nil
  | d :: ds, _, x, p, hu => by
    obtain ⟨v, vs, rfl, x1, x2⟩ := well_cons x
    have q : plW d = true ∧ plWs ds = true := Bool.and_eq_true_iff.mp p
    exact .cons (dw_one KX ar d v x1 q.1 (hu _ (List.mem_cons_self ..))) (dw_all KX ar ds vs x2 q.2 fun u m => hu u (List.mem_cons_of_mem _ m))
end
end
theorem layable_weight {ds : List WData} (h : WData.layableAll ds = true) : ∀ d ∈ ds, d.weight ≤ 1048576 := fun d hd =>
  (PySem.W.layableW_iff.mp (List.all_eq_true.mp h d hd)).2.2
theorem encAll_len : ∀ (cs : List Codec) (a : Codec.denoteAll cs), (Codec.encAll cs a).length = cs.length
  | [], _ => rfl
  | c :: cs, a => by
    show (Codec.encAll cs a.2).length + 1 = cs.length + 1
    rw [encAll_len cs a.2]
end L2
end

set_option linter.all false
set_option maxRecDepth 100000
namespace TB
open Mu45

noncomputable def lowest (r : List Nat) : Nat := match r.getLast? with
  | none => 0
  | some x => x + 1
noncomputable def longer (n : Nat) (rs : List (List Nat)) : List (List Nat) := rs.flatMap fun r => (List.range' (lowest r) (n - lowest r)).map fun k => r ++ [k]
noncomputable def level (n : Nat) : Nat → List (List Nat)
  | 0 => [[]]
  | k + 1 => longer n (level n k)
noncomputable def rowsTo (n k : Nat) : List (List Nat) := (List.range k).flatMap fun j => level n (j + 1)
noncomputable def rowsOf (n : Nat) : List (List Nat) := rowsTo n n
noncomputable def partsN (n : Nat) : List (List Nat) := (List.range (n + 1)).flatMap fun k => partsOf (List.range n) k
theorem parts_eq (t : Tower) : parts t = partsN t.things.length := rfl
theorem parts_rows : ∀ n, n ≤ 5 → partsN n = [] :: rowsOf n
  | 0, _ => by decide
  | 1, _ => by decide
  | 2, _ => by decide
  | 3, _ => by decide +kernel
  | 4, _ => by decide +kernel
  | 5, _ => by decide +kernel
  | n + 6, h => by first | lia | omega
theorem partsN_len : ∀ n, n ≤ 5 → (partsN n).length = 2 ^ n
  | 0, _ => by decide
  | 1, _ => by decide
  | 2, _ => by decide
  | 3, _ => by decide +kernel
  | 4, _ => by decide +kernel
  | 5, _ => by decide +kernel
  | n + 6, h => by first | lia | omega
noncomputable def rowsGood (n : Nat) (rs : List (List Nat)) : Bool := decide (rs.length ≤ 40) && rs.all fun r => decide (r.length ≤ 5) && r.all fun i => decide (i < n)
theorem rows_good : ∀ n, n ≤ 5 → rowsGood n (rowsOf n) = true
  | 0, _ => by decide
  | 1, _ => by decide
  | 2, _ => by decide
  | 3, _ => by decide +kernel
  | 4, _ => by decide +kernel
  | 5, _ => by decide +kernel
  | n + 6, h => by first | lia | omega
theorem levels_good : ∀ n, n ≤ 5 → ((List.range 6).all fun k => rowsGood n (level n k) && rowsGood n (rowsTo n k)) = true
  | 0, _ => by decide
  | 1, _ => by decide
  | 2, _ => by decide +kernel
  | 3, _ => by decide +kernel
  | 4, _ => by decide +kernel
  | 5, _ => by decide +kernel
  | n + 6, h => by first | lia | omega

theorem mem_partsOf : ∀ {u l : List Nat}, u.Sublist l → u ∈ partsOf l u.length := by
  intro u l h
  induction h with
  | slnil => simp [partsOf]
  | @cons l1 l2 a h ih =>
    cases l1 with
    | nil => simp [partsOf]
    | cons b r =>
      show _ ∈ partsOf (a :: l2) (r.length + 1)
      rw [partsOf]
      exact List.mem_append_right _ ih
  | @cons_cons l1 l2 a h ih =>
    show _ ∈ partsOf (a :: l2) (l1.length + 1)
    rw [partsOf]
    exact List.mem_append_left _ (List.mem_map.mpr ⟨_, ih, rfl⟩)
theorem mem_partsN {n : Nat} {u : List Nat} (h : u.Sublist (List.range n)) : u ∈ partsN n := by
  have hl : u.length ≤ n := by
    have := h.length_le
    simpa using this
  exact List.mem_flatMap.mpr ⟨u.length, List.mem_range.mpr (by first | lia | omega), mem_partsOf h⟩
theorem pigeon {α : Type} [DecidableEq α] : ∀ {l L : List α}, l.Nodup → (∀ x ∈ l, x ∈ L) → l.length ≤ L.length
  | [], L, _, _ => Nat.zero_le _
  | a :: l, L, hn, hs => by
    have hn' := List.nodup_cons.mp hn
    have ha : a ∈ L := hs a (List.mem_cons_self ..)
    have hl : ∀ x ∈ l, x ∈ L.erase a := fun x hx => by
      have hne : x ≠ a := fun e => hn'.1 (e ▸ hx)
      exact (List.mem_erase_of_ne hne).mpr (hs x (List.mem_cons_of_mem _ hx))
    have := pigeon hn'.2 hl
    rw [List.length_erase_of_mem ha] at this
    have hp : 0 < L.length := List.length_pos_of_mem ha
    rw [List.length_cons]
    first | lia | omega

noncomputable def put1 (acc : List Way) (w : Way) : List Way := if (acc.map (·.2)).contains w.2 = true then acc else acc ++ [w]
noncomputable def nexts (t : Tower) (w : Way) : List Way := (turns t w.2).map fun go => (w.1 ++ [go], after t w.2 go)
noncomputable def proc (t : Tower) (acc : List Way) (w : Way) : List Way := (nexts t w).foldl put1 acc
noncomputable def accN (t : Tower) (up : Some_) : Nat → List Way
  | 0 => [([], up)]
  | k + 1 => match (accN t up k)[k]? with
    | none => accN t up k
    | some w => proc t (accN t up k) w
theorem put1_pre (acc : List Way) (w : Way) : ∃ r, put1 acc w = acc ++ r := by
  unfold put1
  split
  · exact ⟨[], by simp⟩
  · exact ⟨[w], rfl⟩
theorem fold_pre : ∀ (l : List Way) (acc : List Way), ∃ r, l.foldl put1 acc = acc ++ r
  | [], acc => ⟨[], by simp⟩
  | w :: l, acc => by
    obtain ⟨r1, e1⟩ := put1_pre acc w
    obtain ⟨r2, e2⟩ := fold_pre l (acc ++ r1)
    exact ⟨r1 ++ r2, by rw [List.foldl_cons, e1, e2, List.append_assoc]⟩
theorem proc_pre (t : Tower) (acc : List Way) (w : Way) : ∃ r, proc t acc w = acc ++ r := fold_pre _ _
theorem procs_pre (t : Tower) : ∀ (l : List Way) (acc : List Way), ∃ r, l.foldl (proc t) acc = acc ++ r
  | [], acc => ⟨[], by simp⟩
  | w :: l, acc => by
    obtain ⟨r1, e1⟩ := proc_pre t acc w
    obtain ⟨r2, e2⟩ := procs_pre t l (acc ++ r1)
    exact ⟨r1 ++ r2, by rw [List.foldl_cons, e1, e2, List.append_assoc]⟩
structure Good (n : Nat) (acc : List Way) : Prop where
  nd : (acc.map (·.2)).Nodup
  sub : ∀ w ∈ acc, w.2.Sublist (List.range n)
theorem Good.len {n : Nat} {acc : List Way} (g : Good n acc) (hn : n ≤ 5) : acc.length ≤ 2 ^ n := by
  have h := pigeon (L := partsN n) g.nd (fun x hx => by
    obtain ⟨w, hw, e⟩ := List.mem_map.mp hx
    subst e
    exact mem_partsN (g.sub w hw))
  rw [List.length_map, partsN_len n hn] at h
  exact h
theorem Good.put1 {n : Nat} {acc : List Way} {w : Way} (g : Good n acc) (hw : w.2.Sublist (List.range n)) : Good n (put1 acc w) := by
  unfold TB.put1
  split
  · exact g
  · rename_i h
    refine ⟨?_, fun x hx => ?_⟩
    · rw [List.map_append, List.nodup_append]
      refine ⟨g.nd, by simp, fun a ha b hb => ?_⟩
      simp at hb
      subst hb
      intro e
      subst e
      exact h (List.contains_iff_mem.mpr ha)
    · rcases List.mem_append.mp hx with hx | hx
      · exact g.sub x hx
      · simp at hx
        subst hx
        exact hw
theorem after_sub (t : Tower) (up go : Some_) : (after t up go).Sublist (List.range t.things.length) := List.filter_sublist
theorem Good.fold {n : Nat} : ∀ {l : List Way} {acc : List Way}, Good n acc → (∀ w ∈ l, w.2.Sublist (List.range n)) → Good n (l.foldl TB.put1 acc)
  | [], _, g, _ => g
  | w :: l, acc, g, h => Good.fold (l := l) (g.put1 (h w (List.mem_cons_self ..))) fun x hx => h x (List.mem_cons_of_mem _ hx)
theorem nexts_sub (t : Tower) (w : Way) : ∀ x ∈ nexts t w, x.2.Sublist (List.range t.things.length) := fun x hx => by
  obtain ⟨go, _, e⟩ := List.mem_map.mp hx
  subst e
  exact after_sub ..
theorem Good.proc {t : Tower} {acc : List Way} {w : Way} (g : Good t.things.length acc) : Good t.things.length (proc t acc w) := g.fold (nexts_sub t w)
theorem Good.start {n : Nat} {up : Some_} (h : up.Sublist (List.range n)) : Good n [([], up)] := ⟨by simp, fun w hw => by simp at hw; subst hw; exact h⟩
theorem Good.accN {t : Tower} {up : Some_} (h : up.Sublist (List.range t.things.length)) : ∀ k, Good t.things.length (accN t up k)
  | 0 => .start h
  | k + 1 => by
    rw [TB.accN]
    split
    · exact Good.accN h k
    · exact (Good.accN h k).proc
theorem accN_stop {t : Tower} {up : Some_} {K : Nat} (h : (accN t up K).length ≤ K) : ∀ j, accN t up (K + j) = accN t up K
  | 0 => rfl
  | j + 1 => by
    have ih := accN_stop h j
    show accN t up ((K + j) + 1) = _
    rw [accN, ih, List.getElem?_eq_none (by first | lia | omega)]
theorem accN_same {t : Tower} {up : Some_} {K k : Nat} (h : (accN t up K).length ≤ K) (h' : (accN t up k).length ≤ k) : accN t up K = accN t up k := by
  rcases Nat.le_total K k with q | q
  · have e := accN_stop h (k - K)
    rw [show K + (k - K) = k by first | lia | omega] at e
    exact e.symm
  · have e := accN_stop h' (K - k)
    rw [show k + (K - k) = K by first | lia | omega] at e
    exact e
theorem accN_front {t : Tower} {up : Some_} {k : Nat} {done front : List Way} (e : accN t up k = done ++ front) (hk : done.length = k) : ∀ j, j ≤ front.length → accN t up (k + j) = (front.take j).foldl (proc t) (done ++ front)
  | 0, _ => by simpa using e
  | j + 1, hj => by
    have ih := accN_front e hk j (by first | lia | omega)
    show accN t up ((k + j) + 1) = _
    obtain ⟨r, er⟩ := procs_pre t (front.take j) (done ++ front)
    have hlt : j < front.length := by first | lia | omega
    have eg : (accN t up (k + j))[k + j]? = some front[j] := by
      rw [ih, er, List.append_assoc, List.getElem?_append_right (by first | lia | omega), List.getElem?_append_left (by first | lia | omega)]
      rw [show k + j - done.length = j by first | lia | omega]
      exact List.getElem?_eq_getElem hlt
    rw [accN, eg, ih, ← List.take_append_getElem hlt, List.foldl_append]
    rfl
noncomputable def stepP (y : List Some_ × List Way) (w : Way) : List Some_ × List Way := if y.1.contains w.2 = true then y else (y.1 ++ [w.2], y.2 ++ [w])
theorem stepP_fold : ∀ (l : List Way) (acc B : List Way), ∃ B', l.foldl put1 (acc ++ B) = acc ++ B' ∧ l.foldl stepP ((acc ++ B).map (·.2), B) = ((acc ++ B').map (·.2), B')
  | [], acc, B => ⟨B, rfl, rfl⟩
  | w :: l, acc, B => by
    by_cases h : ((acc ++ B).map (·.2)).contains w.2 = true
    · obtain ⟨B', e1, e2⟩ := stepP_fold l acc B
      refine ⟨B', ?_, ?_⟩
      · rw [List.foldl_cons, put1, if_pos h]
        exact e1
      · rw [List.foldl_cons, stepP, if_pos h]
        exact e2
    · obtain ⟨B', e1, e2⟩ := stepP_fold l acc (B ++ [w])
      refine ⟨B', ?_, ?_⟩
      · rw [List.foldl_cons, put1, if_neg h, List.append_assoc]
        exact e1
      · rw [List.foldl_cons, stepP, if_neg h]
        have e3 : (((acc ++ B).map (·.2), B).1 ++ [w.2], ((acc ++ B).map (·.2), B).2 ++ [w]) = ((acc ++ (B ++ [w])).map (fun (x : Way) => x.2), B ++ [w]) := by simp
        rw [e3]
        exact e2
theorem foldl_flat {α β γ : Type} (g : α → List β) (f : γ → β → γ) : ∀ (l : List α) (a : γ), (l.flatMap g).foldl f a = l.foldl (fun a w => (g w).foldl f a) a
  | [], a => rfl
  | x :: l, a => by rw [List.flatMap_cons, List.foldl_append, List.foldl_cons, foldl_flat g f l]
theorem wave_eq (t : Tower) (acc front : List Way) : ∃ nx, front.foldl (proc t) acc = acc ++ nx ∧ wave t (acc.map (·.2)) front = ((acc ++ nx).map (·.2), nx) := by
  obtain ⟨B', e1, e2⟩ := stepP_fold (front.flatMap (nexts t)) acc []
  rw [List.append_nil] at e1 e2
  refine ⟨B', ?_, ?_⟩
  · rw [foldl_flat] at e1
    exact e1
  · exact e2
theorem waves_eq {t : Tower} {up : Some_} (hu : up.Sublist (List.range t.things.length)) (hn : t.things.length ≤ 5) {K : Nat} (hK : (accN t up K).length ≤ K) :
    ∀ (fuel k : Nat) (done front : List Way), accN t up k = done ++ front → done.length = k → 2 ^ t.things.length + 1 ≤ done.length + fuel →
      accN t up K = done ++ waves t fuel ((done ++ front).map (·.2)) front
  | 0, k, done, front, e, hk, hf => by
    have h := (Good.accN hu k).len hn
    rw [e, List.length_append] at h
    first | lia | omega
  | fuel + 1, k, done, front, e, hk, hf => by
    rw [waves]
    cases front with
    | nil =>
      have h' : (accN t up k).length ≤ k := by rw [e]; simp; first | lia | omega
      rw [accN_same hK h', e]
      rfl
    | cons w r =>
      obtain ⟨nx, e1, e2⟩ := wave_eq t (done ++ w :: r) (w :: r)
      have e3 := accN_front e hk (w :: r).length (Nat.le_refl _)
      rw [List.take_length, e1] at e3
      have ih := waves_eq hu hn hK fuel (k + (w :: r).length) (done ++ w :: r) nx e3 (by rw [List.length_append]; first | lia | omega) (by rw [List.length_append, List.length_cons]; first | lia | omega)
      rw [if_neg (by simp), e2]
      show _ = done ++ (w :: r ++ _)
      rw [← List.append_assoc]
      exact ih
theorem comes_eq {t : Tower} {up : Some_} (hu : up.Sublist (List.range t.things.length)) (hn : t.things.length ≤ 5) {K : Nat} (hK : (accN t up K).length ≤ K) : accN t up K = comes t up :=
  waves_eq hu hn hK (2 ^ t.things.length + 1) 0 [] [([], up)] rfl rfl (by simp)
theorem accN_len {t : Tower} {up : Some_} (hu : up.Sublist (List.range t.things.length)) (hn : t.things.length ≤ 5) (k : Nat) : (accN t up k).length ≤ 32 := by
  refine Nat.le_trans ((Good.accN hu k).len hn) ?_
  exact Nat.pow_le_pow_right (by decide) hn
end TB

set_option linter.all false
set_option maxRecDepth 100000
namespace TB
open Mu45

noncomputable def wAt (t : Tower) (i : Nat) : Nat := match t.things[i]? with
  | some x => x.heavy
  | none => 0
noncomputable def pAt (t : Tower) (i : Nat) : Bool := match t.things[i]? with
  | some x => x.person
  | none => false
noncomputable def pplOf (t : Tower) : List Nat := (List.range t.things.length).filter (pAt t)
noncomputable def sumW (t : Tower) (l : List Nat) : Int := (l.map fun i => (wAt t i : Int)).sum
theorem foldl_add (l : List Nat) : ∀ a : Nat, ((l.foldl (fun (a b : Nat) => a + b) a : Nat) : Int) = (a : Int) + (l.map fun (i : Nat) => (i : Int)).sum := by
  induction l with
  | nil => intro a; simp
  | cons x l ih =>
    intro a
    rw [List.foldl_cons, ih, List.map_cons, List.sum_cons]
    first | lia | omega
theorem weight_sum (t : Tower) (l : List Nat) : (weight t l : Int) = sumW t l := by
  unfold weight total sumW
  rw [foldl_add, List.map_map]
  refine (Int.zero_add _).trans ?_
  rfl
theorem people_any (t : Tower) (l : List Nat) : people t l = l.any (pAt t) := rfl
theorem ppl_mem (t : Tower) (i : Nat) : (pplOf t).contains i = pAt t i := by
  rw [Bool.eq_iff_iff, List.contains_iff_mem, pplOf, List.mem_filter, List.mem_range]
  constructor
  · exact fun h => h.2
  · intro h
    refine ⟨?_, h⟩
    unfold pAt at h
    cases e : t.things[i]? with
    | none => rw [e] at h; cases h
    | some x => exact (List.getElem?_eq_some_iff.mp e).1
theorem among (t : Tower) (l : List Nat) : decide (0 < ((l.filter fun i => (pplOf t).contains i).length : Int)) = people t l := by
  rw [people_any, Bool.eq_iff_iff, decide_eq_true_iff, List.any_eq_true]
  constructor
  · intro h
    have hp : 0 < (l.filter fun i => (pplOf t).contains i).length := by first | lia | omega
    obtain ⟨x, hx⟩ := List.exists_mem_of_length_pos hp
    rw [List.mem_filter, ppl_mem] at hx
    exact ⟨x, hx⟩
  · rintro ⟨x, hx, hp⟩
    have hm : x ∈ l.filter fun i => (pplOf t).contains i := List.mem_filter.mpr ⟨hx, by rw [ppl_mem]; exact hp⟩
    have := List.length_pos_of_mem hm
    first | lia | omega
theorem split_len (p : Nat → Bool) : ∀ l : List Nat, (l.filter p).length + (l.filter fun i => !p i).length = l.length
  | [] => rfl
  | x :: l => by
    have ih := split_len p l
    rw [List.filter_cons, List.filter_cons]
    cases p x <;> simp <;> first | lia | omega
noncomputable def dif (t : Tower) (up go : List Nat) : Int := sumW t (down up go) - sumW t (upward up go)
noncomputable def over (t : Tower) (up go : List Nat) : Bool := decide ((t.holds : Int) < (down up go).length) || decide ((t.holds : Int) < (go.length : Int) - (down up go).length)
noncomputable def verd (t : Tower) (up go : List Nat) : Int := if over t up go = true then -4 else if dif t up go ≤ 0 then -6 else if (t.unlike : Int) < dif t up go ∧ people t go = true then -7 else 0
theorem gap_dif {t : Tower} {up go : List Nat} (h : 0 < dif t up go) : (gap t up go : Int) = dif t up go := by
  unfold gap dif at *
  rw [← weight_sum, ← weight_sum] at *
  first | lia | omega
theorem verd_why (t : Tower) (up go : List Nat) : verd t up go = why t up go := by
  unfold verd why
  have h1 : (over t up go = true) ↔ (t.holds < (down up go).length ∨ t.holds < (upward up go).length) := by
    unfold over
    have := split_len (fun i => up.contains i) go
    rw [Bool.or_eq_true, decide_eq_true_iff, decide_eq_true_iff]
    show _ ↔ (t.holds < (go.filter fun i => up.contains i).length ∨ t.holds < (go.filter fun i => !up.contains i).length)
    show ((t.holds : Int) < ((go.filter fun i => up.contains i).length : Int) ∨ (t.holds : Int) < (go.length : Int) - ((go.filter fun i => up.contains i).length : Int)) ↔ _
    first | lia | omega
  by_cases c1 : t.holds < (down up go).length ∨ t.holds < (upward up go).length
  · rw [if_pos (h1.mpr c1), if_pos c1]
  · rw [if_neg (fun h => c1 (h1.mp h)), if_neg c1]
    have h2 : dif t up go ≤ 0 ↔ weight t (down up go) ≤ weight t (upward up go) := by
      unfold dif
      rw [← weight_sum, ← weight_sum]
      first | lia | omega
    by_cases c2 : weight t (down up go) ≤ weight t (upward up go)
    · rw [if_pos (h2.mpr c2), if_pos c2]
    · rw [if_neg (fun h => c2 (h2.mp h)), if_neg c2]
      have hd : 0 < dif t up go := by
        have := fun h => c2 (h2.mp h)
        first | lia | omega
      have hg := gap_dif hd
      by_cases c3 : people t go = true ∧ t.unlike < gap t up go
      · rw [if_pos ⟨by first | lia | omega, c3.1⟩, if_pos c3]
      · rw [if_neg c3, if_neg (fun h => c3 ⟨h.2, by first | lia | omega⟩)]
theorem why_nil (t : Tower) (up : List Nat) : why t up [] = -6 := by
  unfold why
  rw [if_neg (by simp [down, upward]), if_pos (by simp [down, upward])]
theorem turns_rows {t : Tower} (hn : t.things.length ≤ 5) (up : List Nat) : turns t up = (rowsOf t.things.length).filter fun go => verd t up go == 0 := by
  unfold turns
  rw [parts_eq, parts_rows _ hn, List.filter_cons, if_neg (by rw [why_nil]; decide)]
  congr 1
  funext go
  rw [verd_why]

theorem eraseDups_le : ∀ (n : Nat) (l : List Nat), l.length ≤ n → l.eraseDups.length ≤ l.length
  | 0, [], _ => by simp
  | 0, a :: l, h => by simp at h
  | n + 1, [], _ => by simp
  | n + 1, a :: l, h => by
    rw [List.eraseDups_cons, List.length_cons, List.length_cons]
    have h1 : (l.filter fun b => !b == a).length ≤ l.length := List.length_filter_le _ _
    have h2 := eraseDups_le n (l.filter fun b => !b == a) (by rw [List.length_cons] at h; first | lia | omega)
    first | lia | omega
theorem eraseDups_iff : ∀ (n : Nat) (l : List Nat), l.length ≤ n → (l.eraseDups.length = l.length ↔ l.Nodup)
  | 0, [], _ => by simp
  | 0, a :: l, h => by simp at h
  | n + 1, [], _ => by simp
  | n + 1, a :: l, h => by
    rw [List.eraseDups_cons, List.length_cons, List.length_cons, List.nodup_cons]
    have hl : l.length ≤ n := by rw [List.length_cons] at h; first | lia | omega
    have h1 : (l.filter fun b => !b == a).length ≤ l.length := List.length_filter_le _ _
    have h2 := eraseDups_le n (l.filter fun b => !b == a) (by first | lia | omega)
    constructor
    · intro e
      have e1 : (l.filter fun b => !b == a).length = l.length := by first | lia | omega
      have e2 : (l.filter fun b => !b == a) = l := List.length_filter_eq_length_iff.mp e1 |> fun h => List.filter_eq_self.mpr h
      refine ⟨fun hm => ?_, ?_⟩
      · have := List.filter_eq_self.mp e2 a hm
        simp at this
      · rw [e2] at e
        exact (eraseDups_iff n l hl).mp (by first | lia | omega)
    · rintro ⟨hm, hn⟩
      have e2 : (l.filter fun b => !b == a) = l := List.filter_eq_self.mpr fun b hb => by
        have : b ≠ a := fun e => hm (e ▸ hb)
        simpa using this
      rw [e2, (eraseDups_iff n l hl).mpr hn]
noncomputable def okThings (t : Tower) (l : List Nat) : Bool := decide (l.Nodup) && l.all fun i => decide (i < t.things.length)
noncomputable def pick (t : Tower) (l : List Nat) : List Nat := (List.range t.things.length).filter fun i => l.contains i
theorem someOf_eq (t : Tower) (l : List Nat) : someOf t l = if okThings t l = true then some (pick t l) else none := by
  unfold someOf okThings
  have h := eraseDups_iff l.length l (Nat.le_refl _)
  by_cases c : l.eraseDups.length = l.length ∧ l.all (fun (i : Nat) => decide (i < t.things.length)) = true
  · rw [if_pos c, if_pos (by rw [Bool.and_eq_true, decide_eq_true_iff]; exact ⟨h.mp c.1, c.2⟩)]
    rfl
  · rw [if_neg c, if_neg (by rw [Bool.and_eq_true, decide_eq_true_iff]; exact fun q => c ⟨h.mpr q.1, q.2⟩)]
theorem pick_mem {t : Tower} {l : List Nat} (h : okThings t l = true) (i : Nat) : i ∈ pick t l ↔ i ∈ l := by
  unfold okThings at h
  rw [Bool.and_eq_true, List.all_eq_true] at h
  rw [pick, List.mem_filter, List.mem_range, List.contains_iff_mem]
  constructor
  · exact fun q => q.2
  · exact fun q => ⟨of_decide_eq_true (h.2 i q), q⟩
theorem pick_perm {t : Tower} {l : List Nat} (h : okThings t l = true) : (pick t l).Perm l := by
  have hn : l.Nodup := by
    unfold okThings at h
    rw [Bool.and_eq_true] at h
    exact of_decide_eq_true h.1
  have h1 : (pick t l).Nodup := List.Pairwise.filter _ List.nodup_range
  exact (List.perm_ext_iff_of_nodup h1 hn).mpr (pick_mem h)
theorem sumW_perm {t : Tower} {l m : List Nat} (h : l.Perm m) : sumW t l = sumW t m := by
  unfold sumW
  induction h with
  | nil => rfl
  | cons x _ ih => simp only [List.map_cons, List.sum_cons]; rw [ih]
  | swap x y l => simp only [List.map_cons, List.sum_cons]; first | lia | omega
  | trans _ _ ih1 ih2 => rw [ih1, ih2]
theorem dif_perm {t : Tower} {up l m : List Nat} (h : l.Perm m) : dif t up l = dif t up m := by
  unfold dif down upward
  rw [sumW_perm (h.filter fun i => up.contains i), sumW_perm (h.filter fun i => !up.contains i)]
theorem people_perm {t : Tower} {l m : List Nat} (h : l.Perm m) : people t l = people t m := by
  rw [people_any, people_any, Bool.eq_iff_iff, List.any_eq_true, List.any_eq_true]
  constructor
  · rintro ⟨x, hx, p⟩
    exact ⟨x, h.mem_iff.mp hx, p⟩
  · rintro ⟨x, hx, p⟩
    exact ⟨x, h.mem_iff.mpr hx, p⟩
theorem verd_perm {t : Tower} {up l m : List Nat} (h : l.Perm m) : verd t up l = verd t up m := by
  have e1 : over t up l = over t up m := by
    unfold over
    rw [h.length_eq, show (down up l).length = (down up m).length from (h.filter fun i => up.contains i).length_eq]
  unfold verd
  rw [e1, dif_perm h, people_perm h]
theorem contains_perm {l m : List Nat} (h : l.Perm m) (i : Nat) : l.contains i = m.contains i := by
  rw [Bool.eq_iff_iff, List.contains_iff_mem, List.contains_iff_mem]
  exact h.mem_iff
theorem after_perm {t : Tower} {up l m : List Nat} (h : l.Perm m) : after t up l = after t up m := by
  unfold after
  congr 1
  funext i
  rw [contains_perm h]
theorem sorted_pick {t : Tower} {l : List Nat} {ns : List Int} (h : okThings t l = true) (hp : ns.Perm (l.map fun (i : Nat) => (i : Int))) (hs : ns.Pairwise (· ≤ ·)) : ns = (pick t l).map fun (i : Nat) => (i : Int) := by
  refine List.Perm.eq_of_pairwise (le := (· ≤ ·)) (fun a b _ _ h1 h2 => Int.le_antisymm h1 h2) hs ?_ (hp.trans ((pick_perm h).map _).symm)
  rw [List.pairwise_map]
  refine (List.Pairwise.filter _ List.pairwise_lt_range).imp ?_
  intro a b h
  first | lia | omega
end TB

set_option linter.all false
set_option maxRecDepth 100000
namespace TB
open Mu45

structure Nine (m : List Int) : Prop where
  len : m.length ≤ 6
  all : ∀ z ∈ m, 0 ≤ z ∧ z ≤ 9
theorem nine_of {m : List Int} (h : Mu45Neutral.things m = true) : Nine m := by
  unfold Mu45Neutral.things at h
  rw [Bool.and_eq_true, decide_eq_true_iff, List.all_eq_true] at h
  refine ⟨h.1, fun z hz => ?_⟩
  have := h.2 z hz
  unfold Mu45Neutral.nine NeutralIO.within at this
  rw [Bool.and_eq_true, decide_eq_true_iff, decide_eq_true_iff] at this
  exact this
inductive Form : List (List Int) → Prop
  | begin_ (d k : Int) (l : List (List Int)) (hd : 0 ≤ d ∧ d ≤ 400) (hk : 0 ≤ k ∧ k ≤ 9) (hl : l.length ≤ 6) (hx : ∀ x ∈ l, x.length ≤ 3 ∧ ∀ z ∈ x, 0 ≤ z ∧ z ≤ 400) : Form ([0, d, k] :: l)
  | turn (m : List Int) (h : Nine m) : Form [[1], m]
  | why (m : List Int) (h : Nine m) : Form [[2], m]
  | turns : Form [[3]]
  | fewest : Form [[4]]
  | to (m : List Int) (h : Nine m) : Form [[5], m]
  | comes : Form [[6]]
  | least : Form [[7]]
  | limit (d : Int) (hd : 0 ≤ d ∧ d ≤ 400) : Form [[8, d]]
  | follow (n : Int) (hn : 0 ≤ n ∧ n ≤ 40) : Form [[9, n]]
  | look : Form [[10]]
theorem within_iff {n lo hi : Int} : NeutralIO.within n lo hi = true ↔ lo ≤ n ∧ n ≤ hi := by
  unfold NeutralIO.within
  rw [Bool.and_eq_true, decide_eq_true_iff, decide_eq_true_iff]
theorem nope {p : Prop} (h : false = true) : p := Bool.noConfusion h
theorem form_of {c : List (List Int)} (h : Mu45Neutral.asked1 c = true) : Form c := by
  rcases c with _ | ⟨x, l⟩
  · exact nope h
  rcases x with _ | ⟨p, ns⟩
  · exact nope h
  rcases p with n | n
  · rcases n with _ | _ | _ | _ | _ | _ | _ | _ | _ | _ | _ | n
    · rcases ns with _ | ⟨d, _ | ⟨k, _ | ⟨z, r⟩⟩⟩
      · exact nope h
      · exact nope h
      · have h' : (Mu45Neutral.much d && (Mu45Neutral.nine k && (decide (l.length ≤ 6) && l.all fun (x : List Int) => decide (x.length ≤ 3) && x.all Mu45Neutral.much))) = true := h
        rw [Bool.and_eq_true, Bool.and_eq_true, Bool.and_eq_true, decide_eq_true_iff, List.all_eq_true] at h'
        obtain ⟨h1, h2, h3, h4⟩ := h'
        refine .begin_ d k l (within_iff.mp h1) (within_iff.mp h2) h3 fun x hx => ?_
        have := h4 x hx
        rw [Bool.and_eq_true, decide_eq_true_iff, List.all_eq_true] at this
        exact ⟨this.1, fun z hz => within_iff.mp (this.2 z hz)⟩
      · exact nope h
    · rcases ns with _ | ⟨d, r⟩
      · rcases l with _ | ⟨m, _ | ⟨y, r⟩⟩
        · exact nope h
        · exact .turn m (nine_of h)
        · exact nope h
      · exact nope h
    · rcases ns with _ | ⟨d, r⟩
      · rcases l with _ | ⟨m, _ | ⟨y, r⟩⟩
        · exact nope h
        · exact .why m (nine_of h)
        · exact nope h
      · exact nope h
    · rcases ns with _ | ⟨d, r⟩
      · rcases l with _ | ⟨m, r⟩
        · exact .turns
        · exact nope h
      · exact nope h
    · rcases ns with _ | ⟨d, r⟩
      · rcases l with _ | ⟨m, r⟩
        · exact .fewest
        · exact nope h
      · exact nope h
    · rcases ns with _ | ⟨d, r⟩
      · rcases l with _ | ⟨m, _ | ⟨y, r⟩⟩
        · exact nope h
        · exact .to m (nine_of h)
        · exact nope h
      · exact nope h
    · rcases ns with _ | ⟨d, r⟩
      · rcases l with _ | ⟨m, r⟩
        · exact .comes
        · exact nope h
      · exact nope h
    · rcases ns with _ | ⟨d, r⟩
      · rcases l with _ | ⟨m, r⟩
        · exact .least
        · exact nope h
      · exact nope h
    · rcases ns with _ | ⟨d, _ | ⟨e, r⟩⟩
      · exact nope h
      · rcases l with _ | ⟨m, r⟩
        · exact .limit d (within_iff.mp h)
        · exact nope h
      · exact nope h
    · rcases ns with _ | ⟨d, _ | ⟨e, r⟩⟩
      · exact nope h
      · rcases l with _ | ⟨m, r⟩
        · exact .follow d (within_iff.mp h)
        · exact nope h
      · exact nope h
    · rcases ns with _ | ⟨d, r⟩
      · rcases l with _ | ⟨m, r⟩
        · exact .look
        · exact nope h
      · exact nope h
    · exact nope h
  · exact nope h

theorem row_read {r x s : List Int} (h : PyFlat.row r = some (x, s)) : ∃ n r', r = n :: r' ∧ 0 ≤ n ∧ n.toNat ≤ r'.length ∧ x = r'.take n.toNat ∧ s = r'.drop n.toNat := by
  unfold PyFlat.row at h
  split at h
  · cases h
  · rename_i n r'
    split at h
    · rename_i hc
      injection h with h
      injection h with h1 h2
      exact ⟨n, r', rfl, hc.1, hc.2, h1.symm, h2.symm⟩
    · cases h
theorem rows_read {k : Nat} {r s : List Int} {xs : List (List Int)} (h : PyFlat.rows (k + 1) r = some (xs, s)) : ∃ x s1 xs', PyFlat.row r = some (x, s1) ∧ PyFlat.rows k s1 = some (xs', s) ∧ xs = x :: xs' := by
  rw [PyFlat.rows] at h
  split at h
  · cases h
  · rename_i x s1 e1
    split at h
    · cases h
    · rename_i xs' t e2
      injection h with h
      injection h with h1 h2
      subst h1 h2
      exact ⟨x, s1, xs', e1, e2, rfl⟩
theorem rows_len : ∀ {k : Nat} {r s : List Int} {xs : List (List Int)}, PyFlat.rows k r = some (xs, s) → xs.length = k
  | 0, r, s, xs, h => by
    rw [PyFlat.rows] at h
    injection h with h
    injection h with h1 h2
    subst h1
    rfl
  | k + 1, r, s, xs, h => by
    obtain ⟨x, s1, xs', _, h2, rfl⟩ := rows_read h
    rw [List.length_cons, rows_len h2]
theorem call_read {l t : List Int} {c : List (List Int)} (h : PyWide.call l = some (c, t)) :
    ∃ p r ns k r2 xs, l = p :: r ∧ PyFlat.row r = some (ns, k :: r2) ∧ 0 ≤ k ∧ PyFlat.rows k.toNat r2 = some (xs, t) ∧ c = (p :: ns) :: xs := by
  unfold PyWide.call at h
  split at h
  · cases h
  · rename_i p r
    split at h
    · cases h
    · cases h
    · rename_i ns k r2 e1
      split at h
      · rename_i hk
        split at h
        · cases h
        · rename_i xs u e2
          injection h with h
          injection h with h1 h2
          subst h1 h2
          exact ⟨p, r, ns, k, r2, xs, rfl, e1, hk, e2, rfl⟩
      · cases h
theorem calls_read {f : Nat} {l : List Int} {cs : List (List (List Int))} (h : PyWide.calls f l = some cs) : (l = [] ∧ cs = []) ∨ ∃ f' c t cs', f = f' + 1 ∧ l ≠ [] ∧ PyWide.call l = some (c, t) ∧ PyWide.calls f' t = some cs' ∧ cs = c :: cs' := by
  unfold PyWide.calls at h
  split at h
  · injection h with h
    exact .inl ⟨rfl, h.symm⟩
  · cases h
  · rename_i f' p r
    split at h
    · cases h
    · rename_i c t e1
      split at h
      · cases h
      · rename_i cs' e2
        injection h with h
        exact .inr ⟨f', c, t, cs', rfl, by simp, e1, e2, h.symm⟩
theorem drop_cons {α : Type} {ns : List α} {p : Nat} {a : α} {r : List α} (h : ns.drop p = a :: r) : ns[p]? = some a ∧ ns.drop (p + 1) = r ∧ p < ns.length := by
  have hp : p < ns.length := by
    have e := congrArg List.length h
    rw [List.length_drop, List.length_cons] at e
    first | lia | omega
  have e := List.drop_eq_getElem_cons hp
  rw [h] at e
  injection e with e1 e2
  exact ⟨by rw [List.getElem?_eq_getElem hp, e1], e2.symm, hp⟩
theorem nats_zs {m : List Int} (h : ∀ z ∈ m, 0 ≤ z) : (Mu45Neutral.nats m).map (fun (i : Nat) => (i : Int)) = m := by
  unfold Mu45Neutral.nats
  rw [List.map_map]
  conv => rhs; rw [← List.map_id m]
  refine List.map_congr_left fun z hz => ?_
  have := h z hz
  simp
  first | lia | omega
theorem played_cons {S : Type} (step : S → List (List Int) → S × List Int) (s : S) (c : List (List Int)) (r : List (List (List Int))) : PyFlat.told (PyFlat.played step s (c :: r)) = ((step s c).2.length : Int) :: (step s c).2 ++ PyFlat.told (PyFlat.played step (step s c).1 r) := by
  simp [PyFlat.played, PyFlat.told]
end TB

set_option linter.all false
set_option maxRecDepth 100000
namespace TB
open Mu45
structure WGood (n : Nat) (acc : List Way) : Prop where
  len : ∀ (i : Nat) (w : Way), acc[i]? = some w → w.1.length ≤ i
  row : ∀ w ∈ acc, ∀ r ∈ w.1, r ∈ rowsOf n
theorem WGood.put1 {n : Nat} {acc : List Way} {w : Way} (g : WGood n acc) (h1 : w.1.length ≤ acc.length) (h2 : ∀ r ∈ w.1, r ∈ rowsOf n) : WGood n (put1 acc w) := by
  unfold TB.put1
  split
  · exact g
  · refine ⟨fun i v hv => ?_, fun v hv => ?_⟩
    · by_cases hi : i < acc.length
      · rw [List.getElem?_append_left hi] at hv
        exact g.len i v hv
      · rw [List.getElem?_append_right (by first | lia | omega)] at hv
        have e : i - acc.length = 0 := by
          by_cases h0 : i - acc.length = 0
          · exact h0
          · rw [List.getElem?_eq_none (by simp; first | lia | omega)] at hv
            cases hv
        rw [e] at hv
        cases hv
        first | lia | omega
    · rcases List.mem_append.mp hv with hv | hv
      · exact g.row v hv
      · simp at hv
        subst hv
        exact h2
theorem WGood.fold {n : Nat} : ∀ {l : List Way} {acc : List Way}, WGood n acc → (∀ w ∈ l, w.1.length ≤ acc.length ∧ ∀ r ∈ w.1, r ∈ rowsOf n) → WGood n (l.foldl TB.put1 acc)
  | [], _, g, _ => g
  | w :: l, acc, g, h => by
    have hw := h w (List.mem_cons_self ..)
    refine WGood.fold (l := l) (g.put1 hw.1 hw.2) fun x hx => ?_
    obtain ⟨r, e⟩ := put1_pre acc w
    have hx' := h x (List.mem_cons_of_mem _ hx)
    exact ⟨by rw [e, List.length_append]; first | lia | omega, hx'.2⟩
theorem turns_mem {t : Tower} (hn : t.things.length ≤ 5) {up go : List Nat} (h : go ∈ turns t up) : go ∈ rowsOf t.things.length := by
  rw [turns_rows hn] at h
  exact (List.mem_filter.mp h).1
theorem nexts_w {t : Tower} (hn : t.things.length ≤ 5) {acc : List Way} {k : Nat} {w : Way} (g : WGood t.things.length acc) (hk : acc[k]? = some w) : ∀ x ∈ nexts t w, x.1.length ≤ acc.length ∧ ∀ r ∈ x.1, r ∈ rowsOf t.things.length := fun x hx => by
  obtain ⟨go, hgo, e⟩ := List.mem_map.mp hx
  subst e
  have hlt := (List.getElem?_eq_some_iff.mp hk).1
  have hl := g.len k w hk
  refine ⟨by simp; first | lia | omega, fun r hr => ?_⟩
  rcases List.mem_append.mp hr with hr | hr
  · exact g.row w (List.mem_of_getElem? hk) r hr
  · simp at hr
    subst hr
    exact turns_mem hn hgo
theorem WGood.accN {t : Tower} {up : Some_} (hn : t.things.length ≤ 5) : ∀ k, WGood t.things.length (accN t up k)
  | 0 => by
    refine ⟨fun i w h => ?_, fun w hw r hr => ?_⟩
    · cases i with
      | zero =>
        cases h
        exact Nat.zero_le _
      | succ i => cases h
    · simp [TB.accN] at hw
      subst hw
      cases hr
  | k + 1 => by
    have ih := WGood.accN (up := up) hn k
    rw [TB.accN]
    split
    · exact ih
    · rename_i w e
      exact ih.fold (nexts_w hn ih e)
theorem part_good {t : Tower} {up : Some_} (hu : up.Sublist (List.range t.things.length)) (hn : t.things.length ≤ 5) {k : Nat} {w : Way} (hk : (accN t up k)[k]? = some w) (j : Nat) :
    Good t.things.length (((nexts t w).take j).foldl put1 (accN t up k)) ∧ WGood t.things.length (((nexts t w).take j).foldl put1 (accN t up k)) :=
  ⟨(Good.accN hu k).fold fun x hx => nexts_sub t w x (List.mem_of_mem_take hx), (WGood.accN hn k).fold fun x hx => nexts_w hn (WGood.accN hn k) hk x (List.mem_of_mem_take hx)⟩
theorem part_at {t : Tower} {up : Some_} {k : Nat} {w : Way} (hk : (accN t up k)[k]? = some w) (j : Nat) : (((nexts t w).take j).foldl put1 (accN t up k))[k]? = some w := by
  obtain ⟨r, e⟩ := fold_pre ((nexts t w).take j) (accN t up k)
  rw [e, List.getElem?_append_left (List.getElem?_eq_some_iff.mp hk).1]
  exact hk
theorem nexts_at {t : Tower} {w : Way} {j : Nat} {go : Some_} (h : (turns t w.2)[j]? = some go) : (nexts t w)[j]? = some (w.1 ++ [go], after t w.2 go) := by
  unfold nexts
  rw [List.getElem?_map, h]
  rfl
theorem nexts_len (t : Tower) (w : Way) : (nexts t w).length = (turns t w.2).length := List.length_map ..
theorem accN_succ {t : Tower} {up : Some_} {k : Nat} {w : Way} (hk : (accN t up k)[k]? = some w) : accN t up (k + 1) = (nexts t w).foldl put1 (accN t up k) := by
  rw [TB.accN, hk]
  rfl
theorem comes_good {t : Tower} {up : Some_} (hu : up.Sublist (List.range t.things.length)) (hn : t.things.length ≤ 5) {K : Nat} (hK : (accN t up K).length ≤ K) : Good t.things.length (comes t up) ∧ WGood t.things.length (comes t up) ∧ (comes t up).length ≤ 32 := by
  rw [← comes_eq hu hn hK]
  exact ⟨Good.accN hu K, WGood.accN hn K, accN_len hu hn K⟩
theorem accN_ends {t : Tower} {up : Some_} (hu : up.Sublist (List.range t.things.length)) (hn : t.things.length ≤ 5) : (accN t up 32).length ≤ 32 := accN_len hu hn 32
end TB

set_option linter.all false
set_option maxRecDepth 100000
namespace TB
open Mu45
noncomputable def needL (t : Tower) (up go : List Nat) : Int := if people t go = true then dif t up go else 0
noncomputable def free (t : Tower) (u : List Nat) : List (List Nat) := (rowsOf t.things.length).filter fun go => verd t u go == 0 || verd t u go == -7
inductive Reach (t : Tower) (up : List Nat) (d : Int) : List Nat → Prop
  | start : Reach t up d up
  | turn {u row : List Nat} : Reach t up d u → row ∈ free t u → needL t u row ≤ d → Reach t up d (after t u row)
theorem Reach.mono {t : Tower} {up : List Nat} {d e : Int} (h : d ≤ e) {u : List Nat} (r : Reach t up d u) : Reach t up e u := by
  induction r with
  | start => exact .start
  | turn _ hr hn ih => exact .turn ih hr (Int.le_trans hn h)
noncomputable abbrev lim (t : Tower) (d : Nat) : Tower := { t with unlike := d }
theorem over_lim (t : Tower) (d : Nat) (u go : List Nat) : over (lim t d) u go = over t u go := rfl
theorem dif_lim (t : Tower) (d : Nat) (u go : List Nat) : dif (lim t d) u go = dif t u go := rfl
theorem verd_free {t : Tower} {u go : List Nat} : (verd t u go == 0 || verd t u go == -7) = true ↔ ¬ over t u go = true ∧ ¬ dif t u go ≤ 0 := by
  unfold verd
  by_cases c1 : over t u go = true
  · rw [if_pos c1]
    simp [c1]
  · rw [if_neg c1]
    by_cases c2 : dif t u go ≤ 0
    · rw [if_pos c2]
      simp [c2]
    · rw [if_neg c2]
      by_cases c3 : (t.unlike : Int) < dif t u go ∧ people t go = true
      · rw [if_pos c3]
        simp [c1, c2]
      · rw [if_neg c3]
        simp [c1, c2]
theorem verd_lim {t : Tower} {d : Nat} {u go : List Nat} : verd (lim t d) u go = 0 ↔ (verd t u go == 0 || verd t u go == -7) = true ∧ needL t u go ≤ (d : Int) := by
  rw [verd_free]
  unfold verd needL
  rw [over_lim, dif_lim]
  by_cases c1 : over t u go = true
  · rw [if_pos c1]
    simp [c1]
  · rw [if_neg c1]
    by_cases c2 : dif t u go ≤ 0
    · rw [if_pos c2]
      simp [c2]
    · rw [if_neg c2]
      by_cases c4 : people t go = true
      · have c4' : people (lim t d) go = true := c4
        rw [if_pos c4]
        by_cases c3 : (d : Int) < dif t u go
        · rw [if_pos ⟨c3, c4'⟩]
          constructor
          · intro z; cases z
          · intro z; first | lia | omega
        · rw [if_neg (fun z => c3 z.1)]
          exact ⟨fun _ => ⟨⟨c1, c2⟩, by first | lia | omega⟩, fun _ => rfl⟩
      · have c4' : ¬ people (lim t d) go = true := c4
        rw [if_neg c4, if_neg (fun z => c4' z.2)]
        exact ⟨fun _ => ⟨⟨c1, c2⟩, by first | lia | omega⟩, fun _ => rfl⟩
theorem turn_lim {t : Tower} (hn : t.things.length ≤ 5) {d : Nat} {u go : List Nat} : go ∈ turns (lim t d) u ↔ go ∈ free t u ∧ needL t u go ≤ (d : Int) := by
  rw [turns_rows (t := lim t d) hn, free, List.mem_filter, List.mem_filter, beq_iff_eq, verd_lim]
  exact ⟨fun z => ⟨⟨z.1, z.2.1⟩, z.2.2⟩, fun z => ⟨z.1.1, z.1.2, z.2⟩⟩
theorem put1_states (acc : List Way) (w : Way) : ∀ x ∈ (put1 acc w), x ∈ acc ∨ x = w := fun x hx => by
  unfold put1 at hx
  split at hx
  · exact .inl hx
  · rcases List.mem_append.mp hx with h | h
    · exact .inl h
    · exact .inr (by simpa using h)
theorem fold_states : ∀ (l acc : List Way), ∀ x ∈ l.foldl put1 acc, x ∈ acc ∨ x ∈ l
  | [], acc, x, hx => .inl hx
  | w :: l, acc, x, hx => by
    rcases fold_states l (put1 acc w) x hx with h | h
    · rcases put1_states acc w x h with h | h
      · exact .inl h
      · exact .inr (by rw [h]; exact List.mem_cons_self ..)
    · exact .inr (List.mem_cons_of_mem _ h)
theorem put1_has (acc : List Way) (w : Way) : w.2 ∈ (put1 acc w).map (·.2) := by
  unfold put1
  split
  · rename_i h
    exact List.contains_iff_mem.mp h
  · rw [List.map_append]
    exact List.mem_append_right _ (by simp)
theorem pre_states {acc r : List Way} {u : List Nat} (h : u ∈ acc.map (·.2)) : u ∈ (acc ++ r).map (·.2) := by
  rw [List.map_append]
  exact List.mem_append_left _ h
theorem fold_has : ∀ (l acc : List Way), ∀ w ∈ l, w.2 ∈ (l.foldl put1 acc).map (·.2)
  | w :: l, acc, x, hx => by
    rcases List.mem_cons.mp hx with h | h
    · subst h
      obtain ⟨r, e⟩ := fold_pre l (put1 acc x)
      rw [List.foldl_cons, e]
      exact pre_states (put1_has acc x)
    · exact fold_has l (put1 acc w) x h
theorem accN_pre (t : Tower) (up : Some_) (k : Nat) : ∃ r, accN t up (k + 1) = accN t up k ++ r := by
  rw [accN]
  split
  · exact ⟨[], by simp⟩
  · exact proc_pre ..
theorem accN_pre' (t : Tower) (up : Some_) (k : Nat) : ∀ j, ∃ r, accN t up (k + j) = accN t up k ++ r
  | 0 => ⟨[], by simp⟩
  | j + 1 => by
    obtain ⟨r1, e1⟩ := accN_pre' t up k j
    obtain ⟨r2, e2⟩ := accN_pre t up (k + j)
    exact ⟨r1 ++ r2, by rw [← Nat.add_assoc, e2, e1, List.append_assoc]⟩
theorem comes_reach {t : Tower} {up : Some_} (hu : up.Sublist (List.range t.things.length)) (hn : t.things.length ≤ 5) {d : Nat} {u : List Nat} : u ∈ (comes (lim t d) up).map (·.2) ↔ Reach t up (d : Int) u := by
  have hK := accN_ends (t := lim t d) hu hn
  rw [← comes_eq (t := lim t d) hu hn hK]
  constructor
  · have all : ∀ k, ∀ w ∈ accN (lim t d) up k, Reach t up (d : Int) w.2 := by
      intro k
      induction k with
      | zero =>
        intro w hw
        simp [accN] at hw
        subst hw
        exact .start
      | succ k ih =>
        intro w hw
        rw [accN] at hw
        split at hw
        · exact ih w hw
        · rename_i x hx
          rcases fold_states _ _ w hw with h | h
          · exact ih w h
          · obtain ⟨go, hgo, e⟩ := List.mem_map.mp h
            subst e
            have hg := (turn_lim hn).mp hgo
            exact .turn (ih x (List.mem_of_getElem? hx)) hg.1 hg.2
    intro h
    obtain ⟨w, hw, e⟩ := List.mem_map.mp h
    subst e
    exact all 32 w hw
  · intro r
    induction r with
    | start =>
      obtain ⟨r, e⟩ := accN_pre' (lim t d) up 0 32
      rw [Nat.zero_add] at e
      rw [e]
      exact pre_states (by simp [accN])
    | @turn u row hr hf hnd ih =>
      obtain ⟨w, hw, e⟩ := List.mem_map.mp ih
      obtain ⟨i, hi⟩ := List.getElem?_of_mem hw
      have hlt := (List.getElem?_eq_some_iff.mp hi).1
      have hi32 : i < 32 := Nat.lt_of_lt_of_le hlt hK
      have h1 : (accN (lim t d) up i)[i]? = some w := by
        obtain ⟨r, er⟩ := accN_pre' (lim t d) up i (32 - i)
        rw [show i + (32 - i) = 32 by first | lia | omega] at er
        by_cases hl : i < (accN (lim t d) up i).length
        · rw [er, List.getElem?_append_left hl] at hi
          exact hi
        · have := accN_stop (t := lim t d) (up := up) (K := i) (by first | lia | omega) (32 - i)
          rw [show i + (32 - i) = 32 by first | lia | omega] at this
          rw [this] at hlt
          first | lia | omega
      have h2 := accN_succ h1
      obtain ⟨r, er⟩ := accN_pre' (lim t d) up (i + 1) (31 - i)
      rw [show i + 1 + (31 - i) = 32 by first | lia | omega] at er
      rw [er, h2]
      refine pre_states ?_
      have hm : (w.1 ++ [row], after (lim t d) w.2 row) ∈ nexts (lim t d) w := by
        refine List.mem_map.mpr ⟨row, ?_, rfl⟩
        rw [e]
        exact (turn_lim hn).mpr ⟨hf, hnd⟩
      have := fold_has _ (accN (lim t d) up i) _ hm
      have e3 : after (lim t d) w.2 row = after t u row := by
        rw [e]
        rfl
      rw [← e3]
      exact this
noncomputable abbrev Lims := List (List Nat × Int)
noncomputable def valL : Lims → List Nat → Option Int
  | [], _ => none
  | p :: L, u => if p.1 = u then some p.2 else valL L u
noncomputable def putL (L : Lims) (u : List Nat) (x : Int) : Lims := if (valL L u).isSome = true then L.map (fun p => if p.1 = u then (p.1, x) else p) else L ++ [(u, x)]
theorem valL_map {u v : List Nat} {x : Int} : ∀ {L : Lims}, valL (L.map fun p => if p.1 = u then (p.1, x) else p) v = if v = u then (if (valL L u).isSome = true then some x else none) else valL L v
  | [] => by simp [valL]
  | p :: L => by
    have ih := valL_map (u := u) (v := v) (x := x) (L := L)
    rw [List.map_cons]
    by_cases h1 : p.1 = u
    · rw [if_pos h1]
      show (if p.1 = v then some x else valL (L.map _) v) = _
      by_cases h2 : v = u
      · rw [if_pos h2, if_pos (h1.trans h2.symm)]
        simp [valL, h1]
      · rw [if_neg h2, if_neg (fun z => h2 (z.symm.trans h1)), ih, if_neg h2]
        show _ = if p.1 = v then some p.2 else valL L v
        have hn : ¬ p.1 = v := fun z => h2 (z.symm.trans h1)
        rw [if_neg hn]
    · rw [if_neg h1]
      show (if p.1 = v then some p.2 else valL (L.map _) v) = _
      rw [ih]
      by_cases h2 : v = u
      · subst h2
        simp [valL, h1]
      · simp [valL, h2]
theorem valL_app {L : Lims} {u v : List Nat} {x : Int} (h : valL L u = none) : valL (L ++ [(u, x)]) v = if v = u then some x else valL L v := by
  induction L with
  | nil =>
    simp [valL]
    by_cases e : v = u
    · simp [e]
    · simp [e, Ne.symm e]
  | cons p L ih =>
    simp only [valL] at h
    split at h
    · cases h
    · rename_i hp
      rw [List.cons_append]
      simp only [valL]
      rw [ih h]
      by_cases e : v = u
      · subst e
        simp [hp]
      · simp [e]
theorem valL_put (L : Lims) (u v : List Nat) (x : Int) : valL (putL L u x) v = if v = u then some x else valL L v := by
  unfold putL
  by_cases h : (valL L u).isSome = true
  · rw [if_pos h, valL_map, if_pos h]
  · rw [if_neg h]
    exact valL_app (by simpa using h)
theorem keys_map (L : Lims) (u : List Nat) (x : Int) : (L.map (fun p => if p.1 = u then (p.1, x) else p)).map (·.1) = L.map (·.1) := by
  rw [List.map_map]
  refine List.map_congr_left fun p _ => ?_
  show (if p.1 = u then (p.1, x) else p).1 = p.1
  split <;> rfl
theorem valL_mem {u : List Nat} : ∀ {L : Lims}, (valL L u).isSome = true ↔ u ∈ L.map (·.1)
  | [] => by simp [valL]
  | p :: L => by
    have ih := valL_mem (u := u) (L := L)
    simp only [valL, List.map_cons, List.mem_cons]
    by_cases h : p.1 = u
    · simp [h]
    · rw [if_neg h, ih]
      constructor
      · exact fun z => .inr z
      · rintro (z | z)
        · exact absurd z.symm h
        · exact z
theorem valL_some {L : Lims} (nd : (L.map (·.1)).Nodup) {u : List Nat} {v : Int} : valL L u = some v ↔ (u, v) ∈ L := by
  induction L with
  | nil => simp [valL]
  | cons p L ih =>
    rw [List.map_cons, List.nodup_cons] at nd
    simp only [valL]
    by_cases h : p.1 = u
    · rw [if_pos h]
      constructor
      · intro z
        have e : p = (u, v) := by rw [← h, ← Option.some.inj z]
        rw [e]
        exact List.mem_cons_self ..
      · intro z
        rcases List.mem_cons.mp z with z | z
        · rw [← z]
        · exfalso
          apply nd.1
          rw [h]
          exact List.mem_map.mpr ⟨_, z, rfl⟩
    · rw [if_neg h, ih nd.2]
      constructor
      · exact fun z => List.mem_cons_of_mem _ z
      · intro z
        rcases List.mem_cons.mp z with z | z
        · exfalso
          apply h
          rw [← z]
        · exact z
theorem putL_nd {L : Lims} {u : List Nat} {x : Int} (nd : (L.map (·.1)).Nodup) : ((putL L u x).map (·.1)).Nodup := by
  unfold putL
  by_cases h : (valL L u).isSome = true
  · rw [if_pos h, keys_map]
    exact nd
  · rw [if_neg h, List.map_append, List.nodup_append]
    refine ⟨nd, by simp, fun a ha b hb => ?_⟩
    simp at hb
    subst hb
    rintro rfl
    exact h (valL_mem.mpr ha)
structure DC (t : Tower) (up : List Nat) (L : Lims) (W : List (List Nat)) : Prop where
  nd : (L.map (·.1)).Nodup
  wnd : W.Nodup
  sub : ∀ u v, valL L u = some v → u.Sublist (List.range t.things.length)
  wsub : ∀ u ∈ W, ∃ v, valL L u = some v
  root : ∃ v, valL L up = some v ∧ v ≤ 0
  sound : ∀ u v, valL L u = some v → 0 ≤ v ∧ Reach t up v u
structure DI (t : Tower) (up : List Nat) (L : Lims) (W : List (List Nat)) : Prop extends DC t up L W where
  edge : ∀ u v, valL L u = some v → u ∉ W → ∀ row ∈ free t u, ∃ v', valL L (after t u row) = some v' ∧ v' ≤ max v (needL t u row)
  low : ∀ u v w x, valL L u = some v → u ∉ W → w ∈ W → valL L w = some x → v ≤ x
structure DJ (t : Tower) (up : List Nat) (L : Lims) (W : List (List Nat)) (a : List Nat) (la : Int) (rs : List (List Nat)) : Prop extends DC t up L W where
  ha : valL L a = some la
  aw : a ∉ W
  edge : ∀ u v, valL L u = some v → u ∉ W → u ≠ a → ∀ row ∈ free t u, ∃ v', valL L (after t u row) = some v' ∧ v' ≤ max v (needL t u row)
  edgeA : ∀ row ∈ rs, ∃ v', valL L (after t a row) = some v' ∧ v' ≤ max la (needL t a row)
  dlow : ∀ u v, valL L u = some v → u ∉ W → v ≤ la
  wlow : ∀ w x, w ∈ W → valL L w = some x → la ≤ x
theorem DI.start {t : Tower} {up : List Nat} (hu : up.Sublist (List.range t.things.length)) : DI t up [(up, 0)] [up] := by
  have key : ∀ {u : List Nat} {v : Int}, valL [(up, 0)] u = some v → u = up ∧ v = 0 := fun {u v} h => by
    simp only [valL] at h
    split at h
    · rename_i e
      exact ⟨e.symm, (Option.some.inj h).symm⟩
    · cases h
  have hup : valL [(up, 0)] up = some 0 := by simp [valL]
  refine { nd := by simp, wnd := by simp, sub := fun u v h => ?_, wsub := fun u h => ?_, root := ⟨0, hup, Int.le_refl _⟩, sound := fun u v h => ?_, edge := fun u v h hw => ?_, low := fun u v w x h hw => ?_ }
  · rw [(key h).1]; exact hu
  · rw [List.mem_singleton.mp h]; exact ⟨0, hup⟩
  · rw [(key h).1, (key h).2]; exact ⟨Int.le_refl _, .start⟩
  · rw [(key h).1] at hw; exact absurd (List.mem_singleton.mpr rfl) hw
  · rw [(key h).1] at hw; exact absurd (List.mem_singleton.mpr rfl) hw
theorem DI.pick {t : Tower} {up : List Nat} {L : Lims} {W : List (List Nat)} {a : List Nat} {la : Int} {j : Nat} (D : DI t up L W) (hj : W[j]? = some a) (ha : valL L a = some la) (hmin : ∀ w x, w ∈ W → valL L w = some x → la ≤ x) : DJ t up L (W.eraseIdx j) a la [] := by
  have hjl := (List.getElem?_eq_some_iff.mp hj).1
  have hsub : ∀ w ∈ W.eraseIdx j, w ∈ W := fun w h => List.mem_of_mem_eraseIdx h
  have hin : ∀ w ∈ W, w ≠ a → w ∈ W.eraseIdx j := fun w h hne => by
    obtain ⟨i, hi⟩ := List.getElem?_of_mem h
    refine List.mem_eraseIdx_iff_getElem?.mpr ⟨i, fun z => ?_, hi⟩
    subst z
    rw [hj] at hi
    exact hne (Option.some.inj hi).symm
  have haw : a ∉ W.eraseIdx j := fun h => by
    obtain ⟨i, hne, hi⟩ := List.mem_eraseIdx_iff_getElem?.mp h
    have h1 := (List.getElem?_eq_some_iff.mp hi).1
    have := (List.getElem_inj D.wnd (h₀ := h1) (h₁ := hjl)).mp (by rw [(List.getElem?_eq_some_iff.mp hi).2, (List.getElem?_eq_some_iff.mp hj).2])
    exact hne this
  exact { nd := D.nd, wnd := D.wnd.sublist (List.eraseIdx_sublist ..), sub := D.sub, wsub := fun u h => D.wsub u (hsub u h), root := D.root, sound := D.sound, ha := ha, aw := haw,
          edge := fun u v h hw hne => D.edge u v h (fun z => hw (hin u z hne)), edgeA := fun row h => absurd h (by simp),
          dlow := fun u v h hw => by
            by_cases e : u = a
            · subst e
              rw [ha] at h
              rw [Option.some.inj h]
              exact Int.le_refl _
            · exact D.low u v a la h (fun z => hw (hin u z e)) (List.mem_of_getElem? hj) ha
          wlow := fun w x h => hmin w x (hsub w h) }
theorem DJ.finish {t : Tower} {up : List Nat} {L : Lims} {W : List (List Nat)} {a : List Nat} {la : Int} (D : DJ t up L W a la (free t a)) : DI t up L W :=
  { D.toDC with
    edge := fun u v h hw row hr => by
      by_cases e : u = a
      · subst e
        rw [D.ha] at h
        cases h
        exact D.edgeA row hr
      · exact D.edge u v h hw e row hr
    low := fun u v w x h hw hw2 hx => Int.le_trans (D.dlow u v h hw) (D.wlow w x hw2 hx) }
theorem DJ.new {t : Tower} {up : List Nat} {L : Lims} {W : List (List Nat)} {a : List Nat} {la : Int} {rs : List (List Nat)} {row : List Nat} (D : DJ t up L W a la rs) (hr : row ∈ free t a) (hb : valL L (after t a row) = none) :
    DJ t up (putL L (after t a row) (max la (needL t a row))) (W ++ [after t a row]) a la (rs ++ [row]) := by
  generalize hbe : after t a row = b at hb
  generalize hne : max la (needL t a row) = x
  have h1 : la ≤ x := by first | lia | omega
  have h2 : needL t a row ≤ x := by first | lia | omega
  have old : ∀ {u : List Nat} {v : Int}, valL L u = some v → u ≠ b := fun {u v} h z => by rw [z, hb] at h; cases h
  have keep : ∀ {u : List Nat} {v : Int}, valL L u = some v → valL (putL L b x) u = some v := fun {u v} h => by rw [valL_put, if_neg (old h)]; exact h
  have back : ∀ {u : List Nat} {v : Int}, valL (putL L b x) u = some v → (u = b ∧ v = x) ∨ valL L u = some v := fun {u v} h => by
    rw [valL_put] at h
    split at h
    · rename_i e
      exact .inl ⟨e, (Option.some.inj h).symm⟩
    · exact .inr h
  have bW : b ∉ W := fun z => by
    obtain ⟨v, hv⟩ := D.wsub b z
    rw [hb] at hv
    cases hv
  have hs := (D.sound a la D.ha)
  refine { nd := putL_nd D.nd, wnd := ?_, sub := fun u v h => ?_, wsub := fun u h => ?_, root := ?_, sound := fun u v h => ?_, ha := keep D.ha, aw := ?_, edge := fun u v h hw hua r hr' => ?_, edgeA := fun r hr' => ?_, dlow := fun u v h hw => ?_, wlow := fun w y hw h => ?_ }
  · rw [List.nodup_append]
    refine ⟨D.wnd, by simp, fun p hp q hq => ?_⟩
    simp at hq
    subst hq
    rintro rfl
    exact bW hp
  · rcases back h with ⟨e, _⟩ | h
    · rw [e, ← hbe]; exact after_sub ..
    · exact D.sub u v h
  · rcases List.mem_append.mp h with h | h
    · obtain ⟨v, hv⟩ := D.wsub u h
      exact ⟨v, keep hv⟩
    · simp at h
      rw [h]
      exact ⟨x, by rw [valL_put, if_pos rfl]⟩
  · obtain ⟨v, hv, h0⟩ := D.root
    exact ⟨v, keep hv, h0⟩
  · rcases back h with ⟨e, e2⟩ | h
    · rw [e, e2, ← hbe]
      exact ⟨by first | lia | omega, .turn (hs.2.mono h1) hr h2⟩
    · exact D.sound u v h
  · intro z
    rcases List.mem_append.mp z with z | z
    · exact D.aw z
    · simp at z
      exact old D.ha z
  · rcases back h with ⟨e, _⟩ | h
    · exact absurd (by rw [e]; simp) hw
    · obtain ⟨v', h3, h4⟩ := D.edge u v h (fun z => hw (List.mem_append_left _ z)) hua r hr'
      exact ⟨v', keep h3, h4⟩
  · rcases List.mem_append.mp hr' with hr' | hr'
    · obtain ⟨v', h3, h4⟩ := D.edgeA r hr'
      exact ⟨v', keep h3, h4⟩
    · simp at hr'
      subst hr'
      rw [hbe, hne]
      exact ⟨x, by rw [valL_put, if_pos rfl], Int.le_refl _⟩
  · rcases back h with ⟨e, _⟩ | h
    · exact absurd (by rw [e]; simp) hw
    · exact D.dlow u v h (fun z => hw (List.mem_append_left _ z))
  · rcases back h with ⟨e, e2⟩ | h
    · rw [e2]; exact h1
    · rcases List.mem_append.mp hw with hw | hw
      · exact D.wlow w y hw h
      · simp at hw
        exact absurd hw (old h)
theorem DJ.old {t : Tower} {up : List Nat} {L : Lims} {W : List (List Nat)} {a : List Nat} {la vb : Int} {rs : List (List Nat)} {row : List Nat} (D : DJ t up L W a la rs) (hr : row ∈ free t a) (hb : valL L (after t a row) = some vb) :
    DJ t up (putL L (after t a row) (min vb (max la (needL t a row)))) W a la (rs ++ [row]) := by
  generalize hbe : after t a row = b at hb
  generalize hne : max la (needL t a row) = x
  have h1 : la ≤ x := by first | lia | omega
  have h2 : needL t a row ≤ x := by first | lia | omega
  have val : ∀ u, valL (putL L b (min vb x)) u = if u = b then some (min vb x) else valL L u := fun u => valL_put ..
  have less : ∀ {u : List Nat} {v : Int}, valL L u = some v → ∃ v', valL (putL L b (min vb x)) u = some v' ∧ v' ≤ v := fun {u v} h => by
    by_cases e : u = b
    · subst e
      rw [hb] at h
      cases h
      exact ⟨min vb x, by rw [val, if_pos rfl], by first | lia | omega⟩
    · exact ⟨v, by rw [val, if_neg e]; exact h, Int.le_refl _⟩
  have back : ∀ {u : List Nat} {v : Int}, valL (putL L b (min vb x)) u = some v → ∃ v0, valL L u = some v0 ∧ (v = v0 ∨ (u = b ∧ v = x)) := fun {u v} h => by
    rw [val] at h
    split at h
    · rename_i e
      refine ⟨vb, by rw [e]; exact hb, ?_⟩
      have := Option.some.inj h
      by_cases z : vb ≤ x
      · exact .inl (by first | lia | omega)
      · exact .inr ⟨e, by first | lia | omega⟩
    · exact ⟨v, h, .inl rfl⟩
  -- what is done stays
  have done : ∀ {u : List Nat} {v : Int}, u ∉ W → (valL (putL L b (min vb x)) u = some v ↔ valL L u = some v) := fun {u v} hw => by
    rw [val]
    split
    · rename_i e
      subst e
      rw [hb]
      have := D.dlow u vb hb hw
      rw [show min vb x = vb by first | lia | omega]
    · exact Iff.rfl
  have hs := (D.sound a la D.ha)
  refine { nd := putL_nd D.nd, wnd := D.wnd, sub := fun u v h => ?_, wsub := fun u h => ?_, root := ?_, sound := fun u v h => ?_, ha := (done D.aw).mpr D.ha, aw := D.aw, edge := fun u v h hw hua r hr' => ?_, edgeA := fun r hr' => ?_, dlow := fun u v h hw => D.dlow u v ((done hw).mp h) hw, wlow := fun w y hw h => ?_ }
  · obtain ⟨v0, h0, _⟩ := back h
    exact D.sub u v0 h0
  · obtain ⟨v, hv⟩ := D.wsub u h
    obtain ⟨v', h', _⟩ := less hv
    exact ⟨v', h'⟩
  · obtain ⟨v, hv, h0⟩ := D.root
    obtain ⟨v', h', h3⟩ := less hv
    exact ⟨v', h', by first | lia | omega⟩
  · obtain ⟨v0, h0, e | ⟨e1, e2⟩⟩ := back h
    · rw [e]; exact D.sound u v0 h0
    · rw [e1, e2, ← hbe]
      exact ⟨by first | lia | omega, .turn (hs.2.mono h1) hr h2⟩
  · obtain ⟨v', h3, h4⟩ := D.edge u v ((done hw).mp h) hw hua r hr'
    obtain ⟨v2, h5, h6⟩ := less h3
    exact ⟨v2, h5, by first | lia | omega⟩
  · rcases List.mem_append.mp hr' with hr' | hr'
    · obtain ⟨v', h3, h4⟩ := D.edgeA r hr'
      obtain ⟨v2, h5, h6⟩ := less h3
      exact ⟨v2, h5, by first | lia | omega⟩
    · simp at hr'
      subst hr'
      rw [hbe, hne]
      exact ⟨min vb x, by rw [val, if_pos rfl], by first | lia | omega⟩
  · obtain ⟨v0, h0, e | ⟨e1, e2⟩⟩ := back h
    · rw [e]; exact D.wlow w v0 hw h0
    · rw [e2]; exact h1
theorem DI.all {t : Tower} {up : List Nat} {L : Lims} (D : DI t up L []) {d : Int} (hd : 0 ≤ d) {u : List Nat} (r : Reach t up d u) : ∃ v, valL L u = some v ∧ v ≤ d := by
  induction r with
  | start =>
    obtain ⟨v, h, h0⟩ := D.root
    exact ⟨v, h, by first | lia | omega⟩
  | @turn u row hr hf hn ih =>
    obtain ⟨v, h, hv⟩ := ih
    obtain ⟨v', h', hv'⟩ := D.edge u v h (by simp) row hf
    exact ⟨v', h', by first | lia | omega⟩
theorem DC.len {t : Tower} {up : List Nat} {L : Lims} {W : List (List Nat)} (D : DC t up L W) (hn : t.things.length ≤ 5) : L.length ≤ 32 ∧ W.length ≤ L.length := by
  have h := pigeon (L := partsN t.things.length) D.nd (fun x hx => by
    have := valL_mem.mpr hx
    obtain ⟨v, hv⟩ := Option.isSome_iff_exists.mp this
    exact mem_partsN (D.sub x v hv))
  rw [List.length_map, partsN_len _ hn] at h
  have h2 := pigeon (L := L.map (·.1)) D.wnd (fun x hx => by
    obtain ⟨v, hv⟩ := D.wsub x hx
    exact valL_mem.mp (by rw [hv]; rfl))
  rw [List.length_map] at h2
  exact ⟨Nat.le_trans h (Nat.pow_le_pow_right (by decide) hn), h2⟩
noncomputable def enough (t : Tower) (L : Lims) : List Int := (L.filter fun p => safe t p.1).map (·.2)
theorem way_some {t : Tower} {up : List Nat} (hu : up.Sublist (List.range t.things.length)) (hn : t.things.length ≤ 5) {L : Lims} (D : DI t up L []) (d : Nat) : (wayTo (lim t d) up (safe t)).isSome = true ↔ ∃ x ∈ enough t L, x ≤ (d : Int) := by
  unfold wayTo
  rw [List.find?_isSome]
  constructor
  · rintro ⟨w, hw, hs⟩
    have hr := (comes_reach hu hn).mp (List.mem_map.mpr ⟨w, hw, rfl⟩)
    obtain ⟨v, hv, hvd⟩ := D.all (by first | lia | omega) hr
    exact ⟨v, List.mem_map.mpr ⟨(w.2, v), List.mem_filter.mpr ⟨(valL_some D.nd).mp hv, hs⟩, rfl⟩, hvd⟩
  · rintro ⟨x, hx, hxd⟩
    obtain ⟨p, hp, e⟩ := List.mem_map.mp hx
    obtain ⟨h1, h2⟩ := List.mem_filter.mp hp
    have hv : valL L p.1 = some p.2 := (valL_some D.nd).mpr h1
    have hr := (D.sound _ _ hv).2.mono (show p.2 ≤ (d : Int) by first | lia | omega)
    obtain ⟨w, hw, e2⟩ := List.mem_map.mp ((comes_reach hu hn).mpr hr)
    exact ⟨w, hw, by show safe t w.2 = true; rw [e2]; exact h2⟩
theorem find_range {p : Nat → Bool} {n m : Nat} (hm : m < n) (h : p m = true) (hl : ∀ j, j < m → p j = false) : (List.range n).find? p = some m := by
  have e : List.range n = List.range m ++ (m :: (List.range' (m + 1) (n - (m + 1)))) := by
    rw [List.range_eq_range', List.range_eq_range']
    have : List.range' 0 n = List.range' 0 m ++ List.range' (0 + 1 * m) (n - m) := by
      rw [List.range'_append]
      congr 1
      first | lia | omega
    rw [this]
    congr 1
    rw [show n - m = (n - (m + 1)) + 1 by first | lia | omega, List.range'_succ]
    simp
  rw [e, List.find?_append]
  have h0 : (List.range m).find? p = none := by
    rw [List.find?_eq_none]
    intro x hx
    rw [hl x (List.mem_range.mp hx)]
    simp
  rw [h0, List.find?_cons, h]
  rfl
theorem least_none {t : Tower} {up : List Nat} (hu : up.Sublist (List.range t.things.length)) (hn : t.things.length ≤ 5) {L : Lims} (D : DI t up L []) (h : ∀ x ∈ enough t L, 300 < x) : leastGap t up = none := by
  unfold leastGap
  rw [List.find?_eq_none]
  intro d hd
  have hd' : d < 301 := List.mem_range.mp hd
  intro z
  obtain ⟨x, hx, hxd⟩ := (way_some hu hn D d).mp z
  have := h x hx
  first | lia | omega
theorem least_some {t : Tower} {up : List Nat} (hu : up.Sublist (List.range t.things.length)) (hn : t.things.length ≤ 5) {L : Lims} (D : DI t up L []) {m : Int} (hm : m ∈ enough t L) (hl : ∀ x ∈ enough t L, m ≤ x) (h3 : m ≤ 300) : 0 ≤ m ∧ leastGap t up = some m.toNat := by
  have h0 : 0 ≤ m := by
    obtain ⟨p, hp, e⟩ := List.mem_map.mp hm
    have hv : valL L p.1 = some p.2 := (valL_some D.nd).mpr (List.mem_filter.mp hp).1
    have := (D.sound _ _ hv).1
    first | lia | omega
  refine ⟨h0, ?_⟩
  unfold leastGap
  refine find_range (by show m.toNat < 301; first | lia | omega) ((way_some hu hn D _).mpr ⟨m, hm, by first | lia | omega⟩) fun j hj => ?_
  rw [Bool.eq_false_iff]
  intro z
  obtain ⟨x, hx, hxd⟩ := (way_some hu hn D j).mp z
  have := hl x hx
  first | lia | omega
end TB

set_option Elab.async false
set_option linter.all false
set_option maxRecDepth 100000
set_option maxHeartbeats 4000000
namespace TB
open PySem PySem.Spec PyProof.Rows L2
section
variable {X : Cx}

theorem cr_range1 : CallR X (.type "range") (fun xs H Q => ∃ j : Int, xs = [.int j] ∧ ∀ p, H p = none → Q (.ref p) (upd H p (.rng 0 j))) := by
  intro pins s σ H xs us Q I r h
  obtain ⟨j, rfl, q⟩ := h
  obtain ⟨u, rfl, t, rfl⟩ := vals1 r
  refine call_range_1 ?_
  refine ⟨.ref s.heap.objs.size, _, I.laid (a := s.heap.objs.size) (o := .rng 0 j) (fun _ _ q => Heap.get?_push_of_some _ q) (Nat.le_refl _) ⟨_, _, _, Heap.get?_push_size _ rfl⟩, rfl, q _ (I.hok.fresh (Nat.le_refl _))⟩
end

section
variable {prog : Program} {w : World} {A : Around} {E : Value → Shared → Prop} {s : Shared}
theorem collect_range {Q : List Value → Shared → Prop} {r : Addr} {a b c : Int} {t u v : Tok} {n : Nat} (hh : A.handled = none) (hr : IsRange s.heap r a b c t u v) (hsmall : Builtin.Range.small a b c = true)
    (hn : Builtin.Range.rangeSize a b c = n) (hlen : n ≤ 2 ^ 24)
    (hQ : ∀ h' tk acc, (∀ b o', s.heap.get? b = some o' → h'.get? b = some o') → ItemsOf (fun i v => ∃ t, v = .int (a + i * c) t) acc n → Q acc.toList { s with heap := h', toks := tk }) :
    wpAny (model prog w) A (collect (.ref r)) Q E s := by
  unfold collect
  refine wpAny_bind (wpAny_runValue (codeAny_builtin PySem.F.entry_proto_collect ?_))
  rw [Around.under_plainId PySem.F.plain_proto_collect _]
  show wpAny _ A.in1 (newList [] >>= fun l => again (.builtin "list.__iadd__" ⟨[l, .ref r], []⟩)) _ _ s
  refine wpAny_bind (wpAny_newObj_type ?_)
  refine wpAny_pure ⟨plainId_quiet PySem.F.plain_list_iadd _, codeAny_builtin PySem.F.entry_list_iadd ?_⟩
  rw [Around.under_plainId PySem.F.plain_list_iadd _]
  show wpAny _ A.in1 (Builtin.List.listExtendWith (.ref s.heap.objs.size) (.ref r) (.ref s.heap.objs.size)) _ _ _
  have hS : (s.heap.push { cls := .type "list", data := .seq ([] : List Value).toArray }).get? s.heap.objs.size = some { cls := .type "list", data := .seq #[] 0 } := Heap.get?_push_size _ rfl
  refine wpAny_mono (wpAny_extend_range (A := A) (R := fun rr s' => ∃ h' tk acc' c', (∀ b o, b ≠ s.heap.objs.size → (s.heap.push { cls := .type "list", data := .seq ([] : List Value).toArray }).get? b = some o → h'.get? b = some o) ∧ h'.get? s.heap.objs.size = some { cls := .type "list", dict := none, data := .seq acc' c', slots := #[] } ∧
      ItemsOf (fun i v => ∃ t, v = .int (a + i * c) t) acc' n ∧ rr = .ok (.ret (.ref s.heap.objs.size)) ∧ s' = { s with heap := h', toks := tk })
    (s := { s with heap := s.heap.push { cls := .type "list", data := .seq ([] : List Value).toArray } }) hh (Heap.get?_push_of_some _ hr) hsmall hn hlen _ _ 0 hS (fun h' tk acc' c' h1 h2 h3 => ⟨h', tk, acc', c', h1, h2, h3, rfl, rfl⟩)) (fun fin s' h => ?_) (fun e s' h => ?_)
  · have fin' : ∀ s', (∃ h' tk acc' c', (∀ b o, b ≠ s.heap.objs.size → (s.heap.push { cls := .type "list", data := .seq ([] : List Value).toArray }).get? b = some o → h'.get? b = some o) ∧ h'.get? s.heap.objs.size = some { cls := .type "list", dict := none, data := .seq acc' c', slots := #[] } ∧
      ItemsOf (fun i v => ∃ t, v = .int (a + i * c) t) acc' n ∧ s' = { s with heap := h', toks := tk }) → wpAny (model prog w) A (match Value.ref s.heap.objs.size with
      | Value.ref a => do
        match (← load a).data with
          | Data.seq xs _ => pure xs.toList
          | _ => unsupported "internal:collect"
      | _ => unsupported "internal:collect") Q E s' := by
      rintro s' ⟨h', tk, acc', c', h1, h2, h3, rfl⟩
      show wpAny _ A (load s.heap.objs.size >>= _) _ _ _
      refine wpAny_bind (wpAny_load h2 ?_)
      refine wpAny_pure ?_
      show Q acc'.toList _
      exact hQ h' tk acc' (fun b o' e => h1 b o' (Nat.ne_of_lt (Heap.lt_size e)) (Heap.get?_push_of_some _ e)) h3
    cases fin with
    | done f =>
      obtain ⟨h', tk, acc', c', h1, h2, h3, e, rfl⟩ := h
      cases e
      exact fin' _ ⟨h', tk, acc', c', h1, h2, h3, rfl⟩
    | again c' => exact ⟨h.1, codeAny_mono h.2 fun r s'' hr => by
        obtain ⟨h', tk, acc', c', h1, h2, h3, rfl, rfl⟩ := hr
        exact fin' _ ⟨h', tk, acc', c', h1, h2, h3, rfl⟩⟩
  · obtain ⟨h', tk, acc', c', h1, h2, h3, e, _⟩ := h
    cases e
theorem meets_tuple_range (r : Addr) (a b c : Int) (t u v : Tok) (n : Nat) (hsmall : Builtin.Range.small a b c = true) (hn : Builtin.Range.rangeSize a b c = n) (hlen : n ≤ 2 ^ 24) :
    Meets (Builtin.«tuple.__new__» ⟨[.type "tuple", .ref r], []⟩)
      (fun A R s => A.handled = none ∧ IsRange s.heap r a b c t u v ∧ ∀ (h' : Heap) (tk : Nat) (acc : Array Value), (∀ b o, s.heap.get? b = some o → h'.get? b = some o) → ItemsOf (fun i v => ∃ t, v = .int (a + i * c) t) acc n →
        R (.ok (.ret (.ref h'.objs.size))) { s with heap := h'.push { cls := .type "tuple", data := .seq acc }, toks := tk }) :=
  .of_wp fun prog w A R s h => by
    obtain ⟨hh, hr, h⟩ := h
    have hsub := sub_tuple_self
    have hinit := init_tuple_lookup
    have hmh := madeHere_tuple
    have hT : s.TypeIs (.ref r) "range" := ⟨_, hr, rfl⟩
    have hh1 : A.in1.handled = none := hh
    wp_walk using wpAny_typeOf hT, collect_range hh1 hr hsmall hn hlen
    intro h' tk acc hk hacc
    show wpAny _ _ (Builtin.Tuple.tupleExact acc.toList.toArray >>= fun v => ret v) _ _ _
    unfold Builtin.Tuple.tupleExact
    have hsz : acc.toList.toArray.size ≤ sizeLine := by
      simp only [Array.toArray_toList]
      rw [hacc.1, sizeLine_eq]
      first | lia | omega
    refine wpAny_bind (wpAny_newObj_type ?_ hsz)
    refine wpAny_pure ⟨_, rfl, ?_⟩
    have e : acc.toList.toArray = acc := by simp
    rw [e]
    exact h h' tk acc hk hacc
theorem call_tuple_range {Q : Value → Shared → Prop} {r : Addr} {a b c : Int} {t u v : Tok} {n : Nat} (hh : A.handled = none) (hr : IsRange s.heap r a b c t u v) (hsmall : Builtin.Range.small a b c = true)
    (hn : Builtin.Range.rangeSize a b c = n) (hlen : n ≤ 2 ^ 24)
    (h : ∀ (h' : Heap) (tk : Nat) (acc : Array Value), (∀ b o, s.heap.get? b = some o → h'.get? b = some o) → ItemsOf (fun i v => ∃ t, v = .int (a + i * c) t) acc n → Q (.ref h'.objs.size) { s with heap := h'.push { cls := .type "tuple", data := .seq acc }, toks := tk }) :
    wpAny (model prog w) A (call (.type "tuple") [.ref r]) Q E s :=
  callType_new PySem.F.called_tuple (by decide) (PySem.F.typeCall_tuple_1 _) (PySem.F.newCall_tuple_1 _) (fun obj => PySem.F.args_object_init_2 obj _) PySem.F.entry_tuple_new
    (meets_tuple_range r a b c t u v n hsmall hn hlen) ⟨hh, hr, fun h' tk acc hk hacc => ⟨⟨_, Heap.get?_push_size _ rfl, rfl⟩, h h' tk acc hk hacc⟩⟩
end

theorem items_vals {n : Nat} {acc : Array Value} (h : ItemsOf (fun (i : Nat) v => ∃ t, v = .int (0 + (i : Int) * 1) t) acc n) : Vals ((List.range n).map fun (i : Nat) => V.int (i : Int)) acc.toList := by
  obtain ⟨hs, hi⟩ := h
  have key : ∀ (k : Nat) (vs : List Value) (off : Nat), vs.length = k → (∀ (i : Nat) (v : Value), vs[i]? = some v → ∃ t, v = Value.int ((off + i : Nat) : Int) t) → Vals ((List.range' off k).map fun (i : Nat) => V.int (i : Int)) vs := by
    intro k
    induction k with
    | zero =>
      intro vs off hl _
      have : vs = [] := List.length_eq_zero_iff.mp hl
      subst this
      exact .nil
    | succ k ih =>
      intro vs off hl hv
      cases vs with
      | nil => cases hl
      | cons v vs =>
        rw [List.range'_succ, List.map_cons]
        refine .cons ?_ (ih vs (off + 1) (by rw [List.length_cons] at hl; first | lia | omega) fun i v hv' => ?_)
        · obtain ⟨t, e⟩ := hv 0 v rfl
          exact ⟨t, by rw [e]; rfl⟩
        · obtain ⟨t, e⟩ := hv (i + 1) v (by simpa using hv')
          exact ⟨t, by rw [e]; congr 2; first | lia | omega⟩
  rw [List.range_eq_range']
  refine key n acc.toList 0 (by rw [Array.length_toList]; exact hs) fun i v hv => ?_
  obtain ⟨t, e⟩ := hi i v (by simpa using hv)
  exact ⟨t, by rw [e]; congr 1; first | lia | omega⟩
section
variable {X : Cx}
theorem cr_tuple_range (hc : X.calm = true) : CallR X (.type "tuple") (fun xs H Q => ∃ (p : Addr) (n : Nat), xs = [.ref p] ∧ H p = some (.rng 0 n) ∧ n ≤ 1000 ∧ ∀ l, H l = none → Q (.ref l) (upd H l (.tup ((List.range n).map fun (i : Nat) => V.int (i : Int))))) := by
  intro pins s σ H xs us Q I r h
  obtain ⟨p, n, rfl, hp, hn, q⟩ := h
  obtain ⟨u, rfl, rx⟩ := vals1 r
  cases rx
  obtain ⟨t, u, v, e⟩ := I.hok p _ hp
  have hs : Builtin.Range.small 0 (n : Int) 1 = true := small_one (by first | lia | omega) (by first | lia | omega) (by first | lia | omega) (by first | lia | omega)
  have hz : Builtin.Range.rangeSize 0 (n : Int) 1 = (n : Int) := by
    rw [rangeSize_one]
    split <;> first | lia | omega
  refine call_tuple_range (I.ok.hd hc) e hs hz (by first | lia | omega) fun h' tk acc hk hacc => ?_
  have I1 : Inv X pins σ H { s with heap := h', toks := tk } := I.kept hk
  have I2 : Inv X pins σ (upd H h'.objs.size (.tup ((List.range n).map fun (i : Nat) => V.int (i : Int)))) { s with heap := h'.push { cls := .type "tuple", data := .seq acc }, toks := tk } :=
    I1.laid (t' := tk) (fun b o e => Heap.get?_push_of_some _ e) (Nat.le_refl _) (show ObjOk X.prog X.w _ _ _ (.tup _) from ⟨by rw [List.length_map, List.length_range, sizeLine_eq]; first | lia | omega, acc.toList, items_vals hacc, by simpa using IsTup.new _ acc⟩)
  exact ⟨.ref h'.objs.size, _, I2, rfl, q _ (I1.hok.fresh (Nat.le_refl _))⟩
end
end TB

set_option Elab.async false
set_option linter.all false
set_option maxRecDepth 100000
set_option maxHeartbeats 4000000
namespace TB
open PySem PySem.Spec PyProof.Rows L2
theorem range_getD (ns : List Int) : (List.range ns.length).map (fun i => ns.getD i 0) = ns := by
  apply List.ext_getElem?
  intro i
  rw [List.getElem?_map]
  by_cases h : i < ns.length
  · rw [List.getElem?_range h]
    simp [List.getElem?_eq_getElem h]
  · rw [List.getElem?_eq_none (by simp; first | lia | omega), List.getElem?_eq_none (by first | lia | omega)]
    rfl
noncomputable def dedup (ns : List Int) : List Int := ns.foldl step_dedup []
section
variable {X : Cx}
theorem cr_set (hc : X.calm = true) : CallR X (.type "set") (fun xs H Q => ∃ (a : Addr) (ns : List Int), xs = [.ref a] ∧ SqL X.K H a (ns.map V.int) ∧ ns.length ≤ 1000 ∧ ∀ p, H p = none → Q (.ref p) (upd H p (.set (fun k => (dedup ns).any (· == k)) (dedup ns).length))) := by
  intro pins s σ H xs us Q I r h
  obtain ⟨a, ns, rfl, hl, hn, q⟩ := h
  obtain ⟨u, rfl, rx⟩ := vals1 r
  cases rx
  obtain ⟨its, rv, pl, hz⟩ := I.list hl
  have hlen : ns.length = its.length := by
    have := rv.length
    simpa using this
  have ed : firstMet (fun i => ns.getD i 0) its.toArray.size = dedup ns := by
    unfold firstMet dedup
    rw [List.size_toArray, ← hlen, range_getD]
  refine PySem.call_set_list (ns := ns) (I.ok.hd hc) pl.isList (by simpa using rv.ints) (by rw [List.size_toArray, ← hlen]; show ns.length + 1 < scanBound; exact Nat.lt_of_le_of_lt (Nat.succ_le_succ hn) (by decide)) fun h' tk hs hk => ?_
  rw [ed] at hs
  have I1 := I.laid (a := s.heap.objs.size) (o := .set (fun k => (dedup ns).any (· == k)) (dedup ns).length) (h' := h') (t' := tk) (fun b o e => hk b o (Heap.lt_size e) e) (Nat.le_refl _) hs
  exact ⟨.ref s.heap.objs.size, _, I1, rfl, q _ (I.hok.fresh (Nat.le_refl _))⟩
theorem cr_len_set : CallR X (.builtin "len") (fun xs H Q => ∃ (a : Addr) (S : Int → Bool) (n : Nat), xs = [.ref a] ∧ H a = some (.set S n) ∧ Q (.int n) H) := by
  intro pins s σ H xs us Q I r h
  obtain ⟨a, S, n, rfl, ha, q⟩ := h
  obtain ⟨u, rfl, rx⟩ := vals1 r
  cases rx
  obtain ⟨o, es, ep, t, ho, hx, hd, _, _, hb, hf, rfl⟩ := I.hok a _ ha
  have hlt : (es.size : Int) < 2 ^ 63 := by
    have : scanBound < 2 ^ 63 := by decide
    first | lia | omega
  exact PySem.call_len_set ho hx hd hf hlt ⟨.int es.size, H, I.tok _, ⟨_, rfl⟩, q⟩
end
section
variable {prog : Program} {w : World} {A : Around} {E : Value → Shared → Prop} {s : Shared}
theorem add_tups {t b : Addr} {vs ws : List Value} {Q : Value → Shared → Prop} (ht : IsTup s.heap t vs.toArray) (hb : IsTup s.heap b ws.toArray)
    (h0 : vs = [] → Q (.ref b) s) (h1 : vs ≠ [] → ws = [] → Q (.ref t) s)
    (h2 : vs ≠ [] → ws ≠ [] → Q (.ref s.heap.objs.size) { s with heap := s.heap.push { cls := .type "tuple", data := .seq (vs ++ ws).toArray } })
    (hsz : vs.length + ws.length ≤ sizeLine) : wpAny (model prog w) A (binaryOp .Add (.ref t) (.ref b)) Q E s := by
  rcases ht with ⟨⟨c1, d1, b1, l1⟩, g1, q1, n1, r1⟩
  rcases hb with ⟨⟨c2, d2, b2, l2⟩, g2, q2, n2, r2⟩
  cases (show c1 = _ from q1); cases (show b1 = _ from r1); cases (show c2 = _ from q2); cases (show b2 = _ from r2)
  cases vs with
  | nil => exact concat_meets ⟨_, g1, rfl⟩ ⟨_, g2, rfl⟩ noFill_tuple_add seq_tuple_add PySem.F.slot_tuple_add PySem.F.entry_tuple_add (PySem.F.args_tuple_add_2 _ _) (tuple_addW0 t b ([] : List Value).toArray ws.toArray n1 n2 d1 d2 l1 l2 (by simp)) ⟨g1, g2, h0 rfl⟩
  | cons v vs =>
    have hv : ¬ (v :: vs).toArray.isEmpty = true := by simp
    cases ws with
    | nil => exact concat_meets ⟨_, g1, rfl⟩ ⟨_, g2, rfl⟩ noFill_tuple_add seq_tuple_add PySem.F.slot_tuple_add PySem.F.entry_tuple_add (PySem.F.args_tuple_add_2 _ _) (tuple_addW1 t b (v :: vs).toArray ([] : List Value).toArray n1 n2 d1 d2 l1 l2 hv (by simp)) ⟨g1, g2, h1 (by simp) rfl⟩
    | cons x ws =>
      have hw : ¬ (x :: ws).toArray.isEmpty = true := by simp
      have e : (v :: vs).toArray ++ (x :: ws).toArray = ((v :: vs) ++ (x :: ws)).toArray := by simp
      exact concat_meets ⟨_, g1, rfl⟩ ⟨_, g2, rfl⟩ noFill_tuple_add seq_tuple_add PySem.F.slot_tuple_add PySem.F.entry_tuple_add (PySem.F.args_tuple_add_2 _ _) (tuple_addW2 t b (v :: vs).toArray (x :: ws).toArray n1 n2 d1 d2 l1 l2 hv hw (by simpa using hsz)) ⟨g1, g2, by rw [e]; exact h2 (by simp) (by simp)⟩
end
section
variable {X : Cx}
noncomputable def rCatT (K : PySem.W.Frag) : R2 := fun x y H Q => ∃ l b xs zs, x = .ref l ∧ y = .ref b ∧ SqT K H l xs ∧ SqT K H b zs ∧ xs.length + zs.length ≤ sizeLine ∧ (xs = [] → Q (.ref b) H) ∧ (xs ≠ [] → zs = [] → Q (.ref l) H) ∧
  (xs ≠ [] → zs ≠ [] → ∀ p, H p = none → Q (.ref p) (upd H p (.tup (xs ++ zs))))
theorem op_catT : OpR X (binaryOp .Add) (rCatT X.K) := by
  intro pins s σ H x y v u Q I rx ry h
  obtain ⟨l, b, xs, zs, rfl, rfl, hl, hb, hz, h0, h1, h2⟩ := h
  cases rx
  cases ry
  obtain ⟨vs, r1, p1, _⟩ := I.tuple hl
  obtain ⟨ws, r2, p2, _⟩ := I.tuple hb
  have e1 := r1.length
  have e2 := r2.length
  have nil1 : vs = [] → xs = [] := fun e => by
    subst e
    exact List.length_eq_zero_iff.mp (by simpa using e1)
  have nil2 : ws = [] → zs = [] := fun e => by
    subst e
    exact List.length_eq_zero_iff.mp (by simpa using e2)
  have non1 : vs ≠ [] → xs ≠ [] := fun h e => by
    subst e
    exact h (List.length_eq_zero_iff.mp (by simpa using e1.symm))
  have non2 : ws ≠ [] → zs ≠ [] := fun h e => by
    subst e
    exact h (List.length_eq_zero_iff.mp (by simpa using e2.symm))
  refine add_tups p1 p2 (fun e => ⟨.ref b, H, I, rfl, h0 (nil1 e)⟩) (fun e e' => ⟨.ref l, H, I, rfl, h1 (non1 e) (nil2 e')⟩) (fun e e' => ?_) (by first | lia | omega)
  have hl2 : (xs ++ zs).length ≤ sizeLine := by rw [List.length_append]; exact hz
  exact ⟨.ref s.heap.objs.size, _, I.laid (a := s.heap.objs.size) (o := .tup (xs ++ zs)) (t' := s.toks) (fun _ _ q => Heap.get?_push_of_some _ q) (Nat.le_refl _) ⟨hl2, vs ++ ws, r1.append r2, IsTup.new _ _⟩, rfl, h2 (non1 e) (non2 e') _ (I.hok.fresh (Nat.le_refl _))⟩
noncomputable def tDisp1T (tk tv : TE) : TE := fun σ H Q => ∀ p, H p = none → tk σ (upd H p (.dT [])) fun x H1 => tv σ H1 fun y H2 => ∃ x' y', [(x, y)] = [(x', y')] ∧ H2 p = some (.dT []) ∧ ∃ (b : Addr) (k : List Key), x' = .ref b ∧ H2 b = some (.tup (k.map kV)) ∧ Q (.ref p) (upd H2 p (.dT [(k, y')]))
theorem pe_disp1T {k v : Expr} {pos : Pos} {tk tv : TE} (hu : X.A.units + 1 < cLine) (hk : PE X k tk) (hv : PE X v tv) : PE X (.Dict [some k] [v] pos) (tDisp1T tk tv) := by
  intro pins s σ H Q I q
  have hn := I.hok.fresh (Nat.le_refl s.heap.objs.size)
  have I1 := I.laid (a := s.heap.objs.size) (o := .dT []) (h' := s.heap.push { cls := .type "dict", data := .dict #[] }) (t' := s.toks) (fun _ _ q => Heap.get?_push_of_some _ q) (Nat.le_refl _) (dt_empty s.heap I.big)
  have hp : PPs X pos [some k] [v] [(tk, tv)] := pps_cons hk hv pps_nil
  refine wpAny_Dict_any rfl rfl (by simp) (by show 1 ≤ 15; decide) (thn (hp pins _ σ _ (fun ps H2 => ∃ x y, ps = [(x, y)] ∧ H2 s.heap.objs.size = some (.dT []) ∧ ∃ (b : Addr) (k : List Key), x = .ref b ∧ H2 b = some (.tup (k.map kV)) ∧ Q (.ref s.heap.objs.size) (upd H2 s.heap.objs.size (.dT [(k, y)]))) I1 ?_) ?_)
  · exact q _ hn
  · rintro vs s2 ⟨ps, H2, I2, rel, x, y, rfl, e, b, k, rfl, eb, q2⟩
    cases rel with
    | @cons _ c _ cs h t =>
      cases t
      obtain ⟨c1, c2⟩ := c
      obtain ⟨rk, rv⟩ := h
      have rk' : c1 = Value.ref b := rk
      subst rk'
      obtain ⟨z, hd, xs, rel2, dd⟩ := dt_of I2.hok e
      cases rel2
      unfold storeAll
      rw [List.forIn_cons]
      refine wpAny_bind (wpAny_bind (wpAny_dictSet_heap (knd := tupleKind (mixKind X.prog X.w)) (hsz := Nat.zero_le _) (Nat.lt_of_succ_lt hu) (key_of I2.hok eb) dd fun h' dd' hs => ?_))
      refine wpAny_pure ?_
      show wpAny _ _ (forIn [] PUnit.unit _) _ _ _
      rw [List.forIn_nil]
      refine wpAny_pure ⟨.ref s.heap.objs.size, _, ?_, rfl, q2⟩
      obtain ⟨q, es, ep, hq, h2, h3, h4, _, h5⟩ := dd'
      refine d_write I2 (by rw [e]; exact True.intro) hs ⟨q, hq⟩ ⟨(by show 1 ≤ sizeLine; decide), hd, _, .cons ⟨rfl, ?_, rv⟩ .nil, q, es, ep, hq, h2, h3, h4, h5⟩
      show upd H2 s.heap.objs.size _ b = _
      rw [upd_ne (ne_of eb e (fun z => nomatch z))]
      exact eb
end
end TB

set_option Elab.async false
set_option linter.all false
set_option maxRecDepth 100000
set_option maxHeartbeats 4000000
namespace TB
open PySem PySem.Spec PyProof.Rows L2
noncomputable def Sq (K : PySem.W.Frag) (H : Hp) (a : Addr) (xs : List V) : Prop := SqL K H a xs ∨ SqT K H a xs
theorem _root_.L2.Same.sqT {K : PySem.W.Frag} {H H' : Hp} {a : Addr} {xs : List V} (e : Same H H') (h : SqT K H a xs) : SqT K H' a xs := by
  rcases h with (h | ⟨o, h⟩) | h
  · exact .inl (.inl (e _ _ h))
  · exact .inl (.inr ⟨o, e _ _ h⟩)
  · exact .inr h
theorem _root_.L2.Same.sq {K : PySem.W.Frag} {H H' : Hp} {a : Addr} {xs : List V} (e : Same H H') (h : Sq K H a xs) : Sq K H' a xs := by
  rcases h with h | h
  · exact .inl (e.seq h)
  · exact .inr (Same.sqT e h)
theorem _root_.L2.Same.new {H H' : Hp} {a : Addr} {o : HO} (e : Same H H') (n : H' a = none) : Same H (upd H' a o) := fun b u h => by
  rw [upd_ne (ne_of_none (e b u h) n)]
  exact e b u h
theorem _root_.L2.Same.put {H H' : Hp} {a : Addr} {o : HO} (e : Same H H') (n : H a = none) : Same H (upd H' a o) := fun b u h => by
  rw [upd_ne (ne_of_none h n)]
  exact e b u h
theorem _root_.L2.Same.new' {H : Hp} {a : Addr} {o : HO} (n : H a = none) : Same H (upd H a o) := (Same.refl H).new n
section
variable {X : Cx} {tg : Expr}
noncomputable def iSeq (K : PySem.W.Frag) (tl : TE) : TI := fun σ H R => tl σ H fun x H1 => ∃ a xs, x = .ref a ∧ ((SqL K H1 a xs ∧ R (Itl K a) H1) ∨ (SqT K H1 a xs ∧ R (Itt K a) H1))
theorem pi_seq {l : Expr} {tl : TE} (hl : PE X l tl) : PI X tg l (iSeq X.K tl) := by
  intro pins s σ H R I h
  refine thn (hl pins s σ H _ I h) fun v s1 hpt47 => ?_
  obtain ⟨x, H1, I1, r1, q1⟩ := hpt47
  obtain ⟨a, xs, rfl, q⟩ := q1
  cases r1
  have fp : ∀ b ∈ [s1.heap.objs.size], FpOk X pins H1 b := fun b hb => by
    cases (show b = s1.heap.objs.size by simpa using hb)
    exact I1.fpOk (Nat.le_refl _) (I1.hok.fresh (Nat.le_refl _))
  rcases q with ⟨hq, q⟩ | ⟨hq, q⟩
  · obtain ⟨its, rv, p, hz⟩ := I1.list hq
    exact wpAny_pyIter_list p.isList ⟨s1.heap.objs.size, [s1.heap.objs.size], _, _, H1, rfl, I1.kept (t' := s1.toks) (fun b o e => Heap.get?_push_of_some _ e), turn_list a _, ⟨_, Heap.get?_push_size _ rfl, rfl, rfl⟩, fp, q⟩
  · obtain ⟨its, rv, p, hz⟩ := I1.tuple hq
    exact wpAny_pyIter_tuple (show s1.heap.IsTuple a its.toArray from p) ⟨s1.heap.objs.size, [s1.heap.objs.size], _, _, H1, rfl, I1.kept (t' := s1.toks) (fun b o e => Heap.get?_push_of_some _ e), turn_tuple a _, ⟨_, Heap.get?_push_size _ rfl, rfl, rfl⟩, fp, q⟩
end
theorem take_snoc {α : Type} {l : List α} {i : Nat} {x : α} (h : l[i]? = some x) : l.take (i + 1) = l.take i ++ [x] := by
  obtain ⟨hi, e⟩ := List.getElem?_eq_some_iff.mp h
  rw [List.take_succ_eq_append_getElem hi, e]
noncomputable def LcTurn (g : TG) (tt : TT) (te : TE) (vs : List Nat) (σ : L2.St) (H1 : Hp) (D : Addr) (f : V → Option V) (x : V) : Prop :=
  ∀ (H : Hp) (acc : List V) (Y : V → Hp → Prop) (N : Hp → Prop), Same H1 H → H D = some (.lst acc) →
    (∀ y H4, f x = some y → Same H1 H4 → H4 D = some (.lst acc) → Y y H4) → (∀ H3, f x = none → Same H1 H3 → H3 D = some (.lst acc) → N H3) →
    g x (wipe σ vs) H fun σ2 H2 => wipe σ2 vs = wipe σ vs ∧ tt σ2 H2 fun b H3 => if b = true then te σ2 H3 Y else N H3
section
variable {K : PySem.W.Frag} {a : Addr} {xs : List V} {g : TG} {tt : TT} {te : TE} {vs : List Nat} {σ : L2.St} {H1 : Hp} {D : Addr} {Qd : Hp → Prop}
theorem fm_step {f : V → Option V} {i : Nat} {x : V} (hx : xs[i]? = some x) (h1 : H1 D = none) (hz : xs.length < sizeLine) {Pv : Nat → Hp → Prop} (eP : Pv = fun i H => Same H1 H ∧ H D = some (.lst ((xs.take i).filterMap f)))
    (hs : LcTurn g tt te vs σ H1 D f x) {H : Hp} (hp : Pv i H) :
    g x (wipe σ vs) H fun σ2 H2 => wipe σ2 vs = wipe σ vs ∧ tt σ2 H2 fun b H3 => if b = true then te σ2 H3 fun y H4 => ∃ acc, H4 D = some (.lst acc) ∧ acc.length < sizeLine ∧ Pv (i + 1) (upd H4 D (.lst (acc ++ [y]))) else Pv (i + 1) H3 := by
  subst eP
  obtain ⟨sm, hd⟩ := hp
  refine hs H _ _ _ sm hd (fun y H4 e s4 d4 => ⟨_, d4, ?_, s4.put h1, ?_⟩) (fun H3 e s3 d3 => ⟨s3, ?_⟩)
  · refine Nat.lt_of_le_of_lt (List.length_filterMap_le _ _) (Nat.lt_of_le_of_lt ?_ hz)
    rw [List.length_take]
    exact Nat.min_le_right _ _
  · rw [upd_same, take_snoc hx, List.filterMap_append]
    simp [e]
  · rw [d3, take_snoc hx, List.filterMap_append]
    simp [e]
theorem lc_fmL (f : V → Option V) (hl : SqL K H1 a xs) (hD : H1 D = none) (hz : xs.length < sizeLine) (hs : ∀ x, x ∈ xs → LcTurn g tt te vs σ H1 D f x)
    (hd : ∀ H, Same H1 H → H D = some (.lst (xs.filterMap f)) → Qd H) :
    ∃ W : Nat → Nat → Hp → Prop, (∃ m, W 0 m (upd H1 D (.lst []))) ∧ ∀ i m H, W i m H → ((Itl K a).stop i H ∧ Qd H) ∨ ((Itl K a).go i H ∧ ∃ Nx : Hp → Prop, (∀ H', Nx H' → ∃ m', m' < m ∧ W (i + 1) m' H') ∧ ∀ x H', (Itl K a).yld i H x H' → g x (wipe σ vs) H' fun σ2 H2 => wipe σ2 vs = wipe σ vs ∧ tt σ2 H2 fun b H3 =>
      if b = true then te σ2 H3 fun y H4 => ∃ acc, H4 D = some (.lst acc) ∧ acc.length < sizeLine ∧ Nx (upd H4 D (.lst (acc ++ [y]))) else Nx H3) :=
  lc_list (K := K) (a := a) (xs := xs) (fun i H => Same H1 H ∧ H D = some (.lst ((xs.take i).filterMap f))) ⟨Same.new' hD, upd_same⟩ (fun i H _ h => h.1.seq hl)
    (fun i x H hx hp => fm_step hx hD hz rfl (hs x (List.mem_of_getElem? hx)) hp) (fun H h => hd H h.1 (by have := h.2; rw [List.take_length] at this; exact this))
theorem lc_fmT (f : V → Option V) (hl : SqT K H1 a xs) (hD : H1 D = none) (hz : xs.length < sizeLine) (hs : ∀ x, x ∈ xs → LcTurn g tt te vs σ H1 D f x)
    (hd : ∀ H, Same H1 H → H D = some (.lst (xs.filterMap f)) → Qd H) :
    ∃ W : Nat → Nat → Hp → Prop, (∃ m, W 0 m (upd H1 D (.lst []))) ∧ ∀ i m H, W i m H → ((Itt K a).stop i H ∧ Qd H) ∨ ((Itt K a).go i H ∧ ∃ Nx : Hp → Prop, (∀ H', Nx H' → ∃ m', m' < m ∧ W (i + 1) m' H') ∧ ∀ x H', (Itt K a).yld i H x H' → g x (wipe σ vs) H' fun σ2 H2 => wipe σ2 vs = wipe σ vs ∧ tt σ2 H2 fun b H3 =>
      if b = true then te σ2 H3 fun y H4 => ∃ acc, H4 D = some (.lst acc) ∧ acc.length < sizeLine ∧ Nx (upd H4 D (.lst (acc ++ [y]))) else Nx H3) :=
  lc_tup (K := K) (a := a) (xs := xs) (fun i H => Same H1 H ∧ H D = some (.lst ((xs.take i).filterMap f))) ⟨Same.new' hD, upd_same⟩ (fun i H _ h => Same.sqT h.1 hl)
    (fun i x H hx hp => fm_step hx hD hz rfl (hs x (List.mem_of_getElem? hx)) hp) (fun H h => hd H h.1 (by have := h.2; rw [List.take_length] at this; exact this))
theorem range_at {n i : Nat} (h : i < n) : ((List.range n).map fun (i : Nat) => V.int (i : Int))[i]? = some (V.int ((0 : Int) + (i : Nat))) := by
  rw [List.getElem?_map, List.getElem?_range h]
  simp
theorem lc_fmR {n : Nat} (f : V → Option V) (hD : H1 D = none) (hz : n < sizeLine) (hs : ∀ k, k < n → LcTurn g tt te vs σ H1 D f (.int ((0 : Int) + (k : Nat))))
    (hd : ∀ H, Same H1 H → H D = some (.lst (((List.range n).map fun (i : Nat) => V.int (i : Int)).filterMap f)) → Qd H) :
    ∃ W : Nat → Nat → Hp → Prop, (∃ m, W 0 m (upd H1 D (.lst []))) ∧ ∀ i m H, W i m H → ((Itr 0 n).stop i H ∧ Qd H) ∨ ((Itr 0 n).go i H ∧ ∃ Nx : Hp → Prop, (∀ H', Nx H' → ∃ m', m' < m ∧ W (i + 1) m' H') ∧ ∀ x H', (Itr 0 n).yld i H x H' → g x (wipe σ vs) H' fun σ2 H2 => wipe σ2 vs = wipe σ vs ∧ tt σ2 H2 fun b H3 =>
      if b = true then te σ2 H3 fun y H4 => ∃ acc, H4 D = some (.lst acc) ∧ acc.length < sizeLine ∧ Nx (upd H4 D (.lst (acc ++ [y]))) else Nx H3) :=
  lc_range (fun i H => Same H1 H ∧ H D = some (.lst ((((List.range n).map fun (i : Nat) => V.int (i : Int)).take i).filterMap f))) ⟨Same.new' hD, upd_same⟩
    (fun i H hi hp => fm_step (range_at hi) hD (by simpa using hz) rfl (hs i hi) hp) (fun H h => hd H h.1 (by
      have := h.2
      rw [List.take_of_length_le (by simp)] at this
      exact this))
theorem lc_fmS (f : V → Option V) {R : Addr → Hp → Prop} (hl : Sq K H1 a xs) (hz : xs.length < sizeLine) (hs : ∀ D, H1 D = none → ∀ x, x ∈ xs → LcTurn g tt te vs σ H1 D f x)
    (hd : ∀ D H, H1 D = none → Same H1 H → H D = some (.lst (xs.filterMap f)) → R D H) :
    ∃ a' xs', V.ref a = .ref a' ∧ ((SqL K H1 a' xs' ∧ ∀ D, H1 D = none → ∃ W : Nat → Nat → Hp → Prop, (∃ m, W 0 m (upd H1 D (.lst []))) ∧ ∀ i m H, W i m H → ((Itl K a').stop i H ∧ R D H) ∨ ((Itl K a').go i H ∧ ∃ Nx : Hp → Prop, (∀ H', Nx H' → ∃ m', m' < m ∧ W (i + 1) m' H') ∧ ∀ x H', (Itl K a').yld i H x H' → g x (wipe σ vs) H' fun σ2 H2 => wipe σ2 vs = wipe σ vs ∧ tt σ2 H2 fun b H3 =>
      if b = true then te σ2 H3 fun y H4 => ∃ acc, H4 D = some (.lst acc) ∧ acc.length < sizeLine ∧ Nx (upd H4 D (.lst (acc ++ [y]))) else Nx H3)) ∨
     (SqT K H1 a' xs' ∧ ∀ D, H1 D = none → ∃ W : Nat → Nat → Hp → Prop, (∃ m, W 0 m (upd H1 D (.lst []))) ∧ ∀ i m H, W i m H → ((Itt K a').stop i H ∧ R D H) ∨ ((Itt K a').go i H ∧ ∃ Nx : Hp → Prop, (∀ H', Nx H' → ∃ m', m' < m ∧ W (i + 1) m' H') ∧ ∀ x H', (Itt K a').yld i H x H' → g x (wipe σ vs) H' fun σ2 H2 => wipe σ2 vs = wipe σ vs ∧ tt σ2 H2 fun b H3 =>
      if b = true then te σ2 H3 fun y H4 => ∃ acc, H4 D = some (.lst acc) ∧ acc.length < sizeLine ∧ Nx (upd H4 D (.lst (acc ++ [y]))) else Nx H3))) := by
  rcases hl with hl | hl
  · exact ⟨a, xs, rfl, .inl ⟨hl, fun D hD => lc_fmL f hl hD hz (hs D hD) fun H => hd D H hD⟩⟩
  · exact ⟨a, xs, rfl, .inr ⟨hl, fun D hD => lc_fmT f hl hD hz (hs D hD) fun H => hd D H hD⟩⟩
end
end TB

set_option Elab.async false
set_option linter.all false
set_option maxRecDepth 100000
set_option maxHeartbeats 4000000
namespace TB
open PySem PySem.SeqAt
open PySem.AutoSeq1 (wpAny_loadPart')
open PySem.MeetsSeq PySem.MeetsSeq2 PySem.MeetsSeq3
theorem rm_loop (l : Addr) (items : Array Value) (n : Nat) (x : Value) (e : Value → Bool) (j : Nat) (hj : j < items.size) (hit : e items[j] = true) (hs1 : items.size ≤ sizeLine) (k : Nat) :
    ∀ i : Nat, j - i = k → i ≤ j → (∀ m (hm : m < items.size), i ≤ m → m < j → e items[m] = false) → Meets (Builtin.«list.remove.loop» ⟨[.ref l, x, rawInt i], []⟩)
      (fun A R s => s.heap.get? l = some { cls := .type "list", dict := none, data := .seq items n, slots := #[] } ∧ (∀ y, y ∈ items → EqAt A.in1 s y x (e y)) ∧ R (.ok (.ret .none)) { s with heap := s.heap.update l (Obj.mapSeq fun xs => xs.eraseIdxIfInBounds j) }) := by
  induction k with
  | zero =>
    intro i hk hij hno prog w A R s h
    obtain ⟨hp, g, d, tk, os⟩ := s; obtain ⟨hl, he, h⟩ := h
    obtain rfl : i = j := by first | lia | omega
    wp_walk using wpAny_loadPart' hl
    have hi : items[((i : Nat) : Int).toNat]? = some items[i] := by simp [hj]
    rw [hi]
    refine wpAny_bind (he _ (Array.getElem_mem hj) prog w _ _ ?_)
    rw [hit]
    have hz' : (items.eraseIdxIfInBounds i).size ≤ sizeLine + 1 := Nat.le_trans (size_erased items _) (Nat.le_succ_of_le hs1)
    wp_walk using (wpAny_updateSeq hl rfl (hz := hs1) (_hz' := hz')), wpAny_loadPart' hl
    simpa using h
  | succ k ih =>
    intro i hk hij hno prog w A R s h
    obtain ⟨hp, g, d, tk, os⟩ := s; obtain ⟨hl, he, h⟩ := h
    have hlt : i < items.size := by first | lia | omega
    wp_walk using wpAny_loadPart' hl
    have hi : items[((i : Nat) : Int).toNat]? = some items[i] := by simp [hlt]
    have hc : ((i : Int) + 1) = ((i + 1 : Nat) : Int) := by push_cast; rfl
    rw [hi]
    refine wpAny_bind (he _ (Array.getElem_mem hlt) prog w _ _ ?_)
    rw [hno i hlt (Nat.le_refl _) (by first | lia | omega)]
    wp_walk
    rw [hc]
    exact ⟨plainId_quiet plain_remove_loop _, codeAny_builtin entry_remove_loop (by
      rw [Around.under_plainId plain_remove_loop _]
      exact ih (i + 1) (by first | lia | omega) (by first | lia | omega) (fun m hm h1 h2 => hno m hm (by first | lia | omega) h2) prog w A R _ ⟨hl, he, h⟩)⟩
theorem rm_at (l : Addr) (items : Array Value) (n : Nat) (x : Value) (e : Value → Bool) (j : Nat) (hj : j < items.size) (hit : e items[j] = true) (hno : ∀ m (hm : m < items.size), m < j → e items[m] = false) (hs1 : items.size ≤ sizeLine) :
    Meets (Builtin.«list.remove» ⟨[.ref l, x], []⟩)
      (fun A R s => s.heap.get? l = some { cls := .type "list", dict := none, data := .seq items n, slots := #[] } ∧ (∀ y, y ∈ items → EqAt A.in1 s y x (e y)) ∧ R (.ok (.ret .none)) { s with heap := s.heap.update l (Obj.mapSeq fun xs => xs.eraseIdxIfInBounds j) }) := by
  intro prog w A R s h
  obtain ⟨hp, g, d, tk, os⟩ := s; obtain ⟨hl, he, h⟩ := h
  wp_walk using wpAny_loadPart' hl
  exact ⟨plainId_quiet plain_remove_loop _, codeAny_builtin entry_remove_loop (by
    rw [Around.under_plainId plain_remove_loop _]
    exact rm_loop l items n x e j hj hit hs1 _ 0 rfl (Nat.zero_le _) (fun m hm _ h2 => hno m hm h2) prog w A R _ ⟨hl, he, h⟩)⟩
end TB
namespace TB
open PySem PySem.Spec PyProof.Rows L2
section
variable {X : Cx}
noncomputable def rRemoveT : V → List V → Hp → VK → Prop := fun x vs H Q => ∃ (l b : Addr) (us : List Addr) (ks : List (List Key)) (k : List Key) (j : Nat), x = .ref l ∧ vs = [.ref b] ∧ H l = some (.lst (us.map V.ref)) ∧ Paired (fun c k' => H c = some (.tup (k'.map kV))) us ks ∧
  H b = some (.tup (k.map kV)) ∧ ks[j]? = some k ∧ (∀ m k', m < j → ks[m]? = some k' → k' ≠ k) ∧ Q .non (upd H l (.lst ((us.eraseIdx j).map V.ref)))
theorem refs_of : ∀ {us : List Addr} {its : List Value}, Vals (us.map V.ref) its → its = us.map Value.ref
  | [], _, r => by cases r; rfl
  | u :: us, _, r => by
    cases r with
    | cons h t =>
      have e : _ = Value.ref u := h
      rw [List.map_cons, e, refs_of t]
theorem vals_refs : ∀ us : List Addr, Vals (us.map V.ref) (us.map Value.ref)
  | [] => .nil
  | _ :: us => .cons rfl (vals_refs us)
theorem paired_at {α β : Type} {F : α → β → Prop} : ∀ {l : List α} {m : List β} {i : Nat} {x : α}, Paired F l m → l[i]? = some x → ∃ y, m[i]? = some y ∧ F x y
  | _, _, _, _, .nil, e => by simp at e
  | _, _, 0, _, .cons h _, e => by simp at e; subst e; exact ⟨_, rfl, h⟩
  | _, _, i + 1, _, .cons _ t, e => by
    obtain ⟨y, h1, h2⟩ := paired_at (i := i) t (by simpa using e)
    exact ⟨y, by simpa using h1, h2⟩
theorem paired_at' {α β : Type} {F : α → β → Prop} : ∀ {l : List α} {m : List β} {i : Nat} {y : β}, Paired F l m → m[i]? = some y → ∃ x, l[i]? = some x ∧ F x y
  | _, _, _, _, .nil, e => by simp at e
  | _, _, 0, _, .cons h _, e => by simp at e; subst e; exact ⟨_, rfl, h⟩
  | _, _, i + 1, _, .cons _ t, e => by
    obtain ⟨x, h1, h2⟩ := paired_at' (i := i) t (by simpa using e)
    exact ⟨x, by simpa using h1, h2⟩
theorem map_erase {α β : Type} (f : α → β) : ∀ (l : List α) (j : Nat), (l.map f).eraseIdx j = (l.eraseIdx j).map f
  | [], _ => rfl
  | _ :: _, 0 => rfl
  | x :: l, j + 1 => by
    show f x :: (l.map f).eraseIdx j = f x :: (l.eraseIdx j).map f
    rw [map_erase f l j]
open Classical in
theorem mt_remove (hu : X.A.units + 64 < cLine) : MtM X "list.remove" rRemoveT := by
  intro pins s σ H x vs v us' Q I rx rv h
  obtain ⟨l, b, us, ks, k, j, rfl, rfl, hH, hp, hb, hj, hno, q⟩ := h
  cases rx
  obtain ⟨u, rfl, ru⟩ := rv.one
  cases ru
  obtain ⟨z, its, n, r, hl, e⟩ := I.lstM hH
  have hits := refs_of r
  subst hits
  obtain ⟨c0, hc0, ec0⟩ := paired_at' hp hj
  have hjl : j < us.length := (List.getElem?_eq_some_iff.mp hc0).1
  have hsz : (us.map Value.ref).toArray.size = us.length := by simp
  have key : ∀ {c : Addr} {k' : List Key}, H c = some (.tup (k'.map kV)) → (decide (k' = k)) = (decide (H c = some (.tup (k.map kV)))) := fun {c k'} ec => by
    by_cases ek : k' = k
    · subst ek
      simp [ec]
    · have : ¬ H c = some (.tup (k.map kV)) := fun z => by
        rw [ec] at z
        injection z with z
        injection z with z
        exact ek (kVs_inj z)
      rw [decide_eq_false ek, decide_eq_false this]
  let ef : Value → Bool := fun y => match y with | .ref c => decide (H c = some (.tup (k.map kV))) | _ => false
  refine call_meets PySem.F.slot_list_remove ⟨_, e, rfl⟩ PySem.F.entry_list_remove (PySem.F.args_list_remove_2 _ _)
    (rm_at l (us.map Value.ref).toArray n (.ref b) ef j (by rw [hsz]; exact hjl) ?_ (fun m hm hmj => ?_) (by rw [hsz]; rw [List.length_map] at z; exact z)) ⟨e, fun y hy => ?_, ?_⟩
  · have e1 : (us.map Value.ref).toArray[j]'(by rw [hsz]; exact hjl) = Value.ref c0 := by
      have := (List.getElem?_eq_some_iff.mp hc0).2
      simp [this]
    rw [e1]
    exact decide_eq_true ec0
  · have hm' : m < us.length := by rw [hsz] at hm; exact hm
    obtain ⟨k', hk1, hk2⟩ := paired_at hp (List.getElem?_eq_getElem hm')
    have e1 : (us.map Value.ref).toArray[m]'hm = Value.ref us[m] := by simp
    rw [e1]
    show decide (H us[m] = some (.tup (k.map kV))) = false
    rw [← key hk2]
    exact decide_eq_false (hno m k' hmj hk1)
  · obtain ⟨c, hc, rfl⟩ := List.mem_map.mp (by simpa using hy : y ∈ us.map Value.ref)
    obtain ⟨i, hi⟩ := List.getElem?_of_mem hc
    obtain ⟨k', hk1, hk2⟩ := paired_at hp hi
    intro prog w E Q' hq
    have hq' : Q' (decide (H c = some (.tup (k.map kV)))) s := hq
    rw [← key hk2] at hq'
    have ok1 := wpAny_eqBool_tuple (knd := mixKind prog w) (prog := prog) (w := w) (A := X.A.in1) (E := E) (s := s) (Q := Q') (by show X.A.units + 1 < cLine; first | lia | omega) (show IsTupleKey (mixKind prog w) s.heap k' c from ?_) (show IsTupleKey (mixKind prog w) s.heap k b from ?_) hq'
    · exact ok1
    · obtain ⟨_, its, r, o, h1, h2, n, h3⟩ := (show ObjOk X.prog X.w H s.heap c (.tup (k'.map kV)) from I.hok c _ hk2)
      exact ⟨o, its.toArray, n, h1, h2, h3, by simpa using items_are r⟩
    · obtain ⟨_, its, r, o, h1, h2, n, h3⟩ := (show ObjOk X.prog X.w H s.heap b (.tup (k.map kV)) from I.hok b _ hb)
      exact ⟨o, its.toArray, n, h1, h2, h3, by simpa using items_are r⟩
  · refine ⟨.non, _, I.lset (its' := (us.eraseIdx j).map Value.ref) hH e ?_ (vals_refs _) ?_, rfl, q⟩
    · rw [Array.eraseIdxIfInBounds]
      rw [dif_pos (by rw [hsz]; exact hjl)]
      apply Array.ext'
      simp [map_erase]
    · rw [List.length_map] at z ⊢
      exact Nat.le_trans (List.length_eraseIdx_le ..) z
end
end TB

set_option Elab.async false
set_option linter.all false
set_option maxRecDepth 100000
set_option maxHeartbeats 4000000
namespace TB
open PySem PySem.Spec PyProof.Rows L2
noncomputable def BmAt (mg : Str → Option Value) (base : Heap) : Prop := ∃ bm ob, mg "__builtins__" = some (.ref bm) ∧ bm ≠ builtinsNs ∧ base.get? bm = some ob ∧ ob.cls = .type "module" ∧ ob.dict = some builtinsNs ∧ ob.data = .plain
section
variable {X : Cx} {pins : List (Addr × Obj)} {σ : L2.St} {H : Hp} {s : Shared}
theorem Inv_new (I : L2.Inv X pins σ H s) {a : Addr} (h : s.heap.objs.size ≤ a) : a ∉ frs X.stack ∧ a ≠ X.env.locals ∧ (∀ x c, X.env.cells.lookup x = some c → c ≠ a) ∧ X.s_0.heap.objs.size ≤ a ∧ (∀ p ∈ X.pn ++ pins, p.1 ≠ a) ∧ H a = none := by
  have hL : a ≠ X.env.locals := Nat.ne_of_gt (Nat.lt_of_lt_of_le I.lt h)
  refine ⟨fun z => ?_, hL, fun x c e z => ?_, Nat.le_trans I.sz h, fun p hp z => ?_, I.hok.fresh h⟩
  · rcases List.mem_cons.mp (I.stkSub a z) with e | e
    · exact hL e
    · exact I.nofs h e
  · obtain ⟨v, o, ho, _⟩ := I.cell x c e
    rw [z] at ho
    exact absurd (Nat.lt_of_lt_of_le (Heap.lt_size ho) h) (Nat.lt_irrefl _)
  · have e := (I.pin p hp).1
    rw [z] at e
    exact absurd (Nat.lt_of_lt_of_le (Heap.lt_size e) h) (Nat.lt_irrefl _)
theorem lam_make {c P : Addr} {ps : Array Value} {params : Arguments} {body : Expr} {scope : Scope} {pos : Pos} {clos : List (Str × Addr)} {qual : Str} {Q : Value → Shared → Prop} {E : Value → Shared → Prop}
    (I : L2.Inv X pins σ H s) (bm : BmAt X.mg X.base) (hcode : X.env.code = .ref c) (C : PySem.W.CodeHd X.base c P) (hP : H P = some (.tbl ps)) (hps : ps = #[rawInt pos.line, rawInt pos.col, .str qual 0]) (hq : X.env.qual ++ "<lambda>" = qual)
    (hdef : defaultsOf params X.env = ([], [])) (hcl : closureFor scope X.env = pure clos)
    (h : ∀ (f c' : Addr) (oc : Obj) (vs : Array Value) (t : Tok) (ctv pm : Value) (H' : Hp) (s' : Shared), L2.Inv X pins σ H' s' → Same H H' → H' P = some (.tbl ps) → H' c' = some (.own P) → s'.heap.get? c' = some oc → oc.data = .fields vs → vs[1]? = some (.str qual t) →
      s'.heap.get? f = some (PySem.W.kla_obj "<lambda>" qual params body scope clos pm c' ctv) → H' f = none → f ∉ frs X.stack → Q (.ref f) s') :
    wpAny (model X.prog X.w) X.A (eval (.Lambda params body scope pos) X.env) Q E s := by
  obtain ⟨qs, eP, z⟩ := (show TblOk H s.heap P ps from I.hok P _ hP)
  have hg : s.heap.Ns mainGlobals X.mg := I.mod.glob.keeps I.bk
  obtain ⟨b, ob, b1, b2, b3, b4, b5, b6⟩ := bm
  have bP : ∀ x o, X.base.get? x = some o → x ≠ P := fun x o e z => by
    have := (I.bs x o e).2
    rw [z, hP] at this
    cases this
  have hgP : mainGlobals ≠ P := by
    obtain ⟨o, es, ep, e, _⟩ := I.mod.glob
    exact bP _ _ e
  have hbG : b ≠ mainGlobals := fun z => by
    obtain ⟨o, es, ep, e, hd, _⟩ := I.mod.glob
    rw [z, e] at b3
    cases b3
    rw [hd] at b6
    cases b6
  have hB : s.heap.BuiltinsAt X.mg P := ⟨b, ob, b1, b2, hbG, bP _ _ b3, I.bk _ _ b3, b4, b5, b6⟩
  refine PySem.W.kla_eval hdef ?_
  rw [hq]
  rcases z with z | ⟨c0, hc0, hqs, c2, oc, vs, t, e1, e2, e3, e4⟩
  · subst z
    refine PySem.W.kla_makeFunction (mg := X.mg) hcl I.ok.glob hg hcode (C.keeps I.bk) eP trivial rfl hgP hB fun c' ctv h' tk hx hge hlt hrec htb => ?_
    obtain ⟨c2, oc, vs, t, e1, e2, e3, e4⟩ := hrec
    cases e1
    have hcn : H c' = none := I.hok.fresh hge
    have hPc : P ≠ c' := ne_of_none hP hcn
    have hfn : s.heap.objs.size ≤ h'.objs.size := Nat.le_trans hge (Nat.le_of_lt hlt)
    have hfc : h'.objs.size ≠ c' := Nat.ne_of_gt hlt
    have kp : ∀ b o, b ≠ P → s.heap.get? b = some o → (h'.push (PySem.W.kla_obj "<lambda>" qual params body scope clos ((X.mg "__name__").getD .none) c' ctv)).get? b = some o := fun b o hb e => Heap.get?_push_of_some _ (hx b o hb e)
    have hk : ∀ b u, H b = some u → upd H c' (.own P) b = some u := fun b u e => by rw [upd_ne (ne_of_none e hcn)]; exact e
    have un : Un X.fs [] H (upd H c' (.own P)) s.heap (h'.push (PySem.W.kla_obj "<lambda>" qual params body scope clos ((X.mg "__name__").getD .none) c' ctv)) := by
      refine ⟨fun b o e n _ _ => kp b o (Ne.symm (ne_of_none hP n)) e, fun b o e n _ _ => ⟨o.slots, kp b o (Ne.symm (ne_of_none hP n)) e⟩, fun b o e n _ => ?_, fun b o e _ => ?_, fun b xs e => hk b _ e, fun b o u e => hk b _ e, fun b qs e => ⟨#[], by rw [hk b _ e]; simp⟩⟩
      · rw [upd_ne (Nat.ne_of_lt (Nat.lt_of_lt_of_le (Heap.lt_size e) hge))]
        exact n
      · by_cases hb : b = P
        · rw [hb]
          exact ⟨_, Heap.get?_push_of_some _ htb⟩
        · exact ⟨o, kp b o hb e⟩
    have hok : HOk X.prog X.w (upd H c' (.own P)) (h'.push (PySem.W.kla_obj "<lambda>" qual params body scope clos ((X.mg "__name__").getD .none) c' ctv)) := fun b u e => by
      by_cases hb : b = c'
      · subst hb
        rw [upd_same] at e
        cases e
        exact ⟨oc, Heap.get?_push_of_some _ e2⟩
      · rw [upd_ne hb] at e
        by_cases hbP : b = P
        · subst hbP
          rw [hP] at e
          cases e
          refine ⟨_, Heap.get?_push_of_some _ htb, .inr ⟨c', upd_same, ?_, c', oc, vs, t, rfl, Heap.get?_push_of_some _ e2, e3, ?_⟩⟩
          · rw [hps]
            rfl
          · rw [hps]
            exact e4
        · refine (I.hok b u e).stay (fun c v hc q => kp c v ?_ q) (fun c q => hk c _ q) fun c xs q => hk c _ q
          rintro rfl
          rcases hc with z | z
          · exact hbP z.symm
          · rw [hP] at z
            cases z
    have I' := I.un (t' := tk) un hok
    have hfresh := Inv_new I hfn
    refine h h'.objs.size c' oc vs t ctv ((X.mg "__name__").getD .none) _ _ I' (fun a o e => hk a o e) (hk P _ hP) upd_same (Heap.get?_push_of_some _ e2) e3 e4 (Heap.get?_push_size _ rfl) ?_ hfresh.1
    rw [upd_ne hfc]
    exact hfresh.2.2.2.2.2
  · cases e1
    have hq0 : qs = #[rawInt pos.line, rawInt pos.col, .ref c0] := by
      rw [hqs, hps]
      rfl
    have ht : TriplesOk qs.toList := by rw [hq0]; exact trivial
    have hf : codeAmong pos qs.toList = some (.ref c0) := by
      rw [hq0]
      exact codeAmong_snoc (pos := pos) (c := .ref c0) [] trivial rfl
    refine PySem.W.kla_makeFunctionHit (mg := X.mg) hcl I.ok.glob hg hcode (C.keeps I.bk) eP ht hf hB fun ctv h' tk hk hsz => ?_
    have hfresh := Inv_new I hsz
    have kp : ∀ b o, s.heap.get? b = some o → (h'.push { cls := .type "function", data := .func (PySem.W.kla_fn "<lambda>" qual params body scope clos ((X.mg "__name__").getD .none) (.ref c0) ctv) }).get? b = some o := fun b o e => Heap.get?_push_of_some _ (hk b o e)
    refine h h'.objs.size c0 oc vs t ctv ((X.mg "__name__").getD .none) H _ (I.kept (t' := tk) kp) (fun _ _ e => e) hP hc0 (kp _ _ e2) e3 ?_ (Heap.get?_push_size _ rfl) hfresh.2.2.2.2.2 hfresh.1
    rw [hps] at e4
    exact e4
end
end TB

set_option Elab.async false
set_option linter.all false
set_option maxRecDepth 100000
set_option maxHeartbeats 4000000
namespace TB
open PySem PySem.Spec PyProof.Rows L2
open Classical in
noncomputable def hid (H : Hp) (P : Addr) : Hp := fun a => if a = P ∨ H a = some (.own P) then none else H a
section
variable {H : Hp} {P : Addr} {ps : Array Value}
theorem hid_none {a : Addr} (h : H a = none) : hid H P a = none := by
  unfold hid
  split
  · rfl
  · exact h
theorem hid_out {a : Addr} (h : a = P ∨ H a = some (.own P)) : hid H P a = none := by
  unfold hid
  rw [if_pos h]
theorem hid_some {a : Addr} {o : HO} (h : hid H P a = some o) : H a = some o ∧ a ≠ P ∧ o ≠ .own P := by
  unfold hid at h
  split at h
  · cases h
  · rename_i z
    refine ⟨h, fun e => z (.inl e), fun e => z (.inr ?_)⟩
    rw [h, e]
theorem hid_of {a : Addr} {o : HO} (h : H a = some o) (h1 : a ≠ P) (h2 : o ≠ .own P) : hid H P a = some o := by
  unfold hid
  rw [if_neg]
  · exact h
  · rintro (z | z)
    · exact h1 z
    · rw [h] at z
      exact h2 (Option.some.inj z)
theorem hid_keep (hP : H P = some (.tbl ps)) {a : Addr} {o : HO} (h : H a = some o) (h1 : ∀ qs, o ≠ .tbl qs) (h2 : ∀ x, o ≠ .own x) : hid H P a = some o :=
  hid_of h (fun z => by rw [z, hP] at h; exact h1 _ (Option.some.inj h).symm) (h2 P)
theorem hid_ok {Pr : Program} {w : World} {h : Heap} (hP : H P = some (.tbl ps)) (ok : HOk Pr w H h) : HOk Pr w (hid H P) h := fun a o e => by
  obtain ⟨e1, e2, e3⟩ := hid_some e
  refine (ok a o e1).stay (fun _ _ _ q => q) (fun b q => ?_) fun b xs q => hid_keep hP q (fun _ z => nomatch z) (fun _ z => nomatch z)
  refine hid_of q (fun z => ?_) (fun z => ?_)
  · rw [z, hP] at q
    cases q
  · injection z with z
    exact e2 z
theorem un_hid {Pr : Program} {w : World} {h h' : Heap} (hP : H P = some (.tbl ps)) (ok : HOk Pr w H h) (ok' : HOk Pr w (hid H P) h') (k : ∀ a o, a = P ∨ H a = some (.own P) → h.get? a = some o → h'.get? a = some o) : HOk Pr w H h' := fun a o e => by
  by_cases q : a = P ∨ H a = some (.own P)
  · rcases q with q | q
    · subst q
      exact (ok a o e).stay (fun b u hb z => k b u hb z) (fun _ z => z) fun _ _ z => z
    · rw [e] at q
      cases q
      obtain ⟨ob, z⟩ := ok a _ e
      exact ⟨ob, k a ob (.inr e) z⟩
  · have e2 : hid H P a = some o := hid_of e (fun z => q (.inl z)) fun z => q (.inr (by rw [e, z]))
    exact (ok' a o e2).stay (fun _ _ _ z => z) (fun b z => (hid_some z).1) fun b xs z => (hid_some z).1
theorem dget_hid (hP : H P = some (.tbl ps)) {d : Addr} {y : V} {r : Option V} (h : DGet H d y r) : DGet (hid H P) d y r := by
  have rd : ∀ {u : HO}, Rd H d u → (∀ qs, u ≠ .tbl qs) → (∀ x, u ≠ .own x) → Rd (hid H P) d u := fun {u} z h1 h2 => by
    rcases z with z | ⟨o, z⟩
    · exact .inl (hid_keep hP z h1 h2)
    · exact .inr ⟨o, hid_keep hP z (fun _ z => nomatch z) (fun _ z => nomatch z)⟩
  rcases h with ⟨kvs, k, h1, h2, h3⟩ | ⟨kvs, k, b, h1, h2, h3, h4⟩
  · exact .inl ⟨kvs, k, rd h1 (fun _ z => nomatch z) (fun _ z => nomatch z), h2, h3⟩
  · exact .inr ⟨kvs, k, b, rd h1 (fun _ z => nomatch z) (fun _ z => nomatch z), h2, hid_keep hP h3 (fun _ z => nomatch z) (fun _ z => nomatch z), h4⟩
end
section
variable {X : Cx} {pins : List (Addr × Obj)} {σ : L2.St} {H : Hp} {s : Shared}
noncomputable abbrev lamCx (X : Cx) (s : Shared) (H : Hp) (P : Addr) (A : Around) (env : Env) : Cx where
  prog := X.prog
  w := X.w
  K := X.K
  mg := X.mg
  base := X.base
  A := A.deeper env
  N := ["each", "limits"]
  s_0 := s
  H_0 := hid H P
  env := env
  outer := X.stack
  stack := env :: X.stack
  ex := []
  fn := fun _ => false
  calm := true
  pn := []
  xe := fun _ _ => False
theorem lam_call {c' f cc d b P : Addr} {k : Int} {ps : Array Value} {qual : Str} {params : Arguments} {scope : Scope} {pm ctv : Value} {oc : Obj} {vs : Array Value} {t : Tok} {p1 p2 p3 : Pos}
    (I : L2.Inv X pins σ H s) (hr : Room 3 X.A) (hf : s.heap.get? f = some (PySem.W.kla_obj "<lambda>" qual params (.Subscript (.Name "limits" p1) (.Name "each" p2) p3) scope [(("limits" : Str), cc)] pm c' ctv))
    (hP : H P = some (.tbl ps)) (hc1 : H c' = some (.own P)) (hc2 : s.heap.get? c' = some oc) (hoc : oc.data = .fields vs) (hv : vs[1]? = some (.str qual t))
    (hbind : ∀ v : Value, bindArgs (PySem.W.kla_fn "<lambda>" qual params (.Subscript (.Name "limits" p1) (.Name "each" p2) p3) scope [(("limits" : Str), cc)] pm (.ref c') ctv) ⟨[v], []⟩ = pure [(("each" : Str), v)])
    (hnames : scope.names = [(("each" : Str), NameKind.local), (("limits" : Str), NameKind.free)]) (hkind : scope.kind = .function) (hco : scope.isCoroutine = false) (hgen : scope.isGenerator = false)
    (hcc : s.heap.IsCell cc (some (.ref d))) (Hcc : H cc = none) (hg : DGet H d (.ref b) (some (.int k))) :
    wpAny (model X.prog X.w) X.A.in1 (call (.ref f) [.ref b]) (fun u s' => (∃ t, u = .int k t) ∧ L2.Inv X pins σ H s' ∧ ∀ a o, (H a = none ∧ a ∉ frs X.stack) ∨ a = P ∨ H a = some (.own P) → s.heap.get? a = some o → s'.heap.get? a = some o) (fun _ _ => False) s := by
  have e0 := I.env0.in1
  have hr1 : Room 2 X.A.in1 := hr.in1
  have lim : s.heap.NoLimit := I.nolimit
  have ok1 := hid_ok hP I.hok
  have nfr : ∀ a, H a ≠ none → a ∉ frs X.stack := fun a h z => h (I.stkFree a z)
  refine wpAny_call (PySem.W.kla_callFunE hr1.depth hf rfl hco hgen rfl ⟨c', oc, vs, t, rfl, hc2, hoc, hv⟩ ?_)
  rw [hbind]
  refine wpAny_pure (wpAny_newFunctionEnv (by rw [hnames]; decide) (fun y hy => by rw [List.mem_singleton.mp hy, hnames]; rfl) (fun h1 hns hsb => ⟨lim.fresh _ hsb, ?_⟩) hkind)
  have kp : ∀ b o, s.heap.get? b = some o → h1.get? b = some o := fun b o e => hsb.extBut b o (Nat.ne_of_lt (Heap.lt_size e)) (Heap.get?_push_of_some _ e)
  show codeAny _ _ (.expr _ (PySem.W.envX qual scope s.heap.objs.size f (.ref c') [(("limits" : Str), cc)])) _ _
  generalize henv : PySem.W.envX qual scope s.heap.objs.size f (.ref c') [(("limits" : Str), cc)] = env
  have hcells : env.cells = [(("limits" : Str), cc)] := by rw [← henv]
  have hsc : env.scope = scope := by rw [← henv]
  have hkE : env.kindOf "each" = some .local := by
    show env.scope.names.lookup ("each" : Str) = _
    rw [hsc, hnames]
    rfl
  have hkL : env.kindOf "limits" = some .free := by
    show env.scope.names.lookup ("limits" : Str) = _
    rw [hsc, hnames]
    rfl
  have lk : ∀ {x : Str} {c : Addr}, env.cells.lookup x = some c → x = "limits" ∧ c = cc := fun {x c} e => by
    rw [hcells, List.lookup_cons] at e
    split at e
    · rename_i z
      exact ⟨eq_of_beq z, (Option.some.inj e).symm⟩
    · cases e
  have noA : ∀ b : Addr, b ∉ (lamCx X s H P X.A.in1 env).ex := fun b z => absurd (show b ∈ ([] : List Addr) from z) (by simp)
  have hLoc : env.locals = s.heap.objs.size := by rw [← henv]
  have okX : Cx.Ok (lamCx X s H P X.A.in1 env) := by
    refine ⟨e0.mod, by show env.scope.kind = _; rw [hsc]; exact hkind, by show env.globals = _; rw [← henv], by show env.builtins = _; rw [← henv], by show _ ≤ env.locals; rw [hLoc]; exact Nat.le_refl _, fun x y c h1 h2 => (lk h1).1.trans (lk h2).1.symm, fun x hx => ?_, fun _ _ z => Bool.noConfusion z, fun _ => hr1.hd, Around.frames_deeper e0.frames,
      .inr ⟨rfl, by show env.frame = some env.locals; rw [← henv]⟩, fun b z => absurd z (noA b), fun b o e => ⟨(e0.bs b o e).1, hid_none (e0.bs b o e).2⟩, e0.bsz, fun b _ _ => noA b, fun b z => absurd z (noA b), e0.funs, fun b hb => hid_none (e0.frf b hb)⟩
    have hx : env.scope.names.lookup x = some .cell ∨ env.scope.names.lookup x = some .free := hx
    rw [hsc, hnames] at hx
    refine ⟨cc, ?_⟩
    show env.cells.lookup x = _
    rw [hcells, List.lookup_cons]
    by_cases z : x = "limits"
    · subst z
      rfl
    · exfalso
      have n1 : (x == ("limits" : Str)) = false := by simpa using z
      simp only [List.lookup_cons, n1, List.lookup_nil] at hx
      cases n2 : x == ("each" : Str) <;> rw [n2] at hx <;> simp at hx
  have J : L2.Inv (lamCx X s H P X.A.in1 env) [] [some (.ref b), some (.ref d)] (hid H P) { s with heap := h1, toks := s.toks + 1 } := by
    refine ⟨okX, rfl, e0.bare, Un.kept kp, ⟨_, by show Heap.Ns _ env.locals _; rw [hLoc]; exact hns, fun i y v h1 h2 h3 => ?_⟩, fun y c e => ?_, ?_, fun y c e => ?_, fun p hp => absurd (show p ∈ ([] : List (Addr × Obj)) from hp) (by simp), ok1.kept kp, rfl⟩
    · match i, h1, h2 with
      | 0, h1, h2 =>
        cases h1
        cases h2
        exact ⟨.ref b, rfl, .inl ⟨hkE, rfl⟩⟩
      | 1, h1, h2 =>
        cases h1
        cases h2
        exact ⟨.ref d, rfl, .inr ⟨.inr hkL, cc, by show env.cells.lookup _ = _; rw [hcells]; rfl, hcc.keeps kp⟩⟩
      | i + 2, h1, h2 => cases h2
    · rw [(lk e).2]
      exact ⟨_, hcc.keeps kp⟩
    · show hid H P env.locals = none
      rw [hLoc]
      exact hid_none (I.hok.fresh (Nat.le_refl _))
    · rw [(lk e).2]
      exact hid_none Hcc
  have hu : (lamCx X s H P X.A.in1 env).A.units + 1 < cLine := by
    have := (hr1.deeper env).units
    show (X.A.in1.deeper env).units + 1 < cLine
    first | lia | omega
  have vE : Vis env.scope "each" := .inl hkE
  have vL : Vis env.scope "limits" := .inr (.inr hkL)
  have body : PE (lamCx X s H P X.A.in1 env) (.Subscript (.Name "limits" p1) (.Name "each" p2) p3) (tDGet (tVar 1) (tVar 0)) := pe_dget hu (pe_var (i := 1) rfl vL) (pe_var (i := 0) rfl vE) (fun _ _ => rfl)
  refine PySem.W.kla_codeExpr (wpAny_mono (body [] _ _ _ (fun v H' => v = .int k ∧ H' = hid H P) J ⟨_, rfl, _, rfl, d, _, rfl, dget_hid hP hg, rfl, rfl⟩) (fun u s' hs => ?_) fun _ _ z => z.elim)
  obtain ⟨v, H', J', rv, rfl, rfl⟩ := hs
  obtain ⟨t', rfl⟩ := rv
  have un := J'.base
  have keep : ∀ a o, (H a = none ∧ a ∉ frs X.stack) ∨ a = P ∨ H a = some (.own P) → s.heap.get? a = some o → s'.heap.get? a = some o := fun a o ha e => by
    rcases ha with ha | ha
    · exact un.keep a o e (hid_none ha.1) ha.2 (by simp)
    · refine un.keep a o e (hid_out ha) (nfr a ?_) (by simp)
      rcases ha with z | z
      · rw [z, hP]
        exact fun z => nomatch z
      · rw [z]
        exact fun z => nomatch z
  refine ⟨⟨t', rfl⟩, ?_, keep⟩
  have hok' : HOk X.prog X.w H s'.heap := un_hid hP I.hok J'.hok fun a o ha e => keep a o (.inr ha) e
  refine I.call' (ch := []) J'.os ⟨fun a o e n hf hx => un.keep a o e (hid_none n) hf hx, fun a o e n hf hx => un.slot a o e (hid_none n) hf hx, fun a o e n hx => n, fun a o e hx => un.there a o e hx, fun _ _ z => z, fun _ _ _ z => z, fun a qs z => ⟨#[], by rw [z]; simp⟩⟩ hok' J'.bare (fun a z => nomatch z)
end
end TB

set_option Elab.async false
set_option linter.all false
set_option maxRecDepth 100000
set_option maxHeartbeats 4000000
namespace TB
open PySem PySem.Spec PyProof.Rows L2
section
variable {prog : Program} {w : World} {A : Around} {l q I S : Addr} {vs : List Value} {R : Result → Shared → Prop}
theorem mk_loop (J : Shared → Prop) (kf : Nat → Int) (hh : A.handled = none) (hl : ∀ s, J s → s.heap.IsList l vs.toArray) (hlI : l ≠ I) (hSI : S ≠ I)
    (hJ : ∀ s h' tk', J s → (∀ b o, b ≠ I → b ≠ S → s.heap.get? b = some o → h'.get? b = some o) → J { s with heap := h', toks := tk' })
    (turn : ∀ i v, vs[i]? = some v → ∀ s, J s → wpAny (model prog w) A.in1 (call (.ref q) [v]) (fun x s' => (∃ t, x = .int (kf i) t) ∧ J s' ∧ (∀ o, s.heap.get? I = some o → s'.heap.get? I = some o) ∧ ∀ o, s.heap.get? S = some o → s'.heap.get? S = some o) (fun _ _ => False) s)
    (hR : ∀ i v s, vs[i]? = some v → (∀ j, j < vs.length → kf i ≤ kf j ∧ (j < i → kf i < kf j)) → J s → R (.ok (.ret v)) s) :
    ∀ (r j i : Nat) (s : Shared) (vb : Value) (tb : Tok) (c : Nat), vs.length - (j + 1) = r → j + 1 ≤ vs.length → J s → s.heap.get? S = some (seqObj "list" #[vb, .int (kf i) tb] c) → s.heap.IsListIter I l (j + 1) → vs[i]? = some vb → i ≤ j →
      (∀ j', j' ≤ j → kf i ≤ kf j' ∧ (j' < i → kf i < kf j')) → codeAny (model prog w) A (.builtin "min.loop" ⟨[.ref I, .ref q, .ref S], []⟩) R s := by
  have hname : (toString "min" ++ toString ".loop" : String) = "min.loop" := by decide
  have W := Walks.list (prog := prog) (w := w) (A := A.in1) hh I l hlI vs.toArray
  have hsz : vs.toArray.size = vs.length := List.size_toArray ..
  intro r
  induction r with
  | zero =>
    intro j i s vb tb c hr hj Js hS hit hvb hij hbest
    have hin : j + 1 = vs.length := by first | lia | omega
    refine codeAny_builtin PySem.F.entry_min_loop ?_
    rw [Around.under_plainId PySem.F.plain_min_loop _]
    show wpAny _ A.in1 (seqItems? (.ref S) >>= _) _ _ _
    refine wpAny_bind (wpAny_seqItems hS rfl ?_)
    show wpAny _ A.in1 (tryCatch (pyNext (.ref I)) _ >>= _) _ _ _
    refine wpAny_bind (wpAny_tryCatch (W.done _ _ _ ⟨by rw [hsz, ← hin]; exact hit, hl s Js⟩ fun h' tk' hk' => ?_))
    have hS' := hk' S _ (by simpa using hSI) hS
    show wpAny _ A.in1 (updateSeq S (fun _ => #[]) >>= _) _ _ _
    refine wpAny_bind ?_
    refine wpAny_updateSeq hS' rfl (wpAny_bind (wpAny_letGo (wpAny_pure ?_)))
    have s1 := Heap.SameBut.update h' S (Obj.mapSeq fun _ => (#[] : Array Value))
    exact hR i vb _ hvb (fun j' hj' => hbest j' (by first | lia | omega)) (hJ s _ _ Js fun b o h1 h2 e => (s1.2 b h2).trans (hk' b o (by simpa using h1) e))
  | succ r ih =>
    intro j i s vb tb c hr hj Js hS hit hvb hij hbest
    have hlt : j + 1 < vs.length := by first | lia | omega
    refine codeAny_builtin PySem.F.entry_min_loop ?_
    rw [Around.under_plainId PySem.F.plain_min_loop _]
    show wpAny _ A.in1 (seqItems? (.ref S) >>= _) _ _ _
    refine wpAny_bind (wpAny_seqItems hS rfl ?_)
    show wpAny _ A.in1 (tryCatch (pyNext (.ref I)) _ >>= _) _ _ _
    refine wpAny_bind (wpAny_tryCatch (W.item (j + 1) _ _ _ (by rw [hsz]; exact hlt) ⟨hit, hl s Js⟩ fun v h' tk' hP hst' hk' => ?_))
    have hv : vs[j + 1]? = some v := by simpa using hP
    obtain ⟨oI', hoI', hoc, hod⟩ := id hst'.1
    have J1 := hJ s h' tk' Js fun b o h1 h2 e => hk' b o (by simpa using h1) e
    have hS1 : h'.get? S = some _ := hk' S _ (by simpa using hSI) hS
    show wpAny _ A.in1 (tryCatch (holding [v] (call (.ref q) [v])) _ >>= _) _ _ _
    refine wpAny_bind (wpAny_tryCatch (wpAny_holding (wpAny_mono (turn (j + 1) v hv _ J1) (fun x s2 he => ?_) fun _ _ hF => hF.elim)))
    obtain ⟨⟨t2, rfl⟩, J2, kI, kS⟩ := he
    have hI2 := kI _ hoI'
    have hS2 := kS _ hS1
    show wpAny _ A.in1 (tryCatch (holding [v, .int (kf (j + 1)) t2] (richCompare .Lt (.int (kf (j + 1)) t2) (.int (kf i) tb) >>= _)) _ >>= _) _ _ _
    refine wpAny_bind (wpAny_tryCatch (wpAny_holding (wpAny_bind (CmpOf.ints_lt (prog := prog) (w := w) (A := A.in1) (P := fun i v => ∃ t, v = .int (kf i) t) kf (fun i v h => h) (j + 1) i _ _ _ _ _ ⟨t2, rfl⟩ ⟨tb, rfl⟩ ?_))))
    refine wpAny_bind (wpAny_holding (wpAny_truthy_bool ?_))
    refine wpAny_bind (wpAny_letGo (wpAny_pure ?_))
    by_cases hb' : kf (j + 1) < kf i
    · have s1 := Heap.SameBut.update s2.heap S (Obj.mapSeq fun _ => #[v, .int (kf (j + 1)) t2])
      obtain ⟨c2, hc2⟩ : ∃ c2, (s2.heap.update S (Obj.mapSeq fun _ => #[v, .int (kf (j + 1)) t2])).get? S = some (seqObj "list" #[v, .int (kf (j + 1)) t2] c2) := ⟨_, get?_update_seq hS2 fun _ => #[v, .int (kf (j + 1)) t2]⟩
      simp only [hb', decide_true, if_true]
      refine wpAny_bind ?_
      refine wpAny_updateSeq hS2 rfl (wpAny_bind (wpAny_letGo ?_))
      rw [hname]
      refine wpAny_pure ⟨plainId_quiet PySem.F.plain_min_loop _, ih (j + 1) (j + 1) _ v t2 c2 (by first | lia | omega) hlt ?_ hc2 ⟨oI', (s1.2 I hSI.symm).trans hI2, hoc, hod⟩ hv (Nat.le_refl _) fun j' hj' => ?_⟩
      · have := hJ s2 (s2.heap.update S (Obj.mapSeq fun _ => #[v, .int (kf (j + 1)) t2])) s2.toks J2 fun b o h1 h2 e => (s1.2 b h2).trans e
        exact this
      · by_cases e : j' = j + 1
        · subst e
          exact ⟨by first | lia | omega, fun _ => by first | lia | omega⟩
        · have hb1 := hbest j' (by first | lia | omega)
          have hb2 := hb1.1
          exact ⟨by first | lia | omega, fun _ => by first | lia | omega⟩
    · simp only [hb', decide_false, Bool.false_eq_true, if_false]
      refine wpAny_bind (wpAny_letGo ?_)
      rw [hname]
      refine wpAny_pure ⟨plainId_quiet PySem.F.plain_min_loop _, ih (j + 1) i _ vb tb c (by first | lia | omega) hlt J2 hS2 ⟨oI', hI2, hoc, hod⟩ hvb (by first | lia | omega) fun j' hj' => ?_⟩
      by_cases e : j' = j + 1
      · subst e
        exact ⟨by first | lia | omega, fun _ => by first | lia | omega⟩
      · exact hbest j' (by first | lia | omega)
theorem mk_min {s : Shared} {Q : Value → Shared → Prop} {E : Value → Shared → Prop} (J : Shared → Prop) (kf : Nat → Int) (hh : A.handled = none) (Js : J s) (hne : 0 < vs.length) (hl : ∀ s, J s → s.heap.IsList l vs.toArray)
    (hJ : ∀ s1 h' tk', J s1 → (∀ b o, b ≠ s.heap.objs.size → b ≠ s.heap.objs.size + 1 → s1.heap.get? b = some o → h'.get? b = some o) → J { s1 with heap := h', toks := tk' })
    (turn : ∀ i v, vs[i]? = some v → ∀ s1, J s1 → wpAny (model prog w) A.in1 (call (.ref q) [v]) (fun x s' => (∃ t, x = .int (kf i) t) ∧ J s' ∧ (∀ o, s1.heap.get? s.heap.objs.size = some o → s'.heap.get? s.heap.objs.size = some o) ∧ ∀ o, s1.heap.get? (s.heap.objs.size + 1) = some o → s'.heap.get? (s.heap.objs.size + 1) = some o) (fun _ _ => False) s1)
    (hQ : ∀ i v s, vs[i]? = some v → (∀ j, j < vs.length → kf i ≤ kf j ∧ (j < i → kf i < kf j)) → J s → Q v s) :
    wpAny (model prog w) A (call (.builtin "min") [.ref l] [(Str.ofString "key", .ref q)]) Q E s := by
  have hname : (toString "min" ++ toString ".loop" : String) = "min.loop" := by decide
  have hls := hl _ Js
  obtain ⟨ol, hol, _⟩ := id hls
  have hll : l < s.heap.objs.size := Heap.lt_size hol
  refine kmk_tree PySem.F.kind_min PySem.F.plain_min PySem.F.entry_min (kmk_min_key _ _) ?_
  show wpAny _ A.in1 (Builtin.Builtins.bindParams "min" ["key", "default"] 0 ⟨[], [(Str.ofString "key", .ref q)]⟩ >>= _) _ _ s
  refine wpAny_bind (wpAny_of_eq (show Builtin.Builtins.bindParams "min" ["key", "default"] 0 ⟨[], [(Str.ofString "key", .ref q)]⟩ = pure [some (.ref q), none] from rfl) ?_)
  refine wpAny_bind (wpAny_pure ?_)
  refine wpAny_bind (wpAny_pyIter_list hls ?_)
  refine wpAny_bind (wpAny_newList ?_ (Nat.zero_le _))
  rw [hname]
  have hS : (s.heap.push { cls := .type "list_iterator", data := .fields #[.ref l, .int 0 0] }).objs.size = s.heap.objs.size + 1 := size_push' ..
  have hlI : l ≠ s.heap.objs.size := Nat.ne_of_lt hll
  have hSI : s.heap.objs.size + 1 ≠ s.heap.objs.size := by first | lia | omega
  refine wpAny_pure ⟨plainId_quiet PySem.F.plain_min_loop _, ?_⟩
  have gI : ((s.heap.push { cls := .type "list_iterator", data := .fields #[.ref l, .int 0 0] }).push (seqObj "list" #[] 0)).get? s.heap.objs.size = some { cls := .type "list_iterator", data := .fields #[.ref l, .int 0 0] } :=
    Heap.get?_push_of_some _ (Heap.get?_push_size _ rfl)
  have gS : ((s.heap.push { cls := .type "list_iterator", data := .fields #[.ref l, .int 0 0] }).push (seqObj "list" #[] 0)).get? (s.heap.objs.size + 1) = some (seqObj "list" #[] 0) := by
    rw [← hS]
    exact Heap.get?_push_size _ rfl
  rw [hS]
  have W := Walks.list (prog := prog) (w := w) (A := A.in1) hh s.heap.objs.size l hlI vs.toArray
  have hsz : vs.toArray.size = vs.length := List.size_toArray ..
  have J0 : J { s with heap := (s.heap.push { cls := .type "list_iterator", data := .fields #[.ref l, .int 0 0] }).push (seqObj "list" #[] 0) } := hJ s _ s.toks Js fun b o _ _ e => Heap.get?_push_of_some _ (Heap.get?_push_of_some _ e)
  refine codeAny_builtin PySem.F.entry_min_loop ?_
  rw [Around.under_plainId PySem.F.plain_min_loop _]
  show wpAny _ A.in1 (seqItems? (.ref _) >>= _) _ _ _
  refine wpAny_bind (wpAny_seqItems gS rfl ?_)
  show wpAny _ A.in1 (tryCatch (pyNext (.ref s.heap.objs.size)) _ >>= _) _ _ _
  refine wpAny_bind (wpAny_tryCatch (W.item 0 _ _ _ (by rw [hsz]; exact hne) ⟨⟨_, gI, rfl, rfl⟩, hl _ J0⟩ fun v h' tk' hP hst' hk' => ?_))
  have hv : vs[0]? = some v := by simpa using hP
  obtain ⟨oI', hoI', hoc, hod⟩ := id hst'.1
  have J1 := hJ _ h' tk' J0 fun b o h1 h2 e => hk' b o (by simpa using h1) e
  have hS1 : h'.get? (s.heap.objs.size + 1) = some _ := hk' _ _ (by simp) gS
  show wpAny _ A.in1 (tryCatch (holding [v] (call (.ref q) [v])) _ >>= _) _ _ _
  refine wpAny_bind (wpAny_tryCatch (wpAny_holding (wpAny_mono (turn 0 v hv _ J1) (fun x s2 he => ?_) fun _ _ hF => hF.elim)))
  obtain ⟨⟨t2, rfl⟩, J2, kI, kS⟩ := he
  have hI2 := kI _ hoI'
  have hS2 := kS _ hS1
  have s1 := Heap.SameBut.update s2.heap (s.heap.objs.size + 1) (Obj.mapSeq fun _ => #[v, .int (kf 0) t2])
  obtain ⟨c2, hc2⟩ : ∃ c2, (s2.heap.update (s.heap.objs.size + 1) (Obj.mapSeq fun _ => #[v, .int (kf 0) t2])).get? (s.heap.objs.size + 1) = some (seqObj "list" #[v, .int (kf 0) t2] c2) := ⟨_, get?_update_seq hS2 fun _ => #[v, .int (kf 0) t2]⟩
  show wpAny _ A.in1 (updateSeq (s.heap.objs.size + 1) (fun _ => #[v, .int (kf 0) t2]) >>= _) _ _ _
  refine wpAny_bind ?_
  refine wpAny_updateSeq hS2 rfl ?_
  rw [hname]
  refine wpAny_pure ⟨plainId_quiet PySem.F.plain_min_loop _, mk_loop J kf hh hl hlI hSI hJ turn hQ _ 0 0 _ v t2 c2 rfl hne ?_ hc2 ⟨oI', (s1.2 _ hSI.symm).trans hI2, hoc, hod⟩ hv (Nat.le_refl _) fun j' hj' => ?_⟩
  · have := hJ s2 (s2.heap.update (s.heap.objs.size + 1) (Obj.mapSeq fun _ => #[v, .int (kf 0) t2])) s2.toks J2 fun b o h1 h2 e => (s1.2 b h2).trans e
    exact this
  · have e : j' = 0 := by first | lia | omega
    subst e
    exact ⟨by first | lia | omega, fun h => absurd h (Nat.lt_irrefl _)⟩
end
end TB

set_option Elab.async false
set_option linter.all false
set_option maxRecDepth 100000
set_option maxHeartbeats 4000000
namespace TB
open PySem PySem.Spec PyProof.Rows L2
section
variable {X : Cx} {pins : List (Addr × Obj)} {σ : L2.St} {H : Hp} {s : Shared}
theorem Inv_turned2 {I S : Addr} {h' : Heap} {t' : Nat} (J : L2.Inv X pins σ H s) (k : ∀ b o, b ≠ I → b ≠ S → s.heap.get? b = some o → h'.get? b = some o)
    (hI : I ≠ X.env.locals ∧ (∀ x c, X.env.cells.lookup x = some c → c ≠ I) ∧ X.s_0.heap.objs.size ≤ I ∧ (∀ p ∈ X.pn ++ pins, p.1 ≠ I) ∧ H I = none)
    (hS : S ≠ X.env.locals ∧ (∀ x c, X.env.cells.lookup x = some c → c ≠ S) ∧ X.s_0.heap.objs.size ≤ S ∧ (∀ p ∈ X.pn ++ pins, p.1 ≠ S) ∧ H S = none) : L2.Inv X pins σ H { s with heap := h', toks := t' } := by
  have nit : ∀ b u, H b = some u → b ≠ I ∧ b ≠ S := fun b u e => ⟨fun z => (by rw [z, hI.2.2.2.2] at e; cases e), fun z => (by rw [z, hS.2.2.2.2] at e; cases e)⟩
  have nch : ∀ {b : Addr}, b ∉ [I, S] → b ≠ I ∧ b ≠ S := fun {b} z => by simpa using z
  refine J.step (g' := s.gens) (d' := s.drawn) (ch := [I, S]) (fun b hb => ?_) (fun b o _ _ hc e _ => k b o (nch hc).1 (nch hc).2 e) (fun b o _ _ hc e _ => ⟨o.slots, k b o (nch hc).1 (nch hc).2 e⟩) (fun _ _ _ _ n => n)
    (fun b o hc e => ⟨o, k b o (nch hc).1 (nch hc).2 e⟩) (fun _ _ e => e) (fun _ _ _ e => e) (fun b ps e => ⟨#[], by rw [e]; simp⟩) (fun m hm => ?_) (fun b u e => ?_) J.bare
  · have e : b = I ∨ b = S := by simpa using hb
    rcases e with rfl | rfl
    · exact ⟨.inr hI.2.2.1, hI.1, hI.2.1, hI.2.2.2.1⟩
    · exact ⟨.inr hS.2.2.1, hS.1, hS.2.1, hS.2.2.2.1⟩
  · obtain ⟨o, es, ep, ho, r⟩ := hm
    exact ⟨o, es, ep, k _ o (Ne.symm hI.1) (Ne.symm hS.1) ho, r⟩
  · refine (J.hok b u e).stay (fun c v hc q => k c v ?_ ?_ q) (fun _ q => q) fun _ _ q => q
    · rcases hc with z | z
      · rw [z]; exact (nit b u e).1
      · exact (nit c _ z).1
    · rcases hc with z | z
      · rw [z]; exact (nit b u e).2
      · exact (nit c _ z).2
theorem dget_same {H H' : Hp} (sm : Same H H') {d : Addr} {y : V} {r : Option V} (h : DGet H d y r) : DGet H' d y r := by
  have rd : ∀ {u : HO}, Rd H d u → Rd H' d u := fun {u} z => by
    rcases z with z | ⟨o, z⟩
    · exact .inl (sm _ _ z)
    · exact .inr ⟨o, sm _ _ z⟩
  rcases h with ⟨kvs, k, h1, h2, h3⟩ | ⟨kvs, k, b, h1, h2, h3, h4⟩
  · exact .inl ⟨kvs, k, rd h1, h2, h3⟩
  · exact .inr ⟨kvs, k, b, rd h1, h2, sm _ _ h3, h4⟩
noncomputable def tMinKey (P : Addr) (ps : Array Value) (iw il : Nat) : TE := fun σ H Q => ∃ (l d : Addr) (us : List Addr) (kf : Nat → Int), σ[iw]? = some (some (.ref l)) ∧ σ[il]? = some (some (.ref d)) ∧ H l = some (.lst (us.map V.ref)) ∧ 0 < us.length ∧ H P = some (.tbl ps) ∧
  (∀ i b, us[i]? = some b → DGet H d (.ref b) (some (.int (kf i)))) ∧ ∀ i b H', us[i]? = some b → (∀ j, j < us.length → kf i ≤ kf j ∧ (j < i → kf i < kf j)) → Same H H' → Q (.ref b) H'
theorem pe_minKey {c P : Addr} {ps : Array Value} {qual : Str} {params : Arguments} {scope : Scope} {xw : Str} {iw il : Nat} {p0 pw p1 p2 p3 lpos kp pos : Pos}
    (hr : Room 3 X.A) (hmin : X.mg "min" = none) (hgl : Gl X "min") (hNw : X.N[iw]? = some xw) (hvw : Vis X.env.scope xw) (hNl : X.N[il]? = some "limits") (hkl : X.env.kindOf "limits" = some .cell)
    (bm : BmAt X.mg X.base) (hcode : X.env.code = .ref c) (hC : PySem.W.codeHdIn X.K c P = true) (hps : ps = #[rawInt lpos.line, rawInt lpos.col, .str qual 0]) (hq : X.env.qual ++ "<lambda>" = qual)
    (hdef : defaultsOf params X.env = ([], []))
    (hbind : ∀ (cc c' : Addr) (pm ctv v : Value), bindArgs (PySem.W.kla_fn "<lambda>" qual params (.Subscript (.Name "limits" p1) (.Name "each" p2) p3) scope [(("limits" : Str), cc)] pm (.ref c') ctv) ⟨[v], []⟩ = pure [(("each" : Str), v)])
    (hnames : scope.names = [(("each" : Str), NameKind.local), (("limits" : Str), NameKind.free)]) (hkind : scope.kind = .function) (hco : scope.isCoroutine = false) (hgen : scope.isGenerator = false)
    (hxd : (xw == ("__debug__" : Str)) = false := by decide) (hxc : (xw == ("__classdict__" : Str)) = false := by decide) :
    PE X (.Call (.Name "min" p0) [.Name xw pw] [⟨some "key", .Lambda params (.Subscript (.Name "limits" p1) (.Name "each" p2) p3) scope lpos, kp⟩] pos) (tMinKey P ps iw il) := by
  intro pins s σ H Q I h
  obtain ⟨l, d, us, kf, hw, hd, hl, hne, hP, hk, q⟩ := h
  obtain ⟨cc, hcc⟩ := I.ok.has "limits" (.inl hkl)
  have hcl : closureFor scope X.env = pure [(("limits" : Str), cc)] := by
    rw [closure_ok (fun y hy e => ?_)]
    · rw [hnames]
      show pure [(("limits" : Str), (X.env.cells.lookup ("limits" : Str)).getD 0)] = _
      rw [hcc]
      rfl
    · rw [hnames] at hy
      rcases List.mem_cons.mp hy with z | hy
      · rw [z] at e
        cases e
      · rw [List.mem_singleton.mp hy]
        exact ⟨cc, hcc⟩
  refine wpAny_Call_Name_kw (ld_blt I hgl hmin boot_min ?_)
  refine callWith_kw (thn ((pa_cons (pe_var hNw hvw hxd hxc) pa_nil) pos pins s σ H (fun vs H1 => vs = [.ref l] ∧ H1 = H) I ⟨_, hw, rfl, rfl⟩) fun us' s1 hpt48 => ?_)
  obtain ⟨vs, H1, I1, r1, e1, e2⟩ := hpt48
  subst e1 e2
  obtain ⟨u, rfl, ru⟩ := r1.one
  cases ru
  refine kws_cons (lam_make I1 bm hcode (PySem.W.codeHd_of_K I1.mod.kin hC) hP hps hq hdef hcl fun f c' oc cvs t ctv pm H' s2 I2 sm hP2 hc1 hc2 hoc hcv hf hfn hfs => kws_nil ?_)
  show wpAny _ _ (call (.builtin "min") [.ref l] [(Str.ofString "key", .ref f)]) _ _ _
  have hl2 := sm _ _ hl
  have fI := Inv_new I2 (Nat.le_refl s2.heap.objs.size)
  have fS := Inv_new I2 (Nat.le_succ s2.heap.objs.size)
  have hfl : f < s2.heap.objs.size := Heap.lt_size hf
  have hcl2 : c' < s2.heap.objs.size := Heap.lt_size hc2
  refine mk_min (vs := us.map Value.ref) (fun s3 => L2.Inv X pins σ H' s3 ∧ s3.heap.get? c' = some oc ∧ s3.heap.get? f = some (PySem.W.kla_obj "<lambda>" qual params (.Subscript (.Name "limits" p1) (.Name "each" p2) p3) scope [(("limits" : Str), cc)] pm c' ctv)) kf hr.hd ⟨I2, hc2, hf⟩
    (by rw [List.length_map]; exact hne) (fun s3 ⟨J, _⟩ => ?_) (fun s3 h' tk' ⟨J, j1, j2⟩ kp => ?_) (fun i v hv s3 ⟨J, j1, j2⟩ => ?_) (fun i v s3 hv hb ⟨J, _⟩ => ?_)
  · obtain ⟨z, its, n, r, _, e⟩ := J.lstM hl2
    rw [refs_of r] at e
    exact PySem.IsL.isList (n := n) e
  · refine ⟨Inv_turned2 J kp ⟨fI.2.1, fI.2.2⟩ ⟨fS.2.1, fS.2.2⟩, kp _ _ (Nat.ne_of_lt hcl2) (Nat.ne_of_lt (Nat.lt_succ_of_lt hcl2)) j1, kp _ _ (Nat.ne_of_lt hfl) (Nat.ne_of_lt (Nat.lt_succ_of_lt hfl)) j2⟩
  · rw [List.getElem?_map] at hv
    cases hu : us[i]? with
    | none =>
      rw [hu] at hv
      cases hv
    | some b =>
      rw [hu] at hv
      cases hv
      have hcell : s3.heap.IsCell cc (some (.ref d)) := by
        obtain ⟨m, _, hlo⟩ := J.loc
        obtain ⟨u, ru, lo⟩ := hlo il "limits" _ hNl hd (.inr (.inl hkl))
        cases ru
        rcases lo with ⟨k1, _⟩ | ⟨_, c2, e2, z⟩
        · rw [hkl] at k1
          cases k1
        · rw [hcc] at e2
          cases e2
          exact z
      refine wpAny_mono (lam_call J hr j2 hP2 hc1 j1 hoc hcv (hbind cc c' pm ctv) hnames hkind hco hgen hcell (J.freeC _ _ hcc) (dget_same sm (hk i b hu))) (fun u s4 ⟨z1, z2, z3⟩ => ⟨z1, ⟨z2, z3 _ _ (.inr (.inr hc1)) j1, z3 _ _ (.inl ⟨hfn, hfs⟩) j2⟩, fun o e => z3 _ _ (.inl ⟨fI.2.2.2.2.2, fI.1⟩) e, fun o e => z3 _ _ (.inl ⟨fS.2.2.2.2.2, fS.1⟩) e⟩) fun _ _ z => z
  · rw [List.getElem?_map] at hv
    cases hu : us[i]? with
    | none =>
      rw [hu] at hv
      cases hv
    | some b =>
      rw [hu] at hv
      cases hv
      exact ⟨.ref b, H', J, rfl, q i b H' hu (by rw [List.length_map] at hb; exact hb) sm⟩
end
end TB

set_option Elab.async false
set_option linter.all false
set_option maxRecDepth 100000
set_option maxHeartbeats 4000000
namespace TB
open PySem PySem.Spec PyProof.Rows L2
section
variable {prog : Program} {w : World} {κ : Type} [DecidableEq κ] {knd : HeapKind prog w κ} {A : Around} {E : Value → Shared → Prop} {s : Shared}
theorem lenT_meets (d : Addr) (hd : (d == sysModules) = false) :
    MeetsIn prog w (Builtin.«dict.__len__» ⟨[.ref d], []⟩) (fun _ R s => ∃ xs, s.heap.DictOfH knd d xs ∧ R (.ok (.ret (.int xs.length s.toks))) { s with toks := s.toks + 1 }) :=
  .of_wp fun A R s ⟨xs, hm, h⟩ => by
    obtain ⟨o, es, ep, ho, hc, hdat, he, hk, hn⟩ := hm
    show wpAny _ _ (dictSize d >>= _) _ _ s
    unfold dictSize
    refine wpAny_bind (wpAny_bind (wpAny_dictEntries ho hdat (wpAny_pure ?_)))
    show wpAny _ _ (Builtin.Dict.pendingCount d >>= _) _ _ s
    refine wpAny_bind (wpAny_pendingCount_other hd ?_)
    refine wpAny_ret_mkInt ?_
    rw [Nat.add_zero, size_of_entries he]
    exact h
theorem lenT_call {d : Addr} {xs : List (κ × Addr × Value)} {Q : Value → Shared → Prop} (hd : (d == sysModules) = false) (hm : s.heap.DictOfH knd d xs) (hfit : (xs.length : Int) < 2 ^ 63)
    (h : Q (.int xs.length (s.toks + 1)) { s with toks := s.toks + 1 + 1 }) : wpAny (model prog w) A (call (.builtin "len") [.ref d]) Q E s := by
  refine Calls.call_function_entry kind_len plain_len entry_len (args_len1 _) ?_
  unfold Builtin.«len»
  refine wpAny_bind (m := oneArg "len" _) (wpAny_pure ?_)
  refine wpAny_bind (m := callSpecial? (.ref d) (Str.ofString "__len__")) (wpAny_callSpecial?_slot (name := Str.ofString "__len__") hm.typeIs F.slot_dict_len
    (call_meetsIn F.slot_dict_len hm.typeIs F.entry_dict_len (F.args_dict_len_1 _) (lenT_meets (knd := knd) d hd) ⟨xs, hm, ?_⟩))
  show wpAny _ _ _ _ _ { s with toks := s.toks + 1 }
  refine wpAny_bind (wpAny_holding (wpAny_pure ?_))
  refine wpAny_bind (wpAny_letGo ?_)
  show wpAny _ _ (if ((xs.length : Nat) : Int) < 0 then _ else _) _ _ _
  rw [if_neg (by first | lia | omega)]
  show wpAny _ _ (if ((xs.length : Nat) : Int) ≥ 2 ^ 63 then _ else _) _ _ _
  rw [if_neg (by first | lia | omega)]
  exact wpAny_bind (wpAny_mkInt (wpAny_pure ⟨_, rfl, h⟩))
end
section
variable {X : Cx}
theorem cr_lenT : CallR X (.builtin "len") (fun xs H Q => ∃ (a : Addr) (kvs : List (List Key × V)), xs = [.ref a] ∧ H a = some (.dT kvs) ∧ Q (.int kvs.length) H) := by
  intro pins s σ H xs us Q I r h
  obtain ⟨a, kvs, rfl, ha, q⟩ := h
  obtain ⟨u, rfl, ru⟩ := vals1 r
  cases ru
  obtain ⟨z, hd, ys, rel, dd⟩ := dt_of I.hok ha
  have hl : kvs.length = ys.length := Paired.length rel
  refine lenT_call hd dd (by rw [← hl]; rw [sizeLine_eq] at z; first | lia | omega) ⟨.int kvs.length, H, I.tok _, ⟨_, by rw [hl]⟩, q⟩
end
section
variable {d : Addr} {o : Obj} {kvs : List (List Key × V)} {g : TG} {tt : TT} {te : TE} {vs : List Nat} {σ : L2.St} {H1 : Hp} {D : Addr} {Qd : Hp → Prop}
theorem lc_keys (f : List Key × V → Option V) (hl : H1 d = some (.frz o (.dT kvs))) (hD : H1 D = none) (hz : kvs.length < sizeLine)
    (hs : ∀ (i : Nat) (k : List Key) (v : V) (b : Addr), kvs[i]? = some (k, v) → ∀ (H : Hp) (acc : List V) (Y : V → Hp → Prop) (N : Hp → Prop), Same H1 H → H D = some (.lst acc) → H b = some (.tup (k.map kV)) →
      (∀ y H4, f (k, v) = some y → Same H1 H4 → H4 D = some (.lst acc) → Y y H4) → (∀ H3, f (k, v) = none → Same H1 H3 → H3 D = some (.lst acc) → N H3) →
      g (.ref b) (wipe σ vs) H fun σ2 H2 => wipe σ2 vs = wipe σ vs ∧ tt σ2 H2 fun b H3 => if b = true then te σ2 H3 Y else N H3)
    (hd : ∀ H, Same H1 H → H D = some (.lst (kvs.filterMap f)) → Qd H) :
    ∃ W : Nat → Nat → Hp → Prop, (∃ m, W 0 m (upd H1 D (.lst []))) ∧ ∀ i m H, W i m H → ((Itkt d o kvs).stop i H ∧ Qd H) ∨ ((Itkt d o kvs).go i H ∧ ∃ Nx : Hp → Prop, (∀ H', Nx H' → ∃ m', m' < m ∧ W (i + 1) m' H') ∧ ∀ x H', (Itkt d o kvs).yld i H x H' → g x (wipe σ vs) H' fun σ2 H2 => wipe σ2 vs = wipe σ vs ∧ tt σ2 H2 fun b H3 =>
      if b = true then te σ2 H3 fun y H4 => ∃ acc, H4 D = some (.lst acc) ∧ acc.length < sizeLine ∧ Nx (upd H4 D (.lst (acc ++ [y]))) else Nx H3) := by
  refine ⟨fun i m H => i + m = kvs.length ∧ Same H1 H ∧ H D = some (.lst ((kvs.take i).filterMap f)), ⟨kvs.length, by first | lia | omega, Same.new' hD, upd_same⟩, ?_⟩
  rintro i m H ⟨e, sm, hp⟩
  have hf := sm _ _ hl
  by_cases hi : i < kvs.length
  · refine .inr ⟨⟨hf, hi⟩, fun H' => Same H1 H' ∧ H' D = some (.lst ((kvs.take (i + 1)).filterMap f)), fun H' z => ⟨m - 1, by first | lia | omega, by first | lia | omega, z⟩, ?_⟩
    rintro x H' ⟨rfl, k, v, q, hk, rfl, hq⟩
    refine hs i k v q hk H' _ _ _ sm hp hq (fun y H4 e s4 d4 => ⟨_, d4, ?_, s4.put hD, ?_⟩) (fun H3 e s3 d3 => ⟨s3, ?_⟩)
    · refine Nat.lt_of_le_of_lt (List.length_filterMap_le _ _) (Nat.lt_of_le_of_lt ?_ hz)
      rw [List.length_take]
      exact Nat.min_le_right _ _
    · rw [upd_same, take_snoc hk, List.filterMap_append]
      simp [e]
    · rw [d3, take_snoc hk, List.filterMap_append]
      simp [e]
  · have e2 : i = kvs.length := by first | lia | omega
    subst e2
    rw [List.take_length] at hp
    exact .inl ⟨⟨hf, Nat.le_refl _⟩, hd H sm hp⟩
end
end TB

set_option Elab.async false
set_option linter.all false
set_option maxRecDepth 100000
set_option maxHeartbeats 4000000
namespace TB
open PySem PySem.Spec PyProof.Rows L2
noncomputable def top (i : Nat) : Stmt := PySem.Challenge.pw_twobaskets_s01_answers.main.body.getD i (.Pass ⟨0, 0, 0, 0⟩)
noncomputable abbrev sWeightOf : Stmt := top 28
structure Cal (P : Program) (w : World) (K : PySem.W.Frag) (mg : Str → Option Value) (base : Heap) (x : Str) (k : Nat) (ps : List Str) (sp : Sp) : Prop where
  ex : ∃ f fd, mg x = some (.ref f) ∧ PySem.W.keepIn K (.ref f) = true ∧ Binds K fd ps [] ∧ FnOk P w K mg base CX0 k f fd ps sp
theorem pe_cal {X : Cx} {x : Str} {k : Nat} {ps : List Str} {sp : Sp} {e : Expr} {es : List Expr} {t : TA} {p pos : Pos} (C : Cal X.prog X.w X.K X.mg X.base x k ps sp) (hr : Room k X.A) (hg : Gl X x) (ha : PA X (e :: es) t) (hdb : (x == ("__debug__" : Str)) = false := by decide)
    (he : starEach (e :: es) X.env = (false, eval e X.env) :: starEach es X.env := by rfl) (hpl : (backTo pos (starEach es X.env)).any (·.1) = false := by rfl) :
    PE X (.Call (.Name x p) (e :: es) [] pos) (tCall sp [] E0 t) := by
  obtain ⟨f, fd, h1, h2, h3, h4⟩ := C.ex
  exact pe_call h4 hr hg h1 h2 h3 .nil pass0 ha hdb he hpl
theorem pe_num {X : Cx} {x : Str} {n : Int} {pos : Pos} (hm : ∃ k, X.mg x = some (.int n k)) (hg : Gl X x := by rfl) (hd : (x == ("__debug__" : Str)) = false := by decide) : PE X (.Name x pos) (tC (.int n)) := by
  obtain ⟨k, e⟩ := hm
  exact pe_glob hg e ⟨k, rfl⟩ hd
noncomputable def zv (l : List Nat) : List V := l.map fun (i : Nat) => V.int (i : Int)
theorem zv_length (l : List Nat) : (zv l).length = l.length := List.length_map ..
theorem zv_mem {l : List Nat} {x : V} (h : x ∈ zv l) : ∃ i, i ∈ l ∧ x = V.int ((i : Nat) : Int) := by
  obtain ⟨i, h1, h2⟩ := List.mem_map.mp h
  exact ⟨i, h1, h2.symm⟩
theorem zv_fm_int {f : V → Option V} {g : Nat → V} (h : ∀ i : Nat, f (V.int (i : Int)) = some (g i)) : ∀ l : List Nat, (zv l).filterMap f = l.map g
  | [] => rfl
  | x :: l => by
    show (V.int (x : Int) :: zv l).filterMap f = _
    rw [List.filterMap_cons, h, zv_fm_int h l]
    rfl
theorem zv_fm_filter {f : V → Option V} {p : Nat → Bool} (h : ∀ i : Nat, f (V.int (i : Int)) = if p i = true then some (V.int (i : Int)) else none) : ∀ l : List Nat, (zv l).filterMap f = zv (l.filter p)
  | [] => rfl
  | x :: l => by
    show (V.int (x : Int) :: zv l).filterMap f = _
    rw [List.filterMap_cons, h, List.filter_cons]
    cases p x
    · simp only [Bool.false_eq_true, if_false]
      exact zv_fm_filter h l
    · simp only [if_true]
      rw [zv_fm_filter h l]
      rfl
theorem wAt_at {t : Mu45.Tower} {i : Nat} (h : i < t.things.length) : (t.things.map fun x => V.int (x.heavy : Int))[i]? = some (V.int (wAt t i : Int)) := by
  rw [List.getElem?_map, List.getElem?_eq_getElem h]
  unfold wAt
  rw [List.getElem?_eq_getElem h]
  rfl
structure TwAt (cT : Addr) (H : Hp) (a dx w p r u : Addr) (fs : List (Str × V)) (rs : List Addr) (t : Mu45.Tower) (up : List Nat) : Prop where
  obj : H a = some (.ins cT dx fs)
  few : fs.length < 100
  fLimit : fs.lookup ("limit" : Str) = some (.int (t.unlike : Int))
  fHolds : fs.lookup ("holds" : Str) = some (.int (t.holds : Int))
  fWeights : fs.lookup ("weights" : Str) = some (.ref w)
  fPeople : fs.lookup ("people" : Str) = some (.ref p)
  fRows : fs.lookup ("rows" : Str) = some (.ref r)
  fAbove : fs.lookup ("above" : Str) = some (.ref u)
  ws : H w = some (.lst (t.things.map fun x => V.int (x.heavy : Int)))
  ps : H p = some (.lst (zv (pplOf t)))
  rows : H r = some (.lst (rs.map V.ref))
  each : Paired (fun b row => H b = some (.tup (zv row))) rs (rowsOf t.things.length)
  above : H u = some (.tup (zv up))
  five : t.things.length ≤ 5
  sub : up.Sublist (List.range t.things.length)
noncomputable def Tw (cT : Addr) (H : Hp) (a : Addr) (t : Mu45.Tower) (up : List Nat) : Prop := ∃ dx w p r u fs rs, TwAt cT H a dx w p r u fs rs t up
theorem TwAt.same {cT : Addr} {H H' : Hp} {a dx w p r u : Addr} {fs : List (Str × V)} {rs : List Addr} {t : Mu45.Tower} {up : List Nat} (T : TwAt cT H a dx w p r u fs rs t up) (s : Same H H') : TwAt cT H' a dx w p r u fs rs t up :=
  { T with obj := s _ _ T.obj, ws := s _ _ T.ws, ps := s _ _ T.ps, rows := s _ _ T.rows, each := Paired.mapP T.each (fun b row h => s _ _ h), above := s _ _ T.above }
theorem Tw.same {cT : Addr} {H H' : Hp} {a : Addr} {t : Mu45.Tower} {up : List Nat} (T : Tw cT H a t up) (s : Same H H') : Tw cT H' a t up := by
  obtain ⟨dx, w, p, r, u, fs, rs, T⟩ := T
  exact ⟨dx, w, p, r, u, fs, rs, T.same s⟩
structure Txt (K : PySem.W.Frag) (mg : Str → Option Value) (cT : Addr) : Prop where
  clT : Cls K cT
  nLimit : NoAttr K cT "limit"
  nHolds : NoAttr K cT "holds"
  nWeights : NoAttr K cT "weights"
  nPeople : NoAttr K cT "people"
  nRows : NoAttr K cT "rows"
  nAbove : NoAttr K cT "above"
  nMade : NoAttr K cT "made"
  len : mg "len" = none
  sum : mg "sum" = none
  range : mg "range" = none
  tuple : mg "tuple" = none
  list : mg "list" = none
  set : mg "set" = none
  sorted : mg "sorted" = none
  all : mg "all" = none
  min : mg "min" = none
  max : mg "max" = none
  gBEGIN : ∃ k, mg "BEGIN" = some (.int 0 k)
  gTURN : ∃ k, mg "TURN" = some (.int 1 k)
  gWHY : ∃ k, mg "WHY" = some (.int 2 k)
  gTURNS : ∃ k, mg "TURNS" = some (.int 3 k)
  gFEWEST : ∃ k, mg "FEWEST" = some (.int 4 k)
  gTO : ∃ k, mg "TO" = some (.int 5 k)
  gCOMES : ∃ k, mg "COMES" = some (.int 6 k)
  gLEAST : ∃ k, mg "LEAST" = some (.int 7 k)
  gLIMIT : ∃ k, mg "LIMIT" = some (.int 8 k)
  gFOLLOW : ∃ k, mg "FOLLOW" = some (.int 9 k)
  gDONE : ∃ k, mg "DONE" = some (.int 0 k)
  gWRONG : ∃ k, mg "WRONG" = some (.int (-1) k)
  gTOO_MANY : ∃ k, mg "TOO_MANY" = some (.int (-4) k)
  gNOT_HEAVIER : ∃ k, mg "NOT_HEAVIER" = some (.int (-6) k)
  gNO_WAY : ∃ k, mg "NO_WAY" = some (.int (-6) k)
  gTOO_UNLIKE : ∃ k, mg "TOO_UNLIKE" = some (.int (-7) k)
  gNO_TOWER : ∃ k, mg "NO_TOWER" = some (.int (-9) k)
  gMOST_LIMIT : ∃ k, mg "MOST_LIMIT" = some (.int 300 k)
  gMOST_HOLDS : ∃ k, mg "MOST_HOLDS" = some (.int 5 k)
  gMOST_THINGS : ∃ k, mg "MOST_THINGS" = some (.int 5 k)
  gMOST_WEIGHT : ∃ k, mg "MOST_WEIGHT" = some (.int 300 k)
  gSTONE : ∃ k, mg "STONE" = some (.int 0 k)
  gPERSON : ∃ k, mg "PERSON" = some (.int 1 k)
section
variable {P : Program} {w : World} {K : PySem.W.Frag} {mg : Str → Option Value} {base : Heap} {cT : Addr}
noncomputable def spWeightOf (K : PySem.W.Frag) (cT : Addr) : Sp := fun vs H Q _ => ∃ (a b : Addr) (t : Mu45.Tower) (up l : List Nat), vs = [.ref a, .ref b] ∧ Tw cT H a t up ∧ Sq K H b (zv l) ∧ (∀ i ∈ l, i < t.things.length) ∧ l.length ≤ 100 ∧ ∀ H', Same H H' → Q (.int (sumW t l)) H'
theorem scWeightOf : FnScope ["tower", "numbers", "number"] ["tower", "numbers"] (defScope sWeightOf) := ⟨rfl, rfl, rfl, by decide +kernel, rfl, by decide +kernel, by decide +kernel⟩
theorem ok_weight_of {f : Addr} {fd : FuncData} (F : Fun K "weight_of" "weight_of" sWeightOf f fd) (T : Txt K mg cT) : FnOk P w K mg base CX0 1 f fd ["tower", "numbers"] (spWeightOf K cT) := by
  refine F.ok scWeightOf (fun vs H Q E h => ?_) (fun cdv A outer s H vs Q E hr h => ?_)
  · obtain ⟨a, b, t, up, l, rfl, _⟩ := h
    rfl
  · obtain ⟨a, b, t, up, l, rfl, ⟨dx, w', p, r, u, fs, rs, tw⟩, hl, hi, hn, k⟩ := h
    refine ⟨_, pss_one (ps_ret (pe_callB (cr_sum rfl) (by rfl) T.sum boot_sum (pa_cons (pe_lc (own := [("number", 2)]) (te := tOp (rIxL K) (tFld K (tVar 0) "weights") (tVar 2)) rfl scWeightOf.nd (pi_seq (pv 1)) (blkOk_by (by kernel_rfl))
      (by exact fun _ _ _ _ _ => pg_name (i := 2) scWeightOf.nd rfl (Or.inl rfl)) (by exact fun _ _ _ _ _ => pts_nil) (by exact fun _ _ _ _ _ => pe_ix ix_list (pe_fld (pv 0) rfl) (pv 2) (fun _ _ => rfl))) pa_nil))), ?_⟩
    refine ⟨_, rfl, lc_fmS (fun x => match x with | .int i => some (.int (wAt t i.toNat : Int)) | _ => none) hl ?_ ?_ ?_⟩
    · rw [zv_length]
      exact small1000 (by first | lia | omega)
    · intro D hD x hx H' acc Y N sm hd hY hN
      obtain ⟨i, hm, rfl⟩ := zv_mem hx
      refine ⟨rfl, _, rfl, a, cT, dx, fs, .ref w', rfl, sm _ _ tw.obj, T.clT, T.nWeights, tw.fWeights, _, rfl, w', _, (i : Int), _, rfl, rfl, SqL.of (sm _ _ tw.ws), atI_nat (wAt_at (hi i hm)), hY _ _ ?_ sm hd⟩
      show some (V.int (wAt t ((i : Int).toNat) : Int)) = _
      rw [Int.toNat_natCast]
    · intro D H' hD sm hd
      refine ⟨D, l.map fun (i : Nat) => (wAt t i : Int), rfl, SqL.of ?_, k H' sm⟩
      rw [hd, zv_fm_int (g := fun i => V.int (wAt t i : Int)) (fun i => by show some (V.int (wAt t ((i : Int).toNat) : Int)) = _; rw [Int.toNat_natCast]), List.map_map]
      rfl
end
end TB

set_option Elab.async false
set_option linter.all false
set_option maxRecDepth 100000
set_option maxHeartbeats 4000000
namespace TB
open PySem PySem.Spec PyProof.Rows L2
theorem zv_flat (l : List Nat) : (zv l).all flatV = true := by
  rw [List.all_eq_true]
  intro x hx
  obtain ⟨i, _, rfl⟩ := zv_mem hx
  rfl
theorem zv_in (i : Nat) : ∀ l : List Nat, inV (.int (i : Int)) (zv l) = l.contains i
  | [] => rfl
  | x :: l => by
    have ih := zv_in i l
    unfold inV at ih ⊢
    show ((V.int (x : Int) :: zv l).any fun y => eqV y (.int (i : Int))) = _
    rw [List.any_cons, ih, List.contains_cons]
    congr 1
    show ((x : Int) == (i : Int)) = (i == x)
    rw [Bool.eq_iff_iff, beq_iff_eq, beq_iff_eq]
    first | lia | omega
noncomputable abbrev sOverfull : Stmt := top 29
noncomputable abbrev sUnlike : Stmt := top 30
noncomputable abbrev sPersonAmong : Stmt := top 31
noncomputable abbrev sNeededLimit : Stmt := top 32
noncomputable abbrev sVerdict : Stmt := top 33
section
variable {P : Program} {w : World} {K : PySem.W.Frag} {mg : Str → Option Value} {base : Heap} {cT : Addr}
noncomputable def keepIn (p : Nat → Bool) (x : V) : Option V := match x with
  | .int i => if p i.toNat = true then some (.int i) else none
  | _ => none
theorem keepIn_int (p : Nat → Bool) (i : Nat) : keepIn p (V.int (i : Int)) = if p i = true then some (V.int (i : Int)) else none := by
  show (if p ((i : Int).toNat) = true then some (V.int (i : Int)) else none) = _
  rw [Int.toNat_natCast]
noncomputable def spOverfull (K : PySem.W.Frag) (cT : Addr) : Sp := fun vs H Q _ => ∃ (a u b : Addr) (t : Mu45.Tower) (up0 up go : List Nat), vs = [.ref a, .ref u, .ref b] ∧ Tw cT H a t up0 ∧ Sq K H u (zv up) ∧ Sq K H b (zv go) ∧ go.length ≤ 100 ∧ ∀ H', Same H H' → Q (.bl (over t up go)) H'
theorem scOverfull : FnScope ["tower", "above", "things", "upper", "lower", "number"] ["tower", "above", "things"] (defScope sOverfull) := ⟨rfl, rfl, rfl, by decide +kernel, rfl, by decide +kernel, by decide +kernel⟩
theorem ok_overfull {f : Addr} {fd : FuncData} (F : Fun K "overfull" "overfull" sOverfull f fd) (T : Txt K mg cT) : FnOk P w K mg base CX0 1 f fd ["tower", "above", "things"] (spOverfull K cT) := by
  refine F.ok scOverfull (fun vs H Q E h => ?_) (fun cdv A outer s H vs Q E hr h => ?_)
  · obtain ⟨a, u, b, t, up0, up, go, rfl, _⟩ := h
    rfl
  · obtain ⟨a, u, b, t, up0, up, go, rfl, ⟨dx, w', p, r, u0, fs, rs, tw⟩, hu, hl, hn, k⟩ := h
    refine ⟨_, pss_cons (ps_set (i := 3) scOverfull.nd rfl (Or.inl rfl) (pe_callB call_len_seq (by rfl) T.len PySem.boot_len (pa_cons (pe_lc (own := [("number", 5)]) (tt := tTest (tOp (rIn K false) (tVar 5) (tVar 1))) rfl scOverfull.nd (pi_seq (pv 2)) (blkOk_by (by kernel_rfl))
        (by exact fun _ _ _ _ _ => pg_name (i := 5) scOverfull.nd rfl (Or.inl rfl)) (by exact fun _ _ _ _ _ => pts_one (pt_cmpR op_in_seq (pv 5) (pv 1) (by with_unfolding_all rfl))) (by exact fun _ _ _ _ _ => pv 5)) pa_nil)))
      (pss_cons (ps_set (i := 4) scOverfull.nd rfl (Or.inl rfl) (pe_op op_sub (pe_callB call_len_seq (by rfl) T.len PySem.boot_len (pa_cons (pv 2) pa_nil)) (pv 3)))
      (pss_one (ps_ret (pe_or (pe_cmpR op_gt (pv 3) (pe_fld (pv 0) rfl) (nomark _)) (pe_one (pe_cmpR op_gt (pv 4) (pe_fld (pv 0) rfl) (nomark _))))))), ?_⟩
    refine ⟨_, rfl, lc_fmS (keepIn fun i => up.contains i) hl ?_ ?_ ?_⟩
    · rw [zv_length]
      exact small1000 (by first | lia | omega)
    · intro D hD x hx H' acc Y N sm hd hY hN
      obtain ⟨i, hm, rfl⟩ := zv_mem hx
      refine ⟨rfl, _, rfl, _, rfl, u, _, rfl, sm.sq hu, rfl, zv_flat _, _, rfl, ?_⟩
      show if inV (.int (i : Int)) (zv up) = true then _ else _
      rw [zv_in]
      refine ite2 (fun hc => ⟨_, rfl, hY _ _ ?_ sm hd⟩) (fun hc => hN _ ?_ sm hd)
      · rw [keepIn_int, if_pos hc]
      · rw [keepIn_int, if_neg hc]
    · intro D H' hD sm hd
      rw [zv_fm_filter (keepIn_int _)] at hd
      refine ⟨D, _, rfl, .inl (SqL.of hd), ?_⟩
      refine ⟨_, rfl, b, _, rfl, sm.sq hl, _, rfl, _, _, rfl, rfl, ?_⟩
      refine ⟨_, rfl, _, rfl, a, cT, dx, fs, _, rfl, sm _ _ tw.obj, T.clT, T.nHolds, tw.fHolds, _, _, rfl, rfl, _, rfl, ?_⟩
      have fin := k H' sm
      unfold over at fin
      rw [zv_length, zv_length]
      refine ite2 (fun hc => ?_) (fun hc => ⟨_, rfl, _, rfl, a, cT, dx, fs, _, rfl, sm _ _ tw.obj, T.clT, T.nHolds, tw.fHolds, _, _, rfl, rfl, ?_⟩)
      · rw [show decide ((t.holds : Int) < (Mu45.down up go).length) = true from hc, Bool.true_or] at fin
        exact fin
      · rw [show decide ((t.holds : Int) < (Mu45.down up go).length) = false from Bool.eq_false_iff.mpr hc, Bool.false_or] at fin
        exact fin
end
end TB

set_option Elab.async false
set_option linter.all false
set_option maxRecDepth 100000
set_option maxHeartbeats 4000000
namespace TB
open PySem PySem.Spec PyProof.Rows L2
section
variable {P : Program} {w : World} {K : PySem.W.Frag} {mg : Str → Option Value} {base : Heap} {cT : Addr}
noncomputable def spUnlike (K : PySem.W.Frag) (cT : Addr) : Sp := fun vs H Q _ => ∃ (a u b : Addr) (t : Mu45.Tower) (up0 up go : List Nat), vs = [.ref a, .ref u, .ref b] ∧ Tw cT H a t up0 ∧ Sq K H u (zv up) ∧ Sq K H b (zv go) ∧ go.length ≤ 100 ∧ (∀ i ∈ go, i < t.things.length) ∧ ∀ H', Same H H' → Q (.int (dif t up go)) H'
theorem scUnlike : FnScope ["tower", "above", "things", "upper", "lower", "number"] ["tower", "above", "things"] (defScope sUnlike) := ⟨rfl, rfl, rfl, by decide +kernel, rfl, by decide +kernel, by decide +kernel⟩
theorem ok_unlike {f : Addr} {fd : FuncData} (F : Fun K "unlike" "unlike" sUnlike f fd) (T : Txt K mg cT) (cW : Cal P w K mg base "weight_of" 1 ["tower", "numbers"] (spWeightOf K cT)) : FnOk P w K mg base CX0 2 f fd ["tower", "above", "things"] (spUnlike K cT) := by
  refine F.ok scUnlike (fun vs H Q E h => ?_) (fun cdv A outer s H vs Q E hr h => ?_)
  · obtain ⟨a, u, b, t, up0, up, go, rfl, _⟩ := h
    rfl
  · obtain ⟨a, u, b, t, up0, up, go, rfl, tw, hu, hl, hn, hi, k⟩ := h
    refine ⟨_, pss_cons (ps_setLc (i := 3) (own := [("number", 5)]) (tt := tTest (tOp (rIn K false) (tVar 5) (tVar 1))) rfl scUnlike.nd rfl rfl (sw_true rfl rfl rfl rfl) (pi_seq (pv 2)) (blkOk_by (by kernel_rfl))
        (by exact fun _ _ _ _ _ => pg_name (i := 5) scUnlike.nd rfl (Or.inl rfl)) (by exact fun _ _ _ _ _ => pts_one (pt_cmpR op_in_seq (pv 5) (pv 1) (by with_unfolding_all rfl))) (by exact fun _ _ _ _ _ => pv 5))
      (pss_cons (ps_setLc (i := 4) (own := [("number", 5)]) (tt := tTest (tOp (rIn K true) (tVar 5) (tVar 1))) rfl scUnlike.nd rfl rfl (sw_true rfl rfl rfl rfl) (pi_seq (pv 2)) (blkOk_by (by kernel_rfl))
        (by exact fun _ _ _ _ _ => pg_name (i := 5) scUnlike.nd rfl (Or.inl rfl)) (by exact fun _ _ _ _ _ => pts_one (pt_cmpR op_notIn_seq (pv 5) (pv 1) (by with_unfolding_all rfl))) (by exact fun _ _ _ _ _ => pv 5))
      (pss_one (ps_ret (pe_op op_sub (pe_cal cW hr (by rfl) (pa_cons (pv 0) (pa_cons (pv 3) pa_nil))) (pe_cal cW hr (by rfl) (pa_cons (pv 0) (pa_cons (pv 4) pa_nil))))))), ?_⟩
    refine ⟨_, rfl, lc_fmS (keepIn fun i => up.contains i) hl ?_ ?_ ?_⟩
    · rw [zv_length]
      exact small1000 (by first | lia | omega)
    · intro D hD x hx H' acc Y N sm hd hY hN
      obtain ⟨i, hm, rfl⟩ := zv_mem hx
      refine ⟨rfl, _, rfl, _, rfl, u, _, rfl, sm.sq hu, rfl, zv_flat _, _, rfl, ?_⟩
      show if inV (.int (i : Int)) (zv up) = true then _ else _
      rw [zv_in]
      refine ite2 (fun hc => ⟨_, rfl, hY _ _ ?_ sm hd⟩) (fun hc => hN _ ?_ sm hd)
      · rw [keepIn_int, if_pos hc]
      · rw [keepIn_int, if_neg hc]
    · intro D H' hD sm hd
      rw [zv_fm_filter (keepIn_int _)] at hd
      refine ⟨_, rfl, lc_fmS (keepIn fun i => !up.contains i) (sm.sq hl) ?_ ?_ ?_⟩
      · rw [zv_length]
        exact small1000 (by first | lia | omega)
      · intro D2 hD2 x hx H2 acc Y N sm2 hd2 hY hN
        obtain ⟨i, hm, rfl⟩ := zv_mem hx
        refine ⟨rfl, _, rfl, _, rfl, u, _, rfl, (sm.trans sm2).sq hu, rfl, zv_flat _, _, rfl, ?_⟩
        show if (!inV (.int (i : Int)) (zv up)) = true then _ else _
        rw [zv_in]
        refine ite2 (fun hc => ⟨_, rfl, hY _ _ ?_ sm2 hd2⟩) (fun hc => hN _ ?_ sm2 hd2)
        · rw [keepIn_int, if_pos hc]
        · rw [keepIn_int, if_neg hc]
      · intro D2 H2 hD2 sm2 hd2
        rw [zv_fm_filter (keepIn_int _)] at hd2
        have hlen : ∀ q : Nat → Bool, (go.filter q).length ≤ 100 := fun q => Nat.le_trans (List.length_filter_le _ _) hn
        refine ⟨_, rfl, _, rfl, a, D, t, up0, _, rfl, tw.same (sm.trans sm2), .inl (SqL.of (sm2 _ _ hd)), fun i h => hi i (List.mem_filter.mp h).1, hlen _, fun H3 sm3 => ?_⟩
        refine ⟨_, rfl, _, rfl, a, D2, t, up0, _, rfl, tw.same ((sm.trans sm2).trans sm3), .inl (SqL.of (sm3 _ _ hd2)), fun i h => hi i (List.mem_filter.mp h).1, hlen _, fun H4 sm4 => ?_⟩
        exact ⟨_, _, rfl, rfl, k H4 (((sm.trans sm2).trans sm3).trans sm4)⟩
noncomputable def spPersonAmong (K : PySem.W.Frag) (cT : Addr) : Sp := fun vs H Q _ => ∃ (a b : Addr) (t : Mu45.Tower) (up0 l : List Nat), vs = [.ref a, .ref b] ∧ Tw cT H a t up0 ∧ Sq K H b (zv l) ∧ l.length ≤ 100 ∧ ∀ H', Same H H' → Q (.bl (Mu45.people t l)) H'
theorem scPersonAmong : FnScope ["tower", "numbers", "number"] ["tower", "numbers"] (defScope sPersonAmong) := ⟨rfl, rfl, rfl, by decide +kernel, rfl, by decide +kernel, by decide +kernel⟩
theorem ok_person_among {f : Addr} {fd : FuncData} (F : Fun K "person_among" "person_among" sPersonAmong f fd) (T : Txt K mg cT) : FnOk P w K mg base CX0 1 f fd ["tower", "numbers"] (spPersonAmong K cT) := by
  refine F.ok scPersonAmong (fun vs H Q E h => ?_) (fun cdv A outer s H vs Q E hr h => ?_)
  · obtain ⟨a, b, t, up0, l, rfl, _⟩ := h
    rfl
  · obtain ⟨a, b, t, up0, l, rfl, ⟨dx, w', p, r, u0, fs, rs, tw⟩, hl, hn, k⟩ := h
    refine ⟨_, pss_one (ps_ret (pe_cmpR op_gt (pe_callB call_len_seq (by rfl) T.len PySem.boot_len (pa_cons (pe_lc (own := [("number", 2)]) (tt := tTest (tOp (rIn K false) (tVar 2) (tFld K (tVar 0) "people"))) rfl scPersonAmong.nd (pi_seq (pv 1)) (blkOk_by (by kernel_rfl))
        (by exact fun _ _ _ _ _ => pg_name (i := 2) scPersonAmong.nd rfl (Or.inl rfl)) (by exact fun _ _ _ _ _ => pts_one (pt_cmpR op_in_seq (pv 2) (pe_fld (pv 0) rfl) (by with_unfolding_all rfl))) (by exact fun _ _ _ _ _ => pv 2)) pa_nil)) pe_int (nomark _))), ?_⟩
    refine ⟨_, rfl, lc_fmS (keepIn fun i => (pplOf t).contains i) hl ?_ ?_ ?_⟩
    · rw [zv_length]
      exact small1000 (by first | lia | omega)
    · intro D hD x hx H' acc Y N sm hd hY hN
      obtain ⟨i, hm, rfl⟩ := zv_mem hx
      refine ⟨rfl, _, rfl, _, rfl, a, cT, dx, fs, _, rfl, sm _ _ tw.obj, T.clT, T.nPeople, tw.fPeople, p, _, rfl, .inl (SqL.of (sm _ _ tw.ps)), rfl, zv_flat _, _, rfl, ?_⟩
      show if inV (.int (i : Int)) (zv (pplOf t)) = true then _ else _
      rw [zv_in]
      refine ite2 (fun hc => ⟨_, rfl, hY _ _ ?_ sm hd⟩) (fun hc => hN _ ?_ sm hd)
      · rw [keepIn_int, if_pos hc]
      · rw [keepIn_int, if_neg hc]
    · intro D H' hD sm hd
      rw [zv_fm_filter (keepIn_int _)] at hd
      refine ⟨D, _, rfl, .inl (SqL.of hd), _, _, rfl, rfl, ?_⟩
      have fin := k H' sm
      rw [← among] at fin
      rw [zv_length]
      exact fin
noncomputable def spNeededLimit (K : PySem.W.Frag) (cT : Addr) : Sp := fun vs H Q _ => ∃ (a u b : Addr) (t : Mu45.Tower) (up0 up go : List Nat), vs = [.ref a, .ref u, .ref b] ∧ Tw cT H a t up0 ∧ Sq K H u (zv up) ∧ Sq K H b (zv go) ∧ go.length ≤ 100 ∧ (∀ i ∈ go, i < t.things.length) ∧ ∀ H', Same H H' → Q (.int (needL t up go)) H'
theorem scNeededLimit : FnScope ["tower", "above", "things"] ["tower", "above", "things"] (defScope sNeededLimit) := ⟨rfl, rfl, rfl, by decide +kernel, rfl, by decide +kernel, by decide +kernel⟩
theorem ok_needed_limit {f : Addr} {fd : FuncData} (F : Fun K "needed_limit" "needed_limit" sNeededLimit f fd) (T : Txt K mg cT) (cU : Cal P w K mg base "unlike" 2 ["tower", "above", "things"] (spUnlike K cT))
    (cP : Cal P w K mg base "person_among" 1 ["tower", "numbers"] (spPersonAmong K cT)) : FnOk P w K mg base CX0 3 f fd ["tower", "above", "things"] (spNeededLimit K cT) := by
  refine F.ok scNeededLimit (fun vs H Q E h => ?_) (fun cdv A outer s H vs Q E hr h => ?_)
  · obtain ⟨a, u, b, t, up0, up, go, rfl, _⟩ := h
    rfl
  · obtain ⟨a, u, b, t, up0, up, go, rfl, tw, hu, hl, hn, hi, k⟩ := h
    have hr1 : Room 1 _ := hr.mono (by decide)
    refine ⟨_, pss_one (ps_ret (pe_ifExp (pt_val (pe_cal cP hr1 (by rfl) (pa_cons (pv 0) (pa_cons (pv 2) pa_nil)))) (pe_cal cU hr (by rfl) (pa_cons (pv 0) (pa_cons (pv 1) (pa_cons (pv 2) pa_nil)))) pe_int)), ?_⟩
    refine ⟨_, rfl, _, rfl, a, b, t, up0, go, rfl, tw, hl, hn, fun H1 s1 => ⟨_, rfl, ?_⟩⟩
    unfold needL at k
    refine ite2 (fun c1 => ?_) (fun c1 => ?_)
    · rw [if_pos c1] at k
      exact ⟨_, rfl, _, rfl, _, rfl, a, u, b, t, up0, up, go, rfl, tw.same s1, s1.sq hu, s1.sq hl, hn, hi, fun H2 s2 => k H2 (s1.trans s2)⟩
    · rw [if_neg c1] at k
      exact k H1 s1
noncomputable def spVerdict (K : PySem.W.Frag) (cT : Addr) : Sp := fun vs H Q _ => ∃ (a u b : Addr) (t : Mu45.Tower) (up0 up go : List Nat), vs = [.ref a, .ref u, .ref b] ∧ Tw cT H a t up0 ∧ Sq K H u (zv up) ∧ Sq K H b (zv go) ∧ go.length ≤ 100 ∧ (∀ i ∈ go, i < t.things.length) ∧ ∀ H', Same H H' → Q (.int (verd t up go)) H'
theorem scVerdict : FnScope ["tower", "above", "things"] ["tower", "above", "things"] (defScope sVerdict) := ⟨rfl, rfl, rfl, by decide +kernel, rfl, by decide +kernel, by decide +kernel⟩
theorem ok_verdict {f : Addr} {fd : FuncData} (F : Fun K "verdict" "verdict" sVerdict f fd) (T : Txt K mg cT) (cO : Cal P w K mg base "overfull" 1 ["tower", "above", "things"] (spOverfull K cT)) (cU : Cal P w K mg base "unlike" 2 ["tower", "above", "things"] (spUnlike K cT))
    (cN : Cal P w K mg base "needed_limit" 3 ["tower", "above", "things"] (spNeededLimit K cT)) : FnOk P w K mg base CX0 4 f fd ["tower", "above", "things"] (spVerdict K cT) := by
  refine F.ok scVerdict (fun vs H Q E h => ?_) (fun cdv A outer s H vs Q E hr h => ?_)
  · obtain ⟨a, u, b, t, up0, up, go, rfl, _⟩ := h
    rfl
  · obtain ⟨a, u, b, t, up0, up, go, rfl, tw, hu, hl, hn, hi, k⟩ := h
    have hr1 : Room 1 _ := hr.mono (by decide)
    have hr2 : Room 2 _ := hr.mono (by decide)
    refine ⟨_, pss_cons (ps_if (pt_val (pe_cal cO hr1 (by rfl) (pa_cons (pv 0) (pa_cons (pv 1) (pa_cons (pv 2) pa_nil))))) (pss_one (ps_ret (pe_num T.gTOO_MANY))) pss_nil)
      (pss_cons (ps_if (pt_cmpR op_le (pe_cal cU hr2 (by rfl) (pa_cons (pv 0) (pa_cons (pv 1) (pa_cons (pv 2) pa_nil)))) pe_int (nomark _)) (pss_one (ps_ret (pe_num T.gNOT_HEAVIER))) pss_nil)
      (pss_cons (ps_if (pt_cmpR op_gt (pe_cal cN hr (by rfl) (pa_cons (pv 0) (pa_cons (pv 1) (pa_cons (pv 2) pa_nil)))) (pe_fld (pv 0) rfl) (nomark _)) (pss_one (ps_ret (pe_num T.gTOO_UNLIKE))) pss_nil)
      (pss_one (ps_ret (pe_num T.gDONE))))), ?_⟩
    refine ⟨_, rfl, _, rfl, _, rfl, a, u, b, t, up0, up, go, rfl, tw, hu, hl, hn, fun H1 s1 => ⟨_, rfl, ?_⟩⟩
    unfold verd at k
    refine ite2 (fun c1 => ?_) (fun c1 => ?_)
    · have fin := k H1 s1
      rw [if_pos c1] at fin
      exact fin
    · refine ⟨_, rfl, _, rfl, _, rfl, a, u, b, t, up0, up, go, rfl, tw.same s1, s1.sq hu, s1.sq hl, hn, hi, fun H2 s2 => ?_⟩
      have s12 := s1.trans s2
      refine ⟨_, _, rfl, rfl, _, rfl, ?_⟩
      refine ite2 (fun c2 => ?_) (fun c2 => ?_)
      · have fin := k H2 s12
        rw [if_neg c1, if_pos (of_decide_eq_true c2)] at fin
        exact fin
      · have c2' : ¬ dif t up go ≤ 0 := fun z => c2 (decide_eq_true z)
        refine ⟨_, rfl, _, rfl, _, rfl, a, u, b, t, up0, up, go, rfl, tw.same s12, s12.sq hu, s12.sq hl, hn, hi, fun H3 s3 => ?_⟩
        obtain ⟨dx, w', p, r, u0, fs, rs, tw'⟩ := tw.same (s12.trans s3)
        refine ⟨_, rfl, a, cT, dx, fs, _, rfl, tw'.obj, T.clT, T.nLimit, tw'.fLimit, _, _, rfl, rfl, _, rfl, ?_⟩
        have fin := k H3 (s12.trans s3)
        rw [if_neg c1, if_neg c2'] at fin
        have e : ((t.unlike : Int) < dif t up go ∧ Mu45.people t go = true) ↔ (t.unlike : Int) < needL t up go := by
          unfold needL
          by_cases c : Mu45.people t go = true
          · rw [if_pos c]
            exact ⟨fun z => z.1, fun z => ⟨z, c⟩⟩
          · rw [if_neg c]
            exact ⟨fun z => absurd z.2 c, fun z => by first | lia | omega⟩
        refine ite2 (fun c3 => ?_) (fun c3 => ?_)
        · rw [if_pos (e.mpr (of_decide_eq_true c3))] at fin
          exact fin
        · rw [if_neg (fun z => c3 (decide_eq_true (e.mp z)))] at fin
          exact fin
end
end TB

set_option Elab.async false
set_option linter.all false
set_option maxRecDepth 100000
set_option maxHeartbeats 4000000
namespace TB
open PySem PySem.Spec PyProof.Rows L2
noncomputable abbrev sPossibleRows : Stmt := top 34
noncomputable abbrev sTurned : Stmt := top 36
noncomputable abbrev TupsAt (H : Hp) (bs : List Addr) (rows : List (List Nat)) : Prop := Paired (fun b row => H b = some (.tup (zv row))) bs rows
theorem TupsAt.same {H H' : Hp} {bs : List Addr} {rows : List (List Nat)} (h : TupsAt H bs rows) (s : Same H H') : TupsAt H' bs rows := Paired.mapP h fun b row q => s _ _ q
theorem TupsAt.append {H : Hp} : ∀ {bs cs : List Addr} {rows more : List (List Nat)}, TupsAt H bs rows → TupsAt H cs more → TupsAt H (bs ++ cs) (rows ++ more) := by
  intro bs cs rows more hp q
  induction hp with
  | nil => exact q
  | cons h t ih => exact .cons h ih
theorem TupsAt.len {H : Hp} {bs : List Addr} {rows : List (List Nat)} (h : TupsAt H bs rows) : bs.length = rows.length := Paired.length h
theorem TupsAt.get {H : Hp} {bs : List Addr} {rows : List (List Nat)} (h : TupsAt H bs rows) {i : Nat} {b : Addr} (e : bs[i]? = some b) : ∃ row, rows[i]? = some row ∧ H b = some (.tup (zv row)) := paired_get h e
theorem TupsAt.mem {H : Hp} {bs : List Addr} {rows : List (List Nat)} (h : TupsAt H bs rows) {b : Addr} (e : b ∈ bs) : ∃ row, row ∈ rows ∧ H b = some (.tup (zv row)) := by
  obtain ⟨i, hi⟩ := List.getElem?_of_mem e
  obtain ⟨row, h1, h2⟩ := h.get hi
  exact ⟨row, List.mem_of_getElem? h1, h2⟩
theorem zv_inj : ∀ {l m : List Nat}, zv l = zv m → l = m
  | [], [], _ => rfl
  | [], _ :: _, h => by cases h
  | _ :: _, [], h => by cases h
  | x :: l, y :: m, h => by
    have h' : V.int (x : Int) :: zv l = V.int (y : Int) :: zv m := h
    injection h' with h1 h2
    injection h1 with h1
    rw [zv_inj h2, show x = y by first | lia | omega]
theorem row_good {n : Nat} (hn : n ≤ 5) {row : List Nat} (h : row ∈ rowsOf n) : row.length ≤ 5 ∧ ∀ i ∈ row, i < n := by
  have g := rows_good n hn
  unfold rowsGood at g
  rw [Bool.and_eq_true, List.all_eq_true] at g
  have g2 := g.2 row h
  rw [Bool.and_eq_true, decide_eq_true_iff, List.all_eq_true] at g2
  exact ⟨g2.1, fun i hi => of_decide_eq_true (g2.2 i hi)⟩
theorem rows_few {n : Nat} (hn : n ≤ 5) : (rowsOf n).length ≤ 40 := by
  have g := rows_good n hn
  unfold rowsGood at g
  rw [Bool.and_eq_true, decide_eq_true_iff] at g
  exact g.1
open Classical in
noncomputable def keepRow (H : Hp) (p : List Nat → Bool) (x : V) : Option V := if ∃ b row, x = .ref b ∧ H b = some (.tup (zv row)) ∧ p row = true then some x else none
theorem keepRow_yes {H : Hp} {p : List Nat → Bool} {b : Addr} {row : List Nat} (h : H b = some (.tup (zv row))) (hp : p row = true) : keepRow H p (.ref b) = some (.ref b) := by
  unfold keepRow
  rw [if_pos ⟨b, row, rfl, h, hp⟩]
theorem keepRow_no {H : Hp} {p : List Nat → Bool} {b : Addr} {row : List Nat} (h : H b = some (.tup (zv row))) (hp : ¬ p row = true) : keepRow H p (.ref b) = none := by
  unfold keepRow
  rw [if_neg]
  rintro ⟨b', row', e, h', hp'⟩
  cases e
  rw [h] at h'
  injection h' with h'
  injection h' with h'
  rw [zv_inj h'] at hp
  exact hp hp'
theorem keepRow_fm {H : Hp} {p : List Nat → Bool} : ∀ {bs : List Addr} {rows : List (List Nat)}, TupsAt H bs rows → ∃ cs, (bs.map V.ref).filterMap (keepRow H p) = cs.map V.ref ∧ TupsAt H cs (rows.filter p) := by
  intro bs rows hp
  induction hp with
  | nil => exact ⟨[], rfl, .nil⟩
  | @cons b row bs rows h t ih =>
    obtain ⟨cs, e, q⟩ := ih
    by_cases hp : p row = true
    · refine ⟨b :: cs, ?_, ?_⟩
      · rw [List.map_cons, List.filterMap_cons, keepRow_yes h hp, e]
        rfl
      · rw [List.filter_cons, if_pos hp]
        exact .cons h q
    · refine ⟨cs, ?_, ?_⟩
      · rw [List.map_cons, List.filterMap_cons, keepRow_no h hp, e]
      · rw [List.filter_cons, if_neg hp]
        exact q
section
variable {P : Program} {w : World} {K : PySem.W.Frag} {mg : Str → Option Value} {base : Heap} {cT : Addr}
noncomputable def spPossibleRows (K : PySem.W.Frag) (cT : Addr) : Sp := fun vs H Q _ => ∃ (a u : Addr) (t : Mu45.Tower) (up0 up : List Nat), vs = [.ref a, .ref u] ∧ Tw cT H a t up0 ∧ Sq K H u (zv up) ∧
  ∀ H' D cs, Same H H' → H D = none → H' D = some (.lst (cs.map V.ref)) → TupsAt H' cs (Mu45.turns t up) → Q (.ref D) H'
theorem scPossibleRows : FnScope ["tower", "above", "row"] ["tower", "above"] (defScope sPossibleRows) := ⟨rfl, rfl, rfl, by decide +kernel, rfl, by decide +kernel, by decide +kernel⟩
theorem ok_possible_rows {f : Addr} {fd : FuncData} (F : Fun K "possible_rows" "possible_rows" sPossibleRows f fd) (T : Txt K mg cT) (cV : Cal P w K mg base "verdict" 4 ["tower", "above", "things"] (spVerdict K cT)) :
    FnOk P w K mg base CX0 5 f fd ["tower", "above"] (spPossibleRows K cT) := by
  refine F.ok scPossibleRows (fun vs H Q E h => ?_) (fun cdv A outer s H vs Q E hr h => ?_)
  · obtain ⟨a, u, t, up0, up, rfl, _⟩ := h
    rfl
  · obtain ⟨a, u, t, up0, up, rfl, tw, hu, k⟩ := h
    obtain ⟨dx, w', p, r, u0, fs, rs, twa⟩ := id tw
    refine ⟨_, pss_one (ps_ret (pe_lc (own := [("row", 2)]) (tt := tTest (tOp rEq (tCall (spVerdict K cT) [] E0 (tCons (tVar 0) (tCons (tVar 1) (tCons (tVar 2) tNil)))) (tC (.int 0)))) rfl scPossibleRows.nd (pi_list (pe_fld (pv 0) rfl)) (blkOk_by (by kernel_rfl))
        (by exact fun _ _ _ _ _ => pg_name (i := 2) scPossibleRows.nd rfl (Or.inl rfl)) (by exact fun _ _ _ _ _ => pts_one (pt_cmpR op_eq (pe_cal cV hr (by rfl) (pa_cons (pv 0) (pa_cons (pv 1) (pa_cons (pv 2) pa_nil)))) (pe_num T.gDONE) (nomark _))) (by exact fun _ _ _ _ _ => pv 2))), ?_⟩
    have five := twa.five
    refine ⟨_, rfl, a, cT, dx, fs, _, rfl, twa.obj, T.clT, T.nRows, twa.fRows, r, rfl, ⟨_, SqL.of twa.rows⟩, fun D hD => lc_fmL (keepRow H fun go => verd t up go == 0) (SqL.of twa.rows) hD ?_ ?_ ?_⟩
    · rw [List.length_map, TupsAt.len twa.each]
      exact small1000 (Nat.le_trans (rows_few five) (by decide))
    · intro x hx H' acc Y N sm hd hY hN
      obtain ⟨b, hb, rfl⟩ := List.mem_map.mp hx
      obtain ⟨row, hrow, eb⟩ := TupsAt.mem twa.each hb
      obtain ⟨g1, g2⟩ := row_good five hrow
      refine ⟨rfl, _, rfl, _, rfl, _, rfl, a, u, b, t, up0, up, row, rfl, tw.same sm, sm.sq hu, .inr (SqT.of (sm _ _ eb)), (by first | lia | omega), g2, fun H3 s3 => ?_⟩
      refine ⟨rfl, _, rfl, ?_⟩
      refine ite2 (fun hc => ⟨_, rfl, hY _ _ ?_ (sm.trans s3) (s3 _ _ hd)⟩) (fun hc => hN _ ?_ (sm.trans s3) (s3 _ _ hd))
      · have e : V.int (verd t up row) = V.int 0 := of_decide_eq_true hc
        injection e with e
        exact keepRow_yes eb (by rw [e]; rfl)
      · refine keepRow_no eb fun z => hc (decide_eq_true ?_)
        rw [eq_of_beq z]
    · intro H' sm hd
      obtain ⟨cs, e, q⟩ := keepRow_fm (p := fun go => verd t up go == 0) twa.each
      rw [e] at hd
      refine k H' D cs sm hD hd ?_
      rw [turns_rows five]
      exact q.same sm
noncomputable def spTurned (K : PySem.W.Frag) (cT : Addr) : Sp := fun vs H Q _ => ∃ (a u b : Addr) (t : Mu45.Tower) (up0 up go : List Nat), vs = [.ref a, .ref u, .ref b] ∧ Tw cT H a t up0 ∧ Sq K H u (zv up) ∧ Sq K H b (zv go) ∧
  ∀ H' c, Same H H' → H' c = some (.tup (zv (Mu45.after t up go))) → Q (.ref c) H'
theorem scTurned : FnScope ["tower", "above", "things", "count", "number"] ["tower", "above", "things"] (defScope sTurned) := ⟨rfl, rfl, rfl, by decide +kernel, rfl, by decide +kernel, by decide +kernel⟩
theorem ok_turned {f : Addr} {fd : FuncData} (F : Fun K "turned" "turned" sTurned f fd) (T : Txt K mg cT) : FnOk P w K mg base CX0 1 f fd ["tower", "above", "things"] (spTurned K cT) := by
  refine F.ok scTurned (fun vs H Q E h => ?_) (fun cdv A outer s H vs Q E hr h => ?_)
  · obtain ⟨a, u, b, t, up0, up, go, rfl, _⟩ := h
    rfl
  · obtain ⟨a, u, b, t, up0, up, go, rfl, ⟨dx, w', p, r, u0, fs, rs, tw⟩, hu, hl, k⟩ := h
    refine ⟨_, pss_cons (ps_set (i := 3) scTurned.nd rfl (Or.inl rfl) (pe_callB call_len_seq (by rfl) T.len PySem.boot_len (pa_cons (pe_fld (pv 0) rfl) pa_nil)))
      (pss_one (ps_ret (pe_callTy call_tuple_of (by rfl) T.tuple PyProof.Rows.boot_tuple (pa_cons (pe_lc (own := [("number", 4)]) (tt := tTest (tOp rNe (tOp (rIn K false) (tVar 4) (tVar 1)) (tOp (rIn K false) (tVar 4) (tVar 2)))) rfl scTurned.nd (pi_range1 (by rfl) T.range (pa_cons (pv 3) pa_nil)) (blkOk_by (by kernel_rfl))
        (by exact fun _ _ _ _ _ => pg_name (i := 4) scTurned.nd rfl (Or.inl rfl)) (by exact fun _ _ _ _ _ => pts_one (pt_cmpR op_ne (pe_cmpR op_in_seq (pv 4) (pv 1) (by with_unfolding_all rfl)) (pe_cmpR op_in_seq (pv 4) (pv 2) (by with_unfolding_all rfl)) (nomark _))) (by exact fun _ _ _ _ _ => pv 4)) pa_nil)))), ?_⟩
    have five := tw.five
    refine ⟨_, rfl, a, cT, dx, fs, _, rfl, tw.obj, T.clT, T.nWeights, tw.fWeights, w', _, rfl, .inl (SqL.of tw.ws), ?_⟩
    rw [List.length_map]
    refine ⟨_, rfl, (t.things.length : Int), rfl, (by first | lia | omega), (by first | lia | omega), fun D hD => ?_⟩
    rw [Int.toNat_natCast]
    refine lc_fmR (keepIn fun i => up.contains i != go.contains i) hD (small1000 (by first | lia | omega)) ?_ ?_
    · intro i hi H' acc Y N sm hd hY hN
      rw [Int.zero_add] at hY hN ⊢
      refine ⟨rfl, _, rfl, _, rfl, u, _, rfl, sm.sq hu, rfl, zv_flat _, _, rfl, _, rfl, b, _, rfl, sm.sq hl, rfl, zv_flat _, rfl, _, rfl, ?_⟩
      show if (!decide (V.bl (inV (.int (i : Int)) (zv up)) = V.bl (inV (.int (i : Int)) (zv go)))) = true then _ else _
      rw [zv_in, zv_in, dec_bl]
      refine ite2 (fun hc => ⟨_, rfl, hY _ _ ?_ sm hd⟩) (fun hc => hN _ ?_ sm hd)
      · rw [keepIn_int]
        exact if_pos hc
      · rw [keepIn_int]
        exact if_neg hc
    · intro H' sm hd
      rw [show ((List.range t.things.length).map fun (i : Nat) => V.int (i : Int)) = zv (List.range t.things.length) from rfl, zv_fm_filter (keepIn_int _)] at hd
      refine ⟨D, _, rfl, .inl ⟨SqL.of hd, fun c hc => k _ c (sm.new hc) ?_⟩⟩
      rw [upd_same]
      rfl
end
end TB

set_option Elab.async false
set_option linter.all false
set_option maxRecDepth 100000
set_option maxHeartbeats 4000000
namespace TB
open PySem PySem.Spec PyProof.Rows L2
noncomputable abbrev sLongerRows : Stmt := top 26
noncomputable abbrev sRowsOf : Stmt := top 27
noncomputable abbrev sToldRow : Stmt := top 41
noncomputable abbrev sToldWay : Stmt := top 42
noncomputable def longer1 (n : Nat) (r : List Nat) : List (List Nat) := (List.range' (lowest r) (n - lowest r)).map fun k => r ++ [k]
theorem longer_take {n : Nat} {rws : List (List Nat)} {i : Nat} {row : List Nat} (h : rws[i]? = some row) : longer n (rws.take (i + 1)) = longer n (rws.take i) ++ longer1 n row := by
  unfold longer
  rw [take_snoc h, List.flatMap_append]
  simp [longer1]
theorem longer_le {n : Nat} {rws : List (List Nat)} (i : Nat) : (longer n (rws.take i)).length ≤ (longer n rws).length := by
  conv => rhs; rw [← List.take_append_drop i rws]
  unfold longer
  rw [List.flatMap_append, List.length_append]
  exact Nat.le_add_right _ _
theorem longer1_at {n : Nat} {r : List Nat} {j : Nat} (h : j < n - lowest r) : (longer1 n r)[j]? = some (r ++ [lowest r + j]) := by
  unfold longer1
  rw [List.getElem?_map, List.getElem?_range' h]
  simp
theorem longer1_len (n : Nat) (r : List Nat) : (longer1 n r).length = n - lowest r := by
  unfold longer1
  simp
theorem zv_append (l m : List Nat) : zv (l ++ m) = zv l ++ zv m := List.map_append ..
theorem lowest_snoc (l : List Nat) (x : Nat) : lowest (l ++ [x]) = x + 1 := by
  unfold lowest
  rw [List.getLast?_append]
  rfl
theorem snoc_of {l : List Nat} (h : l ≠ []) : ∃ m x, l = m ++ [x] := ⟨l.dropLast, l.getLast h, (List.dropLast_concat_getLast h).symm⟩
section
variable {P : Program} {w : World} {K : PySem.W.Frag} {mg : Str → Option Value} {base : Heap} {cT : Addr}
noncomputable def spLongerRows (K : PySem.W.Frag) : Sp := fun vs H Q _ => ∃ (a : Addr) (n : Nat) (rs : List Addr) (rws : List (List Nat)), vs = [.ref a, .int (n : Int)] ∧ H a = some (.lst (rs.map V.ref)) ∧ TupsAt H rs rws ∧ n ≤ 5 ∧ (∀ r ∈ rws, r.length ≤ 100 ∧ lowest r ≤ 100) ∧ (longer n rws).length ≤ 100 ∧
  ∀ H' D cs, Same H H' → H D = none → H' D = some (.lst (cs.map V.ref)) → TupsAt H' cs (longer n rws) → Q (.ref D) H'
theorem scLongerRows : FnScope ["rows", "count", "longer", "row", "lowest", "number"] ["rows", "count"] (defScope sLongerRows) := ⟨rfl, rfl, rfl, by decide +kernel, rfl, by decide +kernel, by decide +kernel⟩
theorem ok_longer_rows {f : Addr} {fd : FuncData} (F : Fun K "longer_rows" "longer_rows" sLongerRows f fd) (T : Txt K mg cT) : FnOk P w K mg base CX0 1 f fd ["rows", "count"] (spLongerRows K) := by
  refine F.ok scLongerRows (fun vs H Q E h => ?_) (fun cdv A outer s H vs Q E hr h => ?_)
  · obtain ⟨a, n, rs, rws, rfl, _⟩ := h
    rfl
  · obtain ⟨a, n, rs, rws, rfl, ha, ht, hn, hrow, hlen, k⟩ := h
    refine ⟨_, pss_cons (ps_set (i := 2) scLongerRows.nd rfl (Or.inl rfl) (pe_lst pa_nil))
      (pss_cons (ps_for PassesOwn.never rfl (pi_list (pv 0)) (pg_name (i := 3) scLongerRows.nd rfl (Or.inl rfl))
        (pss_cons (ps_set (i := 4) scLongerRows.nd rfl (Or.inl rfl) (pe_ifExp (pt_cmpR op_gt (pe_callB call_len_seq (by rfl) T.len PySem.boot_len (pa_cons (pv 3) pa_nil)) pe_int (nomark _)) (pe_op op_add (pe_ix ix_tup (pv 3) (pe_un un_neg pe_int) (fun _ _ => rfl)) pe_int) pe_int))
        (pss_one (ps_for PassesOwn.never rfl (pi_range2 (by rfl) T.range (pa_cons (pv 4) (pa_cons (pv 1) pa_nil))) (pg_name (i := 5) scLongerRows.nd rfl (Or.inl rfl))
          (pss_one (ps_expr (pe_bm PySem.F.plainAttrs_list PySem.F.slot_list_append PySem.F.type_list_append mt_append (pv 2) (pa_cons (pe_op op_catT (pv 3) (pe_tup (pa_cons (pv 5) pa_nil))) pa_nil))))))))
      (pss_one (ps_ret (pv 2)))), ?_⟩
    refine ⟨Nat.zero_le _, fun D hD => ?_⟩
    have s0 : Same H (upd H D (.lst [])) := Same.new' hD
    refine ⟨_, rfl, a, rfl, ⟨_, SqL.of (s0 _ _ ha)⟩, for_list (K := K) (a := a) (xs := rs.map V.ref) (fun i σ H' => ∃ v3 v4 v5 cs, σ = [some (.ref a), some (.int (n : Int)), some (.ref D), v3, v4, v5] ∧ Same H H' ∧ H' D = some (.lst (cs.map V.ref)) ∧ TupsAt H' cs (longer n (rws.take i)))
      ⟨none, none, none, [], rfl, s0, upd_same, by rw [List.take_zero]; exact .nil⟩ (fun i σ H' _ ⟨_, _, _, _, _, s5, _⟩ => SqL.of (s5 _ _ ha)) ?_ ?_⟩
    · rintro i y σ H' hi ⟨v3, v4, v5, cs, rfl, sm, hd, hc⟩
      obtain ⟨b, hb, rfl⟩ : ∃ b, rs[i]? = some b ∧ y = V.ref b := by
        rw [List.getElem?_map] at hi
        cases e : rs[i]? with
        | none =>
          rw [e] at hi
          cases hi
        | some b =>
          rw [e] at hi
          exact ⟨b, rfl, (Option.some.inj hi).symm⟩
      obtain ⟨row, hri, eb⟩ := ht.get hb
      obtain ⟨hl1, hl2⟩ := hrow row (List.mem_of_getElem? hri)
      have body : ∀ (H1 : Hp) (DD : Ends) (lv : Int), lv = (lowest row : Int) → Same H' H1 → (∀ σ3 H3, (∃ v5 cs, σ3 = [some (.ref a), some (.int (n : Int)), some (.ref D), some (.ref b), some (.int (lowest row : Int)), v5] ∧ Same H H3 ∧ H3 D = some (.lst (cs.map V.ref)) ∧ TupsAt H3 cs (longer n (rws.take (i + 1)))) → DD.nx σ3 H3) →
          tFor (iRng2 (tCons (tVar 4) (tCons (tVar 1) tNil))) (gName 5) (tDrop (tBM K "list" rAppend (tVar 2) (tCons (tOp (rCatT K) (tVar 3) (tTup (tCons (tVar 5) tNil))) tNil))) DD [some (.ref a), some (.int (n : Int)), some (.ref D), some (.ref b), some (.int lv), v5] H1 := by
        intro H1 DD lv hlv sm1 hDD
        subst hlv
        refine ⟨_, rfl, _, rfl, _, _, rfl, ⟨by first | lia | omega, by first | lia | omega, by first | lia | omega, by first | lia | omega⟩, ?_⟩
        rw [show ((n : Int) - (lowest row : Int)).toNat = n - lowest row by first | lia | omega]
        refine for_range (lo := (lowest row : Int)) (n := n - lowest row) (fun j σ H' => ∃ v5 cs, σ = [some (.ref a), some (.int (n : Int)), some (.ref D), some (.ref b), some (.int (lowest row : Int)), v5] ∧ Same H H' ∧ H' D = some (.lst (cs.map V.ref)) ∧ TupsAt H' cs (longer n (rws.take i) ++ (longer1 n row).take j))
          ⟨v5, cs, rfl, sm.trans sm1, sm1 _ _ hd, by rw [List.take_zero, List.append_nil]; exact hc.same sm1⟩ ?_ ?_
        · rintro j σ H2 hj ⟨v6, cs2, rfl, sm2, hd2, hc2⟩
          have hbound : (cs2.map V.ref).length < sizeLine := by
            rw [List.length_map, hc2.len]
            refine small1000 (Nat.le_trans (Nat.le_trans ?_ (longer_le (n := n) (rws := rws) (i + 1))) (by first | lia | omega))
            rw [longer_take hri, List.length_append, List.length_append]
            exact Nat.add_le_add_left (by rw [List.length_take]; exact Nat.min_le_right _ _) _
          have fin : ∀ (H3 : Hp) (c : Addr), Same H2 H3 → H3 c = some (.tup (zv (row ++ [lowest row + j]))) → rAppend (.ref D) [.ref c] H3 fun _ H4 => ∃ v5 cs, [some (V.ref a), some (.int (n : Int)), some (.ref D), some (.ref b), some (.int (lowest row : Int)), some (.int ((lowest row : Int) + (j : Nat)))] = [some (.ref a), some (.int (n : Int)), some (.ref D), some (.ref b), some (.int (lowest row : Int)), v5] ∧ Same H H4 ∧ H4 D = some (.lst (cs.map V.ref)) ∧ TupsAt H4 cs (longer n (rws.take i) ++ (longer1 n row).take (j + 1)) := by
            intro H3 c s3 ec
            refine ⟨D, _, _, rfl, rfl, s3 _ _ hd2, hbound, _, cs2 ++ [c], rfl, (sm2.trans s3).put hD, ?_, ?_⟩
            · rw [upd_same, List.map_append]
              rfl
            · rw [take_snoc (longer1_at hj), ← List.append_assoc]
              have q : TupsAt H3 (cs2 ++ [c]) (longer n (rws.take i) ++ (longer1 n row).take j ++ [row ++ [lowest row + j]]) := (hc2.same s3).append (.cons ec .nil)
              refine Paired.mapP q fun z rw hz => ?_
              rw [upd_ne (ne_of hz (s3 _ _ hd2) (fun z => nomatch z))]
              exact hz
          refine ⟨_, rfl, .inl ⟨rfl, _, SqL.of hd2⟩, _, rfl, _, rfl, (by show 1 ≤ sizeLine; decide), fun tt htt => ?_⟩
          have hm : (V.int ((lowest row : Int) + (j : Nat))) = V.int (((lowest row + j : Nat) : Int)) := by
            congr 1
          refine ⟨b, tt, zv row, zv [lowest row + j], rfl, rfl, SqT.of ((sm2.new htt) _ _ eb), SqT.of (by rw [upd_same, hm]; rfl), ?_, ?_, ?_, ?_⟩
          · rw [zv_length, zv_length]
            exact Nat.le_of_lt (small1000 (by simp; first | lia | omega))
          · intro e
            have e' : row = [] := by
              cases row with
              | nil => rfl
              | cons x r => cases e
            subst e'
            exact fin _ tt (Same.new' htt) (by rw [upd_same, hm]; rfl)
          · intro _ e
            cases e
          · intro _ _ c hc'
            refine fin _ c ((Same.new' htt).new hc') ?_
            rw [upd_same, zv_append]
        · rintro σ H2 ⟨v6, cs2, rfl, sm2, hd2, hc2⟩
          refine hDD _ _ ⟨v6, cs2, rfl, sm2, hd2, ?_⟩
          rw [← longer1_len, List.take_length] at hc2
          rw [longer_take hri]
          exact hc2
      refine ⟨_, rfl, b, _, rfl, .inr (SqT.of (sm _ _ eb)), _, _, rfl, rfl, _, rfl, ?_⟩
      have endb : ∀ (σ3 : L2.St) (H3 : Hp), (∃ v5 cs, σ3 = [some (.ref a), some (.int (n : Int)), some (.ref D), some (.ref b), some (.int (lowest row : Int)), v5] ∧ Same H H3 ∧ H3 D = some (.lst (cs.map V.ref)) ∧ TupsAt H3 cs (longer n (rws.take (i + 1)))) →
          ∃ v3 v4 v5 cs, σ3 = [some (.ref a), some (.int (n : Int)), some (.ref D), v3, v4, v5] ∧ Same H H3 ∧ H3 D = some (.lst (cs.map V.ref)) ∧ TupsAt H3 cs (longer n (rws.take (i + 1))) := by
        rintro σ3 H3 ⟨v5, cs, rfl, h1, h2, h3⟩
        exact ⟨_, _, _, cs, rfl, h1, h2, h3⟩
      refine ite2 (fun hc0 => ?_) (fun hc0 => ?_)
      · have hne : row ≠ [] := by
          intro e
          subst e
          exact absurd (of_decide_eq_true hc0) (by decide)
        obtain ⟨m, x, rfl⟩ := snoc_of hne
        refine ⟨_, rfl, _, rfl, b, _, _, _, rfl, rfl, SqT.of (sm _ _ eb), by rw [zv_append]; exact atI_last _ _, _, _, rfl, rfl, ?_⟩
        exact body H' _ _ (by rw [lowest_snoc]; first | lia | omega) (Same.refl _) endb
      · have e : row = [] := by
          cases row with
          | nil => rfl
          | cons x r =>
            exfalso
            apply hc0
            rw [zv_length]
            exact decide_eq_true (by simp)
        subst e
        exact body H' _ _ rfl (Same.refl _) endb
    · rintro σ H' ⟨v3, v4, v5, cs, rfl, sm, hd, hc⟩
      rw [List.length_map, ht.len, List.take_length] at hc
      exact ⟨_, rfl, k H' D cs sm hD hd hc⟩
noncomputable def spRowsOf (K : PySem.W.Frag) : Sp := fun vs H Q _ => ∃ (n : Nat), vs = [.int (n : Int)] ∧ n ≤ 5 ∧ ∀ H' D cs, Same H H' → H D = none → H' D = some (.lst (cs.map V.ref)) → TupsAt H' cs (rowsOf n) → Q (.ref D) H'
theorem scRowsOf : FnScope ["count", "found", "rows", "size"] ["count"] (defScope sRowsOf) := ⟨rfl, rfl, rfl, by decide +kernel, rfl, by decide +kernel, by decide +kernel⟩
theorem level_good {n k : Nat} (hn : n ≤ 5) (hk : k ≤ 5) : rowsGood n (level n k) = true ∧ rowsGood n (rowsTo n k) = true := by
  have g := List.all_eq_true.mp (levels_good n hn) k (List.mem_range.mpr (by first | lia | omega))
  rw [Bool.and_eq_true] at g
  exact g
theorem good_row {n : Nat} {rs : List (List Nat)} (g : rowsGood n rs = true) {row : List Nat} (h : row ∈ rs) : row.length ≤ 5 ∧ ∀ i ∈ row, i < n := by
  unfold rowsGood at g
  rw [Bool.and_eq_true, List.all_eq_true] at g
  have g2 := g.2 row h
  rw [Bool.and_eq_true, decide_eq_true_iff, List.all_eq_true] at g2
  exact ⟨g2.1, fun i hi => of_decide_eq_true (g2.2 i hi)⟩
theorem good_few {n : Nat} {rs : List (List Nat)} (g : rowsGood n rs = true) : rs.length ≤ 40 := by
  unfold rowsGood at g
  rw [Bool.and_eq_true, decide_eq_true_iff] at g
  exact g.1
theorem lowest_le {n : Nat} {row : List Nat} (h : ∀ i ∈ row, i < n) : lowest row ≤ n := by
  unfold lowest
  split
  · exact Nat.zero_le _
  · rename_i x e
    exact h x (List.mem_of_getLast? e)
theorem rowsTo_succ (n k : Nat) : rowsTo n (k + 1) = rowsTo n k ++ level n (k + 1) := by
  unfold rowsTo
  rw [List.range_succ, List.flatMap_append]
  simp
theorem ok_rows_of {f : Addr} {fd : FuncData} (F : Fun K "rows_of" "rows_of" sRowsOf f fd) (T : Txt K mg cT) (cL : Cal P w K mg base "longer_rows" 1 ["rows", "count"] (spLongerRows K)) : FnOk P w K mg base CX0 2 f fd ["count"] (spRowsOf K) := by
  refine F.ok scRowsOf (fun vs H Q E h => ?_) (fun cdv A outer s H vs Q E hr h => ?_)
  · obtain ⟨n, rfl, _⟩ := h
    rfl
  · obtain ⟨n, rfl, hn, k⟩ := h
    refine ⟨_, pss_cons (ps_set (i := 1) scRowsOf.nd rfl (Or.inl rfl) (pe_lst pa_nil))
      (pss_cons (ps_set (i := 2) scRowsOf.nd rfl (Or.inl rfl) (pe_lst (pa_cons (pe_tup pa_nil) pa_nil)))
      (pss_cons (ps_for PassesOwn.never rfl (pi_range1 (by rfl) T.range (pa_cons (pv 0) pa_nil)) (pg_name (i := 3) scRowsOf.nd rfl (Or.inl rfl))
        (pss_cons (ps_set (i := 2) scRowsOf.nd rfl (Or.inl rfl) (pe_cal cL hr (by rfl) (pa_cons (pv 2) (pa_cons (pv 0) pa_nil))))
        (pss_one (ps_expr (pe_bm PySem.F.plainAttrs_list PySem.F.slot_list_extend PySem.F.type_list_extend mt_extend (pv 1) (pa_cons (pv 2) pa_nil))))))
      (pss_one (ps_ret (pv 1))))), ?_⟩
    refine ⟨Nat.zero_le _, fun D hD => ?_⟩
    refine ⟨Nat.zero_le _, fun tt htt => ⟨(by show 1 ≤ sizeLine; decide), fun R0 hR0 => ?_⟩⟩
    have s0 : Same H (upd H D (.lst [])) := Same.new' hD
    have s1 : Same (upd H D (.lst [])) (upd (upd H D (.lst [])) tt (.tup [])) := Same.new' htt
    have s2 : Same (upd (upd H D (.lst [])) tt (.tup [])) (upd (upd (upd H D (.lst [])) tt (.tup [])) R0 (.lst [.ref tt])) := Same.new' hR0
    refine ⟨_, rfl, (n : Int), rfl, (by first | lia | omega), (by first | lia | omega), ?_⟩
    rw [Int.toNat_natCast]
    refine for_range (lo := 0) (n := n) (fun i σ H' => ∃ v3 R cs ds, σ = [some (.int (n : Int)), some (.ref D), some (.ref R), v3] ∧ Same H H' ∧ D ≠ R ∧ H' D = some (.lst (cs.map V.ref)) ∧ TupsAt H' cs (rowsTo n i) ∧ H' R = some (.lst (ds.map V.ref)) ∧ TupsAt H' ds (level n i)) ?_ ?_ ?_
    · refine ⟨none, R0, [], [tt], rfl, (s0.trans s1).trans s2, ne_of_none ((s1 _ _ upd_same)) hR0, s2 _ _ (s1 _ _ upd_same), .nil, upd_same, .cons (s2 _ _ upd_same) .nil⟩
    · rintro i σ H' hi ⟨v3, R, cs, ds, rfl, sm, hne, hd, hc, hR, hds⟩
      have g := level_good hn (show i ≤ 5 by first | lia | omega)
      have g' := level_good hn (show i + 1 ≤ 5 by first | lia | omega)
      have hlong : longer n (level n i) = level n (i + 1) := rfl
      refine ⟨_, rfl, _, rfl, R, n, ds, level n i, rfl, hR, hds, hn, fun r hr' => ?_, ?_, fun H2 R2 es s3 hn2 hR2 hes => ?_⟩
      · obtain ⟨q1, q2⟩ := good_row g.1 hr'
        have := lowest_le q2
        exact ⟨by first | lia | omega, by first | lia | omega⟩
      · rw [hlong]
        exact Nat.le_trans (good_few g'.1) (by decide)
      · rw [hlong] at hes
        have hneD : D ≠ R2 := ne_of_none hd hn2
        refine ⟨_, rfl, .inl ⟨rfl, _, SqL.of (s3 _ _ hd)⟩, _, rfl, D, R2, _, _, rfl, rfl, s3 _ _ hd, hR2, ?_, ?_⟩
        · rw [List.length_map, List.length_map, hc.len, hes.len]
          have q1 := good_few g.2
          have q2 := good_few g'.1
          exact Nat.le_of_lt (small1000 (by first | lia | omega))
        · have keep : ∀ z rw, H2 z = some (.tup (zv rw)) → upd H2 D (.lst (cs.map V.ref ++ es.map V.ref)) z = some (.tup (zv rw)) := fun z rw hz => by
            rw [upd_ne (ne_of hz (s3 _ _ hd) (fun z => nomatch z))]
            exact hz
          refine ⟨_, R2, cs ++ es, es, rfl, (sm.trans s3).put hD, hneD, ?_, ?_, ?_, ?_⟩
          · rw [upd_same, List.map_append]
          · rw [rowsTo_succ]
            exact Paired.mapP ((hc.same s3).append hes) keep
          · rw [upd_ne (Ne.symm hneD)]
            exact hR2
          · exact Paired.mapP hes keep
    · rintro σ H' ⟨v3, R, cs, ds, rfl, sm, hne, hd, hc, hR, hds⟩
      exact ⟨_, rfl, k H' D cs sm hD hd hc⟩
noncomputable def rowT (r : List Nat) : List Int := (r.length : Int) :: r.map fun (i : Nat) => (i : Int)
noncomputable def spToldRow (K : PySem.W.Frag) : Sp := fun vs H Q _ => ∃ (b : Addr) (r : List Nat), vs = [.ref b] ∧ H b = some (.tup (zv r)) ∧ r.length ≤ 100 ∧ ∀ H' D, Same H H' → H D = none → H' D = some (.lst ((rowT r).map V.int)) → Q (.ref D) H'
theorem scToldRow : FnScope ["row"] ["row"] (defScope sToldRow) := ⟨rfl, rfl, rfl, by decide +kernel, rfl, by decide +kernel, by decide +kernel⟩
theorem zv_ints (l : List Nat) : zv l = (l.map fun (i : Nat) => (i : Int)).map V.int := by
  rw [List.map_map]
  rfl
theorem ok_told_row {f : Addr} {fd : FuncData} (F : Fun K "told_row" "told_row" sToldRow f fd) (T : Txt K mg cT) : FnOk P w K mg base CX0 1 f fd ["row"] (spToldRow K) := by
  refine F.ok scToldRow (fun vs H Q E h => ?_) (fun cdv A outer s H vs Q E hr h => ?_)
  · obtain ⟨b, r, rfl, _⟩ := h
    rfl
  · obtain ⟨b, r, rfl, hb, hr', k⟩ := h
    refine ⟨_, pss_one (ps_ret (pe_op op_cat (pe_lst (pa_cons (pe_callB call_len_seq (by rfl) T.len PySem.boot_len (pa_cons (pv 0) pa_nil)) pa_nil)) (pe_callTy call_list_of (by rfl) T.list PyProof.Rows.boot_list (pa_cons (pv 0) pa_nil)))), ?_⟩
    refine ⟨_, rfl, b, _, rfl, .inr (SqT.of hb), (by show 1 ≤ sizeLine; decide), fun L1 h1 => ?_⟩
    have s1 : Same H (upd H L1 (.lst [.int ((zv r).length : Nat)])) := Same.new' h1
    refine ⟨_, rfl, b, _, rfl, .inr (SqT.of (s1 _ _ hb)), fun L2' h2 => ?_⟩
    have s2 : Same (upd H L1 (.lst [.int ((zv r).length : Nat)])) (upd (upd H L1 (.lst [.int ((zv r).length : Nat)])) L2' (.lst (zv r))) := Same.new' h2
    refine ⟨L1, L2', _, _, rfl, rfl, s2 _ _ upd_same, upd_same, ?_, fun D hD => ?_⟩
    · rw [zv_length]
      exact Nat.le_of_lt (small1000 (by simp; first | lia | omega))
    · refine k _ D ((s1.trans s2).new hD) ((s1.trans s2).free hD) ?_
      rw [upd_same, zv_length, zv_ints]
      rfl
noncomputable def wayT (l : List (List Nat)) : List Int := (l.length : Int) :: l.flatMap rowT
noncomputable def spToldWay (K : PySem.W.Frag) : Sp := fun vs H Q _ => ∃ (b : Addr) (rs : List Addr) (l : List (List Nat)), vs = [.ref b] ∧ H b = some (.lst (rs.map V.ref)) ∧ TupsAt H rs l ∧ (∀ r ∈ l, r.length ≤ 5) ∧ l.length ≤ 100 ∧ ∀ H' D, Same H H' → H D = none → H' D = some (.lst ((wayT l).map V.int)) → Q (.ref D) H'
theorem scToldWay : FnScope ["way", "numbers", "row"] ["way"] (defScope sToldWay) := ⟨rfl, rfl, rfl, by decide +kernel, rfl, by decide +kernel, by decide +kernel⟩
theorem flat_len {l : List (List Nat)} (h : ∀ r ∈ l, r.length ≤ 5) : (l.flatMap rowT).length ≤ 6 * l.length := by
  induction l with
  | nil => simp
  | cons r l ih =>
    rw [List.flatMap_cons, List.length_append, List.length_cons]
    have h1 := h r (List.mem_cons_self ..)
    have h2 := ih fun x hx => h x (List.mem_cons_of_mem _ hx)
    have h3 : (rowT r).length = r.length + 1 := by simp [rowT]
    first | lia | omega
theorem ok_told_way {f : Addr} {fd : FuncData} (F : Fun K "told_way" "told_way" sToldWay f fd) (T : Txt K mg cT) (cR : Cal P w K mg base "told_row" 1 ["row"] (spToldRow K)) : FnOk P w K mg base CX0 2 f fd ["way"] (spToldWay K) := by
  refine F.ok scToldWay (fun vs H Q E h => ?_) (fun cdv A outer s H vs Q E hr h => ?_)
  · obtain ⟨b, rs, l, rfl, _⟩ := h
    rfl
  · obtain ⟨b, rs, l, rfl, hb, ht, h5, hl, k⟩ := h
    refine ⟨_, pss_cons (ps_set (i := 1) scToldWay.nd rfl (Or.inl rfl) (pe_lst (pa_cons (pe_callB call_len_seq (by rfl) T.len PySem.boot_len (pa_cons (pv 0) pa_nil)) pa_nil)))
      (pss_cons (ps_for PassesOwn.never rfl (pi_list (pv 0)) (pg_name (i := 2) scToldWay.nd rfl (Or.inl rfl))
        (pss_one (ps_expr (pe_bm PySem.F.plainAttrs_list PySem.F.slot_list_extend PySem.F.type_list_extend mt_extend (pv 1) (pa_cons (pe_cal cR hr (by rfl) (pa_cons (pv 2) pa_nil)) pa_nil)))))
      (pss_one (ps_ret (pv 1)))), ?_⟩
    refine ⟨_, rfl, b, _, rfl, .inl (SqL.of hb), (by show 1 ≤ sizeLine; decide), fun D hD => ?_⟩
    have s0 : Same H (upd H D (.lst [.int ((rs.map V.ref).length : Nat)])) := Same.new' hD
    refine ⟨_, rfl, b, rfl, ⟨_, SqL.of (s0 _ _ hb)⟩, for_list (K := K) (a := b) (xs := rs.map V.ref) (fun i σ H' => ∃ v2, σ = [some (.ref b), some (.ref D), v2] ∧ Same H H' ∧ H' D = some (.lst (((l.length : Int) :: (l.take i).flatMap rowT).map V.int)))
      ⟨none, rfl, s0, ?_⟩ (fun i σ H' _ ⟨_, _, s5, _⟩ => SqL.of (s5 _ _ hb)) ?_ ?_⟩
    · rw [upd_same, List.take_zero, List.length_map, ht.len]
      rfl
    · rintro i y σ H' hi ⟨v2, rfl, sm, hd⟩
      obtain ⟨c, hc, rfl⟩ : ∃ c, rs[i]? = some c ∧ y = V.ref c := by
        rw [List.getElem?_map] at hi
        cases e : rs[i]? with
        | none =>
          rw [e] at hi
          cases hi
        | some c =>
          rw [e] at hi
          exact ⟨c, rfl, (Option.some.inj hi).symm⟩
      obtain ⟨row, hri, ec⟩ := ht.get hc
      have hrow5 := h5 row (List.mem_of_getElem? hri)
      refine ⟨_, rfl, .inl ⟨rfl, _, SqL.of hd⟩, _, rfl, c, row, rfl, sm _ _ ec, (by first | lia | omega), fun H2 D2 s2 hn2 hd2 => ?_⟩
      have hneD : D ≠ D2 := ne_of_none hd hn2
      refine ⟨D, D2, _, _, rfl, rfl, s2 _ _ hd, hd2, ?_, ?_⟩
      · rw [List.length_map, List.length_map, List.length_cons]
        have q1 := flat_len (l := l.take i) fun r hr => h5 r (List.mem_of_mem_take hr)
        have q2 : (l.take i).length ≤ l.length := by rw [List.length_take]; exact Nat.min_le_right _ _
        have q3 : (rowT row).length = row.length + 1 := by simp [rowT]
        exact Nat.le_of_lt (small1000 (by first | lia | omega))
      · refine ⟨_, rfl, (sm.trans s2).put hD, ?_⟩
        rw [upd_same, take_snoc hri, List.flatMap_append, ← List.map_append]
        simp
    · rintro σ H' ⟨v2, rfl, sm, hd⟩
      rw [List.length_map, ht.len, List.take_length] at hd
      exact ⟨_, rfl, k H' D sm hD hd⟩
end
end TB

set_option Elab.async false
set_option linter.all false
set_option maxRecDepth 100000
set_option maxHeartbeats 4000000
namespace TB
open PySem PySem.Spec PyProof.Rows L2
noncomputable abbrev sFirstWays : Stmt := top 37
noncomputable def keyOf (u : List Nat) : List Key := u.map fun (i : Nat) => Sum.inl (i : Int)
theorem keyOf_kV (u : List Nat) : (keyOf u).map kV = zv u := by
  unfold keyOf zv
  rw [List.map_map]
  rfl
theorem keyOf_inj {u v : List Nat} (h : keyOf u = keyOf v) : u = v := by
  have e := congrArg (List.map kV) h
  rw [keyOf_kV, keyOf_kV] at e
  exact zv_inj e
noncomputable abbrev WaysAt (H : Hp) (q : Addr) (kvs : List (List Key × V)) (acc : List Mu45.Way) : Prop :=
  Paired (fun kv w => kv.1 = keyOf w.2 ∧ ∃ p rs, kv.2 = V.ref p ∧ p ≠ q ∧ H p = some (.lst (rs.map V.ref)) ∧ TupsAt H rs w.1) kvs acc
theorem WaysAt.len {H : Hp} {q : Addr} {kvs : List (List Key × V)} {acc : List Mu45.Way} (h : WaysAt H q kvs acc) : kvs.length = acc.length := Paired.length h
theorem WaysAt.none {H : Hp} {q : Addr} {u : List Nat} : ∀ {kvs : List (List Key × V)} {acc : List Mu45.Way}, WaysAt H q kvs acc → (acc.map (·.2)).contains u = false → valV kvs (keyOf u) = none := by
  intro kvs acc hw
  induction hw with
  | nil => exact fun _ => rfl
  | @cons kv w kvs acc h t ih =>
    intro e
    rw [List.map_cons, List.contains_cons, Bool.or_eq_false_iff] at e
    rw [valV_neg (fun z => ?_)]
    · exact ih e.2
    · rw [h.1] at z
      rw [keyOf_inj z] at e
      simp at e
theorem WaysAt.some {H : Hp} {q : Addr} {u : List Nat} : ∀ {kvs : List (List Key × V)} {acc : List Mu45.Way}, WaysAt H q kvs acc → (acc.map (·.2)).contains u = true → (valV kvs (keyOf u)).isSome = true := by
  intro kvs acc hw
  induction hw with
  | nil => intro e; cases e
  | @cons kv w kvs acc h t ih =>
    intro e
    by_cases hk : kv.1 = keyOf u
    · rw [valV_pos hk]
      rfl
    · rw [valV_neg hk]
      refine ih ?_
      rw [List.map_cons, List.contains_cons, Bool.or_eq_true] at e
      rcases e with e | e
      · exfalso
        apply hk
        rw [h.1, eq_of_beq e]
      · exact e
theorem WaysAt.val {H : Hp} {q : Addr} {w : Mu45.Way} : ∀ {kvs : List (List Key × V)} {acc : List Mu45.Way}, WaysAt H q kvs acc → (acc.map (·.2)).Nodup → w ∈ acc → ∃ p rs, valV kvs (keyOf w.2) = Option.some (V.ref p) ∧ p ≠ q ∧ H p = Option.some (.lst (rs.map V.ref)) ∧ TupsAt H rs w.1 := by
  intro kvs acc hw
  induction hw with
  | nil => intro _ e; cases e
  | @cons kv w0 kvs acc h t ih =>
    intro nd e
    rw [List.map_cons, List.nodup_cons] at nd
    rcases List.mem_cons.mp e with e | e
    · subst e
      obtain ⟨h1, p, rs, h2, h3⟩ := h
      exact ⟨p, rs, by rw [valV_pos h1, h2], h3⟩
    · have hk : ¬ kv.1 = keyOf w.2 := fun z => by
        rw [h.1] at z
        have e2 := keyOf_inj z
        exact nd.1 (by rw [e2]; exact List.mem_map.mpr ⟨w, e, rfl⟩)
      rw [valV_neg hk]
      exact ih nd.2 e
theorem WaysAt.keep {H H' : Hp} {q : Addr} {kvs : List (List Key × V)} {acc : List Mu45.Way} (h : WaysAt H q kvs acc) (s : ∀ b xs, H b = Option.some (.lst xs) → b ≠ q → H' b = Option.some (.lst xs)) (st : ∀ b xs, H b = Option.some (.tup xs) → H' b = Option.some (.tup xs)) : WaysAt H' q kvs acc :=
  Paired.mapP h fun kv w ⟨h1, p, rs, h2, h3, h4, h5⟩ => ⟨h1, p, rs, h2, h3, s _ _ h4 h3, Paired.mapP h5 fun b r z => st _ _ z⟩
theorem WaysAt.same {H H' : Hp} {q : Addr} {kvs : List (List Key × V)} {acc : List Mu45.Way} (h : WaysAt H q kvs acc) (s : Same H H') : WaysAt H' q kvs acc := h.keep (fun b xs z _ => s _ _ z) fun b xs z => s _ _ z
theorem WaysAt.snoc {H : Hp} {q : Addr} : ∀ {kvs : List (List Key × V)} {acc : List Mu45.Way} {kv : List Key × V} {w : Mu45.Way}, WaysAt H q kvs acc → (kv.1 = keyOf w.2 ∧ ∃ p rs, kv.2 = V.ref p ∧ p ≠ q ∧ H p = Option.some (.lst (rs.map V.ref)) ∧ TupsAt H rs w.1) → WaysAt H q (kvs ++ [kv]) (acc ++ [w]) := by
  intro kvs acc kv w hw h'
  induction hw with
  | nil => exact .cons h' .nil
  | cons h t ih => exact .cons h ih
structure Srch (H : Hp) (d q : Addr) (kvs : List (List Key × V)) (us : List Addr) (acc : List Mu45.Way) : Prop where
  dict : H d = some (.dT kvs)
  ways : WaysAt H q kvs acc
  lst : H q = some (.lst (us.map V.ref))
  tups : TupsAt H us (acc.map (·.2))
theorem Srch.same {H H' : Hp} {d q : Addr} {kvs : List (List Key × V)} {us : List Addr} {acc : List Mu45.Way} (h : Srch H d q kvs us acc) (s : Same H H') : Srch H' d q kvs us acc := ⟨s _ _ h.dict, h.ways.same s, s _ _ h.lst, h.tups.same s⟩
section
variable {P : Program} {w : World} {K : PySem.W.Frag} {mg : Str → Option Value} {base : Heap} {cT : Addr}
noncomputable def spFirstWays (K : PySem.W.Frag) (cT : Addr) : Sp := fun vs H Q _ => ∃ (a : Addr) (t : Mu45.Tower) (up : List Nat), vs = [.ref a] ∧ Tw cT H a t up ∧ ∀ H' d q kvs, Same H H' → H d = none → H' d = some (.dT kvs) → WaysAt H' q kvs (Mu45.comes t up) → Q (.ref d) H'
theorem scFirstWays : FnScope ["tower", "ways", "waiting", "at", "above", "row", "behind"] ["tower"] (defScope sFirstWays) := ⟨rfl, rfl, rfl, by decide +kernel, rfl, by decide +kernel, by decide +kernel⟩
theorem ok_first_ways {f : Addr} {fd : FuncData} (F : Fun K "first_ways" "first_ways" sFirstWays f fd) (T : Txt K mg cT) (cP : Cal P w K mg base "possible_rows" 5 ["tower", "above"] (spPossibleRows K cT)) (cU : Cal P w K mg base "turned" 1 ["tower", "above", "things"] (spTurned K cT)) :
    FnOk P w K mg base CX0 6 f fd ["tower"] (spFirstWays K cT) := by
  refine F.ok scFirstWays (fun vs H Q E h => ?_) (fun cdv A outer s H vs Q E hr h => ?_)
  · obtain ⟨a, t, up, rfl, _⟩ := h
    rfl
  · obtain ⟨a, t, up, rfl, tw, k⟩ := h
    obtain ⟨dx, w', p, r, u, fs, rs, twa⟩ := id tw
    have hu := hu_of hr
    have hr1 : Room 1 _ := hr.mono (by decide)
    refine ⟨_, pss_cons (ps_set (i := 1) scFirstWays.nd rfl (Or.inl rfl) (pe_disp1T hu (pe_fld (pv 0) rfl) (pe_lst pa_nil)))
      (pss_cons (ps_set (i := 2) scFirstWays.nd rfl (Or.inl rfl) (pe_lst (pa_cons (pe_fld (pv 0) rfl) pa_nil)))
      (pss_cons (ps_set (i := 3) scFirstWays.nd rfl (Or.inl rfl) pe_int)
      (pss_cons (ps_while PassesOwn.never (pt_cmpR op_lt (pv 3) (pe_callB call_len_seq (by rfl) T.len PySem.boot_len (pa_cons (pv 2) pa_nil)) (nomark _))
        (pss_cons (ps_set (i := 4) scFirstWays.nd rfl (Or.inl rfl) (pe_ix ix_list (pv 2) (pv 3) (fun _ _ => rfl)))
        (pss_cons (ps_for PassesOwn.never rfl (pi_list (pe_cal cP hr (by rfl) (pa_cons (pv 0) (pa_cons (pv 4) pa_nil)))) (pg_name (i := 5) scFirstWays.nd rfl (Or.inl rfl))
          (pss_cons (ps_set (i := 6) scFirstWays.nd rfl (Or.inl rfl) (pe_cal cU hr1 (by rfl) (pa_cons (pv 0) (pa_cons (pv 4) (pa_cons (pv 5) pa_nil)))))
          (pss_one (ps_if (pt_cmp (pc_dnotin hu (pv 6) (pv 1)) (by with_unfolding_all rfl))
            (pss_cons (ps_dput hu (pv 1) (pv 6) (pe_op op_cat (pe_dget hu (pv 1) (pv 4) (fun _ _ => rfl)) (pe_lst (pa_cons (pv 5) pa_nil))) rfl)
            (pss_one (ps_expr (pe_bm PySem.F.plainAttrs_list PySem.F.slot_list_append PySem.F.type_list_append mt_append (pv 2) (pa_cons (pv 6) pa_nil))))) pss_nil))))
        (pss_one (ps_aug (i := 3) scFirstWays.nd rfl (Or.inl rfl) pe_int ip_add)))))
      (pss_one (ps_ret (pv 1)))))), ?_⟩
    -- the start
    intro d hd
    have s1 : Same H (upd H d (.dT [])) := Same.new' hd
    refine ⟨_, rfl, a, cT, dx, fs, _, rfl, s1 _ _ twa.obj, T.clT, T.nAbove, twa.fAbove, Nat.zero_le _, fun e he => ?_⟩
    have s2 : Same (upd H d (.dT [])) (upd (upd H d (.dT [])) e (.lst [])) := Same.new' he
    refine ⟨_, _, rfl, s2 _ _ upd_same, u, keyOf up, rfl, by rw [keyOf_kV]; exact s2 _ _ (s1 _ _ twa.above), ?_⟩
    have hdne : d ≠ e := ne_of_none upd_same he
    have s3 : Same H (upd (upd (upd H d (.dT [])) e (.lst [])) d (.dT [(keyOf up, .ref e)])) := (s1.trans s2).put hd
    have he3 : upd (upd (upd H d (.dT [])) e (.lst [])) d (.dT [(keyOf up, .ref e)]) e = some (.lst []) := by
      rw [upd_ne (Ne.symm hdne), upd_same]
    refine ⟨_, rfl, a, cT, dx, fs, _, rfl, s3 _ _ twa.obj, T.clT, T.nAbove, twa.fAbove, (by show 1 ≤ sizeLine; decide), fun q hq => ?_⟩
    have s4 := s3.new (o := .lst [.ref u]) hq
    have hqn : H q = none := s3.free hq
    have hdq : d ≠ q := ne_of_none upd_same hq
    have heq : e ≠ q := ne_of_none he3 hq
    have five := twa.five
    have sub := twa.sub
    refine ⟨fun m σ H' => ∃ (n : Nat) (v4 v5 v6 : Option V) (kvs : List (List Key × V)) (us : List Addr), m = 100 - n ∧ σ = [some (.ref a), some (.ref d), some (.ref q), some (.int (n : Int)), v4, v5, v6] ∧ Same H H' ∧ Srch H' d q kvs us (accN t up n), ⟨100, 0, none, none, none, [(keyOf up, .ref e)], [u], rfl, rfl, s4, ?_⟩, ?_⟩
    · refine ⟨?_, .cons ⟨rfl, e, [], rfl, heq, ?_, .nil⟩ .nil, upd_same, .cons (s4 _ _ twa.above) .nil⟩
      · rw [upd_ne hdq]
        exact upd_same
      · rw [upd_ne heq]
        exact he3
    · rintro m σ H' ⟨n, v4, v5, v6, kvs, us, rfl, rfl, sm, S⟩
      have hlen := S.tups.len
      rw [List.length_map] at hlen
      have h32 := accN_len sub five n
      refine ⟨_, rfl, _, rfl, q, _, rfl, .inl (SqL.of S.lst), _, _, rfl, rfl, _, rfl, ?_⟩
      rw [List.length_map]
      refine ite2 (fun hc => ?_) (fun hc => ?_)
      · have hn : n < us.length := by
          have := of_decide_eq_true hc
          first | lia | omega
        obtain ⟨b, hb⟩ : ∃ b, us[n]? = some b := ⟨_, List.getElem?_eq_getElem hn⟩
        obtain ⟨up1, hup1, eb⟩ := S.tups.get hb
        obtain ⟨wk, hwk, rfl⟩ : ∃ wk, (accN t up n)[n]? = some wk ∧ wk.2 = up1 := by
          rw [List.getElem?_map] at hup1
          cases e : (accN t up n)[n]? with
          | none =>
            rw [e] at hup1
            cases hup1
          | some wk =>
            rw [e] at hup1
            exact ⟨wk, rfl, Option.some.inj hup1⟩
        refine ⟨fun σ2 H2 => ∃ (v4 v5 v6 : Option V) (kvs : List (List Key × V)) (us : List Addr), σ2 = [some (.ref a), some (.ref d), some (.ref q), some (.int ((n + 1 : Nat) : Int)), v4, v5, v6] ∧ Same H H2 ∧ Srch H2 d q kvs us (accN t up (n + 1)), ?_, ?_⟩
        · rintro σ2 H2 ⟨v4, v5, v6, kvs, us, rfl, sm2, S2⟩
          exact ⟨100 - (n + 1), by first | lia | omega, n + 1, v4, v5, v6, kvs, us, rfl, rfl, sm2, S2⟩
        · -- above = waiting[at]
          refine ⟨_, rfl, _, rfl, q, _, (n : Int), .ref b, rfl, rfl, SqL.of S.lst, atI_nat (by rw [List.getElem?_map, hb]; rfl), ?_⟩
          -- for row in possible_rows(tower, above)
          refine ⟨_, rfl, _, rfl, a, b, t, up, wk.2, rfl, tw.same sm, .inr (SqT.of eb), fun H1 D cs s5 hD hd5 hcs => ?_⟩
          have S1 := S.same s5
          have hDd : D ≠ d := Ne.symm (ne_of_none S.dict hD)
          have hDq : D ≠ q := Ne.symm (ne_of_none S.lst hD)
          refine ⟨D, rfl, ⟨_, SqL.of hd5⟩, for_list (K := K) (a := D) (xs := cs.map V.ref)
            (fun j σ2 H2 => ∃ (v5 v6 : Option V) (kvs : List (List Key × V)) (us : List Addr), σ2 = [some (.ref a), some (.ref d), some (.ref q), some (.int (n : Int)), some (.ref b), v5, v6] ∧ Same H H2 ∧ (∀ x xs, H1 x = some (.tup xs) → H2 x = some (.tup xs)) ∧ H2 D = some (.lst (cs.map V.ref)) ∧ Srch H2 d q kvs us (((nexts t wk).take j).foldl put1 (accN t up n)))
            ⟨v5, v6, kvs, us, rfl, sm.trans s5, fun x xs z => z, hd5, by rw [List.take_zero]; exact S1⟩ (by rintro j σ2 H2 _ ⟨_, _, _, _, _, _, _, z, _⟩; exact SqL.of z) ?_ ?_⟩
          · rintro j y σ2 H2 hj ⟨v5, v6, kvs2, us2, rfl, sm2, st2, hD2, S2⟩
            obtain ⟨c, hc2, rfl⟩ : ∃ c, cs[j]? = some c ∧ y = V.ref c := by
              rw [List.getElem?_map] at hj
              cases e : cs[j]? with
              | none =>
                rw [e] at hj
                cases hj
              | some c =>
                rw [e] at hj
                exact ⟨c, rfl, (Option.some.inj hj).symm⟩
            obtain ⟨go, hgo, ec⟩ := hcs.get hc2
            have hnx := nexts_at hgo
            have estep : ((nexts t wk).take (j + 1)).foldl put1 (accN t up n) = put1 (((nexts t wk).take j).foldl put1 (accN t up n)) (wk.1 ++ [go], Mu45.after t wk.2 go) := by
              rw [take_snoc hnx, List.foldl_append]
              rfl
            obtain ⟨G1, G2⟩ := part_good sub five hwk j
            have hwk2 := part_at hwk j
            have G32 : (((nexts t wk).take j).foldl put1 (accN t up n)).length ≤ 32 := Nat.le_trans (G1.len five) (Nat.pow_le_pow_right (by decide) five)
            generalize hacc : ((nexts t wk).take j).foldl put1 (accN t up n) = acc at *
            have eb2 : H2 b = some (.tup (zv wk.2)) := st2 _ _ (s5 _ _ eb)
            have ec2 : H2 c = some (.tup (zv go)) := st2 _ _ ec
            -- behind = turned(tower, above, row)
            refine ⟨_, rfl, _, rfl, _, rfl, a, b, c, t, up, wk.2, go, rfl, tw.same sm2, .inr (SqT.of eb2), .inr (SqT.of ec2), fun H3 x s6 hx => ?_⟩
            have S3 := S2.same s6
            have hxk : H3 x = some (.tup ((keyOf (Mu45.after t wk.2 go)).map kV)) := by
              rw [keyOf_kV]
              exact hx
            -- if behind not in ways
            refine ⟨_, rfl, _, rfl, d, _, rfl, DGet.t S3.dict hxk, _, rfl, ?_⟩
            rw [estep]
            unfold put1
            by_cases hin : (acc.map (·.2)).contains (Mu45.after t wk.2 go) = true
            · rw [if_pos hin, WaysAt.some S3.ways hin]
              exact ⟨_, _, kvs2, us2, rfl, sm2.trans s6, fun x xs z => s6 _ _ (st2 _ _ z), s6 _ _ hD2, S3⟩
            · rw [if_neg hin, WaysAt.none S3.ways (Bool.eq_false_iff.mpr hin)]
              -- ways[behind] = ways[above] + [row]
              obtain ⟨pw, rw_, hv, hpq, hpw, htw⟩ := WaysAt.val S3.ways G1.nd (List.mem_of_getElem? hwk2)
              refine ⟨_, rfl, _, rfl, d, _, rfl, by rw [← hv]; exact DGet.t S3.dict (by rw [keyOf_kV]; exact s6 _ _ eb2), _, rfl, (by show 1 ≤ sizeLine; decide), fun L hL => ?_⟩
              have s7 : Same H3 (upd H3 L (.lst [.ref c])) := Same.new' hL
              have hwl : rw_.length ≤ 32 := by
                rw [htw.len]
                have h1 := G2.len n wk hwk2
                have h2 := (List.getElem?_eq_some_iff.mp hwk2).1
                first | lia | omega
              refine ⟨pw, L, _, _, rfl, rfl, s7 _ _ hpw, upd_same, ?_, fun p2 hp2 => ?_⟩
              · rw [List.length_map]
                exact Nat.le_of_lt (small1000 (by simp; first | lia | omega))
              · have s8 : Same H3 (upd (upd H3 L (.lst [.ref c])) p2 (.lst (rw_.map V.ref ++ [.ref c]))) := s7.new hp2
                have hp2n : H3 p2 = none := s7.free hp2
                have hp2q : p2 ≠ q := Ne.symm (ne_of_none S3.lst hp2n)
                have hp2d : p2 ≠ d := Ne.symm (ne_of_none S3.dict hp2n)
                have S4 := S3.same s8
                have hkl : kvs2.length = acc.length := S3.ways.len
                have hul : us2.length = acc.length := by
                  have := S3.tups.len
                  rw [List.length_map] at this
                  exact this
                refine ⟨_, rfl, _, rfl, d, _, rfl, DPut.t S4.dict (s8 _ _ hxk) (small1000 (by first | lia | omega)), ?_⟩
                rw [putK_new _ (WaysAt.none S3.ways (Bool.eq_false_iff.mpr hin))]
                -- waiting.append(behind)
                have hq9 : upd (upd (upd H3 L (.lst [.ref c])) p2 (.lst (rw_.map V.ref ++ [.ref c]))) d (.dT (kvs2 ++ [(keyOf (Mu45.after t wk.2 go), .ref p2)])) q = some (.lst (us2.map V.ref)) := by
                  rw [upd_ne (Ne.symm hdq)]
                  exact S4.lst
                refine ⟨_, rfl, .inl ⟨rfl, _, SqL.of hq9⟩, _, rfl, q, _, _, rfl, rfl, hq9, ?_, ?_⟩
                · rw [List.length_map]
                  exact small1000 (by first | lia | omega)
                · have keepT : ∀ z xs, (upd (upd H3 L (.lst [.ref c])) p2 (.lst (rw_.map V.ref ++ [.ref c]))) z = some (.tup xs) → upd (upd (upd (upd H3 L (.lst [.ref c])) p2 (.lst (rw_.map V.ref ++ [.ref c]))) d (.dT (kvs2 ++ [(keyOf (Mu45.after t wk.2 go), .ref p2)]))) q (.lst (us2.map V.ref ++ [.ref x])) z = some (.tup xs) := fun z xs hz => by
                    rw [upd_ne (ne_of hz S4.lst (fun z => nomatch z)), upd_ne (ne_of hz S4.dict (fun z => nomatch z))]
                    exact hz
                  have keepL : ∀ z xs, (upd (upd H3 L (.lst [.ref c])) p2 (.lst (rw_.map V.ref ++ [.ref c]))) z = some (.lst xs) → z ≠ q → upd (upd (upd (upd H3 L (.lst [.ref c])) p2 (.lst (rw_.map V.ref ++ [.ref c]))) d (.dT (kvs2 ++ [(keyOf (Mu45.after t wk.2 go), .ref p2)]))) q (.lst (us2.map V.ref ++ [.ref x])) z = some (.lst xs) := fun z xs hz hzq => by
                    rw [upd_ne hzq, upd_ne (ne_of hz S4.dict (fun z => nomatch z))]
                    exact hz
                  refine ⟨_, _, kvs2 ++ [(keyOf (Mu45.after t wk.2 go), .ref p2)], us2 ++ [x], rfl, ?_, ?_, ?_, ?_⟩
                  · exact (((sm2.trans s6).trans s8).put hd).put hqn
                  · exact fun z xs hz => keepT z xs (s8 _ _ (s6 _ _ (st2 _ _ hz)))
                  · exact keepL D _ (s8 _ _ (s6 _ _ hD2)) hDq
                  · refine ⟨?_, (S4.ways.keep keepL keepT).snoc ⟨rfl, p2, rw_ ++ [c], rfl, hp2q, ?_, ?_⟩, ?_, ?_⟩
                    · rw [upd_ne hdq, upd_same]
                    · refine keepL p2 _ ?_ hp2q
                      rw [upd_same, List.map_append]
                      rfl
                    · exact Paired.mapP ((htw.same s8).append (.cons (s8 _ _ (s6 _ _ ec2)) .nil)) fun z r hz => keepT z _ hz
                    · rw [upd_same, List.map_append]
                      rfl
                    · rw [List.map_append]
                      exact Paired.mapP (S4.tups.append (.cons (s8 _ _ hx) .nil)) fun z r hz => keepT z _ hz
          · rintro σ2 H2 ⟨v5, v6, kvs2, us2, rfl, sm2, st2, hD2, S2⟩
            rw [List.length_map, hcs.len, ← nexts_len, List.take_length, ← accN_succ hwk] at S2
            exact ⟨_, rfl, _, _, rfl, rfl, some (.ref b), v5, v6, kvs2, us2, rfl, sm2, S2⟩
      · -- the end
        have hn : us.length ≤ n := by
          have : ¬ (n : Int) < (us.length : Int) := fun z => hc (decide_eq_true z)
          first | lia | omega
        have ecomes := comes_eq sub five (K := n) (by first | lia | omega)
        have Sd := S.dict
        have Sw := S.ways
        rw [ecomes] at Sw
        exact ⟨_, rfl, k H' d q kvs sm hd Sd Sw⟩
end
end TB

set_option Elab.async false
set_option linter.all false
set_option maxRecDepth 100000
set_option maxHeartbeats 4000000
namespace TB
open PySem PySem.Spec PyProof.Rows L2
noncomputable abbrev sRightThing : Stmt := top 43
noncomputable abbrev sRightTower : Stmt := top 44
noncomputable abbrev sRightThings : Stmt := top 45
noncomputable abbrev sJudge : Stmt := top 46
noncomputable def goodThing : List Int → Bool
  | [a, b] => (decide (1 ≤ a) && decide (a ≤ 300)) && (b == 0 || b == 1)
  | _ => false
noncomputable def goodTower (d k : Int) (l : List (List Int)) : Bool := !(decide (300 < d) || (!(decide (1 ≤ k) && decide (k ≤ 5)) || !(decide (1 ≤ (l.length : Int)) && decide ((l.length : Int) ≤ 5)))) && l.all goodThing
theorem good_thingOf {x : List Int} (h : ∀ z ∈ x, 0 ≤ z) : (Mu45.thingOf (Mu45Neutral.nats x)).isSome = goodThing x := by
  match x, h with
  | [], _ => rfl
  | [a], _ => rfl
  | [a, b], h =>
    have ha := h a (by simp)
    have hb := h b (by simp)
    show (if 1 ≤ a.toNat ∧ (a.toNat ≤ 300 ∧ b.toNat < 2) then some (Mu45.Thing.mk a.toNat (b.toNat == 1)) else none).isSome = ((decide (1 ≤ a) && decide (a ≤ 300)) && (b == 0 || b == 1))
    by_cases c : 1 ≤ a.toNat ∧ (a.toNat ≤ 300 ∧ b.toNat < 2)
    · rw [if_pos c]
      have e1 : decide (1 ≤ a) = true := decide_eq_true (by first | lia | omega)
      have e2 : decide (a ≤ 300) = true := decide_eq_true (by first | lia | omega)
      have e3 : (b == 0 || b == 1) = true := by
        rw [Bool.or_eq_true, beq_iff_eq, beq_iff_eq]
        first | lia | omega
      rw [e1, e2, e3]
      rfl
    · rw [if_neg c]
      symm
      refine Bool.eq_false_iff.mpr fun z => ?_
      rw [Bool.and_eq_true, Bool.and_eq_true, decide_eq_true_iff, decide_eq_true_iff, Bool.or_eq_true, beq_iff_eq, beq_iff_eq] at z
      exact c (by first | lia | omega)
  | a :: b :: c :: r, _ => rfl
theorem goodTower_step {d k : Int} {l : List (List Int)} (hd : 0 ≤ d) (hk : 0 ≤ k) (hl : ∀ x ∈ l, ∀ z ∈ x, 0 ≤ z) :
    (goodTower d k l = false) ↔ (Mu45.MOST < d.toNat ∨ k.toNat < 1 ∨ Mu45.THINGS < k.toNat ∨ (l.map Mu45Neutral.nats).isEmpty = true ∨ Mu45.THINGS < (l.map Mu45Neutral.nats).length ∨ (l.map Mu45Neutral.nats).any (fun (x : List Nat) => (Mu45.thingOf x).isNone) = true) := by
  have e : (l.map Mu45Neutral.nats).any (fun (x : List Nat) => (Mu45.thingOf x).isNone) = !(l.all goodThing) := by
    induction l with
    | nil => rfl
    | cons x l ih =>
      rw [List.map_cons, List.any_cons, List.all_cons, ih (fun y hy => hl y (List.mem_cons_of_mem _ hy)), Bool.not_and]
      congr 1
      rw [← good_thingOf (hl x (List.mem_cons_self ..))]
      cases Mu45.thingOf (Mu45Neutral.nats x) <;> rfl
  have e2 : (l.map Mu45Neutral.nats).isEmpty = true ↔ l.length = 0 := by
    rw [List.isEmpty_iff, List.map_eq_nil_iff, List.length_eq_zero_iff]
  rw [e, e2, List.length_map]
  unfold goodTower Mu45.MOST Mu45.THINGS
  constructor
  · intro h
    rw [Bool.and_eq_false_iff] at h
    rcases h with h | h
    · rw [Bool.not_eq_false', Bool.or_eq_true, Bool.or_eq_true, decide_eq_true_iff] at h
      rcases h with h | h | h
      · left
        first | lia | omega
      · rw [Bool.not_eq_true', Bool.and_eq_false_iff, decide_eq_false_iff_not, decide_eq_false_iff_not] at h
        first | lia | omega
      · rw [Bool.not_eq_true', Bool.and_eq_false_iff, decide_eq_false_iff_not, decide_eq_false_iff_not] at h
        first | lia | omega
    · rw [h]
      simp
  · intro h
    rw [Bool.and_eq_false_iff, Bool.not_eq_false', Bool.or_eq_true, Bool.or_eq_true, decide_eq_true_iff, Bool.not_eq_true', Bool.not_eq_true', Bool.and_eq_false_iff, Bool.and_eq_false_iff, decide_eq_false_iff_not, decide_eq_false_iff_not, decide_eq_false_iff_not, decide_eq_false_iff_not]
    rcases h with h | h | h | h | h | h
    · left; left; first | lia | omega
    · left; right; left; left; first | lia | omega
    · left; right; left; right; first | lia | omega
    · left; right; right; left; first | lia | omega
    · left; right; right; right; first | lia | omega
    · right
      simpa using h
theorem dedup_len : ∀ (l acc : List Int), (l.foldl step_dedup acc).length ≤ acc.length + l.length
  | [], acc => by simp
  | x :: l, acc => by
    rw [List.foldl_cons]
    have h1 := dedup_len l (step_dedup acc x)
    have h2 : (step_dedup acc x).length ≤ acc.length + 1 := by
      rw [step_length]
      split <;> first | lia | omega
    rw [List.length_cons]
    first | lia | omega
theorem dedup_nodup : ∀ (l acc : List Int), acc.Nodup → ((l.foldl step_dedup acc).length = acc.length + l.length ↔ (acc ++ l).Nodup)
  | [], acc, h => by simp [h]
  | x :: l, acc, h => by
    rw [List.foldl_cons]
    by_cases hx : acc.any (· == x) = true
    · have hm : x ∈ acc := by
        obtain ⟨y, hy, e⟩ := List.any_eq_true.mp hx
        rw [← eq_of_beq e]
        exact hy
      have e : step_dedup acc x = acc := by
        unfold step_dedup
        rw [if_pos hx]
      rw [e]
      have h1 := dedup_len l acc
      constructor
      · intro z
        rw [List.length_cons] at z
        first | lia | omega
      · intro z
        rw [List.nodup_append] at z
        exact absurd rfl (z.2.2 x hm x (List.mem_cons_self ..))
    · have hm : x ∉ acc := fun z => hx (List.any_eq_true.mpr ⟨x, z, beq_self_eq_true x⟩)
      have e : step_dedup acc x = acc ++ [x] := by
        unfold step_dedup
        rw [if_neg hx]
      rw [e]
      have hn : (acc ++ [x]).Nodup := by
        rw [List.nodup_append]
        refine ⟨h, by simp, fun a ha b hb => ?_⟩
        simp at hb
        subst hb
        exact fun z => hm (z ▸ ha)
      have ih := dedup_nodup l (acc ++ [x]) hn
      rw [List.length_append, List.append_assoc] at ih
      rw [List.length_cons]
      have e3 : acc.length + [x].length + l.length = acc.length + (l.length + 1) := by
        simp
        first | lia | omega
      rw [e3] at ih
      exact ih
theorem dedup_zs (m : List Nat) : decide (((dedup (m.map fun (i : Nat) => (i : Int))).length : Int) = (m.length : Int)) = decide m.Nodup := by
  rw [Bool.eq_iff_iff, decide_eq_true_iff, decide_eq_true_iff]
  have h := dedup_nodup (m.map fun (i : Nat) => (i : Int)) [] List.nodup_nil
  rw [List.length_nil, List.length_map, List.nil_append] at h
  have e : (m.map fun (i : Nat) => (i : Int)).Nodup ↔ m.Nodup := by
    unfold List.Nodup
    rw [List.pairwise_map]
    constructor
    · exact fun z => z.imp fun h e => h (by rw [e])
    · exact fun z => z.imp fun h e => h (by first | lia | omega)
  rw [← e, ← h]
  unfold dedup
  first | lia | omega
noncomputable abbrev ListsAt (H : Hp) (bs : List Addr) (ls : List (List Int)) : Prop := Paired (fun b (l : List Int) => H b = some (.lst (l.map V.int))) bs ls
theorem int_inj : ∀ {l m : List Int}, l.map V.int = m.map V.int → l = m
  | [], [], _ => rfl
  | [], _ :: _, h => by cases h
  | _ :: _, [], h => by cases h
  | x :: l, y :: m, h => by
    rw [List.map_cons, List.map_cons] at h
    injection h with h1 h2
    injection h1 with h1
    rw [int_inj h2, h1]
open Classical in
noncomputable def atL (H : Hp) (b : Addr) : List Int := if h : ∃ l : List Int, H b = some (.lst (l.map V.int)) then Classical.choose h else []
theorem atL_eq {H : Hp} {b : Addr} {l : List Int} (h : H b = some (.lst (l.map V.int))) : atL H b = l := by
  have hx : ∃ l : List Int, H b = some (.lst (l.map V.int)) := ⟨l, h⟩
  unfold atL
  rw [dif_pos hx]
  have e := h.symm.trans (Classical.choose_spec hx)
  injection e with e
  injection e with e
  exact (int_inj e).symm
noncomputable def mapL (H : Hp) (g : List Int → V) (x : V) : Option V := match x with
  | .ref b => some (g (atL H b))
  | _ => none
theorem mapL_fm {H : Hp} {g : List Int → V} : ∀ {bs : List Addr} {ls : List (List Int)}, ListsAt H bs ls → (bs.map V.ref).filterMap (mapL H g) = ls.map g := by
  intro bs ls hp
  induction hp with
  | nil => rfl
  | @cons b l bs ls h t ih =>
    have e : mapL H g (V.ref b) = some (g l) := by
      show some (g (atL H b)) = _
      rw [atL_eq h]
    rw [List.map_cons, List.filterMap_cons, e, ih]
    rfl
section
variable {P : Program} {w : World} {K : PySem.W.Frag} {mg : Str → Option Value} {base : Heap} {cT : Addr}
noncomputable def spRightThing (K : PySem.W.Frag) : Sp := fun vs H Q _ => ∃ (b : Addr) (x : List Int), vs = [.ref b] ∧ H b = some (.lst (x.map V.int)) ∧ ∀ H', Same H H' → Q (.bl (goodThing x)) H'
theorem scRightThing : FnScope ["thing"] ["thing"] (defScope sRightThing) := ⟨rfl, rfl, rfl, by decide +kernel, rfl, by decide +kernel, by decide +kernel⟩
theorem ok_right_thing {f : Addr} {fd : FuncData} (F : Fun K "right_thing" "right_thing" sRightThing f fd) (T : Txt K mg cT) : FnOk P w K mg base CX0 1 f fd ["thing"] (spRightThing K) := by
  refine F.ok scRightThing (fun vs H Q E h => ?_) (fun cdv A outer s H vs Q E hr h => ?_)
  · obtain ⟨b, x, rfl, _⟩ := h
    rfl
  · obtain ⟨b, x, rfl, hb, k⟩ := h
    refine ⟨_, pss_cons (ps_if (pt_cmpR op_ne (pe_callB call_len_seq (by rfl) T.len PySem.boot_len (pa_cons (pv 0) pa_nil)) pe_int (nomark _)) (pss_one (ps_ret pe_bl)) pss_nil)
      (pss_one (ps_ret (pe_and (pe_chain op_le op_le pe_int (pe_ix ix_list (pv 0) pe_int (fun _ _ => rfl)) (pe_num T.gMOST_WEIGHT)) (pe_one (pe_cmpR op_in_seq (pe_ix ix_list (pv 0) pe_int (fun _ _ => rfl)) (pe_tup (pa_cons (pe_num T.gSTONE) (pa_cons (pe_num T.gPERSON) pa_nil))) (by with_unfolding_all rfl)))))), ?_⟩
    refine ⟨_, rfl, b, _, rfl, .inl (SqL.of hb), rfl, _, rfl, ?_⟩
    rw [List.length_map]
    match x, hb, k with
    | [], hb, k => exact k H (Same.refl _)
    | [a], hb, k => exact k H (Same.refl _)
    | a1 :: a2 :: a3 :: r, hb, k =>
      refine ite2 (fun _ => k H (Same.refl _)) (fun hc => ?_)
      exfalso
      apply hc
      have : ¬ V.int ((((a1 :: a2 :: a3 :: r).length : Nat)) : Int) = V.int 2 := by
        intro z
        injection z with z
        simp only [List.length_cons] at z
        first | lia | omega
      rw [decide_eq_false this]
      rfl
    | [a, c], hb, k =>
      show if (!decide (V.int 2 = V.int 2)) = true then _ else _
      refine iteNS rfl ?_
      refine ⟨_, rfl, b, _, 0, .int a, rfl, rfl, SqL.of hb, rfl, _, _, rfl, rfl, _, rfl, ?_⟩
      have fin : ∀ H', Same H H' → Q (.bl ((decide (1 ≤ a) && decide (a ≤ 300)) && (c == 0 || c == 1))) H' := k
      refine ite2 (fun h1 => ?_) (fun h1 => ?_)
      · refine ⟨_, _, rfl, rfl, _, rfl, ?_⟩
        refine ite2 (fun h2 => ?_) (fun h2 => ?_)
        · refine ⟨_, rfl, b, _, 1, .int c, rfl, rfl, SqL.of hb, rfl, (by show 2 ≤ sizeLine; decide), fun tt htt => ?_⟩
          refine ⟨tt, _, rfl, .inr (SqT.of upd_same), rfl, rfl, ?_⟩
          have f := fin _ (Same.new' (o := .tup [V.int 0, V.int 1]) htt)
          rw [show decide (1 ≤ a) = true from h1, show decide (a ≤ 300) = true from h2] at f
          have e : inV (V.int c) [V.int 0, V.int 1] = (c == 0 || c == 1) := by
            show (((0 : Int) == c) || (((1 : Int) == c) || false)) = (c == 0 || c == 1)
            rw [Bool.or_false, Bool.eq_iff_iff, Bool.or_eq_true, Bool.or_eq_true, beq_iff_eq, beq_iff_eq, beq_iff_eq, beq_iff_eq]
            first | lia | omega
          show Q (.bl (inV (V.int c) [V.int 0, V.int 1])) _
          rw [e]
          exact f
        · have f := fin H (Same.refl _)
          rw [show decide (a ≤ 300) = false from Bool.eq_false_iff.mpr h2, Bool.and_false, Bool.false_and] at f
          exact f
      · refine ⟨_, rfl, iteF ?_⟩
        have f := fin H (Same.refl _)
        rw [show decide (1 ≤ a) = false from Bool.eq_false_iff.mpr h1, Bool.false_and, Bool.false_and] at f
        exact f
noncomputable def spRightTower (K : PySem.W.Frag) : Sp := fun vs H Q _ => ∃ (d k : Int) (b : Addr) (bs : List Addr) (l : List (List Int)), vs = [.int d, .int k, .ref b] ∧ H b = some (.lst (bs.map V.ref)) ∧ ListsAt H bs l ∧ l.length ≤ 100 ∧ ∀ H', Same H H' → Q (.bl (goodTower d k l)) H'
theorem scRightTower : FnScope ["limit", "holds", "things", "thing"] ["limit", "holds", "things"] (defScope sRightTower) := ⟨rfl, rfl, rfl, by decide +kernel, rfl, by decide +kernel, by decide +kernel⟩
theorem ok_right_tower {f : Addr} {fd : FuncData} (F : Fun K "right_tower" "right_tower" sRightTower f fd) (T : Txt K mg cT) (cR : Cal P w K mg base "right_thing" 1 ["thing"] (spRightThing K)) : FnOk P w K mg base CX0 2 f fd ["limit", "holds", "things"] (spRightTower K) := by
  refine F.ok scRightTower (fun vs H Q E h => ?_) (fun cdv A outer s H vs Q E hr h => ?_)
  · obtain ⟨d, k, b, bs, l, rfl, _⟩ := h
    rfl
  · obtain ⟨d, k, b, bs, l, rfl, hb, hl, hn, kk⟩ := h
    refine ⟨_, pss_cons (ps_if (pw_or (pt_cmpR op_gt (pv 0) (pe_num T.gMOST_LIMIT) (nomark _)) (pw_or (pt_not (pt_chain op_le op_le pe_int (pv 1) (pe_num T.gMOST_HOLDS))) (pw_or1 (pt_not (pt_chain op_le op_le pe_int (pe_callB call_len_seq (by rfl) T.len PySem.boot_len (pa_cons (pv 2) pa_nil)) (pe_num T.gMOST_THINGS)))))).pt (pss_one (ps_ret pe_bl)) pss_nil)
      (pss_one (ps_ret (pe_callB (cr_all rfl) (by rfl) T.all boot_all (pa_cons (pe_lc (own := [("thing", 3)]) (te := tCall (spRightThing K) [] E0 (tCons (tVar 3) tNil)) rfl scRightTower.nd (pi_list (pv 2)) (blkOk_by (by kernel_rfl))
        (by exact fun _ _ _ _ _ => pg_name (i := 3) scRightTower.nd rfl (Or.inl rfl)) (by exact fun _ _ _ _ _ => pts_nil) (by exact fun _ _ _ _ _ => pe_cal cR hr (by rfl) (pa_cons (pv 3) pa_nil))) pa_nil)))), ?_⟩
    have no : ∀ H', Same H H' → (decide (300 < d) || (!(decide (1 ≤ k) && decide (k ≤ 5)) || !(decide (1 ≤ (l.length : Int)) && decide ((l.length : Int) ≤ 5)))) = true → Q (.bl false) H' := fun H' s' e => by
      have f := kk H' s'
      unfold goodTower at f
      rw [e] at f
      exact f
    have yes : (decide (300 < d) || (!(decide (1 ≤ k) && decide (k ≤ 5)) || !(decide (1 ≤ (l.length : Int)) && decide ((l.length : Int) ≤ 5)))) = false → goodTower d k l = l.all goodThing := fun e => by
      unfold goodTower
      rw [e]
      rfl
    have lenb : (bs.map V.ref).length = l.length := by rw [List.length_map]; exact Paired.length hl
    have rest : (decide (300 < d) || (!(decide (1 ≤ k) && decide (k ≤ 5)) || !(decide (1 ≤ (l.length : Int)) && decide ((l.length : Int) ≤ 5)))) = false →
        tRet (tCB (rAll K) (tCons (tLc (iList K (tVar 2)) (gName 3) tYes (tCall (spRightThing K) [] E0 (tCons (tVar 3) tNil)) [3]) tNil)) { nx := fun _ H' => Q .non H', rt := Q } [some (.int d), some (.int k), some (.ref b), none] H := by
      intro e
      refine ⟨_, rfl, b, rfl, ⟨_, SqL.of hb⟩, fun D hD => lc_fmL (mapL H fun x => .bl (goodThing x)) (SqL.of hb) hD ?_ ?_ ?_⟩
      · rw [lenb]
        exact small1000 (by first | lia | omega)
      · intro x hx H' acc Y N sm hd hY hN
        obtain ⟨c, hc, rfl⟩ := List.mem_map.mp hx
        obtain ⟨i, hi⟩ := List.getElem?_of_mem hc
        obtain ⟨x, _, ec⟩ := paired_get hl hi
        refine ⟨rfl, _, rfl, c, x, rfl, sm _ _ ec, fun H2 s2 => hY _ _ ?_ (sm.trans s2) (s2 _ _ hd)⟩
        show some (V.bl (goodThing (atL H c))) = _
        rw [atL_eq ec]
      · intro H' sm hd
        rw [mapL_fm hl] at hd
        refine ⟨D, l.map goodThing, rfl, SqL.of (by rw [List.map_map]; exact hd), ?_⟩
        have f := kk H' sm
        rw [yes e] at f
        have e2 : (l.map goodThing).all id = l.all goodThing := by
          rw [List.all_map]
          rfl
        rw [e2]
        exact f
    refine ⟨_, rfl, _, _, rfl, rfl, _, rfl, ?_⟩
    refine ite2 (fun c1 => ?_) (fun c1 => ?_)
    · exact no H (Same.refl _) (by rw [show decide (300 < d) = true from c1, Bool.true_or])
    · have e1 : decide (300 < d) = false := Bool.eq_false_iff.mpr c1
      refine ⟨_, rfl, _, _, rfl, rfl, _, rfl, ?_⟩
      refine ite2 (fun c2 => ?_) (fun c2 => ?_)
      · refine ⟨_, _, rfl, rfl, _, rfl, ?_⟩
        show if (!decide (k ≤ 5)) = true then _ else _
        refine ite2 (fun c3 => ?_) (fun c3 => ?_)
        · refine no H (Same.refl _) ?_
          rw [e1, show decide (1 ≤ k) = true from c2, Bool.true_and, c3]
          rfl
        · have e3 : decide (k ≤ 5) = true := by
            cases h : decide (k ≤ 5) with
            | true => rfl
            | false => exact absurd (by rw [h]; rfl) c3
          refine ⟨_, rfl, b, _, rfl, .inl (SqL.of hb), _, _, rfl, rfl, _, rfl, ?_⟩
          rw [lenb]
          refine ite2 (fun c4 => ?_) (fun c4 => ?_)
          · refine ⟨_, _, rfl, rfl, _, rfl, ?_⟩
            show if (!decide ((l.length : Int) ≤ 5)) = true then _ else _
            refine ite2 (fun c5 => ?_) (fun c5 => ?_)
            · refine no H (Same.refl _) ?_
              rw [e1, show decide (1 ≤ k) = true from c2, e3, show decide (1 ≤ (l.length : Int)) = true from c4, Bool.true_and, Bool.true_and, c5]
              rfl
            · have e5 : decide ((l.length : Int) ≤ 5) = true := by
                cases h : decide ((l.length : Int) ≤ 5) with
                | true => rfl
                | false => exact absurd (by rw [h]; rfl) c5
              exact rest (by rw [e1, show decide (1 ≤ k) = true from c2, e3, show decide (1 ≤ (l.length : Int)) = true from c4, e5]; rfl)
          · refine ⟨_, rfl, iteT ?_⟩
            refine no H (Same.refl _) ?_
            rw [show decide (1 ≤ (l.length : Int)) = false from Bool.eq_false_iff.mpr c4, Bool.false_and]
            simp
      · refine ⟨_, rfl, iteT ?_⟩
        refine no H (Same.refl _) ?_
        rw [show decide (1 ≤ k) = false from Bool.eq_false_iff.mpr c2, Bool.false_and]
        simp
noncomputable def spRightThings (K : PySem.W.Frag) (cT : Addr) : Sp := fun vs H Q _ => ∃ (a b : Addr) (t : Mu45.Tower) (up m : List Nat), vs = [.ref a, .ref b] ∧ Tw cT H a t up ∧ H b = some (.lst (zv m)) ∧ m.length ≤ 100 ∧ ∀ H', Same H H' → Q (.bl (okThings t m)) H'
theorem scRightThings : FnScope ["tower", "things", "missing", "number"] ["tower", "things"] (defScope sRightThings) := ⟨rfl, rfl, rfl, by decide +kernel, rfl, by decide +kernel, by decide +kernel⟩
theorem ok_right_things {f : Addr} {fd : FuncData} (F : Fun K "right_things" "right_things" sRightThings f fd) (T : Txt K mg cT) : FnOk P w K mg base CX0 1 f fd ["tower", "things"] (spRightThings K cT) := by
  refine F.ok scRightThings (fun vs H Q E h => ?_) (fun cdv A outer s H vs Q E hr h => ?_)
  · obtain ⟨a, b, t, up, m, rfl, _⟩ := h
    rfl
  · obtain ⟨a, b, t, up, m, rfl, ⟨dx, w', p, r, u0, fs, rs, tw⟩, hb, hn, k⟩ := h
    refine ⟨_, pss_cons (ps_setLc (i := 2) (own := [("number", 3)]) (tt := tTest (tOp (rI0 fun i j => .bl (decide (j ≤ i))) (tVar 3) (tCB (fun xs H Q => ∃ p ys, xs = [V.ref p] ∧ (SqL K H p ys ∨ SqT K H p ys) ∧ Q (.int ys.length) H) (tCons (tFld K (tVar 0) "weights") tNil)))) rfl scRightThings.nd rfl rfl (sw_true rfl rfl rfl rfl) (pi_list (pv 1)) (blkOk_by (by kernel_rfl))
        (by exact fun _ _ _ _ _ => pg_name (i := 3) scRightThings.nd rfl (Or.inl rfl)) (by exact fun _ _ _ _ _ => pts_one (pt_cmpR op_ge (pv 3) (pe_callB call_len_seq (by rfl) T.len PySem.boot_len (pa_cons (pe_fld (pv 0) rfl) pa_nil)) (nomark _))) (by exact fun _ _ _ _ _ => pv 3))
      (pss_one (ps_ret (pe_and (pe_cmpR op_eq (pe_callB call_len_seq (by rfl) T.len PySem.boot_len (pa_cons (pv 2) pa_nil)) pe_int (nomark _)) (pe_one (pe_cmpR op_eq (pe_callB cr_len_set (by rfl) T.len PySem.boot_len (pa_cons (pe_callTy (cr_set rfl) (by rfl) T.set PyProof.Rows.boot_set (pa_cons (pv 1) pa_nil)) pa_nil)) (pe_callB call_len_seq (by rfl) T.len PySem.boot_len (pa_cons (pv 1) pa_nil)) (nomark _)))))), ?_⟩
    refine ⟨_, rfl, b, rfl, ⟨_, SqL.of hb⟩, fun D hD => lc_fmL (keepIn fun i => decide (t.things.length ≤ i)) (SqL.of hb) hD ?_ ?_ ?_⟩
    · rw [zv_length]
      exact small1000 (by first | lia | omega)
    · intro x hx H' acc Y N sm hd hY hN
      obtain ⟨i, hm, rfl⟩ := zv_mem hx
      refine ⟨rfl, _, rfl, _, rfl, a, cT, dx, fs, _, rfl, sm _ _ tw.obj, T.clT, T.nWeights, tw.fWeights, w', _, rfl, .inl (SqL.of (sm _ _ tw.ws)), _, _, rfl, rfl, _, rfl, ?_⟩
      rw [List.length_map]
      refine ite2 (fun hc => ⟨_, rfl, hY _ _ ?_ sm hd⟩) (fun hc => hN _ ?_ sm hd)
      · rw [keepIn_int]
        exact if_pos (decide_eq_true (by have := of_decide_eq_true hc; first | lia | omega))
      · rw [keepIn_int]
        exact if_neg fun z => hc (decide_eq_true (by have := of_decide_eq_true z; first | lia | omega))
    · intro H' sm hd
      rw [zv_fm_filter (keepIn_int _)] at hd
      refine ⟨_, rfl, D, _, rfl, .inl (SqL.of hd), rfl, _, rfl, ?_⟩
      rw [zv_length]
      have e1 : (decide (V.int (((m.filter fun i => decide (t.things.length ≤ i)).length : Nat) : Int) = V.int 0)) = m.all fun i => decide (i < t.things.length) := by
        rw [Bool.eq_iff_iff, decide_eq_true_iff, List.all_eq_true]
        constructor
        · intro z i hi
          injection z with z
          have z' : (m.filter fun i => decide (t.things.length ≤ i)) = [] := List.length_eq_zero_iff.mp (by first | lia | omega)
          have := List.filter_eq_nil_iff.mp z' i hi
          exact decide_eq_true (by
            rw [decide_eq_true_iff] at this
            first | lia | omega)
        · intro z
          have z' : (m.filter fun i => decide (t.things.length ≤ i)) = [] := List.filter_eq_nil_iff.mpr fun i hi => by
            have := of_decide_eq_true (z i hi)
            rw [decide_eq_true_iff]
            first | lia | omega
          rw [z']
          rfl
      rw [e1]
      have fin := k
      unfold okThings at fin
      refine ite2 (fun c1 => ?_) (fun c1 => ?_)
      · refine ⟨_, rfl, b, m.map fun (i : Nat) => (i : Int), rfl, SqL.of (by rw [← zv_ints]; exact sm _ _ hb), (by rw [List.length_map]; first | lia | omega), fun S hS => ?_⟩
        have s2 := Same.new' (H := H') (a := S) (o := .set (fun k => (dedup (m.map fun (i : Nat) => (i : Int))).any (· == k)) (dedup (m.map fun (i : Nat) => (i : Int))).length) hS
        refine ⟨S, _, _, rfl, upd_same, _, rfl, b, _, rfl, .inl (SqL.of (s2 _ _ (sm _ _ hb))), rfl, ?_⟩
        have f := fin _ (sm.trans s2)
        rw [c1, Bool.and_true] at f
        rw [zv_length, dec_int, Bool.beq_eq_decide_eq, dedup_zs]
        exact f
      · have f := fin _ sm
        rw [Bool.eq_false_iff.mpr c1, Bool.and_false] at f
        exact f
noncomputable def judg (t : Mu45.Tower) (up m : List Nat) : Int := if okThings t m = true then verd t up m else -1
noncomputable def spJudge (K : PySem.W.Frag) (cT : Addr) : Sp := fun vs H Q _ => ∃ (a b : Addr) (t : Mu45.Tower) (up m : List Nat), vs = [.ref a, .ref b] ∧ Tw cT H a t up ∧ H b = some (.lst (zv m)) ∧ m.length ≤ 100 ∧ ∀ H', Same H H' → Q (.int (judg t up m)) H'
theorem scJudge : FnScope ["tower", "things"] ["tower", "things"] (defScope sJudge) := ⟨rfl, rfl, rfl, by decide +kernel, rfl, by decide +kernel, by decide +kernel⟩
theorem ok_judge {f : Addr} {fd : FuncData} (F : Fun K "judge" "judge" sJudge f fd) (T : Txt K mg cT) (cR : Cal P w K mg base "right_things" 1 ["tower", "things"] (spRightThings K cT)) (cV : Cal P w K mg base "verdict" 4 ["tower", "above", "things"] (spVerdict K cT)) :
    FnOk P w K mg base CX0 5 f fd ["tower", "things"] (spJudge K cT) := by
  refine F.ok scJudge (fun vs H Q E h => ?_) (fun cdv A outer s H vs Q E hr h => ?_)
  · obtain ⟨a, b, t, up, m, rfl, _⟩ := h
    rfl
  · obtain ⟨a, b, t, up, m, rfl, tw, hb, hn, k⟩ := h
    have hr1 : Room 1 _ := hr.mono (by decide)
    refine ⟨_, pss_cons (ps_if (pt_not (pt_val (pe_cal cR hr1 (by rfl) (pa_cons (pv 0) (pa_cons (pv 1) pa_nil))))) (pss_one (ps_ret (pe_num T.gWRONG))) pss_nil)
      (pss_one (ps_ret (pe_cal cV hr (by rfl) (pa_cons (pv 0) (pa_cons (pe_fld (pv 0) rfl) (pa_cons (pv 1) pa_nil)))))), ?_⟩
    refine ⟨_, rfl, _, rfl, a, b, t, up, m, rfl, tw, hb, hn, fun H1 s1 => ⟨_, rfl, ?_⟩⟩
    unfold judg at k
    refine ite2 (fun c1 => ?_) (fun c1 => ?_)
    · have f := k H1 s1
      rw [if_neg (by
        intro z
        rw [z] at c1
        cases c1)] at f
      exact f
    · have c1' : okThings t m = true := by
        cases h : okThings t m with
        | true => rfl
        | false => exact absurd (by rw [h]; rfl) c1
      rw [c1'] at k
      obtain ⟨dx, w', p, r, u0, fs, rs, twa⟩ := tw.same s1
      have hall : ∀ i ∈ m, i < t.things.length := by
        unfold okThings at c1'
        rw [Bool.and_eq_true, List.all_eq_true] at c1'
        exact fun i hi => of_decide_eq_true (c1'.2 i hi)
      exact ⟨_, rfl, _, rfl, a, cT, dx, fs, _, rfl, twa.obj, T.clT, T.nAbove, twa.fAbove, _, rfl, a, u0, b, t, up, up, m, rfl, tw.same s1, .inr (SqT.of twa.above), .inl (SqL.of (s1 _ _ hb)), hn, hall, fun H2 s2 => k H2 (s1.trans s2)⟩
end
end TB

set_option Elab.async false
set_option linter.all false
set_option maxRecDepth 100000
set_option maxHeartbeats 4000000
namespace TB
open PySem PySem.Spec PyProof.Rows L2
noncomputable abbrev cLine_ : Stmt := top 25
noncomputable abbrev sLineInit : Stmt := inClass cLine_ 0
noncomputable abbrev sAtEnd : Stmt := inClass cLine_ 1
noncomputable abbrev sTakeNumber : Stmt := inClass cLine_ 2
noncomputable abbrev sTakeList : Stmt := inClass cLine_ 3
noncomputable abbrev sTakeLists : Stmt := inClass cLine_ 4
structure CalM (P : Program) (w : World) (K : PySem.W.Frag) (mg : Str → Option Value) (base : Heap) (C : Addr) (m : Str) (k : Nat) (ps : List Str) (sp : Sp) : Prop where
  ex : ∃ f fd, Meth K C m f ∧ Binds K fd ps [] ∧ FnOk P w K mg base CX0 k f fd ps sp
section
variable {X : Cx} {C : Addr} {m : Str} {k : Nat} {ps : List Str} {sp : Sp} {o e : Expr} {es : List Expr} {ta : TE} {t : TA} {apos pos : Pos} {pl : Sem Bool}
theorem pe_calm (he : PE X o ta) (c : Cls X.K C) (M : CalM X.prog X.w X.K X.mg X.base C m k ps sp) (hr : Room k X.A) (ha : PA X (e :: es) t) (hst : starEach (e :: es) X.env = (false, eval e X.env) :: starEach es X.env := by rfl) (hpl : (backTo pos (starEach es X.env)).any (·.1) = false := by rfl)
    (ht : eval (.Call (.Attribute o m apos) (e :: es) [] pos) X.env = (do let ov ← eval o X.env; standAt apos.atName; let (f, first) ← holding [ov] (getMethod ov m pl); callWith pos f first (backTo pos (starEach (e :: es) X.env)) (backToKw pos (keywordEach [] X.env))) := by rfl) :
    PE X (.Call (.Attribute o m apos) (e :: es) [] pos) (tMeth C m sp [] E0 ta t) := by
  obtain ⟨f, fd, h1, h2, h3⟩ := M.ex
  exact pe_meth (pl := pl) he c h1 h3 hr h2 .nil pass0 ha hst hpl ht
theorem pe_calm0 (he : PE X o ta) (c : Cls X.K C) (M : CalM X.prog X.w X.K X.mg X.base C m k ps sp) (hr : Room k X.A)
    (ht : eval (.Call (.Attribute o m apos) [] [] pos) X.env = (do let ov ← eval o X.env; standAt apos.atName; let (f, first) ← holding [ov] (getMethod ov m pl); callWith pos f first (backTo pos (starEach [] X.env)) (backToKw pos (keywordEach [] X.env))) := by rfl) :
    PE X (.Call (.Attribute o m apos) [] [] pos) (tMeth C m sp [] E0 ta tNil) := by
  obtain ⟨f, fd, h1, h2, h3⟩ := M.ex
  exact pe_meth0 (pl := pl) he c h1 h3 hr h2 .nil pass0 ht
end
noncomputable def lnF (a : Addr) (p : Int) : List (Str × V) := [("calls", .ref a), ("at", .int p)]
noncomputable def LnAt (cL : Addr) (H : Hp) (x a : Addr) (p : Nat) : Prop := ∃ dx, H x = some (.ins cL dx (lnF a (p : Int)))
theorem lnF_calls (a : Addr) (p : Int) : (lnF a p).lookup ("calls" : Str) = some (.ref a) := by
  unfold lnF
  rw [List.lookup_cons]
  rfl
theorem lnF_at (a : Addr) (p : Int) : (lnF a p).lookup ("at" : Str) = some (.int p) := by
  unfold lnF
  rw [List.lookup_cons, show (("at" : Str) == ("calls" : Str)) = false by decide +kernel, List.lookup_cons]
  rfl
theorem lnF_put (a : Addr) (p q : Int) : putF "at" (.int q) (lnF a p) = lnF a q := by
  show (if ("calls" : Str) = "at" then _ else (("calls" : Str), V.ref a) :: (if ("at" : Str) = "at" then _ else _)) = _
  rw [if_neg (by decide +kernel), if_pos rfl]
  rfl
theorem lnF_start (a : Addr) : putF "at" (.int 0) (putF "calls" (.ref a) []) = lnF a 0 := by
  show putF "at" (.int 0) [(("calls" : Str), V.ref a)] = _
  show (if ("calls" : Str) = "at" then _ else (("calls" : Str), V.ref a) :: [(("at" : Str), V.int 0)]) = _
  rw [if_neg (by decide +kernel)]
  rfl
noncomputable def But (x : Addr) (H H' : Hp) : Prop := ∀ b o, H b = some o → b ≠ x → H' b = some o
theorem But.of {x : Addr} {H H' : Hp} (s : Same H H') : But x H H' := fun b o h _ => s b o h
theorem But.trans {x : Addr} {H H1 H2 : Hp} (a : But x H H1) (b : But x H1 H2) : But x H H2 := fun c o h n => b c o (a c o h n) n
theorem But.upd {x : Addr} {H H' : Hp} {o : HO} (a : But x H H') : But x H (L2.upd H' x o) := fun c u h n => by
  rw [upd_ne n]
  exact a c u h n
theorem But.new {x b : Addr} {H H' : Hp} {o : HO} (a : But x H H') (n : H' b = none) : But x H (L2.upd H' b o) := fun c u h hn => by
  rw [upd_ne (ne_of_none (a c u h hn) n)]
  exact a c u h hn
noncomputable def Scr (K : PySem.W.Frag) (H : Hp) (a : Addr) (ns : List Int) : Prop := (∃ o, H a = some (.frz o (.lst (ns.map V.int)))) ∨ (∃ (o : Obj) (its : Array Value) (n : Nat), K.lookup a = some o ∧ o.cls = .type "list" ∧ o.dict = none ∧ o.data = .seq its n ∧ its.size ≤ sizeLine ∧ Vals (ns.map V.int) its.toList)
theorem Scr.sq {K : PySem.W.Frag} {H : Hp} {a : Addr} {ns : List Int} (h : Scr K H a ns) : SqL K H a (ns.map V.int) := by
  rcases h with ⟨o, h⟩ | h
  · exact .inl (.inr ⟨o, h⟩)
  · exact .inr h
theorem Scr.same {K : PySem.W.Frag} {H H' : Hp} {a : Addr} {ns : List Int} (h : Scr K H a ns) (s : Same H H') : Scr K H' a ns := by
  rcases h with ⟨o, h⟩ | h
  · exact .inl ⟨o, s _ _ h⟩
  · exact .inr h
theorem Scr.but {K : PySem.W.Frag} {H H' : Hp} {a x : Addr} {ns : List Int} (h : Scr K H a ns) (s : But x H H') (hx : ∃ C dx fs, H x = some (.ins C dx fs)) : Scr K H' a ns := by
  rcases h with ⟨o, h⟩ | h
  · obtain ⟨C, dx, fs, e⟩ := hx
    exact .inl ⟨o, s _ _ h (ne_of h e (fun z => nomatch z))⟩
  · exact .inr h
structure TxtL (K : PySem.W.Frag) (cL : Addr) : Prop where
  cl : Cls K cL
  nCalls : NoAttr K cL "calls"
  nAt : NoAttr K cL "at"
theorem lnF_no (a : Addr) (p : Int) {m : Str} (h1 : (m == ("calls" : Str)) = false) (h2 : (m == ("at" : Str)) = false) : (lnF a p).lookup m = none := by
  unfold lnF
  rw [List.lookup_cons, h1, List.lookup_cons, h2]
  rfl
section
variable {P : Program} {w : World} {K : PySem.W.Frag} {mg : Str → Option Value} {base : Heap} {cT cL : Addr}
noncomputable def spLineInit (cL : Addr) : Sp := fun vs H Q _ => ∃ (x a dx : Addr), vs = [.ref x, .ref a] ∧ H x = some (.ins cL dx []) ∧ ∀ H', LnAt cL H' x a 0 → But x H H' → Q .non H'
theorem scLineInit : FnScope ["self", "calls"] ["self", "calls"] (defScope sLineInit) := ⟨rfl, rfl, rfl, by decide +kernel, rfl, by decide +kernel, by decide +kernel⟩
theorem ok_line_init {f : Addr} {fd : FuncData} (F : Fun K "__init__" "Line.__init__" sLineInit f fd) (T : TxtL K cL) : FnOk P w K mg base CX0 1 f fd ["self", "calls"] (spLineInit cL) := by
  refine F.ok scLineInit (fun vs H Q E h => ?_) (fun cdv A outer s H vs Q E hr h => ?_)
  · obtain ⟨x, a, dx, rfl, _⟩ := h
    rfl
  · obtain ⟨x, a, dx, rfl, hx, k⟩ := h
    refine ⟨_, pss_cons (ps_fld (pv 0) (pv 1) rfl) (pss_one (ps_fld (pv 0) pe_int rfl)), ?_⟩
    refine ⟨_, rfl, _, rfl, x, cL, dx, _, rfl, hx, T.cl, T.nCalls, (by show 0 < 1000; decide), ?_⟩
    refine ⟨_, rfl, x, cL, dx, _, rfl, upd_same, T.cl, T.nAt, (by show 1 < 1000; decide), ?_⟩
    refine k _ ⟨dx, ?_⟩ ((But.of (Same.refl H)).upd.upd)
    rw [upd_same, lnF_start]
    rfl
noncomputable def spAtEnd (K : PySem.W.Frag) (cL : Addr) : Sp := fun vs H Q _ => ∃ (x a : Addr) (p : Nat) (ns : List Int), vs = [.ref x] ∧ LnAt cL H x a p ∧ Scr K H a ns ∧ ∀ H', Same H H' → Q (.bl (decide ((ns.length : Int) ≤ (p : Int)))) H'
theorem scAtEnd : FnScope ["self"] ["self"] (defScope sAtEnd) := ⟨rfl, rfl, rfl, by decide +kernel, rfl, by decide +kernel, by decide +kernel⟩
theorem ok_at_end {f : Addr} {fd : FuncData} (F : Fun K "at_end" "Line.at_end" sAtEnd f fd) (T : TxtL K cL) (T0 : Txt K mg cT) : FnOk P w K mg base CX0 1 f fd ["self"] (spAtEnd K cL) := by
  refine F.ok scAtEnd (fun vs H Q E h => ?_) (fun cdv A outer s H vs Q E hr h => ?_)
  · obtain ⟨x, a, p, ns, rfl, _⟩ := h
    rfl
  · obtain ⟨x, a, p, ns, rfl, ⟨dx, hx⟩, hs, k⟩ := h
    refine ⟨_, pss_one (ps_ret (pe_cmpR op_ge (pe_fld (pv 0) rfl) (pe_callB call_len_seq (by rfl) T0.len PySem.boot_len (pa_cons (pe_fld (pv 0) rfl) pa_nil)) (nomark _))), ?_⟩
    refine ⟨_, rfl, x, cL, dx, _, _, rfl, hx, T.cl, T.nAt, lnF_at _ _, _, rfl, x, cL, dx, _, _, rfl, hx, T.cl, T.nCalls, lnF_calls _ _, a, _, rfl, .inl hs.sq, _, _, rfl, rfl, ?_⟩
    have f := k H (Same.refl _)
    rw [List.length_map]
    exact f
noncomputable def spTakeNumber (K : PySem.W.Frag) (cL : Addr) : Sp := fun vs H Q _ => ∃ (x a : Addr) (p : Nat) (ns : List Int) (z : Int), vs = [.ref x] ∧ LnAt cL H x a p ∧ Scr K H a ns ∧ ns[p]? = some z ∧ ∀ H', LnAt cL H' x a (p + 1) → But x H H' → Q (.int z) H'
theorem scTakeNumber : FnScope ["self", "number"] ["self"] (defScope sTakeNumber) := ⟨rfl, rfl, rfl, by decide +kernel, rfl, by decide +kernel, by decide +kernel⟩
theorem ok_take_number {f : Addr} {fd : FuncData} (F : Fun K "take_number" "Line.take_number" sTakeNumber f fd) (T : TxtL K cL) : FnOk P w K mg base CX0 1 f fd ["self"] (spTakeNumber K cL) := by
  refine F.ok scTakeNumber (fun vs H Q E h => ?_) (fun cdv A outer s H vs Q E hr h => ?_)
  · obtain ⟨x, a, p, ns, z, rfl, _⟩ := h
    rfl
  · obtain ⟨x, a, p, ns, z, rfl, ⟨dx, hx⟩, hs, hz, k⟩ := h
    refine ⟨_, pss_cons (ps_set (i := 1) scTakeNumber.nd rfl (Or.inl rfl) (pe_ix ix_list (pe_fld (pv 0) rfl) (pe_fld (pv 0) rfl) (fun _ _ => rfl))) (pss_cons (ps_fldaug (pv 0) pe_int in_add) (pss_one (ps_ret (pv 1)))), ?_⟩
    refine ⟨_, rfl, x, cL, dx, _, _, rfl, hx, T.cl, T.nCalls, lnF_calls _ _, _, rfl, x, cL, dx, _, _, rfl, hx, T.cl, T.nAt, lnF_at _ _, a, _, (p : Int), .int z, rfl, rfl, hs.sq, atI_nat (by rw [List.getElem?_map, hz]; rfl), ?_⟩
    refine ⟨_, rfl, x, cL, dx, _, _, rfl, hx, T.cl, T.nAt, lnF_at _ _, _, _, rfl, rfl, dx, _, hx, (by show 2 < 1000; decide), ?_⟩
    refine ⟨_, rfl, k _ ⟨dx, ?_⟩ ((But.of (Same.refl H)).upd)⟩
    rw [upd_same, lnF_put]
    rfl
noncomputable def spTakeList (K : PySem.W.Frag) (cL : Addr) : Sp := fun vs H Q _ => ∃ (x a : Addr) (p : Nat) (ns l r : List Int), vs = [.ref x] ∧ LnAt cL H x a p ∧ Scr K H a ns ∧ PyFlat.row (ns.drop p) = some (l, r) ∧
  ∀ H' D p', LnAt cL H' x a p' → But x H H' → H D = none → H' D = some (.lst (l.map V.int)) → ns.drop p' = r → p' ≤ ns.length → Q (.ref D) H'
theorem scTakeList : FnScope ["self", "count", "start"] ["self"] (defScope sTakeList) := ⟨rfl, rfl, rfl, by decide +kernel, rfl, by decide +kernel, by decide +kernel⟩
theorem cut_ints {ns : List Int} {i j : Nat} (h : i + j ≤ ns.length) : cutV (ns.map V.int) (some (i : Int)) (some ((i + j : Nat) : Int)) = ((ns.drop i).take j).map V.int := by
  unfold cutV
  rw [HT.sIx_nat, HT.sIx_nat, List.length_map, Nat.min_eq_left (by first | lia | omega), Nat.min_eq_left (by first | lia | omega), ← List.map_drop, ← List.map_take, show i + j - i = j by first | lia | omega]
theorem ok_take_list {f : Addr} {fd : FuncData} (F : Fun K "take_list" "Line.take_list" sTakeList f fd) (T : TxtL K cL) (mN : CalM P w K mg base cL "take_number" 1 ["self"] (spTakeNumber K cL)) : FnOk P w K mg base CX0 2 f fd ["self"] (spTakeList K cL) := by
  refine F.ok scTakeList (fun vs H Q E h => ?_) (fun cdv A outer s H vs Q E hr h => ?_)
  · obtain ⟨x, a, p, ns, l, r, rfl, _⟩ := h
    rfl
  · obtain ⟨x, a, p, ns, l, r, rfl, hln, hs, hrow, k⟩ := h
    obtain ⟨dx, hx⟩ := id hln
    obtain ⟨n, r', e, hn0, hn1, rfl, rfl⟩ := row_read hrow
    obtain ⟨e1, e2, e3⟩ := drop_cons e
    refine ⟨_, pss_cons (ps_set (i := 1) scTakeList.nd rfl (Or.inl rfl) (pe_calm0 (pv 0) T.cl mN hr))
      (pss_cons (ps_set (i := 2) scTakeList.nd rfl (Or.inl rfl) (pe_fld (pv 0) rfl))
      (pss_cons (ps_fld (pv 0) (pe_op op_add (pv 2) (pv 1)) rfl)
      (pss_one (ps_ret (pe_slice sl_list (pe_fld (pv 0) rfl) (po_some (pv 2)) (po_some (pe_fld (pv 0) rfl))))))), ?_⟩
    refine ⟨_, rfl, x, dx, _, rfl, hx, lnF_no _ _ (by decide +kernel) (by decide +kernel), x, a, p, ns, n, rfl, hln, hs, e1, fun H1 ln1 b1 => ?_⟩
    obtain ⟨dx1, hx1⟩ := ln1
    have hs1 : Scr K H1 a ns := hs.but b1 ⟨_, _, _, hx⟩
    refine ⟨_, rfl, x, cL, dx1, _, _, rfl, hx1, T.cl, T.nAt, lnF_at _ _, ?_⟩
    refine ⟨_, rfl, _, rfl, _, _, rfl, rfl, _, rfl, x, cL, dx1, _, rfl, hx1, T.cl, T.nAt, (by show 2 < 1000; decide), ?_⟩
    have hlen : p + 1 + n.toNat ≤ ns.length := by
      have := congrArg List.length e2
      rw [List.length_drop] at this
      first | lia | omega
    have hput : upd H1 x (.ins cL dx1 (putF "at" (.int (((p + 1 : Nat) : Int) + n)) (lnF a ((p + 1 : Nat) : Int)))) x = some (.ins cL dx1 (lnF a ((p + 1 + n.toNat : Nat) : Int))) := by
      rw [upd_same, lnF_put]
      congr 3
      first | lia | omega
    have b2 : But x H (upd H1 x (.ins cL dx1 (putF "at" (.int (((p + 1 : Nat) : Int) + n)) (lnF a ((p + 1 : Nat) : Int))))) := b1.upd
    refine ⟨_, rfl, x, cL, dx1, _, _, rfl, hput, T.cl, T.nCalls, lnF_calls _ _, _, rfl, _, rfl, _, rfl, x, cL, dx1, _, _, rfl, hput, T.cl, T.nAt, lnF_at _ _, _, rfl, ?_⟩
    refine ⟨a, _, rfl, (hs.but b2 ⟨_, _, _, hx⟩).sq, fun D hD => ?_⟩
    have hDx : D ≠ x := Ne.symm (ne_of_none hput hD)
    have hDn : H D = none := by
      cases q : H D with
      | none => rfl
      | some o =>
        rw [b2 D o q hDx] at hD
        cases hD
    refine k _ D (p + 1 + n.toNat) ⟨dx1, ?_⟩ (b2.new hD) hDn ?_ ?_ hlen
    · rw [upd_ne (Ne.symm hDx)]
      exact hput
    · rw [upd_same, cut_ints hlen, e2]
    · rw [← List.drop_drop, e2]
end
end TB

set_option Elab.async false
set_option linter.all false
set_option maxRecDepth 100000
set_option maxHeartbeats 4000000
namespace TB
open PySem PySem.Spec PyProof.Rows L2
theorem pair_snoc {α β : Type} {R : α → β → Prop} : ∀ {l : List α} {m : List β} {a : α} {b : β}, Paired R l m → R a b → Paired R (l ++ [a]) (m ++ [b]) := by
  intro l m a b hp h'
  induction hp with
  | nil => exact .cons h' .nil
  | cons h t ih => exact .cons h ih
section
variable {P : Program} {w : World} {K : PySem.W.Frag} {mg : Str → Option Value} {base : Heap} {cT cL : Addr}
noncomputable def spTakeLists (K : PySem.W.Frag) (cL : Addr) : Sp := fun vs H Q _ => ∃ (x a : Addr) (p : Nat) (ns : List Int) (z : Int) (r t : List Int) (xs : List (List Int)), vs = [.ref x] ∧ LnAt cL H x a p ∧ Scr K H a ns ∧ ns.drop p = z :: r ∧ 0 ≤ z ∧ z ≤ 1000 ∧ PyFlat.rows z.toNat r = some (xs, t) ∧
  ∀ H' D cs p', LnAt cL H' x a p' → But x H H' → H D = none → H' D = some (.lst (cs.map V.ref)) → ListsAt H' cs xs → ns.drop p' = t → p' ≤ ns.length → Q (.ref D) H'
theorem scTakeLists : FnScope ["self", "lists", "taken"] ["self"] (defScope sTakeLists) := ⟨rfl, rfl, rfl, by decide +kernel, rfl, by decide +kernel, by decide +kernel⟩
theorem ok_take_lists {f : Addr} {fd : FuncData} (F : Fun K "take_lists" "Line.take_lists" sTakeLists f fd) (T : TxtL K cL) (T0 : Txt K mg cT) (mN : CalM P w K mg base cL "take_number" 1 ["self"] (spTakeNumber K cL)) (mL : CalM P w K mg base cL "take_list" 2 ["self"] (spTakeList K cL)) :
    FnOk P w K mg base CX0 3 f fd ["self"] (spTakeLists K cL) := by
  refine F.ok scTakeLists (fun vs H Q E h => ?_) (fun cdv A outer s H vs Q E hr h => ?_)
  · obtain ⟨x, a, p, ns, z, r, t, xs, rfl, _⟩ := h
    rfl
  · obtain ⟨x, a, p, ns, z, r, t, xs, rfl, hln, hs, hd, hz0, hz1, hrows, k⟩ := h
    have hr1 : Room 1 _ := hr.mono (by decide)
    obtain ⟨e1, e2, e3⟩ := drop_cons hd
    obtain ⟨dx, hx⟩ := id hln
    refine ⟨_, pss_cons (ps_set (i := 1) scTakeLists.nd rfl (Or.inl rfl) (pe_lst pa_nil))
      (pss_cons (ps_for PassesOwn.never rfl (pi_range1 (by rfl) T0.range (pa_cons (pe_calm0 (pv 0) T.cl mN hr1) pa_nil)) (pg_name (i := 2) scTakeLists.nd rfl (Or.inl rfl))
        (pss_one (ps_expr (pe_bm PySem.F.plainAttrs_list PySem.F.slot_list_append PySem.F.type_list_append mt_append (pv 1) (pa_cons (pe_calm0 (pv 0) T.cl mL hr) pa_nil)))))
      (pss_one (ps_ret (pv 1)))), ?_⟩
    refine ⟨Nat.zero_le _, fun D hD => ?_⟩
    have s0 : Same H (upd H D (.lst [])) := Same.new' hD
    refine ⟨_, rfl, x, dx, _, rfl, s0 _ _ hx, lnF_no _ _ (by decide +kernel) (by decide +kernel), x, a, p, ns, z, rfl, ⟨dx, s0 _ _ hx⟩, hs.same s0, e1, fun H1 ln1 b1 => ?_⟩
    have hDx : D ≠ x := Ne.symm (ne_of_none hx hD)
    have b01 : But x H H1 := (But.of s0).trans b1
    refine ⟨z, rfl, (by first | lia | omega), (by first | lia | omega), for_range (lo := 0) (n := z.toNat) (fun i σ H' => ∃ v2 p' cs, σ = [some (.ref x), some (.ref D), v2] ∧ LnAt cL H' x a p' ∧ But x H H' ∧ H' D = some (.lst (cs.map V.ref)) ∧ Paired (fun c (l : List Int) => c ≠ D ∧ H' c = some (.lst (l.map V.int))) cs (xs.take i) ∧ PyFlat.rows (z.toNat - i) (ns.drop p') = some (xs.drop i, t) ∧ p' ≤ ns.length) ?_ ?_ ?_⟩
    · exact ⟨none, p + 1, [], rfl, ln1, b01, b1 _ _ upd_same hDx, .nil, by rw [e2]; exact hrows, e3⟩
    · rintro i σ H' hi ⟨v2, p', cs, rfl, ln, b, hd', hc, hrw, hp'⟩
      obtain ⟨dx', hx'⟩ := id ln
      obtain ⟨m, em⟩ : ∃ m, z.toNat - i = m + 1 := ⟨z.toNat - i - 1, by first | lia | omega⟩
      rw [em] at hrw
      obtain ⟨l, s1, xs', h1, h2, h3⟩ := rows_read hrw
      have hxi : xs[i]? = some l := by
        have := congrArg (fun q => q[0]?) h3
        rw [List.getElem?_drop] at this
        simpa using this
      refine ⟨_, rfl, .inl ⟨rfl, _, SqL.of hd'⟩, _, rfl, x, dx', _, rfl, hx', lnF_no _ _ (by decide +kernel) (by decide +kernel), x, a, p', ns, l, s1, rfl, ln, hs.but b ⟨_, _, _, hx⟩, h1, fun H2 D2 p2 ln2 b2 hn2 hd2 hdr hp2 => ?_⟩
      refine ⟨D, _, _, rfl, rfl, b2 _ _ hd' hDx, ?_, ?_⟩
      · rw [List.length_map]
        have hcl : cs.length = (xs.take i).length := Paired.length hc
        rw [hcl, List.length_take]
        exact small1000 (by first | lia | omega)
      · have hDn : H D = none := hD
        have hlx : ∀ o, H2 x = some o → L2.upd H2 D (.lst (cs.map V.ref ++ [.ref D2])) x = some o := fun o z => by
          rw [upd_ne (Ne.symm hDx)]
          exact z
        have hDD2 : D2 ≠ D := Ne.symm (ne_of_none hd' hn2)
        refine ⟨_, p2, cs ++ [D2], rfl, ?_, ?_, ?_, ?_, ?_, hp2⟩
        · obtain ⟨dx2, hx2⟩ := ln2
          exact ⟨dx2, hlx _ hx2⟩
        · intro c o hc0 hne
          rw [upd_ne (ne_of_none hc0 hDn)]
          exact (b.trans b2) c o hc0 hne
        · rw [upd_same, List.map_append]
          rfl
        · rw [take_snoc hxi]
          refine pair_snoc (Paired.mapP hc fun c l' z => ⟨z.1, ?_⟩) ⟨hDD2, by rw [upd_ne hDD2]; exact hd2⟩
          rw [upd_ne z.1]
          exact b2 _ _ z.2 (ne_of z.2 hx' (fun z => nomatch z))
        · rw [hdr, show z.toNat - (i + 1) = m by first | lia | omega]
          have : xs.drop (i + 1) = xs' := by
            rw [← List.drop_drop, h3]
            rfl
          rw [this]
          exact h2
    · rintro σ H' ⟨v2, p', cs, rfl, ln, b, hd', hc, hrw, hp'⟩
      rw [Nat.sub_self] at hrw
      have hl := rows_len hrows
      rw [← hl, List.take_length] at hc
      rw [PyFlat.rows] at hrw
      injection hrw with hrw
      injection hrw with q1 q2
      exact ⟨_, rfl, k H' D cs p' ln b hD hd' (Paired.mapP hc fun c l z => z.2) q2 hp'⟩
end
end TB

set_option Elab.async false
set_option linter.all false
set_option maxRecDepth 100000
set_option maxHeartbeats 4000000
namespace TB
open PySem PySem.Spec PyProof.Rows L2
noncomputable abbrev cBaskets_ : Stmt := top 58
noncomputable abbrev sBasketsInit : Stmt := inClass cBaskets_ 0
noncomputable abbrev sAnswers : Stmt := top 59
noncomputable def TwS (cT g : Addr) (H : Hp) (a : Addr) (s : Mu45.State) : Prop := ∃ dx w p r u fs rs, TwAt cT H a dx w p r u fs rs s.tower s.up ∧ fs.lookup ("made" : Str) = some (.int (s.made : Int)) ∧ g ≠ w ∧ g ≠ p ∧ g ≠ r
theorem TwS.tw {cT g : Addr} {H : Hp} {a : Addr} {s : Mu45.State} (h : TwS cT g H a s) : Tw cT H a s.tower s.up := by
  obtain ⟨dx, w, p, r, u, fs, rs, T, _⟩ := h
  exact ⟨dx, w, p, r, u, fs, rs, T⟩
noncomputable def bkF (v : V) : List (Str × V) := [("tower", v)]
noncomputable def StAt (cT g : Addr) (H : Hp) (v : V) : Mu45.Abs → Prop
  | none => v = .non
  | some s => ∃ a, v = .ref a ∧ TwS cT g H a s
noncomputable def psL : Array Value := #[rawInt 126, rawInt 33, .str "least_limits.<locals>.<lambda>" 0]
noncomputable def BkAt (Pt cB cT g : Addr) (H : Hp) (y : Addr) (st : Mu45.Abs) : Prop := H Pt = some (.tbl psL) ∧ ∃ dx v, H y = some (.ins cB dx (bkF v)) ∧ StAt cT g H v st
noncomputable def Keep (cB cT : Addr) (H H' : Hp) : Prop := ∀ b o, H b = some o → (∀ dx fs, o ≠ .ins cB dx fs) → (∀ dx fs, o ≠ .ins cT dx fs) → H' b = some o
theorem Keep.of {cB cT : Addr} {H H' : Hp} (s : Same H H') : Keep cB cT H H' := fun b o h _ _ => s b o h
theorem TwAt.but {cT : Addr} {H H' : Hp} {x a dx w p r u : Addr} {fs : List (Str × V)} {rs : List Addr} {t : Mu45.Tower} {up : List Nat} (T : TwAt cT H a dx w p r u fs rs t up) (s : But x H H') {C dx' : Addr} {fs' : List (Str × V)} (hx : H x = some (.ins C dx' fs')) (hC : C ≠ cT) : TwAt cT H' a dx w p r u fs rs t up :=
  { T with
    obj := s _ _ T.obj (ne_of T.obj hx (fun z => hC (by injection z with z1 z2 z3; exact z1.symm)))
    ws := s _ _ T.ws (ne_of T.ws hx (fun z => nomatch z))
    ps := s _ _ T.ps (ne_of T.ps hx (fun z => nomatch z))
    rows := s _ _ T.rows (ne_of T.rows hx (fun z => nomatch z))
    each := Paired.mapP T.each (fun b row h => s _ _ h (ne_of h hx (fun z => nomatch z)))
    above := s _ _ T.above (ne_of T.above hx (fun z => nomatch z)) }
theorem TwS.but {cT g : Addr} {H H' : Hp} {x a : Addr} {st : Mu45.State} (T : TwS cT g H a st) (s : But x H H') {C dx' : Addr} {fs' : List (Str × V)} (hx : H x = some (.ins C dx' fs')) (hC : C ≠ cT) : TwS cT g H' a st := by
  obtain ⟨dx, w, p, r, u, fs, rs, T, q⟩ := T
  exact ⟨dx, w, p, r, u, fs, rs, T.but s hx hC, q⟩
theorem TwS.same {cT g : Addr} {H H' : Hp} {a : Addr} {st : Mu45.State} (T : TwS cT g H a st) (s : Same H H') : TwS cT g H' a st := by
  obtain ⟨dx, w, p, r, u, fs, rs, T, q⟩ := T
  exact ⟨dx, w, p, r, u, fs, rs, T.same s, q⟩
theorem BkAt.but {Pt cB cT g : Addr} {H H' : Hp} {x y : Addr} {st : Mu45.Abs} (B : BkAt Pt cB cT g H y st) (s : But x H H') {C dx' : Addr} {fs' : List (Str × V)} (hx : H x = some (.ins C dx' fs')) (hC : C ≠ cT) (hB : C ≠ cB) : BkAt Pt cB cT g H' y st := by
  obtain ⟨hP, dx, v, h1, h2⟩ := B
  refine ⟨s _ _ hP (ne_of hP hx (fun z => nomatch z)), dx, v, s _ _ h1 (ne_of h1 hx (fun z => hB (by injection z with z1 z2 z3; exact z1.symm))), ?_⟩
  cases st with
  | none => exact h2
  | some st =>
    obtain ⟨a, e, T⟩ := h2
    exact ⟨a, e, T.but s hx hC⟩
theorem BkAt.same {Pt cB cT g : Addr} {H H' : Hp} {y : Addr} {st : Mu45.Abs} (B : BkAt Pt cB cT g H y st) (s : Same H H') : BkAt Pt cB cT g H' y st := by
  obtain ⟨hP, dx, v, h1, h2⟩ := B
  refine ⟨s _ _ hP, dx, v, s _ _ h1, ?_⟩
  cases st with
  | none => exact h2
  | some st =>
    obtain ⟨a, e, T⟩ := h2
    exact ⟨a, e, T.same s⟩
theorem TwAt.put {cT : Addr} {H : Hp} {g a dx w p r u : Addr} {fs : List (Str × V)} {rs : List Addr} {t : Mu45.Tower} {up : List Nat} {o : HO} (T : TwAt cT H a dx w p r u fs rs t up) {xs : List V} (hg : H g = some (.lst xs)) (h1 : g ≠ w) (h2 : g ≠ p) (h3 : g ≠ r) : TwAt cT (upd H g o) a dx w p r u fs rs t up :=
  { T with
    obj := by rw [upd_ne (ne_of T.obj hg (fun z => nomatch z))]; exact T.obj
    ws := by rw [upd_ne (Ne.symm h1)]; exact T.ws
    ps := by rw [upd_ne (Ne.symm h2)]; exact T.ps
    rows := by rw [upd_ne (Ne.symm h3)]; exact T.rows
    each := Paired.mapP T.each (fun b row h => by rw [upd_ne (ne_of h hg (fun z => nomatch z))]; exact h)
    above := by rw [upd_ne (ne_of T.above hg (fun z => nomatch z))]; exact T.above }
theorem BkAt.put {Pt cB cT g : Addr} {H : Hp} {y : Addr} {st : Mu45.Abs} {xs : List V} {o : HO} (B : BkAt Pt cB cT g H y st) (hg : H g = some (.lst xs)) : BkAt Pt cB cT g (upd H g o) y st := by
  obtain ⟨hP, dx, v, h1, h2⟩ := B
  refine ⟨by rw [upd_ne (ne_of hP hg (fun z => nomatch z))]; exact hP, dx, v, by rw [upd_ne (ne_of h1 hg (fun z => nomatch z))]; exact h1, ?_⟩
  cases st with
  | none => exact h2
  | some st =>
    obtain ⟨a, e, dx, w, p, r, u, fs, rs, T, q0, q1, q2, q3⟩ := h2
    exact ⟨a, e, dx, w, p, r, u, fs, rs, T.put hg q1 q2 q3, q0, q1, q2, q3⟩
structure CalC (P : Program) (w : World) (K : PySem.W.Frag) (mg : Str → Option Value) (base : Heap) (x : Str) (C : Addr) (k : Nat) (ps : List Str) (sp : Sp) : Prop where
  ex : ∃ f fd, mg x = some (.ref C) ∧ Mk K C f ∧ Binds K fd ps [] ∧ FnOk P w K mg base CX0 k f fd ps sp
section
variable {X : Cx} {x : Str} {C : Addr} {k : Nat} {ps : List Str} {sp : Sp} {e : Expr} {es : List Expr} {t : TA} {p pos : Pos}
theorem pe_calc (M : CalC X.prog X.w X.K X.mg X.base x C k ps sp) (hr : Room (k + 1) X.A) (hg : Gl X x) (ha : PA X (e :: es) t) (hdb : (x == ("__debug__" : Str)) = false := by decide)
    (he : starEach (e :: es) X.env = (false, eval e X.env) :: starEach es X.env := by rfl) (hpl : (backTo pos (starEach es X.env)).any (·.1) = false := by rfl) : PE X (.Call (.Name x p) (e :: es) [] pos) (tMake C sp [] E0 t) := by
  obtain ⟨f, fd, h1, h2, h3, h4⟩ := M.ex
  exact pe_make h2 h4 hr hg h1 h3 .nil pass0 ha hdb he hpl
theorem pe_calc0 (M : CalC X.prog X.w X.K X.mg X.base x C k ps sp) (hr : Room (k + 1) X.A) (hg : Gl X x) (hdb : (x == ("__debug__" : Str)) = false := by decide) : PE X (.Call (.Name x p) [] [] pos) (tMake C sp [] E0 tNil) := by
  obtain ⟨f, fd, h1, h2, h3, h4⟩ := M.ex
  exact pe_make0 h2 h4 hr hg h1 h3 .nil pass0 hdb
end
structure TxtB (K : PySem.W.Frag) (cB : Addr) : Prop where
  cl : Cls K cB
  nTower : NoAttr K cB "tower"
section
variable {P : Program} {w : World} {K : PySem.W.Frag} {mg : Str → Option Value} {base : Heap} {Pt cT cL cB : Addr}
noncomputable def spBasketsInit (cB : Addr) : Sp := fun vs H Q _ => ∃ (y dx : Addr), vs = [.ref y] ∧ H y = some (.ins cB dx []) ∧ ∀ H' dx', H' y = some (.ins cB dx' (bkF .non)) → But y H H' → Q .non H'
theorem scBasketsInit : FnScope ["self"] ["self"] (defScope sBasketsInit) := ⟨rfl, rfl, rfl, by decide +kernel, rfl, by decide +kernel, by decide +kernel⟩
theorem ok_baskets_init {f : Addr} {fd : FuncData} (F : Fun K "__init__" "Baskets.__init__" sBasketsInit f fd) (T : TxtB K cB) : FnOk P w K mg base CX0 1 f fd ["self"] (spBasketsInit cB) := by
  refine F.ok scBasketsInit (fun vs H Q E h => ?_) (fun cdv A outer s H vs Q E hr h => ?_)
  · obtain ⟨x, dx, rfl, _⟩ := h
    rfl
  · obtain ⟨x, dx, rfl, hx, k⟩ := h
    refine ⟨_, pss_one (ps_fld (pv 0) pe_non rfl), ?_⟩
    refine ⟨_, rfl, x, cB, dx, _, rfl, hx, T.cl, T.nTower, (by show 0 < 1000; decide), ?_⟩
    exact k _ dx upd_same ((But.of (Same.refl H)).upd)
noncomputable def spAnswer (Pt cB cT : Addr) : Sp := fun vs H Q _ => ∃ (y nb lb g : Addr) (st : Mu45.Abs) (place : Int) (nums : List Int) (cs : List Addr) (ls : List (List Int)) (gs : List V), vs = [.ref y, .int place, .ref nb, .ref lb] ∧ H g = some (.lst gs) ∧ BkAt Pt cB cT g H y st ∧
  H nb = some (.lst (nums.map V.int)) ∧ H lb = some (.lst (cs.map V.ref)) ∧ ListsAt H cs ls ∧ Form ((place :: nums) :: ls) ∧
  ∀ H' D, BkAt Pt cB cT g H' y (Mu45Neutral.step st ((place :: nums) :: ls)).1 → Keep cB cT H H' → H D = none → H' D = some (.lst ((Mu45Neutral.step st ((place :: nums) :: ls)).2.map V.int)) → Q (.ref D) H'
noncomputable def spAnswers (Pt : Addr) (K : PySem.W.Frag) : Sp := fun vs H Q _ => ∃ (a : Addr) (ns : List Int), vs = [.ref a] ∧ H Pt = some (.tbl psL) ∧ Scr K H a ns ∧ PyMu45.answers_asked ns = true ∧ (∀ z ∈ ns, 0 ≤ z ∧ z ≤ 400) ∧ ∀ H' p, H' p = some (.lst ((PyMu45.answers ns).map V.int)) → Q (.ref p) H'
theorem scAnswers : FnScope ["calls", "line", "baskets", "given", "place", "numbers", "lists", "told"] ["calls"] (defScope sAnswers) := ⟨rfl, rfl, rfl, by decide +kernel, rfl, by decide +kernel, by decide +kernel⟩
theorem asked_read {ns : List Int} (h : PyMu45.answers_asked ns = true) : ∃ cs, PyWide.calls ns.length ns = some cs ∧ (∀ c ∈ cs, Mu45Neutral.asked1 c = true) ∧ PyMu45.answers ns = PyFlat.told (PyFlat.played Mu45Neutral.step Mu45Neutral.start cs) ∧ (PyMu45.answers ns).length ≤ 10000000 := by
  unfold PyMu45.answers_asked PyMu45.calls at h
  cases e : PyWide.calls ns.length ns with
  | none =>
    rw [e] at h
    cases h
  | some cs =>
    rw [e] at h
    have h' : (PyFlat.atMost 60 cs && Mu45Neutral.asked cs && PyFlat.short 10000000 (PyMu45.answers ns)) = true := h
    rw [Bool.and_eq_true, Bool.and_eq_true] at h'
    refine ⟨cs, rfl, ?_, ?_, of_decide_eq_true h'.2⟩
    · have h2 := h'.1.2
      unfold Mu45Neutral.asked at h2
      rw [Bool.and_eq_true, Bool.and_eq_true, List.all_eq_true] at h2
      exact h2.2.2
    · unfold PyMu45.answers PyMu45.calls
      rw [e]
structure AnsInv (Pt cB cT cL : Addr) (K : PySem.W.Frag) (a x y g : Addr) (ns : List Int) (cs : List (List (List Int))) (σ : L2.St) (H' : Hp) : Prop where
  ex : ∃ (p : Nat) (st : Mu45.Abs) (out : List Int) (fl : Nat) (v4 v5 v6 v7 : Option V), σ = [some (.ref a), some (.ref x), some (.ref y), some (.ref g), v4, v5, v6, v7] ∧ LnAt cL H' x a p ∧ Scr K H' a ns ∧ BkAt Pt cB cT g H' y st ∧ H' g = some (.lst (out.map V.int)) ∧
    PyWide.calls fl (ns.drop p) = some cs ∧ PyMu45.answers ns = out ++ PyFlat.told (PyFlat.played Mu45Neutral.step st cs) ∧ p ≤ ns.length
theorem ok_answers {f : Addr} {fd : FuncData} (F : Fun K "answers" "answers" sAnswers f fd) (T : Txt K mg cT) (TL : TxtL K cL) (TB' : TxtB K cB) (hLT : cL ≠ cT) (hLB : cL ≠ cB)
    (mL : CalC P w K mg base "Line" cL 1 ["self", "calls"] (spLineInit cL)) (mB : CalC P w K mg base "Baskets" cB 1 ["self"] (spBasketsInit cB))
    (mE : CalM P w K mg base cL "at_end" 1 ["self"] (spAtEnd K cL)) (mN : CalM P w K mg base cL "take_number" 1 ["self"] (spTakeNumber K cL)) (mI : CalM P w K mg base cL "take_list" 2 ["self"] (spTakeList K cL)) (mS : CalM P w K mg base cL "take_lists" 3 ["self"] (spTakeLists K cL))
    (mA : CalM P w K mg base cB "answer" 20 ["self", "place", "numbers", "lists"] (spAnswer Pt cB cT)) : FnOk P w K mg base CX0 30 f fd ["calls"] (spAnswers Pt K) := by
  refine F.ok scAnswers (fun vs H Q E h => ?_) (fun cdv A outer s H vs Q E hr h => ?_)
  · obtain ⟨a, ns, rfl, _⟩ := h
    rfl
  · obtain ⟨a, ns, rfl, hPt, hs, hask, hbd, k⟩ := h
    have hr1 : Room 1 _ := hr.mono (by decide)
    have hr2 : Room 2 _ := hr.mono (by decide)
    have hr3 : Room 3 _ := hr.mono (by decide)
    have hr20 : Room 20 _ := hr.mono (by decide)
    refine ⟨_, pss_cons (ps_set (i := 1) scAnswers.nd rfl (Or.inl rfl) (pe_calc mL hr2 (by rfl) (pa_cons (pv 0) pa_nil)))
      (pss_cons (ps_set (i := 2) scAnswers.nd rfl (Or.inl rfl) (pe_calc0 mB hr2 (by rfl)))
      (pss_cons (ps_set (i := 3) scAnswers.nd rfl (Or.inl rfl) (pe_lst pa_nil))
      (pss_cons (ps_while PassesOwn.never (pt_not (pt_val (pe_calm0 (pv 1) TL.cl mE hr1)))
        (pss_cons (ps_set (i := 4) scAnswers.nd rfl (Or.inl rfl) (pe_calm0 (pv 1) TL.cl mN hr1))
        (pss_cons (ps_set (i := 5) scAnswers.nd rfl (Or.inl rfl) (pe_calm0 (pv 1) TL.cl mI hr2))
        (pss_cons (ps_set (i := 6) scAnswers.nd rfl (Or.inl rfl) (pe_calm0 (pv 1) TL.cl mS hr3))
        (pss_cons (ps_set (i := 7) scAnswers.nd rfl (Or.inl rfl) (pe_calm (pv 2) TB'.cl mA hr20 (pa_cons (pv 4) (pa_cons (pv 5) (pa_cons (pv 6) pa_nil)))))
        (pss_cons (ps_expr (pe_bm PySem.F.plainAttrs_list PySem.F.slot_list_append PySem.F.type_list_append mt_append (pv 3) (pa_cons (pe_callB call_len_seq (by rfl) T.len PySem.boot_len (pa_cons (pv 7) pa_nil)) pa_nil)))
        (pss_one (ps_expr (pe_bm PySem.F.plainAttrs_list PySem.F.slot_list_extend PySem.F.type_list_extend mt_extend (pv 3) (pa_cons (pv 7) pa_nil))))))))))
      (pss_one (ps_ret (pv 3)))))), ?_⟩
    obtain ⟨cs0, hcalls, hform, hans, hten⟩ := asked_read hask
    -- line = Line(calls)
    refine ⟨_, rfl, fun x dx nx nd ne => ⟨x, a, dx, rfl, upd_same, fun H1 ln1 b1 => ⟨rfl, ?_⟩⟩⟩
    have s1 : Same H H1 := Same.made nx nd b1
    -- baskets = Baskets()
    refine fun y dy ny ndy ney => ⟨y, dy, rfl, upd_same, fun H2 dy' hy2 b2 => ⟨rfl, ?_⟩⟩
    have s2 : Same H1 H2 := Same.made ny ndy b2
    -- given = []
    refine ⟨Nat.zero_le _, fun g hg => ?_⟩
    have s3 : Same H2 (upd H2 g (.lst [])) := Same.new' hg
    have ln3 : LnAt cL (upd H2 g (.lst [])) x a 0 := by
      obtain ⟨d1, e1⟩ := ln1
      exact ⟨d1, s3 _ _ (s2 _ _ e1)⟩
    refine ⟨fun m σ H' => ∃ cs, m = cs.length ∧ (∀ c ∈ cs, Mu45Neutral.asked1 c = true) ∧ AnsInv Pt cB cT cL K a x y g ns cs σ H',
      ⟨cs0.length, cs0, rfl, hform, ⟨0, none, [], ns.length, none, none, none, none, rfl, ln3, (hs.same (s1.trans s2)).same s3, ⟨s3 _ _ (s2 _ _ (s1 _ _ hPt)), dy', .non, s3 _ _ hy2, rfl⟩, upd_same, hcalls, hans, Nat.zero_le _⟩⟩, ?_⟩
    rintro m σ H' ⟨cs, rfl, hfm, ⟨p, st, out, fl, v4, v5, v6, v7, rfl, ln, sc, bk, hg', hcs, han, hp⟩⟩
    obtain ⟨dx', hx'⟩ := id ln
    refine ⟨_, rfl, x, dx', _, rfl, hx', lnF_no _ _ (by decide +kernel) (by decide +kernel), x, a, p, ns, rfl, ln, sc, fun H4 s4 => ⟨_, rfl, ?_⟩⟩
    refine ite2 (fun hc => ?_) (fun hc => ?_)
    · -- a call
      have hlt : p < ns.length := by
        have : ¬ (ns.length : Int) ≤ (p : Int) := fun z => by
          rw [decide_eq_true z] at hc
          cases hc
        first | lia | omega
      rcases calls_read hcs with ⟨hnil, _⟩ | ⟨fl', c, t, cs', rfl, hne, hcall, hcs', rfl⟩
      · exfalso
        have := congrArg List.length hnil
        rw [List.length_drop, List.length_nil] at this
        first | lia | omega
      obtain ⟨place, r, nums, kz, r2, xs, hdrop, hrow, hk0, hrows, rfl⟩ := call_read hcall
      obtain ⟨e1, e2, e3⟩ := drop_cons hdrop
      refine ⟨fun σ2 H2 => AnsInv Pt cB cT cL K a x y g ns cs' σ2 H2, ?_, ?_⟩
      · intro σ2 H2 q
        exact ⟨cs'.length, Nat.lt_succ_self _, cs', rfl, fun c hc => hfm c (List.mem_cons_of_mem _ hc), q⟩
      · -- place = line.take_number()
        refine ⟨_, rfl, x, dx', _, rfl, s4 _ _ hx', lnF_no _ _ (by decide +kernel) (by decide +kernel), x, a, p, ns, place, rfl, ⟨dx', s4 _ _ hx'⟩, sc.same s4, e1, fun H5 ln5 b5 => ?_⟩
        have hx4 := s4 _ _ hx'
        have sc5 : Scr K H5 a ns := (sc.same s4).but b5 ⟨_, _, _, hx4⟩
        have bk5 : BkAt Pt cB cT g H5 y st := (bk.same s4).but b5 hx4 hLT hLB
        have hg5 : H5 g = some (.lst (out.map V.int)) := b5 _ _ (s4 _ _ hg') (ne_of hg' hx' (fun z => nomatch z))
        obtain ⟨dx5, hx5⟩ := id ln5
        -- numbers = line.take_list()
        refine ⟨_, rfl, x, dx5, _, rfl, hx5, lnF_no _ _ (by decide +kernel) (by decide +kernel), x, a, p + 1, ns, nums, kz :: r2, rfl, ln5, sc5, by rw [e2]; exact hrow, fun H6 nb p6 ln6 b6 hnb hnb6 hdr6 hp6 => ?_⟩
        have sc6 : Scr K H6 a ns := sc5.but b6 ⟨_, _, _, hx5⟩
        have bk6 : BkAt Pt cB cT g H6 y st := bk5.but b6 hx5 hLT hLB
        have hg6 : H6 g = some (.lst (out.map V.int)) := b6 _ _ hg5 (ne_of hg5 hx5 (fun z => nomatch z))
        obtain ⟨dx6, hx6⟩ := id ln6
        have hkm : kz ∈ ns := by
          obtain ⟨z1, _, _⟩ := drop_cons hdr6
          exact List.mem_of_getElem? z1
        -- lists = line.take_lists()
        refine ⟨_, rfl, x, dx6, _, rfl, hx6, lnF_no _ _ (by decide +kernel) (by decide +kernel), x, a, p6, ns, kz, r2, t, xs, rfl, ln6, sc6, hdr6, hk0, (by have := (hbd kz hkm).2; first | lia | omega), hrows, fun H7 lb es p7 ln7 b7 hlb hlb7 hes hdr7 hp7 => ?_⟩
        have sc7 : Scr K H7 a ns := sc6.but b7 ⟨_, _, _, hx6⟩
        have bk7 : BkAt Pt cB cT g H7 y st := bk6.but b7 hx6 hLT hLB
        have hg7 : H7 g = some (.lst (out.map V.int)) := b7 _ _ hg6 (ne_of hg6 hx6 (fun z => nomatch z))
        have hnb7 : H7 nb = some (.lst (nums.map V.int)) := b7 _ _ hnb6 (ne_of hnb6 hx6 (fun z => nomatch z))
        obtain ⟨dx7, hx7⟩ := id ln7
        -- told = baskets.answer(place, numbers, lists)
        obtain ⟨_, dy7, vy7, hy7, st7⟩ := id bk7
        refine ⟨_, rfl, y, dy7, _, rfl, hy7, ?_, _, rfl, _, rfl, _, rfl, y, nb, lb, g, st, place, nums, es, xs, _, rfl, hg7, bk7, hnb7, hlb7, hes, form_of (hfm _ (List.mem_cons_self ..)), fun H8 D bk8 kp8 hD hD8 => ?_⟩
        · unfold bkF
          rw [List.lookup_cons, show (("answer" : Str) == ("tower" : Str)) = false by decide +kernel]
          rfl
        have kins : ∀ dx fs, HO.ins cL dx7 (lnF a (p7 : Int)) ≠ .ins cB dx fs := fun dx fs z => hLB (by injection z)
        have kint : ∀ dx fs, HO.ins cL dx7 (lnF a (p7 : Int)) ≠ .ins cT dx fs := fun dx fs z => hLT (by injection z)
        have hx8 := kp8 _ _ hx7 kins kint
        have hg8 : H8 g = some (.lst (out.map V.int)) := kp8 _ _ hg7 (fun dx fs z => nomatch z) (fun dx fs z => nomatch z)
        have hgD : g ≠ D := ne_of_none hg7 hD
        have sc8 : Scr K H8 a ns := by
          rcases sc7 with ⟨o, z⟩ | z
          · exact .inl ⟨o, kp8 _ _ z (fun dx fs z => nomatch z) (fun dx fs z => nomatch z)⟩
          · exact .inr z
        rw [played_cons] at han
        have hlen8 := congrArg List.length han
        rw [List.length_append, List.length_append, List.length_cons] at hlen8
        -- given.append(len(told))
        refine ⟨_, rfl, .inl ⟨rfl, _, SqL.of hg8⟩, _, rfl, D, _, rfl, .inl (SqL.of hD8), g, _, _, rfl, rfl, hg8, ?_, ?_⟩
        · rw [List.length_map, sizeLine_eq]
          first | lia | omega
        -- given.extend(told)
        have hD9 : upd H8 g (.lst (out.map V.int ++ [.int (((Mu45Neutral.step st ((place :: nums) :: xs)).2.map V.int).length : Nat)])) D = some (.lst ((Mu45Neutral.step st ((place :: nums) :: xs)).2.map V.int)) := by
          rw [upd_ne (Ne.symm hgD)]
          exact hD8
        refine ⟨_, rfl, .inl ⟨rfl, _, SqL.of upd_same⟩, _, rfl, g, D, _, _, rfl, rfl, upd_same, hD9, ?_, ?_⟩
        · rw [List.length_append, List.length_map, List.length_map, sizeLine_eq]
          simp
          first | lia | omega
        have bk9 : BkAt Pt cB cT g (upd H8 g (.lst (out.map V.int ++ [.int (((Mu45Neutral.step st ((place :: nums) :: xs)).2.map V.int).length : Nat)]))) y (Mu45Neutral.step st ((place :: nums) :: xs)).1 := bk8.put hg8
        rw [upd_upd]
        have bk10 : BkAt Pt cB cT g (upd H8 g (.lst (out.map V.int ++ [.int (((Mu45Neutral.step st ((place :: nums) :: xs)).2.map V.int).length : Nat)] ++ (Mu45Neutral.step st ((place :: nums) :: xs)).2.map V.int))) y (Mu45Neutral.step st ((place :: nums) :: xs)).1 := bk8.put hg8
        refine ⟨⟨p7, (Mu45Neutral.step st ((place :: nums) :: xs)).1, out ++ (((Mu45Neutral.step st ((place :: nums) :: xs)).2.length : Int) :: (Mu45Neutral.step st ((place :: nums) :: xs)).2), fl', _, _, _, _, rfl, ⟨dx7, ?_⟩, ?_, bk10, ?_, ?_, ?_, hp7⟩⟩
        · rw [upd_ne (ne_of hx8 hg8 (fun z => nomatch z))]
          exact hx8
        · rcases sc8 with ⟨o, z⟩ | z
          · exact .inl ⟨o, by rw [upd_ne (ne_of z hg8 (fun z => nomatch z))]; exact z⟩
          · exact .inr z
        · rw [upd_same, List.map_append, List.map_cons, List.length_map]
          simp
        · rw [hdr7]
          exact hcs'
        · rw [List.append_assoc]
          exact han
    · -- the end
      have hle : ns.length ≤ p := by
        have : (ns.length : Int) ≤ (p : Int) := by
          by_cases z : (ns.length : Int) ≤ (p : Int)
          · exact z
          · exfalso
            apply hc
            rw [decide_eq_false z]
            rfl
        first | lia | omega
      rw [List.drop_eq_nil_of_le hle] at hcs
      have e : cs = [] := by
        rcases calls_read hcs with ⟨_, z⟩ | ⟨_, _, _, _, _, z, _⟩
        · exact z
        · exact absurd rfl z
      subst e
      have e2 : PyMu45.answers ns = out := by
        rw [han]
        simp [PyFlat.played, PyFlat.told]
      refine ⟨_, rfl, k H4 g ?_⟩
      rw [e2]
      exact s4 _ _ hg'
end
end TB

set_option Elab.async false
set_option linter.all false
set_option maxRecDepth 100000
set_option maxHeartbeats 4000000
namespace TB
open PySem PySem.Spec PyProof.Rows L2
noncomputable abbrev cTower_ : Stmt := top 24
noncomputable abbrev sTowerInit : Stmt := inClass cTower_ 0
noncomputable def toThing (x : List Int) : Mu45.Thing := ⟨(x.getD 0 0).toNat, (x.getD 1 0).toNat == 1⟩
theorem thingOf_good {x : List Int} (h : goodThing x = true) : Mu45.thingOf (Mu45Neutral.nats x) = some (toThing x) := by
  match x, h with
  | [a, b], h =>
    have h' : ((decide (1 ≤ a) && decide (a ≤ 300)) && (b == 0 || b == 1)) = true := h
    rw [Bool.and_eq_true, Bool.and_eq_true, decide_eq_true_iff, decide_eq_true_iff, Bool.or_eq_true, beq_iff_eq, beq_iff_eq] at h'
    show (if 1 ≤ a.toNat ∧ (a.toNat ≤ 300 ∧ b.toNat < 2) then some (Mu45.Thing.mk a.toNat (b.toNat == 1)) else none) = _
    rw [if_pos (by first | lia | omega)]
    rfl
theorem things_good : ∀ {l : List (List Int)}, l.all goodThing = true → (l.map Mu45Neutral.nats).filterMap Mu45.thingOf = l.map toThing
  | [], _ => rfl
  | x :: l, h => by
    rw [List.all_cons, Bool.and_eq_true] at h
    rw [List.map_cons, List.filterMap_cons, thingOf_good h.1, things_good h.2]
    rfl
noncomputable def newTower (d k : Int) (l : List (List Int)) : Mu45.Tower := ⟨d.toNat, k.toNat, l.map toThing⟩
theorem good_two {x : List Int} (h : goodThing x = true) : ∃ a b : Int, x = [a, b] ∧ 1 ≤ a ∧ (b = 0 ∨ b = 1) := by
  match x, h with
  | [a, b], h =>
    have h' : ((decide (1 ≤ a) && decide (a ≤ 300)) && (b == 0 || b == 1)) = true := h
    rw [Bool.and_eq_true, Bool.and_eq_true, decide_eq_true_iff, decide_eq_true_iff, Bool.or_eq_true, beq_iff_eq, beq_iff_eq] at h'
    exact ⟨a, b, rfl, h'.1.1, h'.2⟩
theorem new_weights {l : List (List Int)} (h : l.all goodThing = true) : l.map (fun x => V.int (x.getD 0 0)) = (l.map toThing).map fun x => V.int (x.heavy : Int) := by
  rw [List.map_map]
  refine List.map_congr_left fun x hx => ?_
  obtain ⟨a, b, rfl, h1, _⟩ := good_two (List.all_eq_true.mp h x hx)
  show V.int a = V.int ((a.toNat : Nat) : Int)
  congr 1
  first | lia | omega
theorem new_people {d k : Int} {l : List (List Int)} (h : l.all goodThing = true) {i : Nat} {x : List Int} (hx : l[i]? = some x) : pAt (newTower d k l) i = decide (V.int (x.getD 1 0) = V.int 1) := by
  unfold pAt newTower
  rw [List.getElem?_map, hx]
  obtain ⟨a, b, rfl, _, h2⟩ := good_two (List.all_eq_true.mp h x (List.mem_of_getElem? hx))
  show (b.toNat == 1) = decide (V.int b = V.int 1)
  rw [dec_int, Bool.eq_iff_iff, beq_iff_eq, beq_iff_eq]
  first | lia | omega
section
variable {P : Program} {w : World} {K : PySem.W.Frag} {mg : Str → Option Value} {base : Heap} {cT cL cB : Addr}
noncomputable def spTowerInit (cT : Addr) : Sp := fun vs H Q _ => ∃ (a dx b : Addr) (d k : Int) (bs : List Addr) (l : List (List Int)), vs = [.ref a, .int d, .int k, .ref b] ∧ H a = some (.ins cT dx []) ∧ H b = some (.lst (bs.map V.ref)) ∧ ListsAt H bs l ∧ l.all goodThing = true ∧ l.length ≤ 5 ∧ 0 ≤ d ∧ 0 ≤ k ∧
  ∀ H' dx' w p r u fs rs, TwAt cT H' a dx' w p r u fs rs (newTower d k l) (List.range l.length) → fs.lookup ("made" : Str) = some (.int 0) → H w = none → H p = none → H r = none → But a H H' → Q .non H'
theorem scTowerInit : FnScope ["self", "limit", "holds", "things", "thing", "number"] ["self", "limit", "holds", "things"] (defScope sTowerInit) := ⟨rfl, rfl, rfl, by decide +kernel, rfl, by decide +kernel, by decide +kernel⟩
theorem putF_le {f : Str} {v : V} {fs : List (Str × V)} {n : Nat} (h : fs.length ≤ n) : (putF f v fs).length ≤ n + 1 := Nat.le_trans (length_putF f v fs) (Nat.succ_le_succ h)
theorem But.free {x b : Addr} {H H' : Hp} (s : But x H H') (n : H' b = none) (hb : b ≠ x) : H b = none := by
  cases q : H b with
  | none => rfl
  | some o =>
    rw [s b o q hb] at n
    cases n
theorem ok_tower_init {f : Addr} {fd : FuncData} (F : Fun K "__init__" "Tower.__init__" sTowerInit f fd) (T : Txt K mg cT) (cR : Cal P w K mg base "rows_of" 2 ["count"] (spRowsOf K)) : FnOk P w K mg base CX0 3 f fd ["self", "limit", "holds", "things"] (spTowerInit cT) := by
  refine F.ok scTowerInit (fun vs H Q E h => ?_) (fun cdv A outer s H vs Q E hr h => ?_)
  · obtain ⟨a, dx, b, d, k, bs, l, rfl, _⟩ := h
    rfl
  · obtain ⟨a, dx, b, d, k, bs, l, rfl, ha, hb, hl, hgood, hfive, hd0, hk0, kk⟩ := h
    refine ⟨_, pss_cons (ps_fld (pv 0) (pv 1) rfl) (pss_cons (ps_fld (pv 0) (pv 2) rfl)
      (pss_cons (ps_fld (pv 0) (pe_lc (own := [("thing", 4)]) (te := tOp (rIxL K) (tVar 4) (tC (.int 0))) rfl scTowerInit.nd (pi_list (pv 3)) (blkOk_by (by kernel_rfl))
        (by exact fun _ _ _ _ _ => pg_name (i := 4) scTowerInit.nd rfl (Or.inl rfl)) (by exact fun _ _ _ _ _ => pts_nil) (by exact fun _ _ _ _ _ => pe_ix ix_list (pv 4) pe_int (fun _ _ => rfl))) rfl)
      (pss_cons (ps_fld (pv 0) (pe_lc (own := [("number", 5)]) (tt := tTest (tOp rEq (tOp (rIxL K) (tOp (rIxL K) (tVar 3) (tVar 5)) (tC (.int 1))) (tC (.int 1)))) rfl scTowerInit.nd (pi_range1 (by rfl) T.range (pa_cons (pe_callB call_len_seq (by rfl) T.len PySem.boot_len (pa_cons (pv 3) pa_nil)) pa_nil)) (blkOk_by (by kernel_rfl))
        (by exact fun _ _ _ _ _ => pg_name (i := 5) scTowerInit.nd rfl (Or.inl rfl)) (by exact fun _ _ _ _ _ => pts_one (pt_cmpR op_eq (pe_ix ix_list (pe_ix ix_list (pv 3) (pv 5) (fun _ _ => rfl)) pe_int (fun _ _ => rfl)) (pe_num T.gPERSON) (nomark _))) (by exact fun _ _ _ _ _ => pv 5)) rfl)
      (pss_cons (ps_fld (pv 0) (pe_cal cR hr (by rfl) (pa_cons (pe_callB call_len_seq (by rfl) T.len PySem.boot_len (pa_cons (pv 3) pa_nil)) pa_nil)) rfl)
      (pss_cons (ps_fld (pv 0) (pe_callTy (cr_tuple_range rfl) (by rfl) T.tuple PyProof.Rows.boot_tuple (pa_cons (pe_callTy cr_range1 (by rfl) T.range boot_range (pa_cons (pe_callB call_len_seq (by rfl) T.len PySem.boot_len (pa_cons (pv 3) pa_nil)) pa_nil)) pa_nil)) rfl) (pss_one (ps_fld (pv 0) pe_int rfl))))))), ?_⟩
    have lenb : (bs.map V.ref).length = l.length := by rw [List.length_map]; exact Paired.length hl
    have nab : b ≠ a := ne_of hb ha (fun z => nomatch z)
    have naL : ∀ c (x : List Int), H c = some (.lst (x.map V.int)) → c ≠ a := fun c x h => ne_of h ha (fun z => nomatch z)
    -- self.limit, self.holds
    refine ⟨_, rfl, _, rfl, a, cT, dx, _, rfl, ha, T.clT, T.nLimit, (by show 0 < 1000; decide), ?_⟩
    refine ⟨_, rfl, _, rfl, a, cT, dx, _, rfl, upd_same, T.clT, T.nHolds, (by show 1 < 1000; decide), ?_⟩
    rw [upd_upd]
    have n2 : (putF "holds" (V.int k) (putF "limit" (V.int d) [])).length ≤ 2 := putF_le (putF_le (n := 0) (Nat.le_refl _))
    generalize hf2 : putF "holds" (V.int k) (putF "limit" (V.int d) []) = f2 at n2
    have b2 : But a H (upd H a (.ins cT dx f2)) := (But.of (Same.refl H)).upd
    have hl2 : ListsAt (upd H a (.ins cT dx f2)) bs l := Paired.mapP hl fun c x z => b2 _ _ z (naL c x z)
    -- self.weights
    refine ⟨_, rfl, b, rfl, ⟨_, SqL.of (b2 _ _ hb nab)⟩, fun W hW => lc_fmL (mapL (upd H a (.ins cT dx f2)) fun x => .int (x.getD 0 0)) (SqL.of (b2 _ _ hb nab)) hW ?_ ?_ ?_⟩
    · rw [lenb]
      exact small1000 (by first | lia | omega)
    · intro x hx H' acc Y N sm hd hY hN
      obtain ⟨c, hc, rfl⟩ := List.mem_map.mp hx
      obtain ⟨i, hi⟩ := List.getElem?_of_mem hc
      obtain ⟨x, hxi, ec⟩ := paired_get hl2 hi
      obtain ⟨p1, p2, rfl, _, _⟩ := good_two (List.all_eq_true.mp hgood x (List.mem_of_getElem? hxi))
      refine ⟨rfl, _, rfl, c, _, 0, .int p1, rfl, rfl, SqL.of (sm _ _ ec), rfl, hY _ _ ?_ sm hd⟩
      show some (V.int ((atL _ c).getD 0 0)) = _
      rw [atL_eq ec]
      rfl
    intro H3 s3 hd3
    rw [mapL_fm hl2, new_weights hgood] at hd3
    have b3 : But a H H3 := b2.trans (But.of s3)
    have ha3 : H3 a = some (.ins cT dx f2) := s3 _ _ upd_same
    have hWn : H W = none := b2.free hW (Ne.symm (ne_of_none upd_same hW))
    have hWa : W ≠ a := Ne.symm (ne_of_none upd_same hW)
    refine ⟨_, rfl, a, cT, dx, _, rfl, ha3, T.clT, T.nWeights, (by first | lia | omega), ?_⟩
    have n3 : (putF "weights" (V.ref W) f2).length ≤ 3 := putF_le n2
    generalize hf3 : putF "weights" (V.ref W) f2 = f3 at n3
    have b4 : But a H (upd H3 a (.ins cT dx f3)) := b3.upd
    have hW4 : upd H3 a (.ins cT dx f3) W = some (.lst ((l.map toThing).map fun x => V.int (x.heavy : Int))) := by
      rw [upd_ne hWa]
      exact hd3
    have hl4 : ListsAt (upd H3 a (.ins cT dx f3)) bs l := Paired.mapP hl fun c x z => b4 _ _ z (naL c x z)
    have hb4 := b4 _ _ hb nab
    -- self.people
    refine ⟨_, rfl, b, _, rfl, .inl (SqL.of hb4), (l.length : Int), by rw [lenb], (by first | lia | omega), (by first | lia | omega), fun M hM => ?_⟩
    rw [Int.toNat_natCast]
    refine lc_fmR (keepIn fun i => pAt (newTower d k l) i) hM (small1000 (by first | lia | omega)) ?_ ?_
    · intro i hi H' acc Y N sm hd hY hN
      rw [Int.zero_add] at hY hN ⊢
      obtain ⟨x, hxi⟩ : ∃ x, l[i]? = some x := ⟨_, List.getElem?_eq_getElem hi⟩
      obtain ⟨c, hc⟩ : ∃ c, bs[i]? = some c := by
        rw [List.length_map] at lenb
        exact ⟨_, List.getElem?_eq_getElem (by first | lia | omega)⟩
      obtain ⟨x', hx', ec⟩ := paired_get hl4 hc
      obtain rfl : x' = x := by
        rw [hxi] at hx'
        exact (Option.some.inj hx').symm
      obtain ⟨p1, p2, rfl, _, _⟩ := good_two (List.all_eq_true.mp hgood x' (List.mem_of_getElem? hxi))
      have hp := new_people (d := d) (k := k) hgood hxi
      refine ⟨rfl, _, rfl, _, rfl, b, _, (i : Int), .ref c, rfl, rfl, SqL.of (sm _ _ hb4), atI_nat (by rw [List.getElem?_map, hc]; rfl), c, _, 1, .int p2, rfl, rfl, SqL.of (sm _ _ ec), rfl, rfl, _, rfl, ?_⟩
      refine ite2 (fun hcc => ⟨_, rfl, hY _ _ ?_ sm hd⟩) (fun hcc => hN _ ?_ sm hd)
      · rw [keepIn_int]
        exact if_pos (by rw [hp]; exact hcc)
      · rw [keepIn_int]
        exact if_neg (by rw [hp]; exact hcc)
    intro H5 s5 hd5
    rw [show ((List.range l.length).map fun (i : Nat) => V.int (i : Int)) = zv (List.range l.length) from rfl, zv_fm_filter (keepIn_int _)] at hd5
    have hpp : (List.range l.length).filter (fun i => pAt (newTower d k l) i) = pplOf (newTower d k l) := by
      unfold pplOf
      rw [show (newTower d k l).things.length = l.length from List.length_map ..]
    rw [hpp] at hd5
    have b5 : But a H H5 := b4.trans (But.of s5)
    have ha5 : H5 a = some (.ins cT dx f3) := s5 _ _ upd_same
    have hMa : M ≠ a := Ne.symm (ne_of_none upd_same hM)
    have hMn : H M = none := b4.free hM hMa
    refine ⟨_, rfl, a, cT, dx, _, rfl, ha5, T.clT, T.nPeople, (by first | lia | omega), ?_⟩
    have n4 : (putF "people" (V.ref M) f3).length ≤ 4 := putF_le n3
    generalize hf4 : putF "people" (V.ref M) f3 = f4 at n4
    have b6 : But a H (upd H5 a (.ins cT dx f4)) := b5.upd
    have hW6 : upd H5 a (.ins cT dx f4) W = some (.lst ((l.map toThing).map fun x => V.int (x.heavy : Int))) := by
      rw [upd_ne hWa]
      exact s5 _ _ hW4
    have hM6 : upd H5 a (.ins cT dx f4) M = some (.lst (zv (pplOf (newTower d k l)))) := by
      rw [upd_ne hMa]
      exact hd5
    have hb6 := b6 _ _ hb nab
    -- self.rows
    refine ⟨_, rfl, b, _, rfl, .inl (SqL.of hb6), l.length, by rw [lenb]; rfl, hfive, fun H7 R rs s7 hRn hR hrs => ?_⟩
    have b7 : But a H H7 := b6.trans (But.of s7)
    have ha7 : H7 a = some (.ins cT dx f4) := s7 _ _ upd_same
    have hRa : R ≠ a := Ne.symm (ne_of_none upd_same hRn)
    have hRH : H R = none := b6.free hRn hRa
    refine ⟨_, rfl, a, cT, dx, _, rfl, ha7, T.clT, T.nRows, (by first | lia | omega), ?_⟩
    have n5 : (putF "rows" (V.ref R) f4).length ≤ 5 := putF_le n4
    generalize hf5 : putF "rows" (V.ref R) f4 = f5 at n5
    have b8 : But a H (upd H7 a (.ins cT dx f5)) := b7.upd
    have hb8 := b8 _ _ hb nab
    -- self.above
    refine ⟨_, rfl, b, _, rfl, .inl (SqL.of hb8), (l.length : Int), by rw [lenb], fun G hG => ?_⟩
    have s9 := Same.new' (H := upd H7 a (.ins cT dx f5)) (a := G) (o := .rng 0 (l.length : Int)) hG
    refine ⟨G, l.length, rfl, upd_same, (by first | lia | omega), fun U hU => ?_⟩
    have s10 := s9.new (o := .tup ((List.range l.length).map fun (i : Nat) => V.int (i : Int))) hU
    have hUa : U ≠ a := Ne.symm (ne_of_none (s9 _ _ upd_same) hU)
    refine ⟨_, rfl, a, cT, dx, _, rfl, s10 _ _ upd_same, T.clT, T.nAbove, (by first | lia | omega), ?_⟩
    have n6 : (putF "above" (V.ref U) f5).length ≤ 6 := putF_le n5
    generalize hf6 : putF "above" (V.ref U) f5 = f6 at n6
    -- self.made
    refine ⟨_, rfl, a, cT, dx, _, rfl, upd_same, T.clT, T.nMade, (by first | lia | omega), ?_⟩
    rw [upd_upd]
    have n7 : (putF "made" (V.int 0) f6).length ≤ 7 := putF_le n6
    have bF : But a H (upd (upd (upd (upd H7 a (.ins cT dx f5)) G (.rng 0 (l.length : Int))) U (.tup ((List.range l.length).map fun (i : Nat) => V.int (i : Int)))) a (.ins cT dx (putF "made" (V.int 0) f6))) := (b8.trans (But.of s10)).upd
    have up7 : ∀ z o, H7 z = some o → z ≠ a → upd (upd (upd (upd H7 a (.ins cT dx f5)) G (.rng 0 (l.length : Int))) U (.tup ((List.range l.length).map fun (i : Nat) => V.int (i : Int)))) a (.ins cT dx (putF "made" (V.int 0) f6)) z = some o := fun z o hz hza => by
      rw [upd_ne hza]
      refine s10 _ _ ?_
      rw [upd_ne hza]
      exact hz
    have hlen : (newTower d k l).things.length = l.length := List.length_map ..
    refine kk _ dx W M R U _ rs ⟨upd_same, by first | lia | omega, ?_, ?_, ?_, ?_, ?_, ?_, up7 _ _ (s7 _ _ hW6) hWa, up7 _ _ (s7 _ _ hM6) hMa, up7 _ _ hR hRa, ?_, ?_, by rw [hlen]; exact hfive, by rw [hlen]; exact List.Sublist.refl _⟩ ?_ hWn hMn hRH bF
    all_goals try subst hf6 hf5 hf4 hf3 hf2
    · repeat (first | rw [lookup_putF, if_pos rfl] | rw [lookup_putF, if_neg (by decide +kernel)])
      show some (V.int d) = some (V.int ((d.toNat : Nat) : Int))
      congr 2
      first | lia | omega
    · repeat (first | rw [lookup_putF, if_pos rfl] | rw [lookup_putF, if_neg (by decide +kernel)])
      show some (V.int k) = some (V.int ((k.toNat : Nat) : Int))
      congr 2
      first | lia | omega
    · repeat (first | rw [lookup_putF, if_pos rfl] | rw [lookup_putF, if_neg (by decide +kernel)])
    · repeat (first | rw [lookup_putF, if_pos rfl] | rw [lookup_putF, if_neg (by decide +kernel)])
    · repeat (first | rw [lookup_putF, if_pos rfl] | rw [lookup_putF, if_neg (by decide +kernel)])
    · repeat (first | rw [lookup_putF, if_pos rfl] | rw [lookup_putF, if_neg (by decide +kernel)])
    · rw [hlen]
      exact Paired.mapP hrs fun z row hz => up7 _ _ hz (ne_of hz ha7 (fun z => nomatch z))
    · rw [upd_ne hUa, upd_same]
      rfl
    · rw [lookup_putF, if_pos rfl]
end
end TB

set_option Elab.async false
set_option linter.all false
set_option maxRecDepth 100000
set_option maxHeartbeats 4000000
namespace TB
open PySem PySem.Spec PyProof.Rows L2
noncomputable abbrev sFewestWay : Stmt := top 38
noncomputable abbrev sMakeTurn : Stmt := top 40
noncomputable abbrev sAnswerTurn : Stmt := top 47
noncomputable abbrev sAnswerWhy : Stmt := top 48
noncomputable abbrev sAnswerTurns : Stmt := top 49
noncomputable abbrev sAnswerFewest : Stmt := top 50
noncomputable abbrev sAnswerTo : Stmt := top 51
theorem putF_len {f : Str} {v x : V} : ∀ {fs : List (Str × V)}, fs.lookup f = some x → (putF f v fs).length = fs.length
  | [], h => by cases h
  | (g, y) :: r, h => by
    show (if g = f then (g, v) :: r else (g, y) :: putF f v r).length = _
    by_cases e : g = f
    · rw [if_pos e]
      rfl
    · rw [if_neg e, List.length_cons, List.length_cons]
      rw [List.lookup_cons, show (f == g) = false from beq_eq_false_iff_ne.mpr (Ne.symm e)] at h
      rw [putF_len h]
theorem TwAt.turn {cT : Addr} {H : Hp} {a dx w p r u c : Addr} {fs : List (Str × V)} {rs : List Addr} {t : Mu45.Tower} {up up' : List Nat} (T : TwAt cT H a dx w p r u fs rs t up) (hc : H c = some (.tup (zv up'))) (hs : up'.Sublist (List.range t.things.length)) :
    TwAt cT (upd H a (.ins cT dx (putF "above" (.ref c) fs))) a dx w p r c (putF "above" (.ref c) fs) rs t up' where
  obj := upd_same
  few := by rw [putF_len T.fAbove]; exact T.few
  fLimit := by rw [lookup_putF, if_neg (by decide +kernel)]; exact T.fLimit
  fHolds := by rw [lookup_putF, if_neg (by decide +kernel)]; exact T.fHolds
  fWeights := by rw [lookup_putF, if_neg (by decide +kernel)]; exact T.fWeights
  fPeople := by rw [lookup_putF, if_neg (by decide +kernel)]; exact T.fPeople
  fRows := by rw [lookup_putF, if_neg (by decide +kernel)]; exact T.fRows
  fAbove := by rw [lookup_putF, if_pos rfl]
  ws := by rw [upd_ne (ne_of T.ws T.obj (fun z => nomatch z))]; exact T.ws
  ps := by rw [upd_ne (ne_of T.ps T.obj (fun z => nomatch z))]; exact T.ps
  rows := by rw [upd_ne (ne_of T.rows T.obj (fun z => nomatch z))]; exact T.rows
  each := Paired.mapP T.each (fun b row h => by rw [upd_ne (ne_of h T.obj (fun z => nomatch z))]; exact h)
  above := by rw [upd_ne (ne_of hc T.obj (fun z => nomatch z))]; exact hc
  five := T.five
  sub := hs
theorem TwAt.count {cT : Addr} {H : Hp} {a dx w p r u : Addr} {fs : List (Str × V)} {rs : List Addr} {t : Mu45.Tower} {up : List Nat} {v x : V} (T : TwAt cT H a dx w p r u fs rs t up) (hm : fs.lookup ("made" : Str) = some x) :
    TwAt cT (upd H a (.ins cT dx (putF "made" v fs))) a dx w p r u (putF "made" v fs) rs t up where
  obj := upd_same
  few := by rw [putF_len hm]; exact T.few
  fLimit := by rw [lookup_putF, if_neg (by decide +kernel)]; exact T.fLimit
  fHolds := by rw [lookup_putF, if_neg (by decide +kernel)]; exact T.fHolds
  fWeights := by rw [lookup_putF, if_neg (by decide +kernel)]; exact T.fWeights
  fPeople := by rw [lookup_putF, if_neg (by decide +kernel)]; exact T.fPeople
  fRows := by rw [lookup_putF, if_neg (by decide +kernel)]; exact T.fRows
  fAbove := by rw [lookup_putF, if_neg (by decide +kernel)]; exact T.fAbove
  ws := by rw [upd_ne (ne_of T.ws T.obj (fun z => nomatch z))]; exact T.ws
  ps := by rw [upd_ne (ne_of T.ps T.obj (fun z => nomatch z))]; exact T.ps
  rows := by rw [upd_ne (ne_of T.rows T.obj (fun z => nomatch z))]; exact T.rows
  each := Paired.mapP T.each (fun b row h => by rw [upd_ne (ne_of h T.obj (fun z => nomatch z))]; exact h)
  above := by rw [upd_ne (ne_of T.above T.obj (fun z => nomatch z))]; exact T.above
  five := T.five
  sub := T.sub
theorem judg_none {t : Mu45.Tower} {up m : List Nat} (h : ¬ okThings t m = true) : judg t up m = -1 ∧ Mu45.someOf t m = none := by
  unfold judg
  rw [if_neg h, someOf_eq, if_neg h]
  exact ⟨rfl, rfl⟩
theorem judg_some {t : Mu45.Tower} {up m : List Nat} (h : okThings t m = true) : judg t up m = Mu45.why t up (pick t m) ∧ Mu45.someOf t m = some (pick t m) := by
  unfold judg
  rw [if_pos h, someOf_eq, if_pos h, ← verd_why, verd_perm (pick_perm h)]
  exact ⟨rfl, rfl⟩
section
variable {P : Program} {w : World} {K : PySem.W.Frag} {mg : Str → Option Value} {base : Heap} {cT cL cB : Addr}
noncomputable def spAnswerWhy (K : PySem.W.Frag) (cT : Addr) : Sp := fun vs H Q _ => ∃ (a b : Addr) (t : Mu45.Tower) (up m : List Nat), vs = [.ref a, .ref b] ∧ Tw cT H a t up ∧ H b = some (.lst (zv m)) ∧ m.length ≤ 100 ∧
  ∀ H' D, Same H H' → H D = none → H' D = some (.lst [.int (judg t up m)]) → Q (.ref D) H'
theorem scAnswerWhy : FnScope ["tower", "things"] ["tower", "things"] (defScope sAnswerWhy) := ⟨rfl, rfl, rfl, by decide +kernel, rfl, by decide +kernel, by decide +kernel⟩
theorem ok_answer_why {f : Addr} {fd : FuncData} (F : Fun K "answer_why" "answer_why" sAnswerWhy f fd) (cJ : Cal P w K mg base "judge" 5 ["tower", "things"] (spJudge K cT)) : FnOk P w K mg base CX0 6 f fd ["tower", "things"] (spAnswerWhy K cT) := by
  refine F.ok scAnswerWhy (fun vs H Q E h => ?_) (fun cdv A outer s H vs Q E hr h => ?_)
  · obtain ⟨a, b, t, up, m, rfl, _⟩ := h
    rfl
  · obtain ⟨a, b, t, up, m, rfl, tw, hb, hn, k⟩ := h
    refine ⟨_, pss_one (ps_ret (pe_lst (pa_cons (pe_cal cJ hr (by rfl) (pa_cons (pv 0) (pa_cons (pv 1) pa_nil))) pa_nil))), ?_⟩
    exact ⟨_, rfl, _, rfl, a, b, t, up, m, rfl, tw, hb, hn, fun H1 s1 => ⟨(by show 1 ≤ sizeLine; decide), fun D hD => k _ D (s1.new hD) (s1.free hD) upd_same⟩⟩
noncomputable def turnS (st : Mu45.State) (go : List Nat) : Mu45.State := { st with up := Mu45.after st.tower st.up go, made := st.made + 1 }
noncomputable def spMakeTurn (K : PySem.W.Frag) (cT : Addr) : Sp := fun vs H Q _ => ∃ (a b g : Addr) (st : Mu45.State) (go : List Nat), vs = [.ref a, .ref b] ∧ TwS cT g H a st ∧ Sq K H b (zv go) ∧ ∀ H', TwS cT g H' a (turnS st go) → But a H H' → Q .non H'
theorem scMakeTurn : FnScope ["tower", "things"] ["tower", "things"] (defScope sMakeTurn) := ⟨rfl, rfl, rfl, by decide +kernel, rfl, by decide +kernel, by decide +kernel⟩
theorem ok_make_turn {f : Addr} {fd : FuncData} (F : Fun K "make_turn" "make_turn" sMakeTurn f fd) (T : Txt K mg cT) (cR : Cal P w K mg base "turned" 1 ["tower", "above", "things"] (spTurned K cT)) : FnOk P w K mg base CX0 2 f fd ["tower", "things"] (spMakeTurn K cT) := by
  refine F.ok scMakeTurn (fun vs H Q E h => ?_) (fun cdv A outer s H vs Q E hr h => ?_)
  · obtain ⟨a, b, g, st, go, rfl, _⟩ := h
    rfl
  · obtain ⟨a, b, g, st, go, rfl, tws, hb, k⟩ := h
    refine ⟨_, pss_cons (ps_fld (pv 0) (pe_cal cR hr (by rfl) (pa_cons (pv 0) (pa_cons (pe_fld (pv 0) rfl) (pa_cons (pv 1) pa_nil)))) rfl) (pss_one (ps_fldaug (pv 0) pe_int in_add)), ?_⟩
    obtain ⟨dx, w', p, r, u0, fs, rs, twa, hm, q⟩ := id tws
    refine ⟨_, rfl, _, rfl, a, cT, dx, fs, _, rfl, twa.obj, T.clT, T.nAbove, twa.fAbove, _, rfl, a, u0, b, st.tower, st.up, st.up, go, rfl, tws.tw, .inr (SqT.of twa.above), hb, fun H1 c s1 hc => ?_⟩
    have twa1 := twa.same s1
    refine ⟨_, rfl, a, cT, dx, fs, rfl, twa1.obj, T.clT, T.nAbove, (by have := twa1.few; first | lia | omega), ?_⟩
    have hm2 : (putF "above" (.ref c) fs).lookup ("made" : Str) = some (.int (st.made : Int)) := by
      rw [lookup_putF, if_neg (by decide +kernel)]
      exact hm
    have twa2 := twa1.turn hc (after_sub st.tower st.up go)
    refine ⟨_, rfl, a, cT, dx, _, _, rfl, twa2.obj, T.clT, T.nMade, hm2, _, _, rfl, rfl, dx, _, twa2.obj, (by have := twa2.few; first | lia | omega), ?_⟩
    have twa3 := twa2.count (v := .int ((st.made : Int) + 1)) hm2
    refine k _ ⟨dx, w', p, r, c, _, rs, twa3, ?_, q⟩ ((But.of s1).upd.upd)
    rw [lookup_putF, if_pos rfl]
    rfl
noncomputable def spAnswerTurn (K : PySem.W.Frag) (cB cT : Addr) : Sp := fun vs H Q _ => ∃ (a b g : Addr) (st : Mu45.State) (m : List Nat), vs = [.ref a, .ref b] ∧ TwS cT g H a st ∧ H b = some (.lst (zv m)) ∧ m.length ≤ 100 ∧
  ∀ H' D, TwS cT g H' a (if judg st.tower st.up m = 0 then turnS st (pick st.tower m) else st) → But a H H' → H D = none →
    H' D = some (.lst [.int (if judg st.tower st.up m = 0 then (Mu45.gap st.tower st.up (pick st.tower m) : Int) else judg st.tower st.up m)]) → Q (.ref D) H'
theorem scAnswerTurn : FnScope ["tower", "things", "refusal", "difference"] ["tower", "things"] (defScope sAnswerTurn) := ⟨rfl, rfl, rfl, by decide +kernel, rfl, by decide +kernel, by decide +kernel⟩
theorem judg_zero {t : Mu45.Tower} {up m : List Nat} (h : judg t up m = 0) : okThings t m = true ∧ 0 < dif t up m := by
  unfold judg at h
  by_cases c : okThings t m = true
  · rw [if_pos c] at h
    refine ⟨c, ?_⟩
    unfold verd at h
    by_cases c1 : over t up m = true
    · rw [if_pos c1] at h
      cases h
    · rw [if_neg c1] at h
      by_cases c2 : dif t up m ≤ 0
      · rw [if_pos c2] at h
        cases h
      · first | lia | omega
  · rw [if_neg c] at h
    cases h
theorem ok_answer_turn {f : Addr} {fd : FuncData} (F : Fun K "answer_turn" "answer_turn" sAnswerTurn f fd) (T : Txt K mg cT) (cJ : Cal P w K mg base "judge" 5 ["tower", "things"] (spJudge K cT)) (cU : Cal P w K mg base "unlike" 2 ["tower", "above", "things"] (spUnlike K cT)) (cM : Cal P w K mg base "make_turn" 2 ["tower", "things"] (spMakeTurn K cT)) :
    FnOk P w K mg base CX0 6 f fd ["tower", "things"] (spAnswerTurn K cB cT) := by
  refine F.ok scAnswerTurn (fun vs H Q E h => ?_) (fun cdv A outer s H vs Q E hr h => ?_)
  · obtain ⟨a, b, g, st, m, rfl, _⟩ := h
    rfl
  · obtain ⟨a, b, g, st, m, rfl, tws, hb, hn, k⟩ := h
    have tw := tws.tw
    have hr1 : Room 1 _ := hr.mono (by decide)
    have hr2 : Room 2 _ := hr.mono (by decide)
    refine ⟨_, pss_cons (ps_set (i := 2) scAnswerTurn.nd rfl (Or.inl rfl) (pe_cal cJ hr (by rfl) (pa_cons (pv 0) (pa_cons (pv 1) pa_nil))))
      (pss_cons (ps_if (pt_cmpR op_ne (pv 2) (pe_num T.gDONE) (nomark _)) (pss_one (ps_ret (pe_lst (pa_cons (pv 2) pa_nil)))) pss_nil)
      (pss_cons (ps_set (i := 3) scAnswerTurn.nd rfl (Or.inl rfl) (pe_cal cU hr2 (by rfl) (pa_cons (pv 0) (pa_cons (pe_fld (pv 0) rfl) (pa_cons (pv 1) pa_nil)))))
      (pss_cons (ps_expr (pe_cal cM hr2 (by rfl) (pa_cons (pv 0) (pa_cons (pv 1) pa_nil))))
      (pss_one (ps_ret (pe_lst (pa_cons (pv 3) pa_nil))))))), ?_⟩
    refine ⟨_, rfl, _, rfl, a, b, st.tower, st.up, m, rfl, tw, hb, hn, fun H1 s1 => ?_⟩
    refine ⟨_, rfl, rfl, _, rfl, ?_⟩
    rw [dec_int]
    refine ite2 (fun c1 => ?_) (fun c1 => ?_)
    · have hj : ¬ judg st.tower st.up m = 0 := fun z => by
        rw [z] at c1
        cases c1
      rw [if_neg hj, if_neg hj] at k
      exact ⟨_, rfl, (by show 1 ≤ sizeLine; decide), fun D hD => k _ D (tws.same (s1.new hD)) (But.of (s1.new hD)) (s1.free hD) upd_same⟩
    · have hj : judg st.tower st.up m = 0 := by
        by_cases z : judg st.tower st.up m = 0
        · exact z
        · exfalso
          apply c1
          rw [beq_eq_false_iff_ne.mpr z]
          rfl
      obtain ⟨hok, hdif⟩ := judg_zero hj
      rw [if_pos hj, if_pos hj] at k
      have hall : ∀ i ∈ m, i < st.tower.things.length := by
        unfold okThings at hok
        rw [Bool.and_eq_true, List.all_eq_true] at hok
        exact fun i hi => of_decide_eq_true (hok.2 i hi)
      obtain ⟨dx, w', p, r, u0, fs, rs, twa, hm, q⟩ := tws.same s1
      refine ⟨_, rfl, _, rfl, a, cT, dx, fs, _, rfl, twa.obj, T.clT, T.nAbove, twa.fAbove, _, rfl, a, u0, b, st.tower, st.up, st.up, m, rfl, tw.same s1, .inr (SqT.of twa.above), .inl (SqL.of (s1 _ _ hb)), hn, hall, fun H2 s2 => ?_⟩
      have s12 := s1.trans s2
      refine ⟨_, rfl, _, rfl, a, b, g, st, m, rfl, tws.same s12, .inl (SqL.of (s12 _ _ hb)), fun H3 tws3 b3 => ?_⟩
      refine ⟨_, rfl, (by show 1 ≤ sizeLine; decide), fun D hD => ?_⟩
      have b4 : But a H H3 := (But.of s12).trans b3
      have hDa : D ≠ a := by
        obtain ⟨dx3, w3, p3, r3, u3, fs3, rs3, twa3, _⟩ := id tws3
        exact Ne.symm (ne_of_none twa3.obj hD)
      have hDn : H D = none := b4.free hD hDa
      have tw4 := tws3.same (Same.new' (o := .lst [.int (dif st.tower st.up m)]) hD)
      unfold turnS at tw4
      rw [after_perm (pick_perm hok).symm] at tw4
      refine k _ D tw4 (b4.new hD) hDn ?_
      rw [upd_same]
      have e : dif st.tower st.up (pick st.tower m) = dif st.tower st.up m := dif_perm (pick_perm hok)
      rw [gap_dif (by rw [e]; exact hdif), e]
noncomputable def turnsT (l : List (List Nat)) : List Int := (l.length : Int) :: (match l with
  | [] => []
  | m :: _ => rowT m)
noncomputable def spAnswerTurns (K : PySem.W.Frag) (cT : Addr) : Sp := fun vs H Q _ => ∃ (a : Addr) (t : Mu45.Tower) (up : List Nat), vs = [.ref a] ∧ Tw cT H a t up ∧ ∀ H' D, Same H H' → H D = none → H' D = some (.lst ((turnsT (Mu45.turns t up)).map V.int)) → Q (.ref D) H'
theorem scAnswerTurns : FnScope ["tower", "rows"] ["tower"] (defScope sAnswerTurns) := ⟨rfl, rfl, rfl, by decide +kernel, rfl, by decide +kernel, by decide +kernel⟩
theorem ok_answer_turns {f : Addr} {fd : FuncData} (F : Fun K "answer_turns" "answer_turns" sAnswerTurns f fd) (T : Txt K mg cT) (cP : Cal P w K mg base "possible_rows" 5 ["tower", "above"] (spPossibleRows K cT)) (cT' : Cal P w K mg base "told_row" 1 ["row"] (spToldRow K)) :
    FnOk P w K mg base CX0 6 f fd ["tower"] (spAnswerTurns K cT) := by
  refine F.ok scAnswerTurns (fun vs H Q E h => ?_) (fun cdv A outer s H vs Q E hr h => ?_)
  · obtain ⟨a, t, up, rfl, _⟩ := h
    rfl
  · obtain ⟨a, t, up, rfl, tw, k⟩ := h
    have hr1 : Room 1 _ := hr.mono (by decide)
    obtain ⟨dx, w', p, r, u0, fs, rs, twa⟩ := id tw
    refine ⟨_, pss_cons (ps_set (i := 1) scAnswerTurns.nd rfl (Or.inl rfl) (pe_cal cP hr (by rfl) (pa_cons (pv 0) (pa_cons (pe_fld (pv 0) rfl) pa_nil))))
      (pss_cons (ps_if (pt_cmpR op_eq (pe_callB call_len_seq (by rfl) T.len PySem.boot_len (pa_cons (pv 1) pa_nil)) pe_int (nomark _)) (pss_one (ps_ret (pe_lst (pa_cons pe_int pa_nil)))) pss_nil)
      (pss_one (ps_ret (pe_op op_cat (pe_lst (pa_cons (pe_callB call_len_seq (by rfl) T.len PySem.boot_len (pa_cons (pv 1) pa_nil)) pa_nil)) (pe_cal cT' hr1 (by rfl) (pa_cons (pe_ix ix_list (pv 1) pe_int (fun _ _ => rfl)) pa_nil)))))), ?_⟩
    refine ⟨_, rfl, _, rfl, a, cT, dx, fs, _, rfl, twa.obj, T.clT, T.nAbove, twa.fAbove, a, u0, t, up, up, rfl, tw, .inr (SqT.of twa.above), fun H1 D1 cs s1 hD1 hd1 hcs => ?_⟩
    refine ⟨_, rfl, D1, _, rfl, .inl (SqL.of hd1), rfl, _, rfl, ?_⟩
    rw [List.length_map, dec_int]
    cases cs with
    | nil =>
      have e : Mu45.turns t up = [] := List.length_eq_zero_iff.mp (by rw [← hcs.len]; rfl)
      rw [e] at k
      exact ⟨(by show 1 ≤ sizeLine; decide), fun D hD => k _ D (s1.new hD) (s1.free hD) upd_same⟩
    | cons c cs =>
      cases e : Mu45.turns t up with
      | nil =>
        rw [e] at hcs
        cases hcs
      | cons m ms =>
        rw [e] at k hcs
        have hlen := hcs.len
        refine ite2 (fun z => ?_) (fun _ => ?_)
        · exfalso
          have := eq_of_beq z
          simp at this
          first | lia | omega
        · have hm5 : m.length ≤ 5 := by
            have hm : m ∈ Mu45.turns t up := by rw [e]; exact List.mem_cons_self ..
            exact (row_good twa.five (turns_mem twa.five hm)).1
          cases hcs with
          | cons hc hr' =>
            refine ⟨_, rfl, D1, _, rfl, .inl (SqL.of hd1), (by show 1 ≤ sizeLine; decide), fun L hL => ?_⟩
            have s2 := Same.new' (o := .lst [.int (((c :: cs).map V.ref).length : Nat)]) hL
            refine ⟨_, rfl, D1, _, 0, .ref c, rfl, rfl, SqL.of (s2 _ _ hd1), atI_nat (j := 0) rfl, c, m, rfl, s2 _ _ hc, (by first | lia | omega), fun H3 D3 s3 hD3 hd3 => ?_⟩
            refine ⟨L, D3, _, _, rfl, rfl, s3 _ _ upd_same, hd3, ?_, fun D hD => ?_⟩
            · have q3 : (rowT m).length = m.length + 1 := by simp [rowT]
              have q4 : ((rowT m).map V.int).length = m.length + 1 := by rw [List.length_map]; exact q3
              rw [q4]
              exact Nat.le_of_lt (small1000 (by simp; first | lia | omega))
            · have ss := (s1.trans s2).trans s3
              refine k _ D (ss.new hD) (ss.free hD) ?_
              rw [upd_same, List.length_map, hlen]
              rfl
noncomputable def wayA (o : Option Mu45.Way) : List Int := match o with
  | none => [-6]
  | some w => wayT w.1
theorem comes_all {t : Mu45.Tower} {up : List Nat} (hu : up.Sublist (List.range t.things.length)) (hn : t.things.length ≤ 5) : Good t.things.length (Mu45.comes t up) ∧ WGood t.things.length (Mu45.comes t up) ∧ (Mu45.comes t up).length ≤ 32 := comes_good hu hn (accN_ends hu hn)
theorem way_fits {t : Mu45.Tower} {up : List Nat} (hu : up.Sublist (List.range t.things.length)) (hn : t.things.length ≤ 5) {w : Mu45.Way} (hw : w ∈ Mu45.comes t up) : (∀ r ∈ w.1, r.length ≤ 5) ∧ w.1.length ≤ 32 ∧ w.2.Sublist (List.range t.things.length) ∧ w.2.length ≤ 5 := by
  obtain ⟨g1, g2, g3⟩ := comes_all hu hn
  obtain ⟨i, hi⟩ := List.getElem?_of_mem hw
  have h1 := g2.len i w hi
  have h2 := (List.getElem?_eq_some_iff.mp hi).1
  have h3 := (g1.sub w hw).length_le
  rw [List.length_range] at h3
  exact ⟨fun r hr => (row_good hn (g2.row w hw r hr)).1, by first | lia | omega, g1.sub w hw, by first | lia | omega⟩
theorem for_keysT {d : Addr} {o : Obj} {kvs : List (List Key × V)} {g : TG} {tb : TS} {D : Ends} {σ : L2.St} {H : Hp} (Pv : Nat → L2.St → Hp → Prop) (h0 : Pv 0 σ H) (hl : ∀ i σ H, i ≤ kvs.length → Pv i σ H → H d = some (.frz o (.dT kvs)))
    (hs : ∀ i (k : List Key) (v : V) (q : Addr) σ H, kvs[i]? = some (k, v) → H q = some (.tup (k.map kV)) → Pv i σ H → g (.ref q) σ H fun σ2 H2 => tb { D with nx := Pv (i + 1), ct := Pv (i + 1), bk := D.nx } σ2 H2) (hd : ∀ σ H, Pv kvs.length σ H → D.nx σ H) :
    ∃ W : Nat → Nat → L2.St → Hp → Prop, (∃ m, W 0 m σ H) ∧ ∀ i m σ H, W i m σ H → ((Itkt d o kvs).stop i H ∧ D.nx σ H) ∨ ((Itkt d o kvs).go i H ∧ ∃ N : L2.St → Hp → Prop, (∀ σ' H', N σ' H' → ∃ m', m' < m ∧ W (i + 1) m' σ' H') ∧ ∀ x H', (Itkt d o kvs).yld i H x H' → g x σ H' fun σ2 H2 => tb { D with nx := N, ct := N, bk := D.nx } σ2 H2) := by
  refine ⟨fun i m σ H => i + m = kvs.length ∧ Pv i σ H, ⟨kvs.length, by first | lia | omega, h0⟩, ?_⟩
  rintro i m σ H ⟨e, hp⟩
  have hf := hl i σ H (by first | lia | omega) hp
  by_cases hi : i < kvs.length
  · refine .inr ⟨⟨hf, hi⟩, Pv (i + 1), fun σ' H' z => ⟨m - 1, by first | lia | omega, by first | lia | omega, z⟩, ?_⟩
    rintro x H' ⟨rfl, k, v, q, hk, rfl, hq⟩
    exact hs i k v q σ H' hk hq hp
  · have e2 : i = kvs.length := by first | lia | omega
    subst e2
    exact .inl ⟨⟨hf, Nat.le_refl _⟩, hd σ H hp⟩
theorem find_none {α : Type} {p : α → Bool} : ∀ {l : List α}, (∀ x ∈ l, p x = false) → l.find? p = none
  | [], _ => rfl
  | x :: l, h => by
    rw [List.find?_cons, h x (List.mem_cons_self ..)]
    exact find_none fun y hy => h y (List.mem_cons_of_mem _ hy)
theorem find_first {α : Type} {p : α → Bool} : ∀ {l : List α} {i : Nat} {x : α}, l[i]? = some x → p x = true → (∀ j y, j < i → l[j]? = some y → p y = false) → l.find? p = some x
  | [], i, x, h, _, _ => by simp at h
  | a :: l, 0, x, h, hp, _ => by
    cases h
    rw [List.find?_cons, hp]
  | a :: l, i + 1, x, h, hp, hb => by
    rw [List.find?_cons, hb 0 a (by first | lia | omega) rfl]
    exact find_first (l := l) (i := i) h hp fun j y hj hy => hb (j + 1) y (by first | lia | omega) hy
noncomputable def WayIs (H : Hp) (v : V) : Option Mu45.Way → Prop
  | none => v = .non
  | some wy => ∃ pw rs, v = .ref pw ∧ H pw = some (.lst (rs.map V.ref)) ∧ TupsAt H rs wy.1
noncomputable def spFewestWay (K : PySem.W.Frag) (cT : Addr) : Sp := fun vs H Q _ => ∃ (a : Addr) (t : Mu45.Tower) (up : List Nat), vs = [.ref a] ∧ Tw cT H a t up ∧ ∀ H' v, Same H H' → WayIs H' v (Mu45.wayTo t up (Mu45.safe t)) → Q v H'
theorem scFewestWay : FnScope ["tower", "ways", "above"] ["tower"] (defScope sFewestWay) := ⟨rfl, rfl, rfl, by decide +kernel, rfl, by decide +kernel, by decide +kernel⟩
theorem ok_fewest_way {f : Addr} {fd : FuncData} (F : Fun K "fewest_way" "fewest_way" sFewestWay f fd) (T : Txt K mg cT) (cF : Cal P w K mg base "first_ways" 6 ["tower"] (spFirstWays K cT)) (cP : Cal P w K mg base "person_among" 1 ["tower", "numbers"] (spPersonAmong K cT)) :
    FnOk P w K mg base CX0 7 f fd ["tower"] (spFewestWay K cT) := by
  refine F.ok scFewestWay (fun vs H Q E h => ?_) (fun cdv A outer s H vs Q E hr h => ?_)
  · obtain ⟨a, t, up, rfl, _⟩ := h
    rfl
  · obtain ⟨a, t, up, rfl, tw, k⟩ := h
    have hr1 : Room 1 _ := hr.mono (by decide)
    have hu := hu_of hr
    obtain ⟨dx, w', p, r, u0, fs, rs, twa⟩ := id tw
    refine ⟨_, pss_cons (ps_set (i := 1) scFewestWay.nd rfl (Or.inl rfl) (pe_cal cF hr (by rfl) (pa_cons (pv 0) pa_nil)))
      (pss_cons (ps_lock (ps_for PassesOwn.never rfl (pi_keys (pv 1)) (pg_name (i := 2) scFewestWay.nd rfl (Or.inl rfl))
        (pss_one (ps_if (pt_not (pt_val (pe_cal cP hr1 (by rfl) (pa_cons (pv 0) (pa_cons (pv 2) pa_nil))))) (pss_one (ps_ret (pe_dget hu (pv 1) (pv 2) (fun _ _ => rfl)))) pss_nil))))
      (pss_one (ps_ret pe_non))), ?_⟩
    refine ⟨_, rfl, a, t, up, rfl, tw, fun H1 d q kvs s1 hd hd1 hw => ?_⟩
    refine ⟨d, _, hd1, True.intro, fun od => ?_⟩
    have sub := twa.sub
    have five := twa.five
    have lk : ∀ z o, H1 z = some o → z ≠ d → upd H1 d (.frz od (.dT kvs)) z = some o := fun z o hz hzd => by rw [upd_ne hzd]; exact hz
    have sl : Same H (upd H1 d (.frz od (.dT kvs))) := s1.put hd
    have hwl : WaysAt (upd H1 d (.frz od (.dT kvs))) q kvs (Mu45.comes t up) := hw.keep (fun z xs hz _ => lk z _ hz (ne_of hz hd1 (fun z => nomatch z))) (fun z xs hz => lk z _ hz (ne_of hz hd1 (fun z => nomatch z)))
    obtain ⟨g1, g2, g3⟩ := comes_all sub five
    refine ⟨_, rfl, d, od, rfl, .inr ⟨kvs, upd_same, for_keysT (d := d) (o := od) (kvs := kvs)
      (fun i σ H2 => ∃ v2, σ = [some (.ref a), some (.ref d), v2] ∧ Same (upd H1 d (.frz od (.dT kvs))) H2 ∧ ∀ j y, j < i → (Mu45.comes t up)[j]? = some y → Mu45.safe t y.2 = false)
      ⟨none, rfl, Same.refl _, fun j y hj => by first | lia | omega⟩ (by rintro i σ H2 _ ⟨_, _, s5, _⟩; exact s5 _ _ upd_same) ?_ ?_⟩⟩
    · rintro i key v b σ H2 hk hb ⟨v2, rfl, s2, hno⟩
      obtain ⟨wy, hwy, ekey, _⟩ := paired_get hwl hk
      have ekey' : key = keyOf wy.2 := ekey
      subst ekey'
      have hbz : H2 b = some (.tup (zv wy.2)) := by rw [← keyOf_kV]; exact hb
      obtain ⟨q1, q2, q3, q4⟩ := way_fits sub five (List.mem_of_getElem? hwy)
      refine ⟨_, rfl, _, rfl, a, b, t, up, wy.2, rfl, tw.same (sl.trans s2), .inr (SqT.of hbz), (by first | lia | omega), fun H3 s3 => ⟨_, rfl, ?_⟩⟩
      show if (Mu45.safe t wy.2) = true then _ else _
      refine ite2 (fun c1 => ?_) (fun c1 => ?_)
      · have e : Mu45.wayTo t up (Mu45.safe t) = some wy := find_first hwy c1 hno
        rw [e] at k
        have hd3 : H3 d = some (.frz od (.dT kvs)) := s3 _ _ (s2 _ _ upd_same)
        obtain ⟨pw, rw_, hv, hpq, hpw, htw⟩ := WaysAt.val hwl g1.nd (List.mem_of_getElem? hwy)
        have hpw3 := s3 _ _ (s2 _ _ hpw)
        refine ⟨_, rfl, _, rfl, d, V.ref pw, rfl, ?_, hd3, k _ _ ?_ ⟨pw, rw_, rfl, ?_, ?_⟩⟩
        · exact .inr ⟨kvs, keyOf wy.2, b, .inr ⟨od, hd3⟩, rfl, by rw [keyOf_kV]; exact s3 _ _ hbz, hv.symm⟩
        · intro z o hz
          by_cases hzd : z = d
          · subst hzd
            rw [hd] at hz
            cases hz
          · rw [upd_ne hzd]
            exact s3 _ _ (s2 _ _ (sl _ _ hz))
        · rw [upd_ne (ne_of hpw3 hd3 (fun z => nomatch z))]
          exact hpw3
        · exact Paired.mapP ((htw.same s2).same s3) fun z row hz => by rw [upd_ne (ne_of hz hd3 (fun z => nomatch z))]; exact hz
      · refine ⟨_, rfl, s2.trans s3, fun j y hj hy => ?_⟩
        by_cases hji : j = i
        · subst hji
          rw [hwy] at hy
          cases hy
          exact Bool.eq_false_iff.mpr c1
        · exact hno j y (by first | lia | omega) hy
    · rintro σ H2 ⟨v2, rfl, s2, hno⟩
      have e : Mu45.wayTo t up (Mu45.safe t) = none := by
        refine find_none fun x hx => ?_
        obtain ⟨j, hj⟩ := List.getElem?_of_mem hx
        refine hno j x ?_ hj
        rw [hwl.len]
        exact (List.getElem?_eq_some_iff.mp hj).1
      rw [e] at k
      have hd2 : H2 d = some (.frz od (.dT kvs)) := s2 _ _ upd_same
      have sF : Same H (upd H2 d (.dT kvs)) := fun z o hz => by
        by_cases hzd : z = d
        · subst hzd
          rw [hd] at hz
          cases hz
        · rw [upd_ne hzd]
          exact s2 _ _ (sl _ _ hz)
      exact ⟨hd2, k _ _ sF rfl⟩
theorem way_from {t : Mu45.Tower} {up : List Nat} {p : List Nat → Bool} {wy : Mu45.Way} (h : Mu45.wayTo t up p = some wy) : wy ∈ Mu45.comes t up := List.mem_of_find?_eq_some h
noncomputable def spAnswerFewest (K : PySem.W.Frag) (cT : Addr) : Sp := fun vs H Q _ => ∃ (a : Addr) (t : Mu45.Tower) (up : List Nat), vs = [.ref a] ∧ Tw cT H a t up ∧ ∀ H' D, Same H H' → H D = none → H' D = some (.lst ((wayA (Mu45.wayTo t up (Mu45.safe t))).map V.int)) → Q (.ref D) H'
theorem scAnswerFewest : FnScope ["tower", "way"] ["tower"] (defScope sAnswerFewest) := ⟨rfl, rfl, rfl, by decide +kernel, rfl, by decide +kernel, by decide +kernel⟩
theorem ok_answer_fewest {f : Addr} {fd : FuncData} (F : Fun K "answer_fewest" "answer_fewest" sAnswerFewest f fd) (T : Txt K mg cT) (cF : Cal P w K mg base "fewest_way" 7 ["tower"] (spFewestWay K cT)) (cW : Cal P w K mg base "told_way" 2 ["way"] (spToldWay K)) :
    FnOk P w K mg base CX0 8 f fd ["tower"] (spAnswerFewest K cT) := by
  refine F.ok scAnswerFewest (fun vs H Q E h => ?_) (fun cdv A outer s H vs Q E hr h => ?_)
  · obtain ⟨a, t, up, rfl, _⟩ := h
    rfl
  · obtain ⟨a, t, up, rfl, tw, k⟩ := h
    have hr2 : Room 2 _ := hr.mono (by decide)
    obtain ⟨dx, w', p, r, u0, fs, rs, twa⟩ := id tw
    refine ⟨_, pss_cons (ps_set (i := 1) scAnswerFewest.nd rfl (Or.inl rfl) (pe_cal cF hr (by rfl) (pa_cons (pv 0) pa_nil)))
      (pss_cons (ps_if (pt_cmp (pc_isN (pv 1)) (by with_unfolding_all rfl)) (pss_one (ps_ret (pe_lst (pa_cons (pe_num T.gNO_WAY) pa_nil)))) pss_nil)
      (pss_one (ps_ret (pe_cal cW hr2 (by rfl) (pa_cons (pv 1) pa_nil))))), ?_⟩
    refine ⟨_, rfl, a, t, up, rfl, tw, fun H1 v s1 hv => ?_⟩
    cases e : Mu45.wayTo t up (Mu45.safe t) with
    | none =>
      rw [e] at hv k
      cases hv
      refine ⟨_, rfl, _, rfl, ?_⟩
      exact ⟨(by show 1 ≤ sizeLine; decide), fun D hD => k _ D (s1.new hD) (s1.free hD) upd_same⟩
    | some wy =>
      rw [e] at hv k
      obtain ⟨pw, rs', rfl, hpw, htw⟩ := hv
      obtain ⟨q1, q2, q3, q4⟩ := way_fits twa.sub twa.five (way_from e)
      refine ⟨_, rfl, _, rfl, ?_⟩
      exact ⟨_, rfl, pw, rs', wy.1, rfl, hpw, htw, q1, (by first | lia | omega), fun H4 D s4 hD hD4 => k _ D (s1.trans s4) (s1.free hD) hD4⟩
noncomputable def spAnswerTo (K : PySem.W.Frag) (cT : Addr) : Sp := fun vs H Q _ => ∃ (a b : Addr) (t : Mu45.Tower) (up m : List Nat), vs = [.ref a, .ref b] ∧ Tw cT H a t up ∧ H b = some (.lst (zv m)) ∧ m.length ≤ 50 ∧
  ∀ H' D, Same H H' → H D = none → H' D = some (.lst ((if okThings t m = true then wayA (Mu45.wayTo t up fun u => u == pick t m) else [-1]).map V.int)) → Q (.ref D) H'
theorem scAnswerTo : FnScope ["tower", "things", "ways", "wanted"] ["tower", "things"] (defScope sAnswerTo) := ⟨rfl, rfl, rfl, by decide +kernel, rfl, by decide +kernel, by decide +kernel⟩
theorem ok_answer_to {f : Addr} {fd : FuncData} (F : Fun K "answer_to" "answer_to" sAnswerTo f fd) (T : Txt K mg cT) (cR : Cal P w K mg base "right_things" 1 ["tower", "things"] (spRightThings K cT)) (cF : Cal P w K mg base "first_ways" 6 ["tower"] (spFirstWays K cT)) (cW : Cal P w K mg base "told_way" 2 ["way"] (spToldWay K)) :
    FnOk P w K mg base CX0 7 f fd ["tower", "things"] (spAnswerTo K cT) := by
  refine F.ok scAnswerTo (fun vs H Q E h => ?_) (fun cdv A outer s H vs Q E hr h => ?_)
  · obtain ⟨a, b, t, up, m, rfl, _⟩ := h
    rfl
  · obtain ⟨a, b, t, up, m, rfl, tw, hb, hn, k⟩ := h
    have hr1 : Room 1 _ := hr.mono (by decide)
    have hr2 : Room 2 _ := hr.mono (by decide)
    have hu := hu_of hr
    obtain ⟨dx, w', p, r, u0, fs, rs, twa⟩ := id tw
    have sub := twa.sub
    have five := twa.five
    refine ⟨_, pss_cons (ps_if (pt_not (pt_val (pe_cal cR hr1 (by rfl) (pa_cons (pv 0) (pa_cons (pv 1) pa_nil))))) (pss_one (ps_ret (pe_lst (pa_cons (pe_num T.gWRONG) pa_nil)))) pss_nil)
      (pss_cons (ps_set (i := 2) scAnswerTo.nd rfl (Or.inl rfl) (pe_cal cF hr (by rfl) (pa_cons (pv 0) pa_nil)))
      (pss_cons (ps_set (i := 3) scAnswerTo.nd rfl (Or.inl rfl) (pe_callTy call_tuple_of (by rfl) T.tuple PyProof.Rows.boot_tuple (pa_cons (pe_callB cr_sorted (by rfl) T.sorted boot_sorted (pa_cons (pv 1) pa_nil)) pa_nil)))
      (pss_cons (ps_if (pt_cmp (pc_dnotin hu (pv 3) (pv 2)) (by with_unfolding_all rfl)) (pss_one (ps_ret (pe_lst (pa_cons (pe_num T.gNO_WAY) pa_nil)))) pss_nil)
      (pss_one (ps_ret (pe_cal cW hr2 (by rfl) (pa_cons (pe_dget hu (pv 2) (pv 3) (fun _ _ => rfl)) pa_nil))))))), ?_⟩
    refine ⟨_, rfl, _, rfl, a, b, t, up, m, rfl, tw, hb, (by first | lia | omega), fun H1 s1 => ⟨_, rfl, ?_⟩⟩
    refine ite2 (fun c1 => ?_) (fun c1 => ?_)
    · have hno : ¬ okThings t m = true := fun z => by
        rw [z] at c1
        cases c1
      rw [if_neg hno] at k
      exact ⟨(by show 1 ≤ sizeLine; decide), fun D hD => k _ D (s1.new hD) (s1.free hD) upd_same⟩
    · have hok : okThings t m = true := by
        cases h : okThings t m with
        | true => rfl
        | false => exact absurd (by rw [h]; rfl) c1
      rw [if_pos hok] at k
      refine ⟨_, rfl, a, t, up, rfl, tw.same s1, fun H2 d q kvs s2 hd hd2 hw => ?_⟩
      have s12 := s1.trans s2
      refine ⟨_, rfl, b, m.map fun (i : Nat) => (i : Int), rfl, SqL.of (by rw [← zv_ints]; exact s12 _ _ hb), (by rw [List.length_map]; first | lia | omega), fun ns' L hperm hsort hL => ?_⟩
      have ens := sorted_pick hok hperm hsort
      subst ens
      have s3 := Same.new' (o := .lst (((pick t m).map fun (i : Nat) => (i : Int)).map V.int)) hL
      refine ⟨L, _, rfl, .inl ⟨SqL.of upd_same, fun U hU => ?_⟩⟩
      have s4 := s3.new (o := .tup (((pick t m).map fun (i : Nat) => (i : Int)).map V.int)) hU
      rw [← zv_ints] at s4 ⊢
      have hd4 := s4 _ _ hd2
      have hw4 := hw.same s4
      have hUk : (upd (upd H2 L (.lst (zv (pick t m)))) U (.tup (zv (pick t m)))) U = some (.tup ((keyOf (pick t m)).map kV)) := by
        rw [keyOf_kV]
        exact upd_same
      obtain ⟨g1, g2, g3⟩ := comes_all sub five
      refine ⟨_, rfl, _, rfl, d, _, rfl, DGet.t hd4 hUk, _, rfl, ?_⟩
      by_cases hin : ((Mu45.comes t up).map (·.2)).contains (pick t m) = true
      · obtain ⟨wy, hwy, ewy⟩ := List.mem_map.mp (List.contains_iff_mem.mp hin)
        obtain ⟨pw, rw_, hv, hpq, hpw, htw⟩ := WaysAt.val hw4 g1.nd hwy
        rw [ewy] at hv
        rw [hv]
        obtain ⟨q1, q2, q3, q4⟩ := way_fits sub five hwy
        have efind : Mu45.wayTo t up (fun u => u == pick t m) = some wy := by
          obtain ⟨i, hi⟩ := List.getElem?_of_mem hwy
          refine find_first hi (by show (wy.2 == pick t m) = true; rw [ewy]; exact beq_self_eq_true _) fun j y hj hy => ?_
          refine beq_eq_false_iff_ne.mpr fun z => ?_
          have hnd := g1.nd
          have e1 : ((Mu45.comes t up).map (·.2))[j]? = some (pick t m) := by rw [List.getElem?_map, hy]; exact congrArg some z
          have e2 : ((Mu45.comes t up).map (·.2))[i]? = some (pick t m) := by rw [List.getElem?_map, hi]; exact congrArg some ewy
          have := nd_ix hnd e1 e2
          first | lia | omega
        rw [efind] at k
        refine ⟨_, rfl, _, rfl, d, V.ref pw, rfl, by rw [← hv]; exact DGet.t hd4 hUk, pw, rw_, wy.1, rfl, hpw, htw, q1, (by first | lia | omega), fun H5 D s5 hD hD5 => ?_⟩
        exact k _ D ((s12.trans s4).trans s5) ((s12.trans s4).free hD) hD5
      · have hno : valV kvs (keyOf (pick t m)) = none := WaysAt.none hw4 (Bool.eq_false_iff.mpr hin)
        rw [hno]
        have efind : Mu45.wayTo t up (fun u => u == pick t m) = none := by
          refine find_none fun x hx => beq_eq_false_iff_ne.mpr fun z => hin (List.contains_iff_mem.mpr (List.mem_map.mpr ⟨x, hx, z⟩))
        rw [efind] at k
        exact ⟨(by show 1 ≤ sizeLine; decide), fun D hD => k _ D ((s12.trans s4).new hD) ((s12.trans s4).free hD) upd_same⟩
end
end TB

set_option Elab.async false
set_option linter.all false
set_option maxRecDepth 100000
set_option maxHeartbeats 4000000
namespace TB
open PySem PySem.Spec PyProof.Rows L2
noncomputable abbrev sBegin : Stmt := inClass cBaskets_ 1
theorem bkF_tower (v : V) : (bkF v).lookup ("tower" : Str) = some v := by
  unfold bkF
  rw [List.lookup_cons]
  rfl
theorem bkF_put (v x : V) : putF "tower" x (bkF v) = bkF x := by
  show (if ("tower" : Str) = "tower" then [(("tower" : Str), x)] else _) = _
  rw [if_pos rfl]
  rfl
noncomputable def newState (d k : Int) (l : List (List Int)) : Mu45.State := ⟨newTower d k l, List.range l.length, 0⟩
theorem step_begin {st : Mu45.Abs} {d k : Int} {l : List (List Int)} (hd : 0 ≤ d) (hk : 0 ≤ k) (hl : ∀ x ∈ l, ∀ z ∈ x, 0 ≤ z) :
    Mu45Neutral.step st ([0, d, k] :: l) = if goodTower d k l = true then (some (newState d k l), [0]) else (st, [-1]) := by
  have h := goodTower_step hd hk hl
  show Mu45.step st (.begin_ d.toNat k.toNat (l.map Mu45Neutral.nats)) = _
  unfold Mu45.step
  by_cases c : goodTower d k l = true
  · rw [if_pos c]
    dsimp only
    rw [if_neg (fun z => by
      have := h.mpr z
      rw [c] at this
      cases this)]
    have hall : l.all goodThing = true := by
      unfold goodTower at c
      rw [Bool.and_eq_true] at c
      exact c.2
    rw [things_good hall, List.length_map]
    rfl
  · rw [if_neg c]
    dsimp only
    rw [if_pos (h.mp (Bool.eq_false_iff.mpr c))]
section
variable {P : Program} {w : World} {K : PySem.W.Frag} {mg : Str → Option Value} {base : Heap} {Pt cT cL cB : Addr}
noncomputable def spBegin (Pt cB cT : Addr) : Sp := fun vs H Q _ => ∃ (y b g : Addr) (st : Mu45.Abs) (d k : Int) (bs : List Addr) (l : List (List Int)) (gs : List V), vs = [.ref y, .int d, .int k, .ref b] ∧ H g = some (.lst gs) ∧ BkAt Pt cB cT g H y st ∧ H b = some (.lst (bs.map V.ref)) ∧ ListsAt H bs l ∧ l.length ≤ 100 ∧ 0 ≤ d ∧ 0 ≤ k ∧
  ∀ H' D, BkAt Pt cB cT g H' y (if goodTower d k l = true then some (newState d k l) else st) → Keep cB cT H H' → H D = none → H' D = some (.lst [.int (if goodTower d k l = true then 0 else -1)]) → Q (.ref D) H'
theorem scBegin : FnScope ["self", "limit", "holds", "things"] ["self", "limit", "holds", "things"] (defScope sBegin) := ⟨rfl, rfl, rfl, by decide +kernel, rfl, by decide +kernel, by decide +kernel⟩
theorem ok_begin {f : Addr} {fd : FuncData} (F : Fun K "begin" "Baskets.begin" sBegin f fd) (T : Txt K mg cT) (TB' : TxtB K cB) (hBT : cB ≠ cT) (cR : Cal P w K mg base "right_tower" 2 ["limit", "holds", "things"] (spRightTower K)) (cN : CalC P w K mg base "Tower" cT 3 ["self", "limit", "holds", "things"] (spTowerInit cT)) :
    FnOk P w K mg base CX0 5 f fd ["self", "limit", "holds", "things"] (spBegin Pt cB cT) := by
  refine F.ok scBegin (fun vs H Q E h => ?_) (fun cdv A outer s H vs Q E hr h => ?_)
  · obtain ⟨y, b, g, st, d, k, bs, l, gs, rfl, _⟩ := h
    rfl
  · obtain ⟨y, b, g, st, d, k, bs, l, gs, rfl, hg, bk, hb, hl, hn, hd0, hk0, kk⟩ := h
    have hr2 : Room 2 _ := hr.mono (by decide)
    refine ⟨_, pss_cons (ps_if (pt_not (pt_val (pe_cal cR hr2 (by rfl) (pa_cons (pv 1) (pa_cons (pv 2) (pa_cons (pv 3) pa_nil)))))) (pss_one (ps_ret (pe_lst (pa_cons (pe_num T.gWRONG) pa_nil)))) pss_nil)
      (pss_cons (ps_fld (pv 0) (pe_calc cN hr (by rfl) (pa_cons (pv 1) (pa_cons (pv 2) (pa_cons (pv 3) pa_nil)))) rfl)
      (pss_one (ps_ret (pe_lst (pa_cons (pe_num T.gDONE) pa_nil))))), ?_⟩
    refine ⟨_, rfl, _, rfl, _, rfl, d, k, b, bs, l, rfl, hb, hl, hn, fun H1 s1 => ⟨_, rfl, ?_⟩⟩
    refine ite2 (fun c1 => ?_) (fun c1 => ?_)
    · have hno : ¬ goodTower d k l = true := fun z => by
        rw [z] at c1
        cases c1
      rw [if_neg hno, if_neg hno] at kk
      exact ⟨(by show 1 ≤ sizeLine; decide), fun D hD => kk _ D (bk.same (s1.new hD)) (.of (s1.new hD)) (s1.free hD) upd_same⟩
    · have hok : goodTower d k l = true := by
        cases h : goodTower d k l with
        | true => rfl
        | false => exact absurd (by rw [h]; rfl) c1
      rw [if_pos hok, if_pos hok] at kk
      have hok2 : l.all goodThing = true ∧ l.length ≤ 5 := by
        unfold goodTower at hok
        rw [Bool.and_eq_true, Bool.not_eq_true', Bool.or_eq_false_iff, Bool.or_eq_false_iff, Bool.not_eq_false', Bool.not_eq_false', Bool.and_eq_true, Bool.and_eq_true, decide_eq_true_iff, decide_eq_true_iff] at hok
        exact ⟨hok.2, by have := hok.1.2.2.2; rw [decide_eq_true_iff] at this; first | lia | omega⟩
      refine ⟨_, rfl, _, rfl, _, rfl, fun x dx nx nd ne => ?_⟩
      have sm : Same H1 (upd (upd H1 dx (.own x)) x (.ins cT dx [])) := (Same.new' nd).new (by rw [upd_ne (Ne.symm ne)]; exact nx)
      refine ⟨x, dx, b, d, k, bs, l, rfl, upd_same, sm _ _ (s1 _ _ hb), Paired.mapP hl (fun c z h => sm _ _ (s1 _ _ h)), hok2.1, hok2.2, hd0, hk0, fun H2 dx' w' p r u fs rs twa hmade hw hp hr' b2 => ⟨rfl, ?_⟩⟩
      have s2 : Same H1 H2 := Same.made nx nd b2
      have s12 := s1.trans s2
      obtain ⟨hPt, dy, v, hy, _⟩ := bk.same s12
      refine ⟨_, rfl, y, cB, dy, _, rfl, hy, TB'.cl, TB'.nTower, (by show 1 < 1000; decide), ?_⟩
      refine ⟨(by show 1 ≤ sizeLine; decide), fun D hD => ?_⟩
      have hyx : H2 y = some (.ins cB dy (bkF v)) := hy
      have tw3 := twa.but (x := y) (H' := upd H2 y (.ins cB dy (putF "tower" (V.ref x) (bkF v)))) ((But.of (Same.refl H2)).upd) hyx hBT
      have sD := Same.new' (o := .lst [.int 0]) hD
      have gne : ∀ z, upd (upd H1 dx (.own x)) x (.ins cT dx []) z = none → g ≠ z := fun z hz => ne_of_none (sm _ _ (s1 _ _ hg)) hz
      have hDy : D ≠ y := Ne.symm (ne_of_none upd_same hD)
      have hDn : H D = none := by
        have : H2 D = none := by
          rw [upd_ne hDy] at hD
          exact hD
        exact s12.free this
      refine kk _ D ⟨sD _ _ (by rw [upd_ne (ne_of hPt hyx (fun z => nomatch z))]; exact hPt), dy, .ref x, ?_, x, rfl, dx', w', p, r, u, fs, rs, tw3.same sD, hmade, gne _ hw, gne _ hp, gne _ hr'⟩ ?_ hDn upd_same
      · rw [upd_ne (Ne.symm hDy), upd_same, bkF_put]
      · intro z o hz nb nt
        refine sD _ _ ?_
        rw [upd_ne (ne_of (s12 _ _ hz) hyx (nb _ _))]
        exact s12 _ _ hz
end
end TB

set_option Elab.async false
set_option linter.all false
set_option maxRecDepth 100000
set_option maxHeartbeats 4000000
namespace TB
open PySem PySem.Spec PyProof.Rows L2
noncomputable abbrev sRowsBut : Stmt := top 35
noncomputable abbrev sLeastLimits : Stmt := top 39
structure FunC (K : PySem.W.Frag) (x qual : Str) (st : Stmt) (f : Addr) (fd : FuncData) (cdv : Value) : Prop where
  ex : ∃ (oc : Value) (od : Option Addr) (kV doc pm : Value) (an : Option Addr) (ct : Value) (osl : Array (Option Value)),
    fd = PySem.W.fnOf x qual (defArgs st) (defBody st) (defScope st) .none kV doc pm an cdv ct ∧ K.lookup f = some ⟨oc, od, .func fd, osl⟩ ∧ PySem.W.codeIn K cdv qual = true
section
variable {P : Program} {w : World} {K : PySem.W.Frag} {mg : Str → Option Value} {base : Heap}
theorem FunC.ok {x qual : Str} {st : Stmt} {f : Addr} {fd : FuncData} {cdv : Value} {N ps : List Str} {k : Nat} {sp : Sp} (F : FunC K x qual st f fd cdv) (S : FnScope N ps (defScope st)) (len : ∀ vs H Q E, sp vs H Q E → vs.length = ps.length)
    (hbody : ∀ (A : Around) (outer : List Env) (s : Shared) (H : Hp) (vs : List V) (Q : VK) (E : XK), Room k (A.deeper (envOfC qual (defScope st) s.heap.objs.size f cdv)) → sp vs H Q E →
      ∃ t, PSs (cxOf CX0 P w K mg base N qual (defScope st) f cdv A outer s H E).nox (defBody st) t ∧ t { nx := fun _ H' => Q .non H', rt := Q } (start N vs) H) : FnOk P w K mg base CX0 (k + 1) f fd ps sp := by
  obtain ⟨oc, od, kV, doc, pm, an, ct, osl, rfl, lk, hcd⟩ := F.ex
  refine fn_of lk hcd S len fun A outer s H vs Q E hr hsp => ?_
  obtain ⟨t, h, q⟩ := hbody A outer s H vs Q E hr hsp
  exact ⟨t, h.nox, q⟩
end
noncomputable def mkK (L : Lims) : List (List Key × V) := L.map fun p => (keyOf p.1, V.int p.2)
theorem mkK_val (u : List Nat) : ∀ L : Lims, valV (mkK L) (keyOf u) = (valL L u).map V.int
  | [] => rfl
  | p :: L => by
    have ih := mkK_val u L
    show valV ((keyOf p.1, V.int p.2) :: mkK L) (keyOf u) = _
    by_cases h : p.1 = u
    · rw [valV_pos (by show keyOf p.1 = keyOf u; rw [h])]
      simp [valL, h]
    · rw [valV_neg (fun z => h (keyOf_inj z)), ih]
      simp [valL, h]
theorem mkK_put (L : Lims) (u : List Nat) (x : Int) : putK (mkK L) (keyOf u) (.int x) = mkK (putL L u x) := by
  unfold putK putL
  rw [valV_any, mkK_val, Option.isSome_map]
  by_cases h : (valL L u).isSome = true
  · rw [if_pos h, if_pos h]
    unfold mkK
    rw [List.map_map, List.map_map]
    refine List.map_congr_left fun p _ => ?_
    show (if keyOf p.1 = keyOf u then (keyOf p.1, V.int x) else (keyOf p.1, V.int p.2)) = (keyOf (if p.1 = u then (p.1, x) else p).1, V.int (if p.1 = u then (p.1, x) else p).2)
    by_cases e : p.1 = u
    · rw [if_pos (by rw [e]), if_pos e]
    · rw [if_neg (fun z => e (keyOf_inj z)), if_neg e]
  · rw [if_neg h, if_neg h]
    unfold mkK
    rw [List.map_append]
    rfl
theorem mkK_len (L : Lims) : (mkK L).length = L.length := List.length_map ..
structure LS (H : Hp) (d q : Addr) (L : Lims) (us : List Addr) (W : List (List Nat)) : Prop where
  dict : H d = some (.dT (mkK L))
  lst : H q = some (.lst (us.map V.ref))
  tups : TupsAt H us W
section
variable {H H' : Hp} {d q x : Addr} {L L' : Lims} {us : List Addr} {W : List (List Nat)} {u : List Nat} {j : Nat}
theorem LS.ne (S : LS H d q L us W) : d ≠ q := ne_of S.dict S.lst (fun z => nomatch z)
theorem LS.same (S : LS H d q L us W) (s : Same H H') : LS H' d q L us W := ⟨s _ _ S.dict, s _ _ S.lst, S.tups.same s⟩
theorem LS.put (S : LS H d q L us W) : LS (upd H d (.dT (mkK L'))) d q L' us W :=
  ⟨upd_same, by rw [upd_ne (Ne.symm S.ne)]; exact S.lst, Paired.mapP S.tups fun b r z => by rw [upd_ne (ne_of z S.dict (fun z => nomatch z))]; exact z⟩
theorem LS.app (S : LS H d q L us W) (hx : H x = some (.tup (zv u))) : LS (upd H q (.lst (us.map V.ref ++ [.ref x]))) d q L (us ++ [x]) (W ++ [u]) := by
  refine ⟨by rw [upd_ne S.ne]; exact S.dict, by rw [upd_same, List.map_append]; rfl, ?_⟩
  exact Paired.mapP (S.tups.append (.cons hx .nil)) fun b r z => by rw [upd_ne (ne_of z S.lst (fun z => nomatch z))]; exact z
theorem paired_erase {α β : Type} {F : α → β → Prop} : ∀ {l : List α} {m : List β} (j : Nat), Paired F l m → Paired F (l.eraseIdx j) (m.eraseIdx j)
  | _, _, _, .nil => .nil
  | _, _, 0, .cons _ t => t
  | _, _, j + 1, .cons h t => .cons h (paired_erase j t)
theorem LS.rm (S : LS H d q L us W) (j : Nat) : LS (upd H q (.lst ((us.eraseIdx j).map V.ref))) d q L (us.eraseIdx j) (W.eraseIdx j) :=
  ⟨by rw [upd_ne S.ne]; exact S.dict, upd_same, Paired.mapP (paired_erase j S.tups) fun b r z => by rw [upd_ne (ne_of z S.lst (fun z => nomatch z))]; exact z⟩
theorem LS.get (S : LS H d q L us W) {b : Addr} {v : Int} (hb : H b = some (.tup (zv u))) (hv : valL L u = some v) : DGet H d (.ref b) (some (.int v)) := by
  have := DGet.t (k := keyOf u) S.dict (by rw [keyOf_kV]; exact hb)
  rw [mkK_val, hv] at this
  exact this
end
theorem tups_keys {H : Hp} : ∀ {us : List Addr} {W : List (List Nat)}, TupsAt H us W → Paired (fun c k' => H c = some (.tup (k'.map kV))) us (W.map keyOf) := by
  intro us W hp
  induction hp with
  | nil => exact .nil
  | cons h t ih => exact .cons (by rw [keyOf_kV]; exact h) ih
section
variable {P : Program} {w : World} {K : PySem.W.Frag} {mg : Str → Option Value} {base : Heap} {Pt cT : Addr}
noncomputable def spRowsBut (K : PySem.W.Frag) (cT : Addr) : Sp := fun vs H Q _ => ∃ (a u : Addr) (t : Mu45.Tower) (up0 up : List Nat), vs = [.ref a, .ref u] ∧ Tw cT H a t up0 ∧ Sq K H u (zv up) ∧
  ∀ H' D cs, Same H H' → H D = none → H' D = some (.lst (cs.map V.ref)) → TupsAt H' cs (free t up) → Q (.ref D) H'
theorem scRowsBut : FnScope ["tower", "above", "row"] ["tower", "above"] (defScope sRowsBut) := ⟨rfl, rfl, rfl, by decide +kernel, rfl, by decide +kernel, by decide +kernel⟩
theorem in_two (v : Int) : inV (V.int v) [V.int 0, V.int (-7)] = (v == 0 || v == -7) := by
  show (((0 : Int) == v) || (((-7 : Int) == v) || false)) = (v == 0 || v == -7)
  rw [Bool.or_false, Bool.eq_iff_iff, Bool.or_eq_true, Bool.or_eq_true, beq_iff_eq, beq_iff_eq, beq_iff_eq, beq_iff_eq]
  first | lia | omega
theorem ok_rows_but {f : Addr} {fd : FuncData} (F : Fun K "rows_but_for_limit" "rows_but_for_limit" sRowsBut f fd) (T : Txt K mg cT) (cV : Cal P w K mg base "verdict" 4 ["tower", "above", "things"] (spVerdict K cT)) :
    FnOk P w K mg base CX0 5 f fd ["tower", "above"] (spRowsBut K cT) := by
  refine F.ok scRowsBut (fun vs H Q E h => ?_) (fun cdv A outer s H vs Q E hr h => ?_)
  · obtain ⟨a, u, t, up0, up, rfl, _⟩ := h
    rfl
  · obtain ⟨a, u, t, up0, up, rfl, tw, hu, k⟩ := h
    obtain ⟨dx, w', p, r, u0, fs, rs, twa⟩ := id tw
    refine ⟨_, pss_one (ps_ret (pe_lc (own := [("row", 2)]) (tt := tTest (tOp (rIn K false) (tCall (spVerdict K cT) [] E0 (tCons (tVar 0) (tCons (tVar 1) (tCons (tVar 2) tNil)))) (tTup (tCons (tC (.int 0)) (tCons (tC (.int (-7))) tNil))))) rfl scRowsBut.nd (pi_list (pe_fld (pv 0) rfl)) (blkOk_by (by kernel_rfl))
        (by exact fun _ _ _ _ _ => pg_name (i := 2) scRowsBut.nd rfl (Or.inl rfl)) (by exact fun _ _ _ _ _ => pts_one (pt_cmpR op_in_seq (pe_cal cV hr (by rfl) (pa_cons (pv 0) (pa_cons (pv 1) (pa_cons (pv 2) pa_nil)))) (pe_tup (pa_cons (pe_num T.gDONE) (pa_cons (pe_num T.gTOO_UNLIKE) pa_nil))) (by with_unfolding_all rfl))) (by exact fun _ _ _ _ _ => pv 2))), ?_⟩
    have five := twa.five
    refine ⟨_, rfl, a, cT, dx, fs, _, rfl, twa.obj, T.clT, T.nRows, twa.fRows, r, rfl, ⟨_, SqL.of twa.rows⟩, fun D hD => lc_fmL (keepRow H fun go => verd t up go == 0 || verd t up go == -7) (SqL.of twa.rows) hD ?_ ?_ ?_⟩
    · rw [List.length_map, TupsAt.len twa.each]
      exact small1000 (Nat.le_trans (rows_few five) (by decide))
    · intro x hx H' acc Y N sm hd hY hN
      obtain ⟨b, hb, rfl⟩ := List.mem_map.mp hx
      obtain ⟨row, hrow, eb⟩ := TupsAt.mem twa.each hb
      obtain ⟨g1, g2⟩ := row_good five hrow
      refine ⟨rfl, _, rfl, _, rfl, _, rfl, a, u, b, t, up0, up, row, rfl, tw.same sm, sm.sq hu, .inr (SqT.of (sm _ _ eb)), (by first | lia | omega), g2, fun H3 s3 => ?_⟩
      refine ⟨(by show 2 ≤ sizeLine; decide), fun tt htt => ?_⟩
      have s4 := s3.new (o := .tup [V.int 0, V.int (-7)]) htt
      refine ⟨tt, _, rfl, .inr (SqT.of upd_same), rfl, rfl, _, rfl, ?_⟩
      show if inV (V.int (verd t up row)) [V.int 0, V.int (-7)] = true then _ else _
      rw [in_two]
      refine ite2 (fun hc => ⟨_, rfl, hY _ _ (keepRow_yes eb hc) (sm.trans s4) (s4 _ _ hd)⟩) (fun hc => hN _ (keepRow_no eb hc) (sm.trans s4) (s4 _ _ hd))
    · intro H' sm hd
      obtain ⟨cs, e, q⟩ := keepRow_fm (p := fun go => verd t up go == 0 || verd t up go == -7) twa.each
      rw [e] at hd
      exact k H' D cs sm hD hd (q.same sm)
end
end TB

set_option Elab.async false
set_option linter.all false
set_option maxRecDepth 100000
set_option maxHeartbeats 4000000
namespace TB
open PySem PySem.Spec PyProof.Rows L2
theorem take_snoc' {α : Type} {l : List α} {j : Nat} {x : α} (h : l[j]? = some x) : l.take (j + 1) = l.take j ++ [x] := by
  have hl := (List.getElem?_eq_some_iff.mp h).1
  rw [← List.take_append_getElem hl, (List.getElem?_eq_some_iff.mp h).2]
section
variable {P : Program} {w : World} {K : PySem.W.Frag} {mg : Str → Option Value} {base : Heap} {Pt cT cc : Addr}
noncomputable def spLeastLimits (Pt : Addr) (K : PySem.W.Frag) (cT : Addr) : Sp := fun vs H Q _ => ∃ (a : Addr) (t : Mu45.Tower) (up : List Nat), vs = [.ref a] ∧ Tw cT H a t up ∧ H Pt = some (.tbl psL) ∧ ∀ H' d L, Same H H' → H d = none → H' d = some (.dT (mkK L)) → DI t up L [] → Q (.ref d) H'
theorem scLeastLimits : FnScope ["tower", "limits", "waiting", "above", "row", "behind", "needed"] ["tower"] (defScope sLeastLimits) := ⟨rfl, rfl, rfl, by decide +kernel, rfl, by decide +kernel, by decide +kernel⟩
structure LLOut (t : Mu45.Tower) (up : List Nat) (H : Hp) (a d q : Addr) (n : Nat) (σ : L2.St) (H' : Hp) : Prop where
  ex : ∃ (v3 v4 v5 v6 : Option V) (L : Lims) (us : List Addr) (W : List (List Nat)), L.length - W.length = n ∧ σ = [some (.ref a), some (.ref d), some (.ref q), v3, v4, v5, v6] ∧ Same H H' ∧ LS H' d q L us W ∧ DI t up L W
structure LLIn (t : Mu45.Tower) (up : List Nat) (H H4 : Hp) (a d q b D4 : Addr) (cs : List Addr) (ua : List Nat) (la : Int) (n j : Nat) (σ2 : L2.St) (H2 : Hp) : Prop where
  ex : ∃ (v4 v5 v6 : Option V) (L' : Lims) (us' : List Addr) (W' : List (List Nat)), σ2 = [some (.ref a), some (.ref d), some (.ref q), some (.ref b), v4, v5, v6] ∧ Same H H2 ∧ (∀ x xs, H4 x = some (.tup xs) → H2 x = some (.tup xs)) ∧ H2 D4 = some (.lst (cs.map V.ref)) ∧ LS H2 d q L' us' W' ∧ DJ t up L' W' ua la ((free t ua).take j) ∧ L'.length - W'.length = n
theorem free_good {t : Mu45.Tower} (hn : t.things.length ≤ 5) {u row : List Nat} (h : row ∈ free t u) : row.length ≤ 5 ∧ ∀ i ∈ row, i < t.things.length := row_good hn (List.mem_filter.mp h).1
theorem map_same {u : List Nat} {x : Int} : ∀ {L : Lims}, valL L u = none → L.map (fun p => if p.1 = u then (p.1, x) else p) = L
  | [], _ => rfl
  | p :: L, h => by
    simp only [valL] at h
    split at h
    · cases h
    · rename_i hp
      rw [List.map_cons, if_neg hp, map_same h]
theorem putL_again {L : Lims} {u : List Nat} {x : Int} (h : valL L u = none) : putL (putL L u x) u x = putL L u x := by
  have e : putL L u x = L ++ [(u, x)] := by
    unfold putL
    rw [h, if_neg (by simp)]
  have e2 : (valL (L ++ [(u, x)]) u).isSome = true := by rw [← e, valL_put, if_pos rfl]; rfl
  rw [e]
  unfold putL
  rw [if_pos e2, List.map_append, map_same h]
  simp
theorem max_if (i j : Int) : (if j > i then j else i) = max i j := by
  by_cases h : j > i
  · rw [if_pos h]; first | lia | omega
  · rw [if_neg h]; first | lia | omega
theorem min_if (i j : Int) : (if j < i then j else i) = min i j := by
  by_cases h : j < i
  · rw [if_pos h]; first | lia | omega
  · rw [if_neg h]; first | lia | omega
theorem ok_least_limits {f : Addr} {fd : FuncData} (F : FunC K "least_limits" "least_limits" sLeastLimits f fd (.ref cc)) (T : Txt K mg cT) (bm : BmAt mg base) (hC : PySem.W.codeHdIn K cc Pt = true)
    (cB : Cal P w K mg base "rows_but_for_limit" 5 ["tower", "above"] (spRowsBut K cT)) (cU : Cal P w K mg base "turned" 1 ["tower", "above", "things"] (spTurned K cT)) (cN : Cal P w K mg base "needed_limit" 3 ["tower", "above", "things"] (spNeededLimit K cT)) :
    FnOk P w K mg base CX0 6 f fd ["tower"] (spLeastLimits Pt K cT) := by
  refine F.ok scLeastLimits (fun vs H Q E h => ?_) (fun A outer s H vs Q E hr h => ?_)
  · obtain ⟨a, t, up, rfl, _⟩ := h
    rfl
  · obtain ⟨a, t, up, rfl, tw, hPt, k⟩ := h
    obtain ⟨dx, w', p, r, u, fs, rs, twa⟩ := id tw
    have hu := hu_of hr
    have hu64 := hr.units
    have hr1 : Room 1 _ := hr.mono (by decide)
    have hr3 : Room 3 _ := hr.mono (by decide)
    refine ⟨_, pss_cons (ps_set (i := 1) scLeastLimits.nd rfl (Or.inr rfl) (pe_disp1T hu (pe_fld (pv 0) rfl) pe_int))
      (pss_cons (ps_set (i := 2) scLeastLimits.nd rfl (Or.inl rfl) (pe_lst (pa_cons (pe_fld (pv 0) rfl) pa_nil)))
      (pss_cons (ps_while PassesOwn.never (pt_cmpR op_gt (pe_callB call_len_seq (by rfl) T.len PySem.boot_len (pa_cons (pv 2) pa_nil)) pe_int (nomark _))
        (pss_cons (ps_set (i := 3) scLeastLimits.nd rfl (Or.inl rfl) (pe_minKey (ps := psL) (iw := 2) (il := 1) (qual := "least_limits.<locals>.<lambda>") hr3 T.min (by rfl) rfl (Or.inl rfl) rfl rfl bm rfl hC rfl rfl rfl (fun _ _ _ _ _ => rfl) rfl rfl rfl rfl))
        (pss_cons (ps_expr (pe_bm PySem.F.plainAttrs_list PySem.F.slot_list_remove PySem.F.type_list_remove (mt_remove hu64) (pv 2) (pa_cons (pv 3) pa_nil)))
        (pss_one (ps_for PassesOwn.never rfl (pi_list (pe_cal cB hr (by rfl) (pa_cons (pv 0) (pa_cons (pv 3) pa_nil)))) (pg_name (i := 4) scLeastLimits.nd rfl (Or.inl rfl))
          (pss_cons (ps_set (i := 5) scLeastLimits.nd rfl (Or.inl rfl) (pe_cal cU hr1 (by rfl) (pa_cons (pv 0) (pa_cons (pv 3) (pa_cons (pv 4) pa_nil)))))
          (pss_cons (ps_set (i := 6) scLeastLimits.nd rfl (Or.inl rfl) (pe_callB (call_max2 rfl) (by rfl) T.max boot_max (pa_cons (pe_dget hu (pv 1) (pv 3) (fun _ _ => rfl)) (pa_cons (pe_cal cN hr3 (by rfl) (pa_cons (pv 0) (pa_cons (pv 3) (pa_cons (pv 4) pa_nil)))) pa_nil))))
          (pss_cons (ps_if (pt_cmp (pc_dnotin hu (pv 5) (pv 1)) (by with_unfolding_all rfl))
            (pss_cons (ps_expr (pe_bm PySem.F.plainAttrs_list PySem.F.slot_list_append PySem.F.type_list_append mt_append (pv 2) (pa_cons (pv 5) pa_nil)))
            (pss_one (ps_dput hu (pv 1) (pv 5) (pv 6) rfl))) pss_nil)
          (pss_one (ps_dput hu (pv 1) (pv 5) (pe_callB (call_min2 rfl) (by rfl) T.min boot_min (pa_cons (pe_dget hu (pv 1) (pv 5) (fun _ _ => rfl)) (pa_cons (pv 6) pa_nil))) rfl))))))))))
      (pss_one (ps_ret (pv 1))))), ?_⟩
    -- limits = {tower.above: 0}
    intro d hd
    have s1 : Same H (upd H d (.dT [])) := Same.new' hd
    refine ⟨_, rfl, a, cT, dx, fs, _, rfl, s1 _ _ twa.obj, T.clT, T.nAbove, twa.fAbove, _, _, rfl, upd_same, u, keyOf up, rfl, by rw [keyOf_kV]; exact s1 _ _ twa.above, ?_⟩
    rw [upd_upd]
    have s2 : Same H (upd H d (.dT [(keyOf up, .int 0)])) := Same.new' hd
    -- waiting = [tower.above]
    refine ⟨_, rfl, a, cT, dx, fs, _, rfl, s2 _ _ twa.obj, T.clT, T.nAbove, twa.fAbove, (by show 1 ≤ sizeLine; decide), fun q hq => ?_⟩
    have s3 := s2.new (o := .lst [.ref u]) hq
    have hqn : H q = none := s2.free hq
    have hdq : d ≠ q := ne_of_none upd_same hq
    have five := twa.five
    have sub := twa.sub
    refine ⟨fun m σ H' => ∃ n, m = 100 - n ∧ LLOut t up H a d q n σ H', ⟨100, 0, rfl, ⟨none, none, none, none, [(up, 0)], [u], [up], rfl, rfl, s3, ⟨?_, upd_same, .cons (s3 _ _ twa.above) .nil⟩, DI.start sub⟩⟩, ?_⟩
    · rw [upd_ne hdq]
      exact upd_same
    rintro m σ H' ⟨n, rfl, ⟨v3, v4, v5, v6, L, us, W, rfl, rfl, sm, S, D⟩⟩
    obtain ⟨hL32, hWL⟩ := D.toDC.len five
    have hlenW := S.tups.len
    refine ⟨_, rfl, q, _, rfl, .inl (SqL.of S.lst), _, _, rfl, rfl, _, rfl, ?_⟩
    rw [List.length_map]
    refine ite2 (fun hc => ?_) (fun hc => ?_)
    · have hne : 0 < us.length := by
        have := of_decide_eq_true hc
        first | lia | omega
      refine ⟨fun σ2 H2 => LLOut t up H a d q (L.length - W.length + 1) σ2 H2, ?_, ?_⟩
      · intro σ2 H2 q
        exact ⟨100 - (L.length - W.length + 1), by first | lia | omega, _, rfl, q⟩
      -- above = min(waiting, key=lambda each: limits[each])
      have hval : ∀ (i : Nat) (b : Addr), us[i]? = some b → ∃ ua va, W[i]? = some ua ∧ H' b = some (.tup (zv ua)) ∧ valL L ua = some va := fun i b hb => by
        obtain ⟨ua, h1, h2⟩ := S.tups.get hb
        obtain ⟨va, h3⟩ := D.wsub ua (List.mem_of_getElem? h1)
        exact ⟨ua, va, h1, h2, h3⟩
      refine ⟨q, d, us, fun i => ((W[i]?).bind (valL L)).getD 0, rfl, rfl, S.lst, hne, sm _ _ hPt, fun i b hb => ?_, fun i b H2 hb hbest s5 => ?_⟩
      · obtain ⟨ua, va, h1, h2, h3⟩ := hval i b hb
        have e : ((W[i]?).bind (valL L)).getD 0 = va := by rw [h1]; show (valL L ua).getD 0 = va; rw [h3]; rfl
        show DGet H' d (.ref b) (some (.int (((W[i]?).bind (valL L)).getD 0)))
        rw [e]
        exact S.get h2 h3
      obtain ⟨ua, la, hWi, hbt, hla⟩ := hval i b hb
      have ei : ((W[i]?).bind (valL L)).getD 0 = la := by rw [hWi]; show (valL L ua).getD 0 = la; rw [hla]; rfl
      have hmin : ∀ w x, w ∈ W → valL L w = some x → la ≤ x := fun w' x hw hx => by
        obtain ⟨j, hj⟩ := List.getElem?_of_mem hw
        have hjl := (List.getElem?_eq_some_iff.mp hj).1
        have : ((W[i]?).bind (valL L)).getD 0 ≤ ((W[j]?).bind (valL L)).getD 0 := (hbest j (by first | lia | omega)).1
        have ej : ((W[j]?).bind (valL L)).getD 0 = x := by rw [hj]; show (valL L w').getD 0 = x; rw [hx]; rfl
        rw [ei, ej] at this
        exact this
      have D1 := D.pick hWi hla hmin
      have S2 := S.same s5
      have hbt2 := s5 _ _ hbt
      -- waiting.remove(above)
      refine ⟨_, rfl, .inl ⟨rfl, _, SqL.of S2.lst⟩, _, rfl, q, b, us, W.map keyOf, keyOf ua, i, rfl, rfl, S2.lst, tups_keys S2.tups, by rw [keyOf_kV]; exact hbt2, by rw [List.getElem?_map, hWi]; rfl, fun m k' hm hk' z => ?_, ?_⟩
      · rw [List.getElem?_map] at hk'
        cases e : W[m]? with
        | none =>
          rw [e] at hk'
          cases hk'
        | some wm =>
          rw [e] at hk'
          have e2 : keyOf wm = keyOf ua := (Option.some.inj hk').trans z
          have e3 := keyOf_inj e2
          subst e3
          have h1 := (List.getElem?_eq_some_iff.mp e).1
          have h2 := (List.getElem?_eq_some_iff.mp hWi).1
          have := (List.getElem_inj D.wnd (h₀ := h1) (h₁ := h2)).mp (by rw [(List.getElem?_eq_some_iff.mp e).2, (List.getElem?_eq_some_iff.mp hWi).2])
          first | lia | omega
      have S3 := S2.rm i
      have s6 : Same H (upd H2 q (.lst ((us.eraseIdx i).map V.ref))) := (sm.trans s5).put hqn
      have hbt3 : upd H2 q (.lst ((us.eraseIdx i).map V.ref)) b = some (.tup (zv ua)) := by
        rw [upd_ne (ne_of hbt2 S2.lst (fun z => nomatch z))]
        exact hbt2
      have hil := (List.getElem?_eq_some_iff.mp hWi).1
      have hWe : (W.eraseIdx i).length = W.length - 1 := by rw [List.length_eraseIdx, if_pos hil]
      generalize hH3 : upd H2 q (.lst ((us.eraseIdx i).map V.ref)) = H3 at S3 s6 hbt3
      -- for row in rows_but_for_limit(tower, above)
      refine ⟨_, rfl, _, rfl, a, b, t, up, ua, rfl, tw.same s6, .inr (SqT.of hbt3), fun H4 D4 cs s7 hD hd4 hcs => ?_⟩
      have S4 := S3.same s7
      have hDd : D4 ≠ d := Ne.symm (ne_of_none S3.dict hD)
      have hDq : D4 ≠ q := Ne.symm (ne_of_none S3.lst hD)
      refine ⟨D4, rfl, ⟨_, SqL.of hd4⟩, for_list (K := K) (a := D4) (xs := cs.map V.ref)
        (fun j σ2 H2 => LLIn t up H H4 a d q b D4 cs ua la (L.length - W.length + 1) j σ2 H2)
        ⟨⟨v4, v5, v6, L, us.eraseIdx i, W.eraseIdx i, rfl, s6.trans s7, fun x xs z => z, hd4, S4, by rw [List.take_zero]; exact D1, by rw [hWe]; first | lia | omega⟩⟩ (by rintro j σ2 H2 _ ⟨⟨_, _, _, _, _, _, _, _, _, z, _⟩⟩; exact SqL.of z) ?_ ?_⟩
      · rintro j y σ2 H5 hj ⟨⟨v4, v5, v6, L5, us5, W5, rfl, sm5, st5, hD5, S5, D5, hl5⟩⟩
        obtain ⟨c, hc2, rfl⟩ : ∃ c, cs[j]? = some c ∧ y = V.ref c := by
          rw [List.getElem?_map] at hj
          cases e : cs[j]? with
          | none =>
            rw [e] at hj
            cases hj
          | some c =>
            rw [e] at hj
            exact ⟨c, rfl, (Option.some.inj hj).symm⟩
        obtain ⟨go, hgo, ec⟩ := hcs.get hc2
        have hfr : go ∈ free t ua := List.mem_of_getElem? hgo
        obtain ⟨g1, g2⟩ := free_good five hfr
        have eb5 : H5 b = some (.tup (zv ua)) := st5 _ _ (s7 _ _ hbt3)
        have ec5 : H5 c = some (.tup (zv go)) := st5 _ _ ec
        have hstep := take_snoc' hgo
        -- behind = turned(tower, above, row)
        refine ⟨_, rfl, _, rfl, _, rfl, a, b, c, t, up, ua, go, rfl, tw.same sm5, .inr (SqT.of eb5), .inr (SqT.of ec5), fun H6 x s8 hx => ?_⟩
        have S6 := S5.same s8
        -- needed = max(limits[above], needed_limit(tower, above, row))
        refine ⟨_, rfl, _, rfl, d, _, rfl, S6.get (s8 _ _ eb5) D5.ha, _, rfl, _, rfl, _, rfl, a, b, c, t, up, ua, go, rfl, tw.same (sm5.trans s8), .inr (SqT.of (s8 _ _ eb5)), .inr (SqT.of (s8 _ _ ec5)), (by first | lia | omega), g2, fun H7 s9 => ?_⟩
        refine ⟨la, needL t ua go, rfl, ?_⟩
        rw [max_if]
        have S7 := S6.same s9
        have hx7 := s9 _ _ hx
        have sm7 := (sm5.trans s8).trans s9
        have hxk : H7 x = some (.tup ((keyOf (Mu45.after t ua go)).map kV)) := by
          rw [keyOf_kV]
          exact hx7
        have hD7 : H7 D4 = some (.lst (cs.map V.ref)) := s9 _ _ (s8 _ _ hD5)
        have st7 : ∀ x xs, H4 x = some (.tup xs) → H7 x = some (.tup xs) := fun z xs h => s9 _ _ (s8 _ _ (st5 _ _ h))
        obtain ⟨hL5, hW5⟩ := D5.toDC.len five
        have hul := S7.tups.len
        -- if behind not in limits
        refine ⟨_, rfl, _, rfl, d, _, rfl, DGet.t S7.dict hxk, _, rfl, ?_⟩
        rw [mkK_val, Option.isSome_map]
        cases hv : valL L5 (Mu45.after t ua go) with
        | none =>
          have D8 := D5.new hfr hv
          rw [← hstep] at D8
          -- waiting.append(behind)
          refine ⟨_, rfl, .inl ⟨rfl, _, SqL.of S7.lst⟩, _, rfl, q, _, _, rfl, rfl, S7.lst, (by rw [List.length_map]; exact small1000 (by first | lia | omega)), ?_⟩
          have S8 := S7.app hx7
          have sm8 : Same H (upd H7 q (.lst (us5.map V.ref ++ [.ref x]))) := sm7.put hqn
          have kt8 : ∀ z xs, H7 z = some (.tup xs) → upd H7 q (.lst (us5.map V.ref ++ [.ref x])) z = some (.tup xs) := fun z xs h => by
            rw [upd_ne (ne_of h S7.lst (fun z => nomatch z))]
            exact h
          have hD8 : upd H7 q (.lst (us5.map V.ref ++ [.ref x])) D4 = some (.lst (cs.map V.ref)) := by
            rw [upd_ne hDq]
            exact hD7
          generalize upd H7 q (.lst (us5.map V.ref ++ [.ref x])) = H8 at S8 sm8 kt8 hD8
          -- limits[behind] = needed
          refine ⟨_, rfl, _, rfl, _, rfl, d, _, rfl, DPut.t S8.dict (kt8 _ _ hxk) (by rw [mkK_len]; exact small1000 (by first | lia | omega)), ?_⟩
          rw [mkK_put]
          have S9 := S8.put (L' := putL L5 (Mu45.after t ua go) (max la (needL t ua go)))
          have sm9 : Same H (upd H8 d (.dT (mkK (putL L5 (Mu45.after t ua go) (max la (needL t ua go)))))) := sm8.put hd
          have kt9 : ∀ z xs, H8 z = some (.tup xs) → upd H8 d (.dT (mkK (putL L5 (Mu45.after t ua go) (max la (needL t ua go))))) z = some (.tup xs) := fun z xs h => by
            rw [upd_ne (ne_of h S8.dict (fun z => nomatch z))]
            exact h
          have hD9 : upd H8 d (.dT (mkK (putL L5 (Mu45.after t ua go) (max la (needL t ua go))))) D4 = some (.lst (cs.map V.ref)) := by
            rw [upd_ne hDd]
            exact hD8
          generalize upd H8 d (.dT (mkK (putL L5 (Mu45.after t ua go) (max la (needL t ua go))))) = H9 at S9 sm9 kt9 hD9
          -- limits[behind] = min(limits[behind], needed)
          have hv9 : valL (putL L5 (Mu45.after t ua go) (max la (needL t ua go))) (Mu45.after t ua go) = some (max la (needL t ua go)) := by rw [valL_put, if_pos rfl]
          have hl9 : (putL L5 (Mu45.after t ua go) (max la (needL t ua go))).length = L5.length + 1 := by
            unfold putL
            rw [hv, if_neg (by simp), List.length_append]
            rfl
          refine ⟨_, rfl, _, rfl, d, _, rfl, S9.get (kt9 _ _ (kt8 _ _ hx7)) hv9, _, rfl, _, _, rfl, ?_⟩
          rw [min_if, Int.min_self]
          refine ⟨_, rfl, _, rfl, d, _, rfl, DPut.t S9.dict (kt9 _ _ (kt8 _ _ hxk)) (by rw [mkK_len, hl9]; exact small1000 (by first | lia | omega)), ?_⟩
          rw [mkK_put]
          have eput : putL (putL L5 (Mu45.after t ua go) (max la (needL t ua go))) (Mu45.after t ua go) (max la (needL t ua go)) = putL L5 (Mu45.after t ua go) (max la (needL t ua go)) := putL_again hv
          rw [eput]
          refine ⟨⟨_, _, _, putL L5 (Mu45.after t ua go) (max la (needL t ua go)), us5 ++ [x], W5 ++ [Mu45.after t ua go], rfl, sm9.put hd, fun z xs h => ?_, ?_, S9.put, D8, ?_⟩⟩
          · rw [upd_ne (ne_of (kt9 _ _ (kt8 _ _ (st7 _ _ h))) S9.dict (fun z => nomatch z))]
            exact kt9 _ _ (kt8 _ _ (st7 _ _ h))
          · rw [upd_ne hDd]
            exact hD9
          · rw [hl9, List.length_append]
            show L5.length + 1 - (W5.length + 1) = _
            first | lia | omega
        | some vb =>
          have D8 := D5.old hfr hv
          rw [← hstep] at D8
          -- limits[behind] = min(limits[behind], needed)
          refine ⟨_, rfl, _, rfl, d, _, rfl, S7.get hx7 hv, _, rfl, _, _, rfl, ?_⟩
          rw [min_if]
          refine ⟨_, rfl, _, rfl, d, _, rfl, DPut.t S7.dict hxk (by rw [mkK_len]; exact small1000 (by first | lia | omega)), ?_⟩
          rw [mkK_put]
          refine ⟨⟨_, _, _, putL L5 (Mu45.after t ua go) (min vb (max la (needL t ua go))), us5, W5, rfl, sm7.put hd, fun z xs h => ?_, ?_, S7.put, D8, ?_⟩⟩
          · rw [upd_ne (ne_of (st7 _ _ h) S7.dict (fun z => nomatch z))]
            exact st7 _ _ h
          · rw [upd_ne hDd]
            exact hD7
          · have : (putL L5 (Mu45.after t ua go) (min vb (max la (needL t ua go)))).length = L5.length := by
              unfold putL
              rw [hv, if_pos (by rfl), List.length_map]
            rw [this]
            exact hl5
      · rintro σ2 H5 ⟨⟨v4, v5, v6, L5, us5, W5, rfl, sm5, st5, hD5, S5, D5, hl5⟩⟩
        rw [List.length_map, hcs.len, List.take_length] at D5
        exact ⟨⟨_, v4, v5, v6, L5, us5, W5, hl5, rfl, sm5, S5, D5.finish⟩⟩
    · -- the end
      have hW : W = [] := by
        refine List.length_eq_zero_iff.mp ?_
        have : ¬ (0 : Int) < (us.length : Int) := fun z => hc (decide_eq_true z)
        first | lia | omega
      subst hW
      exact ⟨_, rfl, k H' d L sm hd S.dict D⟩
end
end TB

set_option Elab.async false
set_option linter.all false
set_option maxRecDepth 100000
set_option maxHeartbeats 4000000
namespace TB
open PySem PySem.Spec PyProof.Rows L2
noncomputable abbrev sAnswerComes : Stmt := top 52
noncomputable abbrev sAnswerLeast : Stmt := top 53
noncomputable abbrev sAnswerLimit : Stmt := top 54
section
variable {P : Program} {w : World} {K : PySem.W.Frag} {mg : Str → Option Value} {base : Heap} {Pt cT cB : Addr}
noncomputable def spAnswerComes (K : PySem.W.Frag) (cT : Addr) : Sp := fun vs H Q _ => ∃ (a : Addr) (t : Mu45.Tower) (up : List Nat), vs = [.ref a] ∧ Tw cT H a t up ∧ ∀ H' D, Same H H' → H D = none → H' D = some (.lst [.int ((Mu45.comes t up).length : Int)]) → Q (.ref D) H'
theorem scAnswerComes : FnScope ["tower"] ["tower"] (defScope sAnswerComes) := ⟨rfl, rfl, rfl, by decide +kernel, rfl, by decide +kernel, by decide +kernel⟩
theorem ok_answer_comes {f : Addr} {fd : FuncData} (F : Fun K "answer_comes" "answer_comes" sAnswerComes f fd) (T : Txt K mg cT) (cF : Cal P w K mg base "first_ways" 6 ["tower"] (spFirstWays K cT)) : FnOk P w K mg base CX0 7 f fd ["tower"] (spAnswerComes K cT) := by
  refine F.ok scAnswerComes (fun vs H Q E h => ?_) (fun cdv A outer s H vs Q E hr h => ?_)
  · obtain ⟨a, t, up, rfl, _⟩ := h
    rfl
  · obtain ⟨a, t, up, rfl, tw, k⟩ := h
    refine ⟨_, pss_one (ps_ret (pe_lst (pa_cons (pe_callB cr_lenT (by rfl) T.len PySem.boot_len (pa_cons (pe_cal cF hr (by rfl) (pa_cons (pv 0) pa_nil)) pa_nil)) pa_nil))), ?_⟩
    refine ⟨_, rfl, a, t, up, rfl, tw, fun H1 d q kvs s1 hd hd1 hw => ?_⟩
    refine ⟨d, kvs, rfl, hd1, (by show 1 ≤ sizeLine; decide), fun D hD => k _ D (s1.new hD) (s1.free hD) ?_⟩
    rw [upd_same, hw.len]
noncomputable def leastA : Option Nat → Int
  | none => -6
  | some d => (d : Int)
noncomputable def spAnswerLeast (Pt : Addr) (K : PySem.W.Frag) (cT : Addr) : Sp := fun vs H Q _ => ∃ (a : Addr) (t : Mu45.Tower) (up : List Nat), vs = [.ref a] ∧ Tw cT H a t up ∧ H Pt = some (.tbl psL) ∧ ∀ H' D, Same H H' → H D = none → H' D = some (.lst [.int (leastA (Mu45.leastGap t up))]) → Q (.ref D) H'
theorem scAnswerLeast : FnScope ["tower", "limits", "enough", "above"] ["tower"] (defScope sAnswerLeast) := ⟨rfl, rfl, rfl, by decide +kernel, rfl, by decide +kernel, by decide +kernel⟩
open Classical in
noncomputable def keepSafe (t : Mu45.Tower) (kv : List Key × V) : Option V := if ∃ u, kv.1 = keyOf u ∧ Mu45.safe t u = true then some kv.2 else none
theorem keepSafe_eq (t : Mu45.Tower) (u : List Nat) (v : V) : keepSafe t (keyOf u, v) = if Mu45.safe t u = true then some v else none := by
  unfold keepSafe
  by_cases h : Mu45.safe t u = true
  · rw [if_pos ⟨u, rfl, h⟩, if_pos h]
  · rw [if_neg h, if_neg]
    rintro ⟨u', e, h'⟩
    exact h (by rw [keyOf_inj e]; exact h')
theorem keepSafe_fm (t : Mu45.Tower) : ∀ L : Lims, (mkK L).filterMap (keepSafe t) = (enough t L).map V.int
  | [] => rfl
  | p :: L => by
    have ih := keepSafe_fm t L
    show ((keyOf p.1, V.int p.2) :: mkK L).filterMap (keepSafe t) = _
    rw [List.filterMap_cons, keepSafe_eq]
    unfold enough at ih ⊢
    rw [List.filter_cons]
    by_cases h : Mu45.safe t p.1 = true
    · rw [if_pos h, if_pos h, ih]
      rfl
    · rw [if_neg h, if_neg h]
      exact ih
theorem mkK_at {L : Lims} {i : Nat} {k : List Key} {v : V} (h : (mkK L)[i]? = some (k, v)) : ∃ p, L[i]? = some p ∧ k = keyOf p.1 ∧ v = .int p.2 := by
  unfold mkK at h
  rw [List.getElem?_map] at h
  cases e : L[i]? with
  | none =>
    rw [e] at h
    cases h
  | some p =>
    rw [e] at h
    have h' := Option.some.inj h
    injection h' with h1 h2
    exact ⟨p, rfl, h1.symm, h2.symm⟩
theorem ok_answer_least {f : Addr} {fd : FuncData} (F : Fun K "answer_least" "answer_least" sAnswerLeast f fd) (T : Txt K mg cT) (cL : Cal P w K mg base "least_limits" 6 ["tower"] (spLeastLimits Pt K cT)) (cP : Cal P w K mg base "person_among" 1 ["tower", "numbers"] (spPersonAmong K cT)) :
    FnOk P w K mg base CX0 7 f fd ["tower"] (spAnswerLeast Pt K cT) := by
  refine F.ok scAnswerLeast (fun vs H Q E h => ?_) (fun cdv A outer s H vs Q E hr h => ?_)
  · obtain ⟨a, t, up, rfl, _⟩ := h
    rfl
  · obtain ⟨a, t, up, rfl, tw, hPt, k⟩ := h
    have hr1 : Room 1 _ := hr.mono (by decide)
    have hu := hu_of hr
    obtain ⟨dx, w', p, r, u0, fs, rs, twa⟩ := id tw
    have sub := twa.sub
    have five := twa.five
    refine ⟨_, pss_cons (ps_set (i := 1) scAnswerLeast.nd rfl (Or.inr rfl) (pe_cal cL hr (by rfl) (pa_cons (pv 0) pa_nil)))
      (pss_cons (ps_lock (ps_setLc (i := 2) (own := [("above", 3)]) (te := tDGet (tVar 1) (tVar 3)) (tt := tNot (tB (tCall (spPersonAmong K cT) [] E0 (tCons (tVar 0) (tCons (tVar 3) tNil))))) rfl scAnswerLeast.nd rfl rfl (sw_true rfl rfl rfl rfl) (pi_keys (pv 1)) (blkOk_by (by kernel_rfl))
        (by exact fun _ _ _ _ _ => pg_name (i := 3) scAnswerLeast.nd rfl (Or.inl rfl)) (by exact fun _ _ _ _ _ => pts_one (pt_not (pt_val (pe_cal cP hr1 (by rfl) (pa_cons (pv 0) (pa_cons (pv 3) pa_nil)))))) (by exact fun _ _ _ _ _ => pe_dget hu (pv 1) (pv 3) (fun _ _ => rfl))))
      (pss_cons (ps_if (pw_or (pt_cmpR op_eq (pe_callB call_len_seq (by rfl) T.len PySem.boot_len (pa_cons (pv 2) pa_nil)) pe_int (nomark _)) (pw_or1 (pt_cmpR op_gt (pe_callB (cr_min rfl) (by rfl) T.min boot_min (pa_cons (pv 2) pa_nil)) (pe_num T.gMOST_LIMIT) (nomark _)))).pt
        (pss_one (ps_ret (pe_lst (pa_cons (pe_num T.gNO_WAY) pa_nil)))) pss_nil)
      (pss_one (ps_ret (pe_lst (pa_cons (pe_callB (cr_min rfl) (by rfl) T.min boot_min (pa_cons (pv 2) pa_nil)) pa_nil)))))), ?_⟩
    refine ⟨_, rfl, a, t, up, rfl, tw, hPt, fun H1 d L s1 hd hd1 DIx => ?_⟩
    obtain ⟨hL32, _⟩ := DIx.toDC.len five
    refine ⟨d, _, hd1, True.intro, fun od => ?_⟩
    have sl : Same H (upd H1 d (.frz od (.dT (mkK L)))) := s1.put hd
    refine ⟨_, rfl, d, od, rfl, .inr ⟨mkK L, upd_same, fun D hD => lc_keys (keepSafe t) upd_same hD (by rw [mkK_len]; exact small1000 (by first | lia | omega)) ?_ ?_⟩⟩
    · intro i key v b hk H2 acc Y N sm hacc hb hY hN
      obtain ⟨pr, hpr, rfl, rfl⟩ := mkK_at hk
      rw [keyOf_kV] at hb
      have hval : valL L pr.1 = some pr.2 := (valL_some DIx.nd).mpr (List.mem_of_getElem? hpr)
      have hln : pr.1.length ≤ 5 := by
        have := (DIx.sub _ _ hval).length_le
        rw [List.length_range] at this
        first | lia | omega
      refine ⟨rfl, _, rfl, _, rfl, a, b, t, up, pr.1, rfl, tw.same (sl.trans sm), .inr (SqT.of hb), (by first | lia | omega), fun H3 s3 => ⟨_, rfl, ?_⟩⟩
      show if (Mu45.safe t pr.1) = true then _ else _
      refine ite2 (fun c1 => ⟨_, rfl, _, rfl, d, V.int pr.2, rfl, ?_, hY _ _ ?_ (sm.trans s3) (s3 _ _ hacc)⟩) (fun c1 => hN _ ?_ (sm.trans s3) (s3 _ _ hacc))
      · refine .inr ⟨mkK L, keyOf pr.1, b, .inr ⟨od, s3 _ _ (sm _ _ upd_same)⟩, rfl, by rw [keyOf_kV]; exact s3 _ _ hb, ?_⟩
        rw [mkK_val, hval]
        rfl
      · rw [keepSafe_eq, if_pos c1]
      · rw [keepSafe_eq, if_neg c1]
    · intro H2 s2 hD2
      rw [keepSafe_fm] at hD2
      have hd2 : H2 d = some (.frz od (.dT (mkK L))) := s2 _ _ upd_same
      have hDd : D ≠ d := Ne.symm (ne_of_none upd_same hD)
      refine ⟨hd2, ?_⟩
      have sF : Same H (upd H2 d (.dT (mkK L))) := fun z o hz => by
        by_cases hzd : z = d
        · subst hzd
          rw [hd] at hz
          cases hz
        · rw [upd_ne hzd]
          exact s2 _ _ (sl _ _ hz)
      have hDF : upd H2 d (.dT (mkK L)) D = some (.lst ((enough t L).map V.int)) := by
        rw [upd_ne hDd]
        exact hD2
      generalize upd H2 d (.dT (mkK L)) = HF at sF hDF
      refine ⟨_, rfl, D, _, rfl, .inl (SqL.of hDF), rfl, _, rfl, ?_⟩
      rw [List.length_map, dec_int]
      cases en : enough t L with
      | nil =>
        have e := least_none sub five DIx (fun x hx => by rw [en] at hx; cases hx)
        rw [e] at k
        exact ⟨(by show 1 ≤ sizeLine; decide), fun D2 hD2 => k _ D2 (sF.new hD2) (sF.free hD2) upd_same⟩
      | cons x0 xr =>
        have hpos : 0 < (enough t L).length := by rw [en]; simp
        refine ite2 (fun z => ?_) (fun _ => ?_)
        · exfalso
          have := eq_of_beq z
          simp at this
          first | lia | omega
        · rw [en] at hDF
          refine ⟨_, rfl, D, _, rfl, SqL.of hDF, (by simp), fun m hm hle => ?_⟩
          rw [← en] at hm hle hDF
          refine ⟨_, _, rfl, rfl, _, rfl, ?_⟩
          refine ite2 (fun c1 => ?_) (fun c1 => ?_)
          · have c1' : (300 : Int) < m := of_decide_eq_true c1
            have e := least_none sub five DIx (fun x hx => Int.lt_of_lt_of_le c1' (hle x hx))
            rw [e] at k
            exact ⟨(by show 1 ≤ sizeLine; decide), fun D2 hD2 => k _ D2 (sF.new hD2) (sF.free hD2) upd_same⟩
          · have c1' : m ≤ 300 := by
              by_cases z : m ≤ 300
              · exact z
              · exact absurd (decide_eq_true (show (300 : Int) < m by first | lia | omega)) c1
            refine ⟨_, rfl, D, _, rfl, SqL.of hDF, hpos, fun m2 hm2 hle2 => ?_⟩
            have em : m2 = m := Int.le_antisymm (hle2 m hm) (hle m2 hm2)
            subst em
            obtain ⟨h0, e⟩ := least_some sub five DIx hm2 hle2 c1'
            rw [e] at k
            refine ⟨(by show 1 ≤ sizeLine; decide), fun D2 hD2 => k _ D2 (sF.new hD2) (sF.free hD2) ?_⟩
            rw [upd_same]
            show some (HO.lst [V.int m2]) = some (HO.lst [V.int ((m2.toNat : Nat) : Int)])
            congr 4
            first | lia | omega
theorem TwAt.limit {cT : Addr} {H : Hp} {a dx w p r u : Addr} {fs : List (Str × V)} {rs : List Addr} {t : Mu45.Tower} {up : List Nat} {d : Nat} (T : TwAt cT H a dx w p r u fs rs t up) :
    TwAt cT (upd H a (.ins cT dx (putF "limit" (.int (d : Int)) fs))) a dx w p r u (putF "limit" (.int (d : Int)) fs) rs (lim t d) up where
  obj := upd_same
  few := by rw [putF_len T.fLimit]; exact T.few
  fLimit := by rw [lookup_putF, if_pos rfl]
  fHolds := by rw [lookup_putF, if_neg (by decide +kernel)]; exact T.fHolds
  fWeights := by rw [lookup_putF, if_neg (by decide +kernel)]; exact T.fWeights
  fPeople := by rw [lookup_putF, if_neg (by decide +kernel)]; exact T.fPeople
  fRows := by rw [lookup_putF, if_neg (by decide +kernel)]; exact T.fRows
  fAbove := by rw [lookup_putF, if_neg (by decide +kernel)]; exact T.fAbove
  ws := by rw [upd_ne (ne_of T.ws T.obj (fun z => nomatch z))]; exact T.ws
  ps := by rw [upd_ne (ne_of T.ps T.obj (fun z => nomatch z))]; exact T.ps
  rows := by rw [upd_ne (ne_of T.rows T.obj (fun z => nomatch z))]; exact T.rows
  each := Paired.mapP T.each (fun b row h => by rw [upd_ne (ne_of h T.obj (fun z => nomatch z))]; exact h)
  above := by rw [upd_ne (ne_of T.above T.obj (fun z => nomatch z))]; exact T.above
  five := T.five
  sub := T.sub
noncomputable def spAnswerLimit (cT : Addr) : Sp := fun vs H Q _ => ∃ (a g : Addr) (st : Mu45.State) (d : Nat), vs = [.ref a, .int (d : Int)] ∧ TwS cT g H a st ∧
  ∀ H' D, TwS cT g H' a (if 300 < d then st else { st with tower := lim st.tower d }) → But a H H' → H D = none → H' D = some (.lst [.int (if 300 < d then -1 else (st.tower.unlike : Int))]) → Q (.ref D) H'
theorem scAnswerLimit : FnScope ["tower", "limit", "before"] ["tower", "limit"] (defScope sAnswerLimit) := ⟨rfl, rfl, rfl, by decide +kernel, rfl, by decide +kernel, by decide +kernel⟩
theorem ok_answer_limit {f : Addr} {fd : FuncData} (F : Fun K "answer_limit" "answer_limit" sAnswerLimit f fd) (T : Txt K mg cT) : FnOk P w K mg base CX0 1 f fd ["tower", "limit"] (spAnswerLimit cT) := by
  refine F.ok scAnswerLimit (fun vs H Q E h => ?_) (fun cdv A outer s H vs Q E hr h => ?_)
  · obtain ⟨a, g, st, d, rfl, _⟩ := h
    rfl
  · obtain ⟨a, g, st, d, rfl, tws, k⟩ := h
    refine ⟨_, pss_cons (ps_if (pt_cmpR op_gt (pv 1) (pe_num T.gMOST_LIMIT) (nomark _)) (pss_one (ps_ret (pe_lst (pa_cons (pe_num T.gWRONG) pa_nil)))) pss_nil)
      (pss_cons (ps_set (i := 2) scAnswerLimit.nd rfl (Or.inl rfl) (pe_fld (pv 0) rfl)) (pss_cons (ps_fld (pv 0) (pv 1) rfl) (pss_one (ps_ret (pe_lst (pa_cons (pv 2) pa_nil)))))), ?_⟩
    refine ⟨_, rfl, _, _, rfl, rfl, _, rfl, ?_⟩
    refine ite2 (fun c1 => ?_) (fun c1 => ?_)
    · have c1' : 300 < d := by
        have := of_decide_eq_true c1
        first | lia | omega
      rw [if_pos c1', if_pos c1'] at k
      exact ⟨(by show 1 ≤ sizeLine; decide), fun D hD => k _ D (tws.same (Same.new' hD)) (But.of (Same.new' hD)) hD upd_same⟩
    · have c1' : ¬ 300 < d := fun z => c1 (decide_eq_true (by first | lia | omega))
      rw [if_neg c1', if_neg c1'] at k
      obtain ⟨dx, w', p, r, u0, fs, rs, twa, hm, q⟩ := id tws
      refine ⟨_, rfl, a, cT, dx, fs, _, rfl, twa.obj, T.clT, T.nLimit, twa.fLimit, ?_⟩
      refine ⟨_, rfl, _, rfl, a, cT, dx, fs, rfl, twa.obj, T.clT, T.nLimit, (by have := twa.few; first | lia | omega), ?_⟩
      refine ⟨_, rfl, (by show 1 ≤ sizeLine; decide), fun D hD => ?_⟩
      have twa2 := twa.limit (d := d)
      have hDa : D ≠ a := Ne.symm (ne_of_none upd_same hD)
      have b2 : But a H (upd H a (.ins cT dx (putF "limit" (.int (d : Int)) fs))) := (But.of (Same.refl H)).upd
      refine k _ D ⟨dx, w', p, r, u0, _, rs, twa2.same (Same.new' hD), ?_, q⟩ (b2.new hD) (b2.free hD hDa) upd_same
      rw [lookup_putF, if_neg (by decide +kernel)]
      exact hm
end
end TB

set_option Elab.async false
set_option linter.all false
set_option maxRecDepth 100000
set_option maxHeartbeats 4000000
namespace TB
open PySem PySem.Spec PyProof.Rows L2
noncomputable abbrev sAnswerFollow : Stmt := top 55
noncomputable abbrev sAnswerLook : Stmt := top 56
theorem turns_tower (st : Mu45.State) : ∀ l : List (List Nat), (l.foldl turnS st).tower = st.tower := by
  intro l
  induction l generalizing st with
  | nil => rfl
  | cons x l ih =>
    rw [List.foldl_cons, ih]
    rfl
theorem turns_made (st : Mu45.State) : ∀ l : List (List Nat), (l.foldl turnS st).made = st.made + l.length := by
  intro l
  induction l generalizing st with
  | nil => rfl
  | cons x l ih =>
    rw [List.foldl_cons, ih]
    show st.made + 1 + l.length = _
    rw [List.length_cons]
    first | lia | omega
theorem turns_up (st : Mu45.State) : ∀ l : List (List Nat), (l.foldl turnS st).up = l.foldl (fun u go => Mu45.after st.tower u go) st.up := by
  intro l
  induction l generalizing st with
  | nil => rfl
  | cons x l ih =>
    rw [List.foldl_cons, List.foldl_cons, ih]
    rfl
noncomputable def followS (st : Mu45.State) (n : Nat) : Mu45.State × List Int := match Mu45.wayTo st.tower st.up (Mu45.safe st.tower) with
  | none => (st, [-6])
  | some w => if n = 0 ∨ w.1.length < n then (st, [-1]) else ((w.1.take n).foldl turnS st, rowT ((w.1.take n).foldl turnS st).up)
theorem cut_take (xs : List V) (n : Nat) : cutV xs none (some (n : Int)) = xs.take n := by
  unfold cutV
  rw [HT.sIx_none, HT.sIx_nat, List.drop_zero, Nat.sub_zero]
  by_cases h : n ≤ xs.length
  · rw [Nat.min_eq_left h]
  · rw [Nat.min_eq_right (by first | lia | omega), List.take_length, List.take_of_length_le (by first | lia | omega)]
theorem paired_take {α β : Type} {F : α → β → Prop} : ∀ {l : List α} {m : List β} (n : Nat), Paired F l m → Paired F (l.take n) (m.take n)
  | _, _, 0, _ => .nil
  | _, _, _ + 1, .nil => .nil
  | _, _, n + 1, .cons h t => .cons h (paired_take n t)
theorem TwS.obj {cT g : Addr} {H : Hp} {a : Addr} {st : Mu45.State} (T : TwS cT g H a st) : ∃ dx fs, H a = some (.ins cT dx fs) := by
  obtain ⟨dx, w, p, r, u, fs, rs, T, _⟩ := T
  exact ⟨dx, fs, T.obj⟩
section
variable {P : Program} {w : World} {K : PySem.W.Frag} {mg : Str → Option Value} {base : Heap} {Pt cT cB : Addr}
noncomputable def spAnswerFollow (cT : Addr) : Sp := fun vs H Q _ => ∃ (a g : Addr) (st : Mu45.State) (n : Nat), vs = [.ref a, .int (n : Int)] ∧ TwS cT g H a st ∧
  ∀ H' D, TwS cT g H' a (followS st n).1 → But a H H' → H D = none → H' D = some (.lst ((followS st n).2.map V.int)) → Q (.ref D) H'
theorem scAnswerFollow : FnScope ["tower", "count", "way", "row"] ["tower", "count"] (defScope sAnswerFollow) := ⟨rfl, rfl, rfl, by decide +kernel, rfl, by decide +kernel, by decide +kernel⟩
theorem ok_answer_follow {f : Addr} {fd : FuncData} (F : Fun K "answer_follow" "answer_follow" sAnswerFollow f fd) (T : Txt K mg cT) (cF : Cal P w K mg base "fewest_way" 7 ["tower"] (spFewestWay K cT)) (cM : Cal P w K mg base "make_turn" 2 ["tower", "things"] (spMakeTurn K cT)) (cR : Cal P w K mg base "told_row" 1 ["row"] (spToldRow K)) :
    FnOk P w K mg base CX0 8 f fd ["tower", "count"] (spAnswerFollow cT) := by
  refine F.ok scAnswerFollow (fun vs H Q E h => ?_) (fun cdv A outer s H vs Q E hr h => ?_)
  · obtain ⟨a, g, st, n, rfl, _⟩ := h
    rfl
  · obtain ⟨a, g, st, n, rfl, tws, k⟩ := h
    have hr1 : Room 1 _ := hr.mono (by decide)
    have hr2 : Room 2 _ := hr.mono (by decide)
    refine ⟨_, pss_cons (ps_set (i := 2) scAnswerFollow.nd rfl (Or.inl rfl) (pe_cal cF hr (by rfl) (pa_cons (pv 0) pa_nil)))
      (pss_cons (ps_if (pt_cmp (pc_isN (pv 2)) (by with_unfolding_all rfl)) (pss_one (ps_ret (pe_lst (pa_cons (pe_num T.gNO_WAY) pa_nil)))) pss_nil)
      (pss_cons (ps_if (pw_or (pt_cmpR op_eq (pv 1) pe_int (nomark _)) (pw_or1 (pt_cmpR op_gt (pv 1) (pe_callB call_len_seq (by rfl) T.len PySem.boot_len (pa_cons (pv 2) pa_nil)) (nomark _)))).pt (pss_one (ps_ret (pe_lst (pa_cons (pe_num T.gWRONG) pa_nil)))) pss_nil)
      (pss_cons (ps_for PassesOwn.never rfl (pi_list (pe_slice sl_list (pv 2) po_none (po_some (pv 1)))) (pg_name (i := 3) scAnswerFollow.nd rfl (Or.inl rfl))
        (pss_one (ps_expr (pe_cal cM hr2 (by rfl) (pa_cons (pv 0) (pa_cons (pv 3) pa_nil))))))
      (pss_one (ps_ret (pe_cal cR hr1 (by rfl) (pa_cons (pe_fld (pv 0) rfl) pa_nil))))))), ?_⟩
    obtain ⟨dx, w', p, r, u0, fs, rs, twa, hm, q⟩ := id tws
    have sub := twa.sub
    have five := twa.five
    refine ⟨_, rfl, a, st.tower, st.up, rfl, tws.tw, fun H1 v s1 hv => ?_⟩
    unfold followS at k
    cases e : Mu45.wayTo st.tower st.up (Mu45.safe st.tower) with
    | none =>
      rw [e] at hv k
      cases hv
      refine ⟨_, rfl, _, rfl, ?_⟩
      exact ⟨(by show 1 ≤ sizeLine; decide), fun D hD => k _ D (tws.same (s1.new hD)) (But.of (s1.new hD)) (s1.free hD) upd_same⟩
    | some wy =>
      rw [e] at hv
      simp only [e] at k
      obtain ⟨pw, rs', rfl, hpw, htw⟩ := hv
      obtain ⟨q1, q2, q3, q4⟩ := way_fits sub five (way_from e)
      refine ⟨_, rfl, _, rfl, ?_⟩
      have hlen := htw.len
      -- count == 0 or count > len(way)
      have wrong : n = 0 ∨ wy.1.length < n → ∀ D, H1 D = none → Q (.ref D) (upd H1 D (.lst [.int (-1)])) := fun z D hD => by
        rw [if_pos z] at k
        exact k _ D (tws.same (s1.new hD)) (But.of (s1.new hD)) (s1.free hD) upd_same
      refine ⟨_, rfl, rfl, _, rfl, ?_⟩
      rw [dec_int]
      refine ite2 (fun c0 => ?_) (fun c0 => ?_)
      · have hn : n = 0 := by
          have := eq_of_beq c0
          first | lia | omega
        exact ⟨(by show 1 ≤ sizeLine; decide), fun D hD => wrong (.inl hn) D hD⟩
      · refine ⟨_, rfl, _, rfl, pw, _, rfl, .inl (SqL.of hpw), _, _, rfl, rfl, _, rfl, ?_⟩
        rw [List.length_map]
        refine ite2 (fun c1 => ?_) (fun c1 => ?_)
        · have hn : wy.1.length < n := by
            have := of_decide_eq_true c1
            first | lia | omega
          exact ⟨(by show 1 ≤ sizeLine; decide), fun D hD => wrong (.inr hn) D hD⟩
        · have hn : ¬ (n = 0 ∨ wy.1.length < n) := by
            rintro (z | z)
            · exact c0 (by rw [z]; rfl)
            · exact c1 (decide_eq_true (by first | lia | omega))
          rw [if_neg hn] at k
          -- for row in way[:count]
          refine ⟨_, rfl, _, rfl, _, rfl, pw, _, rfl, SqL.of hpw, fun D hD => ?_⟩
          rw [cut_take, ← List.map_take]
          have s2 := s1.new (o := .lst ((rs'.take n).map V.ref)) hD
          have tk := paired_take n (htw.same (Same.new' (o := .lst ((rs'.take n).map V.ref)) hD))
          have hDn : H D = none := s1.free hD
          refine ⟨D, rfl, ⟨_, SqL.of upd_same⟩, for_list (K := K) (a := D) (xs := (rs'.take n).map V.ref)
            (fun j σ2 H2 => ∃ v3, σ2 = [some (.ref a), some (.int (n : Int)), some (.ref pw), v3] ∧ TwS cT g H2 a (((wy.1.take n).take j).foldl turnS st) ∧ But a (upd H1 D (.lst ((rs'.take n).map V.ref))) H2)
            ⟨none, rfl, by rw [List.take_zero]; exact tws.same s2, But.of (Same.refl _)⟩ (fun j σ2 H2 _ ⟨_, _, tw2, b2⟩ => ?_) ?_ ?_⟩
          · obtain ⟨dx2, fs2, ho2⟩ := (tws.same s2).obj
            exact SqL.of (b2 _ _ upd_same (ne_of upd_same ho2 (fun z => nomatch z)))
          · rintro j y σ2 H2 hj ⟨v3, rfl, tw2, b2⟩
            obtain ⟨c, hc2, rfl⟩ : ∃ c, (rs'.take n)[j]? = some c ∧ y = V.ref c := by
              rw [List.getElem?_map] at hj
              cases e2 : (rs'.take n)[j]? with
              | none =>
                rw [e2] at hj
                cases hj
              | some c =>
                rw [e2] at hj
                exact ⟨c, rfl, (Option.some.inj hj).symm⟩
            obtain ⟨go, hgo, ec⟩ := paired_at tk hc2
            obtain ⟨dx2, fs2, ho2⟩ := (tws.same s2).obj
            have ec2 := b2 _ _ ec (ne_of ec ho2 (fun z => nomatch z))
            refine ⟨_, rfl, _, rfl, a, c, g, _, go, rfl, tw2, .inr (SqT.of ec2), fun H3 tw3 b3 => ⟨_, rfl, ?_, b2.trans b3⟩⟩
            rw [take_snoc' hgo, List.foldl_append]
            exact tw3
          · rintro σ2 H2 ⟨v3, rfl, tw2, b2⟩
            rw [List.length_map, Paired.length tk, List.take_length] at tw2
            obtain ⟨dx2, w2, p2, r2, u2, fs2, rs2, twa2, hm2, q2⟩ := id tw2
            have hup5 : ((wy.1.take n).foldl turnS st).up.length ≤ 5 := by
              have := twa2.sub.length_le
              rw [List.length_range] at this
              have := twa2.five
              first | lia | omega
            refine ⟨_, rfl, a, cT, dx2, fs2, _, rfl, twa2.obj, T.clT, T.nAbove, twa2.fAbove, u2, _, rfl, twa2.above, (by first | lia | omega), fun H5 D5 s5 hD5 hd5 => ?_⟩
            have b5 : But a H H5 := ((But.of s2).trans b2).trans (But.of s5)
            have hDa : D5 ≠ a := Ne.symm (ne_of_none twa2.obj hD5)
            have hD5n : H D5 = none := ((But.of s2).trans b2).free hD5 hDa
            exact k _ D5 (tw2.same s5) b5 hD5n hd5
noncomputable def lookN (st : Mu45.State) (l : List Mu45.Thing) : List Int := [(st.made : Int), (st.tower.unlike : Int), (st.tower.holds : Int)] ++ l.flatMap fun x => [(x.heavy : Int), if x.person = true then 1 else 0]
noncomputable def spAnswerLook (cT : Addr) : Sp := fun vs H Q _ => ∃ (a g : Addr) (st : Mu45.State), vs = [.ref a] ∧ TwS cT g H a st ∧ ∀ H' D, Same H H' → H D = none → H' D = some (.lst ((lookN st st.tower.things ++ rowT st.up).map V.int)) → Q (.ref D) H'
theorem scAnswerLook : FnScope ["tower", "numbers", "number"] ["tower"] (defScope sAnswerLook) := ⟨rfl, rfl, rfl, by decide +kernel, rfl, by decide +kernel, by decide +kernel⟩
theorem lookN_len (st : Mu45.State) (l : List Mu45.Thing) : (lookN st l).length = 3 + 2 * l.length := by
  unfold lookN
  rw [List.length_append]
  have : (l.flatMap fun x => [(x.heavy : Int), if x.person = true then 1 else 0]).length = 2 * l.length := by
    induction l with
    | nil => rfl
    | cons x l ih =>
      rw [List.flatMap_cons, List.length_append, ih, List.length_cons]
      simp
      first | lia | omega
  rw [this]
  rfl
theorem lookN_snoc (st : Mu45.State) {l : List Mu45.Thing} {j : Nat} {x : Mu45.Thing} (h : l[j]? = some x) : lookN st (l.take (j + 1)) = lookN st (l.take j) ++ [(x.heavy : Int)] ++ [if x.person = true then 1 else 0] := by
  unfold lookN
  rw [take_snoc' h, List.flatMap_append]
  simp
theorem ok_answer_look {f : Addr} {fd : FuncData} (F : Fun K "answer_look" "answer_look" sAnswerLook f fd) (T : Txt K mg cT) (cR : Cal P w K mg base "told_row" 1 ["row"] (spToldRow K)) : FnOk P w K mg base CX0 2 f fd ["tower"] (spAnswerLook cT) := by
  refine F.ok scAnswerLook (fun vs H Q E h => ?_) (fun cdv A outer s H vs Q E hr h => ?_)
  · obtain ⟨a, g, st, rfl, _⟩ := h
    rfl
  · obtain ⟨a, g, st, rfl, tws, k⟩ := h
    refine ⟨_, pss_cons (ps_set (i := 1) scAnswerLook.nd rfl (Or.inl rfl) (pe_lst (pa_cons (pe_fld (pv 0) rfl) (pa_cons (pe_fld (pv 0) rfl) (pa_cons (pe_fld (pv 0) rfl) pa_nil)))))
      (pss_cons (ps_for PassesOwn.never rfl (pi_range1 (by rfl) T.range (pa_cons (pe_callB call_len_seq (by rfl) T.len PySem.boot_len (pa_cons (pe_fld (pv 0) rfl) pa_nil)) pa_nil)) (pg_name (i := 2) scAnswerLook.nd rfl (Or.inl rfl))
        (pss_cons (ps_expr (pe_bm PySem.F.plainAttrs_list PySem.F.slot_list_append PySem.F.type_list_append mt_append (pv 1) (pa_cons (pe_ix ix_list (pe_fld (pv 0) rfl) (pv 2) (fun _ _ => rfl)) pa_nil)))
        (pss_one (ps_expr (pe_bm PySem.F.plainAttrs_list PySem.F.slot_list_append PySem.F.type_list_append mt_append (pv 1) (pa_cons (pe_ifExp (pt_cmpR op_in_seq (pv 2) (pe_fld (pv 0) rfl) (by with_unfolding_all rfl)) (pe_num T.gPERSON) (pe_num T.gSTONE)) pa_nil))))))
      (pss_one (ps_ret (pe_op op_cat (pv 1) (pe_cal cR hr (by rfl) (pa_cons (pe_fld (pv 0) rfl) pa_nil)))))), ?_⟩
    obtain ⟨dx, w', p, r, u0, fs, rs, twa, hm, q⟩ := id tws
    have five := twa.five
    have sub := twa.sub
    refine ⟨_, rfl, a, cT, dx, fs, _, rfl, twa.obj, T.clT, T.nMade, hm, _, rfl, a, cT, dx, fs, _, rfl, twa.obj, T.clT, T.nLimit, twa.fLimit, _, rfl, a, cT, dx, fs, _, rfl, twa.obj, T.clT, T.nHolds, twa.fHolds, (by show 3 ≤ sizeLine; decide), fun N hN => ?_⟩
    have s1 := Same.new' (o := .lst [.int (st.made : Int), .int (st.tower.unlike : Int), .int (st.tower.holds : Int)]) hN
    have twa1 := twa.same s1
    refine ⟨_, rfl, a, cT, dx, fs, _, rfl, twa1.obj, T.clT, T.nWeights, twa1.fWeights, w', _, rfl, .inl (SqL.of twa1.ws), (st.tower.things.length : Int), by rw [List.length_map], (by first | lia | omega), (by first | lia | omega), ?_⟩
    rw [Int.toNat_natCast]
    refine for_range (lo := 0) (n := st.tower.things.length) (fun i σ H' => ∃ v2, σ = [some (.ref a), some (.ref N), v2] ∧ Same H H' ∧ H' N = some (.lst ((lookN st (st.tower.things.take i)).map V.int))) ⟨none, rfl, s1, upd_same⟩ ?_ ?_
    · rintro i σ H2 hi ⟨v2, rfl, sm, hN2⟩
      have twa2 := twa.same sm
      obtain ⟨x, hx⟩ : ∃ x, st.tower.things[i]? = some x := ⟨_, List.getElem?_eq_getElem hi⟩
      have hlen := lookN_len st (st.tower.things.take i)
      rw [List.length_take] at hlen
      have hw : wAt st.tower i = x.heavy := by unfold wAt; rw [hx]
      have hp : pAt st.tower i = x.person := by unfold pAt; rw [hx]
      rw [Int.zero_add]
      refine ⟨_, rfl, .inl ⟨rfl, _, SqL.of hN2⟩, _, rfl, a, cT, dx, fs, _, rfl, twa2.obj, T.clT, T.nWeights, twa2.fWeights, _, rfl, w', _, (i : Int), _, rfl, rfl, SqL.of twa2.ws, atI_nat (wAt_at hi), N, _, _, rfl, rfl, hN2, ?_, ?_⟩
      · rw [List.length_map, hlen]
        exact small1000 (by first | lia | omega)
      · have s3 : Same H (upd H2 N (.lst ((lookN st (st.tower.things.take i)).map V.int ++ [.int (wAt st.tower i : Int)]))) := sm.put hN
        have twa3 := twa.same s3
        refine ⟨_, rfl, .inl ⟨rfl, _, SqL.of upd_same⟩, _, rfl, _, rfl, a, cT, dx, fs, _, rfl, twa3.obj, T.clT, T.nPeople, twa3.fPeople, p, _, rfl, .inl (SqL.of twa3.ps), rfl, zv_flat _, _, rfl, ?_⟩
        show if inV (.int (i : Int)) (zv (pplOf st.tower)) = true then _ else _
        rw [zv_in, ppl_mem, hp]
        have fin : ∀ z : Int, z = (if x.person = true then 1 else 0) → upd (upd H2 N (.lst ((lookN st (st.tower.things.take i)).map V.int ++ [.int (wAt st.tower i : Int)]))) N (.lst ((lookN st (st.tower.things.take i)).map V.int ++ [.int (wAt st.tower i : Int)] ++ [.int z])) N = some (.lst ((lookN st (st.tower.things.take (i + 1))).map V.int)) := fun z hz => by
          rw [upd_same, lookN_snoc st hx, hw, hz, List.map_append, List.map_append]
          rfl
        have small : ((lookN st (st.tower.things.take i)).map V.int ++ [V.int (wAt st.tower i : Int)]).length < sizeLine := by
          rw [List.length_append, List.length_map, hlen]
          exact small1000 (by simp; first | lia | omega)
        refine ite2 (fun c1 => ?_) (fun c1 => ?_)
        · exact ⟨N, _, _, rfl, rfl, upd_same, small, _, rfl, s3.put hN, fin 1 (by rw [if_pos c1])⟩
        · exact ⟨N, _, _, rfl, rfl, upd_same, small, _, rfl, s3.put hN, fin 0 (by rw [if_neg c1])⟩
    · rintro σ H2 ⟨v2, rfl, sm, hN2⟩
      rw [List.take_length] at hN2
      have twa2 := twa.same sm
      have hup5 : st.up.length ≤ 5 := by
        have := sub.length_le
        rw [List.length_range] at this
        first | lia | omega
      refine ⟨_, rfl, _, rfl, a, cT, dx, fs, _, rfl, twa2.obj, T.clT, T.nAbove, twa2.fAbove, u0, st.up, rfl, twa2.above, (by first | lia | omega), fun H3 D3 s3 hD3 hd3 => ?_⟩
      refine ⟨N, D3, _, _, rfl, rfl, s3 _ _ hN2, hd3, ?_, fun D hD => ?_⟩
      · have q3 : (rowT st.up).length = st.up.length + 1 := by simp [rowT]
        rw [List.length_map, List.length_map, lookN_len, q3]
        exact Nat.le_of_lt (small1000 (by first | lia | omega))
      · have ss := sm.trans s3
        refine k _ D (ss.new hD) (ss.free hD) ?_
        rw [upd_same, List.map_append]
end
end TB

set_option Elab.async false
set_option linter.all false
set_option maxRecDepth 100000
set_option maxHeartbeats 4000000
namespace TB
open PySem PySem.Spec PyProof.Rows L2
noncomputable abbrev sAnswerOn : Stmt := top 57
noncomputable abbrev sAnswer : Stmt := inClass cBaskets_ 2
theorem told_nums (l : List (List Nat)) : Mu45.nums (Mu45.toldWay l) = wayT l := by
  show ((l.length : Nat) : Int) :: (l.flatMap fun m => m.length :: m).map (fun (n : Nat) => (n : Int)) = (l.length : Int) :: l.flatMap rowT
  congr 1
  induction l with
  | nil => rfl
  | cons x l ih =>
    rw [List.flatMap_cons, List.map_append, ih, List.flatMap_cons]
    rfl
theorem step_turn (st : Mu45.State) (m : List Nat) : Mu45.step (some st) (.turn m) = (some (if judg st.tower st.up m = 0 then turnS st (pick st.tower m) else st), [if judg st.tower st.up m = 0 then (Mu45.gap st.tower st.up (pick st.tower m) : Int) else judg st.tower st.up m]) := by
  unfold Mu45.step
  dsimp only
  by_cases h : okThings st.tower m = true
  · obtain ⟨h1, h2⟩ := judg_some (up := st.up) h
    rw [h2, h1]
    dsimp only
    by_cases c : Mu45.why st.tower st.up (pick st.tower m) = 0
    · rw [if_neg (by simp [c]), if_pos c, if_pos c]
      rfl
    · rw [if_pos c, if_neg c, if_neg c]
  · obtain ⟨h1, h2⟩ := judg_none (up := st.up) h
    rw [h2, h1]
    rfl
theorem step_why (st : Mu45.State) (m : List Nat) : Mu45.step (some st) (.why m) = (some st, [judg st.tower st.up m]) := by
  unfold Mu45.step
  dsimp only
  by_cases h : okThings st.tower m = true
  · obtain ⟨h1, h2⟩ := judg_some (up := st.up) h
    rw [h2, h1]
  · obtain ⟨h1, h2⟩ := judg_none (up := st.up) h
    rw [h2, h1]
theorem step_turns (st : Mu45.State) : Mu45.step (some st) .turns = (some st, turnsT (Mu45.turns st.tower st.up)) := by
  unfold Mu45.step turnsT
  dsimp only
  cases Mu45.turns st.tower st.up <;> rfl
theorem step_fewest (st : Mu45.State) : Mu45.step (some st) .fewest = (some st, wayA (Mu45.wayTo st.tower st.up (Mu45.safe st.tower))) := by
  unfold Mu45.step
  dsimp only
  cases Mu45.wayTo st.tower st.up (Mu45.safe st.tower) with
  | none => rfl
  | some w =>
    dsimp only
    rw [told_nums]
    rfl
theorem step_to (st : Mu45.State) (m : List Nat) : Mu45.step (some st) (.to m) = (some st, if okThings st.tower m = true then wayA (Mu45.wayTo st.tower st.up fun u => u == pick st.tower m) else [-1]) := by
  unfold Mu45.step
  dsimp only
  by_cases h : okThings st.tower m = true
  · obtain ⟨_, h2⟩ := judg_some (up := st.up) h
    rw [h2, if_pos h]
    dsimp only
    cases Mu45.wayTo st.tower st.up (fun u => u == pick st.tower m) with
    | none => rfl
    | some w =>
      dsimp only
      rw [told_nums]
      rfl
  · obtain ⟨_, h2⟩ := judg_none (up := st.up) h
    rw [h2, if_neg h]
theorem step_least (st : Mu45.State) : Mu45.step (some st) .least = (some st, [leastA (Mu45.leastGap st.tower st.up)]) := by
  unfold Mu45.step
  dsimp only
  cases Mu45.leastGap st.tower st.up <;> rfl
theorem step_limit (st : Mu45.State) (d : Nat) : Mu45.step (some st) (.unlike d) = (some (if 300 < d then st else { st with tower := lim st.tower d }), [if 300 < d then -1 else (st.tower.unlike : Int)]) := by
  unfold Mu45.step
  dsimp only
  by_cases h : 300 < d
  · rw [if_pos (show Mu45.MOST < d from h), if_pos h, if_pos h]
  · rw [if_neg (show ¬ Mu45.MOST < d from h), if_neg h, if_neg h]
theorem step_follow (st : Mu45.State) (n : Nat) : Mu45.step (some st) (.follow n) = (some (followS st n).1, (followS st n).2) := by
  unfold Mu45.step followS
  dsimp only
  cases Mu45.wayTo st.tower st.up (Mu45.safe st.tower) with
  | none => rfl
  | some w =>
    dsimp only
    by_cases h : n = 0 ∨ w.1.length < n
    · rw [if_pos h, if_pos h]
    · rw [if_neg h, if_neg h]
      have hn : (w.1.take n).length = n := by
        rw [List.length_take]
        first | lia | omega
      have e : ((w.1.take n).foldl turnS st) = { st with up := (w.1.take n).foldl (fun u go => Mu45.after st.tower u go) st.up, made := st.made + n } := by
        have h1 := turns_tower st (w.1.take n)
        have h2 := turns_up st (w.1.take n)
        have h3 := turns_made st (w.1.take n)
        rw [hn] at h3
        cases hh : ((w.1.take n).foldl turnS st) with
        | mk tw up md =>
          rw [hh] at h1 h2 h3
          dsimp only at h1 h2 h3
          rw [h1, h2, h3]
      rw [e]
      rfl
theorem step_look (st : Mu45.State) : Mu45.step (some st) .look = (some st, lookN st st.tower.things ++ rowT st.up) := by
  unfold Mu45.step lookN
  dsimp only
  congr 1
  unfold Mu45.nums
  rw [List.map_append, List.map_append]
  have e : ∀ l : List Mu45.Thing, (l.flatMap fun x => [x.heavy, if x.person = true then 1 else 0]).map (fun (n : Nat) => (n : Int)) = l.flatMap fun x => [(x.heavy : Int), if x.person = true then 1 else 0] := by
    intro l
    induction l with
    | nil => rfl
    | cons x l ih =>
      rw [List.flatMap_cons, List.flatMap_cons, List.map_append, ih]
      congr 1
      cases x.person <;> rfl
  rw [e]
  rfl
theorem step_none {c : List (List Int)} (h : Form c) (hb : ∀ d k l, c ≠ [0, d, k] :: l) : Mu45Neutral.step none c = (none, [-9]) := by
  cases h with
  | begin_ d k l => exact absurd rfl (hb d k l)
  | turn m h => rfl
  | why m h => rfl
  | turns => rfl
  | fewest => rfl
  | to m h => rfl
  | comes => rfl
  | least => rfl
  | limit d h => rfl
  | follow n h => rfl
  | look => rfl
theorem zv_nats {m : List Int} (h : Nine m) : zv (Mu45Neutral.nats m) = m.map V.int := by
  rw [zv_ints, nats_zs fun z hz => (h.all z hz).1]
theorem nats_len (m : List Int) : (Mu45Neutral.nats m).length = m.length := List.length_map ..
theorem ifF {p q : Prop} {i j : Int} (h : (i == j) = false) (hq : q) : if decide (V.int i = V.int j) = true then p else q := by
  rw [dec_int, h]
  exact hq
theorem ifT {p q : Prop} {i j : Int} (h : (i == j) = true) (hp : p) : if decide (V.int i = V.int j) = true then p else q := by
  rw [dec_int, h]
  exact hp
end TB

set_option Elab.async false
set_option linter.all false
set_option maxRecDepth 100000
set_option maxHeartbeats 4000000
namespace TB
open PySem PySem.Spec PyProof.Rows L2
section
variable {P : Program} {w : World} {K : PySem.W.Frag} {mg : Str → Option Value} {base : Heap} {Pt cT cB : Addr}
noncomputable def spAnswerOn (Pt cT : Addr) : Sp := fun vs H Q _ => ∃ (a nb lb g : Addr) (st : Mu45.State) (place : Int) (nums : List Int) (cs : List Addr) (ls : List (List Int)), vs = [.ref a, .int place, .ref nb, .ref lb] ∧ TwS cT g H a st ∧ H Pt = some (.tbl psL) ∧
  H nb = some (.lst (nums.map V.int)) ∧ H lb = some (.lst (cs.map V.ref)) ∧ ListsAt H cs ls ∧ Form ((place :: nums) :: ls) ∧ (∀ d k l, (place :: nums) :: ls ≠ [0, d, k] :: l) ∧
  ∀ st' ans H' D, Mu45Neutral.step (some st) ((place :: nums) :: ls) = (some st', ans) → TwS cT g H' a st' → But a H H' → H D = none → H' D = some (.lst (ans.map V.int)) → Q (.ref D) H'
theorem scAnswerOn : FnScope ["tower", "place", "numbers", "lists"] ["tower", "place", "numbers", "lists"] (defScope sAnswerOn) := ⟨rfl, rfl, rfl, by decide +kernel, rfl, by decide +kernel, by decide +kernel⟩
theorem ok_answer_on {f : Addr} {fd : FuncData} (F : Fun K "answer_on" "answer_on" sAnswerOn f fd) (T : Txt K mg cT)
    (c1 : Cal P w K mg base "answer_turn" 6 ["tower", "things"] (spAnswerTurn K cB cT)) (c2 : Cal P w K mg base "answer_why" 6 ["tower", "things"] (spAnswerWhy K cT)) (c3 : Cal P w K mg base "answer_turns" 6 ["tower"] (spAnswerTurns K cT))
    (c4 : Cal P w K mg base "answer_fewest" 8 ["tower"] (spAnswerFewest K cT)) (c5 : Cal P w K mg base "answer_to" 7 ["tower", "things"] (spAnswerTo K cT)) (c6 : Cal P w K mg base "answer_comes" 7 ["tower"] (spAnswerComes K cT))
    (c7 : Cal P w K mg base "answer_least" 7 ["tower"] (spAnswerLeast Pt K cT)) (c8 : Cal P w K mg base "answer_limit" 1 ["tower", "limit"] (spAnswerLimit cT)) (c9 : Cal P w K mg base "answer_follow" 8 ["tower", "count"] (spAnswerFollow cT)) (c10 : Cal P w K mg base "answer_look" 2 ["tower"] (spAnswerLook cT)) :
    FnOk P w K mg base CX0 9 f fd ["tower", "place", "numbers", "lists"] (spAnswerOn Pt cT) := by
  refine F.ok scAnswerOn (fun vs H Q E h => ?_) (fun cdv A outer s H vs Q E hr h => ?_)
  · obtain ⟨a, nb, lb, g, st, place, nums, cs, ls, rfl, _⟩ := h
    rfl
  · obtain ⟨a, nb, lb, g, st, place, nums, cs, ls, rfl, tws, hPt, hnb, hlb, hls, hform, hnot, k⟩ := h
    have hr1 : Room 1 _ := hr.mono (by decide)
    have hr2 : Room 2 _ := hr.mono (by decide)
    have hr6 : Room 6 _ := hr.mono (by decide)
    have hr7 : Room 7 _ := hr.mono (by decide)
    refine ⟨_, pss_cons (ps_if (pt_cmpR op_eq (pv 1) (pe_num T.gTURN) (nomark _)) (pss_one (ps_ret (pe_cal c1 hr6 (by rfl) (pa_cons (pv 0) (pa_cons (pe_ix ix_list (pv 3) pe_int (fun _ _ => rfl)) pa_nil))))) pss_nil)
      (pss_cons (ps_if (pt_cmpR op_eq (pv 1) (pe_num T.gWHY) (nomark _)) (pss_one (ps_ret (pe_cal c2 hr6 (by rfl) (pa_cons (pv 0) (pa_cons (pe_ix ix_list (pv 3) pe_int (fun _ _ => rfl)) pa_nil))))) pss_nil)
      (pss_cons (ps_if (pt_cmpR op_eq (pv 1) (pe_num T.gTURNS) (nomark _)) (pss_one (ps_ret (pe_cal c3 hr6 (by rfl) (pa_cons (pv 0) pa_nil)))) pss_nil)
      (pss_cons (ps_if (pt_cmpR op_eq (pv 1) (pe_num T.gFEWEST) (nomark _)) (pss_one (ps_ret (pe_cal c4 hr (by rfl) (pa_cons (pv 0) pa_nil)))) pss_nil)
      (pss_cons (ps_if (pt_cmpR op_eq (pv 1) (pe_num T.gTO) (nomark _)) (pss_one (ps_ret (pe_cal c5 hr7 (by rfl) (pa_cons (pv 0) (pa_cons (pe_ix ix_list (pv 3) pe_int (fun _ _ => rfl)) pa_nil))))) pss_nil)
      (pss_cons (ps_if (pt_cmpR op_eq (pv 1) (pe_num T.gCOMES) (nomark _)) (pss_one (ps_ret (pe_cal c6 hr7 (by rfl) (pa_cons (pv 0) pa_nil)))) pss_nil)
      (pss_cons (ps_if (pt_cmpR op_eq (pv 1) (pe_num T.gLEAST) (nomark _)) (pss_one (ps_ret (pe_cal c7 hr7 (by rfl) (pa_cons (pv 0) pa_nil)))) pss_nil)
      (pss_cons (ps_if (pt_cmpR op_eq (pv 1) (pe_num T.gLIMIT) (nomark _)) (pss_one (ps_ret (pe_cal c8 hr1 (by rfl) (pa_cons (pv 0) (pa_cons (pe_ix ix_list (pv 2) pe_int (fun _ _ => rfl)) pa_nil))))) pss_nil)
      (pss_cons (ps_if (pt_cmpR op_eq (pv 1) (pe_num T.gFOLLOW) (nomark _)) (pss_one (ps_ret (pe_cal c9 hr (by rfl) (pa_cons (pv 0) (pa_cons (pe_ix ix_list (pv 2) pe_int (fun _ _ => rfl)) pa_nil))))) pss_nil)
      (pss_one (ps_ret (pe_cal c10 hr2 (by rfl) (pa_cons (pv 0) pa_nil)))))))))))), ?_⟩
    cases hform with
    | begin_ => exact absurd rfl (hnot _ _ _)
    | turn m h9 =>
      cases hls with
      | @cons c _ cs' _ hc ht =>
        cases ht
        refine ⟨_, rfl, rfl, _, rfl, ?_⟩
        refine ifT rfl ?_
        refine ⟨_, rfl, _, rfl, lb, _, 0, .ref c, rfl, rfl, SqL.of hlb, rfl, a, c, g, st, Mu45Neutral.nats m, rfl, tws, by rw [zv_nats h9]; exact hc, (by rw [nats_len]; have := h9.len; first | lia | omega), fun H' D q1 q2 q3 q4 => ?_⟩
        exact k _ _ H' D (step_turn st _) q1 q2 q3 q4
    | why m h9 =>
      cases hls with
      | @cons c _ cs' _ hc ht =>
        cases ht
        refine ⟨_, rfl, rfl, _, rfl, ?_⟩
        refine ifF rfl ?_
        refine ⟨_, rfl, rfl, _, rfl, ?_⟩
        refine ifT rfl ?_
        refine ⟨_, rfl, _, rfl, lb, _, 0, .ref c, rfl, rfl, SqL.of hlb, rfl, a, c, st.tower, st.up, Mu45Neutral.nats m, rfl, tws.tw, by rw [zv_nats h9]; exact hc, (by rw [nats_len]; have := h9.len; first | lia | omega), fun H' D q1 q3 q4 => ?_⟩
        exact k _ _ H' D (step_why st _) (tws.same q1) (But.of q1) q3 q4
    | turns =>
      refine ⟨_, rfl, rfl, _, rfl, ?_⟩
      refine ifF rfl ?_
      refine ⟨_, rfl, rfl, _, rfl, ?_⟩
      refine ifF rfl ?_
      refine ⟨_, rfl, rfl, _, rfl, ?_⟩
      refine ifT rfl ?_
      refine ⟨_, rfl, a, st.tower, st.up, rfl, tws.tw, fun H' D q1 q3 q4 => ?_⟩
      exact k _ _ H' D (step_turns st) (tws.same q1) (But.of q1) q3 q4
    | fewest =>
      refine ⟨_, rfl, rfl, _, rfl, ?_⟩
      refine ifF rfl ?_
      refine ⟨_, rfl, rfl, _, rfl, ?_⟩
      refine ifF rfl ?_
      refine ⟨_, rfl, rfl, _, rfl, ?_⟩
      refine ifF rfl ?_
      refine ⟨_, rfl, rfl, _, rfl, ?_⟩
      refine ifT rfl ?_
      refine ⟨_, rfl, a, st.tower, st.up, rfl, tws.tw, fun H' D q1 q3 q4 => ?_⟩
      exact k _ _ H' D (step_fewest st) (tws.same q1) (But.of q1) q3 q4
    | to m h9 =>
      cases hls with
      | @cons c _ cs' _ hc ht =>
        cases ht
        refine ⟨_, rfl, rfl, _, rfl, ?_⟩
        refine ifF rfl ?_
        refine ⟨_, rfl, rfl, _, rfl, ?_⟩
        refine ifF rfl ?_
        refine ⟨_, rfl, rfl, _, rfl, ?_⟩
        refine ifF rfl ?_
        refine ⟨_, rfl, rfl, _, rfl, ?_⟩
        refine ifF rfl ?_
        refine ⟨_, rfl, rfl, _, rfl, ?_⟩
        refine ifT rfl ?_
        refine ⟨_, rfl, _, rfl, lb, _, 0, .ref c, rfl, rfl, SqL.of hlb, rfl, a, c, st.tower, st.up, Mu45Neutral.nats m, rfl, tws.tw, by rw [zv_nats h9]; exact hc, (by rw [nats_len]; have := h9.len; first | lia | omega), fun H' D q1 q3 q4 => ?_⟩
        exact k _ _ H' D (step_to st _) (tws.same q1) (But.of q1) q3 q4
    | comes =>
      refine ⟨_, rfl, rfl, _, rfl, ?_⟩
      refine ifF rfl ?_
      refine ⟨_, rfl, rfl, _, rfl, ?_⟩
      refine ifF rfl ?_
      refine ⟨_, rfl, rfl, _, rfl, ?_⟩
      refine ifF rfl ?_
      refine ⟨_, rfl, rfl, _, rfl, ?_⟩
      refine ifF rfl ?_
      refine ⟨_, rfl, rfl, _, rfl, ?_⟩
      refine ifF rfl ?_
      refine ⟨_, rfl, rfl, _, rfl, ?_⟩
      refine ifT rfl ?_
      refine ⟨_, rfl, a, st.tower, st.up, rfl, tws.tw, fun H' D q1 q3 q4 => ?_⟩
      exact k _ _ H' D rfl (tws.same q1) (But.of q1) q3 q4
    | least =>
      refine ⟨_, rfl, rfl, _, rfl, ?_⟩
      refine ifF rfl ?_
      refine ⟨_, rfl, rfl, _, rfl, ?_⟩
      refine ifF rfl ?_
      refine ⟨_, rfl, rfl, _, rfl, ?_⟩
      refine ifF rfl ?_
      refine ⟨_, rfl, rfl, _, rfl, ?_⟩
      refine ifF rfl ?_
      refine ⟨_, rfl, rfl, _, rfl, ?_⟩
      refine ifF rfl ?_
      refine ⟨_, rfl, rfl, _, rfl, ?_⟩
      refine ifF rfl ?_
      refine ⟨_, rfl, rfl, _, rfl, ?_⟩
      refine ifT rfl ?_
      refine ⟨_, rfl, a, st.tower, st.up, rfl, tws.tw, hPt, fun H' D q1 q3 q4 => ?_⟩
      exact k _ _ H' D (step_least st) (tws.same q1) (But.of q1) q3 q4
    | limit d hd =>
      refine ⟨_, rfl, rfl, _, rfl, ?_⟩
      refine ifF rfl ?_
      refine ⟨_, rfl, rfl, _, rfl, ?_⟩
      refine ifF rfl ?_
      refine ⟨_, rfl, rfl, _, rfl, ?_⟩
      refine ifF rfl ?_
      refine ⟨_, rfl, rfl, _, rfl, ?_⟩
      refine ifF rfl ?_
      refine ⟨_, rfl, rfl, _, rfl, ?_⟩
      refine ifF rfl ?_
      refine ⟨_, rfl, rfl, _, rfl, ?_⟩
      refine ifF rfl ?_
      refine ⟨_, rfl, rfl, _, rfl, ?_⟩
      refine ifF rfl ?_
      refine ⟨_, rfl, rfl, _, rfl, ?_⟩
      refine ifT rfl ?_
      obtain ⟨n, rfl⟩ : ∃ n : Nat, d = (n : Int) := ⟨d.toNat, by first | lia | omega⟩
      refine ⟨_, rfl, _, rfl, nb, _, 0, .int (n : Int), rfl, rfl, SqL.of hnb, rfl, a, g, st, n, rfl, tws, fun H' D q1 q2 q3 q4 => ?_⟩
      exact k _ _ H' D (step_limit st n) q1 q2 q3 q4
    | follow z hz =>
      refine ⟨_, rfl, rfl, _, rfl, ?_⟩
      refine ifF rfl ?_
      refine ⟨_, rfl, rfl, _, rfl, ?_⟩
      refine ifF rfl ?_
      refine ⟨_, rfl, rfl, _, rfl, ?_⟩
      refine ifF rfl ?_
      refine ⟨_, rfl, rfl, _, rfl, ?_⟩
      refine ifF rfl ?_
      refine ⟨_, rfl, rfl, _, rfl, ?_⟩
      refine ifF rfl ?_
      refine ⟨_, rfl, rfl, _, rfl, ?_⟩
      refine ifF rfl ?_
      refine ⟨_, rfl, rfl, _, rfl, ?_⟩
      refine ifF rfl ?_
      refine ⟨_, rfl, rfl, _, rfl, ?_⟩
      refine ifF rfl ?_
      refine ⟨_, rfl, rfl, _, rfl, ?_⟩
      refine ifT rfl ?_
      obtain ⟨n, rfl⟩ : ∃ n : Nat, z = (n : Int) := ⟨z.toNat, by first | lia | omega⟩
      refine ⟨_, rfl, _, rfl, nb, _, 0, .int (n : Int), rfl, rfl, SqL.of hnb, rfl, a, g, st, n, rfl, tws, fun H' D q1 q2 q3 q4 => ?_⟩
      exact k _ _ H' D (step_follow st n) q1 q2 q3 q4
    | look =>
      refine ⟨_, rfl, rfl, _, rfl, ?_⟩
      refine ifF rfl ?_
      refine ⟨_, rfl, rfl, _, rfl, ?_⟩
      refine ifF rfl ?_
      refine ⟨_, rfl, rfl, _, rfl, ?_⟩
      refine ifF rfl ?_
      refine ⟨_, rfl, rfl, _, rfl, ?_⟩
      refine ifF rfl ?_
      refine ⟨_, rfl, rfl, _, rfl, ?_⟩
      refine ifF rfl ?_
      refine ⟨_, rfl, rfl, _, rfl, ?_⟩
      refine ifF rfl ?_
      refine ⟨_, rfl, rfl, _, rfl, ?_⟩
      refine ifF rfl ?_
      refine ⟨_, rfl, rfl, _, rfl, ?_⟩
      refine ifF rfl ?_
      refine ⟨_, rfl, rfl, _, rfl, ?_⟩
      refine ifF rfl ?_
      refine ⟨_, rfl, a, g, st, rfl, tws, fun H' D q1 q3 q4 => ?_⟩
      exact k _ _ H' D (step_look st) (tws.same q1) (But.of q1) q3 q4
theorem scAnswer : FnScope ["self", "place", "numbers", "lists"] ["self", "place", "numbers", "lists"] (defScope sAnswer) := ⟨rfl, rfl, rfl, by decide +kernel, rfl, by decide +kernel, by decide +kernel⟩
theorem bkF_no (v : V) {x : Str} (h : (x == ("tower" : Str)) = false) : (bkF v).lookup x = none := by
  unfold bkF
  rw [List.lookup_cons, h]
  rfl
theorem form_zero {place : Int} {nums : List Int} {ls : List (List Int)} (h : Form ((place :: nums) :: ls)) : (∃ d k, place = 0 ∧ nums = [d, k] ∧ (0 ≤ d ∧ d ≤ 400) ∧ (0 ≤ k ∧ k ≤ 9) ∧ ls.length ≤ 6 ∧ ∀ x ∈ ls, x.length ≤ 3 ∧ ∀ z ∈ x, 0 ≤ z ∧ z ≤ 400) ∨ (place == 0) = false := by
  cases h with
  | begin_ d k l h1 h2 h3 h4 => exact .inl ⟨d, k, rfl, rfl, h1, h2, h3, h4⟩
  | turn m h => exact .inr rfl
  | why m h => exact .inr rfl
  | turns => exact .inr rfl
  | fewest => exact .inr rfl
  | to m h => exact .inr rfl
  | comes => exact .inr rfl
  | least => exact .inr rfl
  | limit d h => exact .inr rfl
  | follow n h => exact .inr rfl
  | look => exact .inr rfl
theorem ok_answer {f : Addr} {fd : FuncData} (F : Fun K "answer" "Baskets.answer" sAnswer f fd) (T : Txt K mg cT) (TB' : TxtB K cB) (hBT : cB ≠ cT) (mB : CalM P w K mg base cB "begin" 5 ["self", "limit", "holds", "things"] (spBegin Pt cB cT)) (cO : Cal P w K mg base "answer_on" 9 ["tower", "place", "numbers", "lists"] (spAnswerOn Pt cT)) :
    FnOk P w K mg base CX0 10 f fd ["self", "place", "numbers", "lists"] (spAnswer Pt cB cT) := by
  refine F.ok scAnswer (fun vs H Q E h => ?_) (fun cdv A outer s H vs Q E hr h => ?_)
  · obtain ⟨y, nb, lb, g, st, place, nums, cs, ls, gs, rfl, _⟩ := h
    rfl
  · obtain ⟨y, nb, lb, g, st, place, nums, cs, ls, gs, rfl, hg, bk, hnb, hlb, hls, hform, k⟩ := h
    have hr5 : Room 5 _ := hr.mono (by decide)
    refine ⟨_, pss_cons (ps_if (pt_cmpR op_eq (pv 1) (pe_num T.gBEGIN) (nomark _)) (pss_one (ps_ret (pe_calm (pv 0) TB'.cl mB hr5 (pa_cons (pe_ix ix_list (pv 2) pe_int (fun _ _ => rfl)) (pa_cons (pe_ix ix_list (pv 2) pe_int (fun _ _ => rfl)) (pa_cons (pv 3) pa_nil)))))) pss_nil)
      (pss_cons (ps_if (pt_cmp (pc_isN (pe_fld (pv 0) rfl)) (by with_unfolding_all rfl)) (pss_one (ps_ret (pe_lst (pa_cons (pe_num T.gNO_TOWER) pa_nil)))) pss_nil)
      (pss_one (ps_ret (pe_cal cO hr (by rfl) (pa_cons (pe_fld (pv 0) rfl) (pa_cons (pv 1) (pa_cons (pv 2) (pa_cons (pv 3) pa_nil)))))))), ?_⟩
    obtain ⟨hPt, dy, v, hy, hst⟩ := id bk
    refine ⟨_, rfl, rfl, _, rfl, ?_⟩
    rcases form_zero hform with ⟨d, kk, rfl, rfl, hd, hk, hl, hx⟩ | hne
    · refine ifT rfl ?_
      rw [step_begin hd.1 hk.1 (fun x hx' z hz => ((hx x hx').2 z hz).1)] at k
      refine ⟨_, rfl, y, dy, _, rfl, hy, bkF_no v (by decide +kernel), _, rfl, nb, _, 0, .int d, rfl, rfl, SqL.of hnb, rfl, _, rfl, nb, _, 1, .int kk, rfl, rfl, SqL.of hnb, rfl, _, rfl, y, lb, g, st, d, kk, cs, ls, gs, rfl, hg, bk, hlb, hls, (by first | lia | omega), hd.1, hk.1, fun H' D q1 q2 q3 q4 => ?_⟩
      by_cases c : goodTower d kk ls = true
      · rw [if_pos c] at k q1 q4
        exact k H' D q1 q2 q3 q4
      · rw [if_neg c] at k q1 q4
        exact k H' D q1 q2 q3 q4
    · refine ifF hne ?_
      have hnot : ∀ d k' l, (place :: nums) :: ls ≠ [0, d, k'] :: l := fun d k' l z => by
        injection z with z1 z2
        injection z1 with z1 z3
        rw [z1] at hne
        cases hne
      refine ⟨_, rfl, y, cB, dy, _, v, rfl, hy, TB'.cl, TB'.nTower, bkF_tower v, _, rfl, ?_⟩
      cases st with
      | none =>
        have hv : v = .non := hst
        subst hv
        rw [step_none hform hnot] at k
        exact ⟨(by show 1 ≤ sizeLine; decide), fun D hD => k _ D (bk.same (Same.new' hD)) (.of (Same.new' hD)) hD upd_same⟩
      | some st =>
        obtain ⟨a, hv, tws⟩ := hst
        subst hv
        refine ⟨_, rfl, y, cB, dy, _, .ref a, rfl, hy, TB'.cl, TB'.nTower, bkF_tower _, _, rfl, _, rfl, _, rfl, a, nb, lb, g, st, place, nums, cs, ls, rfl, tws, hPt, hnb, hlb, hls, hform, hnot, fun st' ans H' D e q1 q2 q3 q4 => ?_⟩
        rw [e] at k
        obtain ⟨dxa, fsa, hoa⟩ := tws.obj
        refine k H' D ⟨q2 _ _ hPt (ne_of hPt hoa (fun z => nomatch z)), dy, .ref a, q2 _ _ hy (ne_of hy hoa (fun z => hBT (by injection z))), a, rfl, q1⟩ (fun b o hb n1 n2 => q2 b o hb (ne_of hb hoa (n2 _ _))) q3 q4
end
end TB

set_option Elab.async false
set_option linter.all false
set_option maxRecDepth 100000
set_option maxHeartbeats 4000000
namespace TB
open PySem PySem.Spec PyProof.Rows L2 PySem.W
section
variable {P : Program} {w : World} {K : PySem.W.Frag}
theorem start_ok {H : Hp} {h : Heap} {Pt : Addr} {ps : Array Value} (ok : HOk P w H h) (n : H Pt = none) (e : h.get? Pt = some (PySem.W.tabObj #[])) : HOk P w (upd H Pt (.tbl ps)) h := fun b u q => by
  by_cases hb : b = Pt
  · subst hb
    rw [upd_same] at q
    cases q
    exact ⟨#[], e, .inl rfl⟩
  · rw [upd_ne hb] at q
    refine (ok b u q).stay (fun _ _ _ z => z) (fun c z => ?_) fun c xs z => ?_
    · rw [upd_ne (ne_of_none z n)]; exact z
    · rw [upd_ne (ne_of_none z n)]; exact z
theorem callP {mg mb : Str → Option Value} {k : Nat} {fa cc Pt : Addr} {fd : FuncData} {ps : List Str} {sp : Sp} {s1 : Shared} {vals : List Value} {ds : List WData} {R : PySem.W.WRecords} {cl : Str → Option Addr} {d0 : WData}
    (KX : K.In s1.heap) (hns : s1.heap.Ns mainGlobals mg) (hb : s1.heap.Ns builtinsNs mb) (hbb : ∀ x : Str, x ≠ "__name__" → mb x = bootBuiltins x) (hlim : s1.heap.NoLimit) (hg : s1.gens = #[]) (hbm : BmAt mg s1.heap)
    (hC : PySem.W.CodeHd s1.heap cc Pt) (hPt : s1.heap.get? Pt = some (PySem.W.tabObj #[])) (hKP : K.lookup Pt = none)
    (hwl : PySem.W.WellAll w.params s1.heap vals ds) (hpl : plWs ds = true) (hwt : ∀ d ∈ ds, d.weight ≤ 1048576) (hr : Room k callerA)
    (F : ∀ base : Heap, K.In base → base.Ns mainGlobals mg → BmAt mg base → FnOk P w K mg base CX0 k fa fd ps sp) (hbind : ∀ (s : Shared) (us : List Value), us.length = ps.length → BindsTo s fd ⟨us, []⟩ (ps.zip us)) (hlen : ds.length = ps.length)
    (hsp : ∀ (H : Hp) (xs : List V), OnlyF H → H Pt = none → DwAll K H xs ds → sp xs (upd H Pt (.tbl psL)) (fun v H' => Dw K H' v d0) fun _ _ _ => False) :
    codeAny (model P w) callerA (.call (.ref fa) ⟨vals, []⟩) (fun r s' => ∃ u as, r = .ok (.ret u) ∧ ReadsW R cl s'.heap u d0 as ∧ OldK s1.heap s'.heap ∧ s'.os = s1.os ∧ AllBare s'.gens) s1 := by
  obtain ⟨A, ho, ar⟩ := area_all ds vals hwl hpl hwt
  have hO : OnlyF (argH K s1.heap A) := argH_only ar
  have hok0 : HOk P w (argH K s1.heap A) s1.heap := argH_ok ar
  have hS := dw_all KX ar ds vals hwl hpl ho
  have hV := vals_toV ho
  -- what is tracked is a list or a tuple, and no part of the text
  have trk : ∀ b u, argH K s1.heap A b = some u → K.lookup b = none ∧ ∃ c vs, s1.heap.get? b = some { cls := c, data := .seq vs } := fun b u q => by
    obtain ⟨h1, vs, _, _, ⟨e, _⟩ | ⟨e, _⟩⟩ := argH_is ar q
    · exact ⟨h1, _, _, e⟩
    · exact ⟨h1, _, _, e⟩
  generalize argH K s1.heap A = H0 at hO hok0 hS trk
  have no0 : ∀ {b : Addr} {o : Obj}, s1.heap.get? b = some o → (∀ vs n, o.data ≠ .seq vs n) → H0 b = none := fun {b o} e d => by
    cases q : H0 b with
    | none => rfl
    | some u =>
      obtain ⟨_, c, vs, e2⟩ := trk b u q
      rw [e2] at e
      cases e
      exact absurd rfl (d _ _)
  have hP0 : H0 Pt = none := no0 hPt (fun vs n z => nomatch z)
  have hok := start_ok (ps := psL) hok0 hP0 hPt
  have noH : ∀ {b : Addr} {o : Obj}, s1.heap.get? b = some o → (∀ vs n, o.data ≠ .seq vs n) → (∀ vs, o.data ≠ .fields vs) → upd H0 Pt (.tbl psL) b = none := fun {b o} e d1 d2 => by
    rw [upd_ne (fun z => by rw [z, hPt] at e; cases e; exact absurd rfl (d2 _))]
    exact no0 e d1
  have KH : ∀ b o, K.lookup b = some o → upd H0 Pt (.tbl psL) b = none := fun b o e => by
    rw [upd_ne (fun z => by rw [z, hKP] at e; cases e)]
    cases q : H0 b with
    | none => rfl
    | some u =>
      rw [(trk b u q).1] at e
      cases e
  have hfrz : ∀ b u, H0 b = some u → ∃ o v, u = .frz o v := fun b u q => by
    rcases hO b with z | ⟨o, v, z⟩
    · rw [q] at z
      cases z
    · rw [q] at z
      exact ⟨o, v, Option.some.inj z⟩
  have hspH := hsp H0 _ hO hP0 hS
  generalize hH : upd H0 Pt (.tbl psL) = H at hok noH KH hspH
  have hHP : H Pt = some (.tbl psL) := by rw [← hH]; exact upd_same
  have hHo : ∀ b u, H b = some u → b ≠ Pt → ∃ o v, u = .frz o v := fun b u q hne => by
    rw [← hH, upd_ne hne] at q
    exact hfrz b u q
  have nsK : ∀ {b : Addr} {m : Str → Option Value}, s1.heap.Ns b m → (hidT s1.heap H).Ns b m := fun {b m} ⟨o, es, ep, e, d, r⟩ => ⟨o, es, ep, hidT_get e (noH e (fun vs n z => by rw [d] at z; cases z) (fun vs z => by rw [d] at z; cases z)), d, r⟩
  have hKb : K.In (hidT s1.heap H) := fun b o e => hidT_get (KX b o e) (KH b o e)
  have hBb : BmAt mg (hidT s1.heap H) := by
    obtain ⟨bm, ob, b1, b2, b3, b4, b5, b6⟩ := hbm
    exact ⟨bm, ob, b1, b2, hidT_get b3 (noH b3 (fun vs n z => by rw [b6] at z; cases z) (fun vs z => by rw [b6] at z; cases z)), b4, b5, b6⟩
  have hM : Mod K mg (hidT s1.heap H) := ⟨hKb, nsK hns, ⟨mb, nsK hb, hbb⟩, let ⟨mc, h1, h2⟩ := hlim; ⟨mc, nsK h1, h2⟩⟩
  have e0 : Env0 P w K mg (hidT s1.heap H) callerA [] s1 H := ⟨rfl, hM, fun b o e => of_hidT e, Nat.le_of_eq (hidT_size _ _), trivial, fun b hb => absurd (show b ∈ ([] : List Addr) from hb) (by simp), hok, .of_eq hg⟩
  have hl : vals.length = ps.length := by rw [wellAll_len hwl]; exact hlen
  refine codeAny_mono ((F _ hKb (nsK hns) hBb).run callerA [] s1 H ⟨vals, []⟩ vals (vals.map toV) _ _ hr e0 (hbind s1 vals hl) hV hspH) fun r s' x => ?_
  cases r with
  | error e => exact False.elim x
  | ok fl =>
    cases fl with
    | next => exact False.elim x
    | brk => exact False.elim x
    | cont => exact False.elim x
    | ret u =>
      obtain ⟨v, H', os, bare, un, hok', r', q⟩ := x
      have kept : ∀ b o, b ≠ Pt → s1.heap.get? b = some o → s'.heap.get? b = some o := fun b o hne e => by
        cases q2 : H b with
        | none => exact un.keep b o e q2 (fun z => absurd (show b ∈ ([] : List Addr) from z) (by simp)) (by simp)
        | some u2 =>
          obtain ⟨ob, u3, rfl⟩ := hHo b u2 q2 hne
          have z2 := un.frzs b ob _ q2
          obtain ⟨e1, _⟩ := hok b _ q2
          obtain ⟨e2, _⟩ := hok' b _ z2
          rw [e] at e1
          cases e1
          exact e2
      have KX' : K.In s'.heap := fun b o e => kept b o (fun z => by rw [z, hKP] at e; cases e) (KX b o e)
      obtain ⟨as, hrd⟩ := Dw.reads (R := R) (cl := cl) hok' KX' d0 v u q r'
      obtain ⟨more, hm⟩ := un.tbls _ _ hHP
      obtain ⟨qs, eq, _⟩ := (show TblOk H' s'.heap Pt (psL ++ more) from hok' _ _ hm)
      refine ⟨u, as, rfl, hrd, ⟨fun b o e => ?_, fun b o e => ?_⟩, os, bare⟩
      · by_cases hne : b = Pt
        · subst hne
          rw [hPt] at e
          cases e
          exact .inr (.inl ⟨(hC.tab hPt).isCodeTable, rfl, #[], qs, rfl, by rw [eq]; simp⟩)
        · exact .inl (kept b o hne e)
      · by_cases hne : b = Pt
        · rw [hne]
          exact ⟨_, eq⟩
        · exact ⟨o, kept b o hne e⟩
end
theorem tab_facts {K : PySem.W.Frag} {x : Str} {f cc Pt : Addr} {fd : FuncData} {oc c1 : Value} {od od1 : Option Addr} {osl sl1 : Array (Option Value)} {vs : Array Value} (h1 : PySem.W.nsIn K mainGlobals x = some (some (.ref f))) (h2 : K.lookup f = some ⟨oc, od, .func fd, osl⟩) (h3 : fd.code = .ref cc)
    (h4 : K.lookup cc = some ⟨c1, od1, .fields vs, sl1⟩) (h5 : vs[11]? = some (.ref Pt)) : PySem.W.tabIn K x = some (cc, Pt) := by
  unfold PySem.W.tabIn
  rw [h1]
  dsimp only
  rw [h2]
  dsimp only
  rw [h3]
  dsimp only
  rw [h4]
  dsimp only
  rw [h5]
theorem head_facts {K : PySem.W.Frag} {cc Pt : Addr} {od1 : Option Addr} {sl1 : Array (Option Value)} {vs : Array Value} (h4 : K.lookup cc = some ⟨.type "code", od1, .fields vs, sl1⟩)
    (h5 : ((match (vs[11]? : Option Value) with | some (.ref P') => P' == Pt | _ => false) && (match vs.getD 18 .none with | .str _ _ => true | _ => false) && (match vs.getD 7 .none with | .int _ _ => true | _ => false) &&
      (match vs.getD 9 .none with | .bool _ => true | _ => false) && (match vs.getD 10 .none with | .int _ _ => true | _ => false) && cc != Pt) = true) : PySem.W.codeHdIn K cc Pt = true := by
  unfold PySem.W.codeHdIn
  rw [h4]
  exact h5
theorem walkP {r : PySem.W.OpenSpec} {k : Nat} {q : Program} {loose : List Str} {XP : (Str → Option Value) → Heap → Prop} {YP : World → Heap → Prop} {d : DefRec} {K : Params → PySem.W.Frag} {ps : List Str} {cc Pt : Addr}
    (hwell : r.wellSaid = true) (hdf : d.params.defaults = []) (hlen : r.args.length = ps.length) (hr : Room k callerA)
    (hrec : ((recsOf q).find? (fun e => e.name == ("least_limits" : Str))).isSome = true)
    (hY : ∀ (w : World) (h : Heap), YP w h → (K w.params).In h)
    (htab : ∀ (w : World), PySem.W.tabIn (K w.params) "least_limits" = some (cc, Pt)) (hKP : ∀ (w : World), (K w.params).lookup Pt = none)
    (F : ∀ (w : World) (mg : Str → Option Value) (fa : Addr) (h : Heap), YP w h → (K w.params).In h → h.Ns mainGlobals mg → mg d.name = some (.ref fa) →
      ∃ fd : FuncData, (∀ (s : Shared) (us : List Value), us.length = ps.length → BindsTo s fd ⟨us, []⟩ (ps.zip us)) ∧
        ∀ base : Heap, (K w.params).In base → base.Ns mainGlobals mg → BmAt mg base → FnOk r.prog w (K w.params) mg base CX0 k fa fd ps (spAnswers Pt (K w.params)))
    (hsp : ∀ (K : PySem.W.Frag) (H : Hp) (xs : List V) (a : Codec.denoteAll r.args), OnlyF H → H Pt = none → Codec.withinAll r.args a = true → Codec.app r.args r.asked a = true → DwAll K H xs (Codec.encAll r.args a) →
      spAnswers Pt K xs (upd H Pt (.tbl psL)) (fun v H' => Dw K H' v (r.ret.enc (Codec.app r.args r.f a))) fun _ _ _ => False) :
    PySem.W.WalkOS q loose XP YP r d [] (fun f vs => PySem.call f vs) := by
  intro w s_0 s1 mg mb G Y fa o pm cd doc dV kV ho hd hcd hD hmg hg args vals as hpre hlay hrd hwl hlo
  obtain ⟨a, e1, e2⟩ := PySem.W.os_pre_some hpre
  obtain ⟨e3, hwi⟩ := Codec.encAll_of_decAll r.args args a e1
  subst e3
  have KX := hY w _ Y
  obtain ⟨d', hd'⟩ := Option.isSome_iff_exists.mp hrec
  obtain ⟨hC, hPt⟩ := PySem.W.tab_of G.T KX hd' (htab w)
  obtain ⟨fd, hb, hF⟩ := F w mg fa _ Y KX G.T.g hmg
  refine PySem.W.enter_call (codeAny_mono (callP (R := []) (cl := classAt s_0.heap) (d0 := r.ret.enc (Codec.app r.args r.f a)) KX G.T.g G.T.b G.T.builtins G.T.nolimit hg ?_ hC hPt (hKP w) hwl (pl_encAll _ _) (layable_weight hlay) hr hF hb (by rw [encAll_len]; exact hlen)
    (fun H xs hO hP hS => hsp (K w.params) H xs a hO hP hwi e2 hS)) fun r' s' hq => ?_)
  · obtain ⟨bm, ob, b1, b2, b3, b4, b5, b6⟩ := G.T.bmain
    exact ⟨bm, ob, b1, b2, b3, b4, b5, b6⟩
  · obtain ⟨u, as', rfl, h1, h2, h3, h4⟩ := hq
    exact ⟨.inl ⟨u, _, as', rfl, fun _ => rfl, h1, (PySem.W.OpenSpec.post_iff hwell hwi _ _).mpr rfl, fun z => Bool.noConfusion (show false = true from z)⟩, h2, h3, h4⟩
end TB

set_option Elab.async false
set_option linter.all false
set_option maxRecDepth 100000
set_option maxHeartbeats 4000000
namespace TB
open PySem PySem.Spec PyProof.Rows L2
theorem us1 {us : List Value} (h : us.length = 1) : ∃ a, us = [a] := List.length_eq_one_iff.mp h
theorem us2 {us : List Value} (h : us.length = 2) : ∃ a b, us = [a, b] := by
  rcases us with _ | ⟨a, us⟩
  · cases h
  · obtain ⟨b, rfl⟩ := us1 (Nat.succ.inj h)
    exact ⟨a, b, rfl⟩
theorem us3 {us : List Value} (h : us.length = 3) : ∃ a b c, us = [a, b, c] := by
  rcases us with _ | ⟨a, us⟩
  · cases h
  · obtain ⟨b, c, rfl⟩ := us2 (Nat.succ.inj h)
    exact ⟨a, b, c, rfl⟩
theorem us4 {us : List Value} (h : us.length = 4) : ∃ a b c d, us = [a, b, c, d] := by
  rcases us with _ | ⟨a, us⟩
  · cases h
  · obtain ⟨b, c, d, rfl⟩ := us3 (Nat.succ.inj h)
    exact ⟨a, b, c, d, rfl⟩
theorem all_mk {P : Program} {w : World} {K : PySem.W.Frag} {h : Heap} {mg : Str → Option Value} {fa cT cL cB cc Pt : Addr} {od1 : Option Addr} {vs1 : Array Value} {sl1 : Array (Option Value)} (X : K.In h) (G : h.Ns mainGlobals mg) (hfa : mg "answers" = some (.ref fa))
    {f_li : Addr} {od_li an_li : Option Addr} {sl_li : Array (Option Value)} {oc_li kV_li dc_li pm_li cd_li ct_li : Value}
    {f_le : Addr} {od_le an_le : Option Addr} {sl_le : Array (Option Value)} {oc_le kV_le dc_le pm_le cd_le ct_le : Value}
    {f_ln : Addr} {od_ln an_ln : Option Addr} {sl_ln : Array (Option Value)} {oc_ln kV_ln dc_ln pm_ln cd_ln ct_ln : Value}
    {f_ll : Addr} {od_ll an_ll : Option Addr} {sl_ll : Array (Option Value)} {oc_ll kV_ll dc_ll pm_ll cd_ll ct_ll : Value}
    {f_ls : Addr} {od_ls an_ls : Option Addr} {sl_ls : Array (Option Value)} {oc_ls kV_ls dc_ls pm_ls cd_ls ct_ls : Value}
    {f_bi : Addr} {od_bi an_bi : Option Addr} {sl_bi : Array (Option Value)} {oc_bi kV_bi dc_bi pm_bi cd_bi ct_bi : Value}
    {f_bb : Addr} {od_bb an_bb : Option Addr} {sl_bb : Array (Option Value)} {oc_bb kV_bb dc_bb pm_bb cd_bb ct_bb : Value}
    {f_ba : Addr} {od_ba an_ba : Option Addr} {sl_ba : Array (Option Value)} {oc_ba kV_ba dc_ba pm_ba cd_ba ct_ba : Value}
    {f_ti : Addr} {od_ti an_ti : Option Addr} {sl_ti : Array (Option Value)} {oc_ti kV_ti dc_ti pm_ti cd_ti ct_ti : Value}
    {f_lr : Addr} {od_lr an_lr : Option Addr} {sl_lr : Array (Option Value)} {oc_lr kV_lr dc_lr pm_lr cd_lr ct_lr : Value}
    {f_ro : Addr} {od_ro an_ro : Option Addr} {sl_ro : Array (Option Value)} {oc_ro kV_ro dc_ro pm_ro cd_ro ct_ro : Value}
    {f_wo : Addr} {od_wo an_wo : Option Addr} {sl_wo : Array (Option Value)} {oc_wo kV_wo dc_wo pm_wo cd_wo ct_wo : Value}
    {f_of : Addr} {od_of an_of : Option Addr} {sl_of : Array (Option Value)} {oc_of kV_of dc_of pm_of cd_of ct_of : Value}
    {f_un : Addr} {od_un an_un : Option Addr} {sl_un : Array (Option Value)} {oc_un kV_un dc_un pm_un cd_un ct_un : Value}
    {f_pa : Addr} {od_pa an_pa : Option Addr} {sl_pa : Array (Option Value)} {oc_pa kV_pa dc_pa pm_pa cd_pa ct_pa : Value}
    {f_ve : Addr} {od_ve an_ve : Option Addr} {sl_ve : Array (Option Value)} {oc_ve kV_ve dc_ve pm_ve cd_ve ct_ve : Value}
    {f_pr : Addr} {od_pr an_pr : Option Addr} {sl_pr : Array (Option Value)} {oc_pr kV_pr dc_pr pm_pr cd_pr ct_pr : Value}
    {f_tu : Addr} {od_tu an_tu : Option Addr} {sl_tu : Array (Option Value)} {oc_tu kV_tu dc_tu pm_tu cd_tu ct_tu : Value}
    {f_fw : Addr} {od_fw an_fw : Option Addr} {sl_fw : Array (Option Value)} {oc_fw kV_fw dc_fw pm_fw cd_fw ct_fw : Value}
    {f_tr : Addr} {od_tr an_tr : Option Addr} {sl_tr : Array (Option Value)} {oc_tr kV_tr dc_tr pm_tr cd_tr ct_tr : Value}
    {f_tw : Addr} {od_tw an_tw : Option Addr} {sl_tw : Array (Option Value)} {oc_tw kV_tw dc_tw pm_tw cd_tw ct_tw : Value}
    {f_rt : Addr} {od_rt an_rt : Option Addr} {sl_rt : Array (Option Value)} {oc_rt kV_rt dc_rt pm_rt cd_rt ct_rt : Value}
    {f_rw : Addr} {od_rw an_rw : Option Addr} {sl_rw : Array (Option Value)} {oc_rw kV_rw dc_rw pm_rw cd_rw ct_rw : Value}
    {f_rs : Addr} {od_rs an_rs : Option Addr} {sl_rs : Array (Option Value)} {oc_rs kV_rs dc_rs pm_rs cd_rs ct_rs : Value}
    {f_ju : Addr} {od_ju an_ju : Option Addr} {sl_ju : Array (Option Value)} {oc_ju kV_ju dc_ju pm_ju cd_ju ct_ju : Value}
    {f_nl : Addr} {od_nl an_nl : Option Addr} {sl_nl : Array (Option Value)} {oc_nl kV_nl dc_nl pm_nl cd_nl ct_nl : Value}
    {f_rb : Addr} {od_rb an_rb : Option Addr} {sl_rb : Array (Option Value)} {oc_rb kV_rb dc_rb pm_rb cd_rb ct_rb : Value}
    {f_fy : Addr} {od_fy an_fy : Option Addr} {sl_fy : Array (Option Value)} {oc_fy kV_fy dc_fy pm_fy cd_fy ct_fy : Value}
    {f_lm : Addr} {od_lm an_lm : Option Addr} {sl_lm : Array (Option Value)} {oc_lm kV_lm dc_lm pm_lm ct_lm : Value}
    {f_mt : Addr} {od_mt an_mt : Option Addr} {sl_mt : Array (Option Value)} {oc_mt kV_mt dc_mt pm_mt cd_mt ct_mt : Value}
    {f_xt : Addr} {od_xt an_xt : Option Addr} {sl_xt : Array (Option Value)} {oc_xt kV_xt dc_xt pm_xt cd_xt ct_xt : Value}
    {f_xw : Addr} {od_xw an_xw : Option Addr} {sl_xw : Array (Option Value)} {oc_xw kV_xw dc_xw pm_xw cd_xw ct_xw : Value}
    {f_xs : Addr} {od_xs an_xs : Option Addr} {sl_xs : Array (Option Value)} {oc_xs kV_xs dc_xs pm_xs cd_xs ct_xs : Value}
    {f_xf : Addr} {od_xf an_xf : Option Addr} {sl_xf : Array (Option Value)} {oc_xf kV_xf dc_xf pm_xf cd_xf ct_xf : Value}
    {f_xo : Addr} {od_xo an_xo : Option Addr} {sl_xo : Array (Option Value)} {oc_xo kV_xo dc_xo pm_xo cd_xo ct_xo : Value}
    {f_xc : Addr} {od_xc an_xc : Option Addr} {sl_xc : Array (Option Value)} {oc_xc kV_xc dc_xc pm_xc cd_xc ct_xc : Value}
    {f_xl : Addr} {od_xl an_xl : Option Addr} {sl_xl : Array (Option Value)} {oc_xl kV_xl dc_xl pm_xl cd_xl ct_xl : Value}
    {f_xi : Addr} {od_xi an_xi : Option Addr} {sl_xi : Array (Option Value)} {oc_xi kV_xi dc_xi pm_xi cd_xi ct_xi : Value}
    {f_xg : Addr} {od_xg an_xg : Option Addr} {sl_xg : Array (Option Value)} {oc_xg kV_xg dc_xg pm_xg cd_xg ct_xg : Value}
    {f_xk : Addr} {od_xk an_xk : Option Addr} {sl_xk : Array (Option Value)} {oc_xk kV_xk dc_xk pm_xk cd_xk ct_xk : Value}
    {f_xn : Addr} {od_xn an_xn : Option Addr} {sl_xn : Array (Option Value)} {oc_xn kV_xn dc_xn pm_xn cd_xn ct_xn : Value}
    {f_an : Addr} {od_an an_an : Option Addr} {sl_an : Array (Option Value)} {oc_an kV_an dc_an pm_an cd_an ct_an : Value}
    {tk_BEGIN tk_TURN tk_WHY tk_TURNS tk_FEWEST tk_TO tk_COMES tk_LEAST tk_LIMIT tk_FOLLOW tk_DONE tk_WRONG tk_TOO_MANY tk_NOT_HEAVIER tk_NO_WAY tk_TOO_UNLIKE tk_NO_TOWER tk_MOST_LIMIT tk_MOST_HOLDS tk_MOST_THINGS tk_MOST_WEIGHT tk_STONE tk_PERSON : Tok}
    (a_Line : PySem.W.nsIn K mainGlobals "Line" = some (some (.ref cL)))
    (pg_Line : PySem.W.plainGet K cL Str.empty = true)
    (hd_Line : PySem.W.hasDictIn K cL = true)
    (po_Line : PySem.W.plainOver K cL = true)
    (sa_Line : PySem.W.findIn K (.ref cL) "__setattr__" = some (some (.builtin "object.__setattr__")))
    (mk_Line : PySem.W.makesIn K cL = true)
    (kc_Line : PySem.W.keepIn K (.ref cL) = true)
    (a_li : PySem.W.findIn K (.ref cL) "__init__" = some (some (.ref f_li)))
    (i_li : PySem.W.isFn K (.ref f_li) = true)
    (l_li : K.lookup f_li = some ⟨oc_li, od_li, .func (PySem.W.fnOf "__init__" "Line.__init__" (defArgs sLineInit) (defBody sLineInit) (defScope sLineInit) .none kV_li dc_li pm_li an_li cd_li ct_li), sl_li⟩)
    (c_li : PySem.W.codeIn K cd_li "Line.__init__" = true)
    (k_li : PySem.W.keepIn K (.ref f_li) = true)
    (a_le : PySem.W.findIn K (.ref cL) "at_end" = some (some (.ref f_le)))
    (i_le : PySem.W.isFn K (.ref f_le) = true)
    (l_le : K.lookup f_le = some ⟨oc_le, od_le, .func (PySem.W.fnOf "at_end" "Line.at_end" (defArgs sAtEnd) (defBody sAtEnd) (defScope sAtEnd) .none kV_le dc_le pm_le an_le cd_le ct_le), sl_le⟩)
    (c_le : PySem.W.codeIn K cd_le "Line.at_end" = true)
    (k_le : PySem.W.keepIn K (.ref f_le) = true)
    (a_ln : PySem.W.findIn K (.ref cL) "take_number" = some (some (.ref f_ln)))
    (i_ln : PySem.W.isFn K (.ref f_ln) = true)
    (l_ln : K.lookup f_ln = some ⟨oc_ln, od_ln, .func (PySem.W.fnOf "take_number" "Line.take_number" (defArgs sTakeNumber) (defBody sTakeNumber) (defScope sTakeNumber) .none kV_ln dc_ln pm_ln an_ln cd_ln ct_ln), sl_ln⟩)
    (c_ln : PySem.W.codeIn K cd_ln "Line.take_number" = true)
    (k_ln : PySem.W.keepIn K (.ref f_ln) = true)
    (a_ll : PySem.W.findIn K (.ref cL) "take_list" = some (some (.ref f_ll)))
    (i_ll : PySem.W.isFn K (.ref f_ll) = true)
    (l_ll : K.lookup f_ll = some ⟨oc_ll, od_ll, .func (PySem.W.fnOf "take_list" "Line.take_list" (defArgs sTakeList) (defBody sTakeList) (defScope sTakeList) .none kV_ll dc_ll pm_ll an_ll cd_ll ct_ll), sl_ll⟩)
    (c_ll : PySem.W.codeIn K cd_ll "Line.take_list" = true)
    (k_ll : PySem.W.keepIn K (.ref f_ll) = true)
    (a_ls : PySem.W.findIn K (.ref cL) "take_lists" = some (some (.ref f_ls)))
    (i_ls : PySem.W.isFn K (.ref f_ls) = true)
    (l_ls : K.lookup f_ls = some ⟨oc_ls, od_ls, .func (PySem.W.fnOf "take_lists" "Line.take_lists" (defArgs sTakeLists) (defBody sTakeLists) (defScope sTakeLists) .none kV_ls dc_ls pm_ls an_ls cd_ls ct_ls), sl_ls⟩)
    (c_ls : PySem.W.codeIn K cd_ls "Line.take_lists" = true)
    (k_ls : PySem.W.keepIn K (.ref f_ls) = true)
    (a_Baskets : PySem.W.nsIn K mainGlobals "Baskets" = some (some (.ref cB)))
    (pg_Baskets : PySem.W.plainGet K cB Str.empty = true)
    (hd_Baskets : PySem.W.hasDictIn K cB = true)
    (po_Baskets : PySem.W.plainOver K cB = true)
    (sa_Baskets : PySem.W.findIn K (.ref cB) "__setattr__" = some (some (.builtin "object.__setattr__")))
    (mk_Baskets : PySem.W.makesIn K cB = true)
    (kc_Baskets : PySem.W.keepIn K (.ref cB) = true)
    (a_bi : PySem.W.findIn K (.ref cB) "__init__" = some (some (.ref f_bi)))
    (i_bi : PySem.W.isFn K (.ref f_bi) = true)
    (l_bi : K.lookup f_bi = some ⟨oc_bi, od_bi, .func (PySem.W.fnOf "__init__" "Baskets.__init__" (defArgs sBasketsInit) (defBody sBasketsInit) (defScope sBasketsInit) .none kV_bi dc_bi pm_bi an_bi cd_bi ct_bi), sl_bi⟩)
    (c_bi : PySem.W.codeIn K cd_bi "Baskets.__init__" = true)
    (k_bi : PySem.W.keepIn K (.ref f_bi) = true)
    (a_bb : PySem.W.findIn K (.ref cB) "begin" = some (some (.ref f_bb)))
    (i_bb : PySem.W.isFn K (.ref f_bb) = true)
    (l_bb : K.lookup f_bb = some ⟨oc_bb, od_bb, .func (PySem.W.fnOf "begin" "Baskets.begin" (defArgs sBegin) (defBody sBegin) (defScope sBegin) .none kV_bb dc_bb pm_bb an_bb cd_bb ct_bb), sl_bb⟩)
    (c_bb : PySem.W.codeIn K cd_bb "Baskets.begin" = true)
    (k_bb : PySem.W.keepIn K (.ref f_bb) = true)
    (a_ba : PySem.W.findIn K (.ref cB) "answer" = some (some (.ref f_ba)))
    (i_ba : PySem.W.isFn K (.ref f_ba) = true)
    (l_ba : K.lookup f_ba = some ⟨oc_ba, od_ba, .func (PySem.W.fnOf "answer" "Baskets.answer" (defArgs sAnswer) (defBody sAnswer) (defScope sAnswer) .none kV_ba dc_ba pm_ba an_ba cd_ba ct_ba), sl_ba⟩)
    (c_ba : PySem.W.codeIn K cd_ba "Baskets.answer" = true)
    (k_ba : PySem.W.keepIn K (.ref f_ba) = true)
    (a_Tower : PySem.W.nsIn K mainGlobals "Tower" = some (some (.ref cT)))
    (pg_Tower : PySem.W.plainGet K cT Str.empty = true)
    (hd_Tower : PySem.W.hasDictIn K cT = true)
    (po_Tower : PySem.W.plainOver K cT = true)
    (sa_Tower : PySem.W.findIn K (.ref cT) "__setattr__" = some (some (.builtin "object.__setattr__")))
    (mk_Tower : PySem.W.makesIn K cT = true)
    (kc_Tower : PySem.W.keepIn K (.ref cT) = true)
    (a_ti : PySem.W.findIn K (.ref cT) "__init__" = some (some (.ref f_ti)))
    (i_ti : PySem.W.isFn K (.ref f_ti) = true)
    (l_ti : K.lookup f_ti = some ⟨oc_ti, od_ti, .func (PySem.W.fnOf "__init__" "Tower.__init__" (defArgs sTowerInit) (defBody sTowerInit) (defScope sTowerInit) .none kV_ti dc_ti pm_ti an_ti cd_ti ct_ti), sl_ti⟩)
    (c_ti : PySem.W.codeIn K cd_ti "Tower.__init__" = true)
    (k_ti : PySem.W.keepIn K (.ref f_ti) = true)
    (a_lr : PySem.W.nsIn K mainGlobals "longer_rows" = some (some (.ref f_lr)))
    (l_lr : K.lookup f_lr = some ⟨oc_lr, od_lr, .func (PySem.W.fnOf "longer_rows" "longer_rows" (defArgs sLongerRows) (defBody sLongerRows) (defScope sLongerRows) .none kV_lr dc_lr pm_lr an_lr cd_lr ct_lr), sl_lr⟩)
    (c_lr : PySem.W.codeIn K cd_lr "longer_rows" = true)
    (k_lr : PySem.W.keepIn K (.ref f_lr) = true)
    (a_ro : PySem.W.nsIn K mainGlobals "rows_of" = some (some (.ref f_ro)))
    (l_ro : K.lookup f_ro = some ⟨oc_ro, od_ro, .func (PySem.W.fnOf "rows_of" "rows_of" (defArgs sRowsOf) (defBody sRowsOf) (defScope sRowsOf) .none kV_ro dc_ro pm_ro an_ro cd_ro ct_ro), sl_ro⟩)
    (c_ro : PySem.W.codeIn K cd_ro "rows_of" = true)
    (k_ro : PySem.W.keepIn K (.ref f_ro) = true)
    (a_wo : PySem.W.nsIn K mainGlobals "weight_of" = some (some (.ref f_wo)))
    (l_wo : K.lookup f_wo = some ⟨oc_wo, od_wo, .func (PySem.W.fnOf "weight_of" "weight_of" (defArgs sWeightOf) (defBody sWeightOf) (defScope sWeightOf) .none kV_wo dc_wo pm_wo an_wo cd_wo ct_wo), sl_wo⟩)
    (c_wo : PySem.W.codeIn K cd_wo "weight_of" = true)
    (k_wo : PySem.W.keepIn K (.ref f_wo) = true)
    (a_of : PySem.W.nsIn K mainGlobals "overfull" = some (some (.ref f_of)))
    (l_of : K.lookup f_of = some ⟨oc_of, od_of, .func (PySem.W.fnOf "overfull" "overfull" (defArgs sOverfull) (defBody sOverfull) (defScope sOverfull) .none kV_of dc_of pm_of an_of cd_of ct_of), sl_of⟩)
    (c_of : PySem.W.codeIn K cd_of "overfull" = true)
    (k_of : PySem.W.keepIn K (.ref f_of) = true)
    (a_un : PySem.W.nsIn K mainGlobals "unlike" = some (some (.ref f_un)))
    (l_un : K.lookup f_un = some ⟨oc_un, od_un, .func (PySem.W.fnOf "unlike" "unlike" (defArgs sUnlike) (defBody sUnlike) (defScope sUnlike) .none kV_un dc_un pm_un an_un cd_un ct_un), sl_un⟩)
    (c_un : PySem.W.codeIn K cd_un "unlike" = true)
    (k_un : PySem.W.keepIn K (.ref f_un) = true)
    (a_pa : PySem.W.nsIn K mainGlobals "person_among" = some (some (.ref f_pa)))
    (l_pa : K.lookup f_pa = some ⟨oc_pa, od_pa, .func (PySem.W.fnOf "person_among" "person_among" (defArgs sPersonAmong) (defBody sPersonAmong) (defScope sPersonAmong) .none kV_pa dc_pa pm_pa an_pa cd_pa ct_pa), sl_pa⟩)
    (c_pa : PySem.W.codeIn K cd_pa "person_among" = true)
    (k_pa : PySem.W.keepIn K (.ref f_pa) = true)
    (a_ve : PySem.W.nsIn K mainGlobals "verdict" = some (some (.ref f_ve)))
    (l_ve : K.lookup f_ve = some ⟨oc_ve, od_ve, .func (PySem.W.fnOf "verdict" "verdict" (defArgs sVerdict) (defBody sVerdict) (defScope sVerdict) .none kV_ve dc_ve pm_ve an_ve cd_ve ct_ve), sl_ve⟩)
    (c_ve : PySem.W.codeIn K cd_ve "verdict" = true)
    (k_ve : PySem.W.keepIn K (.ref f_ve) = true)
    (a_pr : PySem.W.nsIn K mainGlobals "possible_rows" = some (some (.ref f_pr)))
    (l_pr : K.lookup f_pr = some ⟨oc_pr, od_pr, .func (PySem.W.fnOf "possible_rows" "possible_rows" (defArgs sPossibleRows) (defBody sPossibleRows) (defScope sPossibleRows) .none kV_pr dc_pr pm_pr an_pr cd_pr ct_pr), sl_pr⟩)
    (c_pr : PySem.W.codeIn K cd_pr "possible_rows" = true)
    (k_pr : PySem.W.keepIn K (.ref f_pr) = true)
    (a_tu : PySem.W.nsIn K mainGlobals "turned" = some (some (.ref f_tu)))
    (l_tu : K.lookup f_tu = some ⟨oc_tu, od_tu, .func (PySem.W.fnOf "turned" "turned" (defArgs sTurned) (defBody sTurned) (defScope sTurned) .none kV_tu dc_tu pm_tu an_tu cd_tu ct_tu), sl_tu⟩)
    (c_tu : PySem.W.codeIn K cd_tu "turned" = true)
    (k_tu : PySem.W.keepIn K (.ref f_tu) = true)
    (a_fw : PySem.W.nsIn K mainGlobals "first_ways" = some (some (.ref f_fw)))
    (l_fw : K.lookup f_fw = some ⟨oc_fw, od_fw, .func (PySem.W.fnOf "first_ways" "first_ways" (defArgs sFirstWays) (defBody sFirstWays) (defScope sFirstWays) .none kV_fw dc_fw pm_fw an_fw cd_fw ct_fw), sl_fw⟩)
    (c_fw : PySem.W.codeIn K cd_fw "first_ways" = true)
    (k_fw : PySem.W.keepIn K (.ref f_fw) = true)
    (a_tr : PySem.W.nsIn K mainGlobals "told_row" = some (some (.ref f_tr)))
    (l_tr : K.lookup f_tr = some ⟨oc_tr, od_tr, .func (PySem.W.fnOf "told_row" "told_row" (defArgs sToldRow) (defBody sToldRow) (defScope sToldRow) .none kV_tr dc_tr pm_tr an_tr cd_tr ct_tr), sl_tr⟩)
    (c_tr : PySem.W.codeIn K cd_tr "told_row" = true)
    (k_tr : PySem.W.keepIn K (.ref f_tr) = true)
    (a_tw : PySem.W.nsIn K mainGlobals "told_way" = some (some (.ref f_tw)))
    (l_tw : K.lookup f_tw = some ⟨oc_tw, od_tw, .func (PySem.W.fnOf "told_way" "told_way" (defArgs sToldWay) (defBody sToldWay) (defScope sToldWay) .none kV_tw dc_tw pm_tw an_tw cd_tw ct_tw), sl_tw⟩)
    (c_tw : PySem.W.codeIn K cd_tw "told_way" = true)
    (k_tw : PySem.W.keepIn K (.ref f_tw) = true)
    (a_rt : PySem.W.nsIn K mainGlobals "right_thing" = some (some (.ref f_rt)))
    (l_rt : K.lookup f_rt = some ⟨oc_rt, od_rt, .func (PySem.W.fnOf "right_thing" "right_thing" (defArgs sRightThing) (defBody sRightThing) (defScope sRightThing) .none kV_rt dc_rt pm_rt an_rt cd_rt ct_rt), sl_rt⟩)
    (c_rt : PySem.W.codeIn K cd_rt "right_thing" = true)
    (k_rt : PySem.W.keepIn K (.ref f_rt) = true)
    (a_rw : PySem.W.nsIn K mainGlobals "right_tower" = some (some (.ref f_rw)))
    (l_rw : K.lookup f_rw = some ⟨oc_rw, od_rw, .func (PySem.W.fnOf "right_tower" "right_tower" (defArgs sRightTower) (defBody sRightTower) (defScope sRightTower) .none kV_rw dc_rw pm_rw an_rw cd_rw ct_rw), sl_rw⟩)
    (c_rw : PySem.W.codeIn K cd_rw "right_tower" = true)
    (k_rw : PySem.W.keepIn K (.ref f_rw) = true)
    (a_rs : PySem.W.nsIn K mainGlobals "right_things" = some (some (.ref f_rs)))
    (l_rs : K.lookup f_rs = some ⟨oc_rs, od_rs, .func (PySem.W.fnOf "right_things" "right_things" (defArgs sRightThings) (defBody sRightThings) (defScope sRightThings) .none kV_rs dc_rs pm_rs an_rs cd_rs ct_rs), sl_rs⟩)
    (c_rs : PySem.W.codeIn K cd_rs "right_things" = true)
    (k_rs : PySem.W.keepIn K (.ref f_rs) = true)
    (a_ju : PySem.W.nsIn K mainGlobals "judge" = some (some (.ref f_ju)))
    (l_ju : K.lookup f_ju = some ⟨oc_ju, od_ju, .func (PySem.W.fnOf "judge" "judge" (defArgs sJudge) (defBody sJudge) (defScope sJudge) .none kV_ju dc_ju pm_ju an_ju cd_ju ct_ju), sl_ju⟩)
    (c_ju : PySem.W.codeIn K cd_ju "judge" = true)
    (k_ju : PySem.W.keepIn K (.ref f_ju) = true)
    (a_nl : PySem.W.nsIn K mainGlobals "needed_limit" = some (some (.ref f_nl)))
    (l_nl : K.lookup f_nl = some ⟨oc_nl, od_nl, .func (PySem.W.fnOf "needed_limit" "needed_limit" (defArgs sNeededLimit) (defBody sNeededLimit) (defScope sNeededLimit) .none kV_nl dc_nl pm_nl an_nl cd_nl ct_nl), sl_nl⟩)
    (c_nl : PySem.W.codeIn K cd_nl "needed_limit" = true)
    (k_nl : PySem.W.keepIn K (.ref f_nl) = true)
    (a_rb : PySem.W.nsIn K mainGlobals "rows_but_for_limit" = some (some (.ref f_rb)))
    (l_rb : K.lookup f_rb = some ⟨oc_rb, od_rb, .func (PySem.W.fnOf "rows_but_for_limit" "rows_but_for_limit" (defArgs sRowsBut) (defBody sRowsBut) (defScope sRowsBut) .none kV_rb dc_rb pm_rb an_rb cd_rb ct_rb), sl_rb⟩)
    (c_rb : PySem.W.codeIn K cd_rb "rows_but_for_limit" = true)
    (k_rb : PySem.W.keepIn K (.ref f_rb) = true)
    (a_fy : PySem.W.nsIn K mainGlobals "fewest_way" = some (some (.ref f_fy)))
    (l_fy : K.lookup f_fy = some ⟨oc_fy, od_fy, .func (PySem.W.fnOf "fewest_way" "fewest_way" (defArgs sFewestWay) (defBody sFewestWay) (defScope sFewestWay) .none kV_fy dc_fy pm_fy an_fy cd_fy ct_fy), sl_fy⟩)
    (c_fy : PySem.W.codeIn K cd_fy "fewest_way" = true)
    (k_fy : PySem.W.keepIn K (.ref f_fy) = true)
    (a_lm : PySem.W.nsIn K mainGlobals "least_limits" = some (some (.ref f_lm)))
    (l_lm : K.lookup f_lm = some ⟨oc_lm, od_lm, .func (PySem.W.fnOf "least_limits" "least_limits" (defArgs sLeastLimits) (defBody sLeastLimits) (defScope sLeastLimits) .none kV_lm dc_lm pm_lm an_lm (.ref cc) ct_lm), sl_lm⟩)
    (c_lm : PySem.W.codeIn K (.ref cc) "least_limits" = true)
    (k_lm : PySem.W.keepIn K (.ref f_lm) = true)
    (a_mt : PySem.W.nsIn K mainGlobals "make_turn" = some (some (.ref f_mt)))
    (l_mt : K.lookup f_mt = some ⟨oc_mt, od_mt, .func (PySem.W.fnOf "make_turn" "make_turn" (defArgs sMakeTurn) (defBody sMakeTurn) (defScope sMakeTurn) .none kV_mt dc_mt pm_mt an_mt cd_mt ct_mt), sl_mt⟩)
    (c_mt : PySem.W.codeIn K cd_mt "make_turn" = true)
    (k_mt : PySem.W.keepIn K (.ref f_mt) = true)
    (a_xt : PySem.W.nsIn K mainGlobals "answer_turn" = some (some (.ref f_xt)))
    (l_xt : K.lookup f_xt = some ⟨oc_xt, od_xt, .func (PySem.W.fnOf "answer_turn" "answer_turn" (defArgs sAnswerTurn) (defBody sAnswerTurn) (defScope sAnswerTurn) .none kV_xt dc_xt pm_xt an_xt cd_xt ct_xt), sl_xt⟩)
    (c_xt : PySem.W.codeIn K cd_xt "answer_turn" = true)
    (k_xt : PySem.W.keepIn K (.ref f_xt) = true)
    (a_xw : PySem.W.nsIn K mainGlobals "answer_why" = some (some (.ref f_xw)))
    (l_xw : K.lookup f_xw = some ⟨oc_xw, od_xw, .func (PySem.W.fnOf "answer_why" "answer_why" (defArgs sAnswerWhy) (defBody sAnswerWhy) (defScope sAnswerWhy) .none kV_xw dc_xw pm_xw an_xw cd_xw ct_xw), sl_xw⟩)
    (c_xw : PySem.W.codeIn K cd_xw "answer_why" = true)
    (k_xw : PySem.W.keepIn K (.ref f_xw) = true)
    (a_xs : PySem.W.nsIn K mainGlobals "answer_turns" = some (some (.ref f_xs)))
    (l_xs : K.lookup f_xs = some ⟨oc_xs, od_xs, .func (PySem.W.fnOf "answer_turns" "answer_turns" (defArgs sAnswerTurns) (defBody sAnswerTurns) (defScope sAnswerTurns) .none kV_xs dc_xs pm_xs an_xs cd_xs ct_xs), sl_xs⟩)
    (c_xs : PySem.W.codeIn K cd_xs "answer_turns" = true)
    (k_xs : PySem.W.keepIn K (.ref f_xs) = true)
    (a_xf : PySem.W.nsIn K mainGlobals "answer_fewest" = some (some (.ref f_xf)))
    (l_xf : K.lookup f_xf = some ⟨oc_xf, od_xf, .func (PySem.W.fnOf "answer_fewest" "answer_fewest" (defArgs sAnswerFewest) (defBody sAnswerFewest) (defScope sAnswerFewest) .none kV_xf dc_xf pm_xf an_xf cd_xf ct_xf), sl_xf⟩)
    (c_xf : PySem.W.codeIn K cd_xf "answer_fewest" = true)
    (k_xf : PySem.W.keepIn K (.ref f_xf) = true)
    (a_xo : PySem.W.nsIn K mainGlobals "answer_to" = some (some (.ref f_xo)))
    (l_xo : K.lookup f_xo = some ⟨oc_xo, od_xo, .func (PySem.W.fnOf "answer_to" "answer_to" (defArgs sAnswerTo) (defBody sAnswerTo) (defScope sAnswerTo) .none kV_xo dc_xo pm_xo an_xo cd_xo ct_xo), sl_xo⟩)
    (c_xo : PySem.W.codeIn K cd_xo "answer_to" = true)
    (k_xo : PySem.W.keepIn K (.ref f_xo) = true)
    (a_xc : PySem.W.nsIn K mainGlobals "answer_comes" = some (some (.ref f_xc)))
    (l_xc : K.lookup f_xc = some ⟨oc_xc, od_xc, .func (PySem.W.fnOf "answer_comes" "answer_comes" (defArgs sAnswerComes) (defBody sAnswerComes) (defScope sAnswerComes) .none kV_xc dc_xc pm_xc an_xc cd_xc ct_xc), sl_xc⟩)
    (c_xc : PySem.W.codeIn K cd_xc "answer_comes" = true)
    (k_xc : PySem.W.keepIn K (.ref f_xc) = true)
    (a_xl : PySem.W.nsIn K mainGlobals "answer_least" = some (some (.ref f_xl)))
    (l_xl : K.lookup f_xl = some ⟨oc_xl, od_xl, .func (PySem.W.fnOf "answer_least" "answer_least" (defArgs sAnswerLeast) (defBody sAnswerLeast) (defScope sAnswerLeast) .none kV_xl dc_xl pm_xl an_xl cd_xl ct_xl), sl_xl⟩)
    (c_xl : PySem.W.codeIn K cd_xl "answer_least" = true)
    (k_xl : PySem.W.keepIn K (.ref f_xl) = true)
    (a_xi : PySem.W.nsIn K mainGlobals "answer_limit" = some (some (.ref f_xi)))
    (l_xi : K.lookup f_xi = some ⟨oc_xi, od_xi, .func (PySem.W.fnOf "answer_limit" "answer_limit" (defArgs sAnswerLimit) (defBody sAnswerLimit) (defScope sAnswerLimit) .none kV_xi dc_xi pm_xi an_xi cd_xi ct_xi), sl_xi⟩)
    (c_xi : PySem.W.codeIn K cd_xi "answer_limit" = true)
    (k_xi : PySem.W.keepIn K (.ref f_xi) = true)
    (a_xg : PySem.W.nsIn K mainGlobals "answer_follow" = some (some (.ref f_xg)))
    (l_xg : K.lookup f_xg = some ⟨oc_xg, od_xg, .func (PySem.W.fnOf "answer_follow" "answer_follow" (defArgs sAnswerFollow) (defBody sAnswerFollow) (defScope sAnswerFollow) .none kV_xg dc_xg pm_xg an_xg cd_xg ct_xg), sl_xg⟩)
    (c_xg : PySem.W.codeIn K cd_xg "answer_follow" = true)
    (k_xg : PySem.W.keepIn K (.ref f_xg) = true)
    (a_xk : PySem.W.nsIn K mainGlobals "answer_look" = some (some (.ref f_xk)))
    (l_xk : K.lookup f_xk = some ⟨oc_xk, od_xk, .func (PySem.W.fnOf "answer_look" "answer_look" (defArgs sAnswerLook) (defBody sAnswerLook) (defScope sAnswerLook) .none kV_xk dc_xk pm_xk an_xk cd_xk ct_xk), sl_xk⟩)
    (c_xk : PySem.W.codeIn K cd_xk "answer_look" = true)
    (k_xk : PySem.W.keepIn K (.ref f_xk) = true)
    (a_xn : PySem.W.nsIn K mainGlobals "answer_on" = some (some (.ref f_xn)))
    (l_xn : K.lookup f_xn = some ⟨oc_xn, od_xn, .func (PySem.W.fnOf "answer_on" "answer_on" (defArgs sAnswerOn) (defBody sAnswerOn) (defScope sAnswerOn) .none kV_xn dc_xn pm_xn an_xn cd_xn ct_xn), sl_xn⟩)
    (c_xn : PySem.W.codeIn K cd_xn "answer_on" = true)
    (k_xn : PySem.W.keepIn K (.ref f_xn) = true)
    (a_an : PySem.W.nsIn K mainGlobals "answers" = some (some (.ref f_an)))
    (l_an : K.lookup f_an = some ⟨oc_an, od_an, .func (PySem.W.fnOf "answers" "answers" (defArgs sAnswers) (defBody sAnswers) (defScope sAnswers) .none kV_an dc_an pm_an an_an cd_an ct_an), sl_an⟩)
    (c_an : PySem.W.codeIn K cd_an "answers" = true)
    (k_an : PySem.W.keepIn K (.ref f_an) = true)
    (n_cT_limit : PySem.W.findIn K (.ref cT) "limit" = some none)
    (n_cT_holds : PySem.W.findIn K (.ref cT) "holds" = some none)
    (n_cT_weights : PySem.W.findIn K (.ref cT) "weights" = some none)
    (n_cT_people : PySem.W.findIn K (.ref cT) "people" = some none)
    (n_cT_rows : PySem.W.findIn K (.ref cT) "rows" = some none)
    (n_cT_above : PySem.W.findIn K (.ref cT) "above" = some none)
    (n_cT_made : PySem.W.findIn K (.ref cT) "made" = some none)
    (n_cL_calls : PySem.W.findIn K (.ref cL) "calls" = some none)
    (n_cL_at : PySem.W.findIn K (.ref cL) "at" = some none)
    (n_cB_tower : PySem.W.findIn K (.ref cB) "tower" = some none)
    (n_cT_tl : PySem.W.findIn K (.ref cT) "take_list" = some none)
    (n_cB_tl : PySem.W.findIn K (.ref cB) "take_list" = some none)
    (n_cT_bg : PySem.W.findIn K (.ref cT) "begin" = some none)
    (h_lm : K.lookup cc = some ⟨.type "code", od1, .fields vs1, sl1⟩)
    (h_lm2 : ((match (vs1[11]? : Option Value) with | some (.ref P') => P' == Pt | _ => false) && (match vs1.getD 18 .none with | .str _ _ => true | _ => false) && (match vs1.getD 7 .none with | .int _ _ => true | _ => false) && (match vs1.getD 9 .none with | .bool _ => true | _ => false) && (match vs1.getD 10 .none with | .int _ _ => true | _ => false) && cc != Pt) = true)
    (b_len : PySem.W.nsIn K mainGlobals "len" = some none)
    (b_sum : PySem.W.nsIn K mainGlobals "sum" = some none)
    (b_range : PySem.W.nsIn K mainGlobals "range" = some none)
    (b_tuple : PySem.W.nsIn K mainGlobals "tuple" = some none)
    (b_list : PySem.W.nsIn K mainGlobals "list" = some none)
    (b_set : PySem.W.nsIn K mainGlobals "set" = some none)
    (b_sorted : PySem.W.nsIn K mainGlobals "sorted" = some none)
    (b_all : PySem.W.nsIn K mainGlobals "all" = some none)
    (b_min : PySem.W.nsIn K mainGlobals "min" = some none)
    (b_max : PySem.W.nsIn K mainGlobals "max" = some none)
    (g_BEGIN : PySem.W.nsIn K mainGlobals "BEGIN" = some (some (.int (0) tk_BEGIN)))
    (g_TURN : PySem.W.nsIn K mainGlobals "TURN" = some (some (.int (1) tk_TURN)))
    (g_WHY : PySem.W.nsIn K mainGlobals "WHY" = some (some (.int (2) tk_WHY)))
    (g_TURNS : PySem.W.nsIn K mainGlobals "TURNS" = some (some (.int (3) tk_TURNS)))
    (g_FEWEST : PySem.W.nsIn K mainGlobals "FEWEST" = some (some (.int (4) tk_FEWEST)))
    (g_TO : PySem.W.nsIn K mainGlobals "TO" = some (some (.int (5) tk_TO)))
    (g_COMES : PySem.W.nsIn K mainGlobals "COMES" = some (some (.int (6) tk_COMES)))
    (g_LEAST : PySem.W.nsIn K mainGlobals "LEAST" = some (some (.int (7) tk_LEAST)))
    (g_LIMIT : PySem.W.nsIn K mainGlobals "LIMIT" = some (some (.int (8) tk_LIMIT)))
    (g_FOLLOW : PySem.W.nsIn K mainGlobals "FOLLOW" = some (some (.int (9) tk_FOLLOW)))
    (g_DONE : PySem.W.nsIn K mainGlobals "DONE" = some (some (.int (0) tk_DONE)))
    (g_WRONG : PySem.W.nsIn K mainGlobals "WRONG" = some (some (.int (-1) tk_WRONG)))
    (g_TOO_MANY : PySem.W.nsIn K mainGlobals "TOO_MANY" = some (some (.int (-4) tk_TOO_MANY)))
    (g_NOT_HEAVIER : PySem.W.nsIn K mainGlobals "NOT_HEAVIER" = some (some (.int (-6) tk_NOT_HEAVIER)))
    (g_NO_WAY : PySem.W.nsIn K mainGlobals "NO_WAY" = some (some (.int (-6) tk_NO_WAY)))
    (g_TOO_UNLIKE : PySem.W.nsIn K mainGlobals "TOO_UNLIKE" = some (some (.int (-7) tk_TOO_UNLIKE)))
    (g_NO_TOWER : PySem.W.nsIn K mainGlobals "NO_TOWER" = some (some (.int (-9) tk_NO_TOWER)))
    (g_MOST_LIMIT : PySem.W.nsIn K mainGlobals "MOST_LIMIT" = some (some (.int (300) tk_MOST_LIMIT)))
    (g_MOST_HOLDS : PySem.W.nsIn K mainGlobals "MOST_HOLDS" = some (some (.int (5) tk_MOST_HOLDS)))
    (g_MOST_THINGS : PySem.W.nsIn K mainGlobals "MOST_THINGS" = some (some (.int (5) tk_MOST_THINGS)))
    (g_MOST_WEIGHT : PySem.W.nsIn K mainGlobals "MOST_WEIGHT" = some (some (.int (300) tk_MOST_WEIGHT)))
    (g_STONE : PySem.W.nsIn K mainGlobals "STONE" = some (some (.int (0) tk_STONE)))
    (g_PERSON : PySem.W.nsIn K mainGlobals "PERSON" = some (some (.int (1) tk_PERSON)))
    : ∃ fd : FuncData, (∀ (s : Shared) (us : List Value), us.length = (["calls"] : List Str).length → BindsTo s fd ⟨us, []⟩ ((["calls"] : List Str).zip us)) ∧ ∀ base : Heap, K.In base → base.Ns mainGlobals mg → BmAt mg base → FnOk P w K mg base CX0 30 fa fd ["calls"] (spAnswers Pt K) := by
  have e := hfa.symm.trans (PySem.W.mg_of X G a_an)
  cases e
  have F_li := fun_mk (st := sLineInit) l_li c_li k_li
  have B_li := F_li.binds (ps := ["self", "calls"]) fun _ _ _ _ _ _ us hl => by obtain ⟨a, b, rfl⟩ := us2 hl; rfl
  have F_le := fun_mk (st := sAtEnd) l_le c_le k_le
  have B_le := F_le.binds (ps := ["self"]) fun _ _ _ _ _ _ us hl => by obtain ⟨a, rfl⟩ := us1 hl; rfl
  have F_ln := fun_mk (st := sTakeNumber) l_ln c_ln k_ln
  have B_ln := F_ln.binds (ps := ["self"]) fun _ _ _ _ _ _ us hl => by obtain ⟨a, rfl⟩ := us1 hl; rfl
  have F_ll := fun_mk (st := sTakeList) l_ll c_ll k_ll
  have B_ll := F_ll.binds (ps := ["self"]) fun _ _ _ _ _ _ us hl => by obtain ⟨a, rfl⟩ := us1 hl; rfl
  have F_ls := fun_mk (st := sTakeLists) l_ls c_ls k_ls
  have B_ls := F_ls.binds (ps := ["self"]) fun _ _ _ _ _ _ us hl => by obtain ⟨a, rfl⟩ := us1 hl; rfl
  have F_bi := fun_mk (st := sBasketsInit) l_bi c_bi k_bi
  have B_bi := F_bi.binds (ps := ["self"]) fun _ _ _ _ _ _ us hl => by obtain ⟨a, rfl⟩ := us1 hl; rfl
  have F_bb := fun_mk (st := sBegin) l_bb c_bb k_bb
  have B_bb := F_bb.binds (ps := ["self", "limit", "holds", "things"]) fun _ _ _ _ _ _ us hl => by obtain ⟨a, b, c, d, rfl⟩ := us4 hl; rfl
  have F_ba := fun_mk (st := sAnswer) l_ba c_ba k_ba
  have B_ba := F_ba.binds (ps := ["self", "place", "numbers", "lists"]) fun _ _ _ _ _ _ us hl => by obtain ⟨a, b, c, d, rfl⟩ := us4 hl; rfl
  have F_ti := fun_mk (st := sTowerInit) l_ti c_ti k_ti
  have B_ti := F_ti.binds (ps := ["self", "limit", "holds", "things"]) fun _ _ _ _ _ _ us hl => by obtain ⟨a, b, c, d, rfl⟩ := us4 hl; rfl
  have F_lr := fun_mk (st := sLongerRows) l_lr c_lr k_lr
  have B_lr := F_lr.binds (ps := ["rows", "count"]) fun _ _ _ _ _ _ us hl => by obtain ⟨a, b, rfl⟩ := us2 hl; rfl
  have F_ro := fun_mk (st := sRowsOf) l_ro c_ro k_ro
  have B_ro := F_ro.binds (ps := ["count"]) fun _ _ _ _ _ _ us hl => by obtain ⟨a, rfl⟩ := us1 hl; rfl
  have F_wo := fun_mk (st := sWeightOf) l_wo c_wo k_wo
  have B_wo := F_wo.binds (ps := ["tower", "numbers"]) fun _ _ _ _ _ _ us hl => by obtain ⟨a, b, rfl⟩ := us2 hl; rfl
  have F_of := fun_mk (st := sOverfull) l_of c_of k_of
  have B_of := F_of.binds (ps := ["tower", "above", "things"]) fun _ _ _ _ _ _ us hl => by obtain ⟨a, b, c, rfl⟩ := us3 hl; rfl
  have F_un := fun_mk (st := sUnlike) l_un c_un k_un
  have B_un := F_un.binds (ps := ["tower", "above", "things"]) fun _ _ _ _ _ _ us hl => by obtain ⟨a, b, c, rfl⟩ := us3 hl; rfl
  have F_pa := fun_mk (st := sPersonAmong) l_pa c_pa k_pa
  have B_pa := F_pa.binds (ps := ["tower", "numbers"]) fun _ _ _ _ _ _ us hl => by obtain ⟨a, b, rfl⟩ := us2 hl; rfl
  have F_ve := fun_mk (st := sVerdict) l_ve c_ve k_ve
  have B_ve := F_ve.binds (ps := ["tower", "above", "things"]) fun _ _ _ _ _ _ us hl => by obtain ⟨a, b, c, rfl⟩ := us3 hl; rfl
  have F_pr := fun_mk (st := sPossibleRows) l_pr c_pr k_pr
  have B_pr := F_pr.binds (ps := ["tower", "above"]) fun _ _ _ _ _ _ us hl => by obtain ⟨a, b, rfl⟩ := us2 hl; rfl
  have F_tu := fun_mk (st := sTurned) l_tu c_tu k_tu
  have B_tu := F_tu.binds (ps := ["tower", "above", "things"]) fun _ _ _ _ _ _ us hl => by obtain ⟨a, b, c, rfl⟩ := us3 hl; rfl
  have F_fw := fun_mk (st := sFirstWays) l_fw c_fw k_fw
  have B_fw := F_fw.binds (ps := ["tower"]) fun _ _ _ _ _ _ us hl => by obtain ⟨a, rfl⟩ := us1 hl; rfl
  have F_tr := fun_mk (st := sToldRow) l_tr c_tr k_tr
  have B_tr := F_tr.binds (ps := ["row"]) fun _ _ _ _ _ _ us hl => by obtain ⟨a, rfl⟩ := us1 hl; rfl
  have F_tw := fun_mk (st := sToldWay) l_tw c_tw k_tw
  have B_tw := F_tw.binds (ps := ["way"]) fun _ _ _ _ _ _ us hl => by obtain ⟨a, rfl⟩ := us1 hl; rfl
  have F_rt := fun_mk (st := sRightThing) l_rt c_rt k_rt
  have B_rt := F_rt.binds (ps := ["thing"]) fun _ _ _ _ _ _ us hl => by obtain ⟨a, rfl⟩ := us1 hl; rfl
  have F_rw := fun_mk (st := sRightTower) l_rw c_rw k_rw
  have B_rw := F_rw.binds (ps := ["limit", "holds", "things"]) fun _ _ _ _ _ _ us hl => by obtain ⟨a, b, c, rfl⟩ := us3 hl; rfl
  have F_rs := fun_mk (st := sRightThings) l_rs c_rs k_rs
  have B_rs := F_rs.binds (ps := ["tower", "things"]) fun _ _ _ _ _ _ us hl => by obtain ⟨a, b, rfl⟩ := us2 hl; rfl
  have F_ju := fun_mk (st := sJudge) l_ju c_ju k_ju
  have B_ju := F_ju.binds (ps := ["tower", "things"]) fun _ _ _ _ _ _ us hl => by obtain ⟨a, b, rfl⟩ := us2 hl; rfl
  have F_nl := fun_mk (st := sNeededLimit) l_nl c_nl k_nl
  have B_nl := F_nl.binds (ps := ["tower", "above", "things"]) fun _ _ _ _ _ _ us hl => by obtain ⟨a, b, c, rfl⟩ := us3 hl; rfl
  have F_rb := fun_mk (st := sRowsBut) l_rb c_rb k_rb
  have B_rb := F_rb.binds (ps := ["tower", "above"]) fun _ _ _ _ _ _ us hl => by obtain ⟨a, b, rfl⟩ := us2 hl; rfl
  have F_fy := fun_mk (st := sFewestWay) l_fy c_fy k_fy
  have B_fy := F_fy.binds (ps := ["tower"]) fun _ _ _ _ _ _ us hl => by obtain ⟨a, rfl⟩ := us1 hl; rfl
  have F_lm := fun_mk (st := sLeastLimits) l_lm c_lm k_lm
  have B_lm := F_lm.binds (ps := ["tower"]) fun _ _ _ _ _ _ us hl => by obtain ⟨a, rfl⟩ := us1 hl; rfl
  have F_mt := fun_mk (st := sMakeTurn) l_mt c_mt k_mt
  have B_mt := F_mt.binds (ps := ["tower", "things"]) fun _ _ _ _ _ _ us hl => by obtain ⟨a, b, rfl⟩ := us2 hl; rfl
  have F_xt := fun_mk (st := sAnswerTurn) l_xt c_xt k_xt
  have B_xt := F_xt.binds (ps := ["tower", "things"]) fun _ _ _ _ _ _ us hl => by obtain ⟨a, b, rfl⟩ := us2 hl; rfl
  have F_xw := fun_mk (st := sAnswerWhy) l_xw c_xw k_xw
  have B_xw := F_xw.binds (ps := ["tower", "things"]) fun _ _ _ _ _ _ us hl => by obtain ⟨a, b, rfl⟩ := us2 hl; rfl
  have F_xs := fun_mk (st := sAnswerTurns) l_xs c_xs k_xs
  have B_xs := F_xs.binds (ps := ["tower"]) fun _ _ _ _ _ _ us hl => by obtain ⟨a, rfl⟩ := us1 hl; rfl
  have F_xf := fun_mk (st := sAnswerFewest) l_xf c_xf k_xf
  have B_xf := F_xf.binds (ps := ["tower"]) fun _ _ _ _ _ _ us hl => by obtain ⟨a, rfl⟩ := us1 hl; rfl
  have F_xo := fun_mk (st := sAnswerTo) l_xo c_xo k_xo
  have B_xo := F_xo.binds (ps := ["tower", "things"]) fun _ _ _ _ _ _ us hl => by obtain ⟨a, b, rfl⟩ := us2 hl; rfl
  have F_xc := fun_mk (st := sAnswerComes) l_xc c_xc k_xc
  have B_xc := F_xc.binds (ps := ["tower"]) fun _ _ _ _ _ _ us hl => by obtain ⟨a, rfl⟩ := us1 hl; rfl
  have F_xl := fun_mk (st := sAnswerLeast) l_xl c_xl k_xl
  have B_xl := F_xl.binds (ps := ["tower"]) fun _ _ _ _ _ _ us hl => by obtain ⟨a, rfl⟩ := us1 hl; rfl
  have F_xi := fun_mk (st := sAnswerLimit) l_xi c_xi k_xi
  have B_xi := F_xi.binds (ps := ["tower", "limit"]) fun _ _ _ _ _ _ us hl => by obtain ⟨a, b, rfl⟩ := us2 hl; rfl
  have F_xg := fun_mk (st := sAnswerFollow) l_xg c_xg k_xg
  have B_xg := F_xg.binds (ps := ["tower", "count"]) fun _ _ _ _ _ _ us hl => by obtain ⟨a, b, rfl⟩ := us2 hl; rfl
  have F_xk := fun_mk (st := sAnswerLook) l_xk c_xk k_xk
  have B_xk := F_xk.binds (ps := ["tower"]) fun _ _ _ _ _ _ us hl => by obtain ⟨a, rfl⟩ := us1 hl; rfl
  have F_xn := fun_mk (st := sAnswerOn) l_xn c_xn k_xn
  have B_xn := F_xn.binds (ps := ["tower", "place", "numbers", "lists"]) fun _ _ _ _ _ _ us hl => by obtain ⟨a, b, c, d, rfl⟩ := us4 hl; rfl
  have F_an := fun_mk (st := sAnswers) l_an c_an k_an
  have B_an := F_an.binds (ps := ["calls"]) fun _ _ _ _ _ _ us hl => by obtain ⟨a, rfl⟩ := us1 hl; rfl
  have C_Line : Cls K cL := ⟨pg_Line, hd_Line, po_Line, sa_Line⟩
  have C_Baskets : Cls K cB := ⟨pg_Baskets, hd_Baskets, po_Baskets, sa_Baskets⟩
  have C_Tower : Cls K cT := ⟨pg_Tower, hd_Tower, po_Tower, sa_Tower⟩
  have T : Txt K mg cT := ⟨C_Tower, n_cT_limit, n_cT_holds, n_cT_weights, n_cT_people, n_cT_rows, n_cT_above, n_cT_made, PySem.W.mg_none_of X G b_len, PySem.W.mg_none_of X G b_sum, PySem.W.mg_none_of X G b_range, PySem.W.mg_none_of X G b_tuple, PySem.W.mg_none_of X G b_list, PySem.W.mg_none_of X G b_set, PySem.W.mg_none_of X G b_sorted, PySem.W.mg_none_of X G b_all, PySem.W.mg_none_of X G b_min, PySem.W.mg_none_of X G b_max, ⟨_, PySem.W.mg_of X G g_BEGIN⟩, ⟨_, PySem.W.mg_of X G g_TURN⟩, ⟨_, PySem.W.mg_of X G g_WHY⟩, ⟨_, PySem.W.mg_of X G g_TURNS⟩, ⟨_, PySem.W.mg_of X G g_FEWEST⟩, ⟨_, PySem.W.mg_of X G g_TO⟩, ⟨_, PySem.W.mg_of X G g_COMES⟩, ⟨_, PySem.W.mg_of X G g_LEAST⟩, ⟨_, PySem.W.mg_of X G g_LIMIT⟩, ⟨_, PySem.W.mg_of X G g_FOLLOW⟩, ⟨_, PySem.W.mg_of X G g_DONE⟩, ⟨_, PySem.W.mg_of X G g_WRONG⟩, ⟨_, PySem.W.mg_of X G g_TOO_MANY⟩, ⟨_, PySem.W.mg_of X G g_NOT_HEAVIER⟩, ⟨_, PySem.W.mg_of X G g_NO_WAY⟩, ⟨_, PySem.W.mg_of X G g_TOO_UNLIKE⟩, ⟨_, PySem.W.mg_of X G g_NO_TOWER⟩, ⟨_, PySem.W.mg_of X G g_MOST_LIMIT⟩, ⟨_, PySem.W.mg_of X G g_MOST_HOLDS⟩, ⟨_, PySem.W.mg_of X G g_MOST_THINGS⟩, ⟨_, PySem.W.mg_of X G g_MOST_WEIGHT⟩, ⟨_, PySem.W.mg_of X G g_STONE⟩, ⟨_, PySem.W.mg_of X G g_PERSON⟩⟩
  have TL : TxtL K cL := ⟨C_Line, n_cL_calls, n_cL_at⟩
  have TB' : TxtB K cB := ⟨C_Baskets, n_cB_tower⟩
  have hLT : cL ≠ cT := fun z => by rw [z, n_cT_tl] at a_ll; cases a_ll
  have hLB : cL ≠ cB := fun z => by rw [z, n_cB_tl] at a_ll; cases a_ll
  refine ⟨PySem.W.fnOf "answers" "answers" (defArgs sAnswers) (defBody sAnswers) (defScope sAnswers) .none kV_an dc_an pm_an an_an cd_an ct_an, fun s us hu => (by obtain ⟨a, rfl⟩ := us1 hu; exact .of_eq rfl), fun base _ _ bm => ?_⟩
  have hBT : cB ≠ cT := fun z => by rw [z, n_cT_bg] at a_bb; cases a_bb
  have F2_lm : FunC K "least_limits" "least_limits" sLeastLimits f_lm _ (.ref cc) := ⟨⟨_, _, _, _, _, _, _, _, rfl, l_lm, c_lm⟩⟩
  have hC : PySem.W.codeHdIn K cc Pt = true := head_facts h_lm h_lm2
  have q_lr : Cal P w K mg base "longer_rows" 1 ["rows", "count"] (spLongerRows K) := ⟨⟨_, _, PySem.W.mg_of X G a_lr, k_lr, B_lr, ok_longer_rows F_lr T⟩⟩
  have q_ro : Cal P w K mg base "rows_of" 2 ["count"] (spRowsOf K) := ⟨⟨_, _, PySem.W.mg_of X G a_ro, k_ro, B_ro, ok_rows_of F_ro T q_lr⟩⟩
  have q_wo : Cal P w K mg base "weight_of" 1 ["tower", "numbers"] (spWeightOf K cT) := ⟨⟨_, _, PySem.W.mg_of X G a_wo, k_wo, B_wo, ok_weight_of F_wo T⟩⟩
  have q_of : Cal P w K mg base "overfull" 1 ["tower", "above", "things"] (spOverfull K cT) := ⟨⟨_, _, PySem.W.mg_of X G a_of, k_of, B_of, ok_overfull F_of T⟩⟩
  have q_un : Cal P w K mg base "unlike" 2 ["tower", "above", "things"] (spUnlike K cT) := ⟨⟨_, _, PySem.W.mg_of X G a_un, k_un, B_un, ok_unlike F_un T q_wo⟩⟩
  have q_pa : Cal P w K mg base "person_among" 1 ["tower", "numbers"] (spPersonAmong K cT) := ⟨⟨_, _, PySem.W.mg_of X G a_pa, k_pa, B_pa, ok_person_among F_pa T⟩⟩
  have q_nl : Cal P w K mg base "needed_limit" 3 ["tower", "above", "things"] (spNeededLimit K cT) := ⟨⟨_, _, PySem.W.mg_of X G a_nl, k_nl, B_nl, ok_needed_limit F_nl T q_un q_pa⟩⟩
  have q_ve : Cal P w K mg base "verdict" 4 ["tower", "above", "things"] (spVerdict K cT) := ⟨⟨_, _, PySem.W.mg_of X G a_ve, k_ve, B_ve, ok_verdict F_ve T q_of q_un q_nl⟩⟩
  have q_pr : Cal P w K mg base "possible_rows" 5 ["tower", "above"] (spPossibleRows K cT) := ⟨⟨_, _, PySem.W.mg_of X G a_pr, k_pr, B_pr, ok_possible_rows F_pr T q_ve⟩⟩
  have q_rb : Cal P w K mg base "rows_but_for_limit" 5 ["tower", "above"] (spRowsBut K cT) := ⟨⟨_, _, PySem.W.mg_of X G a_rb, k_rb, B_rb, ok_rows_but F_rb T q_ve⟩⟩
  have q_tu : Cal P w K mg base "turned" 1 ["tower", "above", "things"] (spTurned K cT) := ⟨⟨_, _, PySem.W.mg_of X G a_tu, k_tu, B_tu, ok_turned F_tu T⟩⟩
  have q_fw : Cal P w K mg base "first_ways" 6 ["tower"] (spFirstWays K cT) := ⟨⟨_, _, PySem.W.mg_of X G a_fw, k_fw, B_fw, ok_first_ways F_fw T q_pr q_tu⟩⟩
  have q_fy : Cal P w K mg base "fewest_way" 7 ["tower"] (spFewestWay K cT) := ⟨⟨_, _, PySem.W.mg_of X G a_fy, k_fy, B_fy, ok_fewest_way F_fy T q_fw q_pa⟩⟩
  have q_lm : Cal P w K mg base "least_limits" 6 ["tower"] (spLeastLimits Pt K cT) := ⟨⟨_, _, PySem.W.mg_of X G a_lm, k_lm, B_lm, ok_least_limits F2_lm T bm hC q_rb q_tu q_nl⟩⟩
  have q_mt : Cal P w K mg base "make_turn" 2 ["tower", "things"] (spMakeTurn K cT) := ⟨⟨_, _, PySem.W.mg_of X G a_mt, k_mt, B_mt, ok_make_turn F_mt T q_tu⟩⟩
  have q_tr : Cal P w K mg base "told_row" 1 ["row"] (spToldRow K) := ⟨⟨_, _, PySem.W.mg_of X G a_tr, k_tr, B_tr, ok_told_row F_tr T⟩⟩
  have q_tw : Cal P w K mg base "told_way" 2 ["way"] (spToldWay K) := ⟨⟨_, _, PySem.W.mg_of X G a_tw, k_tw, B_tw, ok_told_way F_tw T q_tr⟩⟩
  have q_rt : Cal P w K mg base "right_thing" 1 ["thing"] (spRightThing K) := ⟨⟨_, _, PySem.W.mg_of X G a_rt, k_rt, B_rt, ok_right_thing F_rt T⟩⟩
  have q_rw : Cal P w K mg base "right_tower" 2 ["limit", "holds", "things"] (spRightTower K) := ⟨⟨_, _, PySem.W.mg_of X G a_rw, k_rw, B_rw, ok_right_tower F_rw T q_rt⟩⟩
  have q_rs : Cal P w K mg base "right_things" 1 ["tower", "things"] (spRightThings K cT) := ⟨⟨_, _, PySem.W.mg_of X G a_rs, k_rs, B_rs, ok_right_things F_rs T⟩⟩
  have q_ju : Cal P w K mg base "judge" 5 ["tower", "things"] (spJudge K cT) := ⟨⟨_, _, PySem.W.mg_of X G a_ju, k_ju, B_ju, ok_judge F_ju T q_rs q_ve⟩⟩
  have q_li : CalC P w K mg base "Line" cL 1 ["self", "calls"] (spLineInit cL) := ⟨⟨_, _, PySem.W.mg_of X G a_Line, ⟨mk_Line, a_li, i_li, kc_Line⟩, B_li, ok_line_init F_li TL⟩⟩
  have q_le : CalM P w K mg base cL "at_end" 1 ["self"] (spAtEnd K cL) := ⟨⟨_, _, ⟨a_le, i_le, k_le⟩, B_le, ok_at_end F_le TL T⟩⟩
  have q_ln : CalM P w K mg base cL "take_number" 1 ["self"] (spTakeNumber K cL) := ⟨⟨_, _, ⟨a_ln, i_ln, k_ln⟩, B_ln, ok_take_number F_ln TL⟩⟩
  have q_ll : CalM P w K mg base cL "take_list" 2 ["self"] (spTakeList K cL) := ⟨⟨_, _, ⟨a_ll, i_ll, k_ll⟩, B_ll, ok_take_list F_ll TL q_ln⟩⟩
  have q_ls : CalM P w K mg base cL "take_lists" 3 ["self"] (spTakeLists K cL) := ⟨⟨_, _, ⟨a_ls, i_ls, k_ls⟩, B_ls, ok_take_lists F_ls TL T q_ln q_ll⟩⟩
  have q_bi : CalC P w K mg base "Baskets" cB 1 ["self"] (spBasketsInit cB) := ⟨⟨_, _, PySem.W.mg_of X G a_Baskets, ⟨mk_Baskets, a_bi, i_bi, kc_Baskets⟩, B_bi, ok_baskets_init F_bi TB'⟩⟩
  have q_xt : Cal P w K mg base "answer_turn" 6 ["tower", "things"] (spAnswerTurn K cB cT) := ⟨⟨_, _, PySem.W.mg_of X G a_xt, k_xt, B_xt, ok_answer_turn F_xt T q_ju q_un q_mt⟩⟩
  have q_xw : Cal P w K mg base "answer_why" 6 ["tower", "things"] (spAnswerWhy K cT) := ⟨⟨_, _, PySem.W.mg_of X G a_xw, k_xw, B_xw, ok_answer_why F_xw q_ju⟩⟩
  have q_xs : Cal P w K mg base "answer_turns" 6 ["tower"] (spAnswerTurns K cT) := ⟨⟨_, _, PySem.W.mg_of X G a_xs, k_xs, B_xs, ok_answer_turns F_xs T q_pr q_tr⟩⟩
  have q_xf : Cal P w K mg base "answer_fewest" 8 ["tower"] (spAnswerFewest K cT) := ⟨⟨_, _, PySem.W.mg_of X G a_xf, k_xf, B_xf, ok_answer_fewest F_xf T q_fy q_tw⟩⟩
  have q_xo : Cal P w K mg base "answer_to" 7 ["tower", "things"] (spAnswerTo K cT) := ⟨⟨_, _, PySem.W.mg_of X G a_xo, k_xo, B_xo, ok_answer_to F_xo T q_rs q_fw q_tw⟩⟩
  have q_xc : Cal P w K mg base "answer_comes" 7 ["tower"] (spAnswerComes K cT) := ⟨⟨_, _, PySem.W.mg_of X G a_xc, k_xc, B_xc, ok_answer_comes F_xc T q_fw⟩⟩
  have q_xl : Cal P w K mg base "answer_least" 7 ["tower"] (spAnswerLeast Pt K cT) := ⟨⟨_, _, PySem.W.mg_of X G a_xl, k_xl, B_xl, ok_answer_least F_xl T q_lm q_pa⟩⟩
  have q_xi : Cal P w K mg base "answer_limit" 1 ["tower", "limit"] (spAnswerLimit cT) := ⟨⟨_, _, PySem.W.mg_of X G a_xi, k_xi, B_xi, ok_answer_limit F_xi T⟩⟩
  have q_xg : Cal P w K mg base "answer_follow" 8 ["tower", "count"] (spAnswerFollow cT) := ⟨⟨_, _, PySem.W.mg_of X G a_xg, k_xg, B_xg, ok_answer_follow F_xg T q_fy q_mt q_tr⟩⟩
  have q_xk : Cal P w K mg base "answer_look" 2 ["tower"] (spAnswerLook cT) := ⟨⟨_, _, PySem.W.mg_of X G a_xk, k_xk, B_xk, ok_answer_look F_xk T q_tr⟩⟩
  have q_xn : Cal P w K mg base "answer_on" 9 ["tower", "place", "numbers", "lists"] (spAnswerOn Pt cT) := ⟨⟨_, _, PySem.W.mg_of X G a_xn, k_xn, B_xn, ok_answer_on (cB := cB) F_xn T q_xt q_xw q_xs q_xf q_xo q_xc q_xl q_xi q_xg q_xk⟩⟩
  have q_ti : CalC P w K mg base "Tower" cT 3 ["self", "limit", "holds", "things"] (spTowerInit cT) := ⟨⟨_, _, PySem.W.mg_of X G a_Tower, ⟨mk_Tower, a_ti, i_ti, kc_Tower⟩, B_ti, ok_tower_init F_ti T q_ro⟩⟩
  have q_bb : CalM P w K mg base cB "begin" 5 ["self", "limit", "holds", "things"] (spBegin Pt cB cT) := ⟨⟨_, _, ⟨a_bb, i_bb, k_bb⟩, B_bb, ok_begin F_bb T TB' hBT q_rw q_ti⟩⟩
  have q_ba : CalM P w K mg base cB "answer" 20 ["self", "place", "numbers", "lists"] (spAnswer Pt cB cT) := ⟨⟨_, _, ⟨a_ba, i_ba, k_ba⟩, B_ba, (ok_answer F_ba T TB' hBT q_bb q_xn).mono (by decide)⟩⟩
  exact ok_answers F_an T TL TB' hLT hLB q_li q_bi q_le q_ln q_ll q_ls q_ba
end TB
theorem PySem.W.Fast.te13094857632735212097 : True := trivial
open PySem PySem.W PyProof.Rows
set_option maxRecDepth 100000 in
set_option maxHeartbeats 0 in
theorem PySem.Challenge.cw_twobaskets_s01_answers_holds : PySem.Challenge.rw_twobaskets_s01_answers.Holds := by
  w_on; k_headS; (case hw => exact ⟨[.list [.int 3, .int 0, .int 0]], by decide +kernel, by decide +kernel⟩)
  k_fillS
  refine' TB.walkP (r := PySem.Challenge.rw_twobaskets_s01_answers) (k := 30) (ps := ["calls"]) (by decide +kernel) rfl rfl ⟨rfl, by decide, by decide⟩ ?hrec (fun w h Y => PySem.W.kIn_of Y) ?htab ?hKP ?F ?S
  case htab =>
    intro w
    refine' TB.tab_facts ?t1 ?t2 ?t3 ?t4 ?t5
    (case t1 => k_is)
    (case t2 => k_is)
    (case t3 => exact rfl)
    (case t4 => k_is)
    (case t5 => exact rfl)
  case hrec => kernel_rfl
  case hKP =>
    intro w
    kernel_rfl
  case F =>
    intro w mg fa h Y KX G hmg
    refine' TB.all_mk KX G hmg ?a_Line ?pg_Line ?hd_Line ?po_Line ?sa_Line ?mk_Line ?kc_Line ?a_li ?i_li ?l_li ?c_li ?k_li ?a_le ?i_le ?l_le ?c_le ?k_le ?a_ln ?i_ln ?l_ln ?c_ln ?k_ln ?a_ll ?i_ll ?l_ll ?c_ll ?k_ll ?a_ls ?i_ls ?l_ls ?c_ls ?k_ls ?a_Baskets ?pg_Baskets ?hd_Baskets ?po_Baskets ?sa_Baskets ?mk_Baskets ?kc_Baskets ?a_bi ?i_bi ?l_bi ?c_bi ?k_bi ?a_bb ?i_bb ?l_bb ?c_bb ?k_bb ?a_ba ?i_ba ?l_ba ?c_ba ?k_ba ?a_Tower ?pg_Tower ?hd_Tower ?po_Tower ?sa_Tower ?mk_Tower ?kc_Tower ?a_ti ?i_ti ?l_ti ?c_ti ?k_ti ?a_lr ?l_lr ?c_lr ?k_lr ?a_ro ?l_ro ?c_ro ?k_ro ?a_wo ?l_wo ?c_wo ?k_wo ?a_of ?l_of ?c_of ?k_of ?a_un ?l_un ?c_un ?k_un ?a_pa ?l_pa ?c_pa ?k_pa ?a_ve ?l_ve ?c_ve ?k_ve ?a_pr ?l_pr ?c_pr ?k_pr ?a_tu ?l_tu ?c_tu ?k_tu ?a_fw ?l_fw ?c_fw ?k_fw ?a_tr ?l_tr ?c_tr ?k_tr ?a_tw ?l_tw ?c_tw ?k_tw ?a_rt ?l_rt ?c_rt ?k_rt ?a_rw ?l_rw ?c_rw ?k_rw ?a_rs ?l_rs ?c_rs ?k_rs ?a_ju ?l_ju ?c_ju ?k_ju ?a_nl ?l_nl ?c_nl ?k_nl ?a_rb ?l_rb ?c_rb ?k_rb ?a_fy ?l_fy ?c_fy ?k_fy ?a_lm ?l_lm ?c_lm ?k_lm ?a_mt ?l_mt ?c_mt ?k_mt ?a_xt ?l_xt ?c_xt ?k_xt ?a_xw ?l_xw ?c_xw ?k_xw ?a_xs ?l_xs ?c_xs ?k_xs ?a_xf ?l_xf ?c_xf ?k_xf ?a_xo ?l_xo ?c_xo ?k_xo ?a_xc ?l_xc ?c_xc ?k_xc ?a_xl ?l_xl ?c_xl ?k_xl ?a_xi ?l_xi ?c_xi ?k_xi ?a_xg ?l_xg ?c_xg ?k_xg ?a_xk ?l_xk ?c_xk ?k_xk ?a_xn ?l_xn ?c_xn ?k_xn ?a_an ?l_an ?c_an ?k_an ?n_cT_limit ?n_cT_holds ?n_cT_weights ?n_cT_people ?n_cT_rows ?n_cT_above ?n_cT_made ?n_cL_calls ?n_cL_at ?n_cB_tower ?n_cT_tl ?n_cB_tl ?n_cT_bg ?h_lm ?h_lm2 ?b_len ?b_sum ?b_range ?b_tuple ?b_list ?b_set ?b_sorted ?b_all ?b_min ?b_max ?g_BEGIN ?g_TURN ?g_WHY ?g_TURNS ?g_FEWEST ?g_TO ?g_COMES ?g_LEAST ?g_LIMIT ?g_FOLLOW ?g_DONE ?g_WRONG ?g_TOO_MANY ?g_NOT_HEAVIER ?g_NO_WAY ?g_TOO_UNLIKE ?g_NO_TOWER ?g_MOST_LIMIT ?g_MOST_HOLDS ?g_MOST_THINGS ?g_MOST_WEIGHT ?g_STONE ?g_PERSON
    (case a_Line => k_is)
    (case pg_Line => k_is)
    (case hd_Line => k_is)
    (case po_Line => k_is)
    (case sa_Line => k_is)
    (case mk_Line => k_is)
    (case kc_Line => k_is)
    (case a_li => k_is)
    (case i_li => k_is)
    (case l_li => k_is)
    (case c_li => k_is)
    (case k_li => k_is)
    (case a_le => k_is)
    (case i_le => k_is)
    (case l_le => k_is)
    (case c_le => k_is)
    (case k_le => k_is)
    (case a_ln => k_is)
    (case i_ln => k_is)
    (case l_ln => k_is)
    (case c_ln => k_is)
    (case k_ln => k_is)
    (case a_ll => k_is)
    (case i_ll => k_is)
    (case l_ll => k_is)
    (case c_ll => k_is)
    (case k_ll => k_is)
    (case a_ls => k_is)
    (case i_ls => k_is)
    (case l_ls => k_is)
    (case c_ls => k_is)
    (case k_ls => k_is)
    (case a_Baskets => k_is)
    (case pg_Baskets => k_is)
    (case hd_Baskets => k_is)
    (case po_Baskets => k_is)
    (case sa_Baskets => k_is)
    (case mk_Baskets => k_is)
    (case kc_Baskets => k_is)
    (case a_bi => k_is)
    (case i_bi => k_is)
    (case l_bi => k_is)
    (case c_bi => k_is)
    (case k_bi => k_is)
    (case a_bb => k_is)
    (case i_bb => k_is)
    (case l_bb => k_is)
    (case c_bb => k_is)
    (case k_bb => k_is)
    (case a_ba => k_is)
    (case i_ba => k_is)
    (case l_ba => k_is)
    (case c_ba => k_is)
    (case k_ba => k_is)
    (case a_Tower => k_is)
    (case pg_Tower => k_is)
    (case hd_Tower => k_is)
    (case po_Tower => k_is)
    (case sa_Tower => k_is)
    (case mk_Tower => k_is)
    (case kc_Tower => k_is)
    (case a_ti => k_is)
    (case i_ti => k_is)
    (case l_ti => k_is)
    (case c_ti => k_is)
    (case k_ti => k_is)
    (case a_lr => k_is)
    (case l_lr => k_is)
    (case c_lr => k_is)
    (case k_lr => k_is)
    (case a_ro => k_is)
    (case l_ro => k_is)
    (case c_ro => k_is)
    (case k_ro => k_is)
    (case a_wo => k_is)
    (case l_wo => k_is)
    (case c_wo => k_is)
    (case k_wo => k_is)
    (case a_of => k_is)
    (case l_of => k_is)
    (case c_of => k_is)
    (case k_of => k_is)
    (case a_un => k_is)
    (case l_un => k_is)
    (case c_un => k_is)
    (case k_un => k_is)
    (case a_pa => k_is)
    (case l_pa => k_is)
    (case c_pa => k_is)
    (case k_pa => k_is)
    (case a_ve => k_is)
    (case l_ve => k_is)
    (case c_ve => k_is)
    (case k_ve => k_is)
    (case a_pr => k_is)
    (case l_pr => k_is)
    (case c_pr => k_is)
    (case k_pr => k_is)
    (case a_tu => k_is)
    (case l_tu => k_is)
    (case c_tu => k_is)
    (case k_tu => k_is)
    (case a_fw => k_is)
    (case l_fw => k_is)
    (case c_fw => k_is)
    (case k_fw => k_is)
    (case a_tr => k_is)
    (case l_tr => k_is)
    (case c_tr => k_is)
    (case k_tr => k_is)
    (case a_tw => k_is)
    (case l_tw => k_is)
    (case c_tw => k_is)
    (case k_tw => k_is)
    (case a_rt => k_is)
    (case l_rt => k_is)
    (case c_rt => k_is)
    (case k_rt => k_is)
    (case a_rw => k_is)
    (case l_rw => k_is)
    (case c_rw => k_is)
    (case k_rw => k_is)
    (case a_rs => k_is)
    (case l_rs => k_is)
    (case c_rs => k_is)
    (case k_rs => k_is)
    (case a_ju => k_is)
    (case l_ju => k_is)
    (case c_ju => k_is)
    (case k_ju => k_is)
    (case a_nl => k_is)
    (case l_nl => k_is)
    (case c_nl => k_is)
    (case k_nl => k_is)
    (case a_rb => k_is)
    (case l_rb => k_is)
    (case c_rb => k_is)
    (case k_rb => k_is)
    (case a_fy => k_is)
    (case l_fy => k_is)
    (case c_fy => k_is)
    (case k_fy => k_is)
    (case a_lm => k_is)
    (case l_lm => k_is)
    (case c_lm => k_is)
    (case k_lm => k_is)
    (case a_mt => k_is)
    (case l_mt => k_is)
    (case c_mt => k_is)
    (case k_mt => k_is)
    (case a_xt => k_is)
    (case l_xt => k_is)
    (case c_xt => k_is)
    (case k_xt => k_is)
    (case a_xw => k_is)
    (case l_xw => k_is)
    (case c_xw => k_is)
    (case k_xw => k_is)
    (case a_xs => k_is)
    (case l_xs => k_is)
    (case c_xs => k_is)
    (case k_xs => k_is)
    (case a_xf => k_is)
    (case l_xf => k_is)
    (case c_xf => k_is)
    (case k_xf => k_is)
    (case a_xo => k_is)
    (case l_xo => k_is)
    (case c_xo => k_is)
    (case k_xo => k_is)
    (case a_xc => k_is)
    (case l_xc => k_is)
    (case c_xc => k_is)
    (case k_xc => k_is)
    (case a_xl => k_is)
    (case l_xl => k_is)
    (case c_xl => k_is)
    (case k_xl => k_is)
    (case a_xi => k_is)
    (case l_xi => k_is)
    (case c_xi => k_is)
    (case k_xi => k_is)
    (case a_xg => k_is)
    (case l_xg => k_is)
    (case c_xg => k_is)
    (case k_xg => k_is)
    (case a_xk => k_is)
    (case l_xk => k_is)
    (case c_xk => k_is)
    (case k_xk => k_is)
    (case a_xn => k_is)
    (case l_xn => k_is)
    (case c_xn => k_is)
    (case k_xn => k_is)
    (case a_an => k_is)
    (case l_an => k_is)
    (case c_an => k_is)
    (case k_an => k_is)
    (case n_cT_limit => k_is)
    (case n_cT_holds => k_is)
    (case n_cT_weights => k_is)
    (case n_cT_people => k_is)
    (case n_cT_rows => k_is)
    (case n_cT_above => k_is)
    (case n_cT_made => k_is)
    (case n_cL_calls => k_is)
    (case n_cL_at => k_is)
    (case n_cB_tower => k_is)
    (case n_cT_tl => k_is)
    (case n_cB_tl => k_is)
    (case n_cT_bg => k_is)
    (case h_lm => k_is)
    (case h_lm2 => exact rfl)
    (case b_len => k_is)
    (case b_sum => k_is)
    (case b_range => k_is)
    (case b_tuple => k_is)
    (case b_list => k_is)
    (case b_set => k_is)
    (case b_sorted => k_is)
    (case b_all => k_is)
    (case b_min => k_is)
    (case b_max => k_is)
    (case g_BEGIN => k_is)
    (case g_TURN => k_is)
    (case g_WHY => k_is)
    (case g_TURNS => k_is)
    (case g_FEWEST => k_is)
    (case g_TO => k_is)
    (case g_COMES => k_is)
    (case g_LEAST => k_is)
    (case g_LIMIT => k_is)
    (case g_FOLLOW => k_is)
    (case g_DONE => k_is)
    (case g_WRONG => k_is)
    (case g_TOO_MANY => k_is)
    (case g_NOT_HEAVIER => k_is)
    (case g_NO_WAY => k_is)
    (case g_TOO_UNLIKE => k_is)
    (case g_NO_TOWER => k_is)
    (case g_MOST_LIMIT => k_is)
    (case g_MOST_HOLDS => k_is)
    (case g_MOST_THINGS => k_is)
    (case g_MOST_WEIGHT => k_is)
    (case g_STONE => k_is)
    (case g_PERSON => k_is)
  case S =>
    intro K H xs a hO hP hwi hask hx
    cases hx with
    | cons h1 h2 =>
      cases h2
      cases h1 with
      | lst hs ha =>
        have e := L2.ints_dw a.1 _ ha
        subst e
        have q : ((Codec.inLen 0 1800 a.1 && a.1.all (Codec.inInt 0 400)) && true) = true := hwi
        rw [Bool.and_eq_true, Bool.and_eq_true] at q
        refine ⟨_, a.1, rfl, L2.upd_same, ?_, hask, ?_, fun H' p hp => .lst (L2.SqL.of hp) (L2.dw_ints _)⟩
        · rcases hs with (hs | ⟨o, hs⟩) | hs
          · rcases hO _ with z | ⟨o, u, z⟩
            · rw [hs] at z
              cases z
            · rw [hs] at z
              cases z
          · exact .inl ⟨o, by rw [L2.upd_ne (L2.ne_of_none hs hP)]; exact hs⟩
          · exact .inr hs
        · intro z hz
          exact Codec.inInt_iff.mp (List.all_eq_true.mp q.1.2 z hz)
#print axioms PySem.Challenge.cw_twobaskets_s01_answers_holds


