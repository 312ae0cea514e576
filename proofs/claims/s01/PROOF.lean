import PyProof.Rows.All
import Wide.All
import OpenK.AllK
import Wide.FinOn
import PyProof.EqAt
import PyProof.EqKinds
import PyProof.TupleCall
import KE.BitLaws
import Open.SpecLaws
import KE.OsHead
import KE.OsGo
import KdnSpec
import KdnNeutral
import PyKdn
import KE.KDictList
import PySem.Challenge.RW_dancejudged_s01_answers
set_option Elab.async false
set_option linter.all false
set_option maxRecDepth 100000
namespace L2
open PySem PySem.Spec PyProof.Rows
abbrev Key := Sum Int Str
def keyIs : Key → Value → Bool
  | .inl k, v => Value.isInt k v
  | .inr x, v => Value.isStrOf x v
def keyH (w : World) : Key → Int
  | .inl k => hashInt k
  | .inr x => hashStr w x
theorem keyIs_shape : ∀ {k : Key} {v : Value}, keyIs k v = true → (∃ i t, k = Sum.inl i ∧ v = Value.int i t) ∨ (∃ x t, k = Sum.inr x ∧ v = Value.str x t)
  | .inl i, v, h => by
    obtain ⟨t, e⟩ := Value.isInt_shape (k := i) (v := v) h
    exact .inl ⟨i, t, rfl, e⟩
  | .inr x, v, h => by
    obtain ⟨t, e⟩ := Value.isStrOf_shape (x := x) (v := v) h
    exact .inr ⟨x, t, rfl, e⟩
theorem keyIs_int (i : Int) (t : Tok) : keyIs (.inl i) (.int i t) = true := by simp [keyIs, Value.isInt]
theorem keyIs_str (x : Str) (t : Tok) : keyIs (.inr x) (.str x t) = true := by simp [keyIs, Value.isStrOf]
theorem key_ll (a b : Int) : decide ((Sum.inl a : Key) = Sum.inl b) = (a == b) := by
  by_cases e : a = b
  · subst e; simp
  · have h : ¬ (Sum.inl a : Key) = Sum.inl b := fun q => e (Sum.inl.inj q)
    rw [decide_eq_false h]
    exact (beq_eq_false_iff_ne.mpr e).symm
theorem key_rr (a b : Str) : decide ((Sum.inr a : Key) = Sum.inr b) = decide (a = b) := by
  by_cases e : a = b
  · subst e; simp
  · have h : ¬ (Sum.inr a : Key) = Sum.inr b := fun q => e (Sum.inr.inj q)
    rw [decide_eq_false h, decide_eq_false e]
theorem key_lr (a : Int) (b : Str) : decide ((Sum.inl a : Key) = Sum.inr b) = false := decide_eq_false (fun q => nomatch q)
theorem key_rl (a : Str) (b : Int) : decide ((Sum.inr a : Key) = Sum.inl b) = false := decide_eq_false (fun q => nomatch q)
def mixKind (prog : Program) (w : World) : PySem.KeyKind prog w Key where
  is := keyIs
  hash := keyH w
  inj := fun v a b ha hb => by
    rcases keyIs_shape ha with ⟨i, t, rfl, rfl⟩ | ⟨x, t, rfl, rfl⟩
    · rcases keyIs_shape hb with ⟨j, u, rfl, e⟩ | ⟨y, u, rfl, e⟩
      · injection e with e1 _; rw [e1]
      · exact nomatch e
    · rcases keyIs_shape hb with ⟨j, u, rfl, e⟩ | ⟨y, u, rfl, e⟩
      · exact nomatch e
      · injection e with e1 _; rw [e1]
  byValue := fun k v h => by
    rcases keyIs_shape h with ⟨i, t, rfl, rfl⟩ | ⟨x, t, rfl, rfl⟩ <;> rfl
  pyHash := fun hv h => by
    rcases keyIs_shape hv with ⟨i, t, rfl, rfl⟩ | ⟨x, t, rfl, rfl⟩
    · exact wpAny_pyHash_int h
    · exact wpAny_pyHash_str h
  eqBool := fun hu hv h => by
    rcases keyIs_shape hu with ⟨i, t, rfl, rfl⟩ | ⟨x, t, rfl, rfl⟩
    · rcases keyIs_shape hv with ⟨j, u, rfl, rfl⟩ | ⟨y, u, rfl, rfl⟩
      · rw [key_ll] at h; exact wpAny_eqBool_int h
      · rw [key_lr] at h; exact SeqAt.EqAt.int_str i t y u _ _ _ _ h
    · rcases keyIs_shape hv with ⟨j, u, rfl, rfl⟩ | ⟨y, u, rfl, rfl⟩
      · rw [key_rl] at h; exact SeqAt.EqAt.str_int x t j u _ _ _ _ h
      · rw [key_rr] at h; exact wpAny_eqBool_str h
  «strs» := fun k x t v h => by
    rcases keyIs_shape h with ⟨i, u, rfl, e⟩ | ⟨y, u, rfl, e⟩
    · exact nomatch e
    · injection e with e1 _
      subst e1
      cases v <;> rfl
theorem mixKind_int (prog : Program) (w : World) (i : Int) (t : Tok) : (mixKind prog w).is (.inl i) (.int i t) = true := keyIs_int i t
theorem mixKind_str (prog : Program) (w : World) (x : Str) (t : Tok) : (mixKind prog w).is (.inr x) (.str x t) = true := keyIs_str x t
end L2
namespace L2
open PySem PySem.Spec PyProof.Rows
inductive V where
  | non | bl (b : Bool) | int (i : Int) | str (x : Str) | byt (b : Array UInt8) | flt (b : UInt64) | ref (a : Addr) | ty (n : String)
  deriving DecidableEq
def RelV : V → Value → Prop
  | .non, u => u = Value.none
  | .bl b, u => u = Value.bool b
  | .int i, u => ∃ t, u = Value.int i t
  | .str x, u => ∃ t, u = Value.str x t
  | .byt b, u => ∃ t, u = Value.bytes b t
  | .flt b, u => ∃ t, u = Value.float b t
  | .ref a, u => u = Value.ref a
  | .ty n, u => u = Value.type n
abbrev Vals : List V → List Value → Prop := Paired RelV
theorem Vals.length {xs : List V} {us : List Value} (r : Vals xs us) : xs.length = us.length := Paired.length r
theorem Vals.get : ∀ {xs : List V} {us : List Value} {i : Nat} {x : V}, Vals xs us → xs[i]? = some x → ∃ u, us[i]? = some u ∧ RelV x u
  | _, _, _, _, .nil, e => by simp at e
  | _, _, 0, _, .cons r _, e => by simp at e; subst e; exact ⟨_, rfl, r⟩
  | _, _, i + 1, x, .cons _ t, e => by
    obtain ⟨u, h1, h2⟩ := Vals.get (i := i) (x := x) t (by simpa using e)
    exact ⟨u, by simpa using h1, h2⟩
theorem Vals.set {x : V} {u : Value} (r : RelV x u) : ∀ {xs : List V} {us : List Value} (i : Nat), Vals xs us → Vals (xs.set i x) (us.set i u)
  | _, _, _, .nil => .nil
  | _, _, 0, .cons _ t => .cons r t
  | _, _, i + 1, .cons q t => .cons q (Vals.set r i t)
theorem Vals.append : ∀ {xs ys : List V} {us ws : List Value}, Vals xs us → Vals ys ws → Vals (xs ++ ys) (us ++ ws)
  | _, _, _, _, .nil, s => s
  | _, _, _, _, .cons r t, s => .cons r (Vals.append t s)
theorem Vals.take : ∀ {xs : List V} {us : List Value} (n : Nat), Vals xs us → Vals (xs.take n) (us.take n)
  | _, _, 0, _ => .nil
  | _, _, _ + 1, .nil => .nil
  | _, _, n + 1, .cons r t => .cons r (Vals.take n t)
theorem Vals.drop : ∀ {xs : List V} {us : List Value} (n : Nat), Vals xs us → Vals (xs.drop n) (us.drop n)
  | _, _, 0, r => r
  | _, _, _ + 1, .nil => .nil
  | _, _, n + 1, .cons _ t => Vals.drop n t
theorem Vals.none_of : ∀ {xs : List V} {us : List Value} {i : Nat}, Vals xs us → xs[i]? = none → us[i]? = none := fun {xs us i} r e => by
  have h1 := r.length
  have h2 : xs.length ≤ i := List.getElem?_eq_none_iff.mp e
  exact List.getElem?_eq_none_iff.mpr (by omega)
def RelO : Option V → Option Value → Prop
  | some v, some u => RelV v u
  | none, none => True
  | _, _ => False
def KV {κ : Type} : List (κ × V) → List (κ × Value) → Prop := Paired fun (p : κ × V) (q : κ × Value) => p.1 = q.1 ∧ RelV p.2 q.2
def kV : Key → V
  | .inl i => .int i
  | .inr x => .str x
inductive HO where
  /-- a list -/
  | lst (xs : List V)
  /-- a tuple (never changes) -/
  | tup (xs : List V)
  /-- a dict whose keys are ints and texts; one whose keys are tuples of ints and texts (the empty one is both) -/
  | dK (kvs : List (Key × V)) | dT (kvs : List (List Key × V))
  /-- a set of ints: its members, its size -/
  | set (S : Int → Bool) (n : Nat)
  /-- an instance of the class at C, its dict at dx, its attributes -/
  | ins (C dx : Addr) (fs : List (Str × V))
  /-- the dict of the instance at x -/
  | own (x : Addr)
  /-- the dict of an exception -/
  | xd (fs : List (Str × V))
  /-- a bound method, f of x -/
  | met (f x : Addr)
  /-- a range object lo, lo + 1, .. below hi -/
  | rng (lo hi : Int)
  /-- a thing that is known to the object (the script; a dict while a loop walks it): read, never written while it is so -/
  | frz (o : Obj) (u : HO)
  /-- a code object's table -/
  | tbl (ps : Array Value)
  /-- any other thing, by what is true of its one object (a def of one's own: SetO a S n := HO.ext fun h => ..) -/
  | ext (φ : Heap → Prop)
abbrev Hp := Addr → Option HO
def upd (H : Hp) (a : Addr) (o : HO) : Hp := fun b => if b = a then some o else H b
theorem upd_same {H : Hp} {a : Addr} {o : HO} : upd H a o a = some o := by unfold upd; rw [if_pos rfl]
theorem upd_ne {H : Hp} {a b : Addr} {o : HO} (h : b ≠ a) : upd H a o b = H b := by unfold upd; rw [if_neg h]
theorem upd_upd {H : Hp} {a : Addr} {o u : HO} : upd (upd H a o) a u = upd H a u := by
  funext b; unfold upd; split <;> rfl
theorem ne_of {H : Hp} {a b : Addr} {o u : HO} (h : H a = some o) (h' : H b = some u) (d : o ≠ u) : a ≠ b := by
  intro e; subst e; rw [h] at h'; exact d (Option.some.inj h')
theorem ne_of_none {H : Hp} {a b : Addr} {o : HO} (h : H a = some o) (h' : H b = none) : a ≠ b := by
  intro e; subst e; rw [h] at h'; cases h'
section
variable (P : Program) (w : World)
def ObjOk (H : Hp) (h : Heap) (a : Addr) : HO → Prop
  | .lst xs => xs.length ≤ sizeLine ∧ ∃ (its : List Value) (n : Nat), Vals xs its ∧ h.get? a = some { cls := .type "list", data := .seq its.toArray n }
  | .tup xs => xs.length ≤ sizeLine ∧ ∃ its : List Value, Vals xs its ∧ IsTup h a its.toArray
  | .dK kvs => kvs.length ≤ sizeLine ∧ (a == sysModules) = false ∧ ∃ vs, KV kvs vs ∧ h.DictOf (mixKind P w) a vs
  | .dT kvs => kvs.length ≤ sizeLine ∧ (a == sysModules) = false ∧ ∃ xs : List (List Key × Addr × Value),
      Paired (fun (p : List Key × V) (q : List Key × Addr × Value) => p.1 = q.1 ∧ H q.2.1 = some (.tup (p.1.map kV)) ∧ RelV p.2 q.2.2) kvs xs ∧
      ∃ o es ep, h.get? a = some o ∧ o.ExactDict ∧ o.data = .dict es ep ∧ es.toList = xs.map (entryOfKey (tupleKind (mixKind P w))) ∧ (xs.map (·.1)).Nodup
  | .set S n => h.SetOf (intKind P w) a S n
  | .ins C dx fs => H dx = some (.own a) ∧ fs.length ≤ 1000 ∧ dx ≠ a ∧ h.get? a = some (PySem.W.instObj C dx) ∧
      ∃ mA, h.Ns1 dx mA ∧ (∀ f, RelO (fs.lookup f) (mA f)) ∧ PySem.Within mA (fs.map (·.1))
  | .own _ => ∃ o, h.get? a = some o
  | .xd fs => ∃ mA, h.Ns1 a mA ∧ ∀ f, RelO (fs.lookup f) (mA f)
  | .rng lo hi => ∃ t u v, h.get? a = some { cls := .type "range", data := .fields #[.int lo t, .int hi u, .int 1 v] }
  | .frz o u => h.get? a = some o ∧ ObjOk H h a u
  | .tbl ps => h.get? a = some { cls := .none, data := .fields ps }
  | .met f x => h.get? a = some (PySem.W.methodObj (.ref f) (.ref x))
  | .ext φ => φ h ∧ (∃ o, h.get? a = some o) ∧ ∀ h1 h2 : Heap, φ h1 → (∀ o, h1.get? a = some o → h2.get? a = some o) → φ h2
def HOk (H : Hp) (h : Heap) : Prop := ∀ a o, H a = some o → ObjOk P w H h a o
end
section
variable {P : Program} {w : World} {H H' : Hp} {h h' : Heap} {a : Addr} {o : HO}
theorem ObjOk.lt (x : ObjOk P w H h a o) : a < h.objs.size := by
  cases o with
  | lst xs => obtain ⟨_, _, _, _, e⟩ := x; exact Heap.lt_size e
  | tup xs => obtain ⟨_, _, _, p⟩ := x; exact p.lt
  | dK kvs => obtain ⟨_, _, _, _, o, _, _, e, _⟩ := x; exact Heap.lt_size e
  | dT kvs => obtain ⟨_, _, _, _, o, _, _, e, _⟩ := x; exact Heap.lt_size e
  | set S n => obtain ⟨o, _, _, _, e, _⟩ := x; exact Heap.lt_size e
  | ins C dx fs => obtain ⟨_, _, _, e, _⟩ := x; exact Heap.lt_size e
  | own y => obtain ⟨_, e⟩ := x; exact Heap.lt_size e
  | xd fs => obtain ⟨_, ⟨_, _, _, e, _⟩, _⟩ := x; exact Heap.lt_size e
  | rng lo hi => obtain ⟨_, _, _, e⟩ := x; exact Heap.lt_size e
  | frz ob u => obtain ⟨e, _⟩ := x; exact Heap.lt_size e
  | tbl ps => exact Heap.lt_size (show h.get? a = some _ from x)
  | met f y => exact Heap.lt_size (show h.get? a = some _ from x)
  | ext φ => obtain ⟨_, ⟨_, e⟩, _⟩ := x; exact Heap.lt_size e
theorem Paired.mapP {α β : Type} {F G : α → β → Prop} : ∀ {l₁ : List α} {l₂ : List β}, Paired F l₁ l₂ → (∀ a b, F a b → G a b) → Paired G l₁ l₂
  | _, _, .nil, _ => .nil
  | _, _, .cons r t, f => .cons (f _ _ r) (Paired.mapP t f)
theorem ObjOk.stay (x : ObjOk P w H h a o) (k : ∀ b u, (b = a ∨ H b = some (.own a)) → h.get? b = some u → h'.get? b = some u)
    (ho : ∀ b, H b = some (.own a) → H' b = some (.own a)) (ht : ∀ b xs, H b = some (.tup xs) → H' b = some (.tup xs)) : ObjOk P w H' h' a o := by
  induction o with
  | lst xs => obtain ⟨z, its, n, r, e⟩ := x; exact ⟨z, its, n, r, k _ _ (.inl rfl) e⟩
  | tup xs => obtain ⟨z, its, r, ob, e, c⟩ := x; exact ⟨z, its, r, ob, k _ _ (.inl rfl) e, c⟩
  | dK kvs => obtain ⟨z, y, vs, r, ob, es, ep, e, c⟩ := x; exact ⟨z, y, vs, r, ob, es, ep, k _ _ (.inl rfl) e, c⟩
  | dT kvs =>
    obtain ⟨z, y, xs, r, ob, es, ep, e, c⟩ := x
    exact ⟨z, y, xs, Paired.mapP r fun p q z => ⟨z.1, ht _ _ z.2.1, z.2.2⟩, ob, es, ep, k _ _ (.inl rfl) e, c⟩
  | set S n => obtain ⟨ob, es, ep, t, e, c⟩ := x; exact ⟨ob, es, ep, t, k _ _ (.inl rfl) e, c⟩
  | ins C dx fs =>
    obtain ⟨d, z, ne, e, mA, ⟨od, es, ep, e2, c⟩, r⟩ := x
    exact ⟨ho _ d, z, ne, k _ _ (.inl rfl) e, mA, ⟨od, es, ep, k _ _ (.inr d) e2, c⟩, r⟩
  | own y => obtain ⟨ob, e⟩ := x; exact ⟨ob, k _ _ (.inl rfl) e⟩
  | xd fs => obtain ⟨mA, ⟨od, es, ep, e, c⟩, r⟩ := x; exact ⟨mA, ⟨od, es, ep, k _ _ (.inl rfl) e, c⟩, r⟩
  | rng lo hi => obtain ⟨t, u, v, e⟩ := x; exact ⟨t, u, v, k _ _ (.inl rfl) e⟩
  | frz ob u ih => obtain ⟨e, q⟩ := x; exact ⟨k _ _ (.inl rfl) e, ih q⟩
  | tbl ps =>
    have e : h.get? a = some { cls := .none, data := .fields ps } := x
    show h'.get? a = some { cls := .none, data := .fields ps }
    exact k a _ (.inl rfl) e
  | met f y =>
    have e : h.get? a = some (PySem.W.methodObj (.ref f) (.ref y)) := x
    show h'.get? a = some (PySem.W.methodObj (.ref f) (.ref y))
    exact k a _ (.inl rfl) e
  | ext φ => obtain ⟨p, ⟨o, e⟩, st⟩ := x; exact ⟨st _ _ p fun o q => k _ _ (.inl rfl) q, ⟨o, k _ _ (.inl rfl) e⟩, st⟩
theorem HOk.lt (x : HOk P w H h) (e : H a = some o) : a < h.objs.size := (x a o e).lt
theorem HOk.fresh (x : HOk P w H h) (e : h.objs.size ≤ a) : H a = none := by
  cases q : H a with
  | none => rfl
  | some u => exact absurd (Nat.lt_of_lt_of_le (x.lt q) e) (Nat.lt_irrefl _)
theorem HOk.kept (x : HOk P w H h) (k : ∀ b u, h.get? b = some u → h'.get? b = some u) : HOk P w H h' := fun a o e =>
  (x a o e).stay (fun b u _ q => k b u q) (fun _ q => q) fun _ _ q => q
theorem HOk.laid (x : HOk P w H h) (k : ∀ b u, h.get? b = some u → h'.get? b = some u) (hp : h.objs.size ≤ a) (new : ObjOk P w (upd H a o) h' a o) : HOk P w (upd H a o) h' := fun b u e => by
  have hn := x.fresh hp
  by_cases hb : b = a
  · subst hb; rw [upd_same] at e; cases e; exact new
  · rw [upd_ne hb] at e
    exact (x b u e).stay (fun c v _ q => k c v q) (fun c q => by rw [upd_ne (ne_of_none q hn)]; exact q) fun c xs q => by rw [upd_ne (ne_of_none q hn)]; exact q
end
def Rd (H : Hp) (a : Addr) (u : HO) : Prop := H a = some u ∨ ∃ o, H a = some (.frz o u)
theorem Rd.of {H : Hp} {a : Addr} {u : HO} (h : H a = some u) : Rd H a u := .inl h
theorem Rd.ok {P : Program} {w : World} {H : Hp} {h : Heap} {a : Addr} {u : HO} (r : Rd H a u) (x : HOk P w H h) : ObjOk P w H h a u := by
  rcases r with r | ⟨o, r⟩
  · exact x a u r
  · obtain ⟨_, q⟩ := x a _ r
    exact q
def Mut : Option HO → Prop
  | some (.lst _) => True
  | some (.dK _) => True
  | some (.dT _) => True
  | some (.set _ _) => True
  | some (.ins _ _ _) => True
  | some (.ext _) => True
  | _ => False
section
variable {P : Program} {w : World} {H : Hp} {h h' : Heap} {x e : Addr} {o' : HO}
theorem HOk.write (ok : HOk P w H h) (mu : Mut (H x)) (he : e = x ∨ H e = some (.own x)) (k : ∀ b u, b ≠ e → h.get? b = some u → h'.get? b = some u) (heo : ∃ u, h'.get? e = some u)
    (new : ObjOk P w (upd H x o') h' x o') : HOk P w (upd H x o') h' := fun b u q => by
  have nown : ∀ c y, H c = some (.own y) → c ≠ x := fun c y r z => by subst z; rw [r] at mu; exact mu
  have ntup : ∀ c xs, H c = some (.tup xs) → c ≠ x := fun c xs r z => by subst z; rw [r] at mu; exact mu
  by_cases hb : b = x
  · subst hb; rw [upd_same] at q; cases q; exact new
  · rw [upd_ne hb] at q
    by_cases hbe : b = e
    · have q' : H b = some (.own x) := by
        rcases he with z | z
        · exact absurd (hbe.trans z) hb
        · rw [hbe]; exact z
      rw [q] at q'; cases q'
      obtain ⟨v, hv⟩ := heo
      exact ⟨v, by rw [hbe]; exact hv⟩
    · refine (ok b u q).stay (fun c v hc r => k c v ?_ r) (fun c r => by rw [upd_ne (nown c b r)]; exact r) fun c xs r => by rw [upd_ne (ntup c xs r)]; exact r
      rcases hc with rfl | hc
      · exact hbe
      · rintro rfl
        rcases he with z | z
        · exact nown c b hc z
        · rw [hc] at z; cases z; exact hb rfl
end
structure Un (fs ex : List Addr) (H H' : Hp) (h h' : Heap) : Prop where
  keep : ∀ b o, h.get? b = some o → H b = none → b ∉ fs → b ∉ ex → h'.get? b = some o
  slot : ∀ b o, h.get? b = some o → H b = none → b ∈ fs → b ∉ ex → ∃ sl, h'.get? b = some { o with slots := sl }
  free : ∀ b o, h.get? b = some o → H b = none → b ∉ ex → H' b = none
  there : ∀ b o, h.get? b = some o → b ∉ ex → ∃ o', h'.get? b = some o'
  tups : ∀ b xs, H b = some (.tup xs) → H' b = some (.tup xs)
  frzs : ∀ b o u, H b = some (.frz o u) → H' b = some (.frz o u)
  tbls : ∀ b ps, H b = some (.tbl ps) → ∃ more, H' b = some (.tbl (ps ++ more))
section
variable {fs fs' ex ex' : List Addr} {H H1 H2 : Hp} {h h1 h2 h' : Heap} {a x e : Addr} {o : HO}
theorem Un.any (u : Un fs ex H H1 h h1) {b : Addr} {ob : Obj} (q : h.get? b = some ob) (n : H b = none) (hx : b ∉ ex) : ∃ sl, h1.get? b = some { ob with slots := sl } := by
  by_cases hb : b ∈ fs
  · exact u.slot b ob q n hb hx
  · exact ⟨ob.slots, u.keep b ob q n hb hx⟩
theorem Un.trans (a : Un fs ex H H1 h h1) (b : Un fs ex H1 H2 h1 h2) : Un fs ex H H2 h h2 where
  keep := fun c ob q n hc hx => b.keep c ob (a.keep c ob q n hc hx) (a.free c ob q n hx) hc hx
  slot := fun c ob q n hc hx => by
    obtain ⟨sl, e1⟩ := a.slot c ob q n hc hx
    obtain ⟨sl', e2⟩ := b.slot c _ e1 (a.free c ob q n hx) hc hx
    exact ⟨sl', e2⟩
  free := fun c ob q n hx => by
    obtain ⟨o', e1⟩ := a.there c ob q hx
    exact b.free c o' e1 (a.free c ob q n hx) hx
  there := fun c ob q hx => by
    obtain ⟨o', e1⟩ := a.there c ob q hx
    exact b.there c o' e1 hx
  tups := fun c xs q => b.tups c xs (a.tups c xs q)
  frzs := fun c ob xs q => b.frzs c ob xs (a.frzs c ob xs q)
  tbls := fun c ps q => by
    obtain ⟨m1, e1⟩ := a.tbls c ps q
    obtain ⟨m2, e2⟩ := b.tbls c _ e1
    exact ⟨m1 ++ m2, by rw [e2, Array.append_assoc]⟩
theorem Un.kept (k : ∀ b u, h.get? b = some u → h'.get? b = some u) : Un fs ex H H h h' :=
  ⟨fun b ob q _ _ _ => k b ob q, fun b ob q _ _ _ => ⟨ob.slots, k b ob q⟩, fun _ _ _ n _ => n, fun b ob q _ => ⟨ob, k b ob q⟩, fun _ _ q => q, fun _ _ _ q => q, fun _ ps q => ⟨#[], by rw [q]; simp⟩⟩
theorem Un.refl : Un fs ex H H h h := Un.kept fun _ _ q => q
theorem Un.laid (k : ∀ b u, h.get? b = some u → h'.get? b = some u) (hp : h.objs.size ≤ a) (hn : H a = none) : Un fs ex H (upd H a o) h h' where
  keep := fun b u q _ _ _ => k b u q
  slot := fun b u q _ _ _ => ⟨u.slots, k b u q⟩
  free := fun b u q n _ => by rw [upd_ne (Nat.ne_of_lt (Nat.lt_of_lt_of_le (Heap.lt_size q) hp))]; exact n
  there := fun b u q _ => ⟨u, k b u q⟩
  tups := fun b xs q => by rw [upd_ne (ne_of_none q hn)]; exact q
  frzs := fun b u xs q => by rw [upd_ne (ne_of_none q hn)]; exact q
  tbls := fun b ps q => ⟨#[], by rw [upd_ne (ne_of_none q hn), q]; simp⟩
theorem Un.write (mu : Mut (H x)) (he : e = x ∨ H e = some (.own x)) (k : ∀ b u, b ≠ e → h.get? b = some u → h'.get? b = some u) (heo : ∃ u, h'.get? e = some u) : Un fs ex H (upd H x o) h h' := by
  have hx : ∀ b, H b = none → b ≠ x := fun b n z => by subst z; rw [n] at mu; exact mu
  have hb : ∀ b, H b = none → b ≠ e := fun b n z => by
    subst z
    rcases he with r | r
    · exact hx b n r
    · rw [n] at r; cases r
  have hm : ∀ b u, H b = some u → ¬ Mut (some u) → b ≠ x := fun b u q nm z => by subst z; rw [q] at mu; exact nm mu
  refine ⟨fun b u q n _ _ => k b u (hb b n) q, fun b u q n _ _ => ⟨u.slots, k b u (hb b n) q⟩, fun b u q n _ => by rw [upd_ne (hx b n)]; exact n, fun b u q _ => ?_,
    fun b xs q => by rw [upd_ne (hm b _ q fun z => z)]; exact q, fun b u xs q => by rw [upd_ne (hm b _ q fun z => z)]; exact q, fun b ps q => ⟨#[], by rw [upd_ne (hm b _ q fun z => z), q]; simp⟩⟩
  by_cases hbe : b = e
  · subst hbe; exact heo
  · exact ⟨u, k b u hbe q⟩
theorem Un.mono (u : Un fs ex H H1 h h1) (hs : ∀ b ∈ fs, b ∈ fs') (hx : ∀ b ∈ ex, b ∈ ex') : Un fs' ex' H H1 h h1 :=
  ⟨fun b ob q n hb he => u.keep b ob q n (fun z => hb (hs b z)) fun z => he (hx b z), fun _ _ q n _ he => u.any q n fun z => he (hx _ z), fun b ob q n he => u.free b ob q n fun z => he (hx b z), fun b ob q he => u.there b ob q fun z => he (hx b z), u.tups, u.frzs, u.tbls⟩
end
def trk (h : Heap) (H : Hp) : List Addr := (List.range h.objs.size).filter fun a => (H a).isSome
def hidT (h : Heap) (H : Hp) : Heap := PySem.W.hideAll h (trk h H)
theorem hidT_size (h : Heap) (H : Hp) : (hidT h H).objs.size = h.objs.size := PySem.W.hideAll_size _ _
theorem hidT_get {h : Heap} {H : Hp} {b : Addr} {o : Obj} (e : h.get? b = some o) (n : H b = none) : (hidT h H).get? b = some o :=
  PySem.W.hideAll_get _ e fun hm => by
    have q : (H b).isSome = true := (List.mem_filter.mp hm).2
    rw [n] at q; simp at q
theorem of_hidT {h : Heap} {H : Hp} {b : Addr} {o : Obj} (e : (hidT h H).get? b = some o) : h.get? b = some o ∧ H b = none := by
  have e' : h.get? b = some o := PySem.W.of_hideAll (trk h H) e
  refine ⟨e', ?_⟩
  cases q : H b with
  | none => rfl
  | some x =>
    have hm : b ∈ trk h H := List.mem_filter.mpr ⟨List.mem_range.mpr (Heap.lt_size e'), by simp [q]⟩
    have z : (hidT h H).get? b = none := PySem.W.hideAll_none (trk h H) hm
    rw [z] at e; cases e
def allNews (g h : Heap) (L : Addr) : List (Addr × Obj) := (List.range h.objs.size).filterMap fun a => if a = L ∨ (g.get? a).isSome = true then none else (h.get? a).map fun o => (a, o)
def rest (g h : Heap) (L d : Addr) : List (Addr × Obj) := (allNews g h L).filter fun p => decide (p.1 ≠ d)
end L2
namespace L2
open PySem PySem.Spec PyProof.Rows
structure Mod (K : PySem.W.Frag) (mg : Str → Option Value) (base : Heap) : Prop where
  kin : K.In base
  glob : base.Ns mainGlobals mg
  blt : ∃ mb, base.Ns builtinsNs mb ∧ ∀ x : Str, x ≠ "__name__" → mb x = bootBuiltins x
  nolimit : base.NoLimit
structure Cx where
  prog : Program
  w : World
  K : PySem.W.Frag
  mg : Str → Option Value
  base : Heap
  A : Around
  N : List Str
  s_0 : Shared
  H_0 : Hp
  env : Env
  outer : List Env
  stack : List Env
  ex : List Addr
  fn : Str → Bool
  calm : Bool
  pn : List (Addr × Obj)
  xe : Value → Shared → Prop
def frs (l : List Env) : List Addr := l.filterMap (·.frame)
abbrev Cx.fs (X : Cx) : List Addr := frs X.outer
def Vis (sc : Scope) (x : Str) : Prop := sc.names.lookup x = some .local ∨ sc.names.lookup x = some .cell ∨ sc.names.lookup x = some .free
def Loc (sc : Scope) (x : Str) : Prop := sc.names.lookup x = some .local ∨ sc.names.lookup x = some .cell
def Look (env : Env) (h : Heap) (m : Str → Option Value) (x : Str) (u : Value) : Prop :=
  (env.kindOf x = some .local ∧ m x = some u) ∨ ((env.kindOf x = some .cell ∨ env.kindOf x = some .free) ∧ ∃ c, env.cells.lookup x = some c ∧ h.IsCell c (some u))
structure Cx.Ok (X : Cx) : Prop where
  mod : Mod X.K X.mg X.base
  kind : X.env.scope.kind = .function
  glob : X.env.globals = mainGlobals
  blt : X.env.builtins = builtinsNs
  above : X.s_0.heap.objs.size ≤ X.env.locals
  inj : ∀ x y c, X.env.cells.lookup x = some c → X.env.cells.lookup y = some c → x = y
  has : ∀ x, (X.env.kindOf x = some .cell ∨ X.env.kindOf x = some .free) → ∃ c, X.env.cells.lookup x = some c
  cab : ∀ x c, X.fn x = true → X.env.cells.lookup x = some c → X.s_0.heap.objs.size ≤ c
  hd : X.calm = true → X.A.handled = none
  frames : X.A.frames = some X.stack
  stk : X.stack = X.outer ∨ (X.stack = X.env :: X.outer ∧ X.env.frame = some X.env.locals)
  exf : ∀ b ∈ X.ex, b ≠ X.env.locals ∧ ∀ x c, X.env.cells.lookup x = some c → c ≠ b
  bs : ∀ b o, X.base.get? b = some o → X.s_0.heap.get? b = some o ∧ X.H_0 b = none
  bsz : X.base.objs.size ≤ X.s_0.heap.objs.size
  noex : ∀ b o, X.base.get? b = some o → b ∉ X.ex
  exfs : ∀ b ∈ X.ex, b ∉ X.fs
  funs : X.s_0.heap.FunFrames X.base X.outer
  frf : ∀ b ∈ X.fs, X.H_0 b = none
structure Inv (X : Cx) (pins : List (Addr × Obj)) (σ : List (Option V)) (H : Hp) (s : Shared) : Prop where
  ok : X.Ok
  os : s.os = X.s_0.os
  bare : AllBare s.gens
  base : Un X.fs X.ex X.H_0 H X.s_0.heap s.heap
  loc : ∃ m, s.heap.Ns X.env.locals m ∧ ∀ (i : Nat) (x : Str) (v : V), X.N[i]? = some x → σ[i]? = some (some v) → Vis X.env.scope x → ∃ u, RelV v u ∧ Look X.env s.heap m x u
  cell : ∀ x c, X.env.cells.lookup x = some c → ∃ v, s.heap.IsCell c v
  free : H X.env.locals = none
  freeC : ∀ x c, X.env.cells.lookup x = some c → H c = none
  pin : ∀ p ∈ X.pn ++ pins, s.heap.get? p.1 = some p.2 ∧ H p.1 = none ∧ p.1 ≠ X.env.locals ∧ p.1 ∉ X.fs ∧ ∀ v, p.2.data ≠ .cell v
  hok : HOk X.prog X.w H s.heap
  len : σ.length = X.N.length
section
variable {X : Cx} {pins : List (Addr × Obj)} {σ : List (Option V)} {H H' : Hp} {s : Shared} {h' : Heap}
theorem Cx.Ok.nofr (ok : X.Ok) {b : Addr} {o : Obj} (e : X.base.get? b = some o) : b ∉ X.fs := fun hb => by
  have := (ok.funs.mem hb).1
  rw [e] at this; cases this
theorem Inv.bs (I : Inv X pins σ H s) : ∀ b o, X.base.get? b = some o → s.heap.get? b = some o ∧ H b = none := fun b o e =>
  ⟨I.base.keep b o (I.ok.bs b o e).1 (I.ok.bs b o e).2 (I.ok.nofr e) (I.ok.noex b o e), I.base.free b o (I.ok.bs b o e).1 (I.ok.bs b o e).2 (I.ok.noex b o e)⟩
theorem Inv.bk (I : Inv X pins σ H s) : ∀ b o, X.base.get? b = some o → s.heap.get? b = some o := fun b o e => (I.bs b o e).1
theorem Inv.mod (I : Inv X pins σ H s) : Mod X.K X.mg X.base := I.ok.mod
theorem Inv.kIn (I : Inv X pins σ H s) : X.K.In s.heap := I.ok.mod.kin.keeps I.bk
theorem Inv.nolimit (I : Inv X pins σ H s) : s.heap.NoLimit := I.ok.mod.nolimit.keeps I.bk
theorem Inv.fr (I : Inv X pins σ H s) : ∃ m, Fr X.base X.env.locals s.heap m :=
  let ⟨m, hn, _⟩ := I.loc
  ⟨m, hn, I.bk, Nat.le_trans I.ok.bsz I.ok.above⟩
theorem Inv.lt (I : Inv X pins σ H s) : X.env.locals < s.heap.objs.size := let ⟨_, hn, _⟩ := I.loc; hn.lt
theorem Inv.sz (I : Inv X pins σ H s) : X.s_0.heap.objs.size ≤ s.heap.objs.size := Nat.le_trans I.ok.above (Nat.le_of_lt I.lt)
theorem Inv.nofs (I : Inv X pins σ H s) {a : Addr} (h : s.heap.objs.size ≤ a) : a ∉ X.fs := fun hb => by
  obtain ⟨_, o, ho, _⟩ := I.ok.funs.mem hb
  exact absurd (Nat.lt_of_lt_of_le (Heap.lt_size ho) (Nat.le_trans I.sz h)) (Nat.lt_irrefl _)
theorem Inv.cne (I : Inv X pins σ H s) : ∀ x c, X.env.cells.lookup x = some c → c ≠ X.env.locals := fun x c e z => by
  obtain ⟨v, o, ho, hd⟩ := I.cell x c e
  obtain ⟨m, ⟨o', es, ep, ho', hd', _⟩, _⟩ := I.loc
  rw [z, ho'] at ho; cases ho; rw [hd'] at hd; cases hd
theorem Inv.funs (I : Inv X pins σ H s) : s.heap.FunFrames X.base X.outer := by
  have all : ∀ (l : List Env), (∀ b ∈ frs l, b ∈ X.fs) → X.s_0.heap.FunFrames X.base l → s.heap.FunFrames X.base l := by
    intro l
    induction l with
    | nil => intro _ _; trivial
    | cons env r ih =>
      intro hs hl
      obtain ⟨hk, ⟨L, o, hf, hn, ho, hd⟩, hr⟩ := hl
      have hL : L ∈ X.fs := hs L (by unfold frs; rw [List.filterMap_cons, hf]; exact List.mem_cons_self)
      obtain ⟨sl, e⟩ := I.base.slot L o ho (I.ok.frf L hL) hL fun z => I.ok.exfs L z hL
      exact ⟨hk, ⟨L, _, hf, hn, e, hd⟩, ih (fun b hb => hs b (by unfold frs; rw [List.filterMap_cons, hf]; exact List.mem_cons_of_mem _ hb)) hr⟩
  exact all X.outer (fun _ hb => hb) I.ok.funs
theorem Inv.stack (I : Inv X pins σ H s) : s.heap.FunFrames X.base X.stack := by
  rcases I.ok.stk with e | ⟨e, hf⟩
  · rw [e]; exact I.funs
  · rw [e]
    obtain ⟨m, hn, _⟩ := I.loc
    refine .cons (by rw [I.ok.kind]; decide) hf hn ?_ I.funs
    exact Heap.get?_none_of_le (Nat.le_trans I.ok.bsz I.ok.above)
theorem Inv.stkSub (I : Inv X pins σ H s) : ∀ b ∈ frs X.stack, b ∈ X.env.locals :: X.fs := fun b hb => by
  rcases I.ok.stk with e | ⟨e, hf⟩
  · rw [e] at hb; exact List.mem_cons_of_mem _ hb
  · rw [e] at hb
    unfold frs at hb
    rw [List.filterMap_cons, hf] at hb
    exact hb
theorem Inv.stkFree (I : Inv X pins σ H s) : ∀ b ∈ frs X.stack, H b = none := fun b hb => by
  rcases List.mem_cons.mp (I.stkSub b hb) with e | hb
  · rw [e]; exact I.free
  · obtain ⟨_, o, ho, _⟩ := I.ok.funs.mem hb
    exact I.base.free b o ho (I.ok.frf b hb) fun z => I.ok.exfs b z hb
theorem Inv.step {g' : Array GenState} {t' : Nat} {d' : Drawn} {ch : List Addr} (I : Inv X pins σ H s)
    (hch : ∀ b ∈ ch, (b ∈ X.ex ∨ X.s_0.heap.objs.size ≤ b) ∧ b ≠ X.env.locals ∧ (∀ x c, X.env.cells.lookup x = some c → c ≠ b) ∧ ∀ p ∈ X.pn ++ pins, p.1 ≠ b)
    (keep : ∀ b o, b ≠ X.env.locals → b ∉ X.fs → b ∉ ch → s.heap.get? b = some o → H b = none → h'.get? b = some o)
    (slot : ∀ b o, b ≠ X.env.locals → b ∈ X.fs → b ∉ ch → s.heap.get? b = some o → H b = none → ∃ sl, h'.get? b = some { o with slots := sl }) (free : ∀ b o, b ∉ ch → s.heap.get? b = some o → H b = none → H' b = none)
    (there : ∀ b o, b ∉ ch → s.heap.get? b = some o → ∃ o', h'.get? b = some o')
    (tups : ∀ b xs, H b = some (.tup xs) → H' b = some (.tup xs)) (frzs : ∀ b o u, H b = some (.frz o u) → H' b = some (.frz o u)) (tbls : ∀ b ps, H b = some (.tbl ps) → ∃ more, H' b = some (.tbl (ps ++ more)))
    (ns : ∀ m, s.heap.Ns X.env.locals m → h'.Ns X.env.locals m) (hok : HOk X.prog X.w H' h') (hg : AllBare g') :
    Inv X pins σ H' { s with heap := h', gens := g', drawn := d', toks := t' } := by
  have neL : ∀ b o, X.s_0.heap.get? b = some o → b ≠ X.env.locals := fun b o e => Nat.ne_of_lt (Nat.lt_of_lt_of_le (Heap.lt_size e) I.ok.above)
  have neC : ∀ b o, X.s_0.heap.get? b = some o → b ∉ X.ex → b ∉ ch := fun b o e hx hb => by
    rcases (hch b hb).1 with z | z
    · exact hx z
    · exact absurd (Nat.lt_of_lt_of_le (Heap.lt_size e) z) (Nat.lt_irrefl _)
  have cellK : ∀ x c, X.env.cells.lookup x = some c → ∀ v, s.heap.IsCell c v → h'.IsCell c v := fun x c e v ⟨o, ho, hd⟩ => by
    have nch : c ∉ ch := fun z => (hch c z).2.2.1 x c e rfl
    by_cases hc : c ∈ X.fs
    · obtain ⟨sl, q⟩ := slot c o (I.cne x c e) hc nch ho (I.freeC x c e)
      exact ⟨_, q, hd⟩
    · exact ⟨o, keep c o (I.cne x c e) hc nch ho (I.freeC x c e), hd⟩
  refine ⟨I.ok, I.os, hg, ⟨fun b o e n hb hx => ?_, fun b o e n hb hx => ?_, fun b o e n hx => ?_, fun b o e hx => ?_, fun b xs e => tups b xs (I.base.tups b xs e), fun b o xs e => frzs b o xs (I.base.frzs b o xs e), fun b ps e => ?_⟩, ?_, fun x c e => ?_, ?_, fun x c e => ?_, fun p hp => ?_, hok, I.len⟩
  · exact keep b o (neL b o e) hb (neC b o e hx) (I.base.keep b o e n hb hx) (I.base.free b o e n hx)
  · obtain ⟨sl, e1⟩ := I.base.slot b o e n hb hx
    obtain ⟨sl', e2⟩ := slot b _ (neL b o e) hb (neC b o e hx) e1 (I.base.free b o e n hx)
    exact ⟨sl', e2⟩
  · obtain ⟨o', e1⟩ := I.base.there b o e hx
    exact free b o' (neC b o e hx) e1 (I.base.free b o e n hx)
  · obtain ⟨o', e1⟩ := I.base.there b o e hx
    exact there b o' (neC b o e hx) e1
  · obtain ⟨m1, e1⟩ := I.base.tbls b ps e
    obtain ⟨m2, e2⟩ := tbls b _ e1
    exact ⟨m1 ++ m2, by rw [e2, Array.append_assoc]⟩
  · obtain ⟨m, hn, hl⟩ := I.loc
    refine ⟨m, ns m hn, fun i x v e1 e2 e3 => ?_⟩
    obtain ⟨u, r, l⟩ := hl i x v e1 e2 e3
    refine ⟨u, r, ?_⟩
    rcases l with l | ⟨k, c, e, z⟩
    · exact .inl l
    · exact .inr ⟨k, c, e, cellK x c e _ z⟩
  · obtain ⟨v, z⟩ := I.cell x c e
    exact ⟨v, cellK x c e v z⟩
  · obtain ⟨m, ⟨o, _, _, ho, _⟩, _⟩ := I.loc
    exact free _ o (fun z => (hch _ z).2.1 rfl) ho I.free
  · obtain ⟨v, o, ho, hd⟩ := I.cell x c e
    exact free c o (fun z => (hch c z).2.2.1 x c e rfl) ho (I.freeC x c e)
  · obtain ⟨e, n, ne, nf, d⟩ := I.pin p hp
    have nch : p.1 ∉ ch := fun z => (hch p.1 z).2.2.2 p hp rfl
    exact ⟨keep p.1 p.2 ne nf nch e n, free p.1 p.2 nch e n, ne, nf, d⟩
theorem Inv.un {t' : Nat} (I : Inv X pins σ H s) (u : Un X.fs [] H H' s.heap h') (hok : HOk X.prog X.w H' h') : Inv X pins σ H' { s with heap := h', toks := t' } := by
  obtain ⟨m, ⟨o, es, ep, ho, r⟩, _⟩ := id I.loc
  obtain ⟨sl, hL⟩ := u.any ho I.free (by simp)
  exact I.step (g' := s.gens) (d' := s.drawn) (ch := []) (fun _ z => nomatch z) (fun b o _ hb _ e n => u.keep b o e n hb (by simp)) (fun b o _ hb _ e n => u.slot b o e n hb (by simp)) (fun b o _ e n => u.free b o e n (by simp)) (fun b o _ e => u.there b o e (by simp)) u.tups u.frzs u.tbls (fun m' hm => by
    obtain ⟨o', es', ep', ho', r'⟩ := hm
    rw [ho] at ho'; cases ho'
    exact ⟨_, es', ep', hL, r'⟩) hok I.bare
theorem Inv.call {g' : Array GenState} {t' : Nat} {d' : Drawn} {ch : List Addr} (I : Inv X pins σ H s) (u : Un (frs X.stack) ch H H' s.heap h') (hok : HOk X.prog X.w H' h') (hg : AllBare g')
    (hch : ∀ b ∈ ch, (b ∈ X.ex ∨ X.s_0.heap.objs.size ≤ b) ∧ b ≠ X.env.locals ∧ (∀ x c, X.env.cells.lookup x = some c → c ≠ b) ∧ ∀ p ∈ X.pn ++ pins, p.1 ≠ b) :
    Inv X pins σ H' { s with heap := h', gens := g', drawn := d', toks := t' } := by
  obtain ⟨m, ⟨o, es, ep, ho, r⟩, _⟩ := id I.loc
  obtain ⟨sl, hL⟩ := u.any ho I.free fun z => (hch _ z).2.1 rfl
  exact I.step (ch := ch) hch (fun b o hL hb hc e n => u.keep b o e n (fun z => (List.mem_cons.mp (I.stkSub b z)).elim hL hb) hc) (fun b o _ _ hc e n => u.any e n hc) (fun b o hc e n => u.free b o e n hc) (fun b o hc e => u.there b o e hc) u.tups u.frzs u.tbls (fun m' hm => by
    obtain ⟨o', es', ep', ho', r'⟩ := hm
    rw [ho] at ho'; cases ho'
    exact ⟨_, es', ep', hL, r'⟩) hok hg
theorem Inv.turned {t' : Nat} {it : Addr} (I : Inv X pins σ H s) (k : ∀ b o, b ≠ it → s.heap.get? b = some o → h'.get? b = some o) (hn : H it = none) (hL : it ≠ X.env.locals)
    (h1 : it ∈ X.ex ∨ X.s_0.heap.objs.size ≤ it) (h2 : ∀ x c, X.env.cells.lookup x = some c → c ≠ it) (h3 : ∀ p ∈ X.pn ++ pins, p.1 ≠ it) : Inv X pins σ H { s with heap := h', toks := t' } := by
  have nit : ∀ b u, H b = some u → b ≠ it := fun b u e z => by rw [z, hn] at e; cases e
  refine I.step (g' := s.gens) (d' := s.drawn) (ch := [it]) (fun b hb => ?_) (fun b o _ _ hc e _ => k b o (fun z => hc (by simp [z])) e) (fun b o _ _ hc e _ => ⟨o.slots, k b o (fun z => hc (by simp [z])) e⟩) (fun _ _ _ _ n => n)
    (fun b o hc e => ⟨o, k b o (fun z => hc (by simp [z])) e⟩) (fun _ _ e => e) (fun _ _ _ e => e) (fun b ps e => ⟨#[], by rw [e]; simp⟩) (fun m hm => ?_) (fun b u e => ?_) I.bare
  · have e : b = it := by simpa using hb
    subst e
    exact ⟨h1, hL, h2, h3⟩
  · obtain ⟨o, es, ep, ho, r⟩ := hm
    exact ⟨o, es, ep, k _ o (Ne.symm hL) ho, r⟩
  · refine (I.hok b u e).stay (fun c v hc q => k c v ?_ q) (fun _ q => q) fun _ _ q => q
    rcases hc with z | z
    · rw [z]; exact nit b u e
    · exact nit c _ z
theorem Inv.tok (I : Inv X pins σ H s) (t : Nat) : Inv X pins σ H { s with toks := t } := I.un (h' := s.heap) (t' := t) Un.refl I.hok
theorem Inv.kept {t' : Nat} (I : Inv X pins σ H s) (k : ∀ b u, s.heap.get? b = some u → h'.get? b = some u) : Inv X pins σ H { s with heap := h', toks := t' } := I.un (Un.kept k) (I.hok.kept k)
theorem Inv.laid {a : Addr} {o : HO} {t' : Nat} (I : Inv X pins σ H s) (k : ∀ b u, s.heap.get? b = some u → h'.get? b = some u) (hp : s.heap.objs.size ≤ a) (new : ObjOk X.prog X.w (upd H a o) h' a o) :
    Inv X pins σ (upd H a o) { s with heap := h', toks := t' } := I.un (Un.laid k hp (I.hok.fresh hp)) (I.hok.laid k hp new)
theorem Inv.write {x e : Addr} {o : HO} {t' : Nat} (I : Inv X pins σ H s) (mu : Mut (H x)) (he : e = x ∨ H e = some (.own x)) (k : ∀ b u, b ≠ e → s.heap.get? b = some u → h'.get? b = some u) (heo : ∃ u, h'.get? e = some u)
    (new : ObjOk X.prog X.w (upd H x o) h' x o) : Inv X pins σ (upd H x o) { s with heap := h', toks := t' } := I.un (Un.write mu he k heo) (I.hok.write mu he k heo new)
theorem Inv.weak {σ' : List (Option V)} (I : Inv X pins σ H s) (hl : σ'.length = σ.length) (w : ∀ (i : Nat) v, σ'[i]? = some (some v) → σ[i]? = some (some v)) : Inv X pins σ' H s :=
  ⟨I.ok, I.os, I.bare, I.base, let ⟨m, hn, hl'⟩ := I.loc; ⟨m, hn, fun i x v e1 e2 e3 => hl' i x v e1 (w i v e2) e3⟩, I.cell, I.free, I.freeC, I.pin, I.hok, hl.trans I.len⟩
theorem Inv.pins_of {pins' : List (Addr × Obj)} (I : Inv X pins σ H s) (h : ∀ p ∈ pins', s.heap.get? p.1 = some p.2 ∧ H p.1 = none ∧ p.1 ≠ X.env.locals ∧ p.1 ∉ X.fs ∧ ∀ v, p.2.data ≠ .cell v) : Inv X pins' σ H s :=
  ⟨I.ok, I.os, I.bare, I.base, I.loc, I.cell, I.free, I.freeC, fun p hp => (List.mem_append.mp hp).elim (fun z => I.pin p (List.mem_append_left _ z)) (h p), I.hok, I.len⟩
theorem nodup_ix {N : List Str} (hN : N.Nodup) {i j : Nat} {x : Str} (a : N[i]? = some x) (b : N[j]? = some x) : i = j := by
  obtain ⟨h1, e1⟩ := List.getElem?_eq_some_iff.mp a
  obtain ⟨h2, e2⟩ := List.getElem?_eq_some_iff.mp b
  exact (List.getElem_inj hN).mp (e1.trans e2.symm)
theorem store_ok2 {M : Model} {A : Around} {E : Value → Shared → Prop} {i : Nat} {x : Str} {v : V} {u : Value} {Q : Unit → Shared → Prop} (I : Inv X pins σ H s) (hN : X.N.Nodup) (hi : X.N[i]? = some x) (hx : Loc X.env.scope x) (r : RelV v u)
    (h : ∀ s', Inv X pins (σ.set i (some v)) H s' → (∃ a, Heap.SameBut a s.heap s'.heap ∧ (a = X.env.locals ∨ X.env.cells.lookup x = some a)) → Q () s') (hf : X.fn x = true ∨ X.env.scope.names.lookup x = some .local := by first | exact .inl rfl | exact .inr rfl | assumption) : wpAny M A (storeName X.env x u) Q E s := by
  obtain ⟨m, hn, hl⟩ := id I.loc
  have hcls : (X.env.scope.kind == .class || (X.env.scope.kind == .module && X.env.locals != X.env.globals)) = false := by rw [I.ok.kind]; rfl
  have hiσ : i < σ.length := by rw [I.len]; exact (List.getElem?_eq_some_iff.mp hi).1
  have cne := I.cne
  have tracked : ∀ {a : Addr} {h' : Heap}, (∃ o, s.heap.get? a = some o ∧ H a = none) → Heap.SameBut a s.heap h' → HOk X.prog X.w H h' := fun {a h'} ha hs b ob e => by
    obtain ⟨_, _, hfree⟩ := ha
    refine (I.hok b ob e).stay (fun c w' hc q => (hs.2 c ?_).trans q) (fun _ q => q) fun _ _ q => q
    rintro rfl
    rcases hc with rfl | hc
    · rw [hfree] at e; cases e
    · rw [hfree] at hc; cases hc
  rcases hx with hk | hk
  · refine wpAny_storeName_local hk hn (fun h' hn' hs => ?_) hcls
    obtain ⟨oL, _, _, hoL, _⟩ := id hn
    refine h _ ⟨I.ok, I.os, I.bare, ⟨fun b o e n hb hx => ?_, fun b o e n hb hx => ?_, I.base.free, fun b o e hx => ?_, I.base.tups, I.base.frzs, I.base.tbls⟩, ⟨_, hn', fun j y v' e1 e2 e3 => ?_⟩, fun y c e => ?_, I.free, I.freeC, fun p hp => ?_, tracked ⟨oL, hoL, I.free⟩ hs, by simpa using I.len⟩ ⟨_, hs, .inl rfl⟩
    · exact (hs.2 b (Nat.ne_of_lt (Nat.lt_of_lt_of_le (Heap.lt_size e) I.ok.above))).trans (I.base.keep b o e n hb hx)
    · obtain ⟨sl, e1⟩ := I.base.slot b o e n hb hx
      exact ⟨sl, (hs.2 b (Nat.ne_of_lt (Nat.lt_of_lt_of_le (Heap.lt_size e) I.ok.above))).trans e1⟩
    · obtain ⟨o', e1⟩ := I.base.there b o e hx
      exact ⟨o', (hs.2 b (Nat.ne_of_lt (Nat.lt_of_lt_of_le (Heap.lt_size e) I.ok.above))).trans e1⟩
    · by_cases hj : j = i
      · subst hj
        rw [hi] at e1; cases e1
        rw [List.getElem?_set_self hiσ] at e2
        cases e2
        exact ⟨u, r, .inl ⟨hk, by simp⟩⟩
      · rw [List.getElem?_set_ne (Ne.symm hj)] at e2
        obtain ⟨u', r', q⟩ := hl j y v' e1 e2 e3
        refine ⟨u', r', ?_⟩
        rcases q with ⟨k, e⟩ | ⟨k, c, e, z⟩
        · refine .inl ⟨k, ?_⟩
          have : y ≠ x := fun e => hj (nodup_ix hN e1 (e ▸ hi))
          simp [this, e]
        · exact .inr ⟨k, c, e, z.sameBut hs (cne y c e)⟩
    · obtain ⟨w', z⟩ := I.cell y c e
      exact ⟨w', z.sameBut hs (cne y c e)⟩
    · obtain ⟨e, n, ne, nf, d⟩ := I.pin p hp
      exact ⟨(hs.2 p.1 ne).trans e, n, ne, nf, d⟩
  · have hfn : X.fn x = true := by
      rcases hf with z | z
      · exact z
      · rw [z] at hk; cases hk
    obtain ⟨c, hc⟩ := I.ok.has x (.inl hk)
    obtain ⟨w', z⟩ := I.cell x c hc
    refine wpAny_storeName_cell I.ok.kind hk hc z (fun h' hc' hs => ?_)
    obtain ⟨oc, hoc, hocd⟩ := id z
    refine h { s with heap := h' } ⟨I.ok, I.os, I.bare, ⟨fun b o e n hb hx => ?_, fun b o e n hb hx => ?_, I.base.free, fun b o e hx => ?_, I.base.tups, I.base.frzs, I.base.tbls⟩, ⟨m, hn.sameBut hs (Ne.symm (cne x c hc)), fun j y v' e1 e2 e3 => ?_⟩, fun y c' e => ?_, I.free, I.freeC, fun p hp => ?_, tracked ⟨oc, hoc, I.freeC x c hc⟩ hs, by simpa using I.len⟩ ⟨c, hs, .inr hc⟩
    · exact (hs.2 b (Nat.ne_of_lt (Nat.lt_of_lt_of_le (Heap.lt_size e) (I.ok.cab x c hfn hc)))).trans (I.base.keep b o e n hb hx)
    · obtain ⟨sl, e1⟩ := I.base.slot b o e n hb hx
      exact ⟨sl, (hs.2 b (Nat.ne_of_lt (Nat.lt_of_lt_of_le (Heap.lt_size e) (I.ok.cab x c hfn hc)))).trans e1⟩
    · obtain ⟨o', e1⟩ := I.base.there b o e hx
      exact ⟨o', (hs.2 b (Nat.ne_of_lt (Nat.lt_of_lt_of_le (Heap.lt_size e) (I.ok.cab x c hfn hc)))).trans e1⟩
    · by_cases hj : j = i
      · subst hj
        rw [hi] at e1; cases e1
        rw [List.getElem?_set_self hiσ] at e2
        cases e2
        exact ⟨u, r, .inr ⟨.inl hk, c, hc, hc'⟩⟩
      · rw [List.getElem?_set_ne (Ne.symm hj)] at e2
        obtain ⟨u', r', q⟩ := hl j y v' e1 e2 e3
        refine ⟨u', r', ?_⟩
        rcases q with q | ⟨k, c', e, z'⟩
        · exact .inl q
        · refine .inr ⟨k, c', e, z'.sameBut hs ?_⟩
          rintro rfl
          exact hj (nodup_ix hN e1 (I.ok.inj _ _ _ e hc ▸ hi))
    · by_cases hcc : c' = c
      · subst hcc; exact ⟨_, hc'⟩
      · obtain ⟨w2, z2⟩ := I.cell y c' e
        exact ⟨w2, z2.sameBut hs hcc⟩
    · obtain ⟨e, n, ne, nf, d⟩ := I.pin p hp
      refine ⟨(hs.2 p.1 ?_).trans e, n, ne, nf, d⟩
      intro q
      rw [q, hoc] at e
      have q' : oc = p.2 := Option.some.inj e
      exact d w' (by rw [← q']; exact hocd)
theorem store_ok {M : Model} {A : Around} {E : Value → Shared → Prop} {i : Nat} {x : Str} {v : V} {u : Value} {Q : Unit → Shared → Prop} (I : Inv X pins σ H s) (hN : X.N.Nodup) (hi : X.N[i]? = some x) (hx : Loc X.env.scope x) (r : RelV v u)
    (h : ∀ s', Inv X pins (σ.set i (some v)) H s' → Q () s') (hf : X.fn x = true ∨ X.env.scope.names.lookup x = some .local := by first | exact .inl rfl | exact .inr rfl | assumption) : wpAny M A (storeName X.env x u) Q E s :=
  store_ok2 I hN hi hx r (fun s' I' _ => h s' I') hf
theorem Inv.call' {s' : Shared} {ch : List Addr} (I : Inv X pins σ H s) (ho : s'.os = s.os) (u : Un (frs X.stack) ch H H' s.heap s'.heap) (hok : HOk X.prog X.w H' s'.heap) (hg : AllBare s'.gens)
    (hch : ∀ b ∈ ch, (b ∈ X.ex ∨ X.s_0.heap.objs.size ≤ b) ∧ b ≠ X.env.locals ∧ (∀ x c, X.env.cells.lookup x = some c → c ≠ b) ∧ ∀ p ∈ X.pn ++ pins, p.1 ≠ b) : Inv X pins σ H' s' := by
  obtain ⟨h', g', d', t', o'⟩ := s'
  have e : o' = s.os := ho
  subst e
  exact I.call (g' := g') (t' := t') (d' := d') u hok hg hch
end
abbrev XK := Value → Option Addr → Hp → Prop
abbrev St := List (Option V)
abbrev VK := V → Hp → Prop
abbrev TE := St → Hp → VK → Prop
abbrev TT := St → Hp → (Bool → Hp → Prop) → Prop
abbrev TA := St → Hp → (List V → Hp → Prop) → Prop
structure Ends where
  nx : St → Hp → Prop
  rt : VK
  bk : St → Hp → Prop := fun _ _ => False
  ct : St → Hp → Prop := fun _ _ => False
abbrev TS := Ends → St → Hp → Prop
def EP (X : Cx) (pins : List (Addr × Obj)) (σ : St) (Q : VK) (u : Value) (s' : Shared) : Prop := ∃ v H', Inv X pins σ H' s' ∧ RelV v u ∧ Q v H'
def TP (X : Cx) (pins : List (Addr × Obj)) (σ : St) (Q : Bool → Hp → Prop) (b : Bool) (s' : Shared) : Prop := ∃ H', Inv X pins σ H' s' ∧ Q b H'
def AP (X : Cx) (pins : List (Addr × Obj)) (σ : St) (Q : List V → Hp → Prop) (us : List Value) (s' : Shared) : Prop := ∃ vs H', Inv X pins σ H' s' ∧ Vals vs us ∧ Q vs H'
def SP (X : Cx) (pins : List (Addr × Obj)) (D : Ends) (f : Flow) (s' : Shared) : Prop :=
  match f with
  | .next => ∃ σ' H', Inv X pins σ' H' s' ∧ D.nx σ' H'
  | .brk => ∃ σ' H', Inv X pins σ' H' s' ∧ D.bk σ' H'
  | .cont => ∃ σ' H', Inv X pins σ' H' s' ∧ D.ct σ' H'
  | .ret u => ∃ v σ' H', Inv X pins σ' H' s' ∧ RelV v u ∧ D.rt v H'
def PE (X : Cx) (e : Expr) (t : TE) : Prop :=
  ∀ (pins : List (Addr × Obj)) (s : Shared) (σ : St) (H : Hp) (Q : VK), Inv X pins σ H s → t σ H Q → wpAny (model X.prog X.w) X.A (eval e X.env) (EP X pins σ Q) X.xe s
def PT (X : Cx) (e : Expr) (t : TT) : Prop :=
  ∀ (pins : List (Addr × Obj)) (s : Shared) (σ : St) (H : Hp) (Q : Bool → Hp → Prop), Inv X pins σ H s → t σ H Q → wpAny (model X.prog X.w) X.A (isTrue e X.env (eval e X.env)) (TP X pins σ Q) X.xe s
def PW (X : Cx) (e : Expr) (t : TT) : Prop :=
  ∀ (whole : Sem Value) (pins : List (Addr × Obj)) (s : Shared) (σ : St) (H : Hp) (Q : Bool → Hp → Prop), Inv X pins σ H s → t σ H Q → wpAny (model X.prog X.w) X.A (isTrue e X.env whole) (TP X pins σ Q) X.xe s
theorem PW.pt {X : Cx} {e : Expr} {t : TT} (h : PW X e t) : PT X e t := h _
def PA (X : Cx) (es : List Expr) (t : TA) : Prop :=
  ∀ (pos : Pos) (pins : List (Addr × Obj)) (s : Shared) (σ : St) (H : Hp) (Q : List V → Hp → Prop), Inv X pins σ H s → t σ H Q → wpAny (model X.prog X.w) X.A (spliced (backTo pos (starEach es X.env))) (AP X pins σ Q) X.xe s
def PS (X : Cx) (st : Stmt) (t : TS) : Prop :=
  ∀ (pins : List (Addr × Obj)) (s : Shared) (σ : St) (H : Hp) (D : Ends), Inv X pins σ H s → t D σ H → wpAny (model X.prog X.w) X.A (exec st X.env) (SP X pins D) X.xe s
def PSs (X : Cx) (st : List Stmt) (t : TS) : Prop :=
  ∀ (pins : List (Addr × Obj)) (s : Shared) (σ : St) (H : Hp) (D : Ends), Inv X pins σ H s → t D σ H → wpAny (model X.prog X.w) X.A (execs st X.env) (SP X pins D) X.xe s
theorem thn {α : Type} {t : Sem α} {Q Q' : α → Shared → Prop} {M : Model} {A : Around} {E : Value → Shared → Prop} {s : Shared} (h : wpAny M A t Q E s) (hQ : ∀ a s, Q a s → Q' a s) : wpAny M A t Q' E s := wpAny_mono h hQ fun _ _ x => x
end L2
namespace L2
open PySem PySem.Spec PyProof.Rows
section
variable {X : Cx}
def tVar (i : Nat) : TE := fun σ H Q => ∃ v, σ[i]? = some (some v) ∧ Q v H
def tC (v : V) : TE := fun _ H Q => Q v H
theorem pe_var {i : Nat} {x : Str} {pos : Pos} (hN : X.N[i]? = some x) (hv : Vis X.env.scope x) (hd : (x == ("__debug__" : Str)) = false := by decide) (hcd : (x == ("__classdict__" : Str)) = false := by decide) : PE X (.Name x pos) (tVar i) := by
  intro pins s σ H Q I h
  obtain ⟨v, e, h⟩ := h
  obtain ⟨m, hn, hl⟩ := I.loc
  obtain ⟨u, r, l⟩ := hl i x v hN e hv
  have fin : EP X pins σ Q u s := ⟨v, H, I, r, h⟩
  rcases l with ⟨hk, hm⟩ | ⟨hk, c, hc, hcell⟩
  · exact wpAny_Name (wpAny_loadName_local I.ok.kind hk hn hm fin) hd
  · rcases hk with hk | hk
    · exact wpAny_Name (wpAny_loadName_cell I.ok.kind hk hc hcell fin) hd
    · exact wpAny_Name (wpAny_loadName_free I.ok.kind hk hc hcell fin hcd) hd
theorem pe_int {i j pos} : PE X (.Constant (.int i) j pos) (tC (.int i)) := fun _ _ _ H _ I h => wpAny_Constant_int ⟨.int i, H, I.tok _, ⟨_, rfl⟩, h⟩
theorem pe_bl {b j pos} : PE X (.Constant (.bool b) j pos) (tC (.bl b)) := fun _ _ _ H _ I h => Constant_bool ⟨.bl b, H, I, rfl, h⟩
def Gl (X : Cx) (x : Str) : Prop := X.env.kindOf x = some .globalImplicit
theorem ld_glob {E : Value → Shared → Prop} {pins : List (Addr × Obj)} {s : Shared} {σ : St} {H : Hp} {x : Str} {u : Value} {pos : Pos} {Q : Value → Shared → Prop} (I : Inv X pins σ H s) (hg : Gl X x) (hm : X.mg x = some u) (h : Q u s)
    (hd : (x == ("__debug__" : Str)) = false := by decide) : wpAny (model X.prog X.w) X.A (eval (.Name x pos) X.env) Q E s :=
  Calls.Name_function_global I.ok.kind hg (Calls.loadGlobal_global (by rw [I.ok.glob]; exact I.mod.glob.keeps I.bk) hm h) hd
theorem ld_blt {E : Value → Shared → Prop} {pins : List (Addr × Obj)} {s : Shared} {σ : St} {H : Hp} {x : Str} {u : Value} {pos : Pos} {Q : Value → Shared → Prop} (I : Inv X pins σ H s) (hg : Gl X x) (hm : X.mg x = none) (hv : bootBuiltins x = some u) (h : Q u s)
    (hn : x ≠ "__name__" := by decide) (hd : (x == ("__debug__" : Str)) = false := by decide) : wpAny (model X.prog X.w) X.A (eval (.Name x pos) X.env) Q E s := by
  obtain ⟨mb, h1, h2⟩ := I.mod.blt
  exact Calls.Name_function_global I.ok.kind hg (Calls.loadGlobal_builtin (by rw [I.ok.glob]; exact I.mod.glob.keeps I.bk) hm (by rw [I.ok.blt]; exact h1.keeps I.bk) ((h2 x hn).trans hv) h) hd
theorem pe_glob {x : Str} {v : V} {u : Value} {pos : Pos} (hg : Gl X x) (hm : X.mg x = some u) (r : RelV v u) (hd : (x == ("__debug__" : Str)) = false := by decide) : PE X (.Name x pos) (tC v) :=
  fun _ _ _ H _ I h => ld_glob I hg hm ⟨v, H, I, r, h⟩ hd
variable {a b : Expr} {ta tb : TE} {pos : Pos}
def PC (X : Cx) (op : CmpOp) (a b : Expr) (t : TE) : Prop :=
  ∀ (pins : List (Addr × Obj)) (s : Shared) (σ : St) (H : Hp) (Q : VK), Inv X pins σ H s → t σ H Q →
    wpAny (model X.prog X.w) X.A (eval a X.env) (fun v s₁ => wpAny (model X.prog X.w) X.A (eval b X.env) (fun u s₂ => wpAny (model X.prog X.w) X.A (compareOp op v u) (EP X pins σ Q) X.xe s₂) X.xe s₁) X.xe s
theorem nobehind (b : Expr) {op : CmpOp} (h : op ≠ .In) (h2 : op ≠ .NotIn) : behindInMarks op b = false := by
  have e1 : (op == CmpOp.In) = false := by cases op <;> first | rfl | exact absurd rfl h
  have e2 : (op == CmpOp.NotIn) = false := by cases op <;> first | rfl | exact absurd rfl h2
  cases b <;> simp [behindInMarks, e1, e2]
def tB (t : TE) : TT := fun σ H Q => t σ H fun x H1 => ∃ c, x = .bl c ∧ Q c H1
theorem pt_cmp {op : CmpOp} {t : TE} (h : PC X op a b t) (h1 : behindInMarks op b = false := by first | exact nobehind _ (by decide) (by decide) | rfl) : PT X (.Compare a [op] [b] pos) (tB t) := by
  intro pins s σ H Q I hw
  refine wpAny_isTrue_Compare1 (thn (h pins s σ H _ I hw) fun v s1 h1 => thn h1 fun u s2 h2 => thn h2 fun c s3 ⟨x, H1, I1, r1, q1⟩ => ?_) h1
  obtain ⟨d, rfl, q⟩ := q1
  cases r1
  exact wpAny_truthy_bool ⟨H1, I1, q⟩
theorem pt_val {e : Expr} {t : TE} (h : PE X e t) (he : ∀ whole, isTrue e X.env whole = (do let v ← whole; standAt e.pos; holding [v] (truthy v)) := by intro _; rfl) : PT X e (tB t) := by
  intro pins s σ H Q I hw
  refine isTrue_plain (thn (h pins s σ H _ I hw) fun v s1 ⟨x, H1, I1, r1, q1⟩ => ?_) (he _)
  obtain ⟨d, rfl, q⟩ := q1
  cases r1
  exact wpAny_truthy_bool ⟨H1, I1, q⟩
variable {tA tB' : TT} {rest : List Expr}
def tOr (t u : TT) : TT := fun σ H Q => t σ H fun c H1 => if c = true then Q true H1 else u σ H1 Q
def tNot (t : TT) : TT := fun σ H Q => t σ H fun c H1 => Q (!c) H1
theorem pw_or1 (ha : PT X a tA) : PW X (.BoolOp .Or [a] pos) tA := by
  intro wh pins s σ H Q I h
  refine isTrue_or (thn (ha pins s σ H Q I h) fun c s1 e => ?_)
  cases c with
  | false => exact isTrue_or_nil e
  | true => exact e
theorem pw_or (ha : PT X a tA) (hb : PW X (.BoolOp .Or (b :: rest) pos) tB') : PW X (.BoolOp .Or (a :: b :: rest) pos) (tOr tA tB') := by
  intro wh pins s σ H Q I h
  refine isTrue_or (thn (ha pins s σ H _ I h) fun c s1 ⟨H1, I1, q1⟩ => ?_)
  cases c with
  | true => exact ⟨H1, I1, q1⟩
  | false => exact hb wh pins s1 σ H1 Q I1 q1
theorem pt_not (ha : PT X a tA) : PT X (.UnaryOp .Not a pos) (tNot tA) := by
  intro pins s σ H Q I h
  exact isTrue_not (ha pins s σ H (fun c H1 => Q (!c) H1) I h)
def tAndV (ta tb : TE) : TE := fun σ H Q => ta σ H fun x H1 => ∃ c, x = .bl c ∧ if c = true then tb σ H1 Q else Q (.bl false) H1
theorem pe_one {op} {t : TE} (h : PE X a t) : PE X (.BoolOp op [a] pos) t := fun pins s σ H Q I hw => BoolOp_one (h pins s σ H Q I hw)
theorem pe_and (ha : PE X a ta) (hb : PE X (.BoolOp .And (b :: rest) pos) tb) : PE X (.BoolOp .And (a :: b :: rest) pos) (tAndV ta tb) := by
  intro pins s σ H Q I h
  refine BoolOp_and (thn (ha pins s σ H _ I h) fun v s1 ⟨x, H1, I1, r1, q1⟩ => ?_)
  obtain ⟨c, rfl, q1⟩ := q1
  cases r1
  refine wpAny_truthy_bool ?_
  cases c with
  | true => exact hb pins s1 σ H1 Q I1 q1
  | false => exact ⟨.bl false, H1, I1, rfl, q1⟩
end
end L2
namespace L2
open PySem PySem.Spec PyProof.Rows
def SqL (K : PySem.W.Frag) (H : Hp) (a : Addr) (xs : List V) : Prop :=
  Rd H a (.lst xs) ∨
    ∃ (o : Obj) (its : Array Value) (n : Nat), K.lookup a = some o ∧ o.cls = .type "list" ∧ o.dict = none ∧ o.data = .seq its n ∧ its.size ≤ sizeLine ∧ Vals xs its.toList
def SqT (K : PySem.W.Frag) (H : Hp) (a : Addr) (xs : List V) : Prop :=
  Rd H a (.tup xs) ∨
    ∃ (o : Obj) (its : Array Value) (n : Nat), K.lookup a = some o ∧ o.cls = .type "tuple" ∧ o.data = .seq its n ∧ its.size ≤ sizeLine ∧ Vals xs its.toList
def absV : Value → Option V
  | .none => some .non
  | .bool b => some (.bl b)
  | .int i _ => some (.int i)
  | .str x _ => some (.str x)
  | .bytes b _ => some (.byt b)
  | .float b _ => some (.flt b)
  | .ref a => some (.ref a)
  | .type n => some (.ty n)
  | _ => none
theorem RelV.abs {x : V} {u : Value} (r : RelV x u) : absV u = some x := by
  cases x with
  | non => cases r; rfl
  | bl _ => cases r; rfl
  | int _ => obtain ⟨t, rfl⟩ := r; rfl
  | str _ => obtain ⟨t, rfl⟩ := r; rfl
  | byt _ => obtain ⟨t, rfl⟩ := r; rfl
  | flt _ => obtain ⟨t, rfl⟩ := r; rfl
  | ref _ => cases r; rfl
  | ty _ => cases r; rfl
theorem RelV.inj {x y : V} {u : Value} (r : RelV x u) (q : RelV y u) : x = y := Option.some.inj (r.abs.symm.trans q.abs)
theorem Vals.inj : ∀ {xs ys : List V} {us : List Value}, Vals xs us → Vals ys us → xs = ys
  | _, _, _, .nil, .nil => rfl
  | _, _, _, .cons r t, .cons r' t' => by rw [r.inj r', Vals.inj t t']
section
variable {X : Cx} {pins : List (Addr × Obj)} {σ : St} {H : Hp} {s : Shared} {a : Addr} {xs ys : List V}
theorem SqL.of {K : PySem.W.Frag} (h : H a = some (.lst xs)) : SqL K H a xs := .inl (.inl h)
theorem SqT.of {K : PySem.W.Frag} (h : H a = some (.tup xs)) : SqT K H a xs := .inl (.inl h)
theorem Inv.list (I : Inv X pins σ H s) (h : SqL X.K H a xs) : ∃ its : List Value, Vals xs its ∧ PlainL s.heap a its.toArray ∧ xs.length ≤ sizeLine := by
  rcases h with h | ⟨o, its, n, hk, hc, hd, hs, hz, r⟩
  · obtain ⟨z, its, n, r, e⟩ := h.ok I.hok
    exact ⟨its, r, ⟨_, n, e, rfl, rfl, rfl⟩, z⟩
  · refine ⟨its.toList, r, ⟨o, n, I.kIn a o hk, hc, hd, by simpa using hs⟩, ?_⟩
    have e := r.length
    simp only [Array.length_toList] at e
    omega
theorem Inv.tuple (I : Inv X pins σ H s) (h : SqT X.K H a xs) : ∃ its : List Value, Vals xs its ∧ IsTup s.heap a its.toArray ∧ xs.length ≤ sizeLine := by
  rcases h with h | ⟨o, its, n, hk, hc, hs, hz, r⟩
  · obtain ⟨z, its, r, p⟩ := h.ok I.hok
    exact ⟨its, r, p, z⟩
  · refine ⟨its.toList, r, ⟨o, I.kIn a o hk, hc, n, by simpa using hs⟩, ?_⟩
    have e := r.length
    simp only [Array.length_toList] at e
    omega
theorem Inv.list_inj (I : Inv X pins σ H s) (h : SqL X.K H a xs) (h' : SqL X.K H a ys) : xs = ys := by
  obtain ⟨its, r, ⟨o, n, e, _, _, d⟩, _⟩ := I.list h
  obtain ⟨its', r', ⟨o', n', e', _, _, d'⟩, _⟩ := I.list h'
  rw [e] at e'; cases e'
  rw [d] at d'
  injection d' with d1 _
  have : its = its' := by simpa using congrArg Array.toList d1
  subst this
  exact r.inj r'
end
abbrev Cx.wish (X : Cx) (E : Value → Shared → Prop) : Cx := { X with xe := E }
abbrev Cx.nox (X : Cx) : Cx := X.wish fun _ _ => False
theorem Cx.Ok.wish {X : Cx} (ok : X.Ok) (E : Value → Shared → Prop) : (X.wish E).Ok :=
  ⟨ok.mod, ok.kind, ok.glob, ok.blt, ok.above, ok.inj, ok.has, ok.cab, ok.hd, ok.frames, ok.stk, ok.exf, ok.bs, ok.bsz, ok.noex, ok.exfs, ok.funs, ok.frf⟩
theorem Cx.Ok.unwish {X : Cx} {E : Value → Shared → Prop} (ok : (X.wish E).Ok) : X.Ok :=
  ⟨ok.mod, ok.kind, ok.glob, ok.blt, ok.above, ok.inj, ok.has, ok.cab, ok.hd, ok.frames, ok.stk, ok.exf, ok.bs, ok.bsz, ok.noex, ok.exfs, ok.funs, ok.frf⟩
section
variable {X : Cx} {pins : List (Addr × Obj)} {σ : St} {H : Hp} {s : Shared} {E : Value → Shared → Prop}
theorem Inv.wish (I : Inv X pins σ H s) (E : Value → Shared → Prop) : Inv (X.wish E) pins σ H s := ⟨I.ok.wish E, I.os, I.bare, I.base, I.loc, I.cell, I.free, I.freeC, I.pin, I.hok, I.len⟩
theorem Inv.unwish (I : Inv (X.wish E) pins σ H s) : Inv X pins σ H s := ⟨I.ok.unwish, I.os, I.bare, I.base, I.loc, I.cell, I.free, I.freeC, I.pin, I.hok, I.len⟩
theorem SP.unwish {D : Ends} {f : Flow} {s' : Shared} (h : SP (X.wish E) pins D f s') : SP X pins D f s' := by
  cases f with
  | next => obtain ⟨σ', H', I, q⟩ := h; exact ⟨σ', H', I.unwish, q⟩
  | brk => obtain ⟨σ', H', I, q⟩ := h; exact ⟨σ', H', I.unwish, q⟩
  | cont => obtain ⟨σ', H', I, q⟩ := h; exact ⟨σ', H', I.unwish, q⟩
  | ret u => obtain ⟨v, σ', H', I, r, q⟩ := h; exact ⟨v, σ', H', I.unwish, r, q⟩
theorem PE.nox {e : Expr} {t : TE} (h : PE X.nox e t) : PE X e t := fun pins s σ H Q I hw =>
  wpAny_mono (h pins s σ H Q (I.wish _) hw) (fun _ _ ⟨v, H', I', r, q⟩ => ⟨v, H', I'.unwish, r, q⟩) fun _ _ z => False.elim z
theorem PT.nox {e : Expr} {t : TT} (h : PT X.nox e t) : PT X e t := fun pins s σ H Q I hw =>
  wpAny_mono (h pins s σ H Q (I.wish _) hw) (fun _ _ ⟨H', I', q⟩ => ⟨H', I'.unwish, q⟩) fun _ _ z => False.elim z
theorem PSs.nox {st : List Stmt} {t : TS} (h : PSs X.nox st t) : PSs X st t := fun pins s σ H D I hw =>
  wpAny_mono (h pins s σ H D (I.wish _) hw) (fun _ _ q => q.unwish) fun _ _ z => False.elim z
end
section
variable {X : Cx} {st : Stmt} {rest : List Stmt} {t u : TS} {e : Expr} {te : TE} {pos : Pos}
def tNext : TS := fun D σ H => D.nx σ H
def tSeq (t u : TS) : TS := fun D σ H => t { D with nx := u D } σ H
theorem pss_nil : PSs X [] tNext := fun _ _ σ H _ I h => wpAny_execs_nil ⟨σ, H, I, h⟩
theorem pss_cons (h1 : PS X st t) (h2 : PSs X rest u) : PSs X (st :: rest) (tSeq t u) := by
  intro pins s σ H D I h
  refine wpAny_execs_cons (thn (h1 pins s σ H { D with nx := u D } I h) fun f s1 q => ?_)
  cases f with
  | next =>
    obtain ⟨σ', H', I', q⟩ := q
    exact h2 pins s1 σ' H' D I' q
  | ret v => exact q
  | brk => exact q
  | cont => exact q
theorem pss_one (h1 : PS X st t) : PSs X [st] t := by
  intro pins s σ H D I h
  refine wpAny_execs_cons (thn (h1 pins s σ H D I h) fun f s1 q => ?_)
  cases f with
  | next => exact wpAny_execs_nil q
  | ret v => exact q
  | brk => exact q
  | cont => exact q
theorem Inv.quiet {pins : List (Addr × Obj)} {σ : St} {H : Hp} {s : Shared} (I : Inv X pins σ H s) : interactive X.env = false := by simp [interactive, I.ok.kind]
def tDrop (te : TE) : TS := fun D σ H => te σ H fun _ H1 => D.nx σ H1
theorem ps_expr (he : PE X e te) (hs : swapsWith e none pos.line X.env = pure false := by rfl) : PS X (.Expr e pos) (tDrop te) := by
  intro pins s σ H D I h
  exact wpAny_Expr_any (thn (he pins s σ H _ I h) fun v s1 ⟨x, H1, I1, r1, q1⟩ => ⟨σ, H1, I1, q1⟩) I.quiet hs
def tRet (te : TE) : TS := fun D σ H => te σ H D.rt
theorem ps_ret (he : PE X e te) : PS X (.Return (some e) pos) (tRet te) := by
  intro pins s σ H D I h
  exact wpAny_Return_some (thn (he pins s σ H _ I h) fun v s1 ⟨x, H1, I1, r1, q1⟩ => ⟨x, σ, H1, I1, r1, q1⟩)
def tIfS (c : TT) (t u : TS) : TS := fun D σ H => c σ H fun b H1 => if b = true then t D σ H1 else u D σ H1
theorem ps_if {c : Expr} {a b : List Stmt} {tc : TT} (hc : PT X c tc) (ha : PSs X a t) (hb : PSs X b u) : PS X (.If c a b pos) (tIfS tc t u) := by
  intro pins s σ H D I h
  refine wpAny_If (thn (hc pins s σ H _ I h) fun d s1 ⟨H1, I1, q1⟩ => ?_)
  cases d with
  | true => exact ha pins s1 σ H1 D I1 q1
  | false => exact hb pins s1 σ H1 D I1 q1
def tNever : TS := fun _ _ _ => False
theorem pss_never {sts : List Stmt} : PSs X sts tNever := fun _ _ _ _ _ _ h => h.elim
end
abbrev TG := V → St → Hp → (St → Hp → Prop) → Prop
def PG (X : Cx) (target : Expr) (t : TG) : Prop :=
  ∀ (pins : List (Addr × Obj)) (s : Shared) (σ : St) (H : Hp) (v : V) (u : Value) (Q : St → Hp → Prop), Inv X pins σ H s → RelV v u → t v σ H Q →
    wpAny (model X.prog X.w) X.A (assign target X.env u) (fun _ s' => ∃ σ' H', Inv X pins σ' H' s' ∧ Q σ' H') X.xe s
abbrev TSet := V → V → V → Hp → (Hp → Prop) → Prop
def PSet (X : Cx) (t : TSet) : Prop :=
  ∀ (pins : List (Addr × Obj)) (s : Shared) (σ : St) (H : Hp) (o i v : V) (ov iv u : Value) (Q : Hp → Prop), Inv X pins σ H s → RelV o ov → RelV i iv → RelV v u → t o i v H Q →
    wpAny (model X.prog X.w) X.A (setItem ov iv u) (fun _ s' => ∃ H', Inv X pins σ H' s' ∧ Q H') X.xe s
abbrev TIp := V → V → Hp → VK → Prop
def PIp (X : Cx) (op : Operator) (t : TIp) : Prop :=
  ∀ (pins : List (Addr × Obj)) (s : Shared) (σ : St) (H : Hp) (x y : V) (v u : Value) (Q : VK), Inv X pins σ H s → RelV x v → RelV y u → t x y H Q →
    wpAny (model X.prog X.w) X.A (inplaceOp op v u) (EP X pins σ Q) X.xe s
section
variable {X : Cx} {pos : Pos}
def gName (i : Nat) : TG := fun v σ H Q => Q (σ.set i (some v)) H
theorem pg_name {i : Nat} {x : Str} (hN : X.N.Nodup) (hi : X.N[i]? = some x) (hx : Loc X.env.scope x) (hf : X.fn x = true ∨ X.env.scope.names.lookup x = some .local := by first | exact .inl rfl | exact .inr rfl | assumption) : PG X (.Name x pos) (gName i) := by
  intro pins s σ H v u Q I r h
  exact wpAny_assign_Name (store_ok I hN hi hx r (fun s' I' => ⟨_, H, I', h⟩) hf)
def gSub (to ti : TE) (t : TSet) : TG := fun v σ H Q => to σ H fun o H1 => ti σ H1 fun i H2 => t o i v H2 fun H3 => Q σ H3
theorem pg_sub {o i : Expr} {to ti : TE} {t : TSet} (ho : PE X o to) (hi : PE X i ti) (hs : PSet X t)
    (ha : ∀ v, assign (.Subscript o i pos) X.env v = (do
      let ov ← holding [v] (eval o X.env)
      let iv ← holding [v, ov] (eval i X.env)
      standAt pos
      holding [v, ov, iv] (setItem ov iv v)
      release [v, ov, iv] []) := by intro _; rfl) : PG X (.Subscript o i pos) (gSub to ti t) := by
  intro pins s σ H v u Q I r h
  rw [ha]
  refine wpAny_bind (wpAny_holding (thn (ho pins s σ H _ I h) fun ov s1 ⟨x, H1, I1, r1, q1⟩ => ?_))
  refine wpAny_bind (wpAny_holding (thn (hi pins s1 σ H1 _ I1 q1) fun iv s2 ⟨y, H2, I2, r2, q2⟩ => ?_))
  refine wpAny_bind (wpAny_standAt (wpAny_bind (wpAny_holding (thn (hs pins s2 σ H2 x y v ov iv u _ I2 r1 r2 r q2) fun _ s3 ⟨H3, I3, q3⟩ => ?_))))
  exact wpAny_release ⟨σ, H3, I3, q3⟩
def tAsg (te : TE) (g : TG) : TS := fun D σ H => te σ H fun x H1 => g x σ H1 D.nx
theorem ps_asg {tg e : Expr} {te : TE} {g : TG} (he : PE X e te) (hg : PG X tg g) (hs : swapsWithSole [tg] e pos.line X.env = pure false := by rfl) (hw : swappedStores [tg] e X.env = pure none := by rfl)
    (h1 : (assignEach [tg] X.env).map (·.2) = [assign tg X.env] := by rfl) : PS X (.Assign [tg] e pos) (tAsg te g) := by
  intro pins s σ H D I h
  refine wpAny_Assign_stores (thn (he pins s σ H _ I h) fun v s1 ⟨x, H1, I1, r1, q1⟩ => ?_) hs hw
  rw [h1]
  exact thn (hg pins s1 σ H1 x v _ I1 r1 q1) fun _ s2 q => q
theorem ps_set {i : Nat} {x : Str} {e : Expr} {te : TE} {pos' : Pos} (hN : X.N.Nodup) (hi : X.N[i]? = some x) (hx : Loc X.env.scope x) (he : PE X e te) (hs : swapsWith e (some (.Name x pos')) pos.line X.env = pure false := by rfl) (hf : X.fn x = true ∨ X.env.scope.names.lookup x = some .local := by first | exact .inl rfl | exact .inr rfl | assumption) :
    PS X (.Assign [.Name x pos'] e pos) (tAsg te (gName i)) := by
  intro pins s σ H D I h
  refine wpAny_Assign_Name (thn (he pins s σ H _ I h) fun v s1 ⟨y, H1, I1, r1, q1⟩ => ?_) hs
  exact store_ok I1 hN hi hx r1 (fun s2 I2 => ⟨_, H1, I2, q1⟩) hf
def tAug (i : Nat) (te : TE) (ti : TIp) : TS := fun D σ H => ∃ x, σ[i]? = some (some x) ∧ te σ H fun y H1 => ti x y H1 fun z H2 => D.nx (σ.set i (some z)) H2
theorem ps_aug {i : Nat} {x : Str} {e : Expr} {te : TE} {op : Operator} {ti : TIp} {pos' : Pos} (hN : X.N.Nodup) (hi : X.N[i]? = some x) (hx : Loc X.env.scope x) (he : PE X e te) (ho : PIp X op ti) (hf : X.fn x = true ∨ X.env.scope.names.lookup x = some .local := by first | exact .inl rfl | exact .inr rfl | assumption) :
    PS X (.AugAssign (.Name x pos') op e pos) (tAug i te ti) := by
  intro pins s σ H D I h
  obtain ⟨v, e1, h⟩ := h
  obtain ⟨m, hn, hl⟩ := I.loc
  have vis : Vis X.env.scope x := by rcases hx with k | k; exact .inl k; exact .inr (.inl k)
  obtain ⟨u, r, l⟩ := hl i x v hi e1 vis
  refine wpAny_AugAssign_Name ?_
  have go : wpAny (model X.prog X.w) X.A (eval e X.env) (fun w s₂ => wpAny (model X.prog X.w) X.A (inplaceOp op u w) (fun r s₃ => wpAny (model X.prog X.w) X.A (storeName X.env x r) (fun _ => SP X pins D .next) X.xe s₃) X.xe s₂) X.xe s := by
    refine thn (he pins s σ H _ I h) fun w s1 ⟨y, H1, I1, r1, q1⟩ => ?_
    refine thn (ho pins s1 σ H1 v y u w _ I1 r r1 q1) fun z s2 ⟨zv, H2, I2, r2, q2⟩ => ?_
    exact store_ok I2 hN hi hx r2 (fun s3 I3 => ⟨_, H2, I3, q2⟩) hf
  rcases l with ⟨hk, hm⟩ | ⟨hk, c, hc, hcell⟩
  · exact wpAny_loadName_local I.ok.kind hk hn hm go
  · rcases hk with hk | hk
    · exact wpAny_loadName_cell I.ok.kind hk hc hcell go
    · rcases hx with k | k
      · have : X.env.scope.names.lookup x = some .free := hk
        rw [k] at this; cases this
      · have : X.env.scope.names.lookup x = some .free := hk
        rw [k] at this; cases this
def ipI (f : Int → Int → Int) : TIp := fun x y H Q => ∃ i j, x = .int i ∧ y = .int j ∧ Q (.int (f i j)) H
theorem ip_add : PIp X .Add (ipI fun i j => i + j) := by
  intro pins s σ H x y v u Q I r1 r2 h
  obtain ⟨i, j, e1, e2, q⟩ := h
  subst e1; subst e2
  obtain ⟨t, rfl⟩ := r1
  obtain ⟨t', rfl⟩ := r2
  exact iadd_int ⟨.int _, H, I.tok _, ⟨_, rfl⟩, q⟩
end
section
variable {X : Cx} {pos : Pos}
def tWhile (c : TT) (tb : TS) : TS := fun D σ H => ∃ W : Nat → St → Hp → Prop, (∃ m, W m σ H) ∧ ∀ m σ H, W m σ H →
  c σ H fun b H1 => if b = true then ∃ N : St → Hp → Prop, (∀ σ' H', N σ' H' → ∃ m', m' < m ∧ W m' σ' H') ∧ tb { D with nx := N, ct := N, bk := D.nx } σ H1 else D.nx σ H1
theorem ps_while {c : Expr} {body : List Stmt} {tc : TT} {tb : TS} (hp : PassesOwn (model X.prog X.w) X.A X.env X.xe) (hc : PT X c tc) (hb : PSs X body tb) : PS X (.While c body [] pos) (tWhile tc tb) := by
  intro pins s σ H D I h
  obtain ⟨W, ⟨m0, w0⟩, turn⟩ := h
  refine wpAny_While (codeAny_whileLoop (fun n s' => ∃ σ' H', Inv X pins σ' H' s' ∧ W n σ' H') ?_ m0 ⟨σ, H, I, w0⟩)
  rintro n s1 ⟨σ1, H1, I1, w1⟩
  refine wpAny_passesOwn hp (thn (hc pins s1 σ1 H1 _ I1 (turn n σ1 H1 w1)) fun b s2 ⟨H2, I2, q2⟩ => ?_)
  cases b with
  | true =>
    obtain ⟨N, hN, q2⟩ := q2
    rw [if_pos rfl]
    refine wpAny_passesOwn hp (thn (hb pins s2 σ1 H2 _ I2 q2) fun f s3 q3 => ?_)
    cases f with
    | next =>
      obtain ⟨σ3, H3, I3, n3⟩ := q3
      obtain ⟨m', hm, w3⟩ := hN σ3 H3 n3
      exact ⟨m', hm, σ3, H3, I3, w3⟩
    | cont =>
      obtain ⟨σ3, H3, I3, n3⟩ := q3
      obtain ⟨m', hm, w3⟩ := hN σ3 H3 n3
      exact ⟨m', hm, σ3, H3, I3, w3⟩
    | brk => exact q3
    | ret v => exact q3
  | false =>
    rw [if_neg Bool.false_ne_true]
    exact wpAny_execs_nil ⟨σ1, H2, I2, q2⟩
end
structure It where
  go : Nat → Hp → Prop
  yld : Nat → Hp → V → Hp → Prop
  stop : Nat → Hp → Prop
def FpOk (X : Cx) (pins : List (Addr × Obj)) (H : Hp) (b : Addr) : Prop :=
  H b = none ∧ b ≠ X.env.locals ∧ b ∉ X.fs ∧ (b ∈ X.ex ∨ X.s_0.heap.objs.size ≤ b) ∧ (∀ x c, X.env.cells.lookup x = some c → c ≠ b) ∧ ∀ p ∈ X.pn ++ pins, p.1 ≠ b
theorem Inv.fpOk {X : Cx} {pins : List (Addr × Obj)} {σ : St} {H H' : Hp} {s : Shared} {b : Addr} (I : Inv X pins σ H s) (hb : s.heap.objs.size ≤ b) (hn : H' b = none) : FpOk X pins H' b := by
  refine ⟨hn, Nat.ne_of_gt (Nat.lt_of_lt_of_le I.lt hb), I.nofs hb, .inr (Nat.le_trans I.sz hb), fun x c e z => ?_, fun p hp z => ?_⟩
  · obtain ⟨v, q⟩ := I.cell x c e
    exact absurd (Nat.lt_of_lt_of_le q.lt (by rw [z]; exact hb)) (Nat.lt_irrefl _)
  · exact absurd (Nat.lt_of_lt_of_le (Heap.lt_size (I.pin p hp).1) (by rw [z]; exact hb)) (Nat.lt_irrefl _)
structure Turn (P : Program) (w : World) (K : PySem.W.Frag) (tg : Expr) (J : It) (fp : List Addr) (it : Addr) (tn : Nat → Heap → Prop) : Prop where
  mem : it ∈ fp
  obj : ∀ i h, tn i h → ∀ b ∈ fp, ∃ o, h.get? b = some o ∧ ∀ v, o.data ≠ .cell v
  keep : ∀ i h h', tn i h → (∀ b ∈ fp, ∀ o, h.get? b = some o → h'.get? b = some o) → tn i h'
  item : ∀ (X : Cx), X.prog = P → X.w = w → X.K = K → X.calm = true → ∀ (i : Nat) (pins : List (Addr × Obj)) (s : Shared) (σ : St) (H : Hp) (E : Value → Shared → Prop), Inv X pins σ H s → (∀ b ∈ fp, FpOk X pins H b) → tn i s.heap → J.go i H →
    wpAny (model P w) X.A (pyNext (.ref it)) (fun r s1 => ∃ u, r = some u ∧
      wpAny (model P w) X.A (letOwnedTupleGo tg (.ref it) u) (fun _ s2 => ∃ x H', Inv X pins σ H' s2 ∧ RelV x u ∧ J.yld i H x H' ∧ tn (i + 1) s2.heap ∧ ∀ b ∈ fp, H' b = none) E s1) E s
  done : ∀ (X : Cx), X.prog = P → X.w = w → X.K = K → X.calm = true → ∀ (i : Nat) (pins : List (Addr × Obj)) (s : Shared) (σ : St) (H : Hp) (E : Value → Shared → Prop), Inv X pins σ H s → (∀ b ∈ fp, FpOk X pins H b) → tn i s.heap → J.stop i H →
    wpAny (model P w) X.A (pyNext (.ref it)) (fun r s1 => r = none ∧ Inv X pins σ H s1) E s
  self : ∀ (A : Around) (i : Nat) (s : Shared) (Q : Value → Shared → Prop) (E : Value → Shared → Prop), tn i s.heap → Q (.ref it) s → wpAny (model P w) A (pyIter (.ref it)) Q E s
abbrev TI := St → Hp → (It → Hp → Prop) → Prop
def PIE (X : Cx) (pins : List (Addr × Obj)) (σ : St) (tg : Expr) (R : It → Hp → Prop) (itv : Value) (s2 : Shared) : Prop :=
  ∃ (it : Addr) (fp : List Addr) (tn : Nat → Heap → Prop) (J : It) (H' : Hp), itv = .ref it ∧ Inv X pins σ H' s2 ∧ Turn X.prog X.w X.K tg J fp it tn ∧ tn 0 s2.heap ∧ (∀ b ∈ fp, FpOk X pins H' b) ∧ R J H'
def PI (X : Cx) (tg iter : Expr) (wi : TI) : Prop :=
  ∀ (pins : List (Addr × Obj)) (s : Shared) (σ : St) (H : Hp) (R : It → Hp → Prop), Inv X pins σ H s → wi σ H R →
    wpAny (model X.prog X.w) X.A (eval iter X.env) (fun v s1 => wpAny (model X.prog X.w) X.A (pyIter v) (PIE X pins σ tg R) X.xe s1) X.xe s
theorem go_of {M : Model} {A : Around} {E : Value → Shared → Prop} {s : Shared} {tg : Expr} {it : Addr} {u : Value} {o : Obj} {n : String} {vs : Array Value} {Q : Unit → Shared → Prop} (ho : s.heap.get? it = some o) (hc : o.cls = .type n) (hd : o.data = .fields vs)
    (hn : ["enumerate", "zip", "dict_itemiterator", "dict_reverseitemiterator", "odict_iterator", "itertools.zip_longest", "itertools.pairwise"].contains n = false) (hQ : Q () s) : wpAny M A (letOwnedTupleGo tg (.ref it) u) Q E s := by
  unfold letOwnedTupleGo
  cases tg <;> first
    | exact wpAny_pure hQ
    | (cases u <;> first
        | exact wpAny_pure hQ
        | (refine wpAny_bind (wpAny_load ho ?_)
           rw [hc, hd]
           show wpAny M A (if (["enumerate", "zip", "dict_itemiterator", "dict_reverseitemiterator", "odict_iterator", "itertools.zip_longest", "itertools.pairwise"].contains n && vs[0]? == some (rawInt _)) = true then _ else _) Q E s
           rw [if_neg (by intro h; rw [hn, Bool.false_and] at h; cases h)]
           exact wpAny_pure hQ))
def Itl (K : PySem.W.Frag) (a : Addr) : It :=
  ⟨fun i H => ∃ xs x, SqL K H a xs ∧ xs[i]? = some x, fun i H x H' => H' = H ∧ ∀ xs, SqL K H a xs → xs[i]? = some x, fun i H => ∃ xs, SqL K H a xs ∧ xs.length ≤ i⟩
def Itr (lo : Int) (n : Nat) : It := ⟨fun i _ => i < n, fun i H x H' => H' = H ∧ x = .int (lo + i), fun i _ => n ≤ i⟩
theorem turn_list {P : Program} {w : World} {K : PySem.W.Frag} {tg : Expr} (a it : Addr) : Turn P w K tg (Itl K a) [it] it (fun i h => h.IsListIter it a i) where
  mem := by simp
  obj := fun i h st b hb => by
    have e : b = it := by simpa using hb
    subst e
    obtain ⟨o, e, c, d⟩ := st
    exact ⟨o, e, fun v z => by rw [d] at z; cases z⟩
  keep := fun i h h' st k => st.at fun o e => k it (by simp) o e
  item := by
    intro X hP hw hK hc i pins s σ H E I hf st hg
    subst hP hw hK
    obtain ⟨xs, x, hq, hx⟩ := hg
    obtain ⟨its, rv, p, hz⟩ := I.list hq
    obtain ⟨u, hu, ru⟩ := rv.get hx
    obtain ⟨f0, f1, f2, f3, f4, f5⟩ := hf it (by simp)
    refine wpAny_pyNext_list_item st p.isList (x := u) (by simpa using hu) fun h' st' sb => ?_
    have I1 : Inv X pins σ H { s with heap := h' } := I.turned (t' := s.toks) (fun b o hb e => (sb.2 b hb).trans e) f0 f1 f3 f4 f5
    obtain ⟨o, e, c, d⟩ := id st'
    exact ⟨u, rfl, go_of (s := { s with heap := h' }) e c d (by decide) ⟨x, H, I1, ru, ⟨rfl, fun ys hy => by rw [I.list_inj hy hq]; exact hx⟩, st', fun b hb => (hf b hb).1⟩⟩
  done := by
    intro X hP hw hK hc i pins s σ H E I hf st hg
    subst hP hw hK
    obtain ⟨xs, hq, hx⟩ := hg
    obtain ⟨its, rv, p, hz⟩ := I.list hq
    obtain ⟨f0, f1, f2, f3, f4, f5⟩ := hf it (by simp)
    have hl := rv.length
    exact wpAny_pyNext_list_end (I.ok.hd hc) st p.isList (by simp; omega) fun h' eb => ⟨rfl, I.turned (t' := s.toks) (fun b o hb e => eb b o hb e) f0 f1 f3 f4 f5⟩
  self := fun _ _ _ _ _ st h => wpAny_pyIter_listiter st h
theorem turn_range {P : Program} {w : World} {K : PySem.W.Frag} {tg : Expr} (it : Addr) (lo : Int) (n : Nat) : Turn P w K tg (Itr lo n) [it] it (fun i h => IsRangeIter h it (lo + (i : Nat) * 1) ((n : Int) - (i : Nat)) 1) where
  mem := by simp
  obj := fun i h st b hb => by
    have e : b = it := by simpa using hb
    subst e
    exact ⟨_, st, fun v z => by
      have z' : Data.fields _ = Data.cell v := z
      cases z'⟩
  keep := fun i h h' st k => k it (by simp) _ st
  item := by
    intro X hP hw hK hc i pins s σ H E I hf st hg
    subst hP hw hK
    obtain ⟨f0, f1, f2, f3, f4, f5⟩ := hf it (by simp)
    have W := Walks.range (prog := X.prog) (w := X.w) (I.ok.hd hc) it lo 1 n
    refine W.item i s _ _ hg st fun v h' tk hv st' kk => ?_
    obtain ⟨t, rfl⟩ := hv
    have I1 : Inv X pins σ H { s with heap := h', toks := tk } := I.turned (fun b o hb e => kk b o (by simpa using hb) e) f0 f1 f3 f4 f5
    refine ⟨_, rfl, go_of (s := { s with heap := h', toks := tk }) (n := "range_iterator") st' rfl rfl (by decide) ⟨.int (lo + i), H, I1, ⟨t, ?_⟩, ⟨rfl, rfl⟩, st', fun b hb => (hf b hb).1⟩⟩
    rw [Int.mul_one]
  done := by
    intro X hP hw hK hc i pins s σ H E I hf st hg
    subst hP hw hK
    obtain ⟨f0, f1, f2, f3, f4, f5⟩ := hf it (by simp)
    exact wpAny_pyNext_range_end (I.ok.hd hc) st (by have : n ≤ i := hg; omega) fun h' eb => ⟨rfl, I.turned (t' := s.toks) (fun b o hb e => eb b o hb e) f0 f1 f3 f4 f5⟩
  self := fun _ _ _ _ _ st h => wpAny_pyIter_rangeiter st h
end L2
namespace L2
open PySem PySem.Spec PyProof.Rows
section
variable {X : Cx} {tg : Expr}
def iList (K : PySem.W.Frag) (tl : TE) : TI := fun σ H R => tl σ H fun x H1 => ∃ a, x = .ref a ∧ (∃ xs, SqL K H1 a xs) ∧ R (Itl K a) H1
theorem pi_list {l : Expr} {tl : TE} (hl : PE X l tl) : PI X tg l (iList X.K tl) := by
  intro pins s σ H R I h
  refine thn (hl pins s σ H _ I h) fun v s1 ⟨x, H1, I1, r1, q1⟩ => ?_
  obtain ⟨a, e, ⟨xs, hq⟩, q⟩ := q1
  subst e
  cases r1
  obtain ⟨its, rv, p, hz⟩ := I1.list hq
  refine wpAny_pyIter_list p.isList ?_
  refine ⟨s1.heap.objs.size, [s1.heap.objs.size], _, _, H1, rfl, I1.kept (t' := s1.toks) fun b o e => Heap.get?_push_of_some _ e, turn_list a _, ⟨_, Heap.get?_push_size _ rfl, rfl, rfl⟩, fun b hb => ?_, q⟩
  have e : b = s1.heap.objs.size := by simpa using hb
  subst e
  exact I1.fpOk (Nat.le_refl _) (I1.hok.fresh (Nat.le_refl _))
theorem range_it {pins : List (Addr × Obj)} {σ : St} {H : Hp} {s : Shared} {R : It → Hp → Prop} {E : Value → Shared → Prop} {lo hi : Int} {t u v : Tok} {tk : Nat} (I : Inv X pins σ H s) (h1 : -(2 ^ 62) ≤ lo) (h2 : lo < 2 ^ 62) (h3 : -(2 ^ 62) ≤ hi) (h4 : hi < 2 ^ 62)
    (q : R (Itr lo (hi - lo).toNat) H) : wpAny (model X.prog X.w) X.A (pyIter (.ref s.heap.objs.size)) (PIE X pins σ tg R) E { s with heap := s.heap.push { cls := .type "range", data := .fields #[.int lo t, .int hi u, .int 1 v] }, toks := tk } := by
  refine wpAny_pyIter_range (IsRange.new ..) (small_one h1 h2 h3 h4) ?_
  have I1 : Inv X pins σ H { s with heap := s.heap.push { cls := .type "range", data := .fields #[.int lo t, .int hi u, .int 1 v] }, toks := tk } := I.kept fun b o e => Heap.get?_push_of_some _ e
  refine ⟨(s.heap.push { cls := .type "range", data := .fields #[.int lo t, .int hi u, .int 1 v] }).objs.size, [(s.heap.push { cls := .type "range", data := .fields #[.int lo t, .int hi u, .int 1 v] }).objs.size], _, _, H, rfl,
    I1.kept (t' := tk) fun b o e => Heap.get?_push_of_some _ e, turn_range _ lo (hi - lo).toNat, ?_, fun b hb => ?_, q⟩
  · have e1 : lo + ((0 : Nat) : Int) * 1 = lo := by simp
    have e2 : (((hi - lo).toNat : Nat) : Int) - ((0 : Nat) : Int) = Builtin.Range.rangeSize lo hi 1 := by rw [rangeSize_one]; split <;> omega
    show IsRangeIter _ _ (lo + ((0 : Nat) : Int) * 1) ((((hi - lo).toNat : Nat) : Int) - ((0 : Nat) : Int)) 1
    rw [e1, e2]
    exact Heap.get?_push_size _ rfl
  · have e : b = (s.heap.push { cls := .type "range", data := .fields #[.int lo t, .int hi u, .int 1 v] }).objs.size := by simpa using hb
    subst e
    exact I1.fpOk (Nat.le_refl _) (I1.hok.fresh (Nat.le_refl _))
def iRng1 (ta : TA) : TI := fun σ H R => ta σ H fun vs H1 => ∃ j : Int, vs = [.int j] ∧ -(2 ^ 62) ≤ j ∧ j < 2 ^ 62 ∧ R (Itr 0 j.toNat) H1
def iRng2 (ta : TA) : TI := fun σ H R => ta σ H fun vs H1 => ∃ i j : Int, vs = [.int i, .int j] ∧ (-(2 ^ 62) ≤ i ∧ i < 2 ^ 62 ∧ -(2 ^ 62) ≤ j ∧ j < 2 ^ 62) ∧ R (Itr i (j - i).toNat) H1
theorem pi_range1 {a : Expr} {ta : TA} {p pos : Pos} (hg : Gl X "range") (hm : X.mg "range" = none) (ha : PA X [a] ta) (hs : starEach [a] X.env = [(false, eval a X.env)] := by rfl) : PI X tg (.Call (.Name "range" p) [a] [] pos) (iRng1 ta) := by
  intro pins s σ H R I h
  refine Call_ (ld_blt I hg hm boot_range (PyProof.Rows.callWith_type1 (thn (ha pos pins s σ H _ I h) fun us s1 ⟨vs, H1, I1, r1, q1⟩ => ?_) hs rfl))
  obtain ⟨j, e, q1, q2, q⟩ := q1
  subst e
  cases r1 with
  | cons r rr =>
    cases rr
    obtain ⟨t, rfl⟩ := r
    exact call_range_1 (range_it I1 (by omega) (by omega) q1 q2 (by simpa using q))
theorem pi_range2 {a b : Expr} {ta : TA} {p pos : Pos} (hg : Gl X "range") (hm : X.mg "range" = none) (ha : PA X [a, b] ta) (hs : starEach [a, b] X.env = [(false, eval a X.env), (false, eval b X.env)] := by rfl) (hs2 : starEach [b] X.env = [(false, eval b X.env)] := by rfl) :
    PI X tg (.Call (.Name "range" p) [a, b] [] pos) (iRng2 ta) := by
  intro pins s σ H R I h
  refine Call_ (ld_blt I hg hm boot_range (PyProof.Rows.callWith_type1 (thn (ha pos pins s σ H _ I h) fun us s1 ⟨vs, H1, I1, r1, q1⟩ => ?_) (by rw [hs, hs2]) (by rw [hs2]; rfl)))
  obtain ⟨i, j, e, ⟨q1, q2, q3, q4⟩, q⟩ := q1
  subst e
  cases r1 with
  | cons r rr =>
    cases rr with
    | cons r' rr =>
      cases rr
      obtain ⟨t, rfl⟩ := r
      obtain ⟨t', rfl⟩ := r'
      exact call_range_2 (range_it I1 q1 q2 q3 q4 q)
def tFor (wi : TI) (g : TG) (tb : TS) : TS := fun D σ H => wi σ H fun J H1 => ∃ W : Nat → Nat → St → Hp → Prop, (∃ m, W 0 m σ H1) ∧ ∀ i m σ H, W i m σ H →
  (J.stop i H ∧ D.nx σ H) ∨ (J.go i H ∧ ∃ N : St → Hp → Prop, (∀ σ' H', N σ' H' → ∃ m', m' < m ∧ W (i + 1) m' σ' H') ∧ ∀ x H', J.yld i H x H' → g x σ H' fun σ2 H2 => tb { D with nx := N, ct := N, bk := D.nx } σ2 H2)
def pinsAt (fp : List Addr) (h : Heap) : List (Addr × Obj) := fp.filterMap fun b => (h.get? b).map fun o => (b, o)
theorem mem_pinsAt {fp : List Addr} {h : Heap} {b : Addr} {o : Obj} (hb : b ∈ fp) (e : h.get? b = some o) : (b, o) ∈ pinsAt fp h := List.mem_filterMap.mpr ⟨b, hb, by rw [e]; rfl⟩
theorem of_pinsAt {fp : List Addr} {h : Heap} {p : Addr × Obj} (hp : p ∈ pinsAt fp h) : p.1 ∈ fp ∧ h.get? p.1 = some p.2 := by
  obtain ⟨b, hb, e⟩ := List.mem_filterMap.mp hp
  cases q : h.get? b with
  | none => rw [q] at e; cases e
  | some o =>
    rw [q] at e
    have e' : (b, o) = p := Option.some.inj e
    subst e'
    exact ⟨hb, q⟩
theorem Inv.pinned {pins : List (Addr × Obj)} {σ : St} {H : Hp} {s : Shared} {fp : List Addr} (I : Inv X pins σ H s) (hf : ∀ b ∈ fp, FpOk X pins H b) (ho : ∀ b ∈ fp, ∃ o, s.heap.get? b = some o ∧ ∀ v, o.data ≠ .cell v) : Inv X (pins ++ pinsAt fp s.heap) σ H s :=
  I.pins_of fun p hp => (List.mem_append.mp hp).elim (fun z => I.pin p (List.mem_append_right _ z)) fun z => by
    obtain ⟨hb, e⟩ := of_pinsAt z
    obtain ⟨f0, f1, f2, _⟩ := hf p.1 hb
    obtain ⟨o, e', d⟩ := ho p.1 hb
    rw [e] at e'; cases e'
    exact ⟨e, f0, f1, f2, d⟩
theorem Inv.unpinned {pins pl : List (Addr × Obj)} {σ : St} {H : Hp} {s : Shared} (I : Inv X (pins ++ pl) σ H s) : Inv X pins σ H s := I.pins_of fun p hp => I.pin p (List.mem_append_right _ (List.mem_append_left _ hp))
theorem ps_for {iter : Expr} {body : List Stmt} {wi : TI} {g : TG} {tb : TS} {pos : Pos} (hp : PassesOwn (model X.prog X.w) X.A X.env X.xe) (hc : X.calm = true) (hi : PI X tg iter wi) (hg : PG X tg g) (hb : PSs X body tb)
    (hs : ∀ x, foldedSetIterable iter X.env x = pure x := by intro _; rfl) : PS X (.For tg iter body [] pos) (tFor wi g tb) := by
  intro pins s σ H D I h
  refine wpAny_For (thn (hi pins s σ H _ I h) fun v s1 h1 => thn h1 fun itv s2 h2 => ?_) hs
  obtain ⟨it, fp, tn, J, H2, e, I2, T, st2, f2, W, ⟨m0, w0⟩, turn⟩ := h2
  subst e
  -- what stays true of the iterator's objects through the loop
  have stat : ∀ {H' : Hp}, (∀ b ∈ fp, H' b = none) → ∀ b ∈ fp, FpOk X pins H' b := fun hn b hb => ⟨hn b hb, (f2 b hb).2⟩
  refine codeAny_forLoop_any (fun n s' => ∃ i σ' H', Inv X pins σ' H' s' ∧ tn i s'.heap ∧ (∀ b ∈ fp, H' b = none) ∧ W i n σ' H') ?_ m0 ⟨0, σ, H2, I2, st2, fun b hb => (f2 b hb).1, w0⟩
  rintro n s3 ⟨i, σ3, H3, I3, st3, fr3, w3⟩
  rcases turn i n σ3 H3 w3 with ⟨stop, qn⟩ | ⟨go, N, hN, step⟩
  · refine wpAny_passesOwn hp (thn (T.done X rfl rfl rfl hc i pins s3 σ3 H3 X.xe I3 (stat fr3) st3 stop) fun r s4 ⟨hr, I4⟩ => ?_)
    subst hr
    exact wpAny_execs_nil ⟨σ3, H3, I4, qn⟩
  · refine wpAny_passesOwn hp (thn (T.item X rfl rfl rfl hc i pins s3 σ3 H3 X.xe I3 (stat fr3) st3 go) fun r s4 ⟨u, hr, h4⟩ => ?_)
    subst hr
    refine wpAny_passesOwn hp (thn h4 fun _ s5 ⟨x, H5, I5, r5, y5, st5, fr5⟩ => ?_)
    have I5' := I5.pinned (stat fr5) (T.obj _ _ st5)
    refine wpAny_passesOwn hp (thn (hg _ s5 σ3 H5 x u _ I5' r5 (step x H5 y5)) fun _ s6 ⟨σ6, H6, I6, q6⟩ => ?_)
    refine wpAny_passesOwn hp (thn (hb _ s6 σ6 H6 _ I6 q6) fun f s7 q7 => ?_)
    have again : ∀ {σ7 : St} {H7 : Hp}, Inv X (pins ++ pinsAt fp s5.heap) σ7 H7 s7 → N σ7 H7 → ∃ m, m < n ∧ ∃ i σ' H', Inv X pins σ' H' s7 ∧ tn i s7.heap ∧ (∀ b ∈ fp, H' b = none) ∧ W i m σ' H' := fun {σ7 H7} I7 n7 => by
      obtain ⟨m', hm, w7⟩ := hN σ7 H7 n7
      refine ⟨m', hm, i + 1, σ7, H7, I7.unpinned, T.keep _ _ _ st5 fun b hb o e => (I7.pin (b, o) (List.mem_append_right _ (List.mem_append_right _ (mem_pinsAt hb e)))).1, fun b hb => ?_, w7⟩
      obtain ⟨o, e, d⟩ := T.obj _ _ st5 b hb
      exact (I7.pin (b, o) (List.mem_append_right _ (List.mem_append_right _ (mem_pinsAt hb e)))).2.1
    cases f with
    | next => obtain ⟨σ7, H7, I7, n7⟩ := q7; exact again I7 n7
    | cont => obtain ⟨σ7, H7, I7, n7⟩ := q7; exact again I7 n7
    | brk => obtain ⟨σ7, H7, I7, q7⟩ := q7; exact ⟨σ7, H7, I7.unpinned, q7⟩
    | ret v => obtain ⟨x7, σ7, H7, I7, r7, q7⟩ := q7; exact ⟨x7, σ7, H7, I7.unpinned, r7, q7⟩
end
theorem for_list {K : PySem.W.Frag} {a : Addr} {xs : List V} {g : TG} {tb : TS} {D : Ends} {σ : St} {H : Hp} (Pv : Nat → St → Hp → Prop) (h0 : Pv 0 σ H) (hl : ∀ i σ H, i ≤ xs.length → Pv i σ H → SqL K H a xs)
    (hs : ∀ i x σ H, xs[i]? = some x → Pv i σ H → g x σ H fun σ2 H2 => tb { D with nx := Pv (i + 1), ct := Pv (i + 1), bk := D.nx } σ2 H2) (hd : ∀ σ H, Pv xs.length σ H → D.nx σ H) :
    ∃ W : Nat → Nat → St → Hp → Prop, (∃ m, W 0 m σ H) ∧ ∀ i m σ H, W i m σ H →
      ((Itl K a).stop i H ∧ D.nx σ H) ∨ ((Itl K a).go i H ∧ ∃ N : St → Hp → Prop, (∀ σ' H', N σ' H' → ∃ m', m' < m ∧ W (i + 1) m' σ' H') ∧ ∀ x H', (Itl K a).yld i H x H' → g x σ H' fun σ2 H2 => tb { D with nx := N, ct := N, bk := D.nx } σ2 H2) := by
  refine ⟨fun i m σ H => m = xs.length - i ∧ i ≤ xs.length ∧ Pv i σ H, ⟨xs.length, by simp, Nat.zero_le _, h0⟩, ?_⟩
  rintro i m σ H ⟨rfl, hi, p⟩
  have q := hl i σ H hi p
  by_cases hlt : i < xs.length
  · refine .inr ⟨⟨xs, xs[i], q, by simp [hlt]⟩, Pv (i + 1), fun σ' H' p' => ⟨xs.length - (i + 1), by omega, rfl, hlt, p'⟩, fun x H' y => ?_⟩
    obtain ⟨e, y⟩ := y
    subst e
    exact hs i x σ _ (y xs q) p
  · have e : i = xs.length := by omega
    subst e
    exact .inl ⟨⟨xs, q, Nat.le_refl _⟩, hd σ H p⟩
theorem for_range {lo : Int} {n : Nat} {g : TG} {tb : TS} {D : Ends} {σ : St} {H : Hp} (Pv : Nat → St → Hp → Prop) (h0 : Pv 0 σ H)
    (hs : ∀ i σ H, i < n → Pv i σ H → g (.int (lo + i)) σ H fun σ2 H2 => tb { D with nx := Pv (i + 1), ct := Pv (i + 1), bk := D.nx } σ2 H2) (hd : ∀ σ H, Pv n σ H → D.nx σ H) :
    ∃ W : Nat → Nat → St → Hp → Prop, (∃ m, W 0 m σ H) ∧ ∀ i m σ H, W i m σ H →
      ((Itr lo n).stop i H ∧ D.nx σ H) ∨ ((Itr lo n).go i H ∧ ∃ N : St → Hp → Prop, (∀ σ' H', N σ' H' → ∃ m', m' < m ∧ W (i + 1) m' σ' H') ∧ ∀ x H', (Itr lo n).yld i H x H' → g x σ H' fun σ2 H2 => tb { D with nx := N, ct := N, bk := D.nx } σ2 H2) := by
  refine ⟨fun i m σ H => m = n - i ∧ i ≤ n ∧ Pv i σ H, ⟨n, by simp, Nat.zero_le _, h0⟩, ?_⟩
  rintro i m σ H ⟨rfl, hi, p⟩
  by_cases hlt : i < n
  · refine .inr ⟨hlt, Pv (i + 1), fun σ' H' p' => ⟨n - (i + 1), by omega, rfl, hlt, p'⟩, fun x H' y => ?_⟩
    obtain ⟨e, y⟩ := y
    subst e y
    exact hs i σ _ hlt p
  · have e : i = n := by omega
    subst e
    exact .inl ⟨Nat.le_refl _, hd σ H p⟩
end L2
namespace L2
open PySem PySem.Spec PyProof.Rows
abbrev R2 := V → V → Hp → VK → Prop
def OpR (X : Cx) (f : Value → Value → Sem Value) (r : R2) : Prop :=
  ∀ (pins : List (Addr × Obj)) (s : Shared) (σ : St) (H : Hp) (x y : V) (v u : Value) (Q : VK), Inv X pins σ H s → RelV x v → RelV y u → r x y H Q →
    wpAny (model X.prog X.w) X.A (f v u) (EP X pins σ Q) X.xe s
def UnR (X : Cx) (f : Value → Sem Value) (r : V → Hp → VK → Prop) : Prop :=
  ∀ (pins : List (Addr × Obj)) (s : Shared) (σ : St) (H : Hp) (x : V) (v : Value) (Q : VK), Inv X pins σ H s → RelV x v → r x H Q →
    wpAny (model X.prog X.w) X.A (f v) (EP X pins σ Q) X.xe s
def CallR (X : Cx) (f : Value) (r : List V → Hp → VK → Prop) : Prop :=
  ∀ (pins : List (Addr × Obj)) (s : Shared) (σ : St) (H : Hp) (xs : List V) (us : List Value) (Q : VK), Inv X pins σ H s → Vals xs us → r xs H Q →
    wpAny (model X.prog X.w) X.A (call f us) (EP X pins σ Q) X.xe s
def tOp (r : R2) (ta tb : TE) : TE := fun σ H Q => ta σ H fun x H1 => tb σ H1 fun y H2 => r x y H2 Q
def tUn (r : V → Hp → VK → Prop) (ta : TE) : TE := fun σ H Q => ta σ H fun x H1 => r x H1 Q
def rI (C : Int → Int → Prop) (g : Int → Int → V) : R2 := fun x y H Q => ∃ i j, x = .int i ∧ y = .int j ∧ C i j ∧ Q (g i j) H
def rI0 (g : Int → Int → V) : R2 := fun x y H Q => ∃ i j, x = .int i ∧ y = .int j ∧ Q (g i j) H
def rU (g : Int → V) : V → Hp → VK → Prop := fun x H Q => ∃ i, x = .int i ∧ Q (g i) H
section
variable {X : Cx} {a b c : Expr} {ta tb tc : TE} {pos : Pos}
theorem binT (ha : PE X a ta) (hb : PE X b tb) {pins : List (Addr × Obj)} {s : Shared} {σ : St} {H : Hp} {R : V → V → Hp → Prop} (I : Inv X pins σ H s)
    (h : ta σ H fun x H1 => tb σ H1 fun y H2 => R x y H2) {Q : Value → Shared → Prop} {f : Value → Value → Sem Value}
    (hf : ∀ v u s2 x y H2, Inv X pins σ H2 s2 → RelV x v → RelV y u → R x y H2 → wpAny (model X.prog X.w) X.A (f v u) Q X.xe s2) :
    wpAny (model X.prog X.w) X.A (eval a X.env) (fun v s₁ => wpAny (model X.prog X.w) X.A (eval b X.env) (fun u s₂ => wpAny (model X.prog X.w) X.A (f v u) Q X.xe s₂) X.xe s₁) X.xe s := by
  refine thn (ha pins s σ H _ I h) fun v s1 ⟨x, H1, I1, r1, q1⟩ => ?_
  refine thn (hb pins s1 σ H1 _ I1 q1) fun u s2 ⟨y, H2, I2, r2, q2⟩ => ?_
  exact hf v u s2 x y H2 I2 r1 r2 q2
theorem pe_op {op : Operator} {r : R2} (ho : OpR X (binaryOp op) r) (ha : PE X a ta) (hb : PE X b tb) : PE X (.BinOp a op b pos) (tOp r ta tb) := by
  intro pins s σ H Q I h
  exact wpAny_BinOp (binT ha hb I h fun v u s2 x y H2 I2 rx ry q => ho pins s2 σ H2 x y v u Q I2 rx ry q)
theorem pe_un {op : UnaryOp} {r : V → Hp → VK → Prop} (ho : UnR X (unaryOp op) r) (ha : PE X a ta) : PE X (.UnaryOp op a pos) (tUn r ta) := by
  intro pins s σ H Q I h
  exact UnaryOp_ (thn (ha pins s σ H _ I h) fun v s1 ⟨x, H1, I1, r1, q1⟩ => ho pins s1 σ H1 x v Q I1 r1 q1)
theorem opI {f : Value → Value → Sem Value} {C : Int → Int → Prop} {g : Int → Int → Int}
    (rule : ∀ (i j : Int) (t u : Tok) (s : Shared) (Q : Value → Shared → Prop) (E : Value → Shared → Prop), C i j → Q (.int (g i j) s.toks) { s with toks := s.toks + 1 } → wpAny (model X.prog X.w) X.A (f (.int i t) (.int j u)) Q E s) :
    OpR X f (rI C fun i j => .int (g i j)) := by
  intro pins s σ H x y v u Q I rx ry h
  obtain ⟨i, j, rfl, rfl, hc, q⟩ := h
  obtain ⟨t, rfl⟩ := rx
  obtain ⟨t', rfl⟩ := ry
  exact rule i j t t' s _ _ hc ⟨.int (g i j), H, I.tok _, ⟨_, rfl⟩, q⟩
theorem opI0 {f : Value → Value → Sem Value} {g : Int → Int → Int}
    (rule : ∀ (i j : Int) (t u : Tok) (s : Shared) (Q : Value → Shared → Prop) (E : Value → Shared → Prop), Q (.int (g i j) s.toks) { s with toks := s.toks + 1 } → wpAny (model X.prog X.w) X.A (f (.int i t) (.int j u)) Q E s) :
    OpR X f (rI0 fun i j => .int (g i j)) := by
  intro pins s σ H x y v u Q I rx ry h
  obtain ⟨i, j, rfl, rfl, q⟩ := h
  obtain ⟨t, rfl⟩ := rx
  obtain ⟨t', rfl⟩ := ry
  exact rule i j t t' s _ _ ⟨.int (g i j), H, I.tok _, ⟨_, rfl⟩, q⟩
theorem opB0 {f : Value → Value → Sem Value} {g : Int → Int → Bool}
    (rule : ∀ (i j : Int) (t u : Tok) (s : Shared) (Q : Value → Shared → Prop) (E : Value → Shared → Prop), Q (.bool (g i j)) s → wpAny (model X.prog X.w) X.A (f (.int i t) (.int j u)) Q E s) :
    OpR X f (rI0 fun i j => .bl (g i j)) := by
  intro pins s σ H x y v u Q I rx ry h
  obtain ⟨i, j, rfl, rfl, q⟩ := h
  obtain ⟨t, rfl⟩ := rx
  obtain ⟨t', rfl⟩ := ry
  exact rule i j t t' s _ _ ⟨.bl (g i j), H, I, rfl, q⟩
def CMul (i j : Int) : Prop := (-(2 ^ 64) < i ∧ i < 2 ^ 64) ∨ (-(2 ^ 64) < j ∧ j < 2 ^ 64)
theorem CMul.ok {i j : Int} (h : CMul i j) : IntMulOk i j := by
  rcases h with ⟨h1, h2⟩ | ⟨h1, h2⟩
  · exact .of_left (intBits_le_64 h1 h2)
  · exact .of_right (intBits_le_64 h1 h2)
theorem op_add : OpR X (binaryOp .Add) (rI0 fun i j => .int (i + j)) := opI0 fun _ _ _ _ _ _ _ q => add_int q
theorem op_sub : OpR X (binaryOp .Sub) (rI0 fun i j => .int (i - j)) := opI0 fun _ _ _ _ _ _ _ q => sub_int q
theorem op_mul : OpR X (binaryOp .Mult) (rI CMul fun i j => .int (i * j)) := opI fun _ _ _ _ _ _ _ hc q => mul_int q hc.ok
theorem op_mod : OpR X (binaryOp .Mod) (rI (fun _ j => 0 < j) fun i j => .int (i % j)) := opI fun i j _ _ _ _ _ hc q => by
  have h1 : (0 : Int) < j := hc
  exact mod_int' (by omega) (by rw [Int.fmod_eq_emod_of_nonneg i (by omega)]; exact q)
theorem unI {f : Value → Sem Value} {g : Int → Int}
    (rule : ∀ (i : Int) (t : Tok) (s : Shared) (Q : Value → Shared → Prop) (E : Value → Shared → Prop), Q (.int (g i) s.toks) { s with toks := s.toks + 1 } → wpAny (model X.prog X.w) X.A (f (.int i t)) Q E s) :
    UnR X f (rU fun i => .int (g i)) := by
  intro pins s σ H x v Q I rx h
  obtain ⟨i, rfl, q⟩ := h
  obtain ⟨t, rfl⟩ := rx
  exact rule i t s _ _ ⟨.int (g i), H, I.tok _, ⟨_, rfl⟩, q⟩
theorem un_neg : UnR X (unaryOp .USub) (rU fun i => .int (-i)) := unI fun _ _ _ _ _ q => neg_int q
end
def scal : V → V → Bool
  | .non, .non => true | .non, .int _ => true | .int _, .non => true | .non, .bl _ => true | .bl _, .non => true | .non, .str _ => true | .str _, .non => true
  | .int _, .int _ => true | .bl _, .bl _ => true | .str _, .str _ => true | .byt _, .byt _ => true
  | .int _, .str _ => true | .str _, .int _ => true | .bl _, .str _ => true | .str _, .bl _ => true
  | _, _ => false
def rEq : R2 := fun x y H Q => scal x y = true ∧ Q (.bl (decide (x = y))) H
theorem dec_int {i j : Int} : decide (V.int i = V.int j) = (i == j) := by
  rw [Bool.eq_iff_iff]
  simp
theorem dec_bl {i j : Bool} : decide (V.bl i = V.bl j) = (i == j) := by
  rw [Bool.eq_iff_iff]
  simp
theorem dec_str {i j : Str} : decide (V.str i = V.str j) = (i == j) := by
  rw [Bool.eq_iff_iff]
  simp
theorem dec_byt {i j : Array UInt8} : decide (V.byt i = V.byt j) = (i.toList == j.toList) := by
  rw [Bool.eq_iff_iff]
  cases i
  cases j
  simp
section
variable {X : Cx} {a b c : Expr} {ta tb tc : TE} {pos : Pos}
theorem fin_bl {pins : List (Addr × Obj)} {σ : St} {H : Hp} {s : Shared} {Q : VK} {k k' : Bool} (I : Inv X pins σ H s) (q : Q (.bl k) H) (e : k = k') : EP X pins σ Q (.bool k') s := by
  subst e
  exact ⟨.bl k, H, I, rfl, q⟩
theorem op_eq : OpR X (compareOp .Eq) rEq := by
  intro pins s σ H x y v u Q I rx ry h
  obtain ⟨hs, q⟩ := h
  cases x with
  | non =>
    cases rx
    cases y with
    | non => cases ry; exact PySem.EqNone.eq_none_none (fin_bl I q (by simp))
    | bl j => cases ry; exact PySem.EqNone.eq_none_bool (fin_bl I q (by simp))
    | int j => obtain ⟨t', rfl⟩ := ry; exact PySem.EqNone.eq_none_int (fin_bl I q (by simp))
    | str j => obtain ⟨t', rfl⟩ := ry; exact PySem.EqNone.eq_none_str (fin_bl I q (by simp))
    | _ => exact absurd (show false = true from hs) Bool.false_ne_true
  | bl i =>
    cases rx
    cases y with
    | non => cases ry; exact PySem.EqNone.eq_bool_none (fin_bl I q (by simp))
    | bl j => cases ry; exact eq_bool (fin_bl I q dec_bl)
    | str j => obtain ⟨t', rfl⟩ := ry; exact PySem.EqMixed.eq_bool_str (fin_bl I q (by simp))
    | _ => exact absurd (show false = true from hs) Bool.false_ne_true
  | int i =>
    obtain ⟨t, rfl⟩ := rx
    cases y with
    | non => cases ry; exact PySem.EqNone.eq_int_none (fin_bl I q (by simp))
    | int j => obtain ⟨t', rfl⟩ := ry; exact eq_int (fin_bl I q dec_int)
    | str j => obtain ⟨t', rfl⟩ := ry; exact PySem.EqMixed.eq_int_str (fin_bl I q (by simp))
    | _ => exact absurd (show false = true from hs) Bool.false_ne_true
  | str i =>
    obtain ⟨t, rfl⟩ := rx
    cases y with
    | non => cases ry; exact PySem.EqNone.eq_str_none (fin_bl I q (by simp))
    | bl j => cases ry; exact PySem.EqMixed.eq_str_bool (fin_bl I q (by simp))
    | int j => obtain ⟨t', rfl⟩ := ry; exact PySem.EqMixed.eq_str_int (fin_bl I q (by simp))
    | str j => obtain ⟨t', rfl⟩ := ry; exact eq_str (fin_bl I q dec_str)
    | _ => exact absurd (show false = true from hs) Bool.false_ne_true
  | byt i =>
    obtain ⟨t, rfl⟩ := rx
    cases y with
    | byt j => obtain ⟨t', rfl⟩ := ry; exact PySem.W.eq_bytes (fin_bl I q dec_byt)
    | _ => exact absurd (show false = true from hs) Bool.false_ne_true
  | _ => cases y <;> exact absurd (show false = true from hs) Bool.false_ne_true
theorem op_lt : OpR X (compareOp .Lt) (rI0 fun i j => .bl (decide (i < j))) := opB0 fun _ _ _ _ _ _ _ q => lt_int q
theorem op_le : OpR X (compareOp .LtE) (rI0 fun i j => .bl (decide (i ≤ j))) := opB0 fun _ _ _ _ _ _ _ q => le_int q
theorem op_gt : OpR X (compareOp .Gt) (rI0 fun i j => .bl (decide (j < i))) := opB0 fun _ _ _ _ _ _ _ q => gt_int q
theorem op_ge : OpR X (compareOp .GtE) (rI0 fun i j => .bl (decide (j ≤ i))) := opB0 fun _ _ _ _ _ _ _ q => ge_int q
theorem OpR.or {f : Value → Value → Sem Value} {r r' : R2} (h : OpR X f r) (h' : OpR X f r') : OpR X f (fun x y H Q => r x y H Q ∨ r' x y H Q) := by
  intro pins s σ H x y v u Q I rx ry q
  rcases q with q | q
  · exact h pins s σ H x y v u Q I rx ry q
  · exact h' pins s σ H x y v u Q I rx ry q
theorem nomark (b : Expr) {op : CmpOp} (h : op ≠ .In := by decide) (h2 : op ≠ .NotIn := by decide) : behindInMarks op b = false := by
  have e1 : (op == CmpOp.In) = false := by cases op <;> first | rfl | exact absurd rfl h
  have e2 : (op == CmpOp.NotIn) = false := by cases op <;> first | rfl | exact absurd rfl h2
  cases b <;> simp [behindInMarks, e1, e2]
theorem pe_cmpR {op : CmpOp} {r : R2} (ho : OpR X (compareOp op) r) (ha : PE X a ta) (hb : PE X b tb) (hm : behindInMarks op b = false) : PE X (.Compare a [op] [b] pos) (tOp r ta tb) := by
  intro pins s σ H Q I h
  exact wpAny_Compare1 (binT ha hb I h fun v u s2 x y H2 I2 rx ry q => ho pins s2 σ H2 x y v u Q I2 rx ry q) hm
def tTest (t : TE) : TT := fun σ H Q => t σ H fun x H' => ∃ k, x = .bl k ∧ Q k H'
theorem pt_cmpR {op : CmpOp} {r : R2} (ho : OpR X (compareOp op) r) (ha : PE X a ta) (hb : PE X b tb) (hm : behindInMarks op b = false) : PT X (.Compare a [op] [b] pos) (tTest (tOp r ta tb)) := by
  intro pins s σ H Q I h
  refine wpAny_isTrue_Compare1 (thn (ha pins s σ H _ I h) fun v s1 ⟨x, H1, I1, r1, q1⟩ => thn (hb pins s1 σ H1 _ I1 q1) fun u s2 ⟨y, H2, I2, r2, q2⟩ =>
    thn (ho pins s2 σ H2 x y v u _ I2 r1 r2 q2) fun c s3 ⟨z, H3, I3, r3, k, e, q3⟩ => ?_) hm
  subst e
  cases r3
  exact wpAny_truthy_bool ⟨H3, I3, q3⟩
theorem line63 : (sizeLine : Nat) < 2 ^ 63 := by rw [sizeLine_eq]; decide
theorem vals1 {x : V} {us : List Value} (r : Vals [x] us) : ∃ u, us = [u] ∧ RelV x u := by
  cases r with
  | cons r1 r2 => cases r2; exact ⟨_, rfl, r1⟩
end
end L2
namespace L2
open PySem PySem.Spec PyProof.Rows
structure ObjM (h : Heap) (x dx C : Addr) (mA : Str → Option Value) : Prop where
  obj : h.get? x = some (PySem.W.instObj C dx)
  ns : h.Ns1 dx mA
  ne : dx ≠ x
theorem lookIn_ns {h : Heap} {dx : Addr} {mA : Str → Option Value} (n : h.Ns1 dx mA) : ∃ od, h.get? dx = some od ∧ ∀ name, PySem.W.lookIn name od = some (mA name) := by
  obtain ⟨o, es, ep, ho, hd, hk, _, hm⟩ := n
  refine ⟨o, ho, fun name => ?_⟩
  have e := hm name
  unfold nsFind findBy at e
  rw [← Array.find?_toList] at e
  unfold PySem.W.lookIn
  rw [hd]
  dsimp only
  split
  · rename_i y q
    rw [q] at e
    exact congrArg some e
  · rename_i q
    rw [q] at e
    have a : es.toList.any (·.refKey) = false := by
      rw [List.any_eq_false]
      intro y hy
      obtain ⟨z, t, hkey⟩ := hk y (Array.mem_toList_iff.mp hy)
      simp [DictEntry.refKey, hkey]
    have a' : ¬ es.toList.any (·.refKey) = true := by rw [a]; exact Bool.false_ne_true
    rw [if_neg a']
    exact congrArg some e
theorem ObjM.look {h : Heap} {x dx C : Addr} {mA : Str → Option Value} (I : ObjM h x dx C mA) : ∃ od, PySem.W.InstAt h x (PySem.W.instObj C dx) C (some od) ∧ ∀ name, PySem.W.lookIn name od = some (mA name) :=
  let ⟨od, ho, hl⟩ := lookIn_ns I.ns
  ⟨od, ⟨I.obj, rfl, rfl, ho⟩, hl⟩
section
variable {prog : Program} {w : World} {A : Around} {E : Value → Shared → Prop} {s : Shared} {K : PySem.W.Frag} {x dx C f : Addr} {mA : Str → Option Value} {name : Str} {v : Value}
theorem get_map {expr : Bool} {Q : Value → Shared → Prop} (X : K.In s.heap) (I : ObjM s.heap x dx C mA) (hg : PySem.W.plainGet K C name = true) (hh : PySem.W.hasDictIn K C = true)
    (ha : PySem.W.findIn K (.ref C) name = some none) (hv : mA name = some v) (hv' : PySem.W.handedIn v = true) (h : Q v { s with toks := s.toks + 1 }) :
    wpAny (model prog w) A (getAttr (.ref x) name expr) Q E s := by
  obtain ⟨od, J, hl⟩ := I.look
  exact PySem.W.get_value X J (PySem.W.plainGet_of hg).1 (PySem.W.findObj_own hh ha rfl (by rw [hl, hv])) hv' h
theorem get_meth {pl : Sem Bool} {Q : Value × List Value → Shared → Prop} (X : K.In s.heap) (I : ObjM s.heap x dx C mA) (hg : PySem.W.plainGet K C name = true)
    (hf : PySem.W.findIn K (.ref C) name = some (some (.ref f))) (ht : PySem.W.isFn K (.ref f) = true) (hv : mA name = none) (h : Q (.ref f, [.ref x]) s) :
    wpAny (model prog w) A (getMethod (.ref x) name pl) Q E s := by
  obtain ⟨od, J, hl⟩ := I.look
  exact PySem.W.method_fn X J (PySem.W.plainGet_of hg).1 (PySem.W.plainGet_of hg).2 hf (beq_iff_eq.mp ht) (by show (PySem.W.lookIn name od).map (·.isSome) = some false; rw [hl, hv]; rfl) h
theorem set_map {ns : List Str} {Q : Unit → Shared → Prop} (X : K.In s.heap) (I : ObjM s.heap x dx C mA)
    (hs : PySem.W.findIn K (.ref C) "__setattr__" = some (some (.builtin "object.__setattr__"))) (hp : PySem.W.plainOver K C = true) (ht : PySem.W.takerIn K C name = some none) (hh : PySem.W.hasDictIn K C = true)
    (hw : PySem.Within mA ns) (hsz : ns.length ≤ sizeLine)
    (h : ∀ h', ObjM h' x dx C (fun y => if y = name then some v else mA y) → Heap.SameBut dx s.heap h' → Q () { s with heap := h', toks := s.toks + 2 }) :
    wpAny (model prog w) A (setAttr (.ref x) name v) Q E s := by
  obtain ⟨od, J, hl⟩ := I.look
  refine PySem.W.set_plain X J hs (PySem.W.osa_open (s := { s with toks := s.toks + 1 }) (r := none) X J hp ht fun b => ?_)
  obtain ⟨cd, hc, hd'⟩ := PySem.W.any_some hh
  have hx : s.heap.get? x = some ⟨.ref C, some dx, .plain, #[]⟩ := I.obj
  refine wpAny_bind (wpAny_pure (wpAny_bind (wpAny_bind (wpAny_loadPart hx (wpAny_bind (PySem.W.Looks.here (s := { s with toks := s.toks + 1 }) (PySem.W.looks_clsIn X hc) ?_))))))
  rw [hd']
  refine wpAny_pure (a := some dx) (wpAny_bind (wpAny_pure (wpAny_bind ?_)))
  refine wpAny_nsSet1 (s := { s with toks := s.toks + 1 }) I.ns fun h' hn2 hs2 => ?_
  obtain ⟨oD, esD, epD, hoD, hdD, hcD⟩ := hn2.count (PySem.Within.cons name v hw)
  refine wpAny_bind (wpAny_lookBehind hoD (by rw [hdD]; exact pastItsLine_dict (Nat.le_trans hcD (by rw [List.length_cons]; omega))) ?_)
  exact wpAny_pure (h _ ⟨(hs2.2 _ (Ne.symm I.ne)).trans I.obj, hn2, I.ne⟩ hs2)
theorem make_map {R : Result → Shared → Prop} {vs : List Value} {kw : List (Str × Value)} (X : K.In s.heap) (hm : PySem.W.makesIn K C = true)
    (hi : PySem.W.findIn K (.ref C) "__init__" = some (some (.ref f))) (hf : PySem.W.typeIn K (.ref f) = some (.type "function"))
    (h : codeAny (model prog w) (A.under (.builtin "type.__call__" ⟨.ref C :: vs, kw⟩)) (.call (.ref f) ⟨.ref (s.heap.objs.size + 1) :: vs, kw⟩) (PySem.W.InitBack (s.heap.objs.size + 1) R)
      { s with heap := (s.heap.push PySem.W.emptyDict).push (PySem.W.instObj C s.heap.objs.size) }) :
    codeAny (model prog w) A (.call (.ref C) ⟨vs, kw⟩) R s := by
  obtain ⟨hh, g, d, t, os⟩ := s
  exact PySem.W.make_core (PySem.W.makes_of X hm) (PySem.W.looks_findIn X hi) (fun self => PySem.W.bind_fn X self hf) (.inl rfl) h
end
def putF (f : Str) (v : V) : List (Str × V) → List (Str × V)
  | [] => [(f, v)]
  | (g, x) :: r => if g = f then (g, v) :: r else (g, x) :: putF f v r
theorem lookup_putF (f g : Str) (v : V) : ∀ fs : List (Str × V), (putF f v fs).lookup g = if g = f then some v else fs.lookup g
  | [] => by
    show List.lookup g [(f, v)] = _
    by_cases h : g = f
    · have hb : (g == f) = true := beq_iff_eq.mpr h
      simp only [List.lookup, hb, if_pos h]
    · have hb : (g == f) = false := beq_eq_false_iff_ne.mpr h
      simp only [List.lookup, hb, if_neg h]
  | (k, x) :: r => by
    have ih := lookup_putF f g v r
    rw [show putF f v ((k, x) :: r) = (if k = f then (k, v) :: r else (k, x) :: putF f v r) from rfl]
    by_cases hk : k = f
    · rw [if_pos hk]
      by_cases h : g = k
      · have hb : (g == k) = true := beq_iff_eq.mpr h
        simp only [List.lookup, hb, if_pos (h.trans hk)]
      · have hb : (g == k) = false := beq_eq_false_iff_ne.mpr h
        simp only [List.lookup, hb, if_neg (fun e : g = f => h (e.trans hk.symm))]
    · rw [if_neg hk]
      by_cases h : g = k
      · have hb : (g == k) = true := beq_iff_eq.mpr h
        simp only [List.lookup, hb, if_neg (fun e : g = f => hk (h.symm.trans e))]
      · have hb : (g == k) = false := beq_eq_false_iff_ne.mpr h
        simp only [List.lookup, hb]
        exact ih
theorem keys_putF (f : Str) (v : V) : ∀ fs : List (Str × V), f ∈ (putF f v fs).map (·.1) ∧ ∀ g, g ∈ fs.map (·.1) → g ∈ (putF f v fs).map (·.1)
  | [] => ⟨by simp [putF], fun g h => by simp at h⟩
  | (k, x) :: r => by
    obtain ⟨i1, i2⟩ := keys_putF f v r
    rw [show putF f v ((k, x) :: r) = (if k = f then (k, v) :: r else (k, x) :: putF f v r) from rfl]
    by_cases hk : k = f
    · rw [if_pos hk]
      subst hk
      exact ⟨by simp, fun g h => by simpa using h⟩
    · rw [if_neg hk]
      refine ⟨?_, fun g h => ?_⟩
      · rw [List.map_cons]
        exact List.mem_cons_of_mem _ i1
      · rw [List.map_cons] at h ⊢
        rcases List.mem_cons.mp h with e | e
        · exact List.mem_cons.mpr (.inl e)
        · exact List.mem_cons_of_mem _ (i2 g e)
theorem length_putF (f : Str) (v : V) : ∀ fs : List (Str × V), (putF f v fs).length ≤ fs.length + 1
  | [] => by simp [putF]
  | (k, x) :: r => by
    have ih := length_putF f v r
    rw [show putF f v ((k, x) :: r) = (if k = f then (k, v) :: r else (k, x) :: putF f v r) from rfl]
    by_cases hk : k = f
    · rw [if_pos hk, List.length_cons, List.length_cons]; omega
    · rw [if_neg hk, List.length_cons, List.length_cons]; omega
theorem RelO.some_of {v : V} {o : Option Value} (r : RelO (some v) o) : ∃ u, o = some u ∧ RelV v u := by
  cases o with
  | none => exact (show False from r).elim
  | some u => exact ⟨u, rfl, r⟩
theorem RelO.none_of {o : Option Value} (r : RelO none o) : o = none := by
  cases o with
  | none => rfl
  | some u => exact (show False from r).elim
theorem handed_of {v : V} {u : Value} (r : RelV v u) : PySem.W.handedIn u = true := by
  cases v with
  | non => cases (show u = Value.none from r); rfl
  | bl b => cases (show u = Value.bool b from r); rfl
  | int i => obtain ⟨t, e⟩ := (show ∃ t, u = Value.int i t from r); cases e; rfl
  | str x => obtain ⟨t, e⟩ := (show ∃ t, u = Value.str x t from r); cases e; rfl
  | byt b => obtain ⟨t, e⟩ := (show ∃ t, u = Value.bytes b t from r); cases e; rfl
  | flt b => obtain ⟨t, e⟩ := (show ∃ t, u = Value.float b t from r); cases e; rfl
  | ref a => cases (show u = Value.ref a from r); rfl
  | ty n => cases (show u = Value.type n from r); rfl
section
variable {P : Program} {w : World} {H H' : Hp} {h h' : Heap} {a C dx : Addr} {fs fs' : List (Str × V)}
theorem ins_get (hok : HOk P w H h) (e : H a = some (.ins C dx fs)) : ∃ mA, ObjM h a dx C mA ∧ (∀ f, RelO (fs.lookup f) (mA f)) ∧ PySem.Within mA (fs.map (·.1)) ∧ fs.length ≤ 1000 ∧ H dx = some (.own a) := by
  obtain ⟨d, z, ne, ob, mA, n, r, q⟩ := (show ObjOk P w H h a (.ins C dx fs) from hok a _ e)
  exact ⟨mA, ⟨ob, n, ne⟩, r, q, z, d⟩
end
structure Cls (K : PySem.W.Frag) (C : Addr) : Prop where
  pg : PySem.W.plainGet K C Str.empty = true
  hd : PySem.W.hasDictIn K C = true
  po : PySem.W.plainOver K C = true
  sa : PySem.W.findIn K (.ref C) "__setattr__" = some (some (.builtin "object.__setattr__"))
theorem Cls.get {K : PySem.W.Frag} {C : Addr} (c : Cls K C) (f : Str) : PySem.W.plainGet K C f = true := c.pg
def NoAttr (K : PySem.W.Frag) (C : Addr) (f : Str) : Prop := PySem.W.findIn K (.ref C) f = some none
theorem NoAttr.taker {K : PySem.W.Frag} {C : Addr} {f : Str} (n : NoAttr K C f) : PySem.W.takerIn K C f = some none := by
  unfold PySem.W.takerIn
  rw [show PySem.W.findIn K (.ref C) f = some none from n]
  rfl
structure Meth (K : PySem.W.Frag) (C : Addr) (m : Str) (f : Addr) : Prop where
  at_ : PySem.W.findIn K (.ref C) m = some (some (.ref f))
  fn : PySem.W.isFn K (.ref f) = true
  kp : PySem.W.keepIn K (.ref f) = true
section
variable {X : Cx} {pins : List (Addr × Obj)} {σ : St} {H : Hp} {s : Shared} {a C dx : Addr} {fs : List (Str × V)} {f : Str} {v : V} {A : Around} {E : Value → Shared → Prop}
theorem getattr_ok {b : Bool} {Q : Value → Shared → Prop} (I : Inv X pins σ H s) (e : H a = some (.ins C dx fs)) (c : Cls X.K C) (n : NoAttr X.K C f) (l : fs.lookup f = some v)
    (h : ∀ u s', Inv X pins σ H s' → RelV v u → Q u s') : wpAny (model X.prog X.w) A (getAttr (.ref a) f b) Q E s := by
  obtain ⟨mA, O, r, _, _, _⟩ := ins_get I.hok e
  obtain ⟨u, hu, ru⟩ := RelO.some_of (v := v) (o := mA f) (by rw [← l]; exact r f)
  exact get_map I.kIn O (c.get f) c.hd n hu (handed_of ru) (h u _ (I.tok _) ru)
theorem getmeth_ok {m : Str} {g : Addr} {pl : Sem Bool} {Q : Value × List Value → Shared → Prop} (I : Inv X pins σ H s) (e : H a = some (.ins C dx fs)) (c : Cls X.K C) (k : Meth X.K C m g) (l : fs.lookup m = none)
    (h : Q (.ref g, [.ref a]) s) : wpAny (model X.prog X.w) A (getMethod (.ref a) m pl) Q E s := by
  obtain ⟨mA, O, r, _, _, _⟩ := ins_get I.hok e
  have hn : mA m = none := RelO.none_of (by rw [← l]; exact r m)
  exact get_meth I.kIn O (c.get m) k.at_ k.fn hn h
theorem setattr_ok {y : V} {u : Value} {Q : Unit → Shared → Prop} (I : Inv X pins σ H s) (e : H a = some (.ins C dx fs)) (c : Cls X.K C) (n : NoAttr X.K C f) (hl : fs.length < 1000) (ry : RelV y u)
    (h : ∀ s', Inv X pins σ (upd H a (.ins C dx (putF f y fs))) s' → Q () s') : wpAny (model X.prog X.w) A (setAttr (.ref a) f u) Q E s := by
  obtain ⟨mA, O, r, wi, _, ho⟩ := ins_get I.hok e
  have hz : (fs.map (·.1)).length ≤ sizeLine := by rw [List.length_map, sizeLine_eq]; omega
  refine set_map I.kIn O c.sa c.po n.taker c.hd wi hz fun h' O' sb => h _ ?_
  have hd : ∃ o, h'.get? dx = some o := let ⟨o, _, _, e', _⟩ := O'.ns; ⟨o, e'⟩
  refine I.write (x := a) (e := dx) (by rw [e]; exact True.intro) (.inr ho) (fun b q hb z => (sb.2 b hb).trans z) hd ?_
  refine ⟨by rw [upd_ne O.ne]; exact ho, ?_, O.ne, O'.obj, _, O'.ns, fun g => ?_, fun g hg => ?_⟩
  · have := length_putF f y fs; omega
  · show RelO ((putF f y fs).lookup g) (if g = f then some u else mA g)
    rw [lookup_putF]
    by_cases q : g = f
    · rw [if_pos q, if_pos q]; exact ry
    · rw [if_neg q, if_neg q]; exact r g
  · by_cases q : g = f
    · rw [q]; exact (keys_putF f y fs).1
    · refine (keys_putF f y fs).2 g (wi g fun z => hg ?_)
      show (if g = f then some u else mA g) = none
      rw [if_neg q]; exact z
theorem Inv.made (I : Inv X pins σ H s) : Inv X pins σ (upd (upd H s.heap.objs.size (.own (s.heap.objs.size + 1))) (s.heap.objs.size + 1) (.ins C s.heap.objs.size []))
    { s with heap := (s.heap.push PySem.W.emptyDict).push (PySem.W.instObj C s.heap.objs.size) } := by
  have e1 : (s.heap.push PySem.W.emptyDict).get? s.heap.objs.size = some PySem.W.emptyDict := Heap.get?_push_size s.heap rfl
  have e2 : ((s.heap.push PySem.W.emptyDict).push (PySem.W.instObj C s.heap.objs.size)).get? (s.heap.objs.size + 1) = some (PySem.W.instObj C s.heap.objs.size) := by
    have := Heap.get?_push_size (s.heap.push PySem.W.emptyDict) (o := PySem.W.instObj C s.heap.objs.size) rfl
    rwa [Heap.size_push] at this
  have e3 : (s.heap.push PySem.W.emptyDict).Ns s.heap.objs.size (fun _ => none) := ⟨PySem.W.emptyDict, #[], _, e1, rfl, (fun e he => absurd he (by simp)), fun _ => rfl⟩
  have I1 := I.laid (a := s.heap.objs.size) (o := .own (s.heap.objs.size + 1)) (h' := s.heap.push PySem.W.emptyDict) (t' := s.toks) (fun b u q => Heap.get?_push_of_some _ q) (Nat.le_refl _) ⟨_, e1⟩
  refine I1.laid (a := s.heap.objs.size + 1) (o := .ins C s.heap.objs.size []) (t' := s.toks) (fun b u q => Heap.get?_push_of_some _ q) (Nat.le_of_eq (Heap.size_push _ _)) ?_
  have ne : s.heap.objs.size ≠ s.heap.objs.size + 1 := Nat.ne_of_lt (Nat.lt_succ_self _)
  refine ⟨by rw [upd_ne ne, upd_same], Nat.zero_le _, ne, e2, fun _ => none, (Heap.Ns1.of_empty e3).at fun o q => Heap.get?_push_of_some _ q, fun _ => True.intro, fun y hy => absurd rfl hy⟩
theorem attr_of {prog : Program} {w : World} {env : Env} {e : Expr} {f : Str} {pos : Pos} {s : Shared} {Q : Value → Shared → Prop} (hb : attributeBase e f env (eval e env) = eval e env)
    (h : wpAny (model prog w) A (eval e env) (fun o s₁ => wpAny (model prog w) A (getAttr o f true) Q E s₁) E s) : wpAny (model prog w) A (eval (.Attribute e f pos) env) Q E s :=
  Attribute_any_ h (by rw [arm_eval_Attribute, hb])
end
def tFld (K : PySem.W.Frag) (ta : TE) (f : Str) : TE := fun σ H Q => ta σ H fun x H1 => ∃ a C dx fs v, x = .ref a ∧ H1 a = some (.ins C dx fs) ∧ Cls K C ∧ NoAttr K C f ∧ fs.lookup f = some v ∧ Q v H1
def sFld (K : PySem.W.Frag) (ta tv : TE) (f : Str) : TS := fun D σ H => tv σ H fun y H1 => ta σ H1 fun x H2 => ∃ a C dx fs, x = .ref a ∧ H2 a = some (.ins C dx fs) ∧ Cls K C ∧ NoAttr K C f ∧ fs.length < 1000 ∧
  D.nx σ (upd H2 a (.ins C dx (putF f y fs)))
section
variable {X : Cx} {o e value : Expr} {f : Str} {pos pos' tpos : Pos} {ta tv : TE}
theorem pe_fld (he : PE X e ta) (hb : attributeBase e f X.env (eval e X.env) = eval e X.env) : PE X (.Attribute e f pos) (tFld X.K ta f) := by
  intro pins s σ H Q I h
  refine attr_of hb (thn (he pins s σ H _ I h) fun u s1 ⟨x, H1, I1, rx, a, C, dx, fs, v, ex, ea, c, n, l, q⟩ => ?_)
  subst ex
  obtain rfl : u = Value.ref a := rx
  exact getattr_ok I1 ea c n l fun u' s2 I2 ru => ⟨v, H1, I2, ru, q⟩
theorem ps_fld (ha : PE X o ta) (hv : PE X value tv) (hs : swapsWith value (some (.Attribute o f pos')) pos.line X.env = pure false) : PS X (.Assign [.Attribute o f pos'] value pos) (sFld X.K ta tv f) := by
  intro pins s σ H D I h
  refine plainObj_wpAny_Assign_Attribute (thn (hv pins s σ H _ I h) fun u s1 ⟨y, H1, I1, ry, q⟩ => thn (ha pins s1 σ H1 _ I1 q) fun ov s2 ⟨x, H2, I2, rx, a, C, dx, fs, ex, ea, c, n, l, q2⟩ => ?_) hs
  subst ex
  obtain rfl : ov = Value.ref a := rx
  exact setattr_ok I2 ea c n l ry fun s3 I3 => ⟨σ, _, I3, q2⟩
end
section
variable {X : Cx} {pins : List (Addr × Obj)} {σ : St} {H : Hp} {s : Shared} {A : Around} {E : Value → Shared → Prop} {Q : Value → Shared → Prop} {c : Value} {b : Bool}
end
end L2
namespace L2
open PySem PySem.Spec PyProof.Rows
structure Room (k : Nat) (A : Around) : Prop where
  hd : A.handled = none
  dp : A.depth + 3 * k + 5 < recursionLimit
  un : A.units + 16 * k + 200 < cLine
theorem Room.mono {j k : Nat} {A : Around} (r : Room k A) (h : j ≤ k) : Room j A := ⟨r.hd, by have := r.dp; omega, by have := r.un; omega⟩
theorem Room.deeper {k : Nat} {A : Around} (r : Room (k + 1) A) (env : Env) : Room k (A.deeper env) :=
  ⟨r.hd, by have := r.dp; show A.depth + 1 + 3 * k + 5 < _; omega, by have := r.un; show A.units + 3 + 16 * k + 200 < _; omega⟩
theorem Room.in1 {k : Nat} {A : Around} (r : Room (k + 1) A) : Room k A.in1 :=
  ⟨r.hd, by have := r.dp; show A.depth + 3 * k + 5 < _; omega, by have := r.un; show A.units + 1 + 16 * k + 200 < _; omega⟩
theorem make_depth {A : Around} {C : Addr} {us : List Value} {kw : List (Str × Value)} : (A.under (.builtin "type.__call__" ⟨.ref C :: us, kw⟩)).depth = A.depth + 1 := by
  first | rfl | simp [Around.under, Code.weight, Code.isCreation, Code.isGuard, Code.isCaller, Code.frames, Code.isFrame, guardIds]
theorem make_units {A : Around} {C : Addr} {us : List Value} {kw : List (Str × Value)} : (A.under (.builtin "type.__call__" ⟨.ref C :: us, kw⟩)).units = A.units + 1 := by
  first | rfl | simp [Around.under, Code.cUnits, Code.frames, Code.isFrame]
theorem Room.make {k : Nat} {A : Around} (r : Room (k + 1) A) (C : Addr) (us : List Value) (kw : List (Str × Value)) : Room k (A.under (.builtin "type.__call__" ⟨.ref C :: us, kw⟩)) :=
  ⟨r.hd, by have := r.dp; rw [make_depth]; omega, by have := r.un; rw [make_units]; omega⟩
theorem Room.depth {k : Nat} {A : Around} (r : Room k A) : A.depth < recursionLimit := by have := r.dp; omega
theorem Room.units {k : Nat} {A : Around} (r : Room k A) : A.units + 64 < cLine := by have := r.un; omega
def tNil : TA := fun _ H Q => Q [] H
def tCons (ta : TE) (tr : TA) : TA := fun σ H Q => ta σ H fun x H1 => tr σ H1 fun xs H2 => Q (x :: xs) H2
section
variable {X : Cx} {e : Expr} {es : List Expr} {te : TE} {t : TA} {pos : Pos}
theorem pa_nil : PA X [] tNil := fun _ _ _ _ H Q I h => Calls.spliced_nil ⟨[], H, I, .nil, h⟩
theorem pa_cons (ha : PE X e te) (hr : PA X es t) (hs : starEach (e :: es) X.env = (false, eval e X.env) :: starEach es X.env := by rfl) : PA X (e :: es) (tCons te t) := by
  intro pos pins s σ H Q I h
  rw [hs]
  show wpAny _ _ (spliced ((false, eval e X.env) :: backTo pos (starEach es X.env))) _ _ s
  refine Calls.spliced_cons (thn (ha pins s σ H _ I h) fun u s1 ⟨x, H1, I1, r1, q1⟩ => ?_)
  exact thn (hr pos pins s1 σ H1 _ I1 q1) fun us s2 ⟨xs, H2, I2, r2, q2⟩ => ⟨x :: xs, H2, I2, .cons r1 r2, q2⟩
def tTup (t : TA) : TE := fun σ H Q => t σ H fun xs H1 => xs.length ≤ sizeLine ∧ ∀ p, H1 p = none → Q (.ref p) (upd H1 p (.tup xs))
def tLst (t : TA) : TE := fun σ H Q => t σ H fun xs H1 => xs.length ≤ sizeLine ∧ ∀ p, H1 p = none → Q (.ref p) (upd H1 p (.lst xs))
theorem pe_tup {x1} (h : PA X es t) : PE X (.Tuple es x1 pos) (tTup t) := by
  intro pins s σ H Q I hq
  refine wpAny_Tuple_spliced (thn (h pos pins s σ H _ I hq) fun us s1 ⟨xs, H1, I1, r, z, q⟩ => ⟨by rw [← r.length]; exact z, ?_⟩)
  have hf : H1 s1.heap.objs.size = none := I1.hok.fresh (Nat.le_refl _)
  refine ⟨.ref s1.heap.objs.size, upd H1 s1.heap.objs.size (.tup xs), I1.laid (t' := s1.toks) (fun b u e => Heap.get?_push_of_some _ e) (Nat.le_refl _) ?_, rfl, q _ hf⟩
  exact ⟨z, us, r, ⟨_, Heap.get?_push_size _ rfl, rfl, _, rfl⟩⟩
theorem pe_lst (h : PA X es t) : PE X (.List es pos) (tLst t) := by
  intro pins s σ H Q I hq
  refine wpAny_List_spliced (thn (h pos pins s σ H _ I hq) fun us s1 ⟨xs, H1, I1, r, z, q⟩ => ⟨by rw [← r.length]; exact z, ?_⟩)
  have hf : H1 s1.heap.objs.size = none := I1.hok.fresh (Nat.le_refl _)
  refine ⟨.ref s1.heap.objs.size, upd H1 s1.heap.objs.size (.lst xs), I1.laid (t' := s1.toks) (fun b u e => Heap.get?_push_of_some _ e) (Nat.le_refl _) ?_, rfl, q _ hf⟩
  exact ⟨z, us, 0, r, Heap.get?_push_size _ rfl⟩
end
abbrev Sp := List V → Hp → VK → XK → Prop
abbrev CXT := List Env → Hp → Shared → XK → Value → Shared → Prop
structure Env0 (P : Program) (w : World) (K : PySem.W.Frag) (mg : Str → Option Value) (base : Heap) (A : Around) (outer : List Env) (s : Shared) (H : Hp) : Prop where
  frames : A.frames = some outer
  mod : Mod K mg base
  bs : ∀ b o, base.get? b = some o → s.heap.get? b = some o ∧ H b = none
  bsz : base.objs.size ≤ s.heap.objs.size
  funs : s.heap.FunFrames base outer
  frf : ∀ b ∈ frs outer, H b = none
  hok : HOk P w H s.heap
  bare : AllBare s.gens
def CE (outer : List Env) (P : Program) (w : World) (H : Hp) (s : Shared) (Q : VK) (u : Value) (s' : Shared) : Prop :=
  ∃ v H', s'.os = s.os ∧ AllBare s'.gens ∧ Un (frs outer) [] H H' s.heap s'.heap ∧ HOk P w H' s'.heap ∧ RelV v u ∧ Q v H'
def CR (CX : CXT) (outer : List Env) (P : Program) (w : World) (H : Hp) (s : Shared) (Q : VK) (E : XK) (r : Result) (s' : Shared) : Prop :=
  match r with
  | .ok (.ret u) => CE outer P w H s Q u s'
  | .ok _ => False
  | .error e => CX outer H s E e s'
structure FnOk (P : Program) (w : World) (K : PySem.W.Frag) (mg : Str → Option Value) (base : Heap) (CX : CXT) (k : Nat) (f : Addr) (fd : FuncData) (ps : List Str) (sp : Sp) : Prop where
  len : ∀ vs H Q E, sp vs H Q E → vs.length = ps.length
  run : ∀ (A : Around) (outer : List Env) (s : Shared) (H : Hp) (args : Args) (us : List Value) (vs : List V) (Q : VK) (E : XK), Room k A → Env0 P w K mg base A outer s H → BindsTo s fd args (ps.zip us) → Vals vs us → sp vs H Q E →
    codeAny (model P w) A (.call (.ref f) args) (CR CX outer P w H s Q E) s
theorem FnOk.mono {P : Program} {w : World} {K : PySem.W.Frag} {mg : Str → Option Value} {base : Heap} {CX : CXT} {j k : Nat} {f : Addr} {fd : FuncData} {ps : List Str} {sp : Sp} (F : FnOk P w K mg base CX j f fd ps sp) (h : j ≤ k) :
    FnOk P w K mg base CX k f fd ps sp := ⟨F.len, fun A outer s H args us vs Q E hr => F.run A outer s H args us vs Q E (hr.mono h)⟩
theorem FnOk.imp {P : Program} {w : World} {K : PySem.W.Frag} {mg : Str → Option Value} {base : Heap} {CX : CXT} {k : Nat} {f : Addr} {fd : FuncData} {ps : List Str} {sp sp' : Sp} (F : FnOk P w K mg base CX k f fd ps sp)
    (h : ∀ vs H Q E, sp' vs H Q E → sp vs H Q E) : FnOk P w K mg base CX k f fd ps sp' :=
  ⟨fun vs H Q E q => F.len vs H Q E (h _ _ _ _ q), fun A outer s H args us vs Q E hr he hb hv hs => F.run A outer s H args us vs Q E hr he hb hv (h _ _ _ _ hs)⟩
theorem Env0.make {P : Program} {w : World} {K : PySem.W.Frag} {mg : Str → Option Value} {base : Heap} {A : Around} {outer : List Env} {s : Shared} {H : Hp} (e : Env0 P w K mg base A outer s H) (C : Addr) (us : List Value) (kw : List (Str × Value)) :
    Env0 P w K mg base (A.under (.builtin "type.__call__" ⟨.ref C :: us, kw⟩)) outer s H := ⟨by first | exact e.frames | (simpa [Around.under, Code.envs, Code.isFrame, pushEnvs] using e.frames), e.mod, e.bs, e.bsz, e.funs, e.frf, e.hok, e.bare⟩
theorem Env0.in1 {P : Program} {w : World} {K : PySem.W.Frag} {mg : Str → Option Value} {base : Heap} {A : Around} {outer : List Env} {s : Shared} {H : Hp} (e : Env0 P w K mg base A outer s H) :
    Env0 P w K mg base A.in1 outer s H := ⟨e.frames, e.mod, e.bs, e.bsz, e.funs, e.frf, e.hok, e.bare⟩
section
variable {X : Cx} {pins : List (Addr × Obj)} {σ : St} {H : Hp} {s s' : Shared}
theorem Inv.env0 (I : Inv X pins σ H s) : Env0 X.prog X.w X.K X.mg X.base X.A X.stack s H :=
  ⟨I.ok.frames, I.ok.mod, I.bs, Nat.le_trans I.ok.bsz I.sz, I.stack, I.stkFree, I.hok, I.bare⟩
theorem Inv.after {Q : VK} {u : Value} (I : Inv X pins σ H s) (h : CE X.stack X.prog X.w H s Q u s') : EP X pins σ Q u s' := by
  obtain ⟨v, H', os, bare, un, hok, r, q⟩ := h
  obtain ⟨hh, g, d, t, os'⟩ := s'
  obtain rfl : os' = s.os := os
  exact ⟨v, H', I.call (h' := hh) (g' := g) (d' := d) (t' := t) (ch := []) un hok bare (fun b z => absurd z (by simp)), r, q⟩
end
def tCall (sp : Sp) (dvs : List V) (E : XK) (t : TA) : TE := fun σ H Q => t σ H fun vs H1 => sp (vs ++ dvs) H1 Q E
def tMeth (C : Addr) (m : Str) (sp : Sp) (dvs : List V) (E : XK) (ta : TE) (t : TA) : TE := fun σ H Q => ta σ H fun x H1 => ∃ a dx fs, x = .ref a ∧ H1 a = some (.ins C dx fs) ∧ fs.lookup m = none ∧
  t σ H1 fun vs H2 => sp (x :: (vs ++ dvs)) H2 Q E
def tMake (C : Addr) (sp : Sp) (dvs : List V) (E : XK) (t : TA) : TE := fun σ H Q => t σ H fun vs H1 => ∀ x dx, H1 x = none → H1 dx = none → dx ≠ x →
  sp (.ref x :: (vs ++ dvs)) (upd (upd H1 dx (.own x)) x (.ins C dx [])) (fun v H2 => v = .non ∧ Q (.ref x) H2) E
def Binds (K : PySem.W.Frag) (fd : FuncData) (ps : List Str) (ds : List Value) : Prop :=
  ∀ (s : Shared) (us : List Value), K.In s.heap → (us ++ ds).length = ps.length → BindsTo s fd ⟨us, []⟩ (ps.zip (us ++ ds))
theorem Binds.all {K : PySem.W.Frag} {fd : FuncData} {ps : List Str} (h : ∀ us : List Value, us.length = ps.length → bindArgs fd ⟨us, []⟩ = pure (ps.zip us)) : Binds K fd ps [] := fun s us _ hl => by
  rw [List.append_nil] at hl ⊢
  exact .of_eq (h us hl)
def Passes (CX : CXT) (X : Cx) (E : XK) : Prop := ∀ (pins : List (Addr × Obj)) (σ : St) (H : Hp) (s : Shared) (e : Value) (s' : Shared), Inv X pins σ H s → CX X.stack H s E e s' → X.xe e s'
section
variable {X : Cx} {CX : CXT} {k : Nat} {f C : Addr} {fd : FuncData} {ps : List Str} {sp : Sp} {dvs : List V} {ds : List Value} {E : XK} {x m : Str} {p pos apos : Pos} {e o : Expr} {es : List Expr} {ta : TE} {t : TA}
theorem run_fn {pins : List (Addr × Obj)} {σ : St} {H : Hp} {s : Shared} {Q : VK} {us : List Value} {vs : List V} (F : FnOk X.prog X.w X.K X.mg X.base CX k f fd ps sp) (hr : Room k X.A) (hb : Binds X.K fd ps ds) (hd : Vals dvs ds) (hx : Passes CX X E)
    (I : Inv X pins σ H s) (r : Vals vs us) (h : sp (vs ++ dvs) H Q E) : wpAny (model X.prog X.w) X.A (call (.ref f) us) (EP X pins σ Q) X.xe s := by
  have r2 : Vals (vs ++ dvs) (us ++ ds) := r.append hd
  have hl : (us ++ ds).length = ps.length := by rw [← r2.length]; exact F.len _ _ _ _ h
  refine wpAny_call (codeAny_mono (F.run X.A X.stack s H ⟨us, []⟩ (us ++ ds) (vs ++ dvs) Q E hr I.env0 (hb s us I.kIn hl) r2 h) fun r s' hq => ?_)
  cases r with
  | error e => exact hx pins σ H s e s' I hq
  | ok fl =>
    cases fl with
    | ret u => exact I.after hq
    | next => exact False.elim hq
    | brk => exact False.elim hq
    | cont => exact False.elim hq
theorem pe_call (F : FnOk X.prog X.w X.K X.mg X.base CX k f fd ps sp) (hr : Room k X.A) (hg : Gl X x) (hm : X.mg x = some (.ref f)) (hk : PySem.W.keepIn X.K (.ref f) = true) (hb : Binds X.K fd ps ds) (hd : Vals dvs ds) (hx : Passes CX X E)
    (ha : PA X (e :: es) t) (hdb : (x == ("__debug__" : Str)) = false := by decide) (he : starEach (e :: es) X.env = (false, eval e X.env) :: starEach es X.env := by rfl) (hpl : (backTo pos (starEach es X.env)).any (·.1) = false := by rfl) :
    PE X (.Call (.Name x p) (e :: es) [] pos) (tCall sp dvs E t) := by
  intro pins s σ H Q I h
  refine wpAny_Call_Name_kw (ld_glob I hg hm ?_ hdb)
  refine PySem.W.callWith_K (h₀ := X.base) I.ok.mod.kin hk (thn (ha pos pins s σ H _ I h) fun us s1 ⟨vs, H1, I1, r, q⟩ => ⟨I1.kIn, ?_⟩) he hpl
  exact run_fn F hr hb hd hx I1 r q
theorem pe_meth {pl : Sem Bool} (he : PE X o ta) (c : Cls X.K C) (hm : Meth X.K C m f) (F : FnOk X.prog X.w X.K X.mg X.base CX k f fd ps sp) (hr : Room k X.A) (hb : Binds X.K fd ps ds) (hd : Vals dvs ds) (hx : Passes CX X E) (ha : PA X (e :: es) t)
    (hst : starEach (e :: es) X.env = (false, eval e X.env) :: starEach es X.env := by rfl) (hpl : (backTo pos (starEach es X.env)).any (·.1) = false := by rfl)
    (ht : eval (.Call (.Attribute o m apos) (e :: es) [] pos) X.env = (do
      let ov ← eval o X.env
      standAt apos.atName
      let (f, first) ← holding [ov] (getMethod ov m pl)
      callWith pos f first (backTo pos (starEach (e :: es) X.env)) (backToKw pos (keywordEach [] X.env))) := by rfl) :
    PE X (.Call (.Attribute o m apos) (e :: es) [] pos) (tMeth C m sp dvs E ta t) := by
  intro pins s σ H Q I h
  refine PySem.W.methodCall_KW (pl := pl) (thn (he pins s σ H _ I h) fun u s1 ⟨x, H1, I1, rx, a, dx, fs, ex, ea, l, q⟩ => ?_) ht
  subst ex
  obtain rfl : u = Value.ref a := rx
  refine getmeth_ok I1 ea c hm l ?_
  refine PySem.W.callWith_K (first := [.ref a]) (h₀ := X.base) I.ok.mod.kin hm.kp (thn (ha pos pins s1 σ H1 _ I1 q) fun us s2 ⟨vs, H2, I2, r, q2⟩ => ⟨I2.kIn, ?_⟩) hst hpl
  exact run_fn (us := .ref a :: us) (vs := .ref a :: vs) F hr hb hd hx I2 (.cons rfl r) q2
theorem pe_meth0 {pl : Sem Bool} (he : PE X o ta) (c : Cls X.K C) (hm : Meth X.K C m f) (F : FnOk X.prog X.w X.K X.mg X.base CX k f fd ps sp) (hr : Room k X.A) (hb : Binds X.K fd ps ds) (hd : Vals dvs ds) (hx : Passes CX X E)
    (ht : eval (.Call (.Attribute o m apos) [] [] pos) X.env = (do
      let ov ← eval o X.env
      standAt apos.atName
      let (f, first) ← holding [ov] (getMethod ov m pl)
      callWith pos f first (backTo pos (starEach [] X.env)) (backToKw pos (keywordEach [] X.env))) := by rfl) :
    PE X (.Call (.Attribute o m apos) [] [] pos) (tMeth C m sp dvs E ta tNil) := by
  intro pins s σ H Q I h
  refine PySem.W.methodCall_KW (pl := pl) (thn (he pins s σ H _ I h) fun u s1 ⟨x, H1, I1, rx, a, dx, fs, ex, ea, l, q⟩ => ?_) ht
  subst ex
  obtain rfl : u = Value.ref a := rx
  refine getmeth_ok I1 ea c hm l ?_
  exact PySem.W.callWith_K0 (first := [.ref a]) I1.kIn hm.kp (run_fn (us := [.ref a]) (vs := [.ref a]) F hr hb hd hx I1 (.cons rfl .nil) q)
structure Mk (K : PySem.W.Frag) (C f : Addr) : Prop where
  makes : PySem.W.makesIn K C = true
  init : PySem.W.findIn K (.ref C) "__init__" = some (some (.ref f))
  fn : PySem.W.isFn K (.ref f) = true
  kp : PySem.W.keepIn K (.ref C) = true
theorem run_make {pins : List (Addr × Obj)} {σ : St} {H : Hp} {s : Shared} {Q : VK} {us : List Value} {vs : List V} (M : Mk X.K C f) (F : FnOk X.prog X.w X.K X.mg X.base CX k f fd ps sp) (hr : Room (k + 1) X.A) (hb : Binds X.K fd ps ds) (hd : Vals dvs ds)
    (hx : Passes CX X E) (I : Inv X pins σ H s) (r : Vals vs us)
    (h : ∀ x dx, H x = none → H dx = none → dx ≠ x → sp (.ref x :: (vs ++ dvs)) (upd (upd H dx (.own x)) x (.ins C dx [])) (fun v H2 => v = .non ∧ Q (.ref x) H2) E) :
    wpAny (model X.prog X.w) X.A (call (.ref C) us) (EP X pins σ Q) X.xe s := by
  have hq := h (s.heap.objs.size + 1) s.heap.objs.size (I.hok.fresh (Nat.le_succ _)) (I.hok.fresh (Nat.le_refl _)) (Nat.ne_of_lt (Nat.lt_succ_self _))
  have I2 := Inv.made (C := C) I
  have r2 : Vals (V.ref (s.heap.objs.size + 1) :: (vs ++ dvs)) (Value.ref (s.heap.objs.size + 1) :: (us ++ ds)) := .cons rfl (r.append hd)
  have hl : (Value.ref (s.heap.objs.size + 1) :: us ++ ds).length = ps.length := by
    have e := r2.length
    rw [F.len _ _ _ _ hq] at e
    exact e.symm
  refine wpAny_call (make_map (f := f) I.kIn M.makes M.init (beq_iff_eq.mp M.fn) (codeAny_mono (F.run _ X.stack _ _ ⟨Value.ref (s.heap.objs.size + 1) :: us, []⟩ (Value.ref (s.heap.objs.size + 1) :: (us ++ ds)) _ _ E (hr.make C us [])
    (I2.env0.make C us []) (hb _ (Value.ref (s.heap.objs.size + 1) :: us) I2.kIn hl) r2 hq) fun r s' hq' => ?_))
  cases r with
  | error e => exact hx pins σ _ _ e s' I2 hq'
  | ok fl =>
    cases fl with
    | ret u =>
      obtain ⟨v, H', I3, rv, ev, q3⟩ := I2.after hq'
      subst ev
      exact ⟨rv, ⟨V.ref (s.heap.objs.size + 1), H', I3, rfl, q3⟩⟩
    | next => exact False.elim hq'
    | brk => exact False.elim hq'
    | cont => exact False.elim hq'
theorem pe_make0 (M : Mk X.K C f) (F : FnOk X.prog X.w X.K X.mg X.base CX k f fd ps sp) (hr : Room (k + 1) X.A) (hg : Gl X x) (hm : X.mg x = some (.ref C)) (hb : Binds X.K fd ps ds) (hd : Vals dvs ds) (hx : Passes CX X E)
    (hdb : (x == ("__debug__" : Str)) = false := by decide) : PE X (.Call (.Name x p) [] [] pos) (tMake C sp dvs E tNil) := by
  intro pins s σ H Q I h
  refine wpAny_Call_Name_kw (ld_glob I hg hm ?_ hdb)
  exact PySem.W.callWith_K0 I.kIn M.kp (run_make (us := []) M F hr hb hd hx I .nil h)
end
section
variable {X : Cx} {CX : CXT} {k : Nat} {f C : Addr} {fd : FuncData} {ps ks : List Str} {sp : Sp} {E : XK} {x m : Str} {p pos apos kpos : Pos} {e o : Expr} {es : List Expr} {kws : List Keyword} {te ta : TE} {t tk : TA} {nm : Option Str}
variable {g : List Value → List Value → List Value} {gV : List V → List V → List V}
end
structure FnScope (N P : List Str) (sc : Scope) : Prop where
  kind : sc.kind = .function
  co : sc.isCoroutine = false
  gen : sc.isGenerator = false
  nd : N.Nodup
  pre : N.take P.length = P
  par : ∀ x ∈ P, sc.names.lookup x = some .local ∨ sc.names.lookup x = some .cell
  nofree : ∀ y ∈ sc.names, y.2 ≠ .free
theorem bindL_out {kindOf : Str → Option NameKind} {x : Str} : ∀ {binds : List (Str × Value)} {m : Str → Option Value}, (∀ v, (x, v) ∉ binds) → bindL kindOf binds m x = m x
  | [], _, _ => rfl
  | (n, v) :: r, m, h => by
    unfold bindL
    rw [bindL_out fun w hw => h w (List.mem_cons_of_mem _ hw)]
    split
    · have : x ≠ n := by rintro rfl; exact h v List.mem_cons_self
      simp [this]
    · rfl
theorem bindC_out {kindOf : Str → Option NameKind} {x : Str} : ∀ {binds : List (Str × Value)} {m : Str → Option Value}, (∀ v, (x, v) ∉ binds) → bindC kindOf binds m x = m x
  | [], _, _ => rfl
  | (n, v) :: r, m, h => by
    unfold bindC
    rw [bindC_out fun w hw => h w (List.mem_cons_of_mem _ hw)]
    split
    · rfl
    · have : x ≠ n := by rintro rfl; exact h v List.mem_cons_self
      simp [this]
theorem bindL_get {kindOf : Str → Option NameKind} {x : Str} {v : Value} : ∀ {P : List Str} {vs : List Value} {i : Nat} {m : Str → Option Value}, P.Nodup → P[i]? = some x → vs[i]? = some v → kindOf x = some .local →
    bindL kindOf (P.zip vs) m x = some v
  | [], _, _, _, _, h, _, _ => by simp at h
  | _ :: _, [], _, _, _, _, h, _ => by simp at h
  | p :: P, w :: vs, 0, m, nd, h1, h2, hk => by
    simp at h1 h2; subst h1; subst h2
    show bindL kindOf ((p, w) :: P.zip vs) m p = _
    unfold bindL
    rw [bindL_out fun v hv => (List.nodup_cons.mp nd).1 (List.of_mem_zip hv).1, if_pos hk]
    simp
  | p :: P, w :: vs, i + 1, m, nd, h1, h2, hk => by
    show bindL kindOf ((p, w) :: P.zip vs) m x = _
    unfold bindL
    exact bindL_get (i := i) (List.nodup_cons.mp nd).2 (by simpa using h1) (by simpa using h2) hk
theorem bindC_get {kindOf : Str → Option NameKind} {x : Str} {v : Value} : ∀ {P : List Str} {vs : List Value} {i : Nat} {m : Str → Option Value}, P.Nodup → P[i]? = some x → vs[i]? = some v → kindOf x ≠ some .local →
    bindC kindOf (P.zip vs) m x = some v
  | [], _, _, _, _, h, _, _ => by simp at h
  | _ :: _, [], _, _, _, _, h, _ => by simp at h
  | p :: P, w :: vs, 0, m, nd, h1, h2, hk => by
    simp at h1 h2; subst h1; subst h2
    show bindC kindOf ((p, w) :: P.zip vs) m p = _
    unfold bindC
    rw [bindC_out fun v hv => (List.nodup_cons.mp nd).1 (List.of_mem_zip hv).1, if_neg hk]
    simp
  | p :: P, w :: vs, i + 1, m, nd, h1, h2, hk => by
    show bindC kindOf ((p, w) :: P.zip vs) m x = _
    unfold bindC
    exact bindC_get (i := i) (List.nodup_cons.mp nd).2 (by simpa using h1) (by simpa using h2) hk
def start (N : List Str) (vs : List V) : St := vs.map some ++ List.replicate (N.length - vs.length) none
def cxOf (CX : CXT) (P : Program) (w : World) (K : PySem.W.Frag) (mg : Str → Option Value) (base : Heap) (N : List Str) (qual : Str) (scope : Scope) (f : Addr) (cd : Value) (A : Around) (outer : List Env) (s : Shared) (H : Hp) (E : XK) : Cx where
  prog := P
  w := w
  K := K
  mg := mg
  base := base
  A := A.deeper (envOfC qual scope s.heap.objs.size f cd)
  N := N
  s_0 := s
  H_0 := H
  env := envOfC qual scope s.heap.objs.size f cd
  outer := outer
  stack := envOfC qual scope s.heap.objs.size f cd :: outer
  ex := []
  calm := true
  fn := fun _ => true
  pn := []
  xe := fun e s' => wpAny (model P w) (A.deeper (envOfC qual scope s.heap.objs.size f cd)) (leaving (envOfC qual scope s.heap.objs.size f cd) e) (fun _ s'' => CX outer H s E e s'') (fun e' s'' => CX outer H s E e' s'') s'
theorem cell_has {sc : Scope} {n : Nat} {x : Str} (h : sc.names.lookup x = some .cell) : ∃ c, (cellsFrom n sc.names []).lookup x = some c := by
  have q := PySem.W.cellsFrom_some sc.names n [] (.inl h)
  exact Option.isSome_iff_exists.mp q
theorem inv_start {CX : CXT} {P : Program} {w : World} {K : PySem.W.Frag} {mg : Str → Option Value} {base : Heap} {N ps : List Str} {qual : Str} {scope : Scope} {f : Addr} {cd : Value} {A : Around} {outer : List Env} {s s1 : Shared} {H : Hp} {E : XK} {us : List Value} {vs : List V}
    (S : FnScope N ps scope) (hd : A.handled = none) (e0 : Env0 P w K mg base A outer s H) (hl : vs.length = ps.length) (r : Vals vs us)
    (x : InCallC s s.heap.objs.size (bindL (envOfC qual scope s.heap.objs.size f cd).kindOf (ps.zip us) fun _ => none) (cellsFrom (s.heap.objs.size + 1) scope.names []) (bindC (envOfC qual scope s.heap.objs.size f cd).kindOf (ps.zip us) fun _ => none) s1) :
    Inv (cxOf CX P w K mg base N qual scope f cd A outer s H E) [] (start N vs) H s1 := by
  have hpl : ps.length ≤ N.length := by have := congrArg List.length S.pre; rw [List.length_take] at this; omega
  obtain ⟨h1, tk, rfl, hk⟩ := x.done
  have noA : ∀ b : Addr, b ∉ (cxOf CX P w K mg base N qual scope f cd A outer s H E).ex := fun b z => absurd (show b ∈ ([] : List Addr) from z) (by simp)
  refine ⟨⟨e0.mod, S.kind, rfl, rfl, Nat.le_refl _, fun y z c h1 h2 => ?_, fun y hy => ?_, fun y c _ h => ?_, fun _ => hd, Around.frames_deeper e0.frames, .inr ⟨rfl, rfl⟩, fun b z => absurd z (noA b), e0.bs, e0.bsz, fun b _ _ => noA b, fun b z => absurd z (noA b), e0.funs, e0.frf⟩,
    rfl, e0.bare, Un.kept hk, ⟨_, x.toInCall.ns, fun i y v h1 h2 h3 => ?_⟩, fun y c h => ⟨_, x.cell y c h⟩, e0.hok.fresh (Nat.le_refl _), fun y c h => ?_, fun p hp => absurd (show p ∈ ([] : List (Addr × Obj)) from hp) (by simp), e0.hok.kept hk, ?_⟩
  · exact name_of_addr x.apart (PySem.mem_of_lookup h1) (PySem.mem_of_lookup h2)
  · have hy : scope.names.lookup y = some .cell ∨ scope.names.lookup y = some .free := hy
    rcases hy with hy | hy
    · exact cell_has hy
    · exact absurd rfl (S.nofree _ (PySem.mem_of_lookup hy))
  · exact Nat.le_of_lt (x.above y c (PySem.mem_of_lookup h))
  · have hi : i < vs.length := by
      unfold start at h2
      by_cases hi : i < vs.length
      · exact hi
      · rw [List.getElem?_append_right (by simpa using hi)] at h2
        rw [List.getElem?_replicate] at h2
        split at h2 <;> cases h2
    have ha : vs[i]? = some v := by
      unfold start at h2
      rw [List.getElem?_append_left (by simpa using hi), List.getElem?_map] at h2
      cases e : vs[i]? with
      | none => rw [e] at h2; cases h2
      | some a => rw [e] at h2; cases h2; rfl
    obtain ⟨u, hu, rv⟩ := r.get ha
    have hp : ps[i]? = some y := by
      rw [← S.pre, List.getElem?_take_of_lt (by omega)]; exact h1
    have ndP : ps.Nodup := by rw [← S.pre]; exact S.nd.sublist (List.take_sublist _ _)
    refine ⟨u, rv, ?_⟩
    rcases S.par y (List.mem_of_getElem? hp) with k | k
    · exact .inl ⟨k, bindL_get ndP hp hu k⟩
    · obtain ⟨c, e⟩ := cell_has (n := s.heap.objs.size + 1) k
      refine .inr ⟨.inl k, c, e, ?_⟩
      have q := x.cell y c e
      rw [bindC_get ndP hp hu (by show scope.names.lookup y ≠ _; rw [k]; decide)] at q
      exact q
  · exact e0.hok.fresh (Nat.le_of_lt (x.above y c (PySem.mem_of_lookup h)))
  · unfold start
    show _ = N.length
    rw [List.length_append, List.length_map, List.length_replicate]
    omega
theorem fn_of {CX : CXT} {P : Program} {w : World} {K : PySem.W.Frag} {mg : Str → Option Value} {base : Heap} {k : Nat} {f : Addr} {name qual : Str} {params : Arguments} {body : List Stmt} {scope : Scope} {dV kV doc pm cdv ct oc : Value} {an od : Option Addr}
    {osl : Array (Option Value)} {N ps : List Str} {sp : Sp} (lk : K.lookup f = some ⟨oc, od, .func (PySem.W.fnOf name qual params body scope dV kV doc pm an cdv ct), osl⟩) (hcd : PySem.W.codeIn K cdv qual = true) (S : FnScope N ps scope)
    (len : ∀ vs H Q E, sp vs H Q E → vs.length = ps.length)
    (hbody : ∀ (A : Around) (outer : List Env) (s : Shared) (H : Hp) (vs : List V) (Q : VK) (E : XK), Room k (A.deeper (envOfC qual scope s.heap.objs.size f cdv)) → sp vs H Q E →
      ∃ t, PSs (cxOf CX P w K mg base N qual scope f cdv A outer s H E) body t ∧ t { nx := fun _ H' => Q .non H', rt := Q } (start N vs) H) :
    FnOk P w K mg base CX (k + 1) f (PySem.W.fnOf name qual params body scope dV kV doc pm an cdv ct) ps sp := by
  refine ⟨len, fun A outer s H args us vs Q E hr e0 hb r hsp => ?_⟩
  have hl := len _ _ _ _ hsp
  have KX : K.In s.heap := e0.mod.kin.keeps fun b o e => (e0.bs b o e).1
  have lim : s.heap.NoLimit := e0.mod.nolimit.keeps fun b o e => (e0.bs b o e).1
  have hkind : ∀ y ∈ ps.zip us, scope.names.lookup y.1 = some .local ∨ (scope.names.lookup y.1 = some .cell ∧ ((cellsFrom (s.heap.objs.size + 1) scope.names []).lookup y.1).isSome = true) := fun ⟨n, v⟩ hy => by
    rcases S.par n (List.of_mem_zip hy).1 with q | q
    · exact .inl q
    · exact .inr ⟨q, PySem.W.cellsFrom_some _ _ _ (.inl q)⟩
  refine codeAny_call_function hr.depth (KX _ _ lk) rfl S.co S.gen rfl (PySem.W.codeRec_of KX hcd) (hb _ _ _ _ ?_)
  refine wpAny_newFunctionEnv_cells S.kind hkind fun env he s1 x => ?_
  subst he
  refine ⟨lim.keeps x.toInCall.keep, codeAny_func ?_⟩
  obtain ⟨t, ht, hq⟩ := hbody A outer s H vs Q E (hr.deeper _) hsp
  have I : Inv (cxOf CX P w K mg base N qual scope f cdv A outer s H E) [] (start N vs) H s1 := inv_start S hr.hd e0 hl r x
  refine wpAny_mono (ht [] s1 (start N vs) H _ I hq) (fun fl s' hs => ?_) fun e s' hs => hs
  have fin : ∀ {σ' : St} {H' : Hp} {v : V} {u : Value}, Inv (cxOf CX P w K mg base N qual scope f cdv A outer s H E) [] σ' H' s' → RelV v u → Q v H' → CE outer P w H s Q u s' :=
    fun {σ' H' v u} J rv q => ⟨v, H', J.os, J.bare, J.base, J.hok, rv, q⟩
  cases fl with
  | ret u =>
    obtain ⟨v, σ', H', J, rv, q⟩ := hs
    exact fin J rv q
  | next =>
    obtain ⟨σ', H', J, q⟩ := hs
    exact fin (v := V.non) (u := Value.none) J rfl q
  | brk =>
    obtain ⟨_, _, _, q⟩ := hs
    exact False.elim q
  | cont =>
    obtain ⟨_, _, _, q⟩ := hs
    exact False.elim q
end L2
namespace L2
open PySem PySem.Spec PyProof.Rows
section
variable {X : Cx} {x : Str} {p pos : Pos} {e : Expr} {es : List Expr} {t : TA} {id T : String} {r : List V → Hp → VK → Prop}
def tCB (r : List V → Hp → VK → Prop) (t : TA) : TE := fun σ H Q => t σ H fun vs H1 => r vs H1 Q
theorem pe_callB (hc : CallR X (.builtin id) r) (hg : Gl X x) (hm : X.mg x = none) (hv : bootBuiltins x = some (.builtin id)) (ha : PA X (e :: es) t) (hn : x ≠ "__name__" := by decide) (hdb : (x == ("__debug__" : Str)) = false := by decide)
    (he : starEach (e :: es) X.env = (false, eval e X.env) :: starEach es X.env := by rfl) (hpl : (backTo pos (starEach es X.env)).any (·.1) = false := by rfl) : PE X (.Call (.Name x p) (e :: es) [] pos) (tCB r t) := by
  intro pins s σ H Q I h
  refine wpAny_Call_Name_kw (ld_blt I hg hm hv ?_ hn hdb)
  exact PyProof.Rows.callWith_builtin1 (thn (ha pos pins s σ H _ I h) fun us s1 ⟨vs, H1, I1, r1, q1⟩ => hc pins s1 σ H1 vs us Q I1 r1 q1) he hpl
theorem pe_callTy (hc : CallR X (.type T) r) (hg : Gl X x) (hm : X.mg x = none) (hv : bootBuiltins x = some (.type T)) (ha : PA X (e :: es) t) (hn : x ≠ "__name__" := by decide) (hdb : (x == ("__debug__" : Str)) = false := by decide)
    (he : starEach (e :: es) X.env = (false, eval e X.env) :: starEach es X.env := by rfl) (hpl : (backTo pos (starEach es X.env)).any (·.1) = false := by rfl) : PE X (.Call (.Name x p) (e :: es) [] pos) (tCB r t) := by
  intro pins s σ H Q I h
  refine wpAny_Call_Name_kw (ld_blt I hg hm hv ?_ hn hdb)
  exact PyProof.Rows.callWith_type1 (thn (ha pos pins s σ H _ I h) fun us s1 ⟨vs, H1, I1, r1, q1⟩ => hc pins s1 σ H1 vs us Q I1 r1 q1) he hpl
end
end L2
namespace HT
open PySem PyProof.Rows
def lexLt : List Int → List Int → Bool
  | [], [] => false
  | [], _ :: _ => true
  | _ :: _, [] => false
  | x :: xs, y :: ys => if x = y then lexLt xs ys else decide (x < y)
theorem lexLt_cons (x y : Int) (xs ys : List Int) : lexLt (x :: xs) (y :: ys) = if x = y then lexLt xs ys else decide (x < y) := rfl
theorem lexLt_nil_nil : lexLt [] [] = false := rfl
theorem lexLt_nil_cons (y : Int) (ys : List Int) : lexLt [] (y :: ys) = true := rfl
theorem lexLt_cons_nil (x : Int) (xs : List Int) : lexLt (x :: xs) [] = false := rfl
theorem eqAt_int (A : Around) (s : Shared) (a : Int) (t : Tok) (c : Int) (u : Tok) : ∃ e, SeqAt.EqAt A s (.int a t) (.int c u) e ∧ (e = true ↔ a = c) :=
  ⟨(a == c), SeqAt.EqAt.int_int a t c u, by simp⟩
theorem rcLt_int (A : Around) (s : Shared) (a : Int) (t : Tok) (c : Int) (u : Tok) (prog : Program) (w : World) (E : Value → Shared → Prop) (Q : Value → Shared → Prop) (h : Q (.bool (decide (a < c))) s) :
    wpAny (model prog w) A (richCompare .Lt (.int a t) (.int c u)) Q E s :=
  (PyProof.Rows.lt_int h : wpAny (model prog w) A (compareOp .Lt (.int a t) (.int c u)) Q E s)
section
open PySem.SeqAt
open PySem.AutoSeq1 (wpAny_loadPart')
open PySem.MeetsSeq PySem.MeetsSeq2 PySem.MeetsSeq3
theorem tuple_lt_ints (l b : Addr) (items items2 : Array Value) (n n2 : Nat) (dd dd2 : Option Addr) (sl sl2 : Array (Option Value)) (ns ms : List Int) (hi : IntsAre items.toList ns) (hj : IntsAre items2.toList ms) :
    Meets (Builtin.«tuple.__lt__» ⟨[.ref l, .ref b], []⟩)
      (fun _ R s => s.heap.get? l = some { cls := .type "tuple", dict := dd, data := .seq items n, slots := sl } ∧ s.heap.get? b = some { cls := .type "tuple", dict := dd2, data := .seq items2 n2, slots := sl2 } ∧
        R (.ok (.ret (.bool (lexLt ns ms)))) s) :=
  .of_wp fun prog w A R s h => by
    obtain ⟨hp, g, d, tk, os⟩ := s; obtain ⟨hl, hb, h⟩ := h
    have f2 := AutoSeq1.sub_tuple_tuple
    have z1 : items.size = ns.length := by rw [← hi.length]; simp
    have z2 : items2.size = ms.length := by rw [← hj.length]; simp
    wp_walk using wpAny_loadPart' hl, wpAny_loadPart' hb, wpAny_forIn_list _ (fun rest b s' => b.1 = none ∧ s' = ⟨hp, g, d, tk, os⟩ ∧ ∃ (vs ws : List Value) (ns' ms' : List Int), rest = vs.zip ws ∧
      IntsAre vs ns' ∧ IntsAre ws ms' ∧ ns'.length + items2.size = ms'.length + items.size ∧ R (.ok (.ret (.bool (lexLt ns' ms')))) ⟨hp, g, d, tk, os⟩) _
    case turn =>
      rintro ⟨y, x⟩ rest b s' ⟨hb', rfl, vs, ws, ns', ms', hz, hvi, hwi, hlen, hR⟩
      cases hvi with
      | nil => rw [List.zip_nil_left] at hz; cases hz
      | cons a t hvi' =>
        cases hwi with
        | nil => rw [List.zip_nil_right] at hz; cases hz
        | cons c u hwi' =>
          rw [List.zip_cons_cons] at hz
          injection hz with hyx hrest
          injection hyx with hy hx
          subst hy hx
          rw [lexLt_cons] at hR
          simp only [List.length_cons] at hlen
          obtain ⟨e, he, hiff⟩ := eqAt_int A.in1 ⟨hp, g, d, tk, os⟩ a t c u
          refine wpAny_bind (he prog w _ _ ?_)
          cases e with
          | true =>
            rw [if_pos (hiff.mp rfl)] at hR
            wp_walk
            exact ⟨rfl, rfl, _, _, _, _, hrest, hvi', hwi', by omega, hR⟩
          | false =>
            rw [if_neg (fun q => absurd (hiff.mpr q) Bool.false_ne_true)] at hR
            have hri := rcLt_int A.in1 ⟨hp, g, d, tk, os⟩ a t c u prog w
            wp_walk using hri
            exact ⟨_, rfl, by simpa using hR⟩
    case fin =>
      rintro ⟨b1, b2⟩ s' ⟨hb', rfl, vs, ws, ns', ms', hz, hvi, hwi, hlen, hR⟩
      simp only at hb'
      subst hb'
      have hv : lexLt ns' ms' = decide (items.size < items2.size) := by
        cases hvi with
        | nil =>
          cases hwi with
          | nil =>
            simp only [List.length_nil] at hlen
            rw [lexLt_nil_nil]
            exact (decide_eq_false (by omega)).symm
          | cons c u hw =>
            simp only [List.length_nil, List.length_cons] at hlen
            rw [lexLt_nil_cons]
            exact (decide_eq_true (by omega)).symm
        | cons a t hv =>
          cases hwi with
          | nil =>
            simp only [List.length_nil, List.length_cons] at hlen
            rw [lexLt_cons_nil]
            exact (decide_eq_false (by omega)).symm
          | cons c u hw =>
            rw [List.zip_cons_cons] at hz
            cases hz
      rw [hv] at hR
      wp_walk
      exact ⟨_, rfl, by simpa [Builtin.Tuple.tupleCompareSizes] using hR⟩
    case h =>
      exact ⟨rfl, rfl, items.toList, items2.toList, ns, ms, rfl, hi, hj, by omega, h⟩
end
section
variable {prog : Program} {w : World} {A : Around} {E : Value → Shared → Prop} {s : Shared}
theorem lt_tupInts {l b : Addr} {items items2 : Array Value} {ns ms : List Int} {Q : Value → Shared → Prop} (hl : IsTup s.heap l items) (hb : IsTup s.heap b items2) (hi : IntsAre items.toList ns) (hj : IntsAre items2.toList ms)
    (hu : A.units < cLine) (h : Q (.bool (lexLt ns ms)) s) : wpAny (model prog w) A (compareOp .Lt (.ref l) (.ref b)) Q E s := by
  obtain ⟨⟨cls, dd, data, sl⟩, ho, hc, n, hd⟩ := id hl
  obtain ⟨⟨cls2, dd2, data2, sl2⟩, ho2, hc2, n2, hd2⟩ := id hb
  simp only at hc hd hc2 hd2
  subst hc hd hc2 hd2
  exact richCompare_meets_room (op := .Lt) ⟨_, ho, rfl⟩ ⟨_, ho2, rfl⟩ PySem.F.slot_tuple_lt PySem.F.entry_tuple_lt (PySem.F.args_tuple_lt_2 _ _) (tuple_lt_ints l b items items2 n n2 dd dd2 sl sl2 ns ms hi hj)
    ⟨ho, ho2, show Value.bool (lexLt ns ms) ≠ Value.notImplemented ∧ Q (.bool (lexLt ns ms)) s from ⟨(fun x => nomatch x), h⟩⟩ hu
def sIx (n d : Nat) : Option Int → Nat
  | none => d
  | some v => if v < 0 then (v + (n : Int)).toNat else min v.toNat n
theorem sIx_none (n d : Nat) : sIx n d none = d := rfl
theorem sIx_nat (n d k : Nat) : sIx n d (some (k : Int)) = min k n := by
  show (if (k : Int) < 0 then ((k : Int) + (n : Int)).toNat else min (k : Int).toNat n) = min k n
  rw [if_neg (by omega), Int.toNat_natCast]
end
end HT
namespace L2
open PySem PySem.Spec PyProof.Rows
abbrev TO := St → Hp → (Option Int → Hp → Prop) → Prop
def PO (X : Cx) (e : Option Expr) (t : TO) : Prop :=
  ∀ (pins : List (Addr × Obj)) (s : Shared) (σ : St) (H : Hp) (Q : Option Int → Hp → Prop), Inv X pins σ H s → t σ H Q →
    wpAny (model X.prog X.w) X.A (evalPart e X.env) (fun u s' => ∃ o H', Inv X pins σ H' s' ∧ IsPart u o ∧ Q o H') X.xe s
def tNoPart : TO := fun _ H Q => Q none H
def tPart (t : TE) : TO := fun σ H Q => t σ H fun x H1 => ∃ i, x = .int i ∧ Q (some i) H1
section
variable {X : Cx} {e : Expr} {te : TE} {lo hi : Option Expr} {tl th : TO} {pos p2 : Pos}
theorem po_none : PO X none tNoPart := by
  intro pins s σ H Q I h
  rw [evalPart_none]
  exact wpAny_pure ⟨none, H, I, .none, h⟩
theorem po_some (h : PE X e te) : PO X (some e) (tPart te) := by
  intro pins s σ H Q I hw
  rw [evalPart_some]
  refine thn (h pins s σ H _ I hw) fun u s1 ⟨x, H1, I1, r1, q1⟩ => ?_
  obtain ⟨i, rfl, q⟩ := q1
  obtain ⟨t, rfl⟩ := r1
  exact ⟨some i, H1, I1, .int i t, q⟩
def SlR (X : Cx) (r : V → Option Int → Option Int → Hp → VK → Prop) : Prop :=
  ∀ (pins : List (Addr × Obj)) (s : Shared) (σ : St) (H : Hp) (x : V) (v vl vu : Value) (lo hi : Option Int) (sl : Addr) (Q : VK), Inv X pins σ H s → RelV x v → s.heap.IsSliceOf sl vl vu .none → IsPart vl lo → IsPart vu hi → r x lo hi H Q →
    ∃ T id, typeLookup (.type T) "__getitem__" = pure (some (.builtin id)) ∧ s.TypeIs v T ∧ wpAny (model X.prog X.w) X.A (getItem v (.ref sl)) (EP X pins σ Q) X.xe s
theorem SlR.or {r r' : V → Option Int → Option Int → Hp → VK → Prop} (h : SlR X r) (h' : SlR X r') : SlR X (fun x lo hi H Q => r x lo hi H Q ∨ r' x lo hi H Q) := by
  intro pins s σ H x v vl vu lo hi sl Q I rx hs pl pu q
  rcases q with q | q
  · exact h pins s σ H x v vl vu lo hi sl Q I rx hs pl pu q
  · exact h' pins s σ H x v vl vu lo hi sl Q I rx hs pl pu q
def tSl (r : V → Option Int → Option Int → Hp → VK → Prop) (te : TE) (tl th : TO) : TE := fun σ H Q => te σ H fun x H1 => tl σ H1 fun l H2 => th σ H2 fun u H3 => r x l u H3 Q
theorem pe_slice {r : V → Option Int → Option Int → Hp → VK → Prop} (hr : SlR X r) (he : PE X e te) (hl : PO X lo tl) (hu : PO X hi th) : PE X (.Subscript e (.Slice lo hi none p2) pos) (tSl r te tl th) := by
  intro pins s σ H Q I h
  refine Subscript_ (thn (he pins s σ H _ I h) fun v s1 ⟨x, H1, I1, r1, q1⟩ => ?_)
  refine wpAny_Slice (thn (hl pins s1 σ H1 _ I1 q1) fun vl s2 ⟨l, H2, I2, pl, q2⟩ => thn (hu pins s2 σ H2 _ I2 q2) fun vu s3 ⟨u, H3, I3, pu, q3⟩ => ?_)
  rw [evalPart_none]
  refine wpAny_pure ?_
  have I4 : Inv X pins σ H3 { s3 with heap := s3.heap.push { cls := .type "slice", data := .fields #[vl, vu, .none] } } := I3.kept (t' := s3.toks) fun b ob q => Heap.get?_push_of_some _ q
  obtain ⟨T, id, hT, ht, hg⟩ := hr pins { s3 with heap := s3.heap.push { cls := .type "slice", data := .fields #[vl, vu, .none] } } σ H3 x v vl vu l u s3.heap.objs.size Q I4 r1 (Heap.IsSliceOf.new ..) pl pu q3
  show wpAny (model X.prog X.w) X.A (subscriptTail e (.Slice lo hi none p2) v (.ref s3.heap.objs.size)) (EP X pins σ Q) X.xe { s3 with heap := s3.heap.push { cls := .type "slice", data := .fields #[vl, vu, .none] } }
  exact tail_any (ops := [.ref s3.heap.objs.size, v]) ht hT hg (by with_unfolding_all rfl)
def cutV (xs : List V) (lo hi : Option Int) : List V := (xs.drop (HT.sIx xs.length 0 lo)).take (HT.sIx xs.length xs.length hi - HT.sIx xs.length 0 lo)
theorem cutV_length (xs : List V) (lo hi : Option Int) : (cutV xs lo hi).length ≤ xs.length := by
  unfold cutV
  rw [List.length_take, List.length_drop]
  omega
end
end L2
namespace L2
open PySem PySem.Spec PyProof.Rows
def ixN (n : Nat) (i : Int) : Option Nat := if 0 ≤ i then (if i < n then some i.toNat else none) else if -(n : Int) ≤ i then some (i + n).toNat else none
def atI {α : Type} (xs : List α) (i : Int) : Option α := (ixN xs.length i).bind fun j => xs[j]?
theorem ixN_seq {n : Nat} {i : Int} {j : Nat} (h : ixN n i = some j) : seqIndex? i n = some j ∧ j < n ∧ -(n : Int) ≤ i ∧ i < n := by
  unfold ixN at h
  by_cases h0 : 0 ≤ i
  · rw [if_pos h0] at h
    by_cases h1 : i < n
    · rw [if_pos h1] at h
      have e : i.toNat = j := Option.some.inj h
      exact ⟨by rw [seqIndex_of h0 h1, e], by omega, by omega, h1⟩
    · rw [if_neg h1] at h; cases h
  · rw [if_neg h0] at h
    by_cases h1 : -(n : Int) ≤ i
    · rw [if_pos h1] at h
      have e : (i + n).toNat = j := Option.some.inj h
      exact ⟨by rw [seqIndex_neg (by omega) h1, e], by omega, h1, by omega⟩
    · rw [if_neg h1] at h; cases h
theorem atI_get {α : Type} {xs : List α} {i : Int} {v : α} (h : atI xs i = some v) : ∃ j, seqIndex? i xs.length = some j ∧ xs[j]? = some v ∧ j < xs.length ∧ -(xs.length : Int) ≤ i ∧ i < xs.length := by
  unfold atI at h
  cases e : ixN xs.length i with
  | none => rw [e] at h; cases h
  | some j =>
    rw [e] at h
    obtain ⟨h1, h2, h3, h4⟩ := ixN_seq e
    exact ⟨j, h1, h, h2, h3, h4⟩
theorem atI_nat {α : Type} {xs : List α} {j : Nat} {v : α} (h : xs[j]? = some v) : atI xs (j : Int) = some v := by
  have hj : j < xs.length := (List.getElem?_eq_some_iff.mp h).1
  have e : ixN xs.length (j : Int) = some j := by
    unfold ixN
    rw [if_pos (by omega), if_pos (by omega)]; simp
  unfold atI; rw [e]; exact h
def PlainIx (b : Expr) : Prop := ∀ o i, subscripted b false o i = operate [o, i] (getItem o i)
def IxR (X : Cx) (r : R2) : Prop :=
  ∀ (value slice : Expr) (pins : List (Addr × Obj)) (s : Shared) (σ : St) (H : Hp) (x y : V) (v u : Value) (Q : VK), Inv X pins σ H s → RelV x v → RelV y u → r x y H Q →
    subscripted slice false v u = operate [v, u] (getItem v u) → wpAny (model X.prog X.w) X.A (subscriptTail value slice v u) (EP X pins σ Q) X.xe s
def MtR (X : Cx) (id : String) (r : V → List V → Hp → VK → Prop) : Prop :=
  ∀ (pins : List (Addr × Obj)) (s : Shared) (σ : St) (H : Hp) (x : V) (xs : List V) (v : Value) (us : List Value) (Q : VK), Inv X pins σ H s → RelV x v → Vals xs us → r x xs H Q →
    wpAny (model X.prog X.w) X.A (call (.builtin id) (v :: us)) (EP X pins σ Q) X.xe s
section
variable {X : Cx} {a b : Expr} {ta tb : TE} {pos : Pos}
theorem IxR.or {r r' : R2} (h : IxR X r) (h' : IxR X r') : IxR X (fun x y H Q => r x y H Q ∨ r' x y H Q) := by
  intro value slice pins s σ H x y v u Q I rx ry q hs
  rcases q with q | q
  · exact h value slice pins s σ H x y v u Q I rx ry q hs
  · exact h' value slice pins s σ H x y v u Q I rx ry q hs
theorem MtR.or {id : String} {r r' : V → List V → Hp → VK → Prop} (h : MtR X id r) (h' : MtR X id r') : MtR X id (fun x xs H Q => r x xs H Q ∨ r' x xs H Q) := by
  intro pins s σ H x xs v us Q I rx rs q
  rcases q with q | q
  · exact h pins s σ H x xs v us Q I rx rs q
  · exact h' pins s σ H x xs v us Q I rx rs q
theorem pe_ix {r : R2} (hr : IxR X r) (ha : PE X a ta) (hb : PE X b tb) (hs : PlainIx b) : PE X (.Subscript a b pos) (tOp r ta tb) := by
  intro pins s σ H Q I h
  exact Subscript_ (binT ha hb I h fun v u s2 x y H2 I2 rx ry q => hr a b pins s2 σ H2 x y v u Q I2 rx ry q (hs _ _))
def rIxL (K : PySem.W.Frag) : R2 := fun x y H Q => ∃ p xs i v, x = .ref p ∧ y = .int i ∧ SqL K H p xs ∧ atI xs i = some v ∧ Q v H
def rIxT (K : PySem.W.Frag) : R2 := fun x y H Q => ∃ p xs i v, x = .ref p ∧ y = .int i ∧ SqT K H p xs ∧ atI xs i = some v ∧ Q v H
theorem ix_list : IxR X (rIxL X.K) := by
  intro value slice pins s σ H x y v u Q I rx ry h hs
  obtain ⟨p, xs, i, z, rfl, rfl, hq, he, q⟩ := h
  cases rx
  obtain ⟨t, rfl⟩ := ry
  obtain ⟨its, r, pl, hz⟩ := I.list hq
  obtain ⟨j, h1, h2, h3, h4, h5⟩ := atI_get he
  obtain ⟨w, ew, rw'⟩ := r.get h2
  have hl := r.length
  have hn := line63
  have fin : EP X pins σ Q w s := ⟨z, H, I, rw', q⟩
  by_cases h0 : 0 ≤ i
  · have hj : i.toNat = j := by
      rw [seqIndex_of h0 h5] at h1
      exact Option.some.inj h1
    exact item_listR pl.isList h0 (by omega) (by rw [hj]; simpa using ew) fin hs
  · have hj : (i + (its.toArray.size : Int)).toNat = j := by
      rw [seqIndex_neg (by omega) h4] at h1
      rw [List.size_toArray, ← hl]
      exact Option.some.inj h1
    exact subscriptTail_builtinR (x := w) pl.isList.typeIs slot_list_getitem.lookup
      (wpAny_getItem_list_neg (Q := fun r s' => r = w ∧ EP X pins σ Q r s') pl.isList (by omega) (by rw [List.size_toArray] <;> omega) (by omega) (by rw [hj]; simpa using ew) ⟨rfl, fin⟩) hs
theorem ix_tup : IxR X (rIxT X.K) := by
  intro value slice pins s σ H x y v u Q I rx ry h hs
  obtain ⟨p, xs, i, z, rfl, rfl, hq, he, q⟩ := h
  cases rx
  obtain ⟨t, rfl⟩ := ry
  obtain ⟨its, r, pl, hz⟩ := I.tuple hq
  obtain ⟨j, h1, h2, h3, h4, h5⟩ := atI_get he
  obtain ⟨w, ew, rw'⟩ := r.get h2
  have hl := r.length
  have hn := line63
  have fin : EP X pins σ Q w s := ⟨z, H, I, rw', q⟩
  exact subscriptTail_builtinR (x := w) pl.typeIs slot_tuple_getitem.lookup
    (getItem_tuple (j := j) (Q := fun r s' => r = w ∧ EP X pins σ Q r s') pl (by omega) (by omega) (by rw [List.size_toArray, ← hl]; exact h1) (by simpa using ew) ⟨rfl, fin⟩) hs
theorem mapSeq_set (its : List Value) (n j : Nat) (u : Value) : Obj.mapSeq (·.setIfInBounds j u) { cls := .type "list", data := .seq its.toArray n } = { cls := .type "list", data := .seq (its.set j u).toArray n } := by
  simp [Obj.mapSeq]
theorem Inv.lst {pins : List (Addr × Obj)} {σ : St} {H : Hp} {s : Shared} {p : Addr} {xs : List V} (I : Inv X pins σ H s) (h : H p = some (.lst xs)) :
    ∃ (its : List Value) (n : Nat), Vals xs its ∧ s.heap.get? p = some { cls := .type "list", data := .seq its.toArray n } ∧ xs.length ≤ sizeLine := by
  obtain ⟨z, its, n, r, e⟩ := I.hok p _ h
  exact ⟨its, n, r, e, z⟩
theorem Inv.lstUpd {pins : List (Addr × Obj)} {σ : St} {H : Hp} {s : Shared} {p : Addr} {xs ys : List V} {its its' : List Value} {n n' : Nat} {f : Obj → Obj} (I : Inv X pins σ H s) (h : H p = some (.lst xs))
    (ho : s.heap.get? p = some { cls := .type "list", data := .seq its.toArray n }) (hf : f { cls := .type "list", data := .seq its.toArray n } = { cls := .type "list", data := .seq its'.toArray n' }) (r : Vals ys its') (hz : ys.length ≤ sizeLine) (t : Nat) :
    Inv X pins σ (upd H p (.lst ys)) { s with heap := s.heap.update p f, toks := t } := by
  have e : (s.heap.update p f).get? p = some { cls := .type "list", data := .seq its'.toArray n' } := by
    rw [Heap.get?_update_self f ho (by rw [hf] <;> rfl), hf]
  refine I.write (x := p) (e := p) (by rw [h]; trivial) (.inl rfl) (fun b u hb q => (Heap.get?_update_other _ _ (Ne.symm hb)).trans q) ⟨_, e⟩ ?_
  exact ⟨hz, its', n', r, e⟩
def rSetL : V → V → V → Hp → (Hp → Prop) → Prop := fun o i v H Q => ∃ p xs k j, o = .ref p ∧ i = .int k ∧ H p = some (.lst xs) ∧ ixN xs.length k = some j ∧ Q (upd H p (.lst (xs.set j v)))
theorem set_list : PSet X rSetL := by
  intro pins s σ H o i v ov iv u Q I ro ri rv h
  obtain ⟨p, xs, k, j, rfl, rfl, hp, hj, q⟩ := h
  cases ro
  obtain ⟨t, rfl⟩ := ri
  obtain ⟨its, n, r, ho, hz⟩ := I.lst hp
  obtain ⟨h1, h2, h3, h4⟩ := ixN_seq hj
  have hl := r.length
  have hn := line63
  have I' : Inv X pins σ (upd H p (.lst (xs.set j v))) { s with heap := s.heap.update p (Obj.mapSeq (·.setIfInBounds j u)) } :=
    I.lstUpd hp ho (mapSeq_set its n j u) (r.set rv j) (by rw [List.length_set]; exact hz) s.toks
  by_cases h0 : 0 ≤ k
  · have hk : k.toNat = j := by
      rw [seqIndex_of h0 h4] at h1
      exact Option.some.inj h1
    exact PySem.W.ki_setAt ho h0 (by omega) (by rw [List.size_toArray, ← hl]; exact h4) (by rw [hk]; exact ⟨_, I', q⟩)
  · have hk : (k + (its.toArray.size : Int)).toNat = j := by
      rw [seqIndex_neg (by omega) h3] at h1
      rw [List.size_toArray, ← hl]
      exact Option.some.inj h1
    exact PySem.W.ki_setBack ho (by omega) (by rw [List.size_toArray, ← hl]; exact h3) (by omega) (by rw [hk]; exact ⟨_, I', q⟩)
theorem slice_bounds (lo hi : Option Int) (n : Nat) : (sliceBounds lo hi none n).1 = ((HT.sIx n 0 lo : Nat) : Int) ∧ (sliceBounds lo hi none n).2.1 = ((HT.sIx n n hi : Nat) : Int) ∧ (sliceBounds lo hi none n).2.2 = 1 := by
  refine ⟨?_, ?_, rfl⟩
  · cases lo with
    | none => simp [sliceBounds, HT.sIx]
    | some i =>
      simp only [sliceBounds, HT.sIx, Option.getD_none, show (1 : Int) > 0 by decide, if_true]
      by_cases h : i < 0
      · simp only [h, if_true] <;> omega
      · simp only [h, if_false] <;> omega
  · cases hi with
    | none => simp [sliceBounds, HT.sIx]
    | some i =>
      simp only [sliceBounds, HT.sIx, Option.getD_none, show (1 : Int) > 0 by decide, if_true]
      by_cases h : i < 0
      · simp only [h, if_true] <;> omega
      · simp only [h, if_false] <;> omega
theorem slicePick_cut (its : List Value) (lo hi : Option Int) : slicePick its.toArray lo hi none = ((its.drop (HT.sIx its.length 0 lo)).take (HT.sIx its.length its.length hi - HT.sIx its.length 0 lo)).toArray := by
  obtain ⟨h1, h2, h3⟩ := slice_bounds lo hi its.toArray.size
  unfold slicePick
  rw [h1, h2, h3]
  simp only [sliceRange_one, pick_run, List.size_toArray] <;> rfl
def rSlL (K : PySem.W.Frag) : V → Option Int → Option Int → Hp → VK → Prop := fun x lo hi H Q => ∃ a xs, x = .ref a ∧ SqL K H a xs ∧ ∀ p, H p = none → Q (.ref p) (upd H p (.lst (cutV xs lo hi)))
theorem sl_list : SlR X (rSlL X.K) := by
  intro pins s σ H x v vl vu lo hi sl Q I rx hs pl pu h
  obtain ⟨a, xs, rfl, hx, q⟩ := h
  cases rx
  obtain ⟨its, r, ht, hz⟩ := I.list hx
  have hlen := r.length
  refine ⟨"list", _, slot_list_getitem.lookup, ht.isList.typeIs, ?_⟩
  refine wpAny_getItem_list_slice ht.isList hs pl pu .none (by simp) ?_ (by rw [List.size_toArray] <;> omega)
  rw [slicePick_cut, ← hlen]
  refine ⟨.ref s.heap.objs.size, _, I.laid (t' := s.toks) (o := .lst (cutV xs lo hi)) (fun b ob q => Heap.get?_push_of_some _ q) (Nat.le_refl _) ?_, rfl, q _ (I.hok.fresh (Nat.le_refl _))⟩
  exact ⟨Nat.le_trans (cutV_length xs lo hi) hz, _, 0, (r.drop (HT.sIx xs.length 0 lo)).take (HT.sIx xs.length xs.length hi - HT.sIx xs.length 0 lo), Heap.get?_push_size _ rfl⟩
theorem call_len_seq : CallR X (.builtin "len") (fun xs H Q => ∃ p ys, xs = [.ref p] ∧ (SqL X.K H p ys ∨ SqT X.K H p ys) ∧ Q (.int ys.length) H) := by
  intro pins s σ H xs us Q I r h
  obtain ⟨p, ys, rfl, hq, q⟩ := h
  obtain ⟨u, rfl, rx⟩ := vals1 r
  cases rx
  have hn := line63
  rcases hq with hq | hq
  · obtain ⟨its, r', pl, hz⟩ := I.list hq
    have hlen := r'.length
    exact Calls.call_len_list pl.isList (by simp only [List.size_toArray] <;> omega) ⟨.int ys.length, H, I.tok _, ⟨s.toks + 1, by rw [List.size_toArray, hlen]⟩, q⟩
  · obtain ⟨its, r', pl, hz⟩ := I.tuple hq
    have hlen := r'.length
    exact len_tuple pl (by simp only [List.size_toArray] <;> omega) ⟨.int ys.length, H, I.tok _, ⟨s.toks + 1, by rw [List.size_toArray, hlen]⟩, q⟩
theorem CallR.or {f : Value} {r r' : List V → Hp → VK → Prop} (h : CallR X f r) (h' : CallR X f r') : CallR X f (fun xs H Q => r xs H Q ∨ r' xs H Q) := by
  intro pins s σ H xs us Q I rs q
  rcases q with q | q
  · exact h pins s σ H xs us Q I rs q
  · exact h' pins s σ H xs us Q I rs q
theorem call_list_of : CallR X (.type "list") (fun xs H Q => ∃ p ys, xs = [.ref p] ∧ (SqL X.K H p ys ∨ SqT X.K H p ys) ∧ ∀ l, H l = none → Q (.ref l) (upd H l (.lst ys))) := by
  intro pins s σ H xs us Q I r h
  obtain ⟨p, ys, rfl, hq, q⟩ := h
  obtain ⟨u, rfl, rx⟩ := vals1 r
  cases rx
  have fin : ∀ (its : List Value), Vals ys its → ys.length ≤ sizeLine → ∀ (h' : Heap) (c' : Nat), (∀ b o', s.heap.get? b = some o' → h'.get? b = some o') →
      h'.get? s.heap.objs.size = some { cls := .type "list", dict := none, data := .seq its.toArray c', slots := #[] } → EP X pins σ Q (.ref s.heap.objs.size) { s with heap := h' } := fun its r' hz h' c' kp e =>
    ⟨.ref s.heap.objs.size, _, I.laid (t' := s.toks) kp (Nat.le_refl _) (show ObjOk X.prog X.w _ h' _ (.lst ys) from ⟨hz, its, c', r', e⟩), rfl, q _ (I.hok.fresh (Nat.le_refl _))⟩
  rcases hq with hq | hq
  · obtain ⟨its, r', pl, hz⟩ := I.list hq
    have hlen := r'.length
    obtain ⟨o, ho, hc, n, hd⟩ := pl.isList
    exact call_list_seq p (.inl rfl) ho hc hd (fun h' c' kp e => fin its r' hz h' c' kp e) (by simp only [List.size_toArray] <;> omega)
  · obtain ⟨its, r', pl, hz⟩ := I.tuple hq
    have hlen := r'.length
    obtain ⟨o, ho, hc, n, hd⟩ := pl
    exact call_list_seq p (.inr rfl) ho hc hd (fun h' c' kp e => fin its r' hz h' c' kp e) (by simp only [List.size_toArray] <;> omega)
def tyV (K : PySem.W.Frag) (T : String) (x : V) (H : Hp) : Prop := match x with
  | .str _ => T = "str"
  | .int _ => T = "int"
  | .ref p => (T = "list" ∧ ∃ xs, SqL K H p xs) ∨ (T = "tuple" ∧ ∃ o, K.lookup p = some o ∧ o.cls = .type "tuple" ∧ o.dict = none) ∨
      (T = "dict" ∧ ((∃ kvs, H p = some (.dK kvs)) ∨ ∃ kvs, H p = some (.dT kvs))) ∨ (T = "set" ∧ ∃ S n, H p = some (.set S n))
  | _ => False
theorem tyV_is {pins : List (Addr × Obj)} {σ : St} {H : Hp} {s : Shared} {T : String} {x : V} {v : Value} (I : Inv X pins σ H s) (r : RelV x v) (ty : tyV X.K T x H) :
    s.TypeIs v T ∧ ∀ a, v = .ref a → ∃ ob, s.heap.get? a = some ob ∧ ob.dict = none := by
  cases x with
  | str z =>
    obtain ⟨t, rfl⟩ := r
    cases (show T = "str" from ty)
    exact ⟨typeIs_str s z t, fun _ e => nomatch e⟩
  | int i =>
    obtain ⟨t, rfl⟩ := r
    cases (show T = "int" from ty)
    exact ⟨typeIs_int s i t, fun _ e => nomatch e⟩
  | ref p =>
    cases r
    rcases ty with ⟨rfl, xs, hq⟩ | ⟨rfl, o, hk, hc, hd⟩ | ⟨rfl, hk⟩ | ⟨rfl, S, n, hk⟩
    · obtain ⟨its, _, pl, _⟩ := I.list hq
      refine ⟨pl.isList.typeIs, fun a e => ?_⟩
      cases e
      obtain ⟨o, n, e, c, hd, _⟩ := pl
      exact ⟨o, e, hd⟩
    · refine ⟨⟨o, I.kIn p o hk, hc⟩, fun a e => ?_⟩
      cases e
      exact ⟨o, I.kIn _ o hk, hd⟩
    · have z : ∃ o, s.heap.get? p = some o ∧ o.ExactDict := by
        rcases hk with ⟨kvs, hk⟩ | ⟨kvs, hk⟩
        · obtain ⟨_, _, _, _, o, _, _, e, ex, _⟩ := I.hok p _ hk
          exact ⟨o, e, ex⟩
        · obtain ⟨_, _, _, _, o, _, _, e, ex, _⟩ := I.hok p _ hk
          exact ⟨o, e, ex⟩
      obtain ⟨o, e, ex⟩ := z
      refine ⟨⟨o, e, ex.1⟩, fun a e2 => ?_⟩
      cases e2
      exact ⟨o, e, ex.2.1⟩
    · obtain ⟨o, _, _, _, e, ex, _⟩ := I.hok p _ hk
      refine ⟨⟨o, e, ex.1⟩, fun a e2 => ?_⟩
      cases e2
      exact ⟨o, e, ex.2.1⟩
  | _ => exact False.elim ty
def tBM0 (K : PySem.W.Frag) (T : String) (r : V → List V → Hp → VK → Prop) (to : TE) : TE := fun σ H Q => to σ H fun x H1 => tyV K T x H1 ∧ r x [] H1 Q
def tBM (K : PySem.W.Frag) (T : String) (r : V → List V → Hp → VK → Prop) (to : TE) (t : TA) : TE := fun σ H Q => to σ H fun x H1 => tyV K T x H1 ∧ t σ H1 fun xs H2 => r x xs H2 Q
variable {o e : Expr} {es : List Expr} {to : TE} {t : TA} {name : Str} {apos cpos : Pos} {T id : String} {r : V → List V → Hp → VK → Prop}
theorem pe_bm0 (pa : PlainAttrs T) (slot : Slot T name id) (hty : typeOf (.builtin id) = pure (.type "method_descriptor")) (hm : MtR X id r) (ho : PE X o to)
    (hbase : attributeBase o name X.env (eval o X.env) = eval o X.env := by rfl) (hline : (apos.endLine == cpos.line) = true := by rfl) : PE X (.Call (.Attribute o name apos) [] [] cpos) (tBM0 X.K T r to) := by
  intro pins s σ H Q I h
  refine wpAny_Call_method0_late hbase hline (thn (ho pins s σ H _ I h) fun v s1 ⟨x, H1, I1, r1, ty, q1⟩ => ?_)
  obtain ⟨h1, h2⟩ := tyV_is I1 r1 ty
  exact ⟨T, id, pa, slot, hty, h1, h2, Calls.callWith_builtin rfl (PySem.evalArgs_none (hm pins s1 σ H1 x [] v [] Q I1 r1 .nil q1))⟩
theorem pe_bm (pa : PlainAttrs T) (slot : Slot T name id) (hty : typeOf (.builtin id) = pure (.type "method_descriptor")) (hm : MtR X id r) (ho : PE X o to) (ha : PA X (e :: es) t)
    (hbase : attributeBase o name X.env (eval o X.env) = eval o X.env := by rfl)
    (hfew : ((backTo cpos (starEach (e :: es) X.env)).all (fun x => !x.1) && (backToKw cpos (keywordEach [] X.env)).all (fun x => x.1.isSome)
      && decide ((e :: es).length + ([] : List Keyword).length + (if ([] : List Keyword).isEmpty then 0 else 1) < 30)) = true := by rfl)
    (hline : (apos.endLine == cpos.line) = true := by rfl) (hs : starEach (e :: es) X.env = (false, eval e X.env) :: starEach es X.env := by rfl) (hplain : (backTo cpos (starEach es X.env)).any (·.1) = false := by rfl) :
    PE X (.Call (.Attribute o name apos) (e :: es) [] cpos) (tBM X.K T r to t) := by
  intro pins s σ H Q I h
  refine wpAny_Call_method_late hbase hfew hline rfl (thn (ho pins s σ H _ I h) fun v s1 ⟨x, H1, I1, r1, ty, q1⟩ => ?_)
  obtain ⟨h1, h2⟩ := tyV_is I1 r1 ty
  refine ⟨T, id, pa, slot, hty, h1, h2, ?_⟩
  have hA := ha cpos pins s1 σ H1 _ I1 q1
  rw [hs] at hA ⊢
  refine Calls.callWith_builtin (by show (false || (backTo cpos (starEach es X.env)).any (·.1)) = false; rw [hplain] <;> rfl) (Calls.evalArgs_plain ?_)
  exact thn hA fun us s2 ⟨vs, H2, I2, r2, q2⟩ => hm pins s2 σ H2 x vs v us Q I2 r1 r2 q2
end
end L2
namespace L2
open PySem PySem.Spec PyProof.Rows
def MtM (X : Cx) (id : String) (r : V → List V → Hp → VK → Prop) : Prop :=
  ∀ (pins : List (Addr × Obj)) (s : Shared) (σ : St) (H : Hp) (x : V) (xs : List V) (v : Value) (us : List Value) (Q : VK), Inv X pins σ H s → RelV x v → Vals xs us → r x xs H Q →
    wpAny (model X.prog X.w) X.A (call (.builtin id) (v :: us)) (EP X pins σ Q) X.xe s
theorem Vals.one : ∀ {x : V} {us : List Value}, Vals [x] us → ∃ u, us = [u] ∧ RelV x u
  | _, _, .cons r .nil => ⟨_, rfl, r⟩
theorem Vals.two : ∀ {x y : V} {us : List Value}, Vals [x, y] us → ∃ u v, us = [u, v] ∧ RelV x u ∧ RelV y v
  | _, _, _, .cons r (.cons q .nil) => ⟨_, _, rfl, r, q⟩
theorem Vals.zero : ∀ {us : List Value}, Vals [] us → us = []
  | _, .nil => rfl
theorem Vals.rep {xs : List V} {us : List Value} (h : Vals xs us) : ∀ k : Nat, Vals (List.replicate k xs).flatten (List.replicate k us).flatten
  | 0 => .nil
  | k + 1 => by
    rw [List.replicate_succ, List.replicate_succ, List.flatten_cons, List.flatten_cons]
    exact Vals.append h (Vals.rep h k)
theorem foldl_rep (its : List Value) : ∀ (k : Nat) (acc : List Value),
    List.foldl (fun x1 x2 => x1 ++ x2) acc.toArray (List.replicate k its.toArray) = (acc ++ (List.replicate k its).flatten).toArray
  | 0, acc => by simp
  | k + 1, acc => by
    have e : acc.toArray ++ its.toArray = (acc ++ its).toArray := by simp
    have e2 : (acc ++ its) ++ (List.replicate k its).flatten = acc ++ (List.replicate (k + 1) its).flatten := by
      rw [List.replicate_succ, List.flatten_cons, List.append_assoc]
    rw [← e2, ← foldl_rep its k (acc ++ its), ← e, List.replicate_succ, List.foldl_cons]
section
variable {X : Cx} {pins : List (Addr × Obj)} {σ : St} {H : Hp} {s : Shared} {l b : Addr} {xs ys zs : List V}
theorem Inv.lset {its its' : List Value} {n : Nat} {f : Array Value → Array Value} {t' : Nat} (I : Inv X pins σ H s) (hH : H l = some (.lst xs))
    (e : s.heap.get? l = some { cls := .type "list", data := .seq its.toArray n }) (hf : f its.toArray = its'.toArray) (hv : Vals ys its') (hz : ys.length ≤ sizeLine) :
    Inv X pins σ (upd H l (.lst ys)) { s with heap := s.heap.update l (Obj.mapSeq f), toks := t' } := by
  have q := PySem.IsL.update e f
  rw [hf] at q
  refine I.write (x := l) (e := l) (by rw [hH]; exact trivial) (.inl rfl) (fun b' u hb hu => (Heap.get?_update_other s.heap (Obj.mapSeq f) (Ne.symm hb)).trans hu) ⟨_, q⟩ ?_
  exact ⟨hz, its', _, hv, q⟩
theorem Inv.lnew {its : List Value} {t' : Nat} (I : Inv X pins σ H s) (hv : Vals ys its) (hz : ys.length ≤ sizeLine) :
    Inv X pins σ (upd H s.heap.objs.size (.lst ys)) { s with heap := s.heap.push { cls := .type "list", data := .seq its.toArray }, toks := t' } :=
  I.laid (fun _ _ q => Heap.get?_push_of_some _ q) (Nat.le_refl _) ⟨hz, its, 0, hv, Heap.get?_push_size _ rfl⟩
theorem Inv.fresh (I : Inv X pins σ H s) : H s.heap.objs.size = none := I.hok.fresh (Nat.le_refl _)
theorem Inv.lstM (I : Inv X pins σ H s) (hH : H l = some (.lst xs)) : xs.length ≤ sizeLine ∧ ∃ (its : List Value) (n : Nat), Vals xs its ∧ xs.length = its.length ∧ s.heap.get? l = some { cls := .type "list", data := .seq its.toArray n } := by
  obtain ⟨z, its, n, r, e⟩ := I.hok l _ hH
  exact ⟨z, its, n, r, r.length, e⟩
theorem notLongL {n : Nat} (h : n ≤ sizeLine) : Builtin.List.listTooLong n = false := by
  unfold Builtin.List.listTooLong
  exact decide_eq_false (by omega)
end
section
variable {X : Cx}
def rAppend : V → List V → Hp → VK → Prop := fun x vs H Q => ∃ l xs y, x = .ref l ∧ vs = [y] ∧ H l = some (.lst xs) ∧ xs.length < sizeLine ∧ Q .non (upd H l (.lst (xs ++ [y])))
theorem mt_append : MtM X "list.append" rAppend := by
  intro pins s σ H x vs v us Q I rx rv h
  obtain ⟨l, xs, y, rfl, rfl, hH, hz, q⟩ := h
  cases rx
  obtain ⟨u, rfl, ru⟩ := rv.one
  obtain ⟨z, its, n, r, hl, e⟩ := I.lstM hH
  refine call_meets F.slot_list_append ⟨_, e, rfl⟩ F.entry_list_append (F.args_list_append_2 _ _) (PySem.list_append l its.toArray n u (by rw [List.size_toArray]; omega)) ⟨e, ?_⟩
  refine ⟨.non, _, I.lset (its' := its ++ [u]) hH e (by simp) (r.append (.cons ru .nil)) ?_, rfl, q⟩
  rw [List.length_append, List.length_singleton]
  omega
def rExtend : V → List V → Hp → VK → Prop := fun x vs H Q => ∃ l b xs zs, x = .ref l ∧ vs = [.ref b] ∧ H l = some (.lst xs) ∧ H b = some (.lst zs) ∧ xs.length + zs.length ≤ sizeLine ∧ Q .non (upd H l (.lst (xs ++ zs)))
theorem mt_extend : MtM X "list.extend" rExtend := by
  intro pins s σ H x vs v us Q I rx rv h
  obtain ⟨l, b, xs, zs, rfl, rfl, hH, hB, hz, q⟩ := h
  cases rx
  obtain ⟨u, rfl, ru⟩ := rv.one
  cases ru
  obtain ⟨z, its, n, r, hl, e⟩ := I.lstM hH
  obtain ⟨z2, its2, n2, r2, hl2, e2⟩ := I.lstM hB
  have hsz : its.toArray.size + its2.toArray.size ≤ sizeLine := by rw [List.size_toArray, List.size_toArray]; omega
  have hlong : ¬ (!its.toArray.isEmpty && Builtin.List.listTooLong (its.toArray.size + its2.toArray.size)) = true := by
    rw [notLongL hsz, Bool.and_false]
    exact Bool.false_ne_true
  refine call_meets F.slot_list_extend ⟨_, e, rfl⟩ F.entry_list_extend (F.args_list_extend_2 _ _)
    (AutoSeq1.list_extend_list_list_0 l its.toArray n b its2.toArray n2 hlong (by rw [List.size_toArray]; omega) (by omega)) ⟨e, e2, ?_⟩
  refine ⟨.non, _, I.lset (its' := its ++ its2) hH e (by simp) (r.append r2) ?_, rfl, q⟩
  rw [List.length_append]
  omega
def rCat : R2 := fun x y H Q => ∃ l b xs zs, x = .ref l ∧ y = .ref b ∧ H l = some (.lst xs) ∧ H b = some (.lst zs) ∧ xs.length + zs.length ≤ sizeLine ∧ ∀ p, H p = none → Q (.ref p) (upd H p (.lst (xs ++ zs)))
theorem op_cat : OpR X (binaryOp .Add) rCat := by
  intro pins s σ H x y v u Q I rx ry h
  obtain ⟨l, b, xs, zs, rfl, rfl, hH, hB, hz, q⟩ := h
  cases rx
  cases ry
  obtain ⟨z, its, n, r, hl, e⟩ := I.lstM hH
  obtain ⟨z2, its2, n2, r2, hl2, e2⟩ := I.lstM hB
  refine PySem.P.add_list e e2 ?_ (by rw [List.size_toArray, List.size_toArray]; omega)
  have ea : its.toArray ++ its2.toArray = (its ++ its2).toArray := by simp
  rw [ea]
  exact ⟨.ref _, _, I.lnew (t' := s.toks) (r.append r2) (by rw [List.length_append]; omega), rfl, q _ I.fresh⟩
def rRep : R2 := fun x y H Q => ∃ l k xs, x = .ref l ∧ y = .int k ∧ H l = some (.lst xs) ∧ -(2 ^ 63) ≤ k ∧ k < 2 ^ 63 ∧ xs.length * k.toNat ≤ sizeLine ∧
  ∀ p, H p = none → Q (.ref p) (upd H p (.lst (List.replicate k.toNat xs).flatten))
theorem len_rep {α : Type} (xs : List α) (k : Nat) : (List.replicate k xs).flatten.length = k * xs.length := by
  induction k with
  | zero => simp
  | succ k ih => rw [List.replicate_succ, List.flatten_cons, List.length_append, ih, Nat.succ_mul, Nat.add_comm]
theorem op_rep : OpR X (binaryOp .Mult) rRep := by
  intro pins s σ H x y v u Q I rx ry h
  obtain ⟨l, k, xs, rfl, rfl, hH, h1, h2, hz, q⟩ := h
  cases rx
  obtain ⟨t, rfl⟩ := ry
  obtain ⟨z, its, n, r, hl, e⟩ := I.lstM hH
  have hlen : its.toArray.size * k.toNat ≤ sizeLine := by rw [List.size_toArray, ← hl]; exact hz
  have hcap : ¬ its.toArray.size * k.toNat > (2 ^ 63 - 1) / 8 := by
    have : (sizeLine : Nat) ≤ (2 ^ 63 - 1) / 8 := by decide
    omega
  have hfit : ¬ (!Builtin.List.listFitsIndex k) = true := by
    rw [fitsIndex_both h1 h2]
    exact Bool.false_ne_true
  have hlong : ¬ Builtin.List.listTooLong (its.toArray.size * k.toNat) = true := by
    rw [notLongL hlen]
    exact Bool.false_ne_true
  have hnew : List.foldl (fun x1 x2 => x1 ++ x2) #[] (List.replicate (if its.toArray.isEmpty = true then 0 else k.toNat) its.toArray) = (List.replicate k.toNat its).flatten.toArray := by
    have f0 : ∀ m : Nat, List.foldl (fun x1 x2 => x1 ++ x2) #[] (List.replicate m its.toArray) = (List.replicate m its).flatten.toArray := fun m => by
      have := foldl_rep its m []
      rw [List.nil_append] at this
      exact this
    rw [f0]
    cases its with
    | nil => simp
    | cons a r' => rw [if_neg (by simp)]
  refine wpAny_binaryOp_repeat_ref (T := "list") (U := "int") (by decide) ⟨_, e, rfl⟩ (fun s' => typeIs_int s' k t) noFill_list_mul F.fills_int_mul F.slot_int_rmul repeat_list F.slot_int_index.lookup
    (call_meets F.slot_int_rmul (typeIs_int s k t) F.entry_int_rmul (F.args_int_rmul_2 _ _) (int___rmul___int_list k t l its.toArray n)
      ⟨e, rfl, ⟨_, e, rfl⟩, call_meets F.slot_list_mul ⟨_, e, rfl⟩ F.entry_list_mul (F.args_list_mul_2 _ _) (AutoListH.list___mul___list_int_3 l its.toArray n k t hfit hcap hlong) ⟨e, ?_⟩⟩)
  rw [hnew]
  exact ⟨.ref _, _, I.lnew (t' := s.toks) (r.rep k.toNat) (by rw [len_rep, Nat.mul_comm]; exact hz), rfl, q _ I.fresh⟩
end
section
variable {prog : Program} {w : World} {A : Around} {E : Value → Shared → Prop} {s : Shared}
set_option maxRecDepth 100000 in
end
section
variable {X : Cx}
end
end L2
namespace L2
open PySem PySem.Spec PyProof.Rows
theorem Vals.ints : ∀ {ns : List Int} {us : List Value}, Vals (ns.map V.int) us → IntsAre us ns
  | [], us, h => by
    rw [List.map_nil] at h
    cases h
    exact IntsAre.nil
  | n :: ns, us, h => by
    rw [List.map_cons] at h
    cases h with
    | cons r t =>
      obtain ⟨k, rfl⟩ := r
      exact IntsAre.cons n k (Vals.ints t)
theorem vals_of_ints : ∀ {us : List Value} {ns : List Int}, IntsAre us ns → Vals (ns.map V.int) us
  | _, _, .nil => by rw [List.map_nil]; exact Paired.nil
  | _, _, .cons n t h => by rw [List.map_cons]; exact Paired.cons (show RelV (V.int n) (Value.int n t) from ⟨t, rfl⟩) (vals_of_ints h)
theorem Vals.strs : ∀ {xs : List Str} {us : List Value}, Vals (xs.map V.str) us → StrsAre us xs
  | [], us, h => by
    rw [List.map_nil] at h
    cases h
    exact StrsAre.nil
  | x :: xs, us, h => by
    rw [List.map_cons] at h
    cases h with
    | cons r t =>
      obtain ⟨k, rfl⟩ := r
      exact StrsAre.cons x k (Vals.strs t)
theorem Vals.bls : ∀ {bs : List Bool} {us : List Value}, Vals (bs.map V.bl) us → us = bs.map Value.bool
  | [], us, h => by
    rw [List.map_nil] at h
    cases h
    rfl
  | b :: bs, us, h => by
    rw [List.map_cons] at h
    cases h with
    | cons r t =>
      cases r
      rw [Vals.bls t, List.map_cons]
theorem Vals.ref1 {a : Addr} {us : List Value} (r : Vals [V.ref a] us) : us = [Value.ref a] := by
  cases r with
  | cons r t =>
    cases t
    cases r
    rfl
theorem Vals.int2 {i j : Int} {us : List Value} (r : Vals [V.int i, V.int j] us) : ∃ t u, us = [Value.int i t, Value.int j u] := by
  cases r with
  | cons r t =>
    cases t with
    | cons r2 t2 =>
      cases t2
      obtain ⟨t, rfl⟩ := r
      obtain ⟨u, rfl⟩ := r2
      exact ⟨t, u, rfl⟩
section
variable {prog : Program} {w : World} {A : Around} {E : Value → Shared → Prop} {s : Shared} {l : Addr} {its : List Value} {ns : List Int} {Q : Value → Shared → Prop}
theorem sum_raw (hh : A.handled = none) (hl : s.heap.IsList l its.toArray) (hi : IntsAre its ns)
    (h : ∀ h' tk t', (∀ b o, s.heap.get? b = some o → h'.get? b = some o) → Q (.int ns.sum t') { s with heap := h', toks := tk }) : wpAny (model prog w) A (call (.builtin "sum") [.ref l]) Q E s := by
  obtain ⟨xs, e⟩ := hi.allInts.items
  have hn : numsOf (intItems xs).toList = ns := by rw [← e]; exact hi.numsOf
  rw [nums_intItems] at hn
  rw [e] at hl
  refine PySem.sum_intListG hh hl fun h' tk t' hk => ?_
  have := h h' tk t' hk
  rw [preSum_eq, List.take_of_length_le (by simp), hn]; exact this
theorem min_raw (hh : A.handled = none) (hl : s.heap.IsList l its.toArray) (hi : IntsAre its ns) (hne : 0 < ns.length)
    (h : ∀ h' tk M t', (∀ b o, s.heap.get? b = some o → h'.get? b = some o) → M ∈ ns → (∀ a, a ∈ ns → M ≤ a) → Q (.int M t') { s with heap := h', toks := tk }) : wpAny (model prog w) A (call (.builtin "min") [.ref l]) Q E s := by
  obtain ⟨xs, e⟩ := hi.allInts.items
  have hn : numsOf (intItems xs).toList = ns := by rw [← e]; exact hi.numsOf
  rw [nums_intItems] at hn
  subst hn
  rw [e] at hl
  have hsz : 0 < xs.size := by simpa using hne
  refine PySem.min_intList hh hl hsz fun v h' tk hv hk => ?_
  obtain ⟨t, rfl⟩ := intItems_at hv
  obtain ⟨h1, h2⟩ := argBest_lt (numAt xs) (xs.size - 1)
  refine h h' tk _ t hk ?_ fun a ha => ?_
  · rw [numAt_eq]; exact PySem.getD_mem (by rw [List.length_map, Array.length_toList]; omega)
  · obtain ⟨j, hj, rfl⟩ := mem_getD ha
    rw [List.length_map, Array.length_toList] at hj
    rw [← numAt_eq]; exact h2 j (by omega)
end
section
variable {X : Cx}
def rSum (K : PySem.W.Frag) : List V → Hp → VK → Prop := fun vs H Q => ∃ (a : Addr) (ns : List Int), vs = [V.ref a] ∧ SqL K H a (ns.map V.int) ∧ Q (.int ns.sum) H
def rMin (K : PySem.W.Frag) : List V → Hp → VK → Prop := fun vs H Q => ∃ (a : Addr) (ns : List Int), vs = [V.ref a] ∧ SqL K H a (ns.map V.int) ∧ 0 < ns.length ∧ ∀ m, m ∈ ns → (∀ y, y ∈ ns → m ≤ y) → Q (.int m) H
theorem cr_sum (hc : X.calm = true) : CallR X (.builtin "sum") (rSum X.K) := by
  intro pins s σ H vs us Q I r h
  obtain ⟨a, ns, rfl, hs, q⟩ := h
  obtain ⟨its, rv, hl, _⟩ := I.list hs
  rw [Vals.ref1 r]
  exact sum_raw (I.ok.hd hc) hl.isList rv.ints fun h' tk t' hk => ⟨.int _, H, I.kept hk, ⟨_, rfl⟩, q⟩
theorem cr_min (hc : X.calm = true) : CallR X (.builtin "min") (rMin X.K) := by
  intro pins s σ H vs us Q I r h
  obtain ⟨a, ns, rfl, hs, hne, q⟩ := h
  obtain ⟨its, rv, hl, _⟩ := I.list hs
  rw [Vals.ref1 r]
  exact min_raw (I.ok.hd hc) hl.isList rv.ints hne fun h' tk m t' hk h1 h2 => ⟨.int _, H, I.kept hk, ⟨_, rfl⟩, q m h1 h2⟩
def rSorted (K : PySem.W.Frag) : List V → Hp → VK → Prop := fun vs H Q => ∃ (a : Addr) (ns : List Int), vs = [V.ref a] ∧ SqL K H a (ns.map V.int) ∧ ns.length < 64 ∧
  ∀ (ns' : List Int) (p : Addr), ns'.Perm ns → ns'.Pairwise (· ≤ ·) → H p = none → Q (.ref p) (upd H p (.lst (ns'.map V.int)))
theorem small64 {n : Nat} (h : n < 64) : n ≤ sizeLine := by rw [sizeLine_eq]; omega
theorem cr_sorted : CallR X (.builtin "sorted") (rSorted X.K) := by
  intro pins s σ H vs us Q I r h
  obtain ⟨a, ns, rfl, hs, h64, q⟩ := h
  obtain ⟨its, rv, hl, _⟩ := I.list hs
  rw [Vals.ref1 r]
  have hi := rv.ints
  refine PyProof.Rows.sorted_ints hl.isList hi (by rw [hi.length]; exact h64) fun out ns' h1 h2 h3 => ?_
  obtain ⟨ep, he'⟩ := PyProof.Rows.sortedAll_at s.heap its out
  have hlen : (ns'.map V.int).length ≤ sizeLine := by rw [List.length_map, h2.length_eq]; exact small64 h64
  exact ⟨.ref _, upd H (s.heap.objs.size + 1) (.lst (ns'.map V.int)), I.laid (t' := s.toks) (fun _ _ => PyProof.Rows.sortedAll_old) (Nat.le_succ _) ⟨hlen, out.toList, ep, vals_of_ints h1, he'⟩, rfl, q ns' _ h2 h3 (I.hok.fresh (Nat.le_succ _))⟩
end
section
variable {X : Cx}
end
section
variable {X : Cx}
end
theorem iter_any {prog : Program} {w : World} {A : Around} {E : Value → Shared → Prop} {s : Shared} {l : Addr} {items : Array Value} {Q : Value → Shared → Prop} (hl : s.heap.IsList l items)
    (h : ∀ s₂ : Shared, s₂ = { s with heap := s.heap.push { cls := .type "list_iterator", data := .fields #[.ref l, .int 0 0] } } →
      (s₂.heap.IsListIter s.heap.objs.size l 0 ∧ s₂.heap.IsList l items) → l ≠ s.heap.objs.size → Q (.ref s.heap.objs.size) s₂) : wpAny (model prog w) A (pyIter (.ref l)) Q E s := by
  have hlt : l < s.heap.objs.size := by obtain ⟨_, e, _⟩ := hl; exact Heap.lt_size e
  exact wpAny_pyIter_list hl (h _ rfl ⟨⟨_, Heap.get?_push_size _ rfl, rfl, rfl⟩, hl.push _⟩ (Nat.ne_of_lt hlt))
theorem truth_bools {prog : Program} {w : World} {A : Around} {bs : List Bool} {its : List Value} (e : its = bs.map Value.bool) :
    TruthOf prog w A (fun i v => its.toArray[i]? = some v) (fun i => bs.getD i false) := fun i v s Q E hv hq => by
  have hv' : its[i]? = some v := by simpa using hv
  rw [e, List.getElem?_map] at hv'
  obtain ⟨b, hb, rfl⟩ := Option.map_eq_some_iff.mp hv'
  have hg : bs.getD i false = b := by rw [List.getD_eq_getElem?_getD, hb] <;> rfl
  have hq' : Q (bs.getD i false) s := hq
  rw [hg] at hq'
  exact wpAny_truthy_bool hq'
theorem any_range : ∀ bs : List Bool, (List.range bs.length).any (fun i => bs.getD i false) = bs.any id
  | [] => rfl
  | b :: bs => by
    rw [List.length_cons, List.range_succ_eq_map, List.any_cons, List.any_map, List.any_cons, ← any_range bs]
    all_goals rfl
section
variable {X : Cx}
def rAny (K : PySem.W.Frag) : List V → Hp → VK → Prop := fun vs H Q => ∃ (a : Addr) (bs : List Bool), vs = [V.ref a] ∧ SqL K H a (bs.map V.bl) ∧ Q (.bl (bs.any id)) H
theorem cr_any (hc : X.calm = true) : CallR X (.builtin "any") (rAny X.K) := by
  intro pins s σ H vs us Q I r h
  obtain ⟨a, bs, rfl, hs, q⟩ := h
  obtain ⟨its, rv, hl, _⟩ := I.list hs
  rw [Vals.ref1 r]
  have hb := rv.bls
  refine call_any_walk (iter_any hl.isList fun s₂ e2 st hne => ?_)
  subst e2
  refine ⟨_, _, _, _, _, _, _, rfl, Walks.list (A := X.A.in1) (I.ok.hd hc) _ a hne its.toArray, st, truth_bools hb, fun h' tk hk => ?_⟩
  refine ⟨.bl _, H, I.kept fun b o eo => hk b o (fun hmem => ?_) (Heap.get?_push_of_some _ eo), ?_, q⟩
  · rcases List.mem_cons.mp hmem with e1 | hmem
    · exact absurd (e1 ▸ Heap.lt_size eo) (Nat.lt_irrefl _)
    · cases hmem
  · show Value.bool _ = Value.bool _
    rw [← any_range, hb, List.size_toArray, List.length_map]
end
mutual
inductive Dp (K : PySem.W.Frag) (H : Hp) : V → PyData → Prop
  | non : Dp K H .non .none
  | bl (b : Bool) : Dp K H (.bl b) (.bool b)
  | int (i : Int) : Dp K H (.int i) (.int i)
  | str (x : Str) : Dp K H (.str x) (.str x)
  | lst {a : Addr} {xs : List V} {ds : List PyData} : SqL K H a xs → DpAll K H xs ds → Dp K H (.ref a) (.list ds)
  | tup {a : Addr} {xs : List V} {ds : List PyData} : SqT K H a xs → DpAll K H xs ds → Dp K H (.ref a) (.tuple ds)
inductive DpAll (K : PySem.W.Frag) (H : Hp) : List V → List PyData → Prop
  | nil : DpAll K H [] []
  | cons {v : V} {vs : List V} {d : PyData} {ds : List PyData} : Dp K H v d → DpAll K H vs ds → DpAll K H (v :: vs) (d :: ds)
end
section
variable {X : Cx} {pins : List (Addr × Obj)} {σ : St} {H : Hp} {s : Shared}
mutual
theorem Dp.reads (I : Inv X pins σ H s) : ∀ (d : PyData) (v : V) (u : Value), Dp X.K H v d → RelV v u → ∃ as, Reads s.heap u d as
  | .none, _, _, h, r => by
    cases h
    cases r
    exact ⟨_, Reads.none⟩
  | .bool b, _, _, h, r => by
    cases h
    cases r
    exact ⟨_, Reads.bool b⟩
  | .int i, _, _, h, r => by
    cases h
    obtain ⟨t, rfl⟩ := r
    exact ⟨_, Reads.int i t⟩
  | .str x, _, _, h, r => by
    cases h
    obtain ⟨t, rfl⟩ := r
    exact ⟨_, Reads.str x t⟩
  | .list ds, _, _, h, r => by
    cases h with
    | lst hs ha =>
      cases r
      obtain ⟨its, rv, ⟨o, n, ho, hc, _, hd⟩, _⟩ := I.list hs
      obtain ⟨as, hr⟩ := Dp.readsAll I ds _ its ha rv
      exact ⟨_, Reads.list ho hc hd hr⟩
  | .tuple ds, _, _, h, r => by
    cases h with
    | tup hs ha =>
      cases r
      obtain ⟨its, rv, ⟨o, ho, hc, n, hd⟩, _⟩ := I.tuple hs
      obtain ⟨as, hr⟩ := Dp.readsAll I ds _ its ha rv
      exact ⟨_, Reads.tuple ho hc hd hr⟩
  | .dict _, _, _, h, _ => by cases h
theorem Dp.readsAll (I : Inv X pins σ H s) : ∀ (ds : List PyData) (vs : List V) (us : List Value), DpAll X.K H vs ds → Vals vs us → ∃ as, ReadsAll s.heap us ds as
  | [], _, _, h, r => by
    cases h
    cases r
    exact ⟨_, ReadsAll.nil⟩
  | d :: ds, _, _, h, r => by
    cases h with
    | cons h1 h2 =>
      cases r with
      | cons r1 r2 =>
        obtain ⟨as, q1⟩ := Dp.reads I d _ _ h1 r1
        obtain ⟨bs, q2⟩ := Dp.readsAll I ds _ _ h2 r2
        exact ⟨_, ReadsAll.cons q1 q2⟩
end
end
section
variable {X : Cx}
def rEqD (K : PySem.W.Frag) : R2 := fun x y H Q => ∃ d e, Dp K H x d ∧ Dp K H y e ∧ SeqAt.shaped d = true ∧ SeqAt.shaped e = true ∧ Q (.bl (PyData.eqv d e)) H
theorem op_eqD (hu : X.A.units + 64 < cLine) : OpR X (compareOp .Eq) (rEqD X.K) := by
  intro pins s σ H x y v u Q I rx ry h
  obtain ⟨d, e, hd, he, sd, se, q⟩ := h
  obtain ⟨as, r1⟩ := Dp.reads I d x v hd rx
  obtain ⟨bs, r2⟩ := Dp.reads I e y u he ry
  exact SeqAt.compareEq_shaped r1 r2 sd se hu ⟨.bl _, H, I, rfl, q⟩
end
end L2
namespace L2
open PySem PySem.Spec PyProof.Rows
abbrev CellAt (h : Heap) (c : Addr) (v : Option Value) : Prop := h.IsCell c v
def relS (scope sc : Scope) : Scope :=
  { scope with names := scope.names.map fun (n, k) => if (k == .free && sc.kind == .function && sc.names.lookup n == some .cell) then (n, .cell) else (n, k) }
def cloFrom (cells : List (Str × Addr)) : List (Str × NameKind) → List (Str × Addr) → List (Str × Addr)
  | [], acc => acc
  | (n, k) :: r, acc => if k == .free then cloFrom cells r ((n, (cells.lookup n).getD 0) :: acc) else cloFrom cells r acc
theorem closure_loop (env : Env) (f : Str × NameKind → List (Str × Addr) → Sem (ForInStep (List (Str × Addr))))
    (hf : ∀ n k c, f (n, k) c = if k == .free then (do let a ← cellOf env n; pure (.yield ((n, a) :: c))) else pure (.yield c)) :
    ∀ (names : List (Str × NameKind)) (acc : List (Str × Addr)), (∀ y ∈ names, y.2 = .free → ∃ c, env.cells.lookup y.1 = some c) → forIn names acc f = pure (cloFrom env.cells names acc)
  | [], acc, _ => by rw [List.forIn_nil]; rfl
  | (n, k) :: r, acc, h => by
    rw [List.forIn_cons, hf]
    have ih := fun acc => closure_loop env f hf r acc fun y hy => h y (List.mem_cons_of_mem _ hy)
    unfold cloFrom
    by_cases hk : (k == NameKind.free) = true
    · rw [if_pos hk, if_pos hk]
      obtain ⟨c, hc⟩ := h (n, k) List.mem_cons_self (by simpa using hk)
      have e : cellOf env n = pure c := by unfold cellOf; rw [hc]
      rw [e]
      have e2 : (env.cells.lookup n).getD 0 = c := by rw [hc]; rfl
      rw [e2]
      exact ih _
    · rw [if_neg hk, if_neg hk]
      exact ih _
theorem closure_ok {scope : Scope} {env : Env} (h : ∀ y ∈ scope.names, y.2 = .free → ∃ c, env.cells.lookup y.1 = some c) : closureFor scope env = pure (cloFrom env.cells scope.names []) := by
  simp only [closureFor]
  rw [closure_loop env _ (fun n k c => rfl) scope.names [] h]
  rfl
theorem mem_lookup {α : Type} : ∀ {l : List (Str × α)} {n : Str} {c : α}, (n, c) ∈ l → ∃ c', l.lookup n = some c'
  | (k, v) :: r, n, c, h => by
    rw [List.lookup_cons]
    cases hb : n == k with
    | true => exact ⟨_, rfl⟩
    | false =>
      rcases List.mem_cons.mp h with e | h
      · cases e; simp at hb
      · exact mem_lookup h
theorem cloFrom_mem {cells : List (Str × Addr)} : ∀ {names : List (Str × NameKind)} {acc : List (Str × Addr)} {n : Str} {c : Addr}, (n, c) ∈ cloFrom cells names acc → (n, c) ∈ acc ∨ ((n, .free) ∈ names ∧ c = (cells.lookup n).getD 0)
  | [], _, _, _, h => .inl h
  | (m, k) :: r, acc, n, c, h => by
    unfold cloFrom at h
    split at h
    · rename_i hk
      have hk : k = .free := by simpa using hk
      rcases cloFrom_mem h with h | ⟨h1, h2⟩
      · rcases List.mem_cons.mp h with e | h
        · cases e; exact .inr ⟨hk ▸ List.mem_cons_self, rfl⟩
        · exact .inl h
      · exact .inr ⟨List.mem_cons_of_mem _ h1, h2⟩
    · rcases cloFrom_mem h with h | ⟨h1, h2⟩
      · exact .inl h
      · exact .inr ⟨List.mem_cons_of_mem _ h1, h2⟩
theorem cloFrom_acc {cells : List (Str × Addr)} : ∀ {names : List (Str × NameKind)} {acc : List (Str × Addr)} {p : Str × Addr}, p ∈ acc → p ∈ cloFrom cells names acc
  | [], _, _, h => h
  | (m, k) :: r, acc, p, h => by
    unfold cloFrom
    split
    · exact cloFrom_acc (List.mem_cons_of_mem _ h)
    · exact cloFrom_acc h
theorem cloFrom_has {cells : List (Str × Addr)} : ∀ {names : List (Str × NameKind)} {acc : List (Str × Addr)} {n : Str}, (n, .free) ∈ names → (n, (cells.lookup n).getD 0) ∈ cloFrom cells names acc
  | (m, k) :: r, acc, n, h => by
    unfold cloFrom
    rcases List.mem_cons.mp h with e | h
    · cases e
      exact cloFrom_acc List.mem_cons_self
    · split
      · exact cloFrom_has h
      · exact cloFrom_has h
theorem cells_mem : ∀ {names : List (Str × NameKind)} {h : Heap} {acc : List (Str × Addr)} {x : Str} {c : Addr}, (x, c) ∈ cellsFrom h.objs.size names acc →
    (x, c) ∈ acc ∨ ((x, .cell) ∈ names ∧ h.objs.size ≤ c ∧ CellAt (pushCells h names) c none)
  | [], _, _, _, _, h => .inl h
  | (n, k) :: r, h, acc, x, c, hm => by
    unfold cellsFrom at hm
    unfold pushCells
    split at hm
    · rename_i hk
      rw [if_pos hk]
      have hk : k = .cell := by simpa using hk
      rw [← Heap.size_push h { cls := .type "cell", data := .cell none }] at hm
      rcases cells_mem hm with hm | ⟨h1, h2, h3⟩
      · rcases List.mem_cons.mp hm with e | hm
        · cases e
          exact .inr ⟨hk ▸ List.mem_cons_self, Nat.le_refl _, _, pushCells_keeps r _ _ _ (Heap.get?_push_size _ rfl), rfl⟩
        · exact .inl hm
      · rw [Heap.size_push] at h2
        exact .inr ⟨List.mem_cons_of_mem _ h1, Nat.le_of_succ_le h2, h3⟩
    · rename_i hk
      rw [if_neg hk]
      rcases cells_mem hm with hm | ⟨h1, h2, h3⟩
      · exact .inl hm
      · exact .inr ⟨List.mem_cons_of_mem _ h1, h2, h3⟩
theorem cells_acc : ∀ {names : List (Str × NameKind)} {n : Nat} {acc : List (Str × Addr)} {p : Str × Addr}, p ∈ acc → p ∈ cellsFrom n names acc
  | [], _, _, _, h => h
  | (m, k) :: r, n, acc, p, h => by
    unfold cellsFrom
    split
    · exact cells_acc (List.mem_cons_of_mem _ h)
    · exact cells_acc h
theorem cells_has : ∀ {names : List (Str × NameKind)} {n : Nat} {acc : List (Str × Addr)} {x : Str}, (x, .cell) ∈ names → ∃ c, (x, c) ∈ cellsFrom n names acc
  | (m, k) :: r, n, acc, x, h => by
    unfold cellsFrom
    rcases List.mem_cons.mp h with e | h
    · cases e
      exact ⟨n, cells_acc List.mem_cons_self⟩
    · split
      · exact cells_has h
      · exact cells_has h
theorem cells_inj : ∀ {names : List (Str × NameKind)} {h : Heap} {acc : List (Str × Addr)} {x y : Str} {c : Addr}, (∀ p ∈ acc, p.2 < h.objs.size) → (∀ x y c, (x, c) ∈ acc → (y, c) ∈ acc → x = y) →
    (x, c) ∈ cellsFrom h.objs.size names acc → (y, c) ∈ cellsFrom h.objs.size names acc → x = y
  | [], _, _, _, _, _, _, hi, h1, h2 => hi _ _ _ h1 h2
  | (n, k) :: r, h, acc, x, y, c, hl, hi, h1, h2 => by
    unfold cellsFrom at h1 h2
    split at h1
    · rename_i hk
      rw [if_pos hk] at h2
      rw [← Heap.size_push h { cls := .type "cell", data := .cell none }] at h1 h2
      refine cells_inj (h := h.push _) (fun p hp => ?_) (fun x y c a b => ?_) h1 h2
      · rw [Heap.size_push]
        rcases List.mem_cons.mp hp with rfl | hp
        · exact Nat.lt_succ_self _
        · exact Nat.lt_succ_of_lt (hl p hp)
      · rcases List.mem_cons.mp a with e | a <;> rcases List.mem_cons.mp b with e' | b
        · cases e; cases e'; rfl
        · cases e; exact absurd (hl _ b) (Nat.lt_irrefl _)
        · cases e'; exact absurd (hl _ a) (Nat.lt_irrefl _)
        · exact hi _ _ _ a b
    · rename_i hk
      rw [if_neg hk] at h2
      exact cells_inj hl hi h1 h2
theorem newEnv_comp {M : Model} {A : Around} {E : Value → Shared → Prop} {s : Shared} {scope : Scope} {globals : Addr} {closure : List (Str × Addr)} {qual : Str} {func : Option Addr} {code : Value} {around : Env} {builtins : Addr} {Q : Env → Shared → Prop}
    (h : Q (newEnv scope s.heap.objs.size globals (cellsFrom (s.heap.objs.size + 1) scope.names closure) qual func code (some around) builtins)
      { s with heap := pushCells (s.heap.push { cls := .type "dict", data := .dict #[] }) scope.names }) :
    wpAny M A (newFunctionEnv scope globals closure [] qual func code (some around) builtins) Q E s := by
  simp only [newFunctionEnv, Option.isSome_some, if_true]
  refine wpAny_bind (wpAny_alloc ?_)
  refine wpAny_bind (wpAny_layCells _ (fun n k c => rfl) scope.names closure _ _ ?_)
  rw [show ({ s with heap := s.heap.push { cls := .type "dict", data := .dict #[] } } : Shared).heap.objs.size = s.heap.objs.size + 1 from Heap.size_push ..]
  rw [List.forIn_nil]
  exact wpAny_bind (wpAny_pure (wpAny_pure h))
theorem lookup_relS {sc : Scope} : ∀ {names : List (Str × NameKind)} {x : Str} {k : NameKind},
    (names.map fun (n, k) => if (k == NameKind.free && sc.kind == .function && sc.names.lookup n == some .cell) then (n, NameKind.cell) else (n, k)).lookup x = some k →
    ∃ k', names.lookup x = some k' ∧ (k = k' ∨ (k' = .free ∧ k = .cell))
  | [], _, _, h => by simp at h
  | (n, k₀) :: r, x, k, h => by
    have ih := @lookup_relS sc r x k
    have h' : List.lookup x ((if (k₀ == NameKind.free && sc.kind == .function && sc.names.lookup n == some .cell) = true then (n, NameKind.cell) else (n, k₀)) :: (r.map _)) = some k := h
    cases hx : x == n with
    | true =>
      simp only [List.lookup_cons, hx]
      by_cases hc : (k₀ == NameKind.free && sc.kind == .function && sc.names.lookup n == some .cell) = true
      · rw [if_pos hc] at h'
        simp only [List.lookup_cons, hx] at h'
        cases h'
        simp only [Bool.and_eq_true, beq_iff_eq] at hc
        exact ⟨k₀, rfl, .inr ⟨hc.1.1, rfl⟩⟩
      · rw [if_neg hc] at h'
        simp only [List.lookup_cons, hx] at h'
        cases h'
        exact ⟨_, rfl, .inl rfl⟩
    | false =>
      simp only [List.lookup_cons, hx]
      by_cases hc : (k₀ == NameKind.free && sc.kind == .function && sc.names.lookup n == some .cell) = true
      · rw [if_pos hc] at h'
        simp only [List.lookup_cons, hx] at h'
        exact ih h'
      · rw [if_neg hc] at h'
        simp only [List.lookup_cons, hx] at h'
        exact ih h'
structure BlkOk (N : List Str) (sc scope : Scope) (own : List (Str × Nat)) : Prop where
  kind : scope.kind = .function
  uniq : ∀ y ∈ scope.names, scope.names.lookup y.1 = some y.2
  ix : ∀ p ∈ own, N[p.2]? = some p.1
  free : ∀ y ∈ scope.names, y.2 = .free → sc.names.lookup y.1 = some .cell ∨ sc.names.lookup y.1 = some .free
  own : ∀ y ∈ scope.names, y.2 = .local ∨ y.2 = .cell → y.1 ∈ own.map (·.1) ∨ y.1 ∉ N
def wipe (σ : St) : List Nat → St
  | [] => σ
  | v :: vs => (wipe σ vs).set v none
theorem wipe_length (σ : St) : ∀ vs : List Nat, (wipe σ vs).length = σ.length
  | [] => rfl
  | v :: vs => by unfold wipe; rw [List.length_set, wipe_length σ vs]
theorem wipe_some {σ : St} {i : Nat} {x : V} : ∀ {vs : List Nat}, (wipe σ vs)[i]? = some (some x) → σ[i]? = some (some x) ∧ i ∉ vs
  | [], h => ⟨h, by simp⟩
  | v :: vs, h => by
    unfold wipe at h
    by_cases hi : v = i
    · subst hi
      by_cases hv : v < (wipe σ vs).length
      · rw [List.getElem?_set_self hv] at h; cases h
      · rw [List.getElem?_eq_none (by simpa using hv)] at h; cases h
    · rw [List.getElem?_set_ne hi] at h
      obtain ⟨h1, h2⟩ := wipe_some h
      exact ⟨h1, by simp only [List.mem_cons, not_or]; exact ⟨fun e => hi e.symm, h2⟩⟩
abbrev Cx.blk (X : Cx) (s : Shared) (H : Hp) (scope : Scope) (cenv : Env) (fp : List Addr) : Cx := { X with s_0 := s, H_0 := H, env := cenv, outer := X.stack, ex := fp, fn := fun x => scope.names.lookup x == some .cell, pn := [], xe := fun _ _ => False }
section
variable {X : Cx} {pins : List (Addr × Obj)} {σ : St} {H : Hp} {s : Shared}
theorem block_start {scope : Scope} {own : List (Str × Nat)} {fp : List Addr} (I : Inv X pins σ H s) (ok : BlkOk X.N X.env.scope scope own) (hN : X.N.Nodup) (hfp : ∀ b ∈ fp, FpOk X pins H b ∧ b < s.heap.objs.size) :
    Inv (X.blk s H scope (compEnvC scope (cellsFrom (s.heap.objs.size + 1) scope.names (cloFrom X.env.cells scope.names [])) s.heap.objs.size X.env) fp) [] (wipe σ (own.map (·.2))) H { s with heap := pushCells (s.heap.push { cls := .type "dict", data := .dict #[] }) scope.names } := by
  have hfree : ∀ y ∈ scope.names, y.2 = .free → ∃ c, X.env.cells.lookup y.1 = some c := fun y hy e => by
    rcases ok.free y hy e with k | k
    · exact I.ok.has _ (.inl k)
    · exact I.ok.has _ (.inr k)
  generalize hcenv : compEnvC scope (cellsFrom (s.heap.objs.size + 1) scope.names (cloFrom X.env.cells scope.names [])) s.heap.objs.size X.env = cenv
  have kp : ∀ b o, s.heap.get? b = some o → (pushCells (s.heap.push { cls := .type "dict", data := .dict #[] }) scope.names).get? b = some o := fun b o e => pushCells_keeps _ _ _ _ (Heap.get?_push_of_some _ e)
  have hL : cenv.locals = s.heap.objs.size := by rw [← hcenv]; rfl
  have hcl : cenv.cells = cellsFrom (s.heap.objs.size + 1) scope.names (cloFrom X.env.cells scope.names []) := by rw [← hcenv]; rfl
  have hsc : cenv.scope = relS scope X.env.scope := by rw [← hcenv]; rfl
  rw [← Heap.size_push s.heap { cls := .type "dict", data := .dict #[] }] at hcl
  have cm : ∀ {y c}, (y, c) ∈ cloFrom X.env.cells scope.names [] → X.env.cells.lookup y = some c ∧ c < s.heap.objs.size := fun {y c} hm => by
    rcases cloFrom_mem hm with hm | ⟨h1, rfl⟩
    · cases hm
    · obtain ⟨c, hc⟩ := hfree _ h1 rfl
      rw [hc]
      obtain ⟨w, z⟩ := I.cell _ _ hc
      exact ⟨rfl, z.lt⟩
  have mem : ∀ {y c}, cenv.cells.lookup y = some c → (X.env.cells.lookup y = some c ∧ c < s.heap.objs.size) ∨ (s.heap.objs.size + 1 ≤ c ∧ CellAt (pushCells (s.heap.push { cls := .type "dict", data := .dict #[] }) scope.names) c none) := fun {y c} e => by
    rw [hcl] at e
    rcases cells_mem (PySem.mem_of_lookup e) with hm | ⟨_, h2, h3⟩
    · exact .inl (cm hm)
    · rw [Heap.size_push] at h2; exact .inr ⟨h2, h3⟩
  have look : ∀ {y}, scope.names.lookup y = some .free → ∃ c, cenv.cells.lookup y = some c ∧ X.env.cells.lookup y = some c := fun {y} hl => by
    have hy : (y, NameKind.free) ∈ scope.names := PySem.mem_of_lookup hl
    obtain ⟨c', e'⟩ := mem_lookup (cells_acc (names := scope.names) (n := (s.heap.push { cls := .type "dict", data := .dict #[] }).objs.size) (cloFrom_has (cells := X.env.cells) (acc := []) hy))
    rw [← hcl] at e'
    refine ⟨c', e', ?_⟩
    rw [hcl] at e'
    rcases cells_mem (PySem.mem_of_lookup e') with hm | ⟨h1, _, _⟩
    · exact (cm hm).1
    · have := ok.uniq _ h1
      rw [hl] at this; cases this
  have okB : (X.blk s H scope cenv fp).Ok := by
    refine ⟨I.ok.mod, by show cenv.scope.kind = _; rw [hsc]; exact ok.kind, by show cenv.globals = _; rw [← hcenv]; exact I.ok.glob, by show cenv.builtins = _; rw [← hcenv]; exact I.ok.blt, by show s.heap.objs.size ≤ cenv.locals; rw [hL]; exact Nat.le_refl _,
      fun y z c e1 e2 => ?_, fun y hy => ?_, fun y c z e => ?_, I.ok.hd, I.ok.frames, .inl rfl, fun b hb => ⟨?_, fun y c e z => ?_⟩, I.bs, Nat.le_trans I.ok.bsz I.sz, fun b o e hb => ?_, fun b hb z => ?_, I.stack, I.stkFree⟩
    · have e1 : cenv.cells.lookup y = some c := e1
      have e2 : cenv.cells.lookup z = some c := e2
      rw [hcl] at e1 e2
      refine cells_inj (fun p hp => ?_) (fun y z c a b => I.ok.inj y z c (cm a).1 (cm b).1) (PySem.mem_of_lookup e1) (PySem.mem_of_lookup e2)
      rw [Heap.size_push]
      exact Nat.lt_succ_of_lt (cm (y := p.1) (c := p.2) hp).2
    · show ∃ c, cenv.cells.lookup y = some c
      have key : ∀ k, cenv.kindOf y = some k → (k = .cell ∨ k = .free) → ∃ c, cenv.cells.lookup y = some c := fun k hk hk' => by
        unfold Env.kindOf at hk
        rw [hsc] at hk
        obtain ⟨k', e, r⟩ := lookup_relS hk
        have : k' = .cell ∨ k' = .free := by
          rcases r with rfl | ⟨rfl, _⟩
          · exact hk'
          · exact .inr rfl
        rcases this with rfl | rfl
        · obtain ⟨c, hm⟩ := cells_has (n := (s.heap.push { cls := .type "dict", data := .dict #[] }).objs.size) (acc := cloFrom X.env.cells scope.names []) (PySem.mem_of_lookup e)
          obtain ⟨c', e'⟩ := mem_lookup hm
          exact ⟨c', by rw [hcl]; exact e'⟩
        · obtain ⟨c, h1, _⟩ := look e
          exact ⟨c, h1⟩
      rcases hy with hy | hy
      · exact key _ hy (.inl rfl)
      · exact key _ hy (.inr rfl)
    · have z : (scope.names.lookup y == some NameKind.cell) = true := z
      have z : scope.names.lookup y = some .cell := by simpa using z
      have e : cenv.cells.lookup y = some c := e
      rw [hcl] at e
      rcases cells_mem (PySem.mem_of_lookup e) with hm | ⟨_, h2, _⟩
      · rcases cloFrom_mem hm with hm | ⟨h1, _⟩
        · cases hm
        · have q := ok.uniq _ h1
          rw [z] at q; cases q
      · rw [Heap.size_push] at h2
        exact Nat.le_of_succ_le h2
    · show b ≠ cenv.locals
      rw [hL]; exact Nat.ne_of_lt (hfp b hb).2
    · have e : cenv.cells.lookup y = some c := e
      rcases mem e with ⟨h1, _⟩ | ⟨h1, _⟩
      · exact (hfp b hb).1.2.2.2.2.1 y c h1 z
      · have h2 : s.heap.objs.size + 1 ≤ b := by rw [← z]; exact h1
        exact absurd (Nat.lt_of_lt_of_le (hfp b hb).2 (Nat.le_of_succ_le h2)) (Nat.lt_irrefl _)
    · rcases (hfp b hb).1.2.2.2.1 with z | z
      · exact I.ok.noex b o e z
      · exact absurd (Nat.lt_of_lt_of_le (Heap.lt_size e) (Nat.le_trans I.ok.bsz z)) (Nat.lt_irrefl _)
    · rcases List.mem_cons.mp (I.stkSub b z) with z | z
      · exact (hfp b hb).1.2.1 z
      · exact (hfp b hb).1.2.2.1 z
  refine ⟨okB, rfl, I.bare, Un.kept kp, ⟨fun _ => none, ?_, fun i y av e1 e2 e3 => ?_⟩, fun y c e => ?_, ?_, fun y c e => ?_, fun p hp => ?_, I.hok.kept kp, by rw [wipe_length]; exact I.len⟩
  · show Heap.Ns _ cenv.locals _
    rw [hL]
    exact Heap.Ns.keeps (Heap.Ns.new ..) fun b o e => pushCells_keeps _ _ _ _ e
  · obtain ⟨e2, hne⟩ := wipe_some e2
    have hfr : scope.names.lookup y = some .free ∧ (cenv.kindOf y = some .cell ∨ cenv.kindOf y = some .free) := by
      have key : ∀ k, cenv.scope.names.lookup y = some k → k = .local ∨ k = .cell ∨ k = .free → scope.names.lookup y = some .free ∧ (cenv.kindOf y = some .cell ∨ cenv.kindOf y = some .free) := fun k hk hk' => by
        have hk0 := hk
        rw [hsc] at hk
        obtain ⟨k', e, r⟩ := lookup_relS hk
        have no : ¬ (k' = .local ∨ k' = .cell) := fun hh => by
          rcases ok.own _ (PySem.mem_of_lookup e) hh with e' | e'
          · obtain ⟨p, hp, hpy⟩ := List.mem_map.mp e'
            have e3 := ok.ix p hp
            have : p.1 = y := hpy
            rw [this] at e3
            exact hne (List.mem_map.mpr ⟨p, hp, nodup_ix hN e3 e1⟩)
          · exact e' (List.mem_of_getElem? e1)
        rcases r with rfl | ⟨rfl, rfl⟩
        · rcases hk' with rfl | rfl | rfl
          · exact absurd (.inl rfl) no
          · exact absurd (.inr rfl) no
          · exact ⟨e, .inr hk0⟩
        · exact ⟨e, .inl hk0⟩
      have e3 : Vis cenv.scope y := e3
      rcases e3 with e3 | e3 | e3
      · exact key _ e3 (.inl rfl)
      · exact key _ e3 (.inr (.inl rfl))
      · exact key _ e3 (.inr (.inr rfl))
    obtain ⟨m, hn, hl⟩ := I.loc
    have hvis : Vis X.env.scope y := (ok.free _ (PySem.mem_of_lookup hfr.1) rfl).elim (fun k => .inr (.inl k)) (fun k => .inr (.inr k))
    obtain ⟨w, r, q⟩ := hl i y av e1 e2 hvis
    refine ⟨w, r, .inr ⟨hfr.2, ?_⟩⟩
    obtain ⟨c, h1, h2⟩ := look hfr.1
    rcases q with ⟨k, _⟩ | ⟨_, c', e', z⟩
    · have k : X.env.scope.names.lookup y = some .local := k
      rcases ok.free _ (PySem.mem_of_lookup hfr.1) rfl with k' | k' <;> rw [show X.env.scope.names.lookup y = _ from k'] at k <;> cases k
    · rw [h2] at e'; cases e'
      exact ⟨c, h1, z.keeps kp⟩
  · have e : cenv.cells.lookup y = some c := e
    rcases mem e with ⟨h1, _⟩ | ⟨_, z⟩
    · obtain ⟨w, z⟩ := I.cell y c h1
      exact ⟨w, z.keeps kp⟩
    · exact ⟨_, z⟩
  · show H cenv.locals = none
    rw [hL]; exact I.hok.fresh (Nat.le_refl _)
  · have e : cenv.cells.lookup y = some c := e
    rcases mem e with ⟨h1, _⟩ | ⟨h1, _⟩
    · exact I.freeC y c h1
    · exact I.hok.fresh (Nat.le_of_succ_le h1)
  · exact absurd (show p ∈ ([] : List (Addr × Obj)) ++ [] from hp) (by simp)
theorem app_ok {E : Value → Shared → Prop} {D : Addr} {xs : List V} {y : V} {v : Value} {Q : Value → Shared → Prop} (I : Inv X pins σ H s) (hD : H D = some (.lst xs)) (hz : xs.length < sizeLine) (r : RelV y v)
    (h : ∀ s', Inv X pins σ (upd H D (.lst (xs ++ [y]))) s' → Q .none s') : wpAny (model X.prog X.w) X.A (call (.builtin "list.append") [.ref D, v]) Q E s := by
  obtain ⟨hz', its, n, ri, e⟩ := I.hok D _ hD
  have hl := ri.length
  refine append_at (hsz := by rw [List.size_toArray]; omega) e fun h' sb ho' => ?_
  refine h { s with heap := h' } (I.write (t' := s.toks) (by rw [hD]; trivial) (.inl rfl) (fun b u hb q => (sb.2 b hb).trans q) ⟨_, ho'⟩ ⟨by rw [List.length_append]; exact hz, its ++ [v], n + 1, ri.append (.cons r .nil), ?_⟩)
  rw [ho']
  simp
def PTs (X : Cx) (ifs : List Expr) (t : TT) : Prop :=
  ∀ (pins : List (Addr × Obj)) (s : Shared) (σ : St) (H : Hp) (Q : Bool → Hp → Prop), Inv X pins σ H s → t σ H Q →
    wpAny (model X.prog X.w) X.A (forIn ifs true fun c r => if r = true then do let ok ← isTrue c X.env (eval c X.env); pure (ForInStep.yield ok) else pure (ForInStep.yield r)) (TP X pins σ Q) X.xe s
def tYes : TT := fun _ H Q => Q true H
theorem pts_nil : PTs X [] tYes := fun _ _ _ H _ I h => wpAny_tests_nil ⟨H, I, h⟩
theorem pts_one {c : Expr} {t : TT} (h : PT X c t) : PTs X [c] t := fun pins s σ H Q I hw => wpAny_tests_one (h pins s σ H Q I hw)
end
theorem thnF {α : Type} {t : Sem α} {Q Q' : α → Shared → Prop} {M : Model} {A : Around} {E : Value → Shared → Prop} {s : Shared} (h : wpAny M A t Q (fun _ _ => False) s) (hQ : ∀ a s, Q a s → Q' a s) : wpAny M A t Q' E s := wpAny_mono h hQ fun _ _ z => False.elim z
theorem compLoop_any {prog : Program} {w : World} {A : Around} {R : Result → Shared → Prop} {s : Shared} {elt target iter : Expr} {ifs : List Expr} {scope : Scope} {pos : Pos} {it acc : Value} {env : Env} (I : Nat → Shared → Prop)
    (turn : ∀ n s, I n s → wpAny (model prog w) A (pyNext it) (fun r s₁ => match r with
      | none => R (.ok .next) s₁
      | some v => wpAny (model prog w) A (letOwnedTupleGo target it v) (fun _ s₁' => wpAny (model prog w) A (assign target env v) (fun _ s₂ =>
          wpAny (model prog w) A (forIn ifs true fun c r => if r = true then do let ok ← isTrue c env (eval c env); pure (ForInStep.yield ok) else pure (ForInStep.yield r)) (fun ok s₃ =>
            if ok = true then wpAny (model prog w) A (eval elt env) (fun x s₄ =>
              wpAny (model prog w) A (call (.builtin "list.append") [acc, x]) (fun _ s₅ => ∃ m, m < n ∧ I m s₅) (notedBy (model prog w) A env fun e s' => R (.error e) s') s₄) (notedBy (model prog w) A env fun e s' => R (.error e) s') s₃
            else ∃ m, m < n ∧ I m s₃) (notedBy (model prog w) A env fun e s' => R (.error e) s') s₂) (notedBy (model prog w) A env fun e s' => R (.error e) s') s₁') (notedBy (model prog w) A env fun e s' => R (.error e) s') s₁) (notedBy (model prog w) A env fun e s' => R (.error e) s') s)
    (n : Nat) (h : I n s) :
    codeAny (model prog w) A (.compLoop (.ListComp elt [⟨target, iter, ifs, 0⟩] scope pos) 0 it acc env) R s := by
  refine codeAny_loop rfl I (fun n s hI => ?_) n h
  show wpAny _ A ((compTurn (.ListComp elt [⟨target, iter, ifs, 0⟩] scope pos) 0 it acc env).onRaise (fun x => do noteFrame x env; theTreesLotGoes x)) _ _ s
  refine wpAny_noted ?_
  rw [compTurn_list]
  refine wpAny_bind (wpAny_standAt (wpAny_bind (wpAny_mono (turn n s hI) (fun r s₁ h₁ => ?_) fun _ _ h' => h')))
  cases r with
  | none => exact wpAny_pure h₁
  | some v =>
    refine wpAny_bind (wpAny_mono h₁ (fun _ s₁' h₁' => ?_) fun _ _ h' => h')
    refine wpAny_bind (wpAny_mono h₁' (fun _ s₂ h₂ => wpAny_bind (wpAny_mono h₂ (fun ok s₃ h₃ => ?_) fun _ _ h' => h')) fun _ _ h' => h')
    cases ok with
    | false => exact wpAny_pure ⟨rfl, h₃⟩
    | true =>
      exact wpAny_bind (wpAny_bind (wpAny_mono h₃ (fun x s₄ h₄ => wpAny_bind (wpAny_mono h₄ (fun _ s₅ h₅ => wpAny_pure (wpAny_pure ⟨rfl, h₅⟩)) fun _ _ h' => h')) fun _ _ h' => h'))
section
variable {X : Cx}
def tLc (wi : TI) (g : TG) (tt : TT) (te : TE) (vs : List Nat) : TE := fun σ H Q => wi σ H fun J H1 => ∀ D, H1 D = none → ∃ W : Nat → Nat → Hp → Prop, (∃ m, W 0 m (upd H1 D (.lst []))) ∧ ∀ i m H, W i m H →
  (J.stop i H ∧ Q (.ref D) H) ∨ (J.go i H ∧ ∃ Nx : Hp → Prop, (∀ H', Nx H' → ∃ m', m' < m ∧ W (i + 1) m' H') ∧ ∀ x H', J.yld i H x H' → g x (wipe σ vs) H' fun σ2 H2 => wipe σ2 vs = wipe σ vs ∧ tt σ2 H2 fun b H3 =>
    if b = true then te σ2 H3 fun y H4 => ∃ acc, H4 D = some (.lst acc) ∧ acc.length < sizeLine ∧ Nx (upd H4 D (.lst (acc ++ [y]))) else Nx H3)
theorem lc_core {pins : List (Addr × Obj)} {s : Shared} {σ : St} {H : Hp} {Q : VK} {elt tg iter : Expr} {ifs : List Expr} {scope : Scope} {own : List (Str × Nat)} {pos pos' : Pos} {wi : TI} {g : TG} {tt : TT} {te : TE} {use : Option (Value → Sem Unit)} {Qf : Value → Shared → Prop}
    (hc : X.calm = true) (hN : X.N.Nodup) (I : Inv X pins σ H s) (hi : PI X tg iter wi) (ok : BlkOk X.N X.env.scope scope own)
    (hg : ∀ (s : Shared) (H : Hp) (C : Addr) (cl : List (Str × Addr)) (fp : List Addr), PG (X.blk s H scope (compEnvC scope cl C X.env) fp) tg g) (ht : ∀ (s : Shared) (H : Hp) (C : Addr) (cl : List (Str × Addr)) (fp : List Addr), PTs (X.blk s H scope (compEnvC scope cl C X.env) fp) ifs tt)
    (he : ∀ (s : Shared) (H : Hp) (C : Addr) (cl : List (Str × Addr)) (fp : List Addr), PE (X.blk s H scope (compEnvC scope cl C X.env) fp) elt te) (hs : ∀ x, foldedSetIterable iter X.env x = pure x)
    (h : tLc wi g tt te (own.map (·.2)) σ H Q)
    (hRR : ∀ D C s' m H', Inv X pins σ H' s' → Q (.ref D) H' → s'.heap.Ns C m → FpOk X pins H' C → compPost (model X.prog X.w) X.A X.xe use Qf (.ref D) C (.ok .next) s') :
    wpAny (model X.prog X.w) X.A (comprehension (.ListComp elt [⟨tg, iter, ifs, 0⟩] scope pos) scope X.env pos' (newList []) false (eval iter X.env) use) Qf X.xe s := by
  have hfree : ∀ y ∈ scope.names, y.2 = .free → ∃ c, X.env.cells.lookup y.1 = some c := fun y hy e => by
    rcases ok.free y hy e with k | k
    · exact I.ok.has _ (.inl k)
    · exact I.ok.has _ (.inr k)
  refine wpAny_comprehension_free (use := use) rfl hs (closure_ok hfree) ok.kind (fun y hy e => by rw [ok.uniq y hy, e])
    (thn (hi pins s σ H _ I h) fun xv s1 hx => thn hx fun itv s2 h2 => ?_)
  obtain ⟨it, fp, tn, J, H2, e, I2, T, st2, f2, q⟩ := h2
  subst e
  refine wpAny_newObj_type (newEnv_comp ?_) (by show 0 ≤ sizeLine; decide)
  generalize hD : s2.heap.objs.size = D
  have hDn : H2 D = none := I2.hok.fresh (Nat.le_of_eq hD)
  obtain ⟨W, ⟨m0, w0⟩, turn⟩ := q D hDn
  -- the new list
  generalize hs3 : ({ s2 with heap := s2.heap.push { cls := .type "list", data := .seq ([] : List Value).toArray } } : Shared) = s3
  have I3 : Inv X pins σ (upd H2 D (.lst [])) s3 := by
    rw [← hs3]
    refine I2.laid (t' := s2.toks) (fun b o e => Heap.get?_push_of_some _ e) (Nat.le_of_eq hD) ⟨Nat.zero_le _, [], 0, .nil, ?_⟩
    rw [← hD]
    exact Heap.get?_push_size _ rfl
  have h3 : s3.heap = s2.heap.push { cls := .type "list", data := .seq ([] : List Value).toArray } := by rw [← hs3]
  have sz : ∀ b ∈ fp, b < s2.heap.objs.size := fun b hb => by
    obtain ⟨o, e, _⟩ := T.obj _ _ st2 b hb
    exact Heap.lt_size e
  have f3 : ∀ b ∈ fp, FpOk X pins (upd H2 D (.lst [])) b ∧ b < s3.heap.objs.size := fun b hb => by
    have hlt := sz b hb
    refine ⟨⟨?_, (f2 b hb).2⟩, by rw [h3, Heap.size_push]; exact Nat.lt_succ_of_lt hlt⟩
    rw [upd_ne (by rw [← hD]; exact Nat.ne_of_lt hlt)]
    exact (f2 b hb).1
  have st3 : tn 0 s3.heap := T.keep _ _ _ st2 fun b _ o e => by rw [h3]; exact Heap.get?_push_of_some _ e
  have I4 := block_start I3 ok hN f3
  have pg := hg s3 (upd H2 D (.lst [])) s3.heap.objs.size (cellsFrom (s3.heap.objs.size + 1) scope.names (cloFrom X.env.cells scope.names [])) fp
  have pt := ht s3 (upd H2 D (.lst [])) s3.heap.objs.size (cellsFrom (s3.heap.objs.size + 1) scope.names (cloFrom X.env.cells scope.names [])) fp
  have pe := he s3 (upd H2 D (.lst [])) s3.heap.objs.size (cellsFrom (s3.heap.objs.size + 1) scope.names (cloFrom X.env.cells scope.names [])) fp
  show codeAny _ _ (.compStart (.ListComp elt [⟨tg, iter, ifs, 0⟩] scope pos) 0 (.ref it) (.ref D) (compEnvC scope (cellsFrom (s3.heap.objs.size + 1) scope.names (cloFrom X.env.cells scope.names [])) s3.heap.objs.size X.env)) (compPost (model X.prog X.w) X.A X.xe use Qf (.ref D) s3.heap.objs.size) { s3 with heap := pushCells (s3.heap.push { cls := .type "dict", data := .dict #[] }) scope.names }
  have nfp : ∀ b ∈ fp, (upd H2 D (.lst [])) b = none := fun b hb => (f3 b hb).1.1
  generalize hce : compEnvC scope (cellsFrom (s3.heap.objs.size + 1) scope.names (cloFrom X.env.cells scope.names [])) s3.heap.objs.size X.env = ce at I4 pg pt pe ⊢
  have cL : ce.locals = s3.heap.objs.size := by subst hce; rfl
  generalize hH3 : upd H2 D (.lst []) = H3 at I3 I4 pg pt pe w0 nfp f3
  generalize hs4 : ({ s3 with heap := pushCells (s3.heap.push { cls := .type "dict", data := .dict #[] }) scope.names } : Shared) = s4 at I4 ⊢
  have st4 : tn 0 s4.heap := T.keep _ _ _ st3 fun b _ o e => by rw [← hs4]; exact pushCells_keeps _ _ _ _ (Heap.get?_push_of_some _ e)
  have stat : ∀ {σ' : St} {H' : Hp} {s' : Shared}, Inv (X.blk s3 H3 scope ce fp) [] σ' H' s' → (∀ b ∈ fp, H' b = none) → ∀ b ∈ fp, FpOk (X.blk s3 H3 scope ce fp) [] H' b := fun {σ' H' s'} I' hn b hb =>
    ⟨hn b hb, (I'.ok.exf b hb).1, I'.ok.exfs b hb, .inl hb, fun x c e => (I'.ok.exf b hb).2 x c e, fun p hp => absurd (show p ∈ ([] : List (Addr × Obj)) ++ [] from hp) (by simp)⟩
  have loop : codeAny (model X.prog X.w) X.A (.compLoop (.ListComp elt [⟨tg, iter, ifs, 0⟩] scope pos) 0 (.ref it) (.ref D) ce) (compPost (model X.prog X.w) X.A X.xe use Qf (.ref D) s3.heap.objs.size) s4 := by
    refine compLoop_any (fun n s' => ∃ i H', Inv (X.blk s3 H3 scope ce fp) [] (wipe σ (own.map (·.2))) H' s' ∧ tn i s'.heap ∧ (∀ b ∈ fp, H' b = none) ∧ W i n H') ?_ m0 ⟨0, H3, I4, st4, nfp, w0⟩
    rintro n s5 ⟨i, H5, I5, st5, n5, w5⟩
    rcases turn i n H5 w5 with ⟨stop, qq⟩ | ⟨go, Nx, hNx, step⟩
    · have td := T.done (X.blk s3 H3 scope ce fp) rfl rfl rfl hc i [] s5 _ H5 (fun _ _ => False) I5 (stat I5 n5) st5 stop
      refine thnF td fun r s6 ⟨hr, I6⟩ => ?_
      subst hr
      -- back in the def's context
      have I7 : Inv X pins σ H5 s6 := I3.call' (ch := fp) I6.os I6.base I6.hok I6.bare fun b hb => ⟨(f3 b hb).1.2.2.2.1, (f3 b hb).1.2.1, (f3 b hb).1.2.2.2.2.1, (f3 b hb).1.2.2.2.2.2⟩
      have nC : H5 s3.heap.objs.size = none := by
        have z : H5 ce.locals = none := I6.free
        rw [cL] at z
        exact z
      obtain ⟨m, hn, _⟩ := I6.loc
      have hn : s6.heap.Ns ce.locals m := hn
      rw [cL] at hn
      exact hRR D s3.heap.objs.size s6 m H5 I7 qq hn (I3.fpOk (Nat.le_refl _) nC)
    · have ti := T.item (X.blk s3 H3 scope ce fp) rfl rfl rfl hc i [] s5 _ H5 (fun _ _ => False) I5 (stat I5 n5) st5 go
      refine thnF ti fun r s6 ⟨u, hr, h6⟩ => ?_
      subst hr
      refine thnF h6 fun _ s7 ⟨x, H7, I7, r7, y7, st7, n7⟩ => ?_
      have I7' := I7.pinned (stat I7 n7) (T.obj _ _ st7)
      refine thnF (pg _ s7 _ H7 x u _ I7' r7 (step x H7 y7)) fun _ s8 ⟨σ8, H8, I8, hw8, q8⟩ => ?_
      refine thnF (pt _ s8 σ8 H8 _ I8 q8) fun b s9 ⟨H9, I9, q9⟩ => ?_
      -- the turn's end
      have fin : ∀ {s' : Shared} {H' : Hp}, Inv (X.blk s3 H3 scope ce fp) ([] ++ pinsAt fp s7.heap) σ8 H' s' → Nx H' → ∃ m, m < n ∧ ∃ i H', Inv (X.blk s3 H3 scope ce fp) [] (wipe σ (own.map (·.2))) H' s' ∧ tn i s'.heap ∧ (∀ b ∈ fp, H' b = none) ∧ W i m H' := fun {s' H'} I' nx => by
        obtain ⟨m', hm, w'⟩ := hNx H' nx
        have pin' : ∀ b ∈ fp, ∀ o, s7.heap.get? b = some o → s'.heap.get? b = some o ∧ H' b = none := fun b hb o e =>
          let z := I'.pin (b, o) (List.mem_append_right _ (List.mem_append_right _ (mem_pinsAt hb e)))
          ⟨z.1, z.2.1⟩
        have hl : (wipe σ (own.map (·.2))).length = σ8.length := by rw [← hw8, wipe_length]
        refine ⟨m', hm, i + 1, H', (I'.unpinned (pins := [])).weak hl (fun j v e => ?_), T.keep _ _ _ st7 fun b hb o e => (pin' b hb o e).1, fun b hb => ?_, w'⟩
        · rw [← hw8] at e
          exact (wipe_some e).1
        · obtain ⟨o, e, _⟩ := T.obj _ _ st7 b hb
          exact (pin' b hb o e).2
      cases b with
      | false =>
        simp only [Bool.false_eq_true, if_false] at q9 ⊢
        exact fin I9 q9
      | true =>
        simp only [if_true] at q9 ⊢
        refine thnF (pe _ s9 σ8 H9 _ I9 q9) fun z s10 ⟨yv, H10, I10, r10, acc, hD10, hz10, nx⟩ => ?_
        exact app_ok (X := X.blk s3 H3 scope ce fp) I10 hD10 hz10 r10 fun s11 I11 => fin I11 nx
  exact codeAny_compStart_list loop (T.self X.A 0 _ _ _ st4 loop)
theorem pe_lc {elt tg iter : Expr} {ifs : List Expr} {scope : Scope} {own : List (Str × Nat)} {pos : Pos} {wi : TI} {g : TG} {tt : TT} {te : TE} (hc : X.calm = true) (hN : X.N.Nodup) (hi : PI X tg iter wi) (ok : BlkOk X.N X.env.scope scope own)
    (hg : ∀ (s : Shared) (H : Hp) (C : Addr) (cl : List (Str × Addr)) (fp : List Addr), PG (X.blk s H scope (compEnvC scope cl C X.env) fp) tg g) (ht : ∀ (s : Shared) (H : Hp) (C : Addr) (cl : List (Str × Addr)) (fp : List Addr), PTs (X.blk s H scope (compEnvC scope cl C X.env) fp) ifs tt)
    (he : ∀ (s : Shared) (H : Hp) (C : Addr) (cl : List (Str × Addr)) (fp : List Addr), PE (X.blk s H scope (compEnvC scope cl C X.env) fp) elt te) (hs : ∀ x, foldedSetIterable iter X.env x = pure x := by intro _; rfl) :
    PE X (.ListComp elt [⟨tg, iter, ifs, 0⟩] scope pos) (tLc wi g tt te (own.map (·.2))) := by
  intro pins s σ H Q I h
  rw [eval_ListComp]
  refine lc_core hc hN I hi ok hg ht he hs h fun D C s' m H' I' q hn f => ⟨m, hn, fun h'' sb => ?_⟩
  obtain ⟨f0, f1, f2, f3, f4, f5⟩ := f
  exact ⟨.ref D, H', I'.turned (t' := s'.toks) (fun b o hb e => (sb.2 b hb).trans e) f0 f1 f3 f4 f5, rfl, q⟩
theorem ps_setLc {i : Nat} {y : Str} {py : Pos} {elt tg iter : Expr} {ifs : List Expr} {scope : Scope} {own : List (Str × Nat)} {pos spos : Pos} {wi : TI} {g : TG} {tt : TT} {te : TE} (hc : X.calm = true) (hN : X.N.Nodup) (hy : X.N[i]? = some y) (hyl : X.env.scope.names.lookup y = some .local)
    (hsw : swapsWith (.ListComp elt [⟨tg, iter, ifs, 0⟩] scope pos) (some (.Name y py)) spos.line X.env = pure true) (hi : PI X tg iter wi) (ok : BlkOk X.N X.env.scope scope own)
    (hg : ∀ (s : Shared) (H : Hp) (C : Addr) (cl : List (Str × Addr)) (fp : List Addr), PG (X.blk s H scope (compEnvC scope cl C X.env) fp) tg g) (ht : ∀ (s : Shared) (H : Hp) (C : Addr) (cl : List (Str × Addr)) (fp : List Addr), PTs (X.blk s H scope (compEnvC scope cl C X.env) fp) ifs tt)
    (he : ∀ (s : Shared) (H : Hp) (C : Addr) (cl : List (Str × Addr)) (fp : List Addr), PE (X.blk s H scope (compEnvC scope cl C X.env) fp) elt te) (hs : ∀ x, foldedSetIterable iter X.env x = pure x := by intro _; rfl) :
    PS X (.Assign [.Name y py] (.ListComp elt [⟨tg, iter, ifs, 0⟩] scope pos) spos) (tAsg (tLc wi g tt te (own.map (·.2))) (gName i)) := by
  intro pins s σ H D I h
  rw [exec_Assign_Name_used _ _ _ _ hsw]
  refine wpAny_bind (wpAny_standAt (wpAny_bind ?_))
  show wpAny _ X.A (do let _ ← comprehension (.ListComp elt [⟨tg, iter, ifs, 0⟩] scope pos) scope X.env (firstIterPos [⟨tg, iter, ifs, 0⟩] pos) (newList []) false (eval iter X.env) (some (assign (.Name y py) X.env))) _ _ s
  have h : tLc wi g tt te (own.map (·.2)) σ H (fun x H1 => gName i x σ H1 D.nx) := h
  refine wpAny_bind (thn (lc_core (Qf := fun _ s' => SP X pins D .next s') hc hN I hi ok hg ht he hs h fun L C s' m H' I' q hn f => ?_) fun _ s' hq => wpAny_pure (wpAny_pure hq))
  show wpAny _ _ (assign (.Name y py) X.env (.ref L)) _ _ _
  refine wpAny_assign_Name (store_ok2 (v := V.ref L) I' hN hy (.inl hyl) rfl (fun s2 I2 ⟨a, sb, ha⟩ => ?_) (.inr hyl))
  obtain ⟨f0, f1, f2, f3, f4, f5⟩ := f
  have haC : C ≠ a := by
    rcases ha with z | z
    · rw [z]; exact f1
    · exact fun e => f4 y a z e.symm
  refine ⟨m, hn.sameBut sb haC, fun h3 sb3 => ?_⟩
  exact ⟨_, H', I2.turned (t' := s2.toks) (fun b o hb e => (sb3.2 b hb).trans e) f0 f1 f3 f4 f5, q⟩
theorem sw_true {elt : Expr} {gs : List Comprehension} {scope : Scope} {pos py : Pos} {y : Str} {l : Nat} {env : Env} (hk : env.scope.kind = .function) (hy : env.scope.names.lookup y = some .local) (hl : (py.line == pos.line) = true)
    (ha : (scope.names.any fun (n, k) => n == y && (k == .local || k == .cell)) = false) : swapsWith (.ListComp elt gs scope pos) (some (.Name y py)) l env = pure true := by
  have ky : env.kindOf y = some .local := hy
  have hb : env.blockKind = .function := by unfold Env.blockKind; rw [hk]; rfl
  unfold swapsWith
  simp only [hb, ky, ha, Expr.pos, hl]
  rfl
end
theorem lc_range {lo : Int} {n : Nat} {g : TG} {tt : TT} {te : TE} {vs : List Nat} {σ : St} {H1 : Hp} {D : Addr} {Qd : Hp → Prop} (Pv : Nat → Hp → Prop) (h0 : Pv 0 (upd H1 D (.lst [])))
    (hs : ∀ i H, i < n → Pv i H → g (.int (lo + i)) (wipe σ vs) H fun σ2 H2 => wipe σ2 vs = wipe σ vs ∧ tt σ2 H2 fun b H3 =>
      if b = true then te σ2 H3 fun y H4 => ∃ acc, H4 D = some (.lst acc) ∧ acc.length < sizeLine ∧ Pv (i + 1) (upd H4 D (.lst (acc ++ [y]))) else Pv (i + 1) H3) (hd : ∀ H, Pv n H → Qd H) :
    ∃ W : Nat → Nat → Hp → Prop, (∃ m, W 0 m (upd H1 D (.lst []))) ∧ ∀ i m H, W i m H →
      ((Itr lo n).stop i H ∧ Qd H) ∨ ((Itr lo n).go i H ∧ ∃ Nx : Hp → Prop, (∀ H', Nx H' → ∃ m', m' < m ∧ W (i + 1) m' H') ∧ ∀ x H', (Itr lo n).yld i H x H' → g x (wipe σ vs) H' fun σ2 H2 => wipe σ2 vs = wipe σ vs ∧ tt σ2 H2 fun b H3 =>
        if b = true then te σ2 H3 fun y H4 => ∃ acc, H4 D = some (.lst acc) ∧ acc.length < sizeLine ∧ Nx (upd H4 D (.lst (acc ++ [y]))) else Nx H3) := by
  refine ⟨fun i m H => m = n - i ∧ i ≤ n ∧ Pv i H, ⟨n, by simp, Nat.zero_le _, h0⟩, ?_⟩
  rintro i m H ⟨rfl, hi, p⟩
  by_cases hlt : i < n
  · refine .inr ⟨hlt, Pv (i + 1), fun H' p' => ⟨n - (i + 1), by omega, rfl, hlt, p'⟩, fun x H' y => ?_⟩
    obtain ⟨e, y⟩ := y
    subst e y
    exact hs i _ hlt p
  · have e : i = n := by omega
    subst e
    exact .inl ⟨Nat.le_refl _, hd H p⟩
theorem lc_list {K : PySem.W.Frag} {a : Addr} {xs : List V} {g : TG} {tt : TT} {te : TE} {vs : List Nat} {σ : St} {H1 : Hp} {D : Addr} {Qd : Hp → Prop} (Pv : Nat → Hp → Prop) (h0 : Pv 0 (upd H1 D (.lst []))) (hl : ∀ i H, i ≤ xs.length → Pv i H → SqL K H a xs)
    (hs : ∀ i x H, xs[i]? = some x → Pv i H → g x (wipe σ vs) H fun σ2 H2 => wipe σ2 vs = wipe σ vs ∧ tt σ2 H2 fun b H3 =>
      if b = true then te σ2 H3 fun y H4 => ∃ acc, H4 D = some (.lst acc) ∧ acc.length < sizeLine ∧ Pv (i + 1) (upd H4 D (.lst (acc ++ [y]))) else Pv (i + 1) H3) (hd : ∀ H, Pv xs.length H → Qd H) :
    ∃ W : Nat → Nat → Hp → Prop, (∃ m, W 0 m (upd H1 D (.lst []))) ∧ ∀ i m H, W i m H →
      ((Itl K a).stop i H ∧ Qd H) ∨ ((Itl K a).go i H ∧ ∃ Nx : Hp → Prop, (∀ H', Nx H' → ∃ m', m' < m ∧ W (i + 1) m' H') ∧ ∀ x H', (Itl K a).yld i H x H' → g x (wipe σ vs) H' fun σ2 H2 => wipe σ2 vs = wipe σ vs ∧ tt σ2 H2 fun b H3 =>
        if b = true then te σ2 H3 fun y H4 => ∃ acc, H4 D = some (.lst acc) ∧ acc.length < sizeLine ∧ Nx (upd H4 D (.lst (acc ++ [y]))) else Nx H3) := by
  refine ⟨fun i m H => m = xs.length - i ∧ i ≤ xs.length ∧ Pv i H, ⟨xs.length, by simp, Nat.zero_le _, h0⟩, ?_⟩
  rintro i m H ⟨rfl, hi, p⟩
  have q := hl i H hi p
  by_cases hlt : i < xs.length
  · refine .inr ⟨⟨xs, xs[i], q, by simp [hlt]⟩, Pv (i + 1), fun H' p' => ⟨xs.length - (i + 1), by omega, rfl, hlt, p'⟩, fun x H' y => ?_⟩
    obtain ⟨e, y⟩ := y
    subst e
    exact hs i x _ (y xs q) p
  · have e : i = xs.length := by omega
    subst e
    exact .inl ⟨⟨xs, q, Nat.le_refl _⟩, hd H p⟩
def blkC (N : List Str) (sc scope : Scope) (own : List (Str × Nat)) : Bool :=
  (match scope.kind with | .function => true | _ => false) && (scope.names.all fun y => decide (scope.names.lookup y.1 = some y.2)) && (own.all fun p => decide (N[p.2]? = some p.1)) &&
    (scope.names.all fun y => match y.2 with
      | .free => (match sc.names.lookup y.1 with | some .cell => true | some .free => true | _ => false)
      | .local => decide (y.1 ∈ own.map (·.1)) || decide (y.1 ∉ N)
      | .cell => decide (y.1 ∈ own.map (·.1)) || decide (y.1 ∉ N)
      | _ => true)
theorem blkOk_by {N : List Str} {sc scope : Scope} {own : List (Str × Nat)} (h : blkC N sc scope own = true) : BlkOk N sc scope own := by
  unfold blkC at h
  simp only [Bool.and_eq_true, List.all_eq_true, decide_eq_true_eq] at h
  obtain ⟨⟨⟨h1, h2⟩, h3⟩, h4⟩ := h
  refine ⟨?_, h2, h3, fun y hy e => ?_, fun y hy e => ?_⟩
  · split at h1
    · assumption
    · cases h1
  · have q := h4 y hy
    simp only [e] at q
    split at q <;> first | exact .inl (by assumption) | exact .inr (by assumption) | cases q
  · have q := h4 y hy
    rcases e with e | e <;> (simp only [e, Bool.or_eq_true, decide_eq_true_eq] at q; exact q)
end L2
namespace L2
open PySem PySem.Spec PyProof.Rows
section
variable {prog : Program} {w : World} {A : Around} {R : Result → Shared → Prop} {s : Shared} {elt t0 i0 t1 i1 : Expr} {ifs0 ifs1 : List Expr} {scope : Scope} {pos : Pos} {it acc : Value} {env : Env}
end
section
variable {X : Cx}
end
end L2
namespace L2
open PySem PySem.Spec PyProof.Rows
section
variable {κ : Type} [DecidableEq κ]
def valV (kvs : List (κ × V)) (k : κ) : Option V := (kvs.find? fun kv => decide (kv.1 = k)).map (·.2)
def putK (kvs : List (κ × V)) (k : κ) (v : V) : List (κ × V) :=
  if (kvs.any fun kv => decide (kv.1 = k)) = true then kvs.map (fun kv => if kv.1 = k then (kv.1, v) else kv) else kvs ++ [(k, v)]
def dropK (kvs : List (κ × V)) (k : κ) : List (κ × V) := kvs.filter fun kv => decide (kv.1 ≠ k)
theorem valV_pos {p : κ × V} {r : List (κ × V)} {k : κ} (e : p.1 = k) : valV (p :: r) k = some p.2 := by simp [valV, List.find?_cons, e]
theorem valV_neg {p : κ × V} {r : List (κ × V)} {k : κ} (e : ¬ p.1 = k) : valV (p :: r) k = valV r k := by simp [valV, List.find?_cons, e]
theorem valV_any (k : κ) : ∀ kvs : List (κ × V), (kvs.any fun kv => decide (kv.1 = k)) = (valV kvs k).isSome
  | [] => rfl
  | p :: r => by
    rw [List.any_cons]
    by_cases e : p.1 = k
    · simp only [valV_pos e, decide_eq_true e, Bool.true_or, Option.isSome_some]
    · rw [valV_neg e, decide_eq_false e, Bool.false_or]; exact valV_any k r
theorem valV_map (k j : κ) (y : V) : ∀ kvs : List (κ × V), valV (kvs.map fun kv => if kv.1 = k then (kv.1, y) else kv) j = (valV kvs j).map fun x => if j = k then y else x
  | [] => rfl
  | p :: r => by
    have ih := valV_map k j y r
    rw [List.map_cons]
    by_cases h : p.1 = k
    · rw [if_pos h]
      by_cases e : p.1 = j
      · rw [valV_pos (p := (p.1, y)) e, valV_pos e, Option.map_some, if_pos (e.symm.trans h)]
      · rw [valV_neg (p := (p.1, y)) e, valV_neg e, ih]
    · rw [if_neg h]
      by_cases e : p.1 = j
      · rw [valV_pos (p := p) e, valV_pos e, Option.map_some, if_neg (fun z => h (e.trans z))]
      · rw [valV_neg (p := p) e, valV_neg e, ih]
theorem valV_snoc (k j : κ) (y : V) : ∀ kvs : List (κ × V), valV kvs k = none → valV (kvs ++ [(k, y)]) j = if j = k then some y else valV kvs j
  | [], _ => by
    by_cases e : k = j
    · rw [if_pos e.symm]; exact valV_pos (p := (k, y)) e
    · rw [if_neg (fun z => e z.symm)]; exact valV_neg (p := (k, y)) e
  | p :: r, hn => by
    rw [List.cons_append]
    have hk : ¬ p.1 = k := fun z => by rw [valV_pos z] at hn; cases hn
    rw [valV_neg hk] at hn
    have ih := valV_snoc k j y r hn
    by_cases e : p.1 = j
    · rw [valV_pos e, valV_pos e, if_neg (fun z => hk (e.trans z))]
    · rw [valV_neg e, valV_neg e, ih]
theorem valV_put (kvs : List (κ × V)) (k j : κ) (y : V) : valV (putK kvs k y) j = if j = k then some y else valV kvs j := by
  unfold putK
  by_cases a : (kvs.any fun kv => decide (kv.1 = k)) = true
  · rw [if_pos a, valV_map]
    rw [valV_any] at a
    by_cases e : j = k
    · obtain ⟨x, hx⟩ := Option.isSome_iff_exists.mp a
      rw [if_pos e, e, hx, Option.map_some, if_pos rfl]
    · rw [if_neg e]
      cases valV kvs j with
      | none => rfl
      | some x => rw [Option.map_some, if_neg e]
  · rw [if_neg a]
    refine valV_snoc k j y kvs ?_
    rw [valV_any] at a
    cases q : valV kvs k with
    | none => rfl
    | some x => rw [q] at a; exact (a rfl).elim
theorem length_putK (kvs : List (κ × V)) (k : κ) (v : V) : (putK kvs k v).length ≤ kvs.length + 1 := by
  unfold putK
  split
  · rw [List.length_map]; omega
  · rw [List.length_append, List.length_cons, List.length_nil]; omega
theorem putK_new {kvs : List (κ × V)} {k : κ} (v : V) (h : valV kvs k = none) : putK kvs k v = kvs ++ [(k, v)] := by
  unfold putK
  rw [valV_any, h]
  exact if_neg (by decide)
theorem RelO.isSome_eq {o : Option V} {u : Option Value} (r : RelO o u) : o.isSome = u.isSome := by
  cases o with
  | none => cases u with
    | none => rfl
    | some _ => exact (show False from r).elim
  | some _ => cases u with
    | none => exact (show False from r).elim
    | some _ => rfl
theorem RelO.getD {o : Option V} {u : Option Value} {d : V} {d' : Value} (r : RelO o u) (rd : RelV d d') : RelV (o.getD d) (u.getD d') := by
  cases o with
  | none => cases u with
    | none => exact rd
    | some _ => exact (show False from r).elim
  | some _ => cases u with
    | none => exact (show False from r).elim
    | some _ => exact r
theorem KV.val {kvs : List (κ × V)} {vs : List (κ × Value)} (r : KV kvs vs) (k : κ) : RelO (valV kvs k) (valueAt vs k) := by
  unfold KV at r
  induction r with
  | nil => exact True.intro
  | @cons p q ps qs h t ih =>
    obtain ⟨h1, h2⟩ := h
    by_cases e : p.1 = k
    · have e' : q.1 = k := h1.symm.trans e
      have b : valueAt (q :: qs) k = some q.2 := by simp [valueAt, List.find?_cons, e']
      rw [valV_pos e, b]; exact h2
    · have e' : ¬ q.1 = k := fun z => e (h1.trans z)
      have b : valueAt (q :: qs) k = valueAt qs k := by simp [valueAt, List.find?_cons, e']
      rw [valV_neg e, b]; exact ih
theorem KV.any {kvs : List (κ × V)} {vs : List (κ × Value)} (r : KV kvs vs) (k : κ) : (kvs.any fun kv => decide (kv.1 = k)) = vs.any fun kv => decide (kv.1 = k) := by
  unfold KV at r
  induction r with
  | nil => rfl
  | cons h t ih => rw [List.any_cons, List.any_cons, ih, h.1]
theorem KV.repl {kvs : List (κ × V)} {vs : List (κ × Value)} (r : KV kvs vs) (k : κ) {y : V} {u : Value} (ry : RelV y u) :
    KV (kvs.map fun kv => if kv.1 = k then (kv.1, y) else kv) (vs.map fun kv => if kv.1 = k then (kv.1, u) else kv) := by
  unfold KV at r ⊢
  induction r with
  | nil => exact .nil
  | @cons p q ps qs h t ih =>
    rw [List.map_cons, List.map_cons]
    refine .cons ?_ ih
    obtain ⟨h1, h2⟩ := h
    by_cases e : p.1 = k
    · rw [if_pos e, if_pos (h1.symm.trans e)]; exact ⟨h1, ry⟩
    · rw [if_neg e, if_neg (fun z => e (h1.trans z))]; exact ⟨h1, h2⟩
theorem KV.put {kvs : List (κ × V)} {vs : List (κ × Value)} (r : KV kvs vs) (k : κ) {y : V} {u : Value} (ry : RelV y u) : KV (putK kvs k y) (stored vs k u) := by
  unfold putK stored
  rw [r.any k]
  by_cases e : (vs.any fun kv => decide (kv.1 = k)) = true
  · rw [if_pos e, if_pos e]; exact r.repl k ry
  · rw [if_neg e, if_neg e]; exact Paired.snoc r ⟨rfl, ry⟩
theorem KV.drop {kvs : List (κ × V)} {vs : List (κ × Value)} (r : KV kvs vs) (k : κ) : KV (dropK kvs k) (without vs k) := by
  unfold KV at r ⊢
  unfold dropK without
  induction r with
  | nil => exact .nil
  | @cons p q ps qs h t ih =>
    obtain ⟨h1, h2⟩ := h
    rw [List.filter_cons, List.filter_cons]
    by_cases e : p.1 = k
    · have a : ¬ decide (p.1 ≠ k) = true := by simp [e]
      have b : ¬ decide (q.1 ≠ k) = true := by simp [h1.symm.trans e]
      rw [if_neg a, if_neg b]; exact ih
    · have e' : ¬ q.1 = k := fun z => e (h1.trans z)
      have a : decide (p.1 ≠ k) = true := by simp [e]
      have b : decide (q.1 ≠ k) = true := by simp [e']
      rw [if_pos a, if_pos b]; exact .cons ⟨h1, h2⟩ ih
theorem KV.keys {kvs : List (κ × V)} {vs : List (κ × Value)} (r : KV kvs vs) : kvs.map (·.1) = vs.map (·.1) := by
  unfold KV at r
  induction r with
  | nil => rfl
  | cons h t ih => rw [List.map_cons, List.map_cons, ih, h.1]
theorem KV.length {kvs : List (κ × V)} {vs : List (κ × Value)} (r : KV kvs vs) : kvs.length = vs.length := Paired.length r
end
theorem kV_is {P : Program} {w : World} {k : Key} {u : Value} (r : RelV (kV k) u) : (mixKind P w).is k u = true := by
  cases k with
  | inl i => obtain ⟨t, e⟩ := (show ∃ t, u = Value.int i t from r); subst e; exact mixKind_int P w i t
  | inr x => obtain ⟨t, e⟩ := (show ∃ t, u = Value.str x t from r); subst e; exact mixKind_str P w x t
theorem items_are {P : Program} {w : World} : ∀ {ks : List Key} {us : List Value}, Vals (ks.map kV) us → ItemsAre (mixKind P w) ks us
  | [], _, r => by rw [List.map_nil] at r; cases r; exact .nil
  | k :: ks, _, r => by
    rw [List.map_cons] at r
    cases r with
    | cons h t => exact .cons (kV_is h) (items_are t)
abbrev KT (H : Hp) : List (List Key × V) → List (List Key × Addr × Value) → Prop := Paired fun p q => p.1 = q.1 ∧ H q.2.1 = some (.tup (p.1.map kV)) ∧ RelV p.2 q.2.2
theorem KT.val {H : Hp} {kvs : List (List Key × V)} {xs : List (List Key × Addr × Value)} (r : KT H kvs xs) (k : List Key) : RelO (valV kvs k) ((atKey xs k).map (·.2)) := by
  induction r with
  | nil => exact True.intro
  | @cons p q ps qs h t ih =>
    obtain ⟨h1, _, h2⟩ := h
    by_cases e : p.1 = k
    · have e' : q.1 = k := h1.symm.trans e
      have b : atKey (q :: qs) k = some q.2 := by simp [atKey, List.find?_cons, e']
      rw [valV_pos e, b]; exact h2
    · have e' : ¬ q.1 = k := fun z => e (h1.trans z)
      have b : atKey (q :: qs) k = atKey qs k := by simp [atKey, List.find?_cons, e']
      rw [valV_neg e, b]; exact ih
theorem KT.repl {H : Hp} {kvs : List (List Key × V)} {xs : List (List Key × Addr × Value)} (r : KT H kvs xs) (k : List Key) {y : V} {u : Value} (ry : RelV y u) :
    KT H (kvs.map fun kv => if kv.1 = k then (kv.1, y) else kv) (xs.map (putAt k u)) := by
  induction r with
  | nil => exact .nil
  | @cons p q ps qs h t ih =>
    rw [List.map_cons, List.map_cons]
    refine .cons ?_ ih
    obtain ⟨h1, h2, h3⟩ := h
    unfold putAt
    by_cases e : p.1 = k
    · rw [if_pos e, if_pos (h1.symm.trans e)]; exact ⟨h1, h2, ry⟩
    · rw [if_neg e, if_neg (fun z => e (h1.trans z))]; exact ⟨h1, h2, h3⟩
theorem KT.put {H : Hp} {kvs : List (List Key × V)} {xs : List (List Key × Addr × Value)} (r : KT H kvs xs) (k : List Key) {b : Addr} {y : V} {u : Value} (hb : H b = some (.tup (k.map kV))) (ry : RelV y u) :
    KT H (putK kvs k y) (storedH xs k b u) := by
  have e : (kvs.any fun kv => decide (kv.1 = k)) = (atKey xs k).isSome := by
    rw [valV_any, (r.val k).isSome_eq, Option.isSome_map]
  unfold putK storedH
  rw [e]
  by_cases q : (atKey xs k).isSome = true
  · rw [if_pos q, if_pos q]; exact r.repl k ry
  · rw [if_neg q, if_neg q]; exact Paired.snoc r ⟨rfl, hb, ry⟩
theorem KT.keeps {H H' : Hp} {kvs : List (List Key × V)} {xs : List (List Key × Addr × Value)} (r : KT H kvs xs) (ht : ∀ b ys, H b = some (.tup ys) → H' b = some (.tup ys)) : KT H' kvs xs :=
  Paired.mapP r fun _ _ z => ⟨z.1, ht _ _ z.2.1, z.2.2⟩
section
variable {P : Program} {w : World} {H : Hp} {h : Heap} {a : Addr}
theorem rd_of {u : HO} (ok : HOk P w H h) (e : Rd H a u) : ObjOk P w H h a u := e.ok ok
theorem dk_rd {kvs : List (Key × V)} (ok : HOk P w H h) (e : Rd H a (.dK kvs)) : kvs.length ≤ sizeLine ∧ (a == sysModules) = false ∧ ∃ vs, KV kvs vs ∧ h.DictOf (mixKind P w) a vs :=
  show ObjOk P w H h a (.dK kvs) from rd_of ok e
theorem dk_of {kvs : List (Key × V)} (ok : HOk P w H h) (e : H a = some (.dK kvs)) : kvs.length ≤ sizeLine ∧ (a == sysModules) = false ∧ ∃ vs, KV kvs vs ∧ h.DictOf (mixKind P w) a vs := dk_rd ok (.inl e)
theorem key_of {ks : List Key} (ok : HOk P w H h) (e : H a = some (.tup (ks.map kV))) : (tupleKind (mixKind P w)).is h ks a := by
  obtain ⟨_, its, r, o, h1, h2, n, h3⟩ := (show ObjOk P w H h a (.tup (ks.map kV)) from ok a _ e)
  exact ⟨o, its.toArray, n, h1, h2, h3, by simpa using items_are r⟩
theorem dt_rd {kvs : List (List Key × V)} (ok : HOk P w H h) (e : Rd H a (.dT kvs)) : kvs.length ≤ sizeLine ∧ (a == sysModules) = false ∧
    ∃ xs, KT H kvs xs ∧ h.DictOfH (tupleKind (mixKind P w)) a xs := by
  obtain ⟨z, y, xs, r, o, es, ep, h1, h2, h3, h4, h5⟩ := (show ObjOk P w H h a (.dT kvs) from rd_of ok e)
  refine ⟨z, y, xs, r, o, es, ep, h1, h2, h3, h4, fun x hx => ?_, h5⟩
  have all : ∀ {l : List (List Key × V)} {m : List (List Key × Addr × Value)}, KT H l m → ∀ x ∈ m, (tupleKind (mixKind P w)).is h x.1 x.2.1 := by
    intro l m q
    induction q with
    | nil => intro x hx; exact nomatch hx
    | @cons p q ps qs hq t ih =>
      intro x hx
      rcases List.mem_cons.mp hx with e | hx
      · subst e
        exact key_of ok (by rw [← hq.1]; exact hq.2.1)
      · exact ih x hx
  exact all r x hx
theorem dt_of {kvs : List (List Key × V)} (ok : HOk P w H h) (e : H a = some (.dT kvs)) : kvs.length ≤ sizeLine ∧ (a == sysModules) = false ∧
    ∃ xs, KT H kvs xs ∧ h.DictOfH (tupleKind (mixKind P w)) a xs := dt_rd ok (.inl e)
end
def DGet (H : Hp) (a : Addr) (y : V) (r : Option V) : Prop :=
  (∃ kvs k, Rd H a (.dK kvs) ∧ y = kV k ∧ r = valV kvs k) ∨ ∃ kvs k b, Rd H a (.dT kvs) ∧ y = .ref b ∧ H b = some (.tup (k.map kV)) ∧ r = valV kvs k
def DPut (H : Hp) (a : Addr) (y v : V) (H' : Hp) : Prop :=
  (∃ kvs k, H a = some (.dK kvs) ∧ y = kV k ∧ kvs.length < sizeLine ∧ H' = upd H a (.dK (putK kvs k v))) ∨
  ∃ kvs k b, H a = some (.dT kvs) ∧ y = .ref b ∧ H b = some (.tup (k.map kV)) ∧ kvs.length < sizeLine ∧ H' = upd H a (.dT (putK kvs k v))
theorem DGet.k {H : Hp} {a : Addr} {kvs : List (Key × V)} {k : Key} (e : H a = some (.dK kvs)) : DGet H a (kV k) (valV kvs k) := .inl ⟨kvs, k, .inl e, rfl, rfl⟩
theorem DGet.t {H : Hp} {a b : Addr} {kvs : List (List Key × V)} {k : List Key} (e : H a = some (.dT kvs)) (eb : H b = some (.tup (k.map kV))) : DGet H a (.ref b) (valV kvs k) := .inr ⟨kvs, k, b, .inl e, rfl, eb, rfl⟩
theorem DPut.k {H : Hp} {a : Addr} {kvs : List (Key × V)} {k : Key} {v : V} (e : H a = some (.dK kvs)) (hl : kvs.length < sizeLine) : DPut H a (kV k) v (upd H a (.dK (putK kvs k v))) := .inl ⟨kvs, k, e, rfl, hl, rfl⟩
theorem DPut.t {H : Hp} {a b : Addr} {kvs : List (List Key × V)} {k : List Key} {v : V} (e : H a = some (.dT kvs)) (eb : H b = some (.tup (k.map kV))) (hl : kvs.length < sizeLine) :
    DPut H a (.ref b) v (upd H a (.dT (putK kvs k v))) := .inr ⟨kvs, k, b, e, rfl, eb, hl, rfl⟩
section
variable {X : Cx} {pins : List (Addr × Obj)} {σ : St} {H : Hp} {s : Shared} {a : Addr} {y v : V} {u r : Value} {o : Option V} {A : Around} {E : Value → Shared → Prop}
theorem Inv.big (I : Inv X pins σ H s) : sysModules < s.heap.objs.size := by
  have h : mainGlobals < s.heap.objs.size := (I.mod.glob.keeps I.bk).lt
  exact Nat.lt_trans (by decide) h
theorem d_getItem {Q : Value → Shared → Prop} (hu : A.units + 1 < cLine) (I : Inv X pins σ H s) (g : DGet H a y (some v)) (ry : RelV y u) (h : ∀ w' s', Inv X pins σ H s' → RelV v w' → Q w' s') :
    wpAny (model X.prog X.w) A (getItem (.ref a) u) Q E s := by
  rcases g with ⟨kvs, k, e, ey, l⟩ | ⟨kvs, k, b, e, ey, eb, l⟩
  · subst ey
    obtain ⟨z, hd, vs, rel, dd⟩ := dk_rd I.hok e
    obtain ⟨w', hw, rw'⟩ := RelO.some_of (v := v) (o := valueAt vs k) (by rw [l]; exact rel.val k)
    exact wpAny_getItem_of (kV_is ry) dd.mapOf hw (h w' _ (I.tok _) rw')
  · subst ey
    cases (show u = Value.ref b from ry)
    obtain ⟨z, hd, xs, rel, dd⟩ := dt_rd I.hok e
    obtain ⟨w', hw, rw'⟩ := RelO.some_of (v := v) (o := (atKey xs k).map (·.2)) (by rw [l]; exact rel.val k)
    obtain ⟨p, hp, hp2⟩ := Option.map_eq_some_iff.mp hw
    refine wpAny_getItem_heap (tupleKind_room_in1 hu) (key_of I.hok eb) dd hp ?_
    rw [hp2]
    exact h w' _ (I.tok _) rw'
theorem d_in {Q : Value → Shared → Prop} (hu : A.units + 1 < cLine) (I : Inv X pins σ H s) (g : DGet H a y o) (ry : RelV y u) (h : ∀ s', Inv X pins σ H s' → Q (.bool o.isSome) s') :
    wpAny (model X.prog X.w) A (compareOp .In u (.ref a)) Q E s := by
  rcases g with ⟨kvs, k, e, ey, l⟩ | ⟨kvs, k, b, e, ey, eb, l⟩
  · subst ey
    obtain ⟨z, hd, vs, rel, dd⟩ := dk_rd I.hok e
    refine wpAny_in_of (kV_is ry) hd dd.mapOf ?_
    rw [← (rel.val k).isSome_eq, ← l]
    exact h _ (I.tok _)
  · subst ey
    cases (show u = Value.ref b from ry)
    obtain ⟨z, hd, xs, rel, dd⟩ := dt_rd I.hok e
    refine wpAny_in_heap (tupleKind_room_in1 hu) (key_of I.hok eb) hd dd ?_
    have q := (rel.val k).isSome_eq
    rw [Option.isSome_map] at q
    rw [← q, ← l]
    exact h _ (I.tok _)
theorem d_write {h' : Heap} {t' : Nat} {ob : HO} (I : Inv X pins σ H s) (mu : Mut (H a)) (hs : Heap.SameBut a s.heap h') (he : ∃ q, h'.get? a = some q) (new : ObjOk X.prog X.w (upd H a ob) h' a ob) :
    Inv X pins σ (upd H a ob) { s with heap := h', toks := t' } :=
  I.write (x := a) (e := a) mu (.inl rfl) (fun b q hb z => (hs.2 b hb).trans z) he new
theorem dk_new {P : Program} {w : World} {H' : Hp} {h' : Heap} {kvs : List (Key × V)} {vs : List (Key × Value)} (z : kvs.length ≤ sizeLine) (hd : (a == sysModules) = false) (rel : KV kvs vs) (dd : h'.DictOf (mixKind P w) a vs) :
    ObjOk P w H' h' a (.dK kvs) := ⟨z, hd, vs, rel, dd⟩
theorem d_setItem {H' : Hp} {Q : Unit → Shared → Prop} (hu : A.units + 1 < cLine) (I : Inv X pins σ H s) (g : DPut H a y v H') (ry : RelV y u) (rv : RelV v r) (h : ∀ s', Inv X pins σ H' s' → Q () s') :
    wpAny (model X.prog X.w) A (setItem (.ref a) u r) Q E s := by
  rcases g with ⟨kvs, k, e, ey, l, eH⟩ | ⟨kvs, k, b, e, ey, eb, l, eH⟩
  · subst ey eH
    obtain ⟨z, hd, vs, rel, dd⟩ := dk_of I.hok e
    have hz : vs.length ≤ sizeLine := by rw [← rel.length]; exact z
    have hl : (putK kvs k v).length ≤ sizeLine := by have := length_putK kvs k v; omega
    refine wpAny_setItem_pairs (hsz := hz) (kV_is ry) dd fun h' dd' hs => h _ ?_
    have he : ∃ q, h'.get? a = some q := let ⟨q, _, _, hq, _⟩ := dd'; ⟨q, hq⟩
    exact d_write I (by rw [e]; exact True.intro) hs he (dk_new hl hd (rel.put k rv) dd')
  · subst ey eH
    cases (show u = Value.ref b from ry)
    obtain ⟨z, hd, xs, rel, dd⟩ := dt_of I.hok e
    have hz : xs.length ≤ sizeLine := by rw [← Paired.length rel]; exact z
    have hl : (putK kvs k v).length ≤ sizeLine := by have := length_putK kvs k v; omega
    refine wpAny_setItem_heap (hsz := hz) (tupleKind_room_in1 hu) (key_of I.hok eb) dd fun h' dd' hs => h _ ?_
    obtain ⟨q, es, ep, hq, h2, h3, h4, _, h5⟩ := dd'
    refine d_write I (by rw [e]; exact True.intro) hs ⟨q, hq⟩ ⟨hl, hd, _, (rel.put k eb rv).keeps fun c ys ec => ?_, q, es, ep, hq, h2, h3, h4, h5⟩
    rw [upd_ne (ne_of ec e (fun z => nomatch z))]
    exact ec
end
section
variable {X : Cx} {pins : List (Addr × Obj)} {σ : St} {H : Hp} {s : Shared} {a : Addr} {kvs : List (Key × V)} {k : Key} {u : Value} {A : Around} {E : Value → Shared → Prop}
end
def NoSl (i : Expr) : Prop := ∀ ov iv, subscripted i false ov iv = operate [ov, iv] (getItem ov iv)
theorem subD_of {prog : Program} {w : World} {A : Around} {E : Value → Shared → Prop} {s : Shared} {env : Env} {value slice : Expr} {pos : Pos} {T id : String} {Q : Value → Shared → Prop}
    (hl : typeLookup (.type T) "__getitem__" = pure (some (.builtin id))) (hs : NoSl slice)
    (h : wpAny (model prog w) A (eval value env) (fun o s₁ => wpAny (model prog w) A (eval slice env) (fun i s₂ => s₂.TypeIs o T ∧ wpAny (model prog w) A (getItem o i) Q E s₂) E s₁) E s) :
    wpAny (model prog w) A (eval (.Subscript value slice pos) env) Q E s := by
  refine Subscript_ (wpAny_mono h (fun o s₁ h₁ => wpAny_mono h₁ (fun i s₂ h₂ => ?_) fun _ _ x => x) fun _ _ x => x)
  obtain ⟨hT, h₂⟩ := h₂
  unfold subscriptTail
  refine wpAny_bind ?_
  rw [getitemInPython_of_ne hT.not_modules]
  refine wpAny_bind (wpAny_specialOf hT hl ?_)
  have fin : wpAny (model prog w) A (subscripted slice false o i) (fun r s₃ => wpAny (model prog w) A (letTemporaryGo value o r >>= fun _ => pure r) Q E s₃) E s₂ := by
    rw [hs o i]
    exact wpAny_operating (wpAny_mono h₂ (fun r s₃ h₃ => wpAny_bind (wpAny_letTemporaryGo (wpAny_pure h₃))) fun _ _ x => x)
  first
    | exact wpAny_pure (wpAny_bind fin)
    | exact wpAny_bind (wpAny_pure (wpAny_bind fin))
    | exact wpAny_bind fin
theorem dict_typeIs {X : Cx} {pins : List (Addr × Obj)} {σ : St} {H : Hp} {s : Shared} {a : Addr} {y : V} {o : Option V} (I : Inv X pins σ H s) (g : DGet H a y o) : s.TypeIs (.ref a) "dict" := by
  rcases g with ⟨kvs, k, e, _, _⟩ | ⟨kvs, k, b, e, _, _, _⟩
  · obtain ⟨_, _, vs, _, dd⟩ := dk_rd I.hok e
    exact dd.typeIs
  · obtain ⟨_, _, xs, _, dd⟩ := dt_rd I.hok e
    exact dd.typeIs
def tDGet (td ty : TE) : TE := fun σ H Q => td σ H fun x H1 => ty σ H1 fun y H2 => ∃ a v, x = .ref a ∧ DGet H2 a y (some v) ∧ Q v H2
def tDIn (ty td : TE) : TE := fun σ H Q => ty σ H fun y H1 => td σ H1 fun x H2 => ∃ a o, x = .ref a ∧ DGet H2 a y o ∧ Q (.bl o.isSome) H2
def sDPut (td ty tv : TE) : TS := fun D σ H => tv σ H fun v H1 => td σ H1 fun x H2 => ty σ H2 fun y H3 => ∃ a H4, x = .ref a ∧ DPut H3 a y v H4 ∧ D.nx σ H4
section
variable {X : Cx} {o i e value : Expr} {pos pos' tpos : Pos} {td ty tv : TE}
theorem pe_dget (hu : X.A.units + 1 < cLine) (ho : PE X o td) (hi : PE X i ty) (hs : NoSl i) : PE X (.Subscript o i pos) (tDGet td ty) := by
  intro pins s σ H Q I h
  refine subD_of PySem.F.slot_dict_getitem.lookup hs (thn (ho pins s σ H _ I h) fun u s1 ⟨x, H1, I1, rx, q1⟩ => thn (hi pins s1 σ H1 _ I1 q1) fun iv s2 ⟨y, H2, I2, ry, a, v, ex, g, q2⟩ => ?_)
  subst ex
  obtain rfl : u = Value.ref a := rx
  exact ⟨dict_typeIs I2 g, d_getItem hu I2 g ry fun w' s3 I3 rw' => ⟨v, H2, I3, rw', q2⟩⟩
theorem pc_din (hu : X.A.units + 1 < cLine) (hi : PE X i ty) (ho : PE X o td) : PC X .In i o (tDIn ty td) := by
  intro pins s σ H Q I h
  refine thn (hi pins s σ H _ I h) fun iv s1 ⟨y, H1, I1, ry, q1⟩ => thn (ho pins s1 σ H1 _ I1 q1) fun u s2 ⟨x, H2, I2, rx, a, ov, ex, g, q2⟩ => ?_
  subst ex
  obtain rfl : u = Value.ref a := rx
  exact d_in hu I2 g ry fun s3 I3 => ⟨.bl ov.isSome, H2, I3, rfl, q2⟩
theorem ps_dput (hu : X.A.units + 1 < cLine) (ho : PE X o td) (hi : PE X i ty) (hv : PE X value tv) (hs : swapsWith value (some (.Subscript o i pos')) pos.line X.env = pure false) :
    PS X (.Assign [.Subscript o i pos'] value pos) (sDPut td ty tv) := by
  intro pins s σ H D I h
  refine wpAny_Assign_Subscript (thn (hv pins s σ H _ I h) fun r s1 ⟨v, H1, I1, rv, q1⟩ => thn (ho pins s1 σ H1 _ I1 q1) fun u s2 ⟨x, H2, I2, rx, q2⟩ => thn (hi pins s2 σ H2 _ I2 q2) fun iv s3 ⟨y, H3, I3, ry, a, H4, ex, g, q3⟩ => ?_) hs
  subst ex
  obtain rfl : u = Value.ref a := rx
  exact d_setItem hu I3 g ry rv fun s4 I4 => ⟨σ, H4, I4, q3⟩
end
theorem dt_empty {P : Program} {w : World} {H : Hp} (h : Heap) (hb : sysModules < h.objs.size) : ObjOk P w H (h.push { cls := .type "dict", data := .dict #[] }) h.objs.size (.dT []) :=
  ⟨Nat.zero_le _, beq_eq_false_iff_ne.mpr (Ne.symm (Nat.ne_of_lt hb)), [], .nil, _, #[], 0, Heap.get?_push_size _ rfl, ⟨rfl, rfl, rfl⟩, rfl, rfl, List.nodup_nil⟩
def tDNewT : TE := fun _ H Q => ∀ p, H p = none → Q (.ref p) (upd H p (.dT []))
section
variable {X : Cx} {pos : Pos}
theorem pe_dnewT : PE X (.Dict [] [] pos) tDNewT := fun pins s σ H Q I h =>
  wpAny_Dict_empty ⟨.ref s.heap.objs.size, _, I.laid (a := s.heap.objs.size) (o := .dT []) (t' := s.toks) (fun _ _ q => Heap.get?_push_of_some _ q) (Nat.le_refl _) (dt_empty s.heap I.big), rfl, h _ (I.hok.fresh (Nat.le_refl _))⟩
end
section
variable {X : Cx} {pins : List (Addr × Obj)} {σ : St} {H : Hp} {s : Shared} {a : Addr} {y d : V} {u r : Value} {o : Option V} {A : Around} {E : Value → Shared → Prop}
end
section
variable {X : Cx} {o e f : Expr} {apos cpos : Pos} {td ty tx : TE}
end
section
variable {X : Cx} {pins : List (Addr × Obj)} {σ : St} {H : Hp} {s : Shared} {a : Addr} {kvs : List (Key × V)} {A : Around} {E : Value → Shared → Prop}
end
section
variable {X : Cx} {pins : List (Addr × Obj)} {σ : St} {H : Hp} {s : Shared} {a : Addr} {y : V} {u : Value} {A : Around} {E : Value → Shared → Prop}
end
end L2
namespace L2
open PySem PySem.Spec PyProof.Rows
section
variable {prog : Program} {w : World} {A : Around} {E : Value → Shared → Prop}
end
section
variable {X : Cx}
end
end L2
namespace L2
open PySem PySem.Spec PyProof.Rows
section
variable {X : Cx} {pins : List (Addr × Obj)} {σ : St} {H : Hp} {s : Shared} {h' : Heap}
end
section
variable {X : Cx}
end
section
variable {X : Cx} {tg : Expr}
end
section
variable {X : Cx} {tg : Expr}
end
section
variable {prog : Program} {w : World} {A : Around} {E : Value → Shared → Prop} {s : Shared}
end
theorem paired_get {α β : Type} {G : α → β → Prop} {l₁ : List α} {l₂ : List β} (h : Paired G l₁ l₂) : ∀ {i : Nat} {a : α}, l₁[i]? = some a → ∃ b, l₂[i]? = some b ∧ G a b := by
  induction h with
  | nil => intro i a e; simp at e
  | @cons a b l₁ l₂ r t ih =>
    intro i a' e
    cases i with
    | zero =>
      simp only [List.getElem?_cons_zero, Option.some.injEq] at e
      subst e
      exact ⟨b, rfl, r⟩
    | succ j =>
      simp only [List.getElem?_cons_succ] at e ⊢
      exact ih e
section
variable {X : Cx} {pins : List (Addr × Obj)} {σ : St} {H : Hp} {s : Shared} {d : Addr} {o : Obj}
end
section
variable {P : Program} {w : World} {K : PySem.W.Frag} {tg : Expr} {d : Addr} {o : Obj} {es : Array DictEntry} {ep : Nat}
end
section
variable {X : Cx} {tg e : Expr} {td : TE} {apos cpos : Pos}
end
end L2
section 
namespace Bits
open PySem PyProof.Rows
end Bits
end 
section 
namespace TL
open PySem PySem.Builtin PySem.Builtin.Str PySem.StrLaws
abbrev tl (x : Str) : List Nat := x.cps.toList
def pre (S l : List Nat) : Bool := l.take S.length == S
def par (S : List Nat) : List Nat → List Nat → Option (List Nat × List Nat)
  | _, [] => none
  | acc, c :: r => if pre S (c :: r) = true then some (acc, (c :: r).drop S.length) else par S (acc ++ [c]) r
end TL
end 
namespace L2
open PySem PySem.Spec PyProof.Rows
section
variable {X : Cx} {pins : List (Addr × Obj)} {σ : St} {H : Hp} {s : Shared} {Q : VK}
end
section
variable {X : Cx}
end
section
variable {X : Cx} {o e : Expr} {to te : TE}
end
end L2
namespace L2
open PySem PySem.Spec PyProof.Rows
section
variable {X : Cx}
end
end L2
namespace Att
open PySem PySem.W PySem.Calls PyProof.Rows
section
variable {prog : Program} {w : World} {A : Around} {E : Value → Shared → Prop} {s : Shared} {K : Frag}
end
end Att
namespace L2
open PySem PySem.Spec PyProof.Rows
end L2
namespace L2
open PySem PySem.Spec PyProof.Rows
end L2
namespace L2
open PySem PySem.Spec PyProof.Rows
def inClass (s : Stmt) (j : Nat) : Stmt := match s with
  | .ClassDef _ _ _ body _ _ _ _ _ _ _ => body.getD j (.Pass ⟨0, 0, 0, 0⟩)
  | _ => .Pass ⟨0, 0, 0, 0⟩
def defArgs (s : Stmt) : Arguments := match s with
  | .FunctionDef _ a _ _ _ _ _ _ _ _ => a
  | _ => { posonlyargs := [], args := [], vararg := none, kwonlyargs := [], kw_defaults := [], kwarg := none, defaults := [] }
def defBody (s : Stmt) : List Stmt := match s with
  | .FunctionDef _ _ b _ _ _ _ _ _ _ => b
  | _ => []
def defScope (s : Stmt) : Scope := match s with
  | .FunctionDef _ _ _ _ _ _ sc _ _ _ => sc
  | _ => { kind := .function, names := [], isGenerator := false, isCoroutine := false }
abbrev CX0 : CXT := fun _ _ _ _ _ _ => False
abbrev E0 : XK := fun _ _ _ => False
theorem pass0 {X : Cx} : Passes CX0 X E0 := fun _ _ _ _ _ _ _ h => h.elim
structure Fun (K : PySem.W.Frag) (x qual : Str) (st : Stmt) (f : Addr) (fd : FuncData) : Prop where
  ex : ∃ (oc : Value) (od : Option Addr) (kV doc pm : Value) (an : Option Addr) (cdv ct : Value) (osl : Array (Option Value)),
    fd = PySem.W.fnOf x qual (defArgs st) (defBody st) (defScope st) .none kV doc pm an cdv ct ∧ K.lookup f = some ⟨oc, od, .func fd, osl⟩ ∧ PySem.W.codeIn K cdv qual = true
  kp : PySem.W.keepIn K (.ref f) = true
section
variable {P : Program} {w : World} {K : PySem.W.Frag} {mg : Str → Option Value} {base : Heap}
theorem Fun.ok {x qual : Str} {st : Stmt} {f : Addr} {fd : FuncData} {N ps : List Str} {k : Nat} {sp : Sp} (F : Fun K x qual st f fd) (S : FnScope N ps (defScope st)) (len : ∀ vs H Q E, sp vs H Q E → vs.length = ps.length)
    (hbody : ∀ (cdv : Value) (A : Around) (outer : List Env) (s : Shared) (H : Hp) (vs : List V) (Q : VK) (E : XK), Room k (A.deeper (envOfC qual (defScope st) s.heap.objs.size f cdv)) → sp vs H Q E →
      ∃ t, PSs (cxOf CX0 P w K mg base N qual (defScope st) f cdv A outer s H E).nox (defBody st) t ∧ t { nx := fun _ H' => Q .non H', rt := Q } (start N vs) H) : FnOk P w K mg base CX0 (k + 1) f fd ps sp := by
  obtain ⟨oc, od, kV, doc, pm, an, cdv, ct, osl, rfl, lk, hcd⟩ := F.ex
  refine fn_of lk hcd S len fun A outer s H vs Q E hr hsp => ?_
  obtain ⟨t, h, q⟩ := hbody cdv A outer s H vs Q E hr hsp
  exact ⟨t, h.nox, q⟩
theorem Fun.binds {x qual : Str} {st : Stmt} {f : Addr} {fd : FuncData} {ps : List Str} (F : Fun K x qual st f fd)
    (h : ∀ (kV doc pm : Value) (an : Option Addr) (cdv ct : Value) (us : List Value), us.length = ps.length → bindArgs (PySem.W.fnOf x qual (defArgs st) (defBody st) (defScope st) .none kV doc pm an cdv ct) ⟨us, []⟩ = pure (ps.zip us)) : Binds K fd ps [] := by
  obtain ⟨oc, od, kV, doc, pm, an, cdv, ct, osl, rfl, lk, hcd⟩ := F.ex
  exact .all (h kV doc pm an cdv ct)
theorem fun_mk {x qual : Str} {st : Stmt} {f : Addr} {oc : Value} {od an : Option Addr} {osl : Array (Option Value)} {kV doc pm cdv ct : Value} (l : K.lookup f = some ⟨oc, od, .func (PySem.W.fnOf x qual (defArgs st) (defBody st) (defScope st) .none kV doc pm an cdv ct), osl⟩)
    (c : PySem.W.codeIn K cdv qual = true) (k : PySem.W.keepIn K (.ref f) = true) : Fun K x qual st f (PySem.W.fnOf x qual (defArgs st) (defBody st) (defScope st) .none kV doc pm an cdv ct) := ⟨⟨oc, od, kV, doc, pm, an, cdv, ct, osl, rfl, l, c⟩, k⟩
end
theorem hu_of {A : Around} {k : Nat} (hr : Room k A) : A.units + 1 < cLine := Nat.lt_of_le_of_lt (Nat.add_le_add_left (by decide : 1 ≤ 64) _) hr.units
theorem small1000 {n : Nat} (h : n ≤ 1000) : n < sizeLine := Nat.lt_of_le_of_lt h (by decide)
section
variable {X : Cx}
theorem pv (i : Nat) {x : Str} {pos : Pos} (hN : X.N[i]? = some x := by rfl) (hv : Vis X.env.scope x := by first | exact Or.inl rfl | exact Or.inr (Or.inl rfl) | exact Or.inr (Or.inr rfl)) (hd : (x == ("__debug__" : Str)) = false := by decide)
    (hcd : (x == ("__classdict__" : Str)) = false := by decide) : PE X (.Name x pos) (tVar i) := pe_var hN hv hd hcd
end
theorem iteF {A B : Prop} (h : B) : if false = true then A else B := by
  rw [if_neg Bool.false_ne_true]
  exact h
theorem iteT {A B : Prop} (h : A) : if true = true then A else B := by
  rw [if_pos rfl]
  exact h
theorem ite2 {c A B : Prop} [Decidable c] (h1 : c → A) (h2 : ¬ c → B) : if c then A else B := by
  by_cases h : c
  · rw [if_pos h]
    exact h1 h
  · rw [if_neg h]
    exact h2 h
def Same (H H' : Hp) : Prop := ∀ b o, H b = some o → H' b = some o
theorem Same.refl (H : Hp) : Same H H := fun _ _ h => h
theorem Same.trans {H H1 H2 : Hp} (a : Same H H1) (b : Same H1 H2) : Same H H2 := fun c o h => b c o (a c o h)
theorem Same.free {H H' : Hp} (e : Same H H') {l : Addr} (h : H' l = Option.none) : H l = Option.none := by
  cases q : H l with
  | none => rfl
  | some o =>
    rw [e l o q] at h
    cases h
theorem Same.seq {K : PySem.W.Frag} {H H' : Hp} {a : Addr} {xs : List V} (e : Same H H') (h : SqL K H a xs) : SqL K H' a xs := by
  rcases h with (h | ⟨o, h⟩) | h
  · exact .inl (.inl (e _ _ h))
  · exact .inl (.inr ⟨o, e _ _ h⟩)
  · exact .inr h
section
variable {κ : Type} [DecidableEq κ]
end
theorem at_of {xs : List V} {z : Int} {j : Nat} {v : V} (e : z = (j : Int)) (h : xs[j]? = some v) : atI xs z = some v := by
  rw [e]
  exact atI_nat h
theorem Same.made {H H1 : Hp} {x dx C : Addr} (nx : H x = Option.none) (nd : H dx = Option.none) (k : ∀ b o, (upd (upd H dx (.own x)) x (.ins C dx [])) b = some o → b ≠ x → H1 b = some o) : Same H H1 := fun b o e =>
  k b o (by rw [upd_ne (ne_of_none e nx), upd_ne (ne_of_none e nd)]; exact e) (ne_of_none e nx)
end L2
section
set_option Elab.async false
set_option linter.all false
set_option maxRecDepth 100000
set_option maxHeartbeats 2000000
/-! ### less-than of lists, item by item; min of a list of such lists -/
namespace PySem.SeqAt
open AutoSeq1 (wpAny_loadPart')
open MeetsSeq MeetsSeq2 MeetsSeq3 SeqRoads2
def LtAt (A : Around) (s : Shared) (y x : Value) (b : Bool) : Prop :=
  ∀ (prog : Program) (w : World) (E : Value → Shared → Prop) (Q : Value → Shared → Prop), Q (.bool b) s → wpAny (model prog w) A (richCompare .Lt y x) Q E s
def lexR (e lt : Nat → Bool) : List Nat → Bool
  | [] => false
  | j :: r => if e j = true then lexR e lt r else lt j
theorem lt_loopAt (l b : Addr) (items items2 : Array Value) (n n2 : Nat) (dd dd2 : Option Addr) (sl sl2 : Array (Option Value)) (hsz : items.size = items2.size) (e lt : Nat → Bool) (k : Nat) :
    ∀ i : Nat, items.size - i = k → Meets (Builtin.«list.__eq__.loop» ⟨[.ref l, .ref b, rawInt i, rawInt 0], []⟩)
      (fun A R s => s.heap.get? l = some { cls := .type "list", dict := dd, data := .seq items n, slots := sl } ∧ s.heap.get? b = some { cls := .type "list", dict := dd2, data := .seq items2 n2, slots := sl2 } ∧
        (∀ j (h1 : j < items.size) (h2 : j < items2.size), EqAt A.in1 s items[j] items2[j] (e j)) ∧
        (∀ j (h1 : j < items.size) (h2 : j < items2.size), LtAt A.in1 s items[j] items2[j] (lt j)) ∧
        R (.ok (.ret (.bool (lexR e lt ((List.range items.size).drop i))))) s) := by
  induction k with
  | zero =>
    intro i hk prog w A R s h
    obtain ⟨hp, g, d, tk, os⟩ := s; obtain ⟨hl, hb, he, hlt', h⟩ := h
    wp_walk using wpAny_loadPart' hl, wpAny_loadPart' hb
    have hi1 : items[((i : Nat) : Int).toNat]? = none := by simp; omega
    have hi2 : items2[((i : Nat) : Int).toNat]? = none := by simp; omega
    have hd : (List.range items.size).drop i = [] := by simp; omega
    rw [hd] at h
    rw [hi1, hi2]
    wp_walk using wpAny_loadPart' hl, wpAny_loadPart' hb
    show R (.ok (.ret (.bool (decide (items.size < items2.size))))) _
    rw [hsz]
    simpa [lexR] using h
  | succ k ih =>
    intro i hk prog w A R s h
    obtain ⟨hp, g, d, tk, os⟩ := s; obtain ⟨hl, hb, he, hlt', h⟩ := h
    wp_walk using wpAny_loadPart' hl, wpAny_loadPart' hb
    have hlt : i < items.size := by omega
    have hlt2 : i < items2.size := by omega
    have hi1 : items[((i : Nat) : Int).toNat]? = some items[i] := by simp [hlt]
    have hi2 : items2[((i : Nat) : Int).toNat]? = some items2[i] := by simp [hlt2]
    have hd : (List.range items.size).drop i = i :: (List.range items.size).drop (i + 1) := by simp [List.drop_eq_getElem_cons, hlt]
    have hc : ((i : Int) + 1) = ((i + 1 : Nat) : Int) := by push_cast; rfl
    rw [hd] at h
    rw [hi1, hi2]
    refine wpAny_bind (he i hlt hlt2 prog w _ _ ?_)
    cases hb' : e i with
    | true =>
      rw [lexR, if_pos hb'] at h
      wp_walk
      rw [hc]
      exact ⟨plainId_quiet plain_eq_loop _, codeAny_builtin entry_eq_loop (by
        rw [Around.under_plainId plain_eq_loop _]
        exact ih (i + 1) (by omega) prog w A R _ ⟨hl, hb, he, hlt', h⟩)⟩
    | false =>
      rw [lexR, if_neg (by rw [hb']; exact Bool.false_ne_true)] at h
      have hri := hlt' i hlt hlt2 prog w
      wp_walk using wpAny_loadPart' hl, wpAny_loadPart' hb
      rw [hi1, hi2]
      wp_walk using hri
      simpa using h
theorem list_ltAt (l b : Addr) (items items2 : Array Value) (n n2 : Nat) (dd dd2 : Option Addr) (sl sl2 : Array (Option Value)) (hsz : items.size = items2.size) (e lt : Nat → Bool) :
    Meets (Builtin.«list.__lt__» ⟨[.ref l, .ref b], []⟩)
      (fun A R s => s.heap.get? l = some { cls := .type "list", dict := dd, data := .seq items n, slots := sl } ∧ s.heap.get? b = some { cls := .type "list", dict := dd2, data := .seq items2 n2, slots := sl2 } ∧
        (∀ j (h1 : j < items.size) (h2 : j < items2.size), EqAt A.in1 s items[j] items2[j] (e j)) ∧
        (∀ j (h1 : j < items.size) (h2 : j < items2.size), LtAt A.in1 s items[j] items2[j] (lt j)) ∧
        R (.ok (.ret (.bool (lexR e lt (List.range items.size))))) s) := by
  intro prog w A R s h
  obtain ⟨hp, g, d, tk, os⟩ := s; obtain ⟨hl, hb, he, hlt', h⟩ := h
  have f3 := AutoSeq1.sub_list_list
  wp_walk using wpAny_loadPart' hl, wpAny_loadPart' hb
  exact ⟨plainId_quiet plain_eq_loop _, codeAny_builtin entry_eq_loop (by
    rw [Around.under_plainId plain_eq_loop _]
    exact lt_loopAt l b items items2 n n2 dd dd2 sl sl2 hsz e lt _ 0 rfl prog w A R _ ⟨hl, hb, he, hlt', by simpa using h⟩)⟩
theorem LtAt.lists {A : Around} {s : Shared} {l b : Addr} {items items2 : Array Value} {e lt : Nat → Bool} (hl : s.heap.IsList l items) (hb : s.heap.IsList b items2) (hsz : items.size = items2.size) (hu : A.units < cLine)
    (he : ∀ j (h1 : j < items.size) (h2 : j < items2.size), EqAt A.in1 s items[j] items2[j] (e j))
    (hlt : ∀ j (h1 : j < items.size) (h2 : j < items2.size), LtAt A.in1 s items[j] items2[j] (lt j)) : LtAt A s (.ref l) (.ref b) (lexR e lt (List.range items.size)) := fun prog w E Q h => by
  obtain ⟨⟨cls, dd, data, sl⟩, ho, hc, n, hd⟩ := id hl
  obtain ⟨⟨cls2, dd2, data2, sl2⟩, ho2, hc2, n2, hd2⟩ := id hb
  simp only at hc hd hc2 hd2
  subst hc hd hc2 hd2
  exact richCompare_meets_room (op := .Lt) ⟨_, ho, rfl⟩ ⟨_, ho2, rfl⟩ F.slot_list_lt F.entry_list_lt (F.args_list_lt_2 _ _) (list_ltAt l b items items2 n n2 dd dd2 sl sl2 hsz e lt)
    ⟨ho, ho2, he, hlt, show Value.bool _ ≠ Value.notImplemented ∧ Q (.bool _) s from ⟨(fun x => nomatch x), h⟩⟩ hu
end PySem.SeqAt
end
section
set_option Elab.async false
set_option linter.all false
set_option maxRecDepth 100000
set_option maxHeartbeats 2000000
namespace L2
open PySem PySem.Spec PyProof.Rows
open PySem.W (WData Codec OpenSpec Well WellAll ReadsW ReadsAllW)
mutual
/-- x stands for the datum d, lists and tuples all the way -/
inductive Dw (K : PySem.W.Frag) (H : Hp) : V → WData → Prop
  | non : Dw K H .non .none
  | bl (b : Bool) : Dw K H (.bl b) (.bool b)
  | int (i : Int) : Dw K H (.int i) (.int i)
  | str (x : Str) : Dw K H (.str x) (.str x)
  | byt (b : Array UInt8) : Dw K H (.byt b) (.bytes b.toList)
  | lst {a : Addr} {xs : List V} {ds : List WData} : SqL K H a xs → DwAll K H xs ds → Dw K H (.ref a) (.list ds)
  | tup {a : Addr} {xs : List V} {ds : List WData} : SqT K H a xs → DwAll K H xs ds → Dw K H (.ref a) (.tuple ds)
inductive DwAll (K : PySem.W.Frag) (H : Hp) : List V → List WData → Prop
  | nil : DwAll K H [] []
  | cons {v : V} {vs : List V} {d : WData} {ds : List WData} : Dw K H v d → DwAll K H vs ds → DwAll K H (v :: vs) (d :: ds)
end
theorem dw_ints {K : PySem.W.Frag} {H : Hp} : ∀ ns : List Int, DwAll K H (ns.map V.int) (ns.map WData.int)
  | [] => .nil
  | n :: r => .cons (.int n) (dw_ints r)
theorem ints_dw {K : PySem.W.Frag} {H : Hp} : ∀ (ns : List Int) (xs : List V), DwAll K H xs (ns.map WData.int) → xs = ns.map V.int
  | [], xs, h => by
    cases h
    rfl
  | n :: r, xs, h => by
    cases h with
    | cons h1 h2 =>
      cases h1
      rw [ints_dw r _ h2] <;> rfl
section
variable {P : Program} {w : World} {K : PySem.W.Frag} {H : Hp} {h : Heap} {R : PySem.W.WRecords} {cl : Str → Option Addr}
theorem sqL_at {a : Addr} {xs : List V} (hok : HOk P w H h) (KX : K.In h) (q : SqL K H a xs) : ∃ (its : List Value) (o : Obj) (n : Nat), Vals xs its ∧ h.get? a = some o ∧ o.cls = .type "list" ∧ o.data = .seq its.toArray n := by
  rcases q with q | ⟨o, its, n, e, hc, _, hd, _, hv⟩
  · obtain ⟨_, its, n, hv, e⟩ := (show ObjOk P w H h a (.lst xs) from q.ok hok)
    exact ⟨its, _, n, hv, e, rfl, rfl⟩
  · exact ⟨its.toList, o, n, hv, KX _ _ e, hc, by simp [hd]⟩
theorem sqT_at {a : Addr} {xs : List V} (hok : HOk P w H h) (KX : K.In h) (q : SqT K H a xs) : ∃ (its : List Value) (o : Obj) (n : Nat), Vals xs its ∧ h.get? a = some o ∧ o.cls = .type "tuple" ∧ o.data = .seq its.toArray n := by
  rcases q with q | ⟨o, its, n, e, hc, hd, _, hv⟩
  · obtain ⟨_, its, hv, o, e, hc, n, hd⟩ := (show ObjOk P w H h a (.tup xs) from q.ok hok)
    exact ⟨its, o, n, hv, e, hc, hd⟩
  · exact ⟨its.toList, o, n, hv, KX _ _ e, hc, by simp [hd]⟩
mutual
theorem Dw.reads (hok : HOk P w H h) (KX : K.In h) : ∀ (d : WData) (v : V) (u : Value), Dw K H v d → RelV v u → ∃ as, ReadsW R cl h u d as
  | .none, _, _, x, r => by
    cases x
    cases r
    exact ⟨_, ReadsW.none⟩
  | .bool b, _, _, x, r => by
    cases x
    cases r
    exact ⟨_, ReadsW.bool b⟩
  | .int i, _, _, x, r => by
    cases x
    obtain ⟨t, rfl⟩ := r
    exact ⟨_, ReadsW.int i t⟩
  | .str s, _, _, x, r => by
    cases x
    obtain ⟨t, rfl⟩ := r
    exact ⟨_, ReadsW.str s t⟩
  | .bytes b, _, _, x, r => by
    cases x
    obtain ⟨t, rfl⟩ := r
    exact ⟨_, ReadsW.bytes _ t⟩
  | .list ds, _, _, x, r => by
    cases x with
    | lst hs ha =>
      cases r
      obtain ⟨its, o, n, rv, ho, hc, hd⟩ := sqL_at hok KX hs
      obtain ⟨as, hr⟩ := Dw.readsAll hok KX ds _ its ha rv
      exact ⟨_, ReadsW.list ho hc hd hr⟩
  | .tuple ds, _, _, x, r => by
    cases x with
    | tup hs ha =>
      cases r
      obtain ⟨its, o, n, rv, ho, hc, hd⟩ := sqT_at hok KX hs
      obtain ⟨as, hr⟩ := Dw.readsAll hok KX ds _ its ha rv
      exact ⟨_, ReadsW.tuple ho hc hd hr⟩
  | .float _, _, _, x, _ => by cases x
  | .dict _, _, _, x, _ => by cases x
  | .bytearray _, _, _, x, _ => by cases x
  | .set _, _, _, x, _ => by cases x
  | .frozenset _, _, _, x, _ => by cases x
  | .obj _ _, _, _, x, _ => by cases x
theorem Dw.readsAll (hok : HOk P w H h) (KX : K.In h) : ∀ (ds : List WData) (vs : List V) (us : List Value), DwAll K H vs ds → Vals vs us → ∃ as, ReadsAllW R cl h us ds as
  | [], _, _, x, r => by
    cases x
    cases r
    exact ⟨_, ReadsAllW.nil⟩
  | d :: ds, _, _, x, r => by
    cases x with
    | cons h1 h2 =>
      cases r with
      | cons r1 r2 =>
        obtain ⟨as, q1⟩ := Dw.reads hok KX d _ _ h1 r1
        obtain ⟨bs, q2⟩ := Dw.readsAll hok KX ds _ _ h2 r2
        exact ⟨_, ReadsAllW.cons q1 q2⟩
end
end
mutual
/-- data that a codec tells -/
def plW : WData → Bool
  | .none => true
  | .bool _ => true
  | .int _ => true
  | .str _ => true
  | .bytes _ => true
  | .list xs => plWs xs
  | .tuple xs => plWs xs
  | _ => false
def plWs : List WData → Bool
  | [] => true
  | x :: r => plW x && plWs r
end
theorem plWs_map {α : Type} {f : α → WData} (h : ∀ a, plW (f a) = true) : ∀ l : List α, plWs (l.map f) = true
  | [] => rfl
  | x :: r => by
    show (plW (f x) && plWs (r.map f)) = true
    rw [h x, plWs_map h r] <;> rfl
theorem pl_enc : ∀ (c : Codec) (a : c.denote), plW (c.enc a) = true
  | .unit, _ => rfl
  | .bool, _ => rfl
  | .int _ _, _ => rfl
  | .nat _ _, _ => rfl
  | .u8, _ => rfl
  | .bytes _ _, _ => rfl
  | .text _ _ _ _, _ => rfl
  | .list _ _ c, a => plWs_map (fun x => pl_enc c x) a
  | .pair c d, a => by
    show (plW (c.enc a.1) && (plW (d.enc a.2) && true)) = true
    rw [pl_enc c a.1, pl_enc d a.2] <;> rfl
  | .triple c d e, a => by
    show (plW (c.enc a.1) && (plW (d.enc a.2.1) && (plW (e.enc a.2.2) && true))) = true
    rw [pl_enc c a.1, pl_enc d a.2.1, pl_enc e a.2.2] <;> rfl
  | .option c, none => rfl
  | .option c, some x => pl_enc c x
theorem pl_encAll : ∀ (cs : List Codec) (a : Codec.denoteAll cs), plWs (Codec.encAll cs a) = true
  | [], _ => rfl
  | c :: cs, a => by
    show (plW (c.enc a.1) && plWs (Codec.encAll cs a.2)) = true
    rw [pl_enc c a.1, pl_encAll cs a.2] <;> rfl
theorem weight_mem : ∀ {xs : List WData} {d : WData}, d ∈ xs → d.weight ≤ WData.weightAll xs
  | [], d, h => absurd h (by simp)
  | x :: r, d, h => by
    show d.weight ≤ x.weight + 1 + WData.weightAll r
    rcases List.mem_cons.mp h with e | m
    · rw [e]
      omega
    · have z := weight_mem m
      omega
def toV : Value → V
  | .none => .non
  | .bool b => .bl b
  | .int i _ => .int i
  | .str x _ => .str x
  | .bytes b _ => .byt b
  | .ref a => .ref a
  | _ => .non
def OkU (A : List Addr) : Value → Prop
  | .none => True
  | .bool _ => True
  | .int _ _ => True
  | .str _ _ => True
  | .bytes _ _ => True
  | .ref a => a ∈ A
  | _ => False
theorem OkU.mono {A B : List Addr} (h : ∀ a ∈ A, a ∈ B) : ∀ {u : Value}, OkU A u → OkU B u := fun {u} x => by
  cases u with
  | ref a => exact h a x
  | none => trivial
  | bool b => trivial
  | int i t => trivial
  | str s t => trivial
  | bytes b t => trivial
  | _ => exact False.elim x
theorem relV_toV {A : List Addr} {u : Value} (x : OkU A u) : RelV (toV u) u := by
  cases u with
  | ref a => rfl
  | none => rfl
  | bool b => rfl
  | int i t => exact ⟨t, rfl⟩
  | str s t => exact ⟨t, rfl⟩
  | bytes b t => exact ⟨t, rfl⟩
  | _ => exact False.elim x
theorem vals_toV {A : List Addr} : ∀ {vs : List Value}, (∀ u ∈ vs, OkU A u) → Vals (vs.map toV) vs
  | [], _ => .nil
  | u :: r, h => .cons (relV_toV (h u (List.mem_cons_self ..))) (vals_toV fun x hx => h x (List.mem_cons_of_mem _ hx))
def ArgOb (h : Heap) (A : List Addr) (a : Addr) : Prop := ∃ vs : List Value, vs.length ≤ sizeLine ∧ (∀ u ∈ vs, OkU A u) ∧
  (h.get? a = some { cls := .type "list", data := .seq vs.toArray } ∨ h.get? a = some { cls := .type "tuple", data := .seq vs.toArray })
theorem ArgOb.mono {h : Heap} {A B : List Addr} {a : Addr} (k : ∀ a ∈ A, a ∈ B) (x : ArgOb h A a) : ArgOb h B a := by
  obtain ⟨vs, h1, h2, h3⟩ := x
  exact ⟨vs, h1, fun u hu => (h2 u hu).mono k, h3⟩
theorem wellAll_len {P : Params} {h : Heap} : ∀ {vs : List Value} {ds : List WData}, WellAll P h vs ds → vs.length = ds.length
  | _, _, .nil => rfl
  | _, _, .cons _ b => by
    show _ + 1 = _ + 1
    rw [wellAll_len b]
theorem well_list {P : Params} {h : Heap} {v : Value} {ds : List WData} (x : Well P h v (.list ds)) : ∃ (a : Addr) (vs : List Value), v = .ref a ∧ h.get? a = some { cls := .type "list", data := .seq vs.toArray } ∧ WellAll P h vs ds := by
  cases x with
  | list ho hall => exact ⟨_, _, rfl, ho, hall⟩
theorem well_tuple {P : Params} {h : Heap} {v : Value} {ds : List WData} (x : Well P h v (.tuple ds)) : ∃ (a : Addr) (vs : List Value), v = .ref a ∧ h.get? a = some { cls := .type "tuple", data := .seq vs.toArray } ∧ WellAll P h vs ds := by
  cases x with
  | tuple ho hall => exact ⟨_, _, rfl, ho, hall⟩
theorem well_cons {P : Params} {h : Heap} {us : List Value} {d : WData} {ds : List WData} (x : WellAll P h us (d :: ds)) : ∃ (v : Value) (vs : List Value), us = v :: vs ∧ Well P h v d ∧ WellAll P h vs ds := by
  cases x with
  | cons a b => exact ⟨_, _, rfl, a, b⟩
theorem line_of {n : Nat} (h : n ≤ 1048576) : n ≤ sizeLine := Nat.le_trans h (by decide)
section
variable {P : Params} {h : Heap}
mutual
theorem area_one : ∀ (d : WData) (v : Value), Well P h v d → plW d = true → d.weight ≤ 1048576 → ∃ A : List Addr, OkU A v ∧ ∀ a ∈ A, ArgOb h A a
  | .none, _, x, _, _ => by
    cases x
    exact ⟨[], trivial, fun a m => absurd m (by simp)⟩
  | .bool b, _, x, _, _ => by
    cases x
    exact ⟨[], trivial, fun a m => absurd m (by simp)⟩
  | .int i, _, x, _, _ => by
    cases x
    exact ⟨[], trivial, fun a m => absurd m (by simp)⟩
  | .str s, _, x, _, _ => by
    cases x
    exact ⟨[], trivial, fun a m => absurd m (by simp)⟩
  | .bytes b, _, x, _, _ => by
    cases x
    exact ⟨[], trivial, fun a m => absurd m (by simp)⟩
  | .list ds, _, x, p, z => by
    obtain ⟨a, vs, rfl, ho, hall⟩ := well_list x
    have z2 : WData.weightAll ds ≤ 1048576 := z
    obtain ⟨A, h1, h2⟩ := area_all ds _ hall p fun d hd => Nat.le_trans (weight_mem hd) z2
    have k : ∀ b ∈ A, b ∈ a :: A := fun b hb => List.mem_cons_of_mem _ hb
    refine ⟨a :: A, List.mem_cons_self .., fun b hb => ?_⟩
    rcases List.mem_cons.mp hb with e | m
    · rw [e]
      exact ⟨vs, line_of (by rw [wellAll_len hall]; exact Nat.le_trans (PySem.W.length_le_weightAllW ds) z2), fun u hu => (h1 u hu).mono k, .inl ho⟩
    · exact (h2 b m).mono k
  | .tuple ds, _, x, p, z => by
    obtain ⟨a, vs, rfl, ho, hall⟩ := well_tuple x
    have z2 : WData.weightAll ds ≤ 1048576 := z
    obtain ⟨A, h1, h2⟩ := area_all ds _ hall p fun d hd => Nat.le_trans (weight_mem hd) z2
    have k : ∀ b ∈ A, b ∈ a :: A := fun b hb => List.mem_cons_of_mem _ hb
    refine ⟨a :: A, List.mem_cons_self .., fun b hb => ?_⟩
    rcases List.mem_cons.mp hb with e | m
    · rw [e]
      exact ⟨vs, line_of (by rw [wellAll_len hall]; exact Nat.le_trans (PySem.W.length_le_weightAllW ds) z2), fun u hu => (h1 u hu).mono k, .inr ho⟩
    · exact (h2 b m).mono k
  | .float _, _, _, p, _ => Bool.noConfusion (show false = true from p)
  | .dict _, _, _, p, _ => Bool.noConfusion (show false = true from p)
  | .bytearray _, _, _, p, _ => Bool.noConfusion (show false = true from p)
  | .set _, _, _, p, _ => Bool.noConfusion (show false = true from p)
  | .frozenset _, _, _, p, _ => Bool.noConfusion (show false = true from p)
  | .obj _ _, _, _, p, _ => Bool.noConfusion (show false = true from p)
theorem area_all : ∀ (ds : List WData) (vs : List Value), WellAll P h vs ds → plWs ds = true → (∀ d ∈ ds, d.weight ≤ 1048576) → ∃ A : List Addr, (∀ u ∈ vs, OkU A u) ∧ ∀ a ∈ A, ArgOb h A a
  | [], _, x, _, _ => by
    cases x
    exact ⟨[], fun u m => absurd m (by simp), fun a m => absurd m (by simp)⟩
  | d :: ds, _, x, p, z => by
    obtain ⟨v, vs, rfl, x1, x2⟩ := well_cons x
    have q : plW d = true ∧ plWs ds = true := Bool.and_eq_true_iff.mp p
    obtain ⟨A, a1, a2⟩ := area_one d v x1 q.1 (z d (List.mem_cons_self ..))
    obtain ⟨B, b1, b2⟩ := area_all ds vs x2 q.2 fun e he => z e (List.mem_cons_of_mem _ he)
    have kA : ∀ b ∈ A, b ∈ A ++ B := fun b hb => List.mem_append.mpr (.inl hb)
    have kB : ∀ b ∈ B, b ∈ A ++ B := fun b hb => List.mem_append.mpr (.inr hb)
    refine ⟨A ++ B, fun u hu => ?_, fun b hb => ?_⟩
    · rcases List.mem_cons.mp hu with e | m
      · rw [e]
        exact a1.mono kA
      · exact (b1 u m).mono kB
    · rcases List.mem_append.mp hb with m | m
      · exact (a2 b m).mono kA
      · exact (b2 b m).mono kB
end
end
def hoOf (o : Obj) : Option HO := match o.data with
  | .seq vs _ => if (o.cls == Value.type "list") = true then some (.frz o (.lst (vs.toList.map toV))) else some (.frz o (.tup (vs.toList.map toV)))
  | _ => none
def argH (K : PySem.W.Frag) (h : Heap) (A : List Addr) : Hp := fun b => if b ∈ A then (if (K.lookup b).isNone = true then (h.get? b).bind hoOf else none) else none
def OnlyF (H : Hp) : Prop := ∀ b, H b = none ∨ ∃ o u, H b = some (.frz o u)
theorem hoOf_lst (vs : List Value) : hoOf { cls := .type "list", data := .seq vs.toArray } = some (.frz { cls := .type "list", data := .seq vs.toArray } (.lst (vs.map toV))) := by
  show (if (Value.type "list" == Value.type "list") = true then some (HO.frz { cls := .type "list", data := .seq vs.toArray } (.lst (vs.toArray.toList.map toV))) else some (HO.frz { cls := .type "list", data := .seq vs.toArray } (.tup (vs.toArray.toList.map toV)))) = _
  rw [if_pos (beq_self_eq_true _)]
theorem hoOf_tup (vs : List Value) : hoOf { cls := .type "tuple", data := .seq vs.toArray } = some (.frz { cls := .type "tuple", data := .seq vs.toArray } (.tup (vs.map toV))) := by
  show (if (Value.type "tuple" == Value.type "list") = true then some (HO.frz { cls := .type "tuple", data := .seq vs.toArray } (.lst (vs.toArray.toList.map toV))) else some (HO.frz { cls := .type "tuple", data := .seq vs.toArray } (.tup (vs.toArray.toList.map toV)))) = _
  rw [if_neg (by decide)]
section
variable {P : Program} {w : World} {K : PySem.W.Frag} {h : Heap} {A : List Addr}
theorem argH_at {b : Addr} {o : Obj} (hb : b ∈ A) (hk : K.lookup b = none) (e : h.get? b = some o) : argH K h A b = hoOf o := by
  unfold argH
  rw [if_pos hb, hk, if_pos (show (none : Option Obj).isNone = true from rfl), e] <;> rfl
theorem of_argH {b : Addr} {u : HO} (q : argH K h A b = some u) : b ∈ A ∧ K.lookup b = none := by
  unfold argH at q
  by_cases hb : b ∈ A
  · rw [if_pos hb] at q
    cases hk : K.lookup b with
    | none => exact ⟨hb, rfl⟩
    | some o =>
      rw [hk, if_neg (by simp)] at q
      cases q
  · rw [if_neg hb] at q
    cases q
theorem argH_is (ar : ∀ a ∈ A, ArgOb h A a) {b : Addr} {u : HO} (q : argH K h A b = some u) : K.lookup b = none ∧ ∃ vs : List Value, vs.length ≤ sizeLine ∧ (∀ u ∈ vs, OkU A u) ∧
    ((h.get? b = some { cls := .type "list", data := .seq vs.toArray } ∧ u = .frz { cls := .type "list", data := .seq vs.toArray } (.lst (vs.map toV))) ∨
     (h.get? b = some { cls := .type "tuple", data := .seq vs.toArray } ∧ u = .frz { cls := .type "tuple", data := .seq vs.toArray } (.tup (vs.map toV)))) := by
  obtain ⟨hb, hk⟩ := of_argH q
  obtain ⟨vs, h1, h2, h3⟩ := ar b hb
  refine ⟨hk, vs, h1, h2, ?_⟩
  rcases h3 with e | e
  · rw [argH_at hb hk e, hoOf_lst] at q
    exact .inl ⟨e, (Option.some.inj q).symm⟩
  · rw [argH_at hb hk e, hoOf_tup] at q
    exact .inr ⟨e, (Option.some.inj q).symm⟩
theorem argH_only (ar : ∀ a ∈ A, ArgOb h A a) : OnlyF (argH K h A) := fun b => by
  cases q : argH K h A b with
  | none => exact .inl rfl
  | some u =>
    obtain ⟨_, vs, _, _, ⟨_, e⟩ | ⟨_, e⟩⟩ := argH_is ar q
    · exact .inr ⟨_, _, by rw [e]⟩
    · exact .inr ⟨_, _, by rw [e]⟩
theorem argH_ok (ar : ∀ a ∈ A, ArgOb h A a) : HOk P w (argH K h A) h := fun b u q => by
  obtain ⟨_, vs, h1, h2, ⟨e, rfl⟩ | ⟨e, rfl⟩⟩ := argH_is ar q
  · exact ⟨e, by rw [List.length_map]; exact h1, vs, _, vals_toV h2, e⟩
  · exact ⟨e, by rw [List.length_map]; exact h1, vs, vals_toV h2, _, e, rfl, _, rfl⟩
theorem seq_inj {c c' : Value} {vs us : List Value} (e : (some { cls := c, data := .seq vs.toArray } : Option Obj) = some { cls := c', data := .seq us.toArray }) : c = c' ∧ vs = us := by
  have e1 := Option.some.inj e
  have e2 : c = c' := congrArg Obj.cls e1
  have e3 : Data.seq vs.toArray = Data.seq us.toArray := congrArg Obj.data e1
  injection e3 with e4
  refine ⟨e2, ?_⟩
  have e5 := congrArg Array.toList e4
  simpa using e5
theorem argL (KX : K.In h) (ar : ∀ a ∈ A, ArgOb h A a) {a : Addr} {vs : List Value} (ha : a ∈ A) (e : h.get? a = some { cls := .type "list", data := .seq vs.toArray }) : (∀ u ∈ vs, OkU A u) ∧ SqL K (argH K h A) a (vs.map toV) := by
  obtain ⟨us, h1, h2, h3⟩ := ar a ha
  have hu : us = vs := by
    rcases h3 with q | q
    · rw [e] at q
      exact (seq_inj q).2.symm
    · rw [e] at q
      exact absurd (Value.type.inj (seq_inj q).1) (by decide)
  subst hu
  refine ⟨h2, ?_⟩
  cases hk : K.lookup a with
  | none => exact .inl (.inr ⟨_, by rw [argH_at ha hk e, hoOf_lst]⟩)
  | some o =>
    have e2 := KX a o hk
    rw [e] at e2
    obtain rfl := Option.some.inj e2
    exact .inr ⟨_, us.toArray, _, hk, rfl, rfl, rfl, by rw [List.size_toArray]; exact h1, by simpa using vals_toV h2⟩
theorem argT (KX : K.In h) (ar : ∀ a ∈ A, ArgOb h A a) {a : Addr} {vs : List Value} (ha : a ∈ A) (e : h.get? a = some { cls := .type "tuple", data := .seq vs.toArray }) : (∀ u ∈ vs, OkU A u) ∧ SqT K (argH K h A) a (vs.map toV) := by
  obtain ⟨us, h1, h2, h3⟩ := ar a ha
  have hu : us = vs := by
    rcases h3 with q | q
    · rw [e] at q
      exact absurd (Value.type.inj (seq_inj q).1) (by decide)
    · rw [e] at q
      exact (seq_inj q).2.symm
  subst hu
  refine ⟨h2, ?_⟩
  cases hk : K.lookup a with
  | none => exact .inl (.inr ⟨_, by rw [argH_at ha hk e, hoOf_tup]⟩)
  | some o =>
    have e2 := KX a o hk
    rw [e] at e2
    obtain rfl := Option.some.inj e2
    exact .inr ⟨_, us.toArray, _, hk, rfl, rfl, by rw [List.size_toArray]; exact h1, by simpa using vals_toV h2⟩
mutual
theorem dw_one {Pm : Params} (KX : K.In h) (ar : ∀ a ∈ A, ArgOb h A a) : ∀ (d : WData) (v : Value), Well Pm h v d → plW d = true → OkU A v → Dw K (argH K h A) (toV v) d
  | .none, _, x, _, _ => by
    cases x
    exact .non
  | .bool b, _, x, _, _ => by
    cases x
    exact .bl b
  | .int i, _, x, _, _ => by
    cases x
    exact .int i
  | .str s, _, x, _, _ => by
    cases x
    exact .str s
  | .bytes b, _, x, _, _ => by
    cases x
    have z := Dw.byt (K := K) (H := argH K h A) b.toArray
    exact z
  | .list ds, _, x, p, hu => by
    obtain ⟨a, vs, rfl, ho, hall⟩ := well_list x
    obtain ⟨h2, hs⟩ := argL KX ar hu ho
    exact .lst hs (dw_all KX ar ds _ hall p h2)
  | .tuple ds, _, x, p, hu => by
    obtain ⟨a, vs, rfl, ho, hall⟩ := well_tuple x
    obtain ⟨h2, hs⟩ := argT KX ar hu ho
    exact .tup hs (dw_all KX ar ds _ hall p h2)
  | .float _, _, _, p, _ => Bool.noConfusion (show false = true from p)
  | .dict _, _, _, p, _ => Bool.noConfusion (show false = true from p)
  | .bytearray _, _, _, p, _ => Bool.noConfusion (show false = true from p)
  | .set _, _, _, p, _ => Bool.noConfusion (show false = true from p)
  | .frozenset _, _, _, p, _ => Bool.noConfusion (show false = true from p)
  | .obj _ _, _, _, p, _ => Bool.noConfusion (show false = true from p)
theorem dw_all {Pm : Params} (KX : K.In h) (ar : ∀ a ∈ A, ArgOb h A a) : ∀ (ds : List WData) (vs : List Value), WellAll Pm h vs ds → plWs ds = true → (∀ u ∈ vs, OkU A u) → DwAll K (argH K h A) (vs.map toV) ds
  | [], _, x, _, _ => by
    cases x
    exact .nil
  | d :: ds, _, x, p, hu => by
    obtain ⟨v, vs, rfl, x1, x2⟩ := well_cons x
    have q : plW d = true ∧ plWs ds = true := Bool.and_eq_true_iff.mp p
    exact .cons (dw_one KX ar d v x1 q.1 (hu _ (List.mem_cons_self ..))) (dw_all KX ar ds vs x2 q.2 fun u m => hu u (List.mem_cons_of_mem _ m))
end
end
theorem spec_call {P : Program} {w : World} {K : PySem.W.Frag} {mg mb : Str → Option Value} {CX : CXT} {k : Nat} {fa : Addr} {fd : FuncData} {ps : List Str} {sp : Sp} {s₁ : Shared} {vals : List Value} {ds : List WData} {R : PySem.W.WRecords} {cl : Str → Option Addr} {d0 : WData}
    (KX : K.In s₁.heap) (hns : s₁.heap.Ns mainGlobals mg) (hb : s₁.heap.Ns builtinsNs mb) (hbb : ∀ x : Str, x ≠ "__name__" → mb x = bootBuiltins x) (hlim : s₁.heap.NoLimit) (hg : s₁.gens = #[])
    (hwl : WellAll w.params s₁.heap vals ds) (hpl : plWs ds = true) (hwt : ∀ d ∈ ds, d.weight ≤ 1048576) (hr : Room k callerA)
    (F : ∀ base : Heap, K.In base → base.Ns mainGlobals mg → FnOk P w K mg base CX k fa fd ps sp) (hbind : ∀ (s : Shared) (us : List Value), us.length = ps.length → BindsTo s fd ⟨us, []⟩ (ps.zip us)) (hlen : ds.length = ps.length)
    (hsp : ∀ (H : Hp) (xs : List V), OnlyF H → DwAll K H xs ds → sp xs H (fun v H' => Dw K H' v d0) fun _ _ _ => False)
    (hCX : ∀ H e s', CX [] H s₁ (fun _ _ _ => False) e s' → False) :
    codeAny (model P w) callerA (.call (.ref fa) ⟨vals, []⟩) (fun r s' => ∃ u as, r = .ok (.ret u) ∧ ReadsW R cl s'.heap u d0 as ∧ OldK s₁.heap s'.heap ∧ s'.os = s₁.os ∧ AllBare s'.gens) s₁ := by
  obtain ⟨A, ho, ar⟩ := area_all ds vals hwl hpl hwt
  have hO : OnlyF (argH K s₁.heap A) := argH_only ar
  have hok : HOk P w (argH K s₁.heap A) s₁.heap := argH_ok ar
  have hS := dw_all KX ar ds vals hwl hpl ho
  have hV := vals_toV ho
  have hK : ∀ b u, argH K s₁.heap A b = some u → K.lookup b = none := fun b u q => (argH_is ar q).1
  have noA : ∀ {b : Addr} {o : Obj} {es : Array DictEntry} {ep : Nat}, s₁.heap.get? b = some o → o.data = .dict es ep → argH K s₁.heap A b = none := fun {b o es ep} e d => by
    cases q : argH K s₁.heap A b with
    | none => rfl
    | some u =>
      obtain ⟨_, vs, _, _, ⟨e2, _⟩ | ⟨e2, _⟩⟩ := argH_is ar q
      · rw [e2] at e
        cases e
        have d' : Data.seq vs.toArray _ = Data.dict es ep := d
        cases d'
      · rw [e2] at e
        cases e
        have d' : Data.seq vs.toArray _ = Data.dict es ep := d
        cases d'
  generalize argH K s₁.heap A = H at hO hok hS hK noA
  have base_of : ∀ {b : Addr} {o : Obj}, s₁.heap.get? b = some o → H b = none → (hidT s₁.heap H).get? b = some o := fun e n => hidT_get e n
  have nsK : ∀ {b : Addr} {m : Str → Option Value}, s₁.heap.Ns b m → (hidT s₁.heap H).Ns b m := fun {b m} ⟨o, es, ep, e, d, r⟩ => ⟨o, es, ep, base_of e (noA e d), d, r⟩
  have nK : ∀ b o, K.lookup b = some o → H b = none := fun b o e => by
    cases q : H b with
    | none => rfl
    | some u =>
      rw [hK b u q] at e
      cases e
  have hKb : K.In (hidT s₁.heap H) := fun b o e => base_of (KX b o e) (nK b o e)
  have hM : Mod K mg (hidT s₁.heap H) := ⟨hKb, nsK hns, ⟨mb, nsK hb, hbb⟩, let ⟨mc, h1, h2⟩ := hlim; ⟨mc, nsK h1, h2⟩⟩
  have e0 : Env0 P w K mg (hidT s₁.heap H) callerA [] s₁ H := ⟨rfl, hM, fun b o e => of_hidT e, Nat.le_of_eq (hidT_size _ _), trivial, fun b hb => absurd (show b ∈ ([] : List Addr) from hb) (by simp), hok, .of_eq hg⟩
  have hl : vals.length = ps.length := by rw [wellAll_len hwl]; exact hlen
  refine codeAny_mono ((F _ hKb (nsK hns)).run callerA [] s₁ H ⟨vals, []⟩ vals (vals.map toV) _ _ hr e0 (hbind s₁ vals hl) hV (hsp H _ hO hS)) fun r s' x => ?_
  cases r with
  | error e => exact (hCX H e s' x).elim
  | ok fl =>
    cases fl with
    | next => exact False.elim x
    | brk => exact False.elim x
    | cont => exact False.elim x
    | ret u =>
      obtain ⟨v, H', os, bare, un, hok', r', q⟩ := x
      have kept : ∀ b o, s₁.heap.get? b = some o → s'.heap.get? b = some o := fun b o e => by
        cases q2 : H b with
        | none => exact un.keep b o e q2 (by intro z; exact absurd (show b ∈ ([] : List Addr) from z) (by simp)) (by simp)
        | some u2 =>
          rcases hO b with z | ⟨ob, u3, z⟩
          · rw [q2] at z
            cases z
          · have z2 := un.frzs b ob _ z
            obtain ⟨e1, _⟩ := hok b _ z
            obtain ⟨e2, _⟩ := hok' b _ z2
            rw [e] at e1
            cases e1
            exact e2
      have KX' : K.In s'.heap := fun b o e => kept b o (KX b o e)
      obtain ⟨as, hrd⟩ := Dw.reads (R := R) (cl := cl) hok' KX' d0 v u q r'
      exact ⟨u, as, rfl, hrd, OldK.of_keep kept, os, bare⟩
theorem layable_weight {ds : List WData} (h : WData.layableAll ds = true) : ∀ d ∈ ds, d.weight ≤ 1048576 := fun d hd =>
  (PySem.W.layableW_iff.mp (List.all_eq_true.mp h d hd)).2.2
theorem encAll_len : ∀ (cs : List Codec) (a : Codec.denoteAll cs), (Codec.encAll cs a).length = cs.length
  | [], _ => rfl
  | c :: cs, a => by
    show (Codec.encAll cs a.2).length + 1 = cs.length + 1
    rw [encAll_len cs a.2]
theorem walk_spec {r : OpenSpec} {k : Nat} {q : Program} {loose : List Str} {XP : (Str → Option Value) → Heap → Prop} {YP : World → Heap → Prop} {d : DefRec} {K : Params → PySem.W.Frag} {CX : World → CXT} {ps : List Str} {sp : World → Sp}
    (hwell : r.wellSaid = true) (hdf : d.params.defaults = []) (hlen : r.args.length = ps.length) (hr : Room k callerA)
    (hY : ∀ (w : World) (h : Heap), YP w h → (K w.params).In h)
    (F : ∀ (w : World) (mg : Str → Option Value) (fa : Addr) (h : Heap), YP w h → (K w.params).In h → h.Ns mainGlobals mg → mg d.name = some (.ref fa) →
      ∃ fd : FuncData, (∀ (s : Shared) (us : List Value), us.length = ps.length → BindsTo s fd ⟨us, []⟩ (ps.zip us)) ∧
        ∀ base : Heap, (K w.params).In base → base.Ns mainGlobals mg → FnOk r.prog w (K w.params) mg base (CX w) k fa fd ps (sp w))
    (hsp : ∀ (w : World) (H : Hp) (xs : List V) (a : Codec.denoteAll r.args), OnlyF H → Codec.withinAll r.args a = true → Codec.app r.args r.asked a = true → DwAll (K w.params) H xs (Codec.encAll r.args a) →
      sp w xs H (fun v H' => Dw (K w.params) H' v (r.ret.enc (Codec.app r.args r.f a))) fun _ _ _ => False)
    (hCX : ∀ (w : World) (H : Hp) (s : Shared) (e : Value) (s' : Shared), CX w [] H s (fun _ _ _ => False) e s' → False) :
    PySem.W.WalkOS q loose XP YP r d [] (fun f vs => PySem.call f vs) := by
  intro w s_0 s₁ mg mb G Y fa o pm cd doc dV kV ho hd hcd hD hmg hg args vals as hpre hlay hrd hwl hlo
  obtain ⟨a, e1, e2⟩ := PySem.W.os_pre_some hpre
  obtain ⟨e3, hwi⟩ := Codec.encAll_of_decAll r.args args a e1
  subst e3
  have KX := hY w _ Y
  obtain ⟨fd, hb, hF⟩ := F w mg fa _ Y KX G.T.g hmg
  refine PySem.W.enter_call (codeAny_mono (spec_call (R := []) (cl := classAt s_0.heap) (d0 := r.ret.enc (Codec.app r.args r.f a)) KX G.T.g G.T.b G.T.builtins G.T.nolimit hg hwl (pl_encAll _ _) (layable_weight hlay) hr hF hb (by rw [encAll_len]; exact hlen)
    (fun H xs hO hS => hsp w H xs a hO hwi e2 hS) fun H e s' => hCX w H s₁ e s') fun r' s' hq => ?_)
  obtain ⟨u, as', rfl, h1, h2, h3, h4⟩ := hq
  exact ⟨.inl ⟨u, _, as', rfl, fun _ => rfl, h1, (OpenSpec.post_iff hwell hwi _ _).mpr rfl, fun z => Bool.noConfusion (show false = true from z)⟩, h2, h3, h4⟩
theorem walk_specK {r : OpenSpec} {k : Nat} {q : Program} {loose : List Str} {XP : (Str → Option Value) → Heap → Prop} {YP : World → Heap → Prop} {d : DefRec} {K : Params → PySem.W.Frag} {CX : CXT} {ps : List Str} {sp : PySem.W.Frag → Sp}
    (hwell : r.wellSaid = true) (hdf : d.params.defaults = []) (hlen : r.args.length = ps.length) (hr : Room k callerA)
    (hY : ∀ (w : World) (h : Heap), YP w h → (K w.params).In h)
    (F : ∀ (w : World) (mg : Str → Option Value) (fa : Addr) (h : Heap), YP w h → (K w.params).In h → h.Ns mainGlobals mg → mg d.name = some (.ref fa) →
      ∃ fd : FuncData, (∀ (s : Shared) (us : List Value), us.length = ps.length → BindsTo s fd ⟨us, []⟩ (ps.zip us)) ∧
        ∀ base : Heap, (K w.params).In base → base.Ns mainGlobals mg → FnOk r.prog w (K w.params) mg base CX k fa fd ps (sp (K w.params)))
    (hsp : ∀ (K : PySem.W.Frag) (H : Hp) (xs : List V) (a : Codec.denoteAll r.args), OnlyF H → Codec.withinAll r.args a = true → Codec.app r.args r.asked a = true → DwAll K H xs (Codec.encAll r.args a) →
      sp K xs H (fun v H' => Dw K H' v (r.ret.enc (Codec.app r.args r.f a))) fun _ _ _ => False)
    (hCX : ∀ (H : Hp) (s : Shared) (e : Value) (s' : Shared), CX [] H s (fun _ _ _ => False) e s' → False) :
    PySem.W.WalkOS q loose XP YP r d [] (fun f vs => PySem.call f vs) :=
  walk_spec (K := K) (CX := fun _ => CX) (sp := fun w => sp (K w.params)) hwell hdf hlen hr hY F (fun w H xs a h1 h2 h3 h4 => hsp (K w.params) H xs a h1 h2 h3 h4) fun _ H s e s' => hCX H s e s'
end L2
-- rests on (row put in by the clerk, for the bench that shows a file only what it spells): KE.SpHead KE.OsShapes
end
section
set_option Elab.async false
set_option linter.all false
set_option maxRecDepth 100000
set_option maxHeartbeats 2000000
namespace PySem
open Sem (wp)
/-- the loop of min over items whose order hangs on the heap: G is what the comparison needs of it -/
theorem minH_loop {prog : Program} {w : World} {A : Around} {R : Result → Shared → Prop} {I : Addr} {fp wr : List Addr} {n : Nat} {P : Nat → Value → Prop} {St : Nat → Heap → Prop}
    (W : Walks prog w A.in1 I fp wr n P St) (bt : Nat → Nat → Bool) (S : Addr) (hSf : S ∉ fp) (G : Heap → Prop)
    (hG : ∀ g g' : Heap, G g → (∀ b o, b ∉ wr → b ≠ S → g.get? b = some o → g'.get? b = some o) → G g')
    (hcmp : ∀ i j vi vj (s : Shared) (Q : Value → Shared → Prop) (E : Value → Shared → Prop), G s.heap → P i vi → P j vj → Q (.bool (bt i j)) s → wpAny (model prog w) A.in1 (richCompare .Lt vi vj) Q E s) :
    ∀ (k j : Nat) (s : Shared) (vb : Value) (c : Nat), n - (j + 1) = k → j + 1 ≤ n → St (j + 1) s.heap → G s.heap → P (argBest bt j) vb →
    s.heap.get? S = some { cls := .type "list", dict := none, data := .seq #[vb, vb] c, slots := #[] } →
    (∀ v h' tk, P (argBest bt (n - 1)) v → (∀ b o, b ∉ wr → b ≠ S → s.heap.get? b = some o → h'.get? b = some o) → R (.ok (.ret v)) { s with heap := h', toks := tk }) →
    codeAny (model prog w) A (.builtin "min.loop" ⟨[.ref I, .none, .ref S], []⟩) R s := by
  have nSw : S ∉ wr := fun z => hSf (W.sub _ z)
  have nm : (toString "min" ++ toString ".loop" : String) = "min.loop" := by decide
  intro k
  induction k with
  | zero =>
    intro j s vb c hk hj st g pb eS done
    have last : j + 1 = n := by omega
    refine codeAny_builtin F.entry_min_loop ?_
    rw [Around.under_plainId F.plain_min_loop _]
    show wpAny _ A.in1 (seqItems? (.ref S) >>= _) _ _ s
    refine wpAny_bind (wpAny_seqItems eS rfl ?_)
    show wpAny _ A.in1 (tryCatch (pyNext (.ref I)) _ >>= _) _ _ s
    refine wpAny_bind (wpAny_tryCatch (W.done s _ _ (last ▸ st) fun h' tk kp => ?_))
    have eS' := kp S _ nSw eS
    show wpAny _ A.in1 (updateSeq S (fun _ => #[]) >>= _) _ _ _
    refine wpAny_bind ?_
    refine wpAny_updateSeq eS' rfl (wpAny_bind (wpAny_letGo (wpAny_pure ?_)))
    exact done vb _ tk (by rw [← last]; exact pb) fun b o hbw hbS e => (Heap.get?_update_other _ _ (Ne.symm hbS)).trans (kp b o hbw e)
  | succ k ih =>
    intro j s vb c hk hj st g pb eS done
    have more : j + 1 < n := by omega
    refine codeAny_builtin F.entry_min_loop ?_
    rw [Around.under_plainId F.plain_min_loop _]
    show wpAny _ A.in1 (seqItems? (.ref S) >>= _) _ _ s
    refine wpAny_bind (wpAny_seqItems eS rfl ?_)
    show wpAny _ A.in1 (tryCatch (pyNext (.ref I)) _ >>= _) _ _ s
    refine wpAny_bind (wpAny_tryCatch (W.item (j + 1) s _ _ more st fun v h' tk pv st' kp => ?_))
    have eS' := kp S _ nSw eS
    have g' : G h' := hG _ _ g fun b o hbw _ e => kp b o hbw e
    show wpAny _ A.in1 (tryCatch (holding [v, v] (richCompare .Lt v vb >>= _)) _ >>= _) _ _ _
    refine wpAny_bind (wpAny_tryCatch (wpAny_holding (wpAny_bind (hcmp (j + 1) (argBest bt j) v vb _ _ _ g' pv pb ?_))))
    refine wpAny_bind (wpAny_holding (wpAny_truthy_bool ?_))
    refine wpAny_bind (wpAny_letGo (wpAny_pure ?_))
    cases hb : bt (j + 1) (argBest bt j) with
    | true =>
      simp only [if_true]
      refine wpAny_bind ?_
      refine wpAny_updateSeq eS' rfl (wpAny_bind (wpAny_letGo ?_))
      rw [nm]
      refine wpAny_pure ⟨plainId_quiet F.plain_min_loop _, ih (j + 1) _ v _ (by omega) more (W.frame _ _ _ st' fun b hbf o e => ?_) (hG _ _ g' fun b o _ hbS e => (Heap.get?_update_other _ _ (Ne.symm hbS)).trans e)
        (by simp only [argBest, hb, if_true]; exact pv) (Heap.get?_update_self _ eS' rfl) fun v' h'' tk'' p' kp' => ?_⟩
      · exact (Heap.get?_update_other _ _ (fun z : S = b => hSf (by rw [z]; exact hbf))).trans e
      · exact done v' h'' tk'' p' fun b o hbw hbS e => kp' b o hbw hbS ((Heap.get?_update_other _ _ (Ne.symm hbS)).trans (kp b o hbw e))
    | false =>
      simp only [Bool.false_eq_true, if_false]
      refine wpAny_bind (wpAny_letGo ?_)
      rw [nm]
      refine wpAny_pure ⟨plainId_quiet F.plain_min_loop _, ih (j + 1) _ vb c (by omega) more st' g' (by simp only [argBest, hb, Bool.false_eq_true, if_false]; exact pb) eS' fun v' h'' tk'' p' kp' => ?_⟩
      exact done v' h'' tk'' p' fun b o hbw hbS e => kp' b o hbw hbS (kp b o hbw e)
/-- min(xs), xs a list whose items' order hangs on the heap -/
theorem minH_list {prog : Program} {w : World} {A : Around} {E : Value → Shared → Prop} {s : Shared} {l : Addr} {its : List Value} {Q : Value → Shared → Prop} (hh : A.handled = none) (hl : s.heap.IsList l its.toArray) (hne : 0 < its.length) (bt : Nat → Nat → Bool)
    (hcmp : ∀ i j vi vj (t : Shared) (Q : Value → Shared → Prop) (E : Value → Shared → Prop), (∀ b o, s.heap.get? b = some o → t.heap.get? b = some o) → its[i]? = some vi → its[j]? = some vj → Q (.bool (bt i j)) t → wpAny (model prog w) A.in1 (richCompare .Lt vi vj) Q E t)
    (h : ∀ v h' tk, its[argBest bt (its.length - 1)]? = some v → (∀ b o, s.heap.get? b = some o → h'.get? b = some o) → Q v { s with heap := h', toks := tk }) :
    wpAny (model prog w) A (call (.builtin "min") [.ref l]) Q E s := by
  have nm : (toString "min" ++ toString ".loop" : String) = "min.loop" := by decide
  have lt : l < s.heap.objs.size := by obtain ⟨_, e, _⟩ := hl; exact Heap.lt_size e
  have neI : l ≠ s.heap.objs.size := Nat.ne_of_lt lt
  refine call_function_tree F.kind_min F.plain_min F.entry_min (F.args_min1 _) ?_
  show wpAny _ A.in1 (Builtin.Builtins.bindParams "min" ["key", "default"] 0 ⟨[], []⟩ >>= _) _ _ s
  refine wpAny_bind (wpAny_of_eq (show Builtin.Builtins.bindParams "min" ["key", "default"] 0 ⟨[], []⟩ = pure [none, none] from rfl) ?_)
  refine wpAny_bind (wpAny_pure ?_)
  refine wpAny_bind (wpAny_pyIter_list hl ?_)
  refine wpAny_bind (wpAny_newObj_type ?_)
  rw [nm]
  have W := Walks.list (prog := prog) (w := w) (A := A.in1) hh s.heap.objs.size l neI its.toArray
  -- the two new objects: the iterator at size, the pair's list at size + 1
  have e1 : (s.heap.push { cls := .type "list_iterator", data := .fields #[.ref l, .int 0 0] }).objs.size = s.heap.objs.size + 1 := Heap.size_push ..
  have hSf : (s.heap.push { cls := .type "list_iterator", data := .fields #[.ref l, .int 0 0] }).objs.size ∉ [s.heap.objs.size, l] := by
    rw [e1]
    intro z
    rcases List.mem_cons.mp z with z | z
    · exact absurd z (Nat.succ_ne_self _)
    · exact absurd (List.mem_singleton.mp z) (Ne.symm (Nat.ne_of_lt (Nat.lt_succ_of_lt lt)))
  have nSw : (s.heap.push { cls := .type "list_iterator", data := .fields #[.ref l, .int 0 0] }).objs.size ∉ [s.heap.objs.size] := fun z => hSf (W.sub _ z)
  have hsz : its.toArray.size = its.length := List.size_toArray ..
  have G0 : ∀ b o, s.heap.get? b = some o → b ∉ [s.heap.objs.size] ∧ b ≠ (s.heap.push { cls := .type "list_iterator", data := .fields #[.ref l, .int 0 0] }).objs.size := fun b o e => by
    have q := Heap.lt_size e
    rw [e1]
    exact ⟨fun z => absurd (List.mem_singleton.mp z) (Nat.ne_of_lt q), Nat.ne_of_lt (Nat.lt_succ_of_lt q)⟩
  refine wpAny_pure ⟨plainId_quiet F.plain_min_loop _, ?_⟩
  refine codeAny_builtin F.entry_min_loop ?_
  rw [Around.under_plainId F.plain_min_loop _]
  have eS : ((s.heap.push { cls := .type "list_iterator", data := .fields #[.ref l, .int 0 0] }).push { cls := .type "list", data := .seq #[] }).get? (s.heap.push { cls := .type "list_iterator", data := .fields #[.ref l, .int 0 0] }).objs.size = some { cls := .type "list", data := .seq #[] } := Heap.get?_push_size _ rfl
  show wpAny _ A.in1 (seqItems? (.ref _) >>= _) _ _ _
  refine wpAny_bind (wpAny_seqItems eS rfl ?_)
  show wpAny _ A.in1 (tryCatch (pyNext (.ref s.heap.objs.size)) _ >>= _) _ _ _
  have st0 : ((s.heap.push { cls := .type "list_iterator", data := .fields #[.ref l, .int 0 0] }).push { cls := .type "list", data := .seq #[] }).IsListIter s.heap.objs.size l 0 ∧ ((s.heap.push { cls := .type "list_iterator", data := .fields #[.ref l, .int 0 0] }).push { cls := .type "list", data := .seq #[] }).IsList l its.toArray :=
    ⟨⟨_, Heap.get?_push_of_some _ (Heap.get?_push_size _ rfl), rfl, rfl⟩, (hl.push _).push _⟩
  refine wpAny_bind (wpAny_tryCatch (W.item 0 _ _ _ (by rw [hsz]; exact hne) st0 fun v h' tk pv st' kp => ?_))
  have eS' := kp _ _ nSw eS
  show wpAny _ A.in1 (updateSeq _ (fun _ => #[v, v]) >>= _) _ _ _
  refine wpAny_bind ?_
  refine wpAny_updateSeq eS' rfl ?_
  rw [nm]
  have old : ∀ b o, s.heap.get? b = some o → h'.get? b = some o := fun b o e => kp b o (G0 b o e).1 (Heap.get?_push_of_some _ (Heap.get?_push_of_some _ e))
  refine wpAny_pure ⟨plainId_quiet F.plain_min_loop _, minH_loop W bt _ hSf (fun g => ∀ b o, s.heap.get? b = some o → g.get? b = some o) (fun g g' hg k b o e => k b o (G0 b o e).1 (G0 b o e).2 (hg b o e))
    (fun i j vi vj t Q E hg pi pj q => hcmp i j vi vj t Q E hg (by simpa using pi) (by simpa using pj) q) _ 0 _ v _ rfl (by rw [hsz]; exact hne) (W.frame _ _ _ st' fun b hbf o e => ?_) (fun b o e => ?_) pv (Heap.get?_update_self _ eS' rfl) fun v' h'' tk'' p' kp' => ?_⟩
  · exact (Heap.get?_update_other _ _ (fun z => hSf (by rw [z]; exact hbf))).trans e
  · exact (Heap.get?_update_other _ _ (Ne.symm (G0 b o e).2)).trans (old b o e)
  · refine h v' h'' tk'' (by simpa using p') fun b o e => kp' b o (G0 b o e).1 (G0 b o e).2 ((Heap.get?_update_other _ _ (Ne.symm (G0 b o e).2)).trans (old b o e))
end PySem
end
section
set_option Elab.async false
set_option linter.all false
set_option maxRecDepth 100000
set_option maxHeartbeats 2000000
/-! ### tables: lists of pairs of ints, their order -/
namespace Dn
abbrev Pr := Int × Int
abbrev Tab := List Pr
def plt (p q : Pr) : Bool := if p.1 = q.1 then decide (p.2 < q.2) else decide (p.1 < q.1)
def tlt : Tab → Tab → Bool
  | p :: a, q :: b => if p = q then tlt a b else plt p q
  | _, _ => false
theorem plt_irrefl (p : Pr) : plt p p = false := by
  unfold plt
  rw [if_pos rfl]
  exact decide_eq_false (by omega)
theorem plt_iff {p q : Pr} : plt p q = true ↔ p.1 < q.1 ∨ (p.1 = q.1 ∧ p.2 < q.2) := by
  unfold plt
  by_cases h : p.1 = q.1
  · rw [if_pos h, decide_eq_true_iff]
    constructor
    · intro z; exact .inr ⟨h, z⟩
    · rintro (z | z)
      · omega
      · exact z.2
  · rw [if_neg h, decide_eq_true_iff]
    constructor
    · intro z; exact .inl z
    · rintro (z | z)
      · exact z
      · exact absurd z.1 h
theorem pr_ext {p q : Pr} (a : p.1 = q.1) (b : p.2 = q.2) : p = q := by
  cases p; cases q; cases a; cases b; rfl
theorem plt_trans {p q r : Pr} (a : plt p q = true) (b : plt q r = true) : plt p r = true := by
  rw [plt_iff] at *
  omega
theorem plt_total {p q : Pr} (h : p ≠ q) : plt p q = true ∨ plt q p = true := by
  rw [plt_iff, plt_iff]
  by_cases e : p.1 = q.1
  · by_cases e2 : p.2 = q.2
    · exact absurd (pr_ext e e2) h
    · omega
  · omega
theorem tlt_cons (p q : Pr) (a b : Tab) : tlt (p :: a) (q :: b) = if p = q then tlt a b else plt p q := rfl
theorem tlt_irrefl : ∀ t : Tab, tlt t t = false
  | [] => rfl
  | p :: a => by rw [tlt_cons, if_pos rfl]; exact tlt_irrefl a
theorem tlt_trans : ∀ {a b c : Tab}, tlt a b = true → tlt b c = true → tlt a c = true
  | [], _, _, h, _ => by cases h
  | _ :: _, [], _, h, _ => by cases h
  | _ :: _, _ :: _, [], _, h => by cases h
  | p :: a, q :: b, r :: c, h1, h2 => by
    rw [tlt_cons] at *
    by_cases e1 : p = q
    · subst e1
      rw [if_pos rfl] at h1
      by_cases e2 : p = r
      · subst e2
        rw [if_pos rfl] at h2 ⊢
        exact tlt_trans h1 h2
      · rw [if_neg e2] at h2 ⊢
        exact h2
    · rw [if_neg e1] at h1
      by_cases e2 : q = r
      · subst e2
        rw [if_neg e1]
        exact h1
      · rw [if_neg e2] at h2
        have h3 := plt_trans h1 h2
        rw [if_neg (fun z => by rw [z, plt_irrefl] at h3; cases h3)]
        exact h3
theorem tlt_total : ∀ {a b : Tab}, a.length = b.length → a ≠ b → tlt a b = true ∨ tlt b a = true
  | [], [], _, h => absurd rfl h
  | [], _ :: _, h, _ => by cases h
  | _ :: _, [], h, _ => by cases h
  | p :: a, q :: b, hl, h => by
    rw [tlt_cons, tlt_cons]
    by_cases e : p = q
    · subst e
      rw [if_pos rfl, if_pos rfl]
      exact tlt_total (by simpa using hl) fun z => h (by rw [z])
    · rw [if_neg e, if_neg (fun z => e z.symm)]
      exact plt_total e
open PySem.SeqAt (lexR)
theorem lexR_map (e lt : Nat → Bool) (f : Nat → Nat) : ∀ l : List Nat, lexR e lt (l.map f) = lexR (fun j => e (f j)) (fun j => lt (f j)) l
  | [] => rfl
  | j :: r => by
    show (if e (f j) = true then lexR e lt (r.map f) else lt (f j)) = if e (f j) = true then _ else lt (f j)
    rw [lexR_map e lt f r]
theorem lexR_tlt : ∀ (t u : Tab), t.length = u.length → lexR (fun j => decide (t.getD j (0, 0) = u.getD j (0, 0))) (fun j => plt (t.getD j (0, 0)) (u.getD j (0, 0))) (List.range t.length) = tlt t u
  | [], [], _ => rfl
  | [], _ :: _, h => by cases h
  | _ :: _, [], h => by cases h
  | p :: a, q :: b, h => by
    rw [List.length_cons, List.range_succ_eq_map, tlt_cons, ← lexR_tlt a b (by simpa using h)]
    show (if decide (p = q) = true then lexR _ _ ((List.range a.length).map Nat.succ) else plt p q) = _
    rw [lexR_map]
    by_cases e : p = q
    · rw [if_pos (decide_eq_true e), if_pos e]
      rfl
    · rw [if_neg (by rw [decide_eq_true_iff]; exact e), if_neg e]
/-- the foremost by place -/
theorem best_le (ts : Nat → Tab) : ∀ k, PySem.argBest (fun i j => tlt (ts i) (ts j)) k ≤ k ∧ ∀ j, j ≤ k → tlt (ts j) (ts (PySem.argBest (fun i j => tlt (ts i) (ts j)) k)) = false
  | 0 => ⟨Nat.le_refl _, fun j hj => by
      have e : j = 0 := by omega
      subst e
      exact tlt_irrefl _⟩
  | k + 1 => by
    obtain ⟨h1, h2⟩ := best_le ts k
    show (if tlt (ts (k + 1)) (ts (PySem.argBest (fun i j => tlt (ts i) (ts j)) k)) = true then k + 1 else _) ≤ k + 1 ∧ ∀ j, j ≤ k + 1 → tlt (ts j) (ts (if tlt (ts (k + 1)) (ts (PySem.argBest (fun i j => tlt (ts i) (ts j)) k)) = true then k + 1 else _)) = false
    by_cases c : tlt (ts (k + 1)) (ts (PySem.argBest (fun i j => tlt (ts i) (ts j)) k)) = true
    · rw [if_pos c]
      refine ⟨Nat.le_refl _, fun j hj => ?_⟩
      by_cases e : j = k + 1
      · subst e; exact tlt_irrefl _
      · cases q : tlt (ts j) (ts (k + 1)) with
        | false => rfl
        | true =>
          have := tlt_trans q c
          rw [h2 j (by omega)] at this
          cases this
    · rw [if_neg c]
      refine ⟨by omega, fun j hj => ?_⟩
      by_cases e : j = k + 1
      · subst e; exact Bool.eq_false_iff.mpr c
      · exact h2 j (by omega)
end Dn
namespace L2
open PySem PySem.Spec PyProof.Rows Dn
open PySem.SeqAt (EqAt LtAt shaped)
def prD (p : Pr) : PyData := .tuple [.int p.1, .int p.2]
def tabD (t : Tab) : PyData := .list (t.map prD)
theorem prD_shaped (p : Pr) : shaped (prD p) = true := by
  show (PyData.canLay0 (prD p) && decide ((prD p).depth ≤ 64)) = true
  simp [prD, PyData.canLay0, PyData.canLayAll0, PyData.depth, PyData.depthAll]
theorem tabD_lay : ∀ t : Tab, PyData.canLayAll0 (t.map prD) = true ∧ PyData.depthAll (t.map prD) ≤ 1
  | [] => ⟨by simp [PyData.canLayAll0], by simp [PyData.depthAll]⟩
  | p :: t => by
    obtain ⟨h1, h2⟩ := tabD_lay t
    constructor
    · rw [List.map_cons]
      simp only [PyData.canLayAll0, h1, Bool.and_true]
      simp [prD, PyData.canLay0, PyData.canLayAll0]
    · rw [List.map_cons]
      simp only [PyData.depthAll]
      have : (prD p).depth ≤ 1 := by simp [prD, PyData.depth, PyData.depthAll]
      omega
theorem tabD_shaped (t : Tab) : shaped (tabD t) = true := by
  obtain ⟨h1, h2⟩ := tabD_lay t
  show (PyData.canLay0 (tabD t) && decide ((tabD t).depth ≤ 64)) = true
  simp only [tabD, PyData.canLay0, PyData.depth, h1, Bool.true_and, decide_eq_true_iff]
  omega
theorem prD_eqv (p q : Pr) : PyData.eqv (prD p) (prD q) = decide (p = q) := by
  simp only [prD, PyData.eqv, PyData.eqvAll, Bool.and_true]
  by_cases e : p = q
  · subst e; simp
  · rw [decide_eq_false e]
    by_cases e1 : p.1 = q.1
    · have e2 : ¬ p.2 = q.2 := fun z => e (pr_ext e1 z)
      simp [e1, e2]
    · simp [e1]
theorem eqvAll_tab : ∀ t u : Tab, PyData.eqvAll (t.map prD) (u.map prD) = decide (t = u)
  | [], [] => by simp [PyData.eqvAll]
  | [], _ :: _ => by simp [PyData.eqvAll]
  | _ :: _, [] => by simp [PyData.eqvAll]
  | p :: t, q :: u => by
    rw [List.map_cons, List.map_cons]
    simp only [PyData.eqvAll, prD_eqv, eqvAll_tab t u]
    by_cases e : p = q <;> by_cases e2 : t = u <;> simp [e, e2]
theorem tabD_eqv (t u : Tab) : PyData.eqv (tabD t) (tabD u) = decide (t = u) := by
  simp only [tabD, PyData.eqv, eqvAll_tab]
section
variable {A : Around} {s : Shared} {u u' : Value} {as bs : List Addr}
theorem eqAt_pr {p q : Pr} (r : Reads s.heap u (prD p) as) (r' : Reads s.heap u' (prD q) bs) (hu : A.units + 64 < cLine) : EqAt A s u u' (decide (p = q)) := by
  rw [← prD_eqv]
  exact PySem.SeqAt.eqAt_reads _ _ A s u u' as bs r r' (PySem.SeqAt.canLay_of_shaped (prD_shaped p)) (PySem.SeqAt.canLay_of_shaped (prD_shaped q)) (PySem.SeqAt.room_of_shaped (prD_shaped p) hu)
theorem pr_raw {p : Pr} (r : Reads s.heap u (prD p) as) : ∃ b its, u = .ref b ∧ IsTup s.heap b its ∧ IntsAre its.toList [p.1, p.2] := by
  unfold prD at r
  cases r with
  | tuple ho hc hd ra =>
    rename_i b o vs n
    refine ⟨b, vs, rfl, ⟨o, ho, hc, n, hd⟩, ?_⟩
    generalize vs.toList = l at ra
    cases ra with
    | cons r1 r2 =>
      cases r1
      cases r2 with
      | cons r3 r4 =>
        cases r3
        cases r4
        exact .cons _ _ (.cons _ _ .nil)
theorem ltAt_pr {p q : Pr} (r : Reads s.heap u (prD p) as) (r' : Reads s.heap u' (prD q) bs) (hu : A.units < cLine) : LtAt A s u u' (plt p q) := by
  obtain ⟨b, its, rfl, h1, h2⟩ := pr_raw r
  obtain ⟨c, its', rfl, h3, h4⟩ := pr_raw r'
  intro prog w E Q h
  have e : HT.lexLt [p.1, p.2] [q.1, q.2] = plt p q := by
    rw [HT.lexLt_cons, HT.lexLt_cons, HT.lexLt_nil_nil]
    unfold plt
    by_cases e1 : p.1 = q.1
    · rw [if_pos e1, if_pos e1]
      by_cases e2 : p.2 = q.2
      · rw [if_pos e2]; exact (decide_eq_false (by omega)).symm
      · rw [if_neg e2]
    · rw [if_neg e1, if_neg e1]
  exact HT.lt_tupInts h1 h3 h2 h4 hu (by rw [e]; exact h)
theorem readsAll_at : ∀ {vs : List Value} {ds : List PyData} {as : List Addr} {h : Heap}, ReadsAll h vs ds as → vs.length = ds.length ∧ ∀ (j : Nat) (v : Value) (d : PyData), vs[j]? = some v → ds[j]? = some d → ∃ bs, Reads h v d bs
  | _, _, _, _, .nil => ⟨rfl, fun j v d e _ => by simp at e⟩
  | _, _, _, _, .cons r ra => by
    obtain ⟨h1, h2⟩ := readsAll_at ra
    refine ⟨by simp [h1], fun j v d e1 e2 => ?_⟩
    cases j with
    | zero =>
      simp at e1 e2
      subst e1 e2
      exact ⟨_, r⟩
    | succ j => exact h2 j v d (by simpa using e1) (by simpa using e2)
theorem ltAt_tab {t t' : Tab} (hl : t.length = t'.length) (r : Reads s.heap u (tabD t) as) (r' : Reads s.heap u' (tabD t') bs) (hu : A.units + 70 < cLine) : LtAt A s u u' (tlt t t') := by
  unfold tabD at r r'
  cases r with
  | list ho hc hd ra =>
    rename_i a o vs n as
    cases r' with
    | list ho' hc' hd' ra' =>
      rename_i a' o' vs' n' as'
      obtain ⟨l1, g1⟩ := readsAll_at ra
      obtain ⟨l2, g2⟩ := readsAll_at ra'
      rw [List.length_map] at l1 l2
      have z1 : vs.size = t.length := by rw [← l1]; simp
      have z2 : vs'.size = t'.length := by rw [← l2]; simp
      rw [← lexR_tlt t t' hl, ← z1]
      have at1 : ∀ j (h : j < vs.size), ∃ bs, Reads s.heap vs[j] (prD (t.getD j (0, 0))) bs := fun j h => g1 j _ _ (by simp [h]) (by
        have h' : j < t.length := by omega
        rw [List.getElem?_map, List.getElem?_eq_getElem h', List.getD_eq_getElem?_getD, List.getElem?_eq_getElem h']
        rfl)
      have at2 : ∀ j (h : j < vs'.size), ∃ bs, Reads s.heap vs'[j] (prD (t'.getD j (0, 0))) bs := fun j h => g2 j _ _ (by simp [h]) (by
        have h' : j < t'.length := by omega
        rw [List.getElem?_map, List.getElem?_eq_getElem h', List.getD_eq_getElem?_getD, List.getElem?_eq_getElem h']
        rfl)
      refine PySem.SeqAt.LtAt.lists ⟨o, ho, hc, n, hd⟩ ⟨o', ho', hc', n', hd'⟩ (by omega) (by omega) (fun j h1 h2 => ?_) (fun j h1 h2 => ?_)
      · obtain ⟨b1, q1⟩ := at1 j h1
        obtain ⟨b2, q2⟩ := at2 j h2
        exact eqAt_pr q1 q2 (by rw [Around.in1_units]; omega)
      · obtain ⟨b1, q1⟩ := at1 j h1
        obtain ⟨b2, q2⟩ := at2 j h2
        exact ltAt_pr q1 q2 (by rw [Around.in1_units]; omega)
end
section
variable {X : Cx}
/-- min(xs) of a list of tables of one length: one that none of them is less than -/
def rMinT (K : PySem.W.Frag) : List V → Hp → VK → Prop := fun vs H Q => ∃ (a : Addr) (xs : List V) (ts : List Tab) (n : Nat), vs = [V.ref a] ∧ SqL K H a xs ∧ DpAll K H xs (ts.map tabD) ∧ 0 < ts.length ∧ (∀ t ∈ ts, t.length = n) ∧
  ∀ x t, Dp K H x (tabD t) → t ∈ ts → (∀ u ∈ ts, tlt u t = false) → Q x H
theorem dpAll_at {K : PySem.W.Frag} {H : Hp} : ∀ {xs : List V} {ds : List PyData}, DpAll K H xs ds → xs.length = ds.length ∧ ∀ (j : Nat) (x : V) (d : PyData), xs[j]? = some x → ds[j]? = some d → Dp K H x d
  | _, _, .nil => ⟨rfl, fun j x d e _ => by simp at e⟩
  | _, _, .cons h ha => by
    obtain ⟨h1, h2⟩ := dpAll_at ha
    refine ⟨by simp [h1], fun j x d e1 e2 => ?_⟩
    cases j with
    | zero =>
      simp at e1 e2
      subst e1 e2
      exact h
    | succ j => exact h2 j x d (by simpa using e1) (by simpa using e2)
theorem cr_minT (hc : X.calm = true) (hu : X.A.units + 80 < cLine) : CallR X (.builtin "min") (rMinT X.K) := by
  intro pins s σ H vs us Q I r h
  obtain ⟨a, xs, ts, n, rfl, hs, hd, hne, hn, q⟩ := h
  obtain ⟨its, rv, hl, _⟩ := I.list hs
  rw [Vals.ref1 r]
  obtain ⟨l1, g1⟩ := dpAll_at hd
  have l2 := rv.length
  rw [List.length_map] at l1
  have len : its.length = ts.length := by omega
  have rd : ∀ (i : Nat) (v : Value), its[i]? = some v → ∃ as, Reads s.heap v (tabD (ts.getD i [])) as := fun i v e => by
    have hi : i < its.length := (List.getElem?_eq_some_iff.mp e).1
    have hi2 : i < xs.length := by omega
    have hi3 : i < ts.length := by omega
    obtain ⟨u, e2, rr⟩ := rv.get (i := i) (x := xs[i]) (List.getElem?_eq_getElem hi2)
    rw [e] at e2
    cases e2
    refine Dp.reads I _ xs[i] v (g1 i _ _ (List.getElem?_eq_getElem hi2) ?_) rr
    rw [List.getElem?_map, List.getElem?_eq_getElem hi3, List.getD_eq_getElem?_getD, List.getElem?_eq_getElem hi3]
    rfl
  have tl : ∀ i, i < ts.length → (ts.getD i []).length = n ∧ ts.getD i [] ∈ ts := fun i hi => by
    rw [List.getD_eq_getElem?_getD, List.getElem?_eq_getElem hi]
    exact ⟨hn _ (List.getElem_mem hi), List.getElem_mem hi⟩
  refine minH_list (I.ok.hd hc) hl.isList (by omega) (fun i j => tlt (ts.getD i []) (ts.getD j [])) (fun i j vi vj t Q E kp ei ej q => ?_) (fun v h' tk ev kp => ?_)
  · obtain ⟨as, r1⟩ := rd i vi ei
    obtain ⟨bs, r2⟩ := rd j vj ej
    have hi : i < its.length := (List.getElem?_eq_some_iff.mp ei).1
    have hj : j < its.length := (List.getElem?_eq_some_iff.mp ej).1
    exact ltAt_tab ((tl i (by omega)).1.trans (tl j (by omega)).1.symm) (Reads.keeps kp r1) (Reads.keeps kp r2) (by rw [Around.in1_units]; omega) _ _ E Q q
  · have b := best_le (fun i => ts.getD i []) (its.length - 1)
    generalize hk : PySem.argBest (fun i j => tlt (ts.getD i []) (ts.getD j [])) (its.length - 1) = k at b ev
    have hk1 : k < its.length := by have := b.1; omega
    have hk2 : k < xs.length := by omega
    obtain ⟨u, e2, rr⟩ := rv.get (i := k) (x := xs[k]) (List.getElem?_eq_getElem hk2)
    rw [ev] at e2
    cases e2
    refine ⟨xs[k], H, I.kept kp, rr, q xs[k] (ts.getD k []) (g1 k _ _ (List.getElem?_eq_getElem hk2) ?_) (tl k (by omega)).2 fun u hu => ?_⟩
    · have hk3 : k < ts.length := by omega
      rw [List.getElem?_map, List.getElem?_eq_getElem hk3, List.getD_eq_getElem?_getD, List.getElem?_eq_getElem hk3]
      rfl
    · obtain ⟨j, hj, rfl⟩ := List.mem_iff_getElem.mp hu
      have := b.2 j (by omega)
      rw [List.getD_eq_getElem?_getD, List.getElem?_eq_getElem hj] at this
      exact this
/-- xs.count(k) of a list of ints -/
def rCount (K : PySem.W.Frag) : V → List V → Hp → VK → Prop := fun x vs H Q => ∃ (a : Addr) (ns : List Int) (k : Int), x = .ref a ∧ vs = [.int k] ∧ SqL K H a (ns.map V.int) ∧ Q (.int (ns.count k : Nat)) H
theorem mt_countL : MtR X "list.count" (rCount X.K) := by
  intro pins s σ H x xs v us Q I rx rs h
  obtain ⟨a, ns, k, rfl, rfl, hs, q⟩ := h
  obtain ⟨its, rv, hl, _⟩ := I.list hs
  obtain ⟨u, rfl, ru⟩ := Vals.one rs
  obtain ⟨t, rfl⟩ := ru
  cases rx
  exact count_list_ints hl.isList rv.ints ⟨.int _, H, I.tok _, ⟨_, rfl⟩, q⟩
end
end L2
end
section
set_option Elab.async false
set_option linter.all false
set_option maxRecDepth 100000
set_option maxHeartbeats 2000000
/-! ### marks up to a column; the table of a couple -/
namespace Dn
theorem sum_foldl : ∀ (l : List Nat) (a : Nat), l.foldl (· + ·) a = a + l.foldl (· + ·) 0
  | [], a => rfl
  | x :: l, a => by
    rw [List.foldl_cons, List.foldl_cons, sum_foldl l (a + x), sum_foldl l (0 + x)]
    omega
theorem ksum_cons (x : Nat) (l : List Nat) : Kdn.sum (x :: l) = x + Kdn.sum l := by
  show (x :: l).foldl (· + ·) 0 = _
  rw [List.foldl_cons, sum_foldl]
  show 0 + x + Kdn.sum l = _
  omega
theorem ksum_nil : Kdn.sum [] = 0 := rfl
theorem upTo_cons (x : Nat) (l : List Nat) (c : Nat) : Kdn.upTo (x :: l) c = (if x ≤ c then 1 else 0) + Kdn.upTo l c := by
  unfold Kdn.upTo
  rw [List.filter_cons]
  by_cases h : x ≤ c
  · rw [if_pos (decide_eq_true h), if_pos h, List.length_cons]; omega
  · rw [if_neg (by rw [decide_eq_true_iff]; exact h), if_neg h]; omega
theorem sumTo_cons (x : Nat) (l : List Nat) (c : Nat) : Kdn.sumTo (x :: l) c = (if x ≤ c then x else 0) + Kdn.sumTo l c := by
  unfold Kdn.sumTo
  rw [List.filter_cons]
  by_cases h : x ≤ c
  · rw [if_pos (decide_eq_true h), if_pos h, ksum_cons]
  · rw [if_neg (by rw [decide_eq_true_iff]; exact h), if_neg h]; omega
theorem upTo_zero : ∀ {l : List Nat}, (∀ x ∈ l, 1 ≤ x) → Kdn.upTo l 0 = 0
  | [], _ => rfl
  | x :: l, h => by
    have := h x (List.mem_cons_self ..)
    rw [upTo_cons, if_neg (by omega), upTo_zero fun y hy => h y (List.mem_cons_of_mem _ hy)]
theorem sumTo_zero : ∀ {l : List Nat}, (∀ x ∈ l, 1 ≤ x) → Kdn.sumTo l 0 = 0
  | [], _ => rfl
  | x :: l, h => by
    have := h x (List.mem_cons_self ..)
    rw [sumTo_cons, if_neg (by omega), sumTo_zero fun y hy => h y (List.mem_cons_of_mem _ hy)]
theorem count_cons' (x : Nat) (l : List Nat) (c : Nat) : (x :: l).count c = (if x = c then 1 else 0) + l.count c := by
  rw [List.count_cons]
  by_cases h : x = c
  · subst h; simp; omega
  · simp [h]
theorem upTo_succ : ∀ (l : List Nat) (c : Nat), Kdn.upTo l (c + 1) = Kdn.upTo l c + l.count (c + 1)
  | [], c => rfl
  | x :: l, c => by
    rw [upTo_cons, upTo_cons, count_cons', upTo_succ l c]
    by_cases h1 : x ≤ c
    · rw [if_pos (by omega), if_pos h1, if_neg (by omega)]; omega
    · by_cases h2 : x = c + 1
      · rw [if_pos (by omega), if_neg h1, if_pos h2]; omega
      · rw [if_neg (by omega), if_neg h1, if_neg h2]; omega
theorem sumTo_succ : ∀ (l : List Nat) (c : Nat), Kdn.sumTo l (c + 1) = Kdn.sumTo l c + l.count (c + 1) * (c + 1)
  | [], c => by
    show 0 = 0 + 0 * (c + 1)
    omega
  | x :: l, c => by
    rw [sumTo_cons, sumTo_cons, count_cons', sumTo_succ l c, Nat.add_mul]
    by_cases h1 : x ≤ c
    · rw [if_pos (by omega), if_pos h1, if_neg (by omega)]; omega
    · by_cases h2 : x = c + 1
      · rw [if_pos (by omega), if_neg h1, if_pos h2]; omega
      · rw [if_neg (by omega), if_neg h1, if_neg h2]; omega
theorem upTo_all : ∀ {l : List Nat} {c : Nat}, (∀ x ∈ l, x ≤ c) → Kdn.upTo l c = l.length
  | [], _, _ => rfl
  | x :: l, c, h => by
    rw [upTo_cons, if_pos (h x (List.mem_cons_self ..)), upTo_all fun y hy => h y (List.mem_cons_of_mem _ hy), List.length_cons]
    omega
theorem upTo_le (l : List Nat) (c : Nat) : Kdn.upTo l c ≤ l.length := List.length_filter_le ..
def entry (m : List Nat) (c : Nat) : Pr := (-((Kdn.upTo m c : Nat) : Int), ((Kdn.sumTo m c : Nat) : Int))
/-- the table of a couple with these marks: columns 1 to n -/
def stand (m : List Nat) (n : Nat) : Tab := (List.range n).map fun i => entry m (i + 1)
theorem stand_len (m : List Nat) (n : Nat) : (stand m n).length = n := by unfold stand; simp
theorem stand_succ (m : List Nat) (n : Nat) : stand m (n + 1) = stand m n ++ [entry m (n + 1)] := by
  unfold stand
  rw [List.range_succ, List.map_append]
  rfl
theorem stand_at (m : List Nat) {n i : Nat} (h : i < n) : (stand m n)[i]? = some (entry m (i + 1)) := by
  unfold stand
  rw [List.getElem?_map, List.getElem?_range h]
  rfl
theorem stand_drop (m : List Nat) : ∀ (k n c : Nat), n - c = k → c ≤ n → (stand m n).drop c = (List.range k).map fun i => entry m (c + i + 1)
  | 0, n, c, h, hc => by
    have e : c = n := by omega
    subst e
    rw [List.drop_of_length_le (by rw [stand_len]; exact Nat.le_refl _)]
    rfl
  | k + 1, n, c, h, hc => by
    have hlt : c < n := by omega
    rw [List.drop_eq_getElem_cons (by rw [stand_len]; exact hlt), stand_drop m k n (c + 1) (by omega) (by omega), List.range_succ_eq_map, List.map_cons, List.map_map]
    congr 1
    · have := stand_at m hlt
      rw [List.getElem?_eq_getElem (by rw [stand_len]; exact hlt)] at this
      exact Option.some.inj this
    · apply List.map_congr_left
      intro i _
      show entry m (c + 1 + i + 1) = entry m (c + (i + 1) + 1)
      exact congrArg (entry m) (by omega)
/-- less from a column on is before from it on -/
theorem lt_versus (a b : List Nat) : ∀ (k c : Nat), tlt ((List.range k).map fun i => entry a (c + i + 1)) ((List.range k).map fun i => entry b (c + i + 1)) = decide (Kdn.versus k a b (c + 1) = 0)
  | 0, c => by
    show false = decide ((1 : Nat) = 0)
    decide
  | k + 1, c => by
    rw [List.range_succ_eq_map, List.map_cons, List.map_cons, List.map_map, List.map_map, tlt_cons]
    have e : ∀ m : List Nat, (List.range k).map ((fun i => entry m (c + i + 1)) ∘ Nat.succ) = (List.range k).map fun i => entry m (c + 1 + i + 1) := fun m => by
      apply List.map_congr_left
      intro i _
      show entry m (c + (i + 1) + 1) = entry m (c + 1 + i + 1)
      exact congrArg (entry m) (by omega)
    rw [e a, e b, lt_versus a b k (c + 1)]
    show (if entry a (c + 1) = entry b (c + 1) then _ else plt (entry a (c + 1)) (entry b (c + 1))) = _
    have e3 : entry a (c + 1) = entry b (c + 1) ↔ Kdn.upTo a (c + 1) = Kdn.upTo b (c + 1) ∧ Kdn.sumTo a (c + 1) = Kdn.sumTo b (c + 1) := by
      unfold entry
      constructor
      · intro z
        have z1 := (Prod.mk.inj z).1
        have z2 := (Prod.mk.inj z).2
        omega
      · rintro ⟨z1, z2⟩
        rw [z1, z2]
    have e4 : plt (entry a (c + 1)) (entry b (c + 1)) = true ↔ Kdn.upTo b (c + 1) < Kdn.upTo a (c + 1) ∨ (Kdn.upTo a (c + 1) = Kdn.upTo b (c + 1) ∧ Kdn.sumTo a (c + 1) < Kdn.sumTo b (c + 1)) := by
      rw [plt_iff]
      unfold entry
      simp only
      omega
    show _ = decide ((if Kdn.upTo b (c + 1) < Kdn.upTo a (c + 1) then 0 else if Kdn.upTo a (c + 1) < Kdn.upTo b (c + 1) then 2 else if Kdn.sumTo a (c + 1) < Kdn.sumTo b (c + 1) then 0 else if Kdn.sumTo b (c + 1) < Kdn.sumTo a (c + 1) then 2 else Kdn.versus k a b (c + 1 + 1)) = 0)
    by_cases q1 : Kdn.upTo b (c + 1) < Kdn.upTo a (c + 1)
    · rw [if_neg (fun z => by have := e3.mp z; omega), if_pos q1, e4.mpr (.inl q1)]; rfl
    · by_cases q2 : Kdn.upTo a (c + 1) < Kdn.upTo b (c + 1)
      · rw [if_neg (fun z => by have := e3.mp z; omega), if_neg q1, if_pos q2]
        exact Bool.eq_false_iff.mpr fun z => by have := e4.mp z; omega
      · have q3 : Kdn.upTo a (c + 1) = Kdn.upTo b (c + 1) := by omega
        rw [if_neg q1, if_neg q2]
        by_cases q4 : Kdn.sumTo a (c + 1) < Kdn.sumTo b (c + 1)
        · rw [if_neg (fun z => by have := e3.mp z; omega), if_pos q4, e4.mpr (.inr ⟨q3, q4⟩)]; rfl
        · rw [if_neg q4]
          by_cases q5 : Kdn.sumTo b (c + 1) < Kdn.sumTo a (c + 1)
          · rw [if_neg (fun z => by have := e3.mp z; omega), if_pos q5]
            exact Bool.eq_false_iff.mpr fun z => by have := e4.mp z; omega
          · rw [if_pos (e3.mpr ⟨q3, by omega⟩), if_neg q5]
theorem slt_versus (a b : List Nat) {n c : Nat} (h1 : 1 ≤ c) (h2 : c ≤ n) : tlt ((stand a n).drop (c - 1)) ((stand b n).drop (c - 1)) = decide (Kdn.versus (n + 1 - c) a b c = 0) := by
  rw [stand_drop a (n + 1 - c) n (c - 1) (by omega) (by omega), stand_drop b (n + 1 - c) n (c - 1) (by omega) (by omega), lt_versus]
  have e : c - 1 + 1 = c := by omega
  rw [e]
/-- those of some that none of them is less than, from a column on: the foremost -/
def lead (ts : List Tab) (c : Nat) (ws : List Nat) : List Nat := ws.filter fun k => ws.all fun j => !tlt ((ts.getD j []).drop (c - 1)) ((ts.getD k []).drop (c - 1))
theorem lead_front {m : Nat → List Nat} {ts : List Tab} {n c : Nat} {ws : List Nat} (h1 : 1 ≤ c) (h2 : c ≤ n) (ht : ∀ k ∈ ws, ts.getD k [] = stand (m k) n) : lead ts c ws = Kdn.front n m c ws := by
  unfold lead Kdn.front
  apply List.filter_congr
  intro k hk
  rw [ht k hk]
  have e : ∀ l : List Nat, (∀ j ∈ l, j ∈ ws) → (l.all fun j => !tlt ((ts.getD j []).drop (c - 1)) ((stand (m k) n).drop (c - 1))) = l.all fun j => Kdn.versus (n + 1 - c) (m j) (m k) c != 0 := by
    intro l
    induction l with
    | nil => intro _; rfl
    | cons j l ih =>
      intro hl
      rw [List.all_cons, List.all_cons, ih fun i hi => hl i (List.mem_cons_of_mem _ hi), ht j (hl j (List.mem_cons_self ..)), slt_versus (m j) (m k) h1 h2]
      congr 1
  exact e ws fun _ h => h
end Dn
end
section
set_option Elab.async false
set_option linter.all false
set_option maxRecDepth 100000
set_option maxHeartbeats 2000000
/-! ### data that is only read, through changes of the heap -/
namespace L2
open PySem PySem.Spec PyProof.Rows Dn
theorem Same.seqT {K : PySem.W.Frag} {H H' : Hp} {a : Addr} {xs : List V} (e : Same H H') (h : SqT K H a xs) : SqT K H' a xs := by
  rcases h with (h | ⟨o, h⟩) | h
  · exact .inl (.inl (e _ _ h))
  · exact .inl (.inr ⟨o, e _ _ h⟩)
  · exact .inr h
/-- an object that was not tracked is laid -/
theorem Same.new {H : Hp} {p : Addr} {o : HO} (h : H p = Option.none) : Same H (upd H p o) := fun b u e => by
  rw [upd_ne (ne_of_none e h)]
  exact e
/-- .. or written, since it is younger than what is kept -/
theorem Same.put {H H' : Hp} {p : Addr} {o : HO} (s : Same H H') (h : H p = Option.none) : Same H (upd H' p o) := fun b u e => by
  rw [upd_ne (ne_of_none e h)]
  exact s b u e
mutual
theorem Dp.mono {K : PySem.W.Frag} {H H' : Hp} (e : Same H H') : ∀ (d : PyData) (v : V), Dp K H v d → Dp K H' v d
  | .none, _, h => by cases h; exact .non
  | .bool b, _, h => by cases h; exact .bl b
  | .int i, _, h => by cases h; exact .int i
  | .str x, _, h => by cases h; exact .str x
  | .list ds, _, h => by
    cases h with
    | lst hs ha => exact .lst (e.seq hs) (DpAll.mono e ds _ ha)
  | .tuple ds, _, h => by
    cases h with
    | tup hs ha => exact .tup (e.seqT hs) (DpAll.mono e ds _ ha)
  | .dict _, _, h => by cases h
theorem DpAll.mono {K : PySem.W.Frag} {H H' : Hp} (e : Same H H') : ∀ (ds : List PyData) (vs : List V), DpAll K H vs ds → DpAll K H' vs ds
  | [], _, h => by cases h; exact .nil
  | d :: ds, _, h => by
    cases h with
    | cons h1 h2 => exact .cons (Dp.mono e d _ h1) (DpAll.mono e ds _ h2)
end
theorem DpAll.snoc {K : PySem.W.Frag} {H : Hp} {v : V} {d : PyData} : ∀ {vs : List V} {ds : List PyData}, DpAll K H vs ds → Dp K H v d → DpAll K H (vs ++ [v]) (ds ++ [d])
  | _, _, .nil, h => .cons h .nil
  | _, _, .cons h1 h2, h => .cons h1 (DpAll.snoc h2 h)
theorem DpAll.drop {K : PySem.W.Frag} {H : Hp} : ∀ {vs : List V} {ds : List PyData} (k : Nat), DpAll K H vs ds → DpAll K H (vs.drop k) (ds.drop k)
  | _, _, 0, h => h
  | _, _, _ + 1, .nil => .nil
  | _, _, k + 1, .cons _ h => DpAll.drop k h
/-- ints -/
def zs (l : List Nat) : List Int := l.map fun (x : Nat) => (x : Int)
def zV (l : List Nat) : List V := (zs l).map V.int
theorem zV_len (l : List Nat) : (zV l).length = l.length := by unfold zV zs; simp
theorem zV_at {l : List Nat} {i x : Nat} (h : l[i]? = some x) : (zV l)[i]? = some (.int (x : Int)) := by
  unfold zV zs
  rw [List.getElem?_map, List.getElem?_map, h]
  rfl
theorem zV_of {l : List Nat} {i : Nat} {v : V} (h : (zV l)[i]? = some v) : ∃ x, l[i]? = some x ∧ v = .int (x : Int) := by
  unfold zV zs at h
  rw [List.getElem?_map, List.getElem?_map] at h
  cases e : l[i]? with
  | none => rw [e] at h; cases h
  | some x => rw [e] at h; exact ⟨x, rfl, (Option.some.inj h).symm⟩
theorem zV_snoc (l : List Nat) (x : Nat) : zV l ++ [.int (x : Int)] = zV (l ++ [x]) := by unfold zV zs; simp
theorem count_zs (l : List Nat) (c : Nat) : (zs l).count (c : Int) = l.count c := by
  unfold zs
  induction l with
  | nil => rfl
  | cons x l ih =>
    rw [List.map_cons, List.count_cons, List.count_cons, ih]
    congr 1
    by_cases h : x = c
    · subst h; simp
    · have : ¬ (x : Int) = (c : Int) := by omega
      simp [h, this]
def rowD (r : List Nat) : PyData := .list (r.map fun (x : Nat) => PyData.int (x : Int))
def rowsD (rs : List (List Nat)) : PyData := .list (rs.map rowD)
def tabsD (ts : List Tab) : PyData := .list (ts.map tabD)
theorem dp_ints {K : PySem.W.Frag} {H : Hp} : ∀ {r : List Nat} {xs : List V}, DpAll K H xs (r.map fun (x : Nat) => PyData.int (x : Int)) → xs = zV r
  | [], _, h => by cases h; rfl
  | x :: r, _, h => by
    rw [List.map_cons] at h
    cases h with
    | cons h1 h2 =>
      cases h1
      rw [dp_ints h2]
      rfl
theorem ints_dp {K : PySem.W.Frag} {H : Hp} : ∀ (r : List Nat), DpAll K H (zV r) (r.map fun (x : Nat) => PyData.int (x : Int))
  | [] => .nil
  | x :: r => .cons (.int _) (ints_dp r)
theorem dp_row {K : PySem.W.Frag} {H : Hp} {v : V} {r : List Nat} (h : Dp K H v (rowD r)) : ∃ a, v = .ref a ∧ SqL K H a (zV r) := by
  unfold rowD at h
  cases h with
  | lst hs ha =>
    rw [dp_ints ha] at hs
    exact ⟨_, rfl, hs⟩
theorem row_dp {K : PySem.W.Frag} {H : Hp} {a : Addr} {r : List Nat} (h : SqL K H a (zV r)) : Dp K H (.ref a) (rowD r) := .lst h (ints_dp r)
theorem dp_pr {K : PySem.W.Frag} {H : Hp} {v : V} {p : Pr} (h : Dp K H v (prD p)) : ∃ a, v = .ref a ∧ SqT K H a [.int p.1, .int p.2] := by
  unfold prD at h
  cases h with
  | tup hs ha =>
    cases ha with
    | cons h1 h2 =>
      cases h1
      cases h2 with
      | cons h3 h4 =>
        cases h3
        cases h4
        exact ⟨_, rfl, hs⟩
theorem pr_dp {K : PySem.W.Frag} {H : Hp} {a : Addr} {p : Pr} (h : SqT K H a [.int p.1, .int p.2]) : Dp K H (.ref a) (prD p) := .tup h (.cons (.int _) (.cons (.int _) .nil))
/-- a list of data: its items -/
theorem dp_list {K : PySem.W.Frag} {H : Hp} {v : V} {α : Type} {f : α → PyData} {l : List α} (h : Dp K H v (.list (l.map f))) : ∃ a xs, v = .ref a ∧ SqL K H a xs ∧ DpAll K H xs (l.map f) ∧ xs.length = l.length ∧ ∀ (j : Nat) (z : α), l[j]? = some z → ∃ x, xs[j]? = some x ∧ Dp K H x (f z) := by
  cases h with
  | lst hs ha =>
    obtain ⟨l1, l2⟩ := dpAll_at ha
    rw [List.length_map] at l1
    rename_i a xs
    refine ⟨a, xs, rfl, hs, ha, l1, fun j z e => ?_⟩
    have hj : j < l.length := (List.getElem?_eq_some_iff.mp e).1
    have hx : j < xs.length := by omega
    exact ⟨_, List.getElem?_eq_getElem hx, l2 j _ _ (List.getElem?_eq_getElem hx) (by rw [List.getElem?_map, e]; rfl)⟩
theorem atI_neg1 {α : Type} {xs : List α} {v : α} (h : xs[xs.length - 1]? = some v) : atI xs (-1) = some v := by
  have hl : xs.length - 1 < xs.length := (List.getElem?_eq_some_iff.mp h).1
  have e : ixN xs.length (-1) = some (xs.length - 1) := by
    unfold ixN
    rw [if_neg (by decide), if_pos (by omega)]
    congr 1
    omega
  unfold atI
  rw [e]
  exact h
/-- xs[k:] -/
theorem cutV_from (xs : List V) {k : Nat} (h : k ≤ xs.length) : cutV xs (some (k : Int)) Option.none = xs.drop k := by
  unfold cutV
  rw [HT.sIx_nat, HT.sIx_none, Nat.min_eq_left h, List.take_of_length_le (by rw [List.length_drop]; exact Nat.le_refl _)]
/-- the heap without one object: a list that is being built -/
def hid (D : Addr) (H : Hp) : Hp := fun b => if b = D then Option.none else H b
theorem hid_ne {D b : Addr} {H : Hp} (h : b ≠ D) : hid D H b = H b := by unfold hid; rw [if_neg h]
theorem hid_at {D : Addr} {H : Hp} : hid D H D = Option.none := by unfold hid; rw [if_pos rfl]
theorem hid_same {D : Addr} {H : Hp} : Same (hid D H) H := fun b o e => by
  by_cases h : b = D
  · subst h; rw [hid_at] at e; cases e
  · rw [hid_ne h] at e; exact e
theorem same_hid {D : Addr} {H H' : Hp} (s : Same H H') (h : H D = Option.none) : Same H (hid D H') := fun b o e => by
  rw [hid_ne (ne_of_none e h)]
  exact s b o e
theorem hid_upd {D : Addr} {H : Hp} {o : HO} : hid D (upd H D o) = hid D H := by
  funext b
  by_cases h : b = D
  · subst h; rw [hid_at, hid_at]
  · rw [hid_ne h, hid_ne h, upd_ne h]
theorem hid_upd_ne {D p : Addr} {H : Hp} {o : HO} (hp : p ≠ D) : hid D (upd H p o) = upd (hid D H) p o := by
  funext b
  by_cases h : b = D
  · subst h; rw [hid_at, upd_ne (Ne.symm hp), hid_at]
  · rw [hid_ne h]
    by_cases q : b = p
    · subst q; rw [upd_same, upd_same]
    · rw [upd_ne q, upd_ne q, hid_ne h]
theorem hid_new {D p : Addr} {H : Hp} (h : H p = Option.none) : hid D H p = Option.none := by
  by_cases q : p = D
  · subst q; exact hid_at
  · rw [hid_ne q]; exact h
theorem yes_if {σ : St} {H : Hp} {A B : Hp → Prop} (h : A H) : tYes σ H (fun b H3 => if b = true then A H3 else B H3) := by
  unfold tYes
  dsimp only
  rw [if_pos rfl]
  exact h
theorem Room.u80 {k : Nat} {A : Around} (r : Room k A) : A.units + 80 < cLine := by have := r.un; omega
theorem take_snoc {α : Type} {l : List α} {i : Nat} {x : α} (h : l[i]? = some x) : l.take (i + 1) = l.take i ++ [x] := by
  obtain ⟨hi, e⟩ := List.getElem?_eq_some_iff.mp h
  rw [List.take_add_one, h]
  rfl
theorem filter_snoc {α : Type} {l : List α} {i : Nat} {x : α} (p : α → Bool) (h : l[i]? = some x) : (l.take (i + 1)).filter p = if p x = true then (l.take i).filter p ++ [x] else (l.take i).filter p := by
  rw [take_snoc h, List.filter_append, List.filter_cons]
  by_cases q : p x = true
  · rw [if_pos q, if_pos q]; rfl
  · rw [if_neg q, if_neg q]; simp
/-- what came since -/
def nw (H H' : Hp) : Hp := fun b => match H b with
  | none => H' b
  | some _ => Option.none
theorem nw_at {H H' : Hp} {b : Addr} (h : H b = Option.none) : nw H H' b = H' b := by unfold nw; rw [h]
theorem nw_old {H H' : Hp} {b : Addr} {o : HO} (h : H b = some o) : nw H H' b = Option.none := by unfold nw; rw [h]
theorem nw_same {H H' : Hp} : Same (nw H H') H' := fun b o e => by
  cases q : H b with
  | none => rw [nw_at q] at e; exact e
  | some u => rw [nw_old q] at e; cases e
theorem nw_upd {H H' : Hp} {p : Addr} {o : HO} (h : H p = Option.none) : nw H (upd H' p o) = upd (nw H H') p o := by
  funext b
  by_cases q : b = p
  · subst q; rw [nw_at h, upd_same, upd_same]
  · rw [upd_ne q]
    unfold nw
    split
    · exact upd_ne q
    · rfl
theorem nw_new {H H' : Hp} {p : Addr} (h : H' p = Option.none) : nw H H' p = Option.none := by
  unfold nw
  split
  · exact h
  · rfl
theorem nw_mono {H H1 H2 : Hp} (s : Same H H1) : Same (nw H1 H2) (nw H H2) := fun b o e => by
  cases q : H1 b with
  | none =>
    rw [nw_at q] at e
    rw [nw_at (s.free q)]
    exact e
  | some u => rw [nw_old q] at e; cases e
/-- what came since leans on nothing older -/
theorem nw_hid {H H' : Hp} {D : Addr} {o : HO} (h : H D = some o) : Same (nw H H') (hid D H') := fun b u e => by
  have ne : b ≠ D := fun z => by subst z; rw [nw_old h] at e; cases e
  rw [hid_ne ne]
  exact nw_same b u e
end L2
end
section
set_option Elab.async false
set_option linter.all false
set_option maxRecDepth 100000
set_option maxHeartbeats 2000000
namespace Dn
open PySem PySem.Spec PyProof.Rows L2
def top (i : Nat) : Stmt := PySem.Challenge.pw_dancejudged_s01_answers.main.body.getD i (.Pass ⟨0, 0, 0, 0⟩)
abbrev sStand : Stmt := top 1
abbrev sHas : Stmt := top 2
abbrev sLead : Stmt := top 3
abbrev sMid : Stmt := top 4
abbrev sCtab : Stmt := top 5
abbrev sDpl : Stmt := top 6
/-- names that the text does not bind: Python's own -/
structure Blt (mg : Str → Option Value) : Prop where
  range : mg "range" = Option.none
  len : mg "len" = Option.none
  mn : mg "min" = Option.none
  sorted : mg "sorted" = Option.none
  list : mg "list" = Option.none
  sum : mg "sum" = Option.none
  any : mg "any" = Option.none
section
variable {P : Program} {w : World} {K : PySem.W.Frag} {mg : Str → Option Value} {base : Heap}
/-! ### has_majority -/
def spHas (K : PySem.W.Frag) : Sp := fun vs H Q _ => ∃ (v : V) (t : Tab) (c : Nat) (p q : Pr), vs = [v, .int (c : Int)] ∧ Dp K H v (tabD t) ∧ 1 ≤ c ∧ t[c - 1]? = some p ∧ t[t.length - 1]? = some q ∧ Q (.bl (decide (2 * p.1 < q.1))) H
theorem scHas : FnScope ["table", "column"] ["table", "column"] (defScope sHas) := ⟨rfl, rfl, rfl, by decide +kernel, rfl, by decide +kernel, by decide +kernel⟩
theorem ok_has {f : Addr} {fd : FuncData} (F : Fun K "has_majority" "has_majority" sHas f fd) : FnOk P w K mg base CX0 1 f fd ["table", "column"] (spHas K) := by
  refine F.ok scHas (fun vs H Q E h => ?_) (fun cdv A outer s H vs Q E hr h => ?_)
  · obtain ⟨v, t, c, p, q, rfl, _⟩ := h
    rfl
  · obtain ⟨v, t, c, p, q, rfl, ht, hc, hp, hq, k⟩ := h
    refine ⟨_, pss_one (ps_ret (pe_cmpR op_lt (pe_op op_mul pe_int (pe_ix ix_tup (pe_ix ix_list (pv 0) (pe_op op_sub (pv 1) pe_int) (fun _ _ => rfl)) pe_int (fun _ _ => rfl)))
      (pe_ix ix_tup (pe_ix ix_list (pv 0) (pe_un un_neg pe_int) (fun _ _ => rfl)) pe_int (fun _ _ => rfl)) (nomark _))), ?_⟩
    obtain ⟨a, xs, rfl, hs, _, hl, g⟩ := dp_list ht
    obtain ⟨x, ex, dx⟩ := g _ _ hp
    obtain ⟨y, ey, dy⟩ := g _ _ hq
    obtain ⟨b, rfl, hb⟩ := dp_pr dx
    obtain ⟨b', rfl, hb'⟩ := dp_pr dy
    have e1 : (c : Int) - 1 = ((c - 1 : Nat) : Int) := by omega
    refine ⟨_, rfl, _, rfl, _, _, rfl, rfl, a, xs, _, _, rfl, rfl, hs, at_of e1 ex, b, _, _, _, rfl, rfl, hb, rfl, _, _, rfl, rfl, .inl ⟨by decide, by decide⟩, _, rfl, _, rfl, a, xs, _, _, rfl, rfl, hs, atI_neg1 (by rw [hl]; exact ey), b', _, _, _, rfl, rfl, hb', rfl, _, _, rfl, rfl, k⟩
/-! ### middle_place -/
def spMid : Sp := fun vs H Q _ => ∃ (p k : Nat), vs = [.int (p : Int), .int (k : Int)] ∧ Q (.int (2 * (p : Int) + (k : Int) - 1)) H
theorem scMid : FnScope ["place", "sharing"] ["place", "sharing"] (defScope sMid) := ⟨rfl, rfl, rfl, by decide +kernel, rfl, by decide +kernel, by decide +kernel⟩
theorem ok_mid {f : Addr} {fd : FuncData} (F : Fun K "middle_place" "middle_place" sMid f fd) : FnOk P w K mg base CX0 1 f fd ["place", "sharing"] spMid := by
  refine F.ok scMid (fun vs H Q E h => ?_) (fun cdv A outer s H vs Q E hr h => ?_)
  · obtain ⟨p, k, rfl, _⟩ := h
    rfl
  · obtain ⟨p, n, rfl, k⟩ := h
    refine ⟨_, pss_one (ps_ret (pe_op op_sub (pe_op op_add (pe_op op_mul pe_int (pv 0)) (pv 1)) pe_int)), ?_⟩
    exact ⟨_, rfl, _, _, rfl, rfl, .inl ⟨by decide, by decide⟩, _, rfl, _, _, rfl, rfl, _, _, rfl, rfl, k⟩
/-! ### standings -/
def spStand (K : PySem.W.Frag) : Sp := fun vs H Q _ => ∃ (a : Addr) (m : List Nat) (n : Nat), vs = [.ref a, .int (n : Int)] ∧ SqL K H a (zV m) ∧ (∀ x ∈ m, 1 ≤ x) ∧ n ≤ 1000 ∧
  ∀ (H' : Hp) (p : Addr), Same H H' → Dp K (nw H H') (.ref p) (tabD (stand m n)) → Q (.ref p) H'
theorem scStand : FnScope ["marks", "couples", "number", "total", "table", "column", "here"] ["marks", "couples"] (defScope sStand) := ⟨rfl, rfl, rfl, by decide +kernel, rfl, by decide +kernel, by decide +kernel⟩
theorem ok_stand {f : Addr} {fd : FuncData} (F : Fun K "standings" "standings" sStand f fd) (B : Blt mg) : FnOk P w K mg base CX0 1 f fd ["marks", "couples"] (spStand K) := by
  refine F.ok scStand (fun vs H Q E h => ?_) (fun cdv A outer s H vs Q E hr h => ?_)
  · obtain ⟨a, m, n, rfl, _⟩ := h
    rfl
  · obtain ⟨a, m, n, rfl, hm, h1, hn, k⟩ := h
    refine ⟨_, pss_cons (ps_set (i := 2) scStand.nd rfl (Or.inl rfl) pe_int) (pss_cons (ps_set (i := 3) scStand.nd rfl (Or.inl rfl) pe_int) (pss_cons (ps_set (i := 4) scStand.nd rfl (Or.inl rfl) (pe_lst pa_nil))
      (pss_cons (ps_for PassesOwn.never rfl (pi_range2 rfl B.range (pa_cons pe_int (pa_cons (pe_op op_add (pv 1) pe_int) pa_nil))) (pg_name (i := 5) scStand.nd rfl (Or.inl rfl))
        (pss_cons (ps_set (i := 6) scStand.nd rfl (Or.inl rfl) (pe_bm PySem.F.plainAttrs_list PySem.F.slot_list_count PySem.F.type_list_count mt_countL (pv 0) (pa_cons (pv 5) pa_nil)))
        (pss_cons (ps_aug (i := 2) scStand.nd rfl (Or.inl rfl) (pv 6) ip_add)
        (pss_cons (ps_aug (i := 3) scStand.nd rfl (Or.inl rfl) (pe_op op_mul (pv 6) (pv 5)) ip_add)
        (pss_one (ps_expr (pe_bm PySem.F.plainAttrs_list PySem.F.slot_list_append PySem.F.type_list_append mt_append (pv 4) (pa_cons (pe_tup (pa_cons (pe_un un_neg (pv 2)) (pa_cons (pv 3) pa_nil))) pa_nil))))))))
      (pss_one (ps_ret (pv 4)))))), ?_⟩
    refine ⟨Nat.zero_le _, fun l hl => ?_⟩
    refine ⟨_, rfl, _, _, rfl, rfl, 1, (n : Int) + 1, rfl, ⟨by decide, by decide, by omega, by omega⟩, ?_⟩
    have en : ((n : Int) + 1 - 1).toNat = n := by omega
    rw [en]
    refine for_range (n := n) (fun i σ H' => ∃ (v5 v6 : Option V) (xs : List V), σ = [some (.ref a), some (.int (n : Int)), some (.int (Kdn.upTo m i : Nat)), some (.int (Kdn.sumTo m i : Nat)), some (.ref l), v5, v6] ∧ i ≤ n ∧ Same H H' ∧ H' l = some (.lst xs) ∧ DpAll K (hid l (nw H H')) xs ((stand m i).map prD))
      ⟨none, none, [], by rw [upTo_zero h1, sumTo_zero h1]; rfl, Nat.zero_le _, Same.new hl, upd_same, .nil⟩ ?_ ?_
    · rintro i σ H' hi ⟨v5, v6, xs, rfl, _, sm, hx, hd⟩
      have hm' := sm.seq hm
      obtain ⟨len, _⟩ := dpAll_at hd
      rw [List.length_map, stand_len] at len
      have c1 : (1 : Int) + (i : Int) = ((i + 1 : Nat) : Int) := by omega
      refine ⟨_, rfl, .inl ⟨rfl, _, hm'⟩, _, rfl, a, zs m, _, rfl, rfl, hm', ?_⟩
      rw [c1, count_zs]
      have hc : m.count (i + 1) ≤ Kdn.upTo m (i + 1) := by rw [upTo_succ]; omega
      refine ⟨_, rfl, _, rfl, _, _, rfl, rfl, _, rfl, _, rfl, _, rfl, _, _, rfl, rfl, .inr ⟨by omega, by omega⟩, _, _, rfl, rfl, _, rfl, .inl ⟨rfl, _, SqL.of hx⟩, _, rfl, _, rfl, _, rfl, (by show 2 ≤ sizeLine; decide), fun t ht => ?_⟩
      have hlt : l ≠ t := ne_of_none hx ht
      refine ⟨l, xs, _, rfl, rfl, by rw [upd_ne hlt]; exact hx, small1000 (by omega), ?_⟩
      have e1 : (Kdn.upTo m i : Int) + (m.count (i + 1) : Int) = (Kdn.upTo m (i + 1) : Nat) := by rw [upTo_succ]; omega
      have e2 : (Kdn.sumTo m i : Int) + (m.count (i + 1) : Int) * ((i + 1 : Nat) : Int) = (Kdn.sumTo m (i + 1) : Nat) := by
        rw [sumTo_succ]
        push_cast
        rfl
      have htH : H t = Option.none := sm.free ht
      have sm2 : Same H (upd (upd H' t (.tup [.int (-(Kdn.upTo m (i + 1) : Nat)), .int (Kdn.sumTo m (i + 1) : Nat)])) l (.lst (xs ++ [.ref t]))) := (sm.put htH).put hl
      dsimp only
      rw [e1, e2]
      refine ⟨_, _, xs ++ [.ref t], rfl, by omega, sm2, upd_same, ?_⟩
      rw [stand_succ, List.map_append, nw_upd hl, nw_upd htH, hid_upd, hid_upd_ne (Ne.symm hlt)]
      exact DpAll.snoc (DpAll.mono (Same.new (hid_new (nw_new ht))) _ _ hd) (pr_dp (SqT.of upd_same))
    · rintro σ H' ⟨v5, v6, xs, rfl, _, sm, hx, hd⟩
      exact ⟨_, rfl, k H' l sm (.lst (SqL.of ((nw_at hl).trans hx)) (DpAll.mono hid_same _ _ hd))⟩
end
end Dn
end
section
set_option Elab.async false
set_option linter.all false
set_option maxRecDepth 100000
set_option maxHeartbeats 2000000
namespace Dn
open PySem PySem.Spec PyProof.Rows L2
theorem lead_eq {ts : List Tab} {c : Nat} {ws : List Nat} {tb : Tab} {n : Nat} (hn : ∀ k ∈ ws, ((ts.getD k []).drop (c - 1)).length = n) (hb : tb ∈ ws.map fun k => (ts.getD k []).drop (c - 1)) (hm : ∀ u ∈ ws.map (fun k => (ts.getD k []).drop (c - 1)), tlt u tb = false) :
    (ws.filter fun k => decide ((ts.getD k []).drop (c - 1) = tb)) = lead ts c ws := by
  unfold lead
  apply List.filter_congr
  intro k hk
  obtain ⟨j, hj, rfl⟩ := List.mem_map.mp hb
  by_cases e : (ts.getD k []).drop (c - 1) = (ts.getD j []).drop (c - 1)
  · rw [decide_eq_true e, e]
    symm
    rw [List.all_eq_true]
    intro i hi
    rw [hm _ (List.mem_map.mpr ⟨i, hi, rfl⟩)]
    rfl
  · rw [decide_eq_false e]
    symm
    rcases tlt_total ((hn k hk).trans (hn j hj).symm) e with q | q
    · rw [hm _ (List.mem_map.mpr ⟨k, hk, rfl⟩)] at q
      cases q
    · rw [List.all_eq_false]
      exact ⟨j, hj, by rw [q]; simp⟩
section
variable {P : Program} {w : World} {K : PySem.W.Frag} {mg : Str → Option Value} {base : Heap}
/-! ### couple_table -/
def spCtab (K : PySem.W.Frag) : Sp := fun vs H Q _ => ∃ (v : V) (rs : List (List Nat)) (k n : Nat), vs = [v, .int (k : Int), .int (n : Int)] ∧ Dp K H v (rowsD rs) ∧ (∀ r ∈ rs, k < r.length ∧ ∀ x ∈ r, 1 ≤ x) ∧ rs.length ≤ 1000 ∧ n ≤ 1000 ∧
  ∀ (H' : Hp) (p : Addr), Same H H' → Dp K (nw H H') (.ref p) (tabD (stand (Kdn.marksOf rs k) n)) → Q (.ref p) H'
theorem scCtab : FnScope ["rows", "couple", "couples", "row"] ["rows", "couple", "couples"] (defScope sCtab) := ⟨rfl, rfl, rfl, by decide +kernel, rfl, by decide +kernel, by decide +kernel⟩
theorem marks_take {rs : List (List Nat)} {i k x : Nat} {r : List Nat} (h : rs[i]? = some r) (hx : r[k]? = some x) : Kdn.marksOf (rs.take (i + 1)) k = Kdn.marksOf (rs.take i) k ++ [x] := by
  unfold Kdn.marksOf
  rw [take_snoc h, List.map_append]
  congr 1
  show [r.getD k 0] = [x]
  rw [List.getD_eq_getElem?_getD, hx]
  rfl
theorem ok_ctab {f fS : Addr} {fd fdS : FuncData} (F : Fun K "couple_table" "couple_table" sCtab f fd) (FS : Fun K "standings" "standings" sStand fS fdS) (bS : Binds K fdS ["marks", "couples"] []) (mS : mg "standings" = some (.ref fS)) (B : Blt mg) :
    FnOk P w K mg base CX0 2 f fd ["rows", "couple", "couples"] (spCtab K) := by
  have GS : FnOk P w K mg base CX0 1 fS fdS ["marks", "couples"] (spStand K) := ok_stand FS B
  refine F.ok scCtab (fun vs H Q E h => ?_) (fun cdv A outer s H vs Q E hr h => ?_)
  · obtain ⟨v, rs, k, n, rfl, _⟩ := h
    rfl
  · obtain ⟨v, rs, k, n, rfl, hd, hk, hl, hn, kk⟩ := h
    refine ⟨_, pss_one (ps_ret (pe_call GS hr rfl mS FS.kp bS .nil pass0 (pa_cons (pe_lc (own := [("row", 3)]) rfl scCtab.nd (pi_list (pv 0)) (blkOk_by (N := ["rows", "couple", "couples", "row"]) (sc := defScope sCtab) (by decide +kernel)) (fun _ _ _ _ _ => pg_name (i := 3) scCtab.nd rfl (Or.inl rfl)) (fun _ _ _ _ _ => pts_nil)
      (fun _ _ _ _ _ => pe_ix (r := rIxL K) ix_list (pv 3) (pv 1) (fun _ _ => rfl))) (pa_cons (pv 2) pa_nil)))), ?_⟩
    obtain ⟨a, xs, rfl, hs, _, hlen, g⟩ := dp_list hd
    refine ⟨_, rfl, a, rfl, ⟨_, hs⟩, fun D hD => ?_⟩
    refine lc_list (K := K) (a := a) (xs := xs) (fun i H' => Same H H' ∧ H' D = some (.lst (zV (Kdn.marksOf (rs.take i) k)))) ⟨Same.new hD, upd_same⟩ (fun i H' _ ⟨sm, _⟩ => sm.seq hs) ?_ ?_
    · rintro i x H' hi ⟨sm, hx⟩
      have hi1 : i < xs.length := (List.getElem?_eq_some_iff.mp hi).1
      have hi2 : i < rs.length := by omega
      obtain ⟨x', e', dx⟩ := g i rs[i] (List.getElem?_eq_getElem hi2)
      rw [hi] at e'
      cases e'
      obtain ⟨b, rfl, hb⟩ := dp_row dx
      obtain ⟨hkr, _⟩ := hk rs[i] (List.getElem_mem hi2)
      refine ⟨rfl, yes_if ?_⟩
      refine ⟨_, rfl, _, rfl, b, _, _, _, rfl, rfl, sm.seq hb, atI_nat (zV_at (List.getElem?_eq_getElem hkr)), _, hx, ?_, (sm.put hD), ?_⟩
      · rw [zV_len]
        unfold Kdn.marksOf
        rw [List.length_map, List.length_take]
        exact small1000 (by omega)
      · rw [upd_same, zV_snoc, marks_take (List.getElem?_eq_getElem hi2) (List.getElem?_eq_getElem hkr)]
    · rintro H' ⟨sm, hx⟩
      rw [hlen, List.take_length] at hx
      refine ⟨_, rfl, D, _, n, rfl, SqL.of hx, fun x hxm => ?_, hn, fun H2 p s2 dp => kk H2 p (sm.trans s2) (Dp.mono (nw_mono sm) _ _ dp)⟩
      unfold Kdn.marksOf at hxm
      obtain ⟨r, hr', rfl⟩ := List.mem_map.mp hxm
      obtain ⟨q1, q2⟩ := hk r hr'
      rw [List.getD_eq_getElem?_getD, List.getElem?_eq_getElem q1]
      exact q2 _ (List.getElem_mem q1)
/-! ### leaders -/
def spLead (K : PySem.W.Frag) : Sp := fun vs H Q _ => ∃ (v : V) (b : Addr) (ts : List Tab) (ws : List Nat) (c n : Nat), vs = [v, .ref b, .int (c : Int)] ∧ Dp K H v (tabsD ts) ∧ SqL K H b (zV ws) ∧ ws ≠ [] ∧ (∀ k ∈ ws, k < ts.length) ∧ (∀ t ∈ ts, t.length = n) ∧ 1 ≤ c ∧ c ≤ n ∧ n ≤ 1000 ∧ ws.length ≤ 1000 ∧
  ∀ (H' : Hp) (p : Addr), Same H H' → H p = Option.none → H' p = some (.lst (zV (lead ts c ws))) → Q (.ref p) H'
theorem scLead : FnScope ["tables", "waiting", "column", "best", "couple"] ["tables", "waiting", "column"] (defScope sLead) := ⟨rfl, rfl, rfl, by decide +kernel, rfl, by decide +kernel, by decide +kernel⟩
theorem ok_lead {f : Addr} {fd : FuncData} (F : Fun K "leaders" "leaders" sLead f fd) (B : Blt mg) : FnOk P w K mg base CX0 1 f fd ["tables", "waiting", "column"] (spLead K) := by
  refine F.ok scLead (fun vs H Q E h => ?_) (fun cdv A outer s H vs Q E hr h => ?_)
  · obtain ⟨v, b, ts, ws, c, n, rfl, _⟩ := h
    rfl
  · obtain ⟨v, b, ts, ws, c, n, rfl, hd, hb, hne, hk, hn, hc1, hc2, hn2, hw, kk⟩ := h
    refine ⟨_, pss_cons (ps_set (i := 3) scLead.nd rfl (Or.inr rfl) (pe_callB (cr_minT rfl hr.u80) rfl B.mn PyProof.Rows.boot_min (pa_cons (pe_lc (own := [("couple", 4)]) rfl scLead.nd (pi_list (pv 1)) (blkOk_by (N := ["tables", "waiting", "column", "best", "couple"]) (sc := defScope sLead) (by decide +kernel)) (fun _ _ _ _ _ => pg_name (i := 4) scLead.nd rfl (Or.inl rfl)) (fun _ _ _ _ _ => pts_nil)
        (fun _ _ _ _ _ => pe_slice (r := rSlL K) sl_list (pe_ix (r := rIxL K) ix_list (pv 0) (pv 4) (fun _ _ => rfl)) (po_some (pe_op op_sub (pv 2) pe_int)) po_none)) pa_nil)))
      (pss_one (ps_ret (pe_lc (own := [("couple", 4)]) rfl scLead.nd (pi_list (pv 1)) (blkOk_by (N := ["tables", "waiting", "column", "best", "couple"]) (sc := defScope sLead) (by decide +kernel)) (fun _ _ _ _ _ => pg_name (i := 4) scLead.nd rfl (Or.inl rfl))
        (fun _ _ _ _ _ => pts_one (pt_cmpR (r := rEqD K) (op_eqD hr.units) (pe_slice (r := rSlL K) sl_list (pe_ix (r := rIxL K) ix_list (pv 0) (pv 4) (fun _ _ => rfl)) (po_some (pe_op op_sub (pv 2) pe_int)) po_none) (pv 3) (nomark _))) (fun _ _ _ _ _ => pv 4)))), ?_⟩
    obtain ⟨a, xs, rfl, hs, _, hlen, g⟩ := dp_list hd
    have cz : (c : Int) - 1 = ((c - 1 : Nat) : Int) := by omega
    -- the table of the couple k, from the column on
    have tb : ∀ k, k < ts.length → ts[k]? = some (ts.getD k []) ∧ (ts.getD k []).length = n := fun k hk => by
      rw [List.getD_eq_getElem?_getD, List.getElem?_eq_getElem hk]
      exact ⟨rfl, hn _ (List.getElem_mem hk)⟩
    have cut : ∀ {H' : Hp} {k : Nat} {t : Tab}, Same H H' → ts[k]? = some t → t.length = n → ∃ y ys, xs[k]? = some (.ref y) ∧ SqL K H' y ys ∧ cutV ys (some ((c : Int) - 1)) Option.none = ys.drop (c - 1) ∧ DpAll K H' (ys.drop (c - 1)) ((t.drop (c - 1)).map prD) := fun {H' k t} sm e l => by
      obtain ⟨y, ey, dy⟩ := g k t e
      obtain ⟨y1, ys, rfl, hy, dys, ly, _⟩ := dp_list (Dp.mono sm _ _ dy)
      refine ⟨y1, ys, ey, hy, by rw [cz]; exact cutV_from ys (by omega), ?_⟩
      rw [List.map_drop]
      exact DpAll.drop _ dys
    refine ⟨_, rfl, b, rfl, ⟨_, hb⟩, fun D hD => ?_⟩
    refine lc_list (K := K) (a := b) (xs := zV ws) (fun i H' => Same H H' ∧ ∃ ys, H' D = some (.lst ys) ∧ DpAll K (hid D H') ys (((ws.take i).map fun k => (ts.getD k []).drop (c - 1)).map tabD)) ⟨Same.new hD, [], upd_same, .nil⟩ (fun i H' _ ⟨sm, _⟩ => sm.seq hb) ?_ ?_
    · rintro i x H' hi ⟨sm, acc, hx, hda⟩
      obtain ⟨k, ek, rfl⟩ := zV_of hi
      have hkt : k < ts.length := hk k (List.mem_of_getElem? ek)
      obtain ⟨e1, e2⟩ := tb k hkt
      obtain ⟨y, ys, ey, hy, ec, dys⟩ := cut (same_hid sm hD) e1 e2
      have hy' : SqL K H' y ys := hid_same.seq hy
      refine ⟨rfl, yes_if ?_⟩
      refine ⟨_, rfl, _, rfl, a, _, _, _, rfl, rfl, sm.seq hs, atI_nat ey, _, rfl, _, _, rfl, rfl, _, rfl, y, ys, rfl, hy', fun p hp => ?_⟩
      have pD : p ≠ D := fun z => by rw [z, hx] at hp; cases hp
      obtain ⟨l1, _⟩ := dpAll_at hda
      rw [List.length_map, List.length_map, List.length_take] at l1
      refine ⟨acc, by rw [upd_ne (Ne.symm pD)]; exact hx, small1000 (by omega), (sm.put (sm.free hp)).put hD, _, upd_same, ?_⟩
      rw [hid_upd, hid_upd_ne pD, take_snoc ek, List.map_append, List.map_append, ec]
      have s1 : Same (hid D H') (upd (hid D H') p (.lst (ys.drop (c - 1)))) := Same.new (hid_new hp)
      exact DpAll.snoc (DpAll.mono s1 _ _ hda) (.lst (SqL.of upd_same) (DpAll.mono s1 _ _ dys))
    · rintro H1 ⟨sm, acc, hx, hda⟩
      rw [zV_len, List.take_length] at hda
      have hda' := DpAll.mono hid_same _ _ hda
      have wl : 0 < ws.length := List.length_pos_iff.mpr hne
      have ln : ∀ k ∈ ws, ((ts.getD k []).drop (c - 1)).length = n - (c - 1) := fun k hkm => by
        rw [List.length_drop, (tb k (hk k hkm)).2]
      refine ⟨D, acc, (ws.map fun k => (ts.getD k []).drop (c - 1)), n - (c - 1), rfl, SqL.of hx, hda', by rw [List.length_map]; exact wl, fun t ht => ?_, fun x t dt ht hmin => ?_⟩
      · obtain ⟨k, hkm, rfl⟩ := List.mem_map.mp ht
        exact ln k hkm
      · -- return [couple for couple in waiting if .. == best]
        refine ⟨_, rfl, b, rfl, ⟨_, sm.seq hb⟩, fun D2 hD2 => ?_⟩
        have hD2H : H D2 = Option.none := sm.free hD2
        refine lc_list (K := K) (a := b) (xs := zV ws) (fun i H' => Same H1 H' ∧ H' D2 = some (.lst (zV ((ws.take i).filter fun k => decide ((ts.getD k []).drop (c - 1) = t))))) ⟨Same.new hD2, upd_same⟩ (fun i H' _ ⟨s2, _⟩ => (sm.trans s2).seq hb) ?_ ?_
        · rintro i x2 H' hi ⟨s2, hx2⟩
          obtain ⟨k, ek, rfl⟩ := zV_of hi
          have hkt : k < ts.length := hk k (List.mem_of_getElem? ek)
          obtain ⟨e1, e2⟩ := tb k hkt
          obtain ⟨y, ys, ey, hy, ec, dys⟩ := cut (sm.trans s2) e1 e2
          refine ⟨rfl, ?_⟩
          refine ⟨_, rfl, _, rfl, a, _, _, _, rfl, rfl, (sm.trans s2).seq hs, atI_nat ey, _, rfl, _, _, rfl, rfl, _, rfl, y, ys, rfl, hy, fun p hp => ?_⟩
          have pD : p ≠ D2 := fun z => by rw [z, hx2] at hp; cases hp
          rw [ec]
          have s3 : Same H' (upd H' p (.lst (ys.drop (c - 1)))) := Same.new hp
          refine ⟨_, rfl, tabD ((ts.getD k []).drop (c - 1)), tabD t, .lst (SqL.of upd_same) (DpAll.mono s3 _ _ dys), Dp.mono (s2.trans s3) _ _ dt, tabD_shaped _, tabD_shaped _, _, rfl, ?_⟩
          dsimp only
          rw [tabD_eqv]
          refine ite2 (fun q => ?_) (fun q => ?_)
          all_goals have f := filter_snoc (fun k => decide ((ts.getD k []).drop (c - 1) = t)) ek
          · rw [if_pos q] at f
            refine ⟨_, rfl, _, by rw [upd_ne (Ne.symm pD)]; exact hx2, ?_, (s2.trans s3).put hD2, ?_⟩
            · rw [zV_len]
              have := List.length_filter_le (fun k => decide ((ts.getD k []).drop (c - 1) = t)) (ws.take i)
              rw [List.length_take] at this
              exact small1000 (by omega)
            · rw [upd_same, zV_snoc, f]
          · rw [if_neg q] at f
            exact ⟨s2.trans s3, by rw [upd_ne (Ne.symm pD), f]; exact hx2⟩
        · rintro H' ⟨s2, hx2⟩
          rw [zV_len, List.take_length, lead_eq ln ht hmin] at hx2
          exact kk H' D2 (sm.trans s2) hD2H hx2
end
end Dn
end
section
set_option Elab.async false
set_option linter.all false
set_option maxRecDepth 100000
set_option maxHeartbeats 2000000
/-! ### a dance: places given out group by group -/
namespace Dn
/-- those without a place -/
def opn (P : List Nat) : List Nat := (List.range P.length).filter fun k => P.getD k 0 == 0
theorem mem_opn {P : List Nat} {k : Nat} : k ∈ opn P ↔ k < P.length ∧ P.getD k 0 = 0 := by
  unfold opn
  rw [List.mem_filter, List.mem_range, beq_iff_eq]
def setAll (P : List Nat) (v : Nat) (g : List Nat) : List Nat := g.foldl (fun Q k => Q.set k v) P
theorem setAll_snoc (P : List Nat) (v : Nat) (g : List Nat) (k : Nat) : setAll P v (g ++ [k]) = (setAll P v g).set k v := by
  unfold setAll
  rw [List.foldl_append]
  rfl
theorem setAll_len (v : Nat) : ∀ (g P : List Nat), (setAll P v g).length = P.length
  | [], P => rfl
  | k :: g, P => by
    show (setAll (P.set k v) v g).length = _
    rw [setAll_len v g, List.length_set]
theorem setAll_at (v : Nat) : ∀ (g P : List Nat) (k : Nat), k < P.length → (setAll P v g).getD k 0 = if k ∈ g then v else P.getD k 0
  | [], P, k, h => by simp [setAll]
  | j :: g, P, k, h => by
    show (setAll (P.set j v) v g).getD k 0 = _
    rw [setAll_at v g _ k (by rw [List.length_set]; exact h)]
    by_cases hg : k ∈ g
    · rw [if_pos hg, if_pos (List.mem_cons_of_mem _ hg)]
    · rw [if_neg hg]
      by_cases hj : k = j
      · subst hj
        rw [if_pos (List.mem_cons_self ..), List.getD_eq_getElem?_getD, List.getElem?_set_self h]
        rfl
      · rw [if_neg (by simp [hj, hg]), List.getD_eq_getElem?_getD, List.getElem?_set_ne (fun z => hj z.symm), List.getD_eq_getElem?_getD]
theorem opn_set {P : List Nat} {v : Nat} (hv : v ≠ 0) (g : List Nat) : opn (setAll P v g) = (opn P).filter fun k => !(g.contains k) := by
  unfold opn
  rw [setAll_len, List.filter_filter]
  apply List.filter_congr
  intro k hk
  rw [setAll_at v g P k (List.mem_range.mp hk)]
  by_cases h : k ∈ g
  · rw [if_pos h]
    have : g.contains k = true := List.contains_iff_mem.mpr h
    rw [this]
    simp [hv]
  · rw [if_neg h]
    have : g.contains k = false := Bool.eq_false_iff.mpr fun z => h (List.contains_iff_mem.mp z)
    rw [this]
    simp
theorem place_app (l1 l2 : List (Nat × Nat)) (k : Nat) (h : ∀ x ∈ l1, x.1 ≠ k) : Kdn.place (l1 ++ l2) k = Kdn.place l2 k := by
  unfold Kdn.place
  rw [List.find?_append]
  have : l1.find? (fun x => x.1 == k) = none := by
    rw [List.find?_eq_none]
    intro x hx
    simp [h x hx]
  rw [this]
  rfl
theorem place_map (v : Nat) (l2 : List (Nat × Nat)) (k : Nat) : ∀ g : List Nat, k ∈ g → Kdn.place ((g.map fun j => (j, v)) ++ l2) k = v
  | [], h => nomatch h
  | j :: g, h => by
    by_cases e : j = k
    · subst e
      unfold Kdn.place
      rw [List.map_cons, List.cons_append, List.find?_cons_of_pos (by simp)]
      rfl
    · have hg : k ∈ g := by
        rcases List.mem_cons.mp h with z | z
        · exact absurd z.symm e
        · exact z
      have := place_map v l2 k g hg
      unfold Kdn.place at this ⊢
      rw [List.map_cons, List.cons_append, List.find?_cons_of_neg (by simp [e])]
      exact this
/-- the state of a dance: places, the next place, the column, the steps that are left -/
structure DJ (n need : Nat) (m : Nat → List Nat) (R : Nat → Nat) (P : List Nat) (p c f : Nat) : Prop where
  len : P.length = n
  pos : 1 ≤ p
  fuel : (opn P).length + (n + 1 - c) < f
  res : ∀ k, k < n → R k = if P.getD k 0 = 0 then Kdn.place (Kdn.shared p (Kdn.inOrder n need m f c (opn P))) k else P.getD k 0
theorem DJ.begin (n need : Nat) (m : Nat → List Nat) : DJ n need m (fun k => Kdn.place (Kdn.shared 1 (Kdn.inOrder n need m (2 * n + 1) 1 (List.range n))) k) (List.replicate n 0) 1 1 (2 * n + 1) := by
  have z : ∀ k, (List.replicate n 0).getD k 0 = 0 := fun k => by
    rw [List.getD_eq_getElem?_getD]
    cases e : (List.replicate n 0)[k]? with
    | none => rfl
    | some x =>
      have := List.mem_of_getElem? e
      exact (List.mem_replicate.mp this).2
  have eo : opn (List.replicate n 0) = List.range n := by
    unfold opn
    rw [List.length_replicate, List.filter_eq_self]
    intro k _
    rw [z k]
    rfl
  refine ⟨List.length_replicate .., Nat.le_refl _, ?_, fun k hk => ?_⟩
  · rw [eo, List.length_range]; omega
  · rw [if_pos (z k), eo]
theorem DJ.next {n need : Nat} {m : Nat → List Nat} {R : Nat → Nat} {P : List Nat} {p c f : Nat} (J : DJ n need m R P p c f) (hc : c ≤ n) (no : ∀ k ∈ opn P, ¬ need ≤ Kdn.upTo (m k) c) : DJ n need m R P p (c + 1) (f - 1) := by
  have hf := J.fuel
  obtain ⟨f', rfl⟩ : ∃ f', f = f' + 1 := ⟨f - 1, by omega⟩
  refine ⟨J.len, J.pos, by omega, fun k hk => ?_⟩
  rw [J.res k hk]
  by_cases e : P.getD k 0 = 0
  · rw [if_pos e, if_pos e]
    have ko : k ∈ opn P := mem_opn.mpr ⟨by rw [J.len]; exact hk, e⟩
    have en : Kdn.inOrder n need m (f' + 1) c (opn P) = Kdn.inOrder n need m f' (c + 1) (opn P) := by
      cases q : opn P with
      | nil => rw [q] at ko; cases ko
      | cons x l =>
        have hn : ((x :: l).filter fun k => decide (need ≤ Kdn.upTo (m k) c)) = [] := by
          rw [List.filter_eq_nil_iff]
          intro j hj
          rw [decide_eq_true_iff]
          exact no j (by rw [q]; exact hj)
        show (let has := (x :: l).filter fun k => decide (need ≤ Kdn.upTo (m k) c); if has.isEmpty then _ else _) = _
        rw [hn]
        rfl
    rw [en]
    rfl
  · rw [if_neg e, if_neg e]
theorem front_sub {n : Nat} {m : Nat → List Nat} {c : Nat} {l : List Nat} {k : Nat} (h : k ∈ Kdn.front n m c l) : k ∈ l := (List.mem_filter.mp h).1
theorem less_len {l g : List Nat} (hg : ∀ k ∈ g, k ∈ l) (hne : g ≠ []) : (l.filter fun k => !(g.contains k)).length < l.length := by
  obtain ⟨k, hk⟩ := List.exists_mem_of_ne_nil g hne
  rw [List.length_filter_lt_length_iff_exists]
  exact ⟨k, hg k hk, by rw [List.contains_iff_mem.mpr hk]; decide⟩
theorem DJ.give {n need : Nat} {m : Nat → List Nat} {R : Nat → Nat} {P : List Nat} {p c f : Nat} (J : DJ n need m R P p c f) {g has : List Nat} (hh : has = (opn P).filter fun k => decide (need ≤ Kdn.upTo (m k) c)) (hg : g = Kdn.front n m c has) (hne : g ≠ []) :
    DJ n need m R (setAll P (2 * p + (g.length - 1)) g) (p + g.length) c (f - 1) := by
  have hf := J.fuel
  have hp := J.pos
  obtain ⟨f', rfl⟩ : ∃ f', f = f' + 1 := ⟨f - 1, by omega⟩
  have sub : ∀ k ∈ g, k ∈ opn P := fun k hk => by
    rw [hg] at hk
    have := front_sub hk
    rw [hh] at this
    exact (List.mem_filter.mp this).1
  have hv : 2 * p + (g.length - 1) ≠ 0 := by omega
  have hlt := less_len sub hne
  have len : (setAll P (2 * p + (g.length - 1)) g).length = n := by rw [setAll_len]; exact J.len
  refine ⟨len, by omega, by rw [opn_set hv]; omega, fun k hk => ?_⟩
  have hkP : k < P.length := by rw [J.len]; exact hk
  rw [J.res k hk, setAll_at _ g P k hkP]
  by_cases e : P.getD k 0 = 0
  · have ko : k ∈ opn P := mem_opn.mpr ⟨hkP, e⟩
    have en : Kdn.inOrder n need m (f' + 1) c (opn P) = g :: Kdn.inOrder n need m f' c ((opn P).filter fun k => !(g.contains k)) := by
      cases q : opn P with
      | nil => rw [q] at ko; cases ko
      | cons x l =>
        have h2 : ((x :: l).filter fun k => decide (need ≤ Kdn.upTo (m k) c)) = has := by rw [hh, q]
        have h3 : has.isEmpty = false := by
          cases z : has with
          | nil =>
            rw [z] at hg
            exact absurd hg hne
          | cons y r => rfl
        show (let has := (x :: l).filter fun k => decide (need ≤ Kdn.upTo (m k) c); if has.isEmpty then _ else _) = _
        rw [h2]
        dsimp only
        rw [h3, if_neg Bool.false_ne_true, ← hg]
    rw [if_pos e, en]
    show Kdn.place ((g.map fun k => (k, 2 * p + (g.length - 1))) ++ Kdn.shared (p + g.length) _) k = _
    by_cases hk2 : k ∈ g
    · rw [place_map _ _ k g hk2, if_pos hk2, if_neg hv]
    · rw [place_app _ _ k (fun x hx => by
        obtain ⟨j, hj, rfl⟩ := List.mem_map.mp hx
        exact fun z => hk2 (by rw [← z]; exact hj)), if_neg hk2, if_pos e, opn_set hv]
      rfl
  · have hk2 : k ∉ g := fun z => e (mem_opn.mp (sub k z)).2
    rw [if_neg e, if_neg hk2, if_neg e]
theorem DJ.done {n need : Nat} {m : Nat → List Nat} {R : Nat → Nat} {P : List Nat} {p c f : Nat} (J : DJ n need m R P p c f) (no : opn P = []) : P = (List.range n).map R := by
  apply List.ext_getElem
  · rw [J.len, List.length_map, List.length_range]
  · intro k h1 h2
    have hk : k < n := by rw [← J.len]; exact h1
    rw [List.getElem_map, List.getElem_range, J.res k hk]
    have e : P.getD k 0 = P[k] := by rw [List.getD_eq_getElem?_getD, List.getElem?_eq_getElem h1]; rfl
    have ne : ¬ P.getD k 0 = 0 := fun z => by
      have : k ∈ opn P := mem_opn.mpr ⟨h1, z⟩
      rw [no] at this
      cases this
    rw [if_neg ne, e]
/-- some are foremost -/
theorem lead_ne {ts : List Tab} {c : Nat} {ws : List Nat} (h : ws ≠ []) : lead ts c ws ≠ [] := by
  have hl : 0 < ws.length := List.length_pos_iff.mpr h
  have b := best_le (fun i => (ts.getD (ws.getD i 0) []).drop (c - 1)) (ws.length - 1)
  generalize PySem.argBest _ (ws.length - 1) = k at b
  have hk : k < ws.length := by have := b.1; omega
  intro z
  have : ws.getD k 0 ∈ lead ts c ws := by
    unfold lead
    rw [List.mem_filter, List.all_eq_true]
    refine ⟨by rw [List.getD_eq_getElem?_getD, List.getElem?_eq_getElem hk]; exact List.getElem_mem hk, fun j hj => ?_⟩
    obtain ⟨i, hi, rfl⟩ := List.mem_iff_getElem.mp hj
    have := b.2 i (by omega)
    rw [show ws.getD i 0 = ws[i] by rw [List.getD_eq_getElem?_getD, List.getElem?_eq_getElem hi]; rfl] at this
    rw [this]
    rfl
  rw [z] at this
  cases this
/-- a majority, as the program asks -/
theorem maj_iff {m : List Nat} {n c q : Nat} (h : ∀ x ∈ m, x ≤ n) (hq : m.length = q) : decide (2 * (entry m c).1 < (entry m n).1) = decide (Kdn.majority q ≤ Kdn.upTo m c) := by
  have e : Kdn.upTo m n = q := by rw [upTo_all h, hq]
  unfold entry Kdn.majority
  rw [e]
  by_cases z : q / 2 + 1 ≤ Kdn.upTo m c
  · rw [decide_eq_true z]
    exact decide_eq_true (by simp only; omega)
  · rw [decide_eq_false z]
    exact decide_eq_false (by simp only; omega)
end Dn
end
section
set_option Elab.async false
set_option linter.all false
set_option maxRecDepth 100000
set_option maxHeartbeats 4000000
namespace L2
open PySem PySem.Spec PyProof.Rows Dn
theorem ixN_nat {n j : Nat} (h : j < n) : ixN n (j : Int) = some j := by
  unfold ixN
  rw [if_pos (by omega), if_pos (by omega)]
  simp
theorem zV_set (P : List Nat) (k v : Nat) : (zV P).set k (.int (v : Int)) = zV (P.set k v) := by
  unfold zV zs
  rw [List.map_set, List.map_set]
theorem rep_zero (n : Nat) : (List.replicate n [V.int 0]).flatten = zV (List.replicate n 0) := by
  unfold zV zs
  induction n with
  | zero => rfl
  | succ n ih =>
    rw [List.replicate_succ, List.flatten_cons, ih, List.replicate_succ]
    rfl
end L2
namespace Dn
open PySem PySem.Spec PyProof.Rows L2
abbrev nDpl : List Str := ["rows", "couples", "tables", "places", "place", "column", "unplaced", "waiting", "best", "couple"]
theorem scDpl : FnScope nDpl ["rows", "couples"] (defScope sDpl) := ⟨rfl, rfl, rfl, by decide +kernel, rfl, by decide +kernel, by decide +kernel⟩
def spDpl (K : PySem.W.Frag) : Sp := fun vs H Q _ => ∃ (v : V) (rs : List (List Nat)) (n : Nat), vs = [v, .int (n : Int)] ∧ Dp K H v (rowsD rs) ∧ (∀ r ∈ rs, r.length = n ∧ ∀ x ∈ r, 1 ≤ x ∧ x ≤ n) ∧ 0 < rs.length ∧ rs.length ≤ 1000 ∧ n ≤ 1000 ∧
  ∀ (H' : Hp) (p : Addr), Same H H' → H p = Option.none → H' p = some (.lst (zV (Kdn.danceOf n rs))) → Q (.ref p) H'
theorem wait_next {P g : List Nat} {v : Nat} {q : Nat → Bool} (hv : v ≠ 0) : ((opn P).filter q).filter (fun k => (setAll P v g).getD k 0 == 0) = (opn (setAll P v g)).filter q := by
  rw [opn_set hv, List.filter_filter, List.filter_filter]
  apply List.filter_congr
  intro k hk
  rw [setAll_at v g P k (mem_opn.mp hk).1]
  by_cases h : k ∈ g
  · rw [if_pos h, List.contains_iff_mem.mpr h]
    simp [hv]
  · have hc : g.contains k = false := Bool.eq_false_iff.mpr fun z => h (List.contains_iff_mem.mp z)
    rw [if_neg h, hc, (mem_opn.mp hk).2]
    simp
theorem opn_take (P : List Nat) (j : Nat) (h : j = P.length) : ((List.range j).filter fun k => P.getD k 0 == 0) = opn P := by rw [h]; rfl
theorem range_take {n i : Nat} (h : i ≤ n) : (List.range n).take i = List.range i := by
  rw [List.take_range, Nat.min_eq_left h]
section
variable {P : Program} {w : World} {K : PySem.W.Frag} {mg : Str → Option Value} {base : Heap}
theorem ok_dpl {f fC fS fH fL fM : Addr} {fd fdC fdS fdH fdL fdM : FuncData} (F : Fun K "dance_places" "dance_places" sDpl f fd)
    (FS : Fun K "standings" "standings" sStand fS fdS) (bS : Binds K fdS ["marks", "couples"] []) (mS : mg "standings" = some (.ref fS))
    (FC : Fun K "couple_table" "couple_table" sCtab fC fdC) (bC : Binds K fdC ["rows", "couple", "couples"] []) (mC : mg "couple_table" = some (.ref fC))
    (FH : Fun K "has_majority" "has_majority" sHas fH fdH) (bH : Binds K fdH ["table", "column"] []) (mH : mg "has_majority" = some (.ref fH))
    (FL : Fun K "leaders" "leaders" sLead fL fdL) (bL : Binds K fdL ["tables", "waiting", "column"] []) (mL : mg "leaders" = some (.ref fL))
    (FM : Fun K "middle_place" "middle_place" sMid fM fdM) (bM : Binds K fdM ["place", "sharing"] []) (mM : mg "middle_place" = some (.ref fM))
    (B : Blt mg) : FnOk P w K mg base CX0 3 f fd ["rows", "couples"] (spDpl K) := by
  have GC : FnOk P w K mg base CX0 2 fC fdC ["rows", "couple", "couples"] (spCtab K) := ok_ctab FC FS bS mS B
  have GH : FnOk P w K mg base CX0 1 fH fdH ["table", "column"] (spHas K) := ok_has FH
  have GL : FnOk P w K mg base CX0 1 fL fdL ["tables", "waiting", "column"] (spLead K) := ok_lead FL B
  have GM : FnOk P w K mg base CX0 1 fM fdM ["place", "sharing"] spMid := ok_mid FM
  refine F.ok scDpl (fun vs H Q E h => ?_) (fun cdv A outer s H vs Q E hr h => ?_)
  · obtain ⟨v, rs, n, rfl, _⟩ := h
    rfl
  · obtain ⟨v, rs, n, rfl, hd, hrs, hr0, hr1, hn, kk⟩ := h
    have r1 : Room 1 _ := hr.mono (by decide)
    refine ⟨_, pss_cons (ps_set (i := 2) scDpl.nd rfl (Or.inr rfl) (pe_lc (own := [("couple", 9)]) rfl scDpl.nd (pi_range1 rfl B.range (pa_cons (pv 1) pa_nil)) (blkOk_by (N := nDpl) (sc := defScope sDpl) (by decide +kernel)) (fun _ _ _ _ _ => pg_name (i := 9) scDpl.nd rfl (Or.inl rfl)) (fun _ _ _ _ _ => pts_nil)
        (fun _ _ _ _ _ => pe_call GC hr rfl mC FC.kp bC .nil pass0 (pa_cons (pv 0) (pa_cons (pv 9) (pa_cons (pv 1) pa_nil))))))
      (pss_cons (ps_set (i := 3) scDpl.nd rfl (Or.inr rfl) (pe_op op_rep (pe_lst (pa_cons pe_int pa_nil)) (pv 1)))
      (pss_cons (ps_set (i := 4) scDpl.nd rfl (Or.inl rfl) pe_int)
      (pss_cons (ps_for PassesOwn.never rfl (pi_range2 rfl B.range (pa_cons pe_int (pa_cons (pe_op op_add (pv 1) pe_int) pa_nil))) (pg_name (i := 5) scDpl.nd rfl (Or.inr rfl))
        (pss_cons (ps_setLc (i := 6) (own := [("couple", 9)]) rfl scDpl.nd rfl rfl (sw_true rfl rfl rfl rfl) (pi_range1 rfl B.range (pa_cons (pv 1) pa_nil)) (blkOk_by (N := nDpl) (sc := defScope sDpl) (by decide +kernel)) (fun _ _ _ _ _ => pg_name (i := 9) scDpl.nd rfl (Or.inl rfl))
          (fun _ _ _ _ _ => pts_one (pt_cmpR op_eq (pe_ix (r := rIxL K) ix_list (pv 3) (pv 9) (fun _ _ => rfl)) pe_int (nomark _))) (fun _ _ _ _ _ => pv 9))
        (pss_cons (ps_setLc (i := 7) (own := [("couple", 9)]) rfl scDpl.nd rfl rfl (sw_true rfl rfl rfl rfl) (pi_list (pv 6)) (blkOk_by (N := nDpl) (sc := defScope sDpl) (by decide +kernel)) (fun _ _ _ _ _ => pg_name (i := 9) scDpl.nd rfl (Or.inl rfl))
          (fun _ _ _ _ _ => pts_one (pt_val (pe_call GH r1 rfl mH FH.kp bH .nil pass0 (pa_cons (pe_ix (r := rIxL K) ix_list (pv 2) (pv 9) (fun _ _ => rfl)) (pa_cons (pv 5) pa_nil))))) (fun _ _ _ _ _ => pv 9))
        (pss_one (ps_while PassesOwn.never (pt_cmpR op_gt (pe_callB call_len_seq rfl B.len PySem.boot_len (pa_cons (pv 7) pa_nil)) pe_int (nomark _))
          (pss_cons (ps_set (i := 8) scDpl.nd rfl (Or.inl rfl) (pe_call GL r1 rfl mL FL.kp bL .nil pass0 (pa_cons (pv 2) (pa_cons (pv 7) (pa_cons (pv 5) pa_nil)))))
          (pss_cons (ps_for PassesOwn.never rfl (pi_list (pv 8)) (pg_name (i := 9) scDpl.nd rfl (Or.inl rfl))
            (pss_one (ps_asg (pe_call GM r1 rfl mM FM.kp bM .nil pass0 (pa_cons (pv 4) (pa_cons (pe_callB call_len_seq rfl B.len PySem.boot_len (pa_cons (pv 8) pa_nil)) pa_nil))) (pg_sub (pv 3) (pv 9) set_list))))
          (pss_cons (ps_aug (i := 4) scDpl.nd rfl (Or.inl rfl) (pe_callB call_len_seq rfl B.len PySem.boot_len (pa_cons (pv 8) pa_nil)) ip_add)
          (pss_one (ps_setLc (i := 7) (own := [("couple", 9)]) rfl scDpl.nd rfl rfl (sw_true rfl rfl rfl rfl) (pi_list (pv 7)) (blkOk_by (N := nDpl) (sc := defScope sDpl) (by decide +kernel)) (fun _ _ _ _ _ => pg_name (i := 9) scDpl.nd rfl (Or.inl rfl))
            (fun _ _ _ _ _ => pts_one (pt_cmpR op_eq (pe_ix (r := rIxL K) ix_list (pv 3) (pv 9) (fun _ _ => rfl)) pe_int (nomark _))) (fun _ _ _ _ _ => pv 9)))))))))))
      (pss_one (ps_ret (pv 3)))))), ?_⟩
    -- what is meant: marks, tables, the majority, the places at the end
    have mlen : ∀ k, (Kdn.marksOf rs k).length = rs.length := fun k => by unfold Kdn.marksOf; exact List.length_map ..
    have mup : ∀ k, k < n → ∀ x ∈ Kdn.marksOf rs k, x ≤ n := fun k hk x hx => by
      unfold Kdn.marksOf at hx
      obtain ⟨r, hr', rfl⟩ := List.mem_map.mp hx
      obtain ⟨q1, q2⟩ := hrs r hr'
      have hk' : k < r.length := by omega
      rw [List.getD_eq_getElem?_getD, List.getElem?_eq_getElem hk']
      exact (q2 _ (List.getElem_mem hk')).2
    generalize hts : (List.range n).map (fun k => stand (Kdn.marksOf rs k) n) = ts
    have tsl : ts.length = n := by rw [← hts, List.length_map, List.length_range]
    have tsa : ∀ k, k < n → ts[k]? = some (stand (Kdn.marksOf rs k) n) := fun k hk => by
      rw [← hts, List.getElem?_map, List.getElem?_range hk]
      rfl
    have tsd : ∀ k, k < n → ts.getD k [] = stand (Kdn.marksOf rs k) n := fun k hk => by
      rw [List.getD_eq_getElem?_getD, tsa k hk]
      rfl
    have tsm : ∀ t ∈ ts, t.length = n := fun t ht => by
      rw [← hts] at ht
      obtain ⟨k, _, rfl⟩ := List.mem_map.mp ht
      exact stand_len _ _
    -- tables = [couple_table(rows, couple, couples) for couple in range(couples)]
    refine ⟨_, rfl, (n : Int), rfl, by omega, by omega, fun D hD => ?_⟩
    have en0 : ((n : Int)).toNat = n := by omega
    rw [en0]
    refine lc_range (n := n) (fun i H' => i ≤ n ∧ Same H H' ∧ ∃ xs, H' D = some (.lst xs) ∧ DpAll K (hid D H') xs ((ts.take i).map tabD)) ⟨Nat.zero_le _, Same.new hD, [], upd_same, .nil⟩ ?_ ?_
    · rintro i H' hi ⟨_, sm, xs, hx, hda⟩
      refine ⟨rfl, yes_if ?_⟩
      refine ⟨_, rfl, _, rfl, _, rfl, v, rs, i, n, by rw [Int.zero_add]; rfl, Dp.mono sm _ _ hd, fun r hr' => ⟨by rw [(hrs r hr').1]; exact hi, fun x hx' => ((hrs r hr').2 x hx').1⟩, hr1, hn, fun H2 p s2 dp => ?_⟩
      obtain ⟨l1, _⟩ := dpAll_at hda
      rw [List.length_map, List.length_take] at l1
      refine ⟨xs, s2 _ _ hx, small1000 (by omega), hi, (sm.trans s2).put hD, _, upd_same, ?_⟩
      rw [hid_upd, take_snoc (tsa i hi), List.map_append]
      refine DpAll.snoc (DpAll.mono (fun b o e => ?_) _ _ hda) (Dp.mono (nw_hid hx) _ _ dp)
      have nb : b ≠ D := fun z => by rw [z, hid_at] at e; cases e
      rw [hid_ne nb] at e ⊢
      exact s2 b o e
    · rintro H1 ⟨_, sm1, xs1, hx1, hda1⟩
      rw [List.take_of_length_le (by omega)] at hda1
      have hT : Dp K H1 (.ref D) (tabsD ts) := .lst (SqL.of hx1) (DpAll.mono hid_same _ _ hda1)
      -- places = [0] * couples; place = 1
      refine ⟨(by show 1 ≤ sizeLine; decide), fun q0 hq0 => ?_⟩
      refine ⟨_, rfl, q0, (n : Int), _, rfl, rfl, upd_same, by omega, by omega, ?_, fun l hl => ?_⟩
      · have := small1000 hn
        rw [en0]
        show 1 * n ≤ sizeLine
        omega
      have hlH1 : H1 l = Option.none := (Same.new hq0).free hl
      have hlH : H l = Option.none := sm1.free hlH1
      have e0 : (List.replicate ((n : Int)).toNat [V.int 0]).flatten = zV (List.replicate n 0) := by rw [en0, rep_zero]
      rw [e0]
      generalize hH2 : upd H1 q0 (.lst [.int 0]) = H2 at hl
      have sm2 : Same H1 H2 := by rw [← hH2]; exact Same.new hq0
      have hT2 : Dp K H2 (.ref D) (tabsD ts) := Dp.mono sm2 _ _ hT
      obtain ⟨dT, xsT, eT, hsT, _, hlT, gT⟩ := dp_list hT2
      cases eT
      refine ⟨_, rfl, _, _, rfl, rfl, 1, (n : Int) + 1, rfl, ⟨by decide, by decide, by omega, by omega⟩, ?_⟩
      have en1 : ((n : Int) + 1 - 1).toNat = n := by omega
      rw [en1]
      have maj : ∀ k c, k < n → decide (2 * (entry (Kdn.marksOf rs k) c).1 < (entry (Kdn.marksOf rs k) n).1) = decide (Kdn.majority rs.length ≤ Kdn.upTo (Kdn.marksOf rs k) c) := fun k c hk => maj_iff (mup k hk) (mlen k)
      refine for_range (n := n) (fun i σ H' => ∃ (v5 v6 v7 v8 v9 : Option V) (P : List Nat) (p f : Nat), σ = [some v, some (.int (n : Int)), some (.ref D), some (.ref l), some (.int (p : Int)), v5, v6, v7, v8, v9] ∧ i ≤ n ∧ Same H2 H' ∧ H' l = some (.lst (zV P)) ∧
          DJ n (Kdn.majority rs.length) (Kdn.marksOf rs) (fun k => Kdn.place (Kdn.shared 1 (Kdn.inOrder n (Kdn.majority rs.length) (Kdn.marksOf rs) (2 * n + 1) 1 (List.range n))) k) P p (i + 1) f ∧
          (i ≠ 0 → ∀ k ∈ opn P, ¬ Kdn.majority rs.length ≤ Kdn.upTo (Kdn.marksOf rs k) i))
        ⟨none, none, none, none, none, _, 1, _, rfl, Nat.zero_le _, Same.new hl, upd_same, DJ.begin n _ _, fun z => absurd rfl z⟩ ?_ ?_
      · rintro i σ H' hi ⟨v5, v6, v7, v8, v9, P, p, f0, rfl, _, sm3, hlP, J, _⟩
        have Pl := J.len
        have c1 : (1 : Int) + (i : Int) = ((i + 1 : Nat) : Int) := by omega
        rw [c1]
        -- unplaced = [couple for couple in range(couples) if places[couple] == 0]
        refine ⟨_, rfl, (n : Int), rfl, by omega, by omega, fun D1 hD1 => ?_⟩
        rw [en0]
        have D1l : D1 ≠ l := fun z => by rw [z, hlP] at hD1; cases hD1
        refine lc_range (n := n) (fun j H3 => j ≤ n ∧ Same H' H3 ∧ H3 D1 = some (.lst (zV ((List.range j).filter fun k => P.getD k 0 == 0)))) ⟨Nat.zero_le _, Same.new hD1, upd_same⟩ ?_ ?_
        · rintro j H3 hj ⟨_, s3, hx3⟩
          have hjP : j < P.length := by omega
          have ej : (P[j]? = some P[j]) := List.getElem?_eq_getElem hjP
          refine ⟨rfl, ?_⟩
          refine ⟨_, rfl, _, rfl, l, _, _, _, rfl, rfl, SqL.of (s3 _ _ hlP), at_of (Int.zero_add _) (zV_at ej), rfl, _, rfl, ?_⟩
          dsimp only
          have ed : decide (V.int (P[j] : Int) = V.int 0) = (P.getD j 0 == 0) := by
            rw [List.getD_eq_getElem?_getD, ej]
            show _ = (P[j] == 0)
            by_cases z : P[j] = 0
            · rw [z]; rfl
            · rw [decide_eq_false (fun y => z (by injection y with y; omega))]
              exact (beq_eq_false_iff_ne.mpr z).symm
          rw [ed]
          have f3 := List.range_succ (n := j)
          refine ite2 (fun q => ?_) (fun q => ?_)
          · refine ⟨_, rfl, _, hx3, ?_, hj, s3.put hD1, ?_⟩
            · rw [zV_len]
              have := List.length_filter_le (fun k => P.getD k 0 == 0) (List.range j)
              rw [List.length_range] at this
              exact small1000 (by omega)
            · rw [upd_same, f3, List.filter_append, List.filter_cons, if_pos q, Int.zero_add, zV_snoc]
              rfl
          · refine ⟨hj, s3, ?_⟩
            rw [f3, List.filter_append, List.filter_cons, if_neg q, hx3]
            simp
        · rintro H3 ⟨_, s3, hx3⟩
          rw [opn_take P n Pl.symm] at hx3
          -- waiting = [couple for couple in unplaced if has_majority(tables[couple], column)]
          refine ⟨_, rfl, D1, rfl, ⟨_, SqL.of hx3⟩, fun D2 hD2 => ?_⟩
          have hl3 := s3 _ _ hlP
          have D2l : D2 ≠ l := fun z => by rw [z, hl3] at hD2; cases hD2
          have s23 : Same H2 H3 := sm3.trans s3
          have inP : ∀ {k : Nat}, k ∈ opn P → k < n := fun {k} hk => by rw [← Pl]; exact (mem_opn.mp hk).1
          refine lc_list (K := K) (a := D1) (xs := zV (opn P)) (fun j H4 => Same H3 H4 ∧ H4 D2 = some (.lst (zV (((opn P).take j).filter fun k => decide (Kdn.majority rs.length ≤ Kdn.upTo (Kdn.marksOf rs k) (i + 1)))))) ⟨Same.new hD2, upd_same⟩ (fun j H4 _ ⟨s4, _⟩ => s4.seq (SqL.of hx3)) ?_ ?_
          · rintro j x H4 hj ⟨s4, hx4⟩
            obtain ⟨k, ek, rfl⟩ := zV_of hj
            have hkn : k < n := inP (List.mem_of_getElem? ek)
            obtain ⟨y, ey, dy⟩ := gT k _ (tsa k hkn)
            refine ⟨rfl, ?_⟩
            refine ⟨_, rfl, _, rfl, D, xsT, _, y, rfl, rfl, (s23.trans s4).seq hsT, atI_nat ey, _, rfl, y, _, i + 1, _, _, rfl, Dp.mono (s23.trans s4) _ _ dy, by omega, stand_at _ (show i + 1 - 1 < n by omega), (by rw [stand_len]; exact stand_at _ (by omega)), _, rfl, ?_⟩
            dsimp only
            have ec : i + 1 - 1 + 1 = i + 1 := by omega
            have en : n - 1 + 1 = n := by omega
            rw [ec, en, maj k (i + 1) hkn]
            have f4 := filter_snoc (fun k => decide (Kdn.majority rs.length ≤ Kdn.upTo (Kdn.marksOf rs k) (i + 1))) ek
            refine ite2 (fun q => ?_) (fun q => ?_)
            · rw [if_pos q] at f4
              refine ⟨_, rfl, _, hx4, ?_, s4.put hD2, ?_⟩
              · rw [zV_len]
                have h1 := List.length_filter_le (fun k => decide (Kdn.majority rs.length ≤ Kdn.upTo (Kdn.marksOf rs k) (i + 1))) ((opn P).take j)
                have h2 := List.length_filter_le (fun k => P.getD k 0 == 0) (List.range P.length)
                rw [List.length_range] at h2
                have h3 : ((opn P).take j).length ≤ (opn P).length := by rw [List.length_take]; exact Nat.min_le_right _ _
                have h4 : (opn P).length ≤ P.length := h2
                exact small1000 (by omega)
              · rw [upd_same, zV_snoc, f4]
            · rw [if_neg q] at f4
              exact ⟨s4, by rw [f4]; exact hx4⟩
          · rintro H4 ⟨s4, hx4⟩
            rw [zV_len, List.take_length] at hx4
            -- while len(waiting) > 0:
            refine ⟨fun mm σ H5 => ∃ (v8 v9 : Option V) (P : List Nat) (p f : Nat) (ws : List Nat) (wl : Addr), σ = [some v, some (.int (n : Int)), some (.ref D), some (.ref l), some (.int (p : Int)), some (.int ((i + 1 : Nat) : Int)), some (.ref D1), some (.ref wl), v8, v9] ∧ ws.length = mm ∧ Same H2 H5 ∧ H5 l = some (.lst (zV P)) ∧
                DJ n (Kdn.majority rs.length) (Kdn.marksOf rs) (fun k => Kdn.place (Kdn.shared 1 (Kdn.inOrder n (Kdn.majority rs.length) (Kdn.marksOf rs) (2 * n + 1) 1 (List.range n))) k) P p (i + 1) f ∧
                ws = ((opn P).filter fun k => decide (Kdn.majority rs.length ≤ Kdn.upTo (Kdn.marksOf rs k) (i + 1))) ∧ H5 wl = some (.lst (zV ws)) ∧ wl ≠ l,
              ⟨_, v8, v9, P, p, f0, _, D2, rfl, rfl, s23.trans s4, s4 _ _ hl3, J, rfl, hx4, D2l⟩, ?_⟩
            clear J hlP hl3 hx3 hx4 Pl inP
            rintro mm σ H5 ⟨v8, v9, P, p, f1, ws, wl, rfl, hmm, s5, hl5, J, hws, hw5, wll⟩
            have Pl := J.len
            refine ⟨_, rfl, wl, _, rfl, .inl (SqL.of hw5), _, _, rfl, rfl, _, rfl, ?_⟩
            dsimp only
            refine ite2 (fun q => ?_) (fun q => ?_)
            · have hne : ws ≠ [] := fun z => by
                have z2 := of_decide_eq_true q
                rw [z] at z2
                exact absurd z2 (by decide)
              have wsn : ∀ k ∈ ws, k < n := fun k hk => by
                rw [hws] at hk
                rw [← Pl]
                exact (mem_opn.mp (List.mem_filter.mp hk).1).1
              have wsl : ws.length ≤ n := by
                rw [hws, ← Pl]
                refine Nat.le_trans (List.length_filter_le ..) ?_
                refine Nat.le_trans (List.length_filter_le ..) ?_
                rw [List.length_range]
                exact Nat.le_refl _
              refine ⟨_, fun _ _ h => h, ?_⟩
              -- best = leaders(tables, waiting, column)
              refine ⟨_, rfl, _, rfl, _, rfl, .ref D, wl, ts, ws, i + 1, n, rfl, Dp.mono s5 _ _ hT2, SqL.of hw5, hne, fun k hk => by rw [tsl]; exact wsn k hk, tsm, by omega, by omega, hn, by omega, fun H6 bp s6 fb hb6 => ?_⟩
              have gF : lead ts (i + 1) ws = Kdn.front n (Kdn.marksOf rs) (i + 1) ws := lead_front (by omega) (by omega) fun k hk => tsd k (wsn k hk)
              have gne : lead ts (i + 1) ws ≠ [] := lead_ne hne
              have gsub : ∀ k ∈ lead ts (i + 1) ws, k ∈ ws := fun k hk => (List.mem_filter.mp hk).1
              have J2 := J.give hws gF gne
              generalize lead ts (i + 1) ws = g at hb6 gF gne gsub J2
              have gl : 1 ≤ g.length := List.length_pos_iff.mpr gne
              have bl : bp ≠ l := fun z => by rw [z, hl5] at fb; cases fb
              have ev : 2 * (p : Int) + (g.length : Int) - 1 = ((2 * p + (g.length - 1) : Nat) : Int) := by omega
              have hv : 2 * p + (g.length - 1) ≠ 0 := by have := J.pos; omega
              -- for couple in best: places[couple] = middle_place(place, len(best))
              refine ⟨_, rfl, bp, rfl, ⟨_, SqL.of hb6⟩, for_list (K := K) (a := bp) (xs := zV g) (fun j σ H7 => ∃ v9 : Option V, σ = [some v, some (.int (n : Int)), some (.ref D), some (.ref l), some (.int (p : Int)), some (.int ((i + 1 : Nat) : Int)), some (.ref D1), some (.ref wl), some (.ref bp), v9] ∧
                  Same H2 H7 ∧ H7 l = some (.lst (zV (setAll P (2 * p + (g.length - 1)) (g.take j)))) ∧ H7 bp = some (.lst (zV g)) ∧ H7 wl = some (.lst (zV ws)))
                ⟨v9, rfl, s5.trans s6, s6 _ _ hl5, hb6, s6 _ _ hw5⟩ (fun j σ H7 _ ⟨_, _, _, _, hb7, _⟩ => SqL.of hb7) ?_ ?_⟩
              · rintro j x σ H7 hj ⟨v9', rfl, s7, hl7, hb7, hw7⟩
                obtain ⟨k, ek, rfl⟩ := zV_of hj
                have hkn : k < n := wsn k (gsub k (List.mem_of_getElem? ek))
                refine ⟨_, rfl, _, rfl, bp, _, rfl, .inl (SqL.of hb7), p, g.length, by rw [zV_len]; rfl, _, rfl, _, rfl, l, _, _, k, rfl, rfl, hl7, ixN_nat (by rw [zV_len, setAll_len, Pl]; exact hkn), ?_⟩
                refine ⟨_, rfl, s7.put hl, ?_, by rw [upd_ne bl]; exact hb7, by rw [upd_ne wll]; exact hw7⟩
                rw [upd_same, ev, zV_set, take_snoc ek, setAll_snoc]
              · rintro σ H7 ⟨v9', rfl, s7, hl7, hb7, hw7⟩
                rw [zV_len, List.take_length] at hl7
                -- place += len(best)
                refine ⟨_, rfl, _, rfl, bp, _, rfl, .inl (SqL.of hb7), _, _, rfl, rfl, ?_⟩
                dsimp only
                have ep : (p : Int) + ((zV g).length : Int) = ((p + g.length : Nat) : Int) := by rw [zV_len]; omega
                rw [ep]
                -- waiting = [couple for couple in waiting if places[couple] == 0]
                refine ⟨_, rfl, wl, rfl, ⟨_, SqL.of hw7⟩, fun D3 hD3 => ?_⟩
                have D3l : D3 ≠ l := fun z => by rw [z, hl7] at hD3; cases hD3
                have Pl2 := J2.len
                generalize hP2 : setAll P (2 * p + (g.length - 1)) g = P2 at hl7 J2 Pl2
                refine lc_list (K := K) (a := wl) (xs := zV ws) (fun j H8 => Same H7 H8 ∧ H8 D3 = some (.lst (zV ((ws.take j).filter fun k => P2.getD k 0 == 0)))) ⟨Same.new hD3, upd_same⟩ (fun j H8 _ ⟨s8, _⟩ => s8.seq (SqL.of hw7)) ?_ ?_
                · rintro j x H8 hj ⟨s8, hx8⟩
                  obtain ⟨k, ek, rfl⟩ := zV_of hj
                  have hkn : k < n := wsn k (List.mem_of_getElem? ek)
                  have hkP : k < P2.length := by omega
                  have ej : (P2[k]? = some P2[k]) := List.getElem?_eq_getElem hkP
                  refine ⟨rfl, ?_⟩
                  refine ⟨_, rfl, _, rfl, l, _, _, _, rfl, rfl, SqL.of (s8 _ _ hl7), atI_nat (zV_at ej), rfl, _, rfl, ?_⟩
                  dsimp only
                  have ed : decide (V.int (P2[k] : Int) = V.int 0) = (P2.getD k 0 == 0) := by
                    rw [List.getD_eq_getElem?_getD, ej]
                    show _ = (P2[k] == 0)
                    by_cases z : P2[k] = 0
                    · rw [z]; rfl
                    · rw [decide_eq_false (fun y => z (by injection y with y; omega))]
                      exact (beq_eq_false_iff_ne.mpr z).symm
                  rw [ed]
                  have f8 := filter_snoc (fun k => P2.getD k 0 == 0) ek
                  refine ite2 (fun q => ?_) (fun q => ?_)
                  · rw [if_pos q] at f8
                    refine ⟨_, rfl, _, hx8, ?_, s8.put hD3, ?_⟩
                    · rw [zV_len]
                      have h1 := List.length_filter_le (fun k => P2.getD k 0 == 0) (ws.take j)
                      rw [List.length_take] at h1
                      exact small1000 (by omega)
                    · rw [upd_same, zV_snoc, f8]
                  · rw [if_neg q] at f8
                    exact ⟨s8, by rw [f8]; exact hx8⟩
                · rintro H8 ⟨s8, hx8⟩
                  rw [zV_len, List.take_length] at hx8
                  have ew : ws.filter (fun k => P2.getD k 0 == 0) = (opn P2).filter fun k => decide (Kdn.majority rs.length ≤ Kdn.upTo (Kdn.marksOf rs k) (i + 1)) := by
                    rw [hws, ← hP2]
                    exact wait_next hv
                  refine ⟨_, ?_, _, _, P2, p + g.length, _, _, D3, rfl, rfl, s7.trans s8, s8 _ _ hl7, J2, ew, hx8, D3l⟩
                  rw [← hmm, List.length_filter_lt_length_iff_exists]
                  obtain ⟨k, hk⟩ := List.exists_mem_of_ne_nil g gne
                  refine ⟨k, gsub k hk, ?_⟩
                  rw [← hP2, setAll_at _ g P k (by rw [Pl]; exact wsn k (gsub k hk)), if_pos hk]
                  rw [beq_eq_false_iff_ne.mpr hv]
                  decide
            · have wz : ws = [] := by
                have z := of_decide_eq_false (Bool.eq_false_iff.mpr q)
                rw [zV_len] at z
                exact List.length_eq_zero_iff.mp (by omega)
              refine ⟨_, _, _, _, _, P, p, _, rfl, by omega, s5, hl5, J.next (by omega) ?_, fun _ k hk hm => ?_⟩
              · intro k hk hm
                have : k ∈ ws := by rw [hws]; exact List.mem_filter.mpr ⟨hk, decide_eq_true hm⟩
                rw [wz] at this
                cases this
              · have : k ∈ ws := by rw [hws]; exact List.mem_filter.mpr ⟨hk, decide_eq_true hm⟩
                rw [wz] at this
                cases this
      · rintro σ H' ⟨v5, v6, v7, v8, v9, P, p, f0, rfl, _, sm3, hlP, J, no⟩
        have oe : opn P = [] := by
          cases q : opn P with
          | nil => rfl
          | cons k r =>
            have hk : k ∈ opn P := by rw [q]; exact List.mem_cons_self ..
            have hkn : k < n := by rw [← J.len]; exact (mem_opn.mp hk).1
            refine absurd ?_ (no (by omega) k hk)
            rw [upTo_all (mup k hkn), mlen]
            unfold Kdn.majority
            omega
        have eP := J.done oe
        refine ⟨_, rfl, kk H' l (sm1.trans (sm2.trans sm3)) hlH ?_⟩
        rw [hlP, eP]
        rfl
end
end Dn
end
section
set_option Elab.async false
set_option linter.all false
set_option maxRecDepth 100000
set_option maxHeartbeats 2000000
/-! ### len of a dict by tuples; range as a value; list of a range -/
namespace L2
open PySem PySem.Spec PyProof.Rows Dn
section
variable {X : Cx}
theorem lenT_meets {prog : Program} {w : World} {d : Addr} (hd : (d == sysModules) = false) :
    MeetsIn prog w (Builtin.«dict.__len__» ⟨[.ref d], []⟩) (fun _ R s => ∃ o es ep, s.heap.get? d = some o ∧ o.data = .dict es ep ∧ R (.ok (.ret (.int es.size s.toks))) { s with toks := s.toks + 1 }) :=
  .of_wp fun A R s ⟨o, es, ep, ho, hdat, h⟩ => by
    show wpAny _ _ (dictSize d >>= _) _ _ s
    unfold dictSize
    refine wpAny_bind (wpAny_bind (wpAny_dictEntries ho hdat (wpAny_pure ?_)))
    show wpAny _ _ (Builtin.Dict.pendingCount d >>= _) _ _ s
    refine wpAny_bind (wpAny_pendingCount_other hd ?_)
    exact wpAny_ret_mkInt (by rw [Nat.add_zero]; exact h)
theorem lenT_call {prog : Program} {w : World} {A : Around} {E : Value → Shared → Prop} {s : Shared} {d : Addr} {o : Obj} {es : Array DictEntry} {ep : Nat} {Q : Value → Shared → Prop} (hd : (d == sysModules) = false) (ho : s.heap.get? d = some o) (hc : o.cls = .type "dict") (hdat : o.data = .dict es ep) (hfit : (es.size : Int) < 2 ^ 63)
    (h : ∀ t tk, Q (.int es.size t) { s with toks := tk }) : wpAny (model prog w) A (call (.builtin "len") [.ref d]) Q E s := by
  have hT : s.TypeIs (.ref d) "dict" := ⟨o, ho, hc⟩
  refine Calls.call_function_entry kind_len plain_len entry_len (args_len1 _) ?_
  unfold Builtin.«len»
  refine wpAny_bind (m := oneArg "len" _) (wpAny_pure ?_)
  refine wpAny_bind (m := callSpecial? (.ref d) (Str.ofString "__len__")) (wpAny_callSpecial?_slot (name := Str.ofString "__len__") hT F.slot_dict_len
    (call_meetsIn F.slot_dict_len hT F.entry_dict_len (F.args_dict_len_1 _) (lenT_meets hd) ⟨o, es, ep, ho, hdat, ?_⟩))
  show wpAny _ _ _ _ _ { s with toks := s.toks + 1 }
  refine wpAny_bind (wpAny_holding (wpAny_pure ?_))
  refine wpAny_bind (wpAny_letGo ?_)
  show wpAny _ _ (if ((es.size : Nat) : Int) < 0 then _ else _) _ _ _
  rw [if_neg (by omega)]
  show wpAny _ _ (if ((es.size : Nat) : Int) ≥ 2 ^ 63 then _ else _) _ _ _
  rw [if_neg (by omega)]
  exact wpAny_bind (wpAny_mkInt (wpAny_pure ⟨_, rfl, h _ _⟩))
theorem call_lenT : CallR X (.builtin "len") (fun xs H Q => ∃ a kvs, xs = [V.ref a] ∧ H a = some (.dT kvs) ∧ Q (.int kvs.length) H) := by
  intro pins s σ H xs us Q I r h
  obtain ⟨a, kvs, rfl, ha, q⟩ := h
  obtain ⟨u, rfl, ru⟩ := vals1 r
  cases ru
  obtain ⟨z, hd, xs, rel, o, es, ep, h1, h2, h3, h4, h5⟩ := dt_of I.hok ha
  have e : es.size = kvs.length := by rw [size_of_entries h4]; exact (Paired.length rel).symm
  have l63 := line63
  refine lenT_call hd h1 h2.1 h3 (by omega) fun t tk => ⟨.int kvs.length, H, I.tok _, ⟨t, by rw [e]⟩, q⟩
/-- range(lo, hi), as a value -/
theorem call_rng : CallR X (.type "range") (fun xs H Q => ∃ lo hi : Int, xs = [.int lo, .int hi] ∧ ∀ p, H p = none → Q (.ref p) (upd H p (.rng lo hi))) := by
  intro pins s σ H xs us Q I r h
  obtain ⟨lo, hi, rfl, q⟩ := h
  obtain ⟨t, u, rfl⟩ := Vals.int2 r
  exact call_range_2 ⟨.ref s.heap.objs.size, _, I.laid (a := s.heap.objs.size) (o := .rng lo hi) (fun _ _ q => Heap.get?_push_of_some _ q) (Nat.le_refl _) ⟨_, _, _, Heap.get?_push_size _ rfl⟩, rfl, q _ (I.hok.fresh (Nat.le_refl _))⟩
def upInts (lo : Int) (n : Nat) : List Int := (List.range n).map fun (i : Nat) => lo + (i : Int)
theorem vals_items {lo : Int} : ∀ {n : Nat} {vs : List Value}, vs.length = n → (∀ (j : Nat) (v : Value), vs[j]? = some v → ∃ t, v = Value.int (lo + (j : Int)) t) → Vals ((upInts lo n).map V.int) vs
  | 0, [], _, _ => .nil
  | 0, _ :: _, h, _ => by cases h
  | n + 1, [], h, _ => by cases h
  | n + 1, v :: vs, h, g => by
    unfold upInts
    rw [List.range_succ_eq_map, List.map_cons, List.map_cons, List.map_map, List.map_map]
    obtain ⟨t, e⟩ := g 0 v rfl
    refine .cons ⟨t, e⟩ ?_
    have ih := vals_items (lo := lo + 1) (n := n) (vs := vs) (by simpa using h) fun j w e => by
      obtain ⟨t, q⟩ := g (j + 1) w (by simpa using e)
      exact ⟨t, by rw [q]; congr 1; push_cast; omega⟩
    unfold upInts at ih
    rw [List.map_map] at ih
    refine (List.map_congr_left fun i _ => ?_) ▸ ih
    show V.int (lo + 1 + (i : Int)) = V.int (lo + ((i + 1 : Nat) : Int))
    congr 1
    push_cast
    omega
theorem call_listR (hc : X.calm = true) : CallR X (.type "list") (fun xs H Q => ∃ (r : Addr) (lo hi : Int), xs = [.ref r] ∧ H r = some (.rng lo hi) ∧ (-(2 ^ 62) ≤ lo ∧ lo < 2 ^ 62 ∧ -(2 ^ 62) ≤ hi ∧ hi < 2 ^ 62) ∧ (hi - lo).toNat ≤ 1000 ∧ ∀ p, H p = none → Q (.ref p) (upd H p (.lst ((upInts lo (hi - lo).toNat).map V.int)))) := by
  intro pins s σ H xs us Q I r h
  obtain ⟨a, lo, hi, rfl, ha, ⟨q1, q2, q3, q4⟩, hn, q⟩ := h
  rw [Vals.ref1 r]
  obtain ⟨t, u, v, e⟩ := I.hok a _ ha
  refine call_list_range (I.ok.hd hc) e (small_one q1 q2 q3 q4) (n := (hi - lo).toNat) (by rw [rangeSize_one]; split <;> omega) (by omega) fun h' tk acc c' kp hS hacc => ?_
  refine ⟨.ref s.heap.objs.size, _, I.laid (a := s.heap.objs.size) (o := .lst ((upInts lo (hi - lo).toNat).map V.int)) kp (Nat.le_refl _) ⟨?_, acc.toList, c', vals_items (by rw [Array.length_toList]; exact hacc.1) (fun j w ew => ?_), ?_⟩, rfl, q _ (I.hok.fresh (Nat.le_refl _))⟩
  · unfold upInts
    rw [List.length_map, List.length_map, List.length_range]
    exact Nat.le_of_lt (small1000 hn)
  · obtain ⟨t', z⟩ := hacc.2 j w (by simpa using ew)
    exact ⟨t', by rw [z]; congr 1; omega⟩
  · simpa using hS
end
end L2
end
section
set_option Elab.async false
set_option linter.all false
set_option maxRecDepth 100000
set_option maxHeartbeats 4000000
namespace Dn
open PySem PySem.Spec PyProof.Rows L2
theorem perm_of_sub : ∀ {l m : List Nat}, l.Nodup → (∀ x ∈ l, x ∈ m) → m.length ≤ l.length → m.Perm l
  | [], m, _, _, h => by
    have : m = [] := List.length_eq_zero_iff.mp (by simpa using h)
    rw [this]
  | x :: l, m, hn, hs, h => by
    have hx : x ∈ m := hs x (List.mem_cons_self ..)
    have p := List.perm_cons_erase hx
    obtain ⟨n1, n2⟩ := List.nodup_cons.mp hn
    refine p.trans (List.Perm.cons x (perm_of_sub n2 (fun y hy => ?_) ?_))
    · have ne : y ≠ x := fun z => n1 (by rw [← z]; exact hy)
      exact (List.mem_erase_of_ne ne).mpr (hs y (List.mem_cons_of_mem _ hy))
    · rw [List.length_erase_of_mem hx]
      simp at h
      omega
def oneTo (n : Nat) : List Nat := (List.range n).map (· + 1)
theorem up_one (n : Nat) : upInts 1 n = zs (oneTo n) := by
  unfold upInts zs oneTo
  rw [List.map_map]
  apply List.map_congr_left
  intro i _
  show (1 : Int) + (i : Int) = ((i + 1 : Nat) : Int)
  omega
theorem zs_inj : ∀ {a b : List Nat}, zs a = zs b → a = b
  | [], [], _ => rfl
  | [], _ :: _, h => by cases h
  | _ :: _, [], h => by cases h
  | x :: a, y :: b, h => by
    unfold zs at h
    rw [List.map_cons, List.map_cons] at h
    injection h with h1 h2
    rw [zs_inj (a := a) (b := b) h2]
    congr 1
    omega
theorem zs_perm {a b : List Nat} (h : a.Perm b) : (zs a).Perm (zs b) := h.map _
theorem oneTo_sorted (n : Nat) : (zs (oneTo n)).Pairwise (· ≤ ·) := by
  unfold zs oneTo
  rw [List.map_map, List.pairwise_map]
  exact List.pairwise_lt_range.imp fun h => by
    show ((_ + 1 : Nat) : Int) ≤ ((_ + 1 : Nat) : Int)
    omega
theorem oneTo_nodup (n : Nat) : (oneTo n).Nodup := by
  unfold oneTo
  exact (List.pairwise_map).mpr (List.pairwise_lt_range.imp fun h => by omega)
theorem permutes_iff (n : Nat) (r : List Nat) : Kdn.permutes n r = true ↔ r.Perm (oneTo n) := by
  unfold Kdn.permutes
  rw [Bool.and_eq_true, beq_iff_eq, List.all_eq_true]
  constructor
  · rintro ⟨h1, h2⟩
    refine perm_of_sub (oneTo_nodup n) (fun x hx => ?_) ?_
    · obtain ⟨k, hk, rfl⟩ := List.mem_map.mp hx
      exact List.contains_iff_mem.mp (h2 k hk)
    · unfold oneTo; rw [List.length_map, List.length_range]; omega
  · intro p
    refine ⟨by rw [p.length_eq]; unfold oneTo; rw [List.length_map, List.length_range], fun k hk => ?_⟩
    exact List.contains_iff_mem.mpr (p.mem_iff.mpr (List.mem_map.mpr ⟨k, hk, rfl⟩))
theorem sorted_row {n : Nat} {r : List Nat} {ns : List Int} (p : ns.Perm (zs r)) (hs : ns.Pairwise (· ≤ ·)) : decide (ns = upInts 1 n) = Kdn.permutes n r := by
  rw [up_one]
  cases q : Kdn.permutes n r with
  | true =>
    refine decide_eq_true ?_
    exact List.Perm.eq_of_pairwise (fun _ _ _ _ a b => Int.le_antisymm a b) hs (oneTo_sorted n) (p.trans (zs_perm ((permutes_iff n r).mp q)))
  | false =>
    refine decide_eq_false fun e => ?_
    rw [e] at p
    have : r.Perm (oneTo n) := by
      have p2 := (p.map Int.toNat)
      unfold zs at p2
      rw [List.map_map, List.map_map] at p2
      have id1 : ∀ l : List Nat, l.map (Int.toNat ∘ fun (x : Nat) => (x : Int)) = l := fun l => by
        rw [show (Int.toNat ∘ fun (x : Nat) => (x : Int)) = id from funext fun x => by show Int.toNat (x : Int) = x; omega, List.map_id]
      rw [id1, id1] at p2
      exact p2.symm
    rw [(permutes_iff n r).mpr this] at q
    cases q
theorem row_range {n : Nat} {r : List Nat} (h : Kdn.permutes n r = true) : r.length = n ∧ ∀ x ∈ r, 1 ≤ x ∧ x ≤ n := by
  have p := (permutes_iff n r).mp h
  refine ⟨by rw [p.length_eq]; unfold oneTo; rw [List.length_map, List.length_range], fun x hx => ?_⟩
  obtain ⟨k, hk, rfl⟩ := List.mem_map.mp (p.mem_iff.mp hx)
  have := List.mem_range.mp hk
  omega
def intsD (ns : List Int) : PyData := .list (ns.map PyData.int)
theorem intsD_lay : ∀ ns : List Int, PyData.canLayAll0 (ns.map PyData.int) = true ∧ PyData.depthAll (ns.map PyData.int) ≤ 0
  | [] => ⟨by simp [PyData.canLayAll0], by simp [PyData.depthAll]⟩
  | x :: l => by
    obtain ⟨h1, h2⟩ := intsD_lay l
    rw [List.map_cons]
    exact ⟨by simp only [PyData.canLayAll0, h1]; simp [PyData.canLay0], by simp only [PyData.depthAll]; simp [PyData.depth]; omega⟩
theorem intsD_shaped (ns : List Int) : PySem.SeqAt.shaped (intsD ns) = true := by
  obtain ⟨h1, h2⟩ := intsD_lay ns
  show (PyData.canLay0 (intsD ns) && decide ((intsD ns).depth ≤ 64)) = true
  simp only [intsD, PyData.canLay0, PyData.depth, h1, Bool.true_and, decide_eq_true_iff]
  omega
theorem intsD_eqv (a b : List Int) : PyData.eqv (intsD a) (intsD b) = decide (a = b) := by
  have e : ∀ a b : List Int, PyData.eqvAll (a.map PyData.int) (b.map PyData.int) = decide (a = b) := by
    intro a
    induction a with
    | nil => intro b; cases b <;> simp [PyData.eqvAll]
    | cons x a ih =>
      intro b
      cases b with
      | nil => simp [PyData.eqvAll]
      | cons y b =>
        rw [List.map_cons, List.map_cons]
        simp only [PyData.eqvAll, PyData.eqv, ih b]
        by_cases e1 : x = y <;> by_cases e2 : a = b <;> simp [e1, e2]
  simp only [intsD, PyData.eqv, e]
theorem intsD_dp {K : PySem.W.Frag} {H : Hp} : ∀ (ns : List Int), DpAll K H (ns.map V.int) (ns.map PyData.int)
  | [] => .nil
  | x :: l => .cons (.int _) (intsD_dp l)
abbrev sFit : Stmt := top 18
abbrev sRow : Stmt := top 19
section
variable {P : Program} {w : World} {K : PySem.W.Frag} {mg : Str → Option Value} {base : Heap}
/-! ### is_row -/
def spRow (K : PySem.W.Frag) : Sp := fun vs H Q _ => ∃ (a : Addr) (r : List Nat) (n : Nat), vs = [.ref a, .int (n : Int)] ∧ SqL K H a (zV r) ∧ r.length < 64 ∧ n ≤ 1000 ∧ ∀ H' : Hp, Same H H' → Q (.bl (Kdn.permutes n r)) H'
theorem scRow : FnScope ["places", "couples"] ["places", "couples"] (defScope sRow) := ⟨rfl, rfl, rfl, by decide +kernel, rfl, by decide +kernel, by decide +kernel⟩
theorem ok_row {f : Addr} {fd : FuncData} (F : Fun K "is_row" "is_row" sRow f fd) (B : Blt mg) : FnOk P w K mg base CX0 1 f fd ["places", "couples"] (spRow K) := by
  refine F.ok scRow (fun vs H Q E h => ?_) (fun cdv A outer s H vs Q E hr h => ?_)
  · obtain ⟨a, r, n, rfl, _⟩ := h
    rfl
  · obtain ⟨a, r, n, rfl, hs, h64, hn, k⟩ := h
    refine ⟨_, pss_one (ps_ret (pe_cmpR (op_eqD hr.units) (pe_callB cr_sorted rfl B.sorted boot_sorted (pa_cons (pv 0) pa_nil)) (pe_callTy (call_listR rfl) rfl B.list PyProof.Rows.boot_list (pa_cons (pe_callTy call_rng rfl B.range boot_range (pa_cons pe_int (pa_cons (pe_op op_add (pv 1) pe_int) pa_nil))) pa_nil)) (nomark _))), ?_⟩
    refine ⟨_, rfl, a, zs r, rfl, hs, by unfold zs; rw [List.length_map]; exact h64, fun ns p hp hw hpn => ?_⟩
    refine ⟨_, rfl, _, _, rfl, rfl, 1, (n : Int) + 1, rfl, fun q hq => ?_⟩
    refine ⟨q, 1, (n : Int) + 1, rfl, upd_same, ⟨by decide, by decide, by omega, by omega⟩, by omega, fun l hl => ?_⟩
    have en : ((n : Int) + 1 - 1).toNat = n := by omega
    rw [en]
    have s1 : Same H (upd H p (.lst (ns.map V.int))) := Same.new hpn
    have s2 := Same.new (o := .rng 1 ((n : Int) + 1)) hq
    have s3 := Same.new (o := .lst ((upInts 1 n).map V.int)) hl
    refine ⟨intsD ns, intsD (upInts 1 n), .lst (SqL.of (s3 _ _ (s2 _ _ upd_same))) (intsD_dp _), .lst (SqL.of upd_same) (intsD_dp _), intsD_shaped _, intsD_shaped _, ?_⟩
    rw [intsD_eqv, sorted_row hp hw]
    exact k _ ((s1.trans s2).trans s3)
/-! ### sizes_fit -/
def fit (n j d : Nat) : Bool := decide (2 ≤ n ∧ n ≤ 12 ∧ 3 ≤ j ∧ j ≤ 15 ∧ j % 2 = 1 ∧ 1 ≤ d ∧ d ≤ 5)
def spFit : Sp := fun vs H Q _ => ∃ (n j d : Nat), vs = [.int (n : Int), .int (j : Int), .int (d : Int)] ∧ Q (.bl (fit n j d)) H
theorem scFit : FnScope ["couples", "judges", "dances"] ["couples", "judges", "dances"] (defScope sFit) := ⟨rfl, rfl, rfl, by decide +kernel, rfl, by decide +kernel, by decide +kernel⟩
theorem ok_fit {f : Addr} {fd : FuncData} (F : Fun K "sizes_fit" "sizes_fit" sFit f fd) : FnOk P w K mg base CX0 1 f fd ["couples", "judges", "dances"] spFit := by
  refine F.ok scFit (fun vs H Q E h => ?_) (fun cdv A outer s H vs Q E hr h => ?_)
  · obtain ⟨n, j, d, rfl, _⟩ := h
    rfl
  · obtain ⟨n, j, d, rfl, k⟩ := h
    refine ⟨_, pss_cons (ps_if (PW.pt (pw_or (pt_cmpR op_lt (pv 0) pe_int (nomark _)) (pw_or1 (pt_cmpR op_gt (pv 0) pe_int (nomark _))))) (pss_one (ps_ret pe_bl)) pss_nil)
      (pss_cons (ps_if (PW.pt (pw_or (pt_cmpR op_lt (pv 1) pe_int (nomark _)) (pw_or (pt_cmpR op_gt (pv 1) pe_int (nomark _)) (pw_or1 (pt_cmpR op_eq (pe_op op_mod (pv 1) pe_int) pe_int (nomark _)))))) (pss_one (ps_ret pe_bl)) pss_nil)
      (pss_one (ps_ret (pe_and (pe_cmpR op_ge (pv 2) pe_int (nomark _)) (pe_one (pe_cmpR op_le (pv 2) pe_int (nomark _))))))), ?_⟩
    have no : ¬ (2 ≤ n ∧ n ≤ 12 ∧ 3 ≤ j ∧ j ≤ 15 ∧ j % 2 = 1 ∧ 1 ≤ d ∧ d ≤ 5) → Q (.bl false) H := fun z => by
      have e : fit n j d = false := decide_eq_false z
      rw [e] at k
      exact k
    refine ⟨_, rfl, _, _, rfl, rfl, _, rfl, ?_⟩
    dsimp only
    refine ite2 (fun q => ?_) (fun q => ?_)
    · have q1 := of_decide_eq_true q
      rw [if_pos rfl]
      exact no (by omega)
    · have q1 := of_decide_eq_false (Bool.eq_false_iff.mpr q)
      refine ⟨_, rfl, _, _, rfl, rfl, _, rfl, ?_⟩
      dsimp only
      refine ite2 (fun q => ?_) (fun q => ?_)
      · have q2 := of_decide_eq_true q
        exact no (by omega)
      · have q2 := of_decide_eq_false (Bool.eq_false_iff.mpr q)
        refine ⟨_, rfl, _, _, rfl, rfl, _, rfl, ?_⟩
        dsimp only
        refine ite2 (fun q => ?_) (fun q => ?_)
        · have q3 := of_decide_eq_true q
          rw [if_pos rfl]
          exact no (by omega)
        · have q3 := of_decide_eq_false (Bool.eq_false_iff.mpr q)
          refine ⟨_, rfl, _, _, rfl, rfl, _, rfl, ?_⟩
          dsimp only
          refine ite2 (fun q => ?_) (fun q => ?_)
          · have q4 := of_decide_eq_true q
            rw [if_pos rfl]
            exact no (by omega)
          · have q4 := of_decide_eq_false (Bool.eq_false_iff.mpr q)
            refine ⟨_, rfl, _, _, rfl, rfl, (by show (0 : Int) < 2; decide), rfl, _, rfl, ?_⟩
            dsimp only
            refine ite2 (fun q => ?_) (fun q => ?_)
            · have q5 : (j : Int) % 2 = 0 := by
                have := of_decide_eq_true q
                injection this
              exact no (by omega)
            · have q5 : ¬ (j : Int) % 2 = 0 := fun z => q (decide_eq_true (by rw [z]))
              refine ⟨_, rfl, _, _, rfl, rfl, _, rfl, ?_⟩
              dsimp only
              refine ite2 (fun q => ?_) (fun q => ?_)
              · have q6 := of_decide_eq_true q
                refine ⟨_, rfl, _, _, rfl, rfl, ?_⟩
                dsimp only
                have e : fit n j d = decide ((d : Int) ≤ 5) := by
                  unfold fit
                  exact decide_eq_decide.mpr ⟨fun z => by omega, fun z => by omega⟩
                rw [e] at k
                exact k
              · have q6 := of_decide_eq_false (Bool.eq_false_iff.mpr q)
                exact no (by omega)
end
end Dn
end
section
set_option Elab.async false
set_option linter.all false
set_option maxRecDepth 100000
set_option maxHeartbeats 2000000
/-! ### what a contest holds -/
namespace Dn
abbrev Cell := Option (List Nat)
def look (c : Kdn.Contest) (e q : Nat) : Cell := (c.dances.getD e []).getD q none
def lack1 (l : List Cell) : Nat := (l.filter fun x => x.isNone).length
def lackL (D : List (List Cell)) : Nat := Kdn.sum (D.map lack1)
theorem lackL_cons (l : List Cell) (D : List (List Cell)) : lackL (l :: D) = lack1 l + lackL D := by
  unfold lackL
  rw [List.map_cons, ksum_cons]
theorem lacking_eq (c : Kdn.Contest) : Kdn.lacking c = lackL c.dances := rfl
theorem lack1_cons (x : Cell) (l : List Cell) : lack1 (x :: l) = (if x = none then 1 else 0) + lack1 l := by
  unfold lack1
  rw [List.filter_cons]
  cases x with
  | none =>
    rw [if_pos (show (none : Cell).isNone = true from rfl), if_pos rfl, List.length_cons]
    omega
  | some r => rw [if_neg (by simp), if_neg (by simp)]; omega
theorem lack1_set (r : List Nat) : ∀ (l : List Cell) (q : Nat), q < l.length → lack1 (l.set q (some r)) + (if l.getD q none = none then 1 else 0) = lack1 l
  | [], _, h => absurd h (Nat.not_lt_zero _)
  | x :: l, 0, _ => by
    rw [List.set_cons_zero, lack1_cons, lack1_cons, if_neg (by simp)]
    show 0 + lack1 l + (if x = none then 1 else 0) = _
    omega
  | x :: l, q + 1, h => by
    rw [List.set_cons_succ, lack1_cons, lack1_cons]
    have := lack1_set r l q (by simpa using h)
    show _ + lack1 (l.set q (some r)) + (if l.getD q none = none then 1 else 0) = _
    omega
theorem lackL_set (r : List Nat) : ∀ (D : List (List Cell)) (e q : Nat), e < D.length → q < (D.getD e []).length → lackL (D.set e ((D.getD e []).set q (some r))) + (if (D.getD e []).getD q none = none then 1 else 0) = lackL D
  | [], _, _, h, _ => absurd h (Nat.not_lt_zero _)
  | l :: D, 0, q, _, hq => by
    show lackL (l.set q (some r) :: D) + (if l.getD q none = none then 1 else 0) = _
    rw [lackL_cons, lackL_cons]
    have := lack1_set r l q hq
    omega
  | l :: D, e + 1, q, h, hq => by
    show lackL (l :: D.set e ((D.getD e []).set q (some r))) + (if (D.getD e []).getD q none = none then 1 else 0) = _
    rw [lackL_cons, lackL_cons]
    have := lackL_set r D e q (by simpa using h) hq
    omega
theorem lack1_rep : ∀ j : Nat, lack1 (List.replicate j none) = j
  | 0 => rfl
  | j + 1 => by
    rw [List.replicate_succ, lack1_cons, if_pos rfl, lack1_rep j]
    omega
theorem lackL_rep (j : Nat) : ∀ d : Nat, lackL (List.replicate d (List.replicate j none)) = d * j
  | 0 => by show 0 = 0 * j; omega
  | d + 1 => by
    rw [List.replicate_succ, lackL_cons, lack1_rep, lackL_rep j d, Nat.succ_mul]
    omega
theorem getD_rep {α : Type} (x d : α) (n i : Nat) : (List.replicate n x).getD i d = if i < n then x else d := by
  rw [List.getD_eq_getElem?_getD]
  by_cases h : i < n
  · rw [List.getElem?_replicate, if_pos h, if_pos h]; rfl
  · rw [List.getElem?_replicate, if_neg h, if_neg h]; rfl
theorem look_begun (n j d e q : Nat) : look (Kdn.begun n j d) e q = none := by
  unfold look Kdn.begun
  simp only
  rw [getD_rep]
  by_cases h : e < d
  · rw [if_pos h, getD_rep]
    split <;> rfl
  · rw [if_neg h]; rfl
theorem getD_set {α : Type} (l : List α) (i k : Nat) (x d : α) (h : i < l.length) : (l.set i x).getD k d = if k = i then x else l.getD k d := by
  rw [List.getD_eq_getElem?_getD, List.getD_eq_getElem?_getD]
  by_cases e : k = i
  · subst e
    rw [if_pos rfl, List.getElem?_set_self h]
    rfl
  · rw [if_neg e, List.getElem?_set_ne fun z => e z.symm]
theorem look_marked {c : Kdn.Contest} {d j : Nat} {r : List Nat} (hd : d < c.dances.length) (hj : j < (c.dances.getD d []).length) (e q : Nat) : look (Kdn.marked c d j r) e q = if e = d ∧ q = j then some r else look c e q := by
  unfold look Kdn.marked
  simp only
  rw [getD_set _ _ _ _ _ hd]
  by_cases h1 : e = d
  · subst h1
    rw [if_pos rfl, getD_set _ _ _ _ _ hj]
    by_cases h2 : q = j
    · rw [if_pos h2, if_pos ⟨rfl, h2⟩]
    · rw [if_neg h2, if_neg fun z => h2 z.2]
  · rw [if_neg h1, if_neg fun z => h1 z.1]
/-- a contest as it may come to be -/
structure WF (c : Kdn.Contest) : Prop where
  n2 : 2 ≤ c.couples
  n12 : c.couples ≤ 12
  j3 : 3 ≤ c.judges
  j15 : c.judges ≤ 15
  d1 : 1 ≤ c.dances.length
  d5 : c.dances.length ≤ 5
  wide : ∀ l ∈ c.dances, l.length = c.judges
  rows : ∀ e q r, look c e q = some r → Kdn.permutes c.couples r = true
theorem WF.wideD {c : Kdn.Contest} (w : WF c) {e : Nat} (h : e < c.dances.length) : (c.dances.getD e []).length = c.judges := by
  rw [List.getD_eq_getElem?_getD, List.getElem?_eq_getElem h]
  exact w.wide _ (List.getElem_mem h)
theorem WF.begun {n j d : Nat} (h : 2 ≤ n ∧ n ≤ 12 ∧ 3 ≤ j ∧ j ≤ 15 ∧ j % 2 = 1 ∧ 1 ≤ d ∧ d ≤ 5) : WF (Kdn.begun n j d) := by
  refine ⟨h.1, h.2.1, h.2.2.1, h.2.2.2.1, ?_, ?_, fun l hl => ?_, fun e q r z => ?_⟩
  · show 1 ≤ (List.replicate d _).length; rw [List.length_replicate]; exact h.2.2.2.2.2.1
  · show (List.replicate d _).length ≤ 5; rw [List.length_replicate]; exact h.2.2.2.2.2.2
  · have : l ∈ List.replicate d (List.replicate j none) := hl
    rw [(List.mem_replicate.mp this).2, List.length_replicate]
    rfl
  · rw [look_begun] at z; cases z
theorem WF.marked {c : Kdn.Contest} (w : WF c) {d j : Nat} {r : List Nat} (hd : d < c.dances.length) (hj : j < c.judges) (hr : Kdn.permutes c.couples r = true) : WF (Kdn.marked c d j r) := by
  have hj' : j < (c.dances.getD d []).length := by rw [w.wideD hd]; exact hj
  refine ⟨w.n2, w.n12, w.j3, w.j15, ?_, ?_, fun l hl => ?_, fun e q r' z => ?_⟩
  · show 1 ≤ (c.dances.set d _).length; rw [List.length_set]; exact w.d1
  · show (c.dances.set d _).length ≤ 5; rw [List.length_set]; exact w.d5
  · have hl' : l ∈ c.dances.set d ((c.dances.getD d []).set j (some r)) := hl
    rcases List.mem_or_eq_of_mem_set hl' with z | z
    · exact w.wide l z
    · rw [z, List.length_set, w.wideD hd]; rfl
  · rw [look_marked hd hj'] at z
    by_cases q2 : e = d ∧ q = j
    · rw [if_pos q2] at z
      cases z
      exact hr
    · rw [if_neg q2] at z
      exact w.rows e q r' z
/-- the rows of a dance: all of them, or one is missing -/
theorem rowsOf_eq : ∀ l : List Cell, Kdn.rowsOf l = if (l.filterMap id).length < l.length then none else some (l.filterMap id)
  | [] => rfl
  | none :: l => by
    have h : (l.filterMap id).length ≤ l.length := List.length_filterMap_le ..
    rw [if_pos (by show (l.filterMap id).length < l.length + 1; omega)]
    rfl
  | some r :: l => by
    show (Kdn.rowsOf l).map (fun m => r :: m) = if (r :: l.filterMap id).length < (some r :: l).length then none else some (r :: l.filterMap id)
    rw [rowsOf_eq l, List.length_cons, List.length_cons]
    by_cases h : (l.filterMap id).length < l.length
    · rw [if_pos h, if_pos (by omega)]; rfl
    · rw [if_neg h, if_neg (by omega)]; rfl
theorem mem_rows {c : Kdn.Contest} (w : WF c) {e : Nat} {r : List Nat} (h : r ∈ (c.dances.getD e []).filterMap id) : Kdn.permutes c.couples r = true := by
  obtain ⟨x, hx, e2⟩ := List.mem_filterMap.mp h
  have e3 : x = some r := e2
  subst e3
  obtain ⟨q, hq, e4⟩ := List.mem_iff_getElem.mp hx
  refine w.rows e q r ?_
  unfold look
  rw [List.getD_eq_getElem?_getD, List.getElem?_eq_getElem hq, e4]
  rfl
end Dn
end
section
set_option Elab.async false
set_option linter.all false
set_option maxRecDepth 100000
set_option maxHeartbeats 4000000
namespace Dn
open PySem PySem.Spec PyProof.Rows L2
abbrev sBoard : Stmt := top 20
abbrev sInit : Stmt := inClass sBoard 0
abbrev sStart : Stmt := inClass sBoard 1
abbrev sMark : Stmt := inClass sBoard 2
abbrev sDance : Stmt := inClass sBoard 3
abbrev sTotal : Stmt := inClass sBoard 4
abbrev sFinal : Stmt := inClass sBoard 5
abbrev sMissing : Stmt := inClass sBoard 6
abbrev sMiss : Stmt := inClass sBoard 7
abbrev sRowsOf : Stmt := inClass sBoard 8
abbrev sByDance : Stmt := inClass sBoard 9
/-- the attributes of a board -/
def bfs (n j d : Nat) (rw : Addr) : List (Str × V) := putF "rows" (.ref rw) (putF "dances" (.int (d : Int)) (putF "judges" (.int (j : Int)) (putF "couples" (.int (n : Int)) [])))
theorem bfs_rows (n j d : Nat) (rw : Addr) : (bfs n j d rw).lookup ("rows" : Str) = some (.ref rw) := by
  unfold bfs
  rw [lookup_putF, if_pos rfl]
theorem bfs_dances (n j d : Nat) (rw : Addr) : (bfs n j d rw).lookup ("dances" : Str) = some (.int (d : Int)) := by
  unfold bfs
  rw [lookup_putF, if_neg (by decide +kernel), lookup_putF, if_pos rfl]
theorem bfs_judges (n j d : Nat) (rw : Addr) : (bfs n j d rw).lookup ("judges" : Str) = some (.int (j : Int)) := by
  unfold bfs
  rw [lookup_putF, if_neg (by decide +kernel), lookup_putF, if_neg (by decide +kernel), lookup_putF, if_pos rfl]
theorem bfs_couples (n j d : Nat) (rw : Addr) : (bfs n j d rw).lookup ("couples" : Str) = some (.int (n : Int)) := by
  unfold bfs
  rw [lookup_putF, if_neg (by decide +kernel), lookup_putF, if_neg (by decide +kernel), lookup_putF, if_neg (by decide +kernel), lookup_putF, if_pos rfl]
theorem bfs_no (n j d : Nat) (rw : Addr) {m : Str} (h1 : ¬ m = "rows") (h2 : ¬ m = "dances") (h3 : ¬ m = "judges") (h4 : ¬ m = "couples") : (bfs n j d rw).lookup m = Option.none := by
  unfold bfs
  rw [lookup_putF, if_neg h1, lookup_putF, if_neg h2, lookup_putF, if_neg h3, lookup_putF, if_neg h4]
  rfl
theorem bfs_len (n j d : Nat) (rw : Addr) : (bfs n j d rw).length ≤ 4 := by
  unfold bfs
  have h1 := length_putF "couples" (.int (n : Int)) []
  have h2 := length_putF "judges" (.int (j : Int)) (putF "couples" (.int (n : Int)) [])
  have h3 := length_putF "dances" (.int (d : Int)) (putF "judges" (.int (j : Int)) (putF "couples" (.int (n : Int)) []))
  have h4 := length_putF "rows" (.ref rw) (putF "dances" (.int (d : Int)) (putF "judges" (.int (j : Int)) (putF "couples" (.int (n : Int)) [])))
  simp only [List.length_nil] at h1
  omega
theorem bfs_put (n j d n' j' d' : Nat) (rw rw' : Addr) : putF "rows" (.ref rw') (putF "dances" (.int (d' : Int)) (putF "judges" (.int (j' : Int)) (putF "couples" (.int (n' : Int)) (bfs n j d rw)))) = bfs n' j' d' rw' := by
  with_unfolding_all rfl
end Dn
end
section
set_option Elab.async false
set_option linter.all false
set_option maxRecDepth 100000
set_option maxHeartbeats 4000000
namespace Dn
open PySem PySem.Spec PyProof.Rows L2
def key (e q : Nat) : List Key := [Sum.inl (e : Int), Sum.inl (q : Int)]
theorem key_ne {e q e' q' : Nat} (h : ¬ (e = e' ∧ q = q')) : ¬ key e q = key e' q' := fun z => by
  unfold key at z
  injection z with z1 z2
  injection z2 with z3 _
  injection z1 with z4
  injection z3 with z5
  exact h ⟨by omega, by omega⟩
theorem key_len {e q e' q' : Nat} : key e q = key e' q' ↔ e = e' ∧ q = q' := by
  constructor
  · intro z
    refine Decidable.byContradiction fun h => key_ne h z
  · rintro ⟨rfl, rfl⟩; rfl
/-- the told rows of a contest, in the dict; tl: a list of the caller's, none of the rows -/
structure Rows (tl : Addr) (H : Hp) (kvs : List (List Key × V)) (c : Kdn.Contest) : Prop where
  nn : ∀ e q, look c e q = Option.none → valV kvs (key e q) = Option.none
  sm : ∀ e q r, look c e q = some r → ∃ a, valV kvs (key e q) = some (.ref a) ∧ H a = some (.lst (zV r)) ∧ a ≠ tl
  ct : kvs.length + Kdn.lacking c = c.dances.length * c.judges
/-- what the board at bd holds -/
inductive BoardAt (C tl : Addr) (H : Hp) (bd : Addr) : Option Kdn.Contest → Prop
  | new {dx rw : Addr} : H bd = some (.ins C dx (bfs 0 0 0 rw)) → H rw = some (.dT []) → BoardAt C tl H bd Option.none
  | of {dx rw : Addr} {kvs : List (List Key × V)} {c : Kdn.Contest} : H bd = some (.ins C dx (bfs c.couples c.judges c.dances.length rw)) → H rw = some (.dT kvs) → WF c → Rows tl H kvs c → BoardAt C tl H bd (some c)
theorem Rows.mono {tl : Addr} {H H' : Hp} {kvs : List (List Key × V)} {c : Kdn.Contest} (R : Rows tl H kvs c) (k : ∀ a r, H a = some (.lst (zV r)) → a ≠ tl → H' a = some (.lst (zV r))) : Rows tl H' kvs c :=
  ⟨R.nn, fun e q r z => by
    obtain ⟨a, h1, h2, h3⟩ := R.sm e q r z
    exact ⟨a, h1, k a r h2 h3, h3⟩, R.ct⟩
theorem BoardAt.mono {C tl : Addr} {H H' : Hp} {bd : Addr} {s : Option Kdn.Contest} (sm : Same H H') (B : BoardAt C tl H bd s) : BoardAt C tl H' bd s := by
  cases B with
  | new h1 h2 => exact .new (sm _ _ h1) (sm _ _ h2)
  | of h1 h2 w R => exact .of (sm _ _ h1) (sm _ _ h2) w (R.mono fun a r h _ => sm _ _ h)
/-- the caller's list is changed -/
theorem BoardAt.own {C tl : Addr} {H : Hp} {bd : Addr} {s : Option Kdn.Contest} {xs ys : List V} (h : H tl = some (.lst xs)) (B : BoardAt C tl H bd s) : BoardAt C tl (upd H tl (.lst ys)) bd s := by
  cases B with
  | new h1 h2 => exact .new (by rw [upd_ne (ne_of h1 h (by intro z; cases z))]; exact h1) (by rw [upd_ne (ne_of h2 h (by intro z; cases z))]; exact h2)
  | of h1 h2 w R => exact .of (by rw [upd_ne (ne_of h1 h (by intro z; cases z))]; exact h1) (by rw [upd_ne (ne_of h2 h (by intro z; cases z))]; exact h2) w (R.mono fun a r e n => by rw [upd_ne n]; exact e)
/-- all but objects and dicts is as it was -/
def fx : HO → Bool
  | .ins _ _ _ => false
  | .dK _ => false
  | .dT _ => false
  | _ => true
def Kp (H H' : Hp) : Prop := ∀ b o, H b = some o → fx o = true → H' b = some o
theorem Kp.of {H H' : Hp} (s : Same H H') : Kp H H' := fun b o e _ => s b o e
theorem Kp.trans {H H1 H2 : Hp} (a : Kp H H1) (b : Kp H1 H2) : Kp H H2 := fun x o e f => b x o (a x o e f) f
theorem Kp.seq {K : PySem.W.Frag} {H H' : Hp} {a : Addr} {xs : List V} (e : Kp H H') (h : SqL K H a xs) : SqL K H' a xs := by
  rcases h with (h | ⟨o, h⟩) | h
  · exact .inl (.inl (e _ _ h rfl))
  · exact .inl (.inr ⟨o, e _ _ h rfl⟩)
  · exact .inr h
theorem Kp.put {H : Hp} {p : Addr} {o u : HO} (h : H p = some u) (hf : fx u = false) : Kp H (upd H p o) := fun b v e f => by
  have : b ≠ p := fun z => by
    subst z
    rw [h] at e
    cases e
    rw [hf] at f
    cases f
  rw [upd_ne this]
  exact e
def ansOf (a : Kdn.Ans) : List Int := a.value :: KdnNeutral.ints a.out
/-- the facts of the text that the board leans on -/
structure Txt (K : PySem.W.Frag) (mg : Str → Option Value) (C : Addr) : Prop where
  cl : Cls K C
  fC : NoAttr K C "couples"
  fJ : NoAttr K C "judges"
  fD : NoAttr K C "dances"
  fR : NoAttr K C "rows"
  mgC : mg "Board" = some (.ref C)
  noS : ∃ t, mg "NO_SUCH" = some (.int (-2) t)
  miss : ∃ t, mg "ROW_MISSING" = some (.int (-11) t)
  notA : ∃ t, mg "NOT_AS_TOLD" = some (.int (-22) t)
/-- a method that answers a call of the contest -/
def spAct (C : Addr) (K : PySem.W.Frag) (args : Hp → List V → Kdn.Call → Prop) : Sp := fun vs H Q _ => ∃ (bd tl : Addr) (us : List V) (x : Kdn.Call) (s s' : Option Kdn.Contest) (a : Kdn.Ans), vs = .ref bd :: us ∧ args H us x ∧ H tl ≠ Option.none ∧ BoardAt C tl H bd s ∧ Kdn.acts s x = some (s', a) ∧
  ∀ (H' : Hp) (p : Addr), BoardAt C tl H' bd s' → Kp H H' → H p = Option.none → H' p = some (.lst ((ansOf a).map V.int)) → Q (.ref p) H'
section
variable {P : Program} {w : World} {K : PySem.W.Frag} {mg : Str → Option Value} {base : Heap}
/-! ### __init__ -/
def spInit (C : Addr) : Sp := fun vs H Q _ => ∃ (p dx : Addr), vs = [.ref p] ∧ H p = some (.ins C dx []) ∧ ∀ H' : Hp, (∀ tl, BoardAt C tl H' p Option.none) → (∀ b o, H b = some o → b ≠ p → H' b = some o) → Q .non H'
theorem scInit : FnScope ["self"] ["self"] (defScope sInit) := ⟨rfl, rfl, rfl, by decide +kernel, rfl, by decide +kernel, by decide +kernel⟩
theorem ok_init {f C : Addr} {fd : FuncData} (F : Fun K "__init__" "Board.__init__" sInit f fd) (T : Txt K mg C) : FnOk P w K mg base CX0 1 f fd ["self"] (spInit C) := by
  refine F.ok scInit (fun vs H Q E h => ?_) (fun cdv A outer s H vs Q E hr h => ?_)
  · obtain ⟨p, dx, rfl, _⟩ := h
    rfl
  · obtain ⟨p, dx, rfl, hp, k⟩ := h
    refine ⟨_, pss_cons (ps_fld (pv 0) pe_int rfl) (pss_cons (ps_fld (pv 0) pe_int rfl) (pss_cons (ps_fld (pv 0) pe_int rfl) (pss_one (ps_fld (pv 0) pe_dnewT rfl)))), ?_⟩
    refine ⟨_, rfl, p, C, dx, [], rfl, hp, T.cl, T.fC, (by show 0 < 1000; decide), ?_⟩
    refine ⟨_, rfl, p, C, dx, _, rfl, upd_same, T.cl, T.fJ, (Nat.lt_of_le_of_lt (length_putF ..) (by show 0 + 1 < 1000; decide)), ?_⟩
    refine ⟨_, rfl, p, C, dx, _, rfl, upd_same, T.cl, T.fD, (Nat.lt_of_le_of_lt (length_putF ..) (Nat.lt_of_le_of_lt (Nat.succ_le_succ (length_putF ..)) (by show 0 + 1 + 1 < 1000; decide))), ?_⟩
    rw [upd_upd, upd_upd]
    intro q hq
    have qp : p ≠ q := ne_of_none upd_same hq
    refine ⟨_, rfl, p, C, dx, _, rfl, by rw [upd_ne qp]; exact upd_same, T.cl, T.fR, ?_, ?_⟩
    · refine Nat.lt_of_le_of_lt (length_putF ..) (Nat.lt_of_le_of_lt (Nat.succ_le_succ (length_putF ..)) (Nat.lt_of_le_of_lt (Nat.succ_le_succ (Nat.succ_le_succ (length_putF ..))) ?_))
      show 0 + 1 + 1 + 1 < 1000
      decide
    · refine k _ (fun _ => .new (dx := dx) (rw := q) upd_same (by rw [upd_ne (Ne.symm qp)]; exact upd_same)) fun b o e hb => ?_
      have hH : H q = Option.none := by
        rw [upd_ne (Ne.symm qp)] at hq
        exact hq
      rw [upd_ne hb, upd_ne (ne_of_none e hH), upd_ne hb]
      exact e
/-! ### rows_missing -/
def spMiss (C : Addr) : Sp := fun vs H Q _ => ∃ (bd dx rw : Addr) (n j d : Nat) (kvs : List (List Key × V)), vs = [.ref bd] ∧ H bd = some (.ins C dx (bfs n j d rw)) ∧ H rw = some (.dT kvs) ∧ d ≤ 1000 ∧ Q (.int ((d : Int) * (j : Int) - (kvs.length : Int))) H
theorem scMiss : FnScope ["self"] ["self"] (defScope sMiss) := ⟨rfl, rfl, rfl, by decide +kernel, rfl, by decide +kernel, by decide +kernel⟩
theorem ok_miss {f C : Addr} {fd : FuncData} (F : Fun K "rows_missing" "Board.rows_missing" sMiss f fd) (T : Txt K mg C) (B : Blt mg) : FnOk P w K mg base CX0 1 f fd ["self"] (spMiss C) := by
  refine F.ok scMiss (fun vs H Q E h => ?_) (fun cdv A outer s H vs Q E hr h => ?_)
  · obtain ⟨bd, dx, rw, n, j, d, kvs, rfl, _⟩ := h
    rfl
  · obtain ⟨bd, dx, rw, n, j, d, kvs, rfl, hb, hk, hd, k⟩ := h
    refine ⟨_, pss_one (ps_ret (pe_op op_sub (pe_op op_mul (pe_fld (pv 0) rfl) (pe_fld (pv 0) rfl)) (pe_callB call_lenT rfl B.len PySem.boot_len (pa_cons (pe_fld (pv 0) rfl) pa_nil)))), ?_⟩
    exact ⟨_, rfl, bd, C, dx, _, _, rfl, hb, T.cl, T.fD, bfs_dances _ _ _ _, _, rfl, bd, C, dx, _, _, rfl, hb, T.cl, T.fJ, bfs_judges _ _ _ _, _, _, rfl, rfl, .inl ⟨by omega, by omega⟩, _, rfl, bd, C, dx, _, _, rfl, hb, T.cl, T.fR, bfs_rows _ _ _ _, rw, kvs, rfl, hk, _, _, rfl, rfl, k⟩
/-! ### start -/
def argStart : Hp → List V → Kdn.Call → Prop := fun _ us x => ∃ n j d : Nat, us = [.int (n : Int), .int (j : Int), .int (d : Int)] ∧ x = .start n j d
theorem scStart : FnScope ["self", "couples", "judges", "dances"] ["self", "couples", "judges", "dances"] (defScope sStart) := ⟨rfl, rfl, rfl, by decide +kernel, rfl, by decide +kernel, by decide +kernel⟩
theorem acts_start (s : Option Kdn.Contest) (n j d : Nat) : Kdn.acts s (.start n j d) = some (if fit n j d = true then (some (Kdn.begun n j d), Kdn.say 0) else (s, Kdn.say (-22))) := by
  unfold Kdn.acts fit
  by_cases h : 2 ≤ n ∧ n ≤ 12 ∧ 3 ≤ j ∧ j ≤ 15 ∧ j % 2 = 1 ∧ 1 ≤ d ∧ d ≤ 5
  · rw [if_pos (decide_eq_true h)]
    simp only
    rw [if_neg (by omega)]
  · rw [if_neg (by rw [decide_eq_true_iff]; exact h)]
    simp only
    rw [if_pos (by omega)]
theorem ok_start {f fF C : Addr} {fd fdF : FuncData} (F : Fun K "start" "Board.start" sStart f fd) (T : Txt K mg C) (FF : Fun K "sizes_fit" "sizes_fit" sFit fF fdF) (bF : Binds K fdF ["couples", "judges", "dances"] []) (mF : mg "sizes_fit" = some (.ref fF)) :
    FnOk P w K mg base CX0 2 f fd ["self", "couples", "judges", "dances"] (spAct C K argStart) := by
  have GF : FnOk P w K mg base CX0 1 fF fdF ["couples", "judges", "dances"] spFit := ok_fit FF
  refine F.ok scStart (fun vs H Q E h => ?_) (fun cdv A outer s H vs Q E hr h => ?_)
  · obtain ⟨bd, tl, us, x, s, s', a, rfl, ⟨n, j, d, rfl, rfl⟩, _⟩ := h
    rfl
  · obtain ⟨bd, tl, us, x, st, s', a, rfl, ⟨n, j, d, rfl, rfl⟩, htl, hB, ha, k⟩ := h
    obtain ⟨tA, hA⟩ := T.notA
    refine ⟨_, pss_cons (ps_if (pt_not (pt_val (pe_call GF hr rfl mF FF.kp bF .nil pass0 (pa_cons (pv 1) (pa_cons (pv 2) (pa_cons (pv 3) pa_nil)))))) (pss_one (ps_ret (pe_lst (pa_cons (pe_glob (v := .int (-22)) rfl hA ⟨tA, rfl⟩) pa_nil)))) pss_nil)
      (pss_cons (ps_fld (pv 0) (pv 1) rfl) (pss_cons (ps_fld (pv 0) (pv 2) rfl) (pss_cons (ps_fld (pv 0) (pv 3) rfl) (pss_cons (ps_fld (pv 0) pe_dnewT rfl) (pss_one (ps_ret (pe_lst (pa_cons pe_int pa_nil)))))))), ?_⟩
    rw [acts_start] at ha
    refine ⟨_, rfl, _, rfl, _, rfl, n, j, d, rfl, _, rfl, ?_⟩
    dsimp only
    refine ite2 (fun q => ?_) (fun q => ?_)
    · have q1 : fit n j d = false := by simpa using q
      rw [q1, if_neg Bool.false_ne_true] at ha
      injection ha with ha
      injection ha with h1 h2
      subst h1 h2
      refine ⟨(by show 1 ≤ sizeLine; decide), fun p hp => ?_⟩
      exact k _ p (hB.mono (Same.new hp)) (Kp.of (Same.new hp)) hp upd_same
    · have q1 : fit n j d = true := by simpa using q
      rw [q1, if_pos rfl] at ha
      injection ha with ha
      injection ha with h1 h2
      subst h1 h2
      have hf := of_decide_eq_true q1
      -- the board, whatever it held
      obtain ⟨dx, rw, n0, j0, d0, hb⟩ : ∃ dx rw n0 j0 d0, H bd = some (.ins C dx (bfs n0 j0 d0 rw)) := by
        cases hB with
        | new h1 _ => exact ⟨_, _, _, _, _, h1⟩
        | of h1 _ _ _ => exact ⟨_, _, _, _, _, h1⟩
      have bl := bfs_len n0 j0 d0 rw
      refine ⟨_, rfl, _, rfl, bd, C, dx, _, rfl, hb, T.cl, T.fC, by omega, ?_⟩
      refine ⟨_, rfl, _, rfl, bd, C, dx, _, rfl, upd_same, T.cl, T.fJ, Nat.lt_of_le_of_lt (length_putF ..) (by omega), ?_⟩
      refine ⟨_, rfl, _, rfl, bd, C, dx, _, rfl, upd_same, T.cl, T.fD, Nat.lt_of_le_of_lt (length_putF ..) (Nat.lt_of_le_of_lt (Nat.succ_le_succ (length_putF ..)) (by omega)), ?_⟩
      rw [upd_upd, upd_upd]
      intro q hq
      have qp : bd ≠ q := ne_of_none upd_same hq
      have hH : H q = Option.none := by
        rw [upd_ne (Ne.symm qp)] at hq
        exact hq
      refine ⟨_, rfl, bd, C, dx, _, rfl, by rw [upd_ne qp]; exact upd_same, T.cl, T.fR, Nat.lt_of_le_of_lt (length_putF ..) (Nat.lt_of_le_of_lt (Nat.succ_le_succ (length_putF ..)) (Nat.lt_of_le_of_lt (Nat.succ_le_succ (Nat.succ_le_succ (length_putF ..))) (by omega))), ?_⟩
      rw [bfs_put]
      refine ⟨(by show 1 ≤ sizeLine; decide), fun p hp => ?_⟩
      have kp1 : Kp H (upd (upd (upd H bd (.ins C dx (putF "dances" (.int (d : Int)) (putF "judges" (.int (j : Int)) (putF "couples" (.int (n : Int)) (bfs n0 j0 d0 rw)))))) q (.dT [])) bd (.ins C dx (bfs n j d q))) := fun b o e fo => by
        have hb' : b ≠ bd := fun z => by subst z; rw [hb] at e; cases e; cases fo
        rw [upd_ne hb', upd_ne (ne_of_none e hH), upd_ne hb']
        exact e
      have hpH : H p = Option.none := by
        cases z : H p with
        | none => rfl
        | some o =>
          exfalso
          by_cases y : p = bd
          · subst y; rw [upd_same] at hp; cases hp
          · rw [upd_ne y, upd_ne (ne_of_none z hH), upd_ne y, z] at hp; cases hp
      refine k _ p ?_ (kp1.trans (Kp.of (Same.new hp))) hpH upd_same
      refine BoardAt.mono (Same.new hp) (.of (dx := dx) (rw := q) (kvs := []) ?_ (by rw [upd_ne (Ne.symm qp), upd_same]) (WF.begun hf) ⟨fun _ _ _ => rfl, fun e q r z => ?_, ?_⟩)
      · rw [upd_same]
        show _ = some (HO.ins C dx (bfs n j (List.replicate d _).length q))
        rw [List.length_replicate]
      · rw [look_begun] at z; cases z
      · rw [lacking_eq]
        show 0 + lackL (List.replicate d (List.replicate j none)) = (List.replicate d _).length * j
        rw [lackL_rep, List.length_replicate]
        omega
end
end Dn
end
section
set_option Elab.async false
set_option linter.all false
set_option maxRecDepth 100000
set_option maxHeartbeats 4000000
namespace Dn
open PySem PySem.Spec PyProof.Rows L2
theorem putK_len {kvs : List (List Key × V)} {k : List Key} {v : V} : (putK kvs k v).length = kvs.length + (if valV kvs k = Option.none then 1 else 0) := by
  cases h : valV kvs k with
  | none => rw [putK_new v h, if_pos rfl]; simp
  | some x =>
    rw [if_neg (by simp)]
    unfold putK
    rw [valV_any, h]
    simp
theorem acts_mark (c : Kdn.Contest) (d j : Nat) (r : List Nat) : Kdn.acts (some c) (.mark d j r) = some (if c.dances.length ≤ d ∨ c.judges ≤ j then (some c, Kdn.say (-2)) else if Kdn.permutes c.couples r = false then (some c, Kdn.say (-22)) else (some (Kdn.marked c d j r), Kdn.say (Kdn.lacking (Kdn.marked c d j r) : Nat))) := rfl
theorem acts_dance (c : Kdn.Contest) (d : Nat) : Kdn.acts (some c) (.dance d) = some (some c, if c.dances.length ≤ d then Kdn.say (-2) else match Kdn.rowsOf (c.dances.getD d []) with
    | none => Kdn.say (-11)
    | some rows => ⟨0, Kdn.danceOf c.couples rows⟩) := rfl
section
variable {P : Program} {w : World} {K : PySem.W.Frag} {mg : Str → Option Value} {base : Heap}
/-! ### mark -/
def argMark (K : PySem.W.Frag) : Hp → List V → Kdn.Call → Prop := fun H us x => ∃ (d j : Nat) (a : Addr) (r : List Nat), us = [.int (d : Int), .int (j : Int), .ref a] ∧ SqL K H a (zV r) ∧ r.length < 64 ∧ x = .mark d j r
theorem scMark : FnScope ["self", "dance", "judge", "places"] ["self", "dance", "judge", "places"] (defScope sMark) := ⟨rfl, rfl, rfl, by decide +kernel, rfl, by decide +kernel, by decide +kernel⟩
theorem ok_mark {f fR fM C : Addr} {fd fdR fdM : FuncData} (F : Fun K "mark" "Board.mark" sMark f fd) (T : Txt K mg C) (B : Blt mg) (FR : Fun K "is_row" "is_row" sRow fR fdR) (bR : Binds K fdR ["places", "couples"] []) (mR : mg "is_row" = some (.ref fR))
    (FM : Fun K "rows_missing" "Board.rows_missing" sMiss fM fdM) (bM : Binds K fdM ["self"] []) (mM : Meth K C "rows_missing" fM) :
    FnOk P w K mg base CX0 2 f fd ["self", "dance", "judge", "places"] (spAct C K (argMark K)) := by
  have GR : FnOk P w K mg base CX0 1 fR fdR ["places", "couples"] (spRow K) := ok_row FR B
  have GM : FnOk P w K mg base CX0 1 fM fdM ["self"] (spMiss C) := ok_miss FM T B
  refine F.ok scMark (fun vs H Q E h => ?_) (fun cdv A outer s H vs Q E hr h => ?_)
  · obtain ⟨bd, tl, us, x, s, s', a, rfl, ⟨d, j, a, r, rfl, _⟩, _⟩ := h
    rfl
  · obtain ⟨bd, tl, us, x, st, s', a, rfl, ⟨d, j, pa, r, rfl, hr', h64, rfl⟩, htl, hB, ha, k⟩ := h
    cases st with
    | none => cases ha
    | some c =>
      obtain ⟨tS, hS⟩ := T.noS
      obtain ⟨tA, hA⟩ := T.notA
      have hu := hu_of hr
      refine ⟨_, pss_cons (ps_if (PW.pt (pw_or (pt_cmpR op_ge (pv 1) (pe_fld (pv 0) rfl) (nomark _)) (pw_or1 (pt_cmpR op_ge (pv 2) (pe_fld (pv 0) rfl) (nomark _))))) (pss_one (ps_ret (pe_lst (pa_cons (pe_glob (v := .int (-2)) rfl hS ⟨tS, rfl⟩) pa_nil)))) pss_nil)
        (pss_cons (ps_if (pt_not (pt_val (pe_call GR hr rfl mR FR.kp bR .nil pass0 (pa_cons (pv 3) (pa_cons (pe_fld (pv 0) rfl) pa_nil))))) (pss_one (ps_ret (pe_lst (pa_cons (pe_glob (v := .int (-22)) rfl hA ⟨tA, rfl⟩) pa_nil)))) pss_nil)
        (pss_cons (ps_dput hu (pe_fld (pv 0) rfl) (pe_tup (pa_cons (pv 1) (pa_cons (pv 2) pa_nil))) (pe_callTy call_list_of rfl B.list PyProof.Rows.boot_list (pa_cons (pv 3) pa_nil)) rfl)
        (pss_one (ps_ret (pe_lst (pa_cons (pe_meth0 (pv 0) T.cl mM GM hr bM .nil pass0) pa_nil)))))), ?_⟩
      cases hB with
      | @of dx rw kvs c h1 h2 W R =>
        rw [acts_mark] at ha
        have n12 := W.n12
        have d5 := W.d5
        have j15 := W.j15
        -- an answer that leaves the board
        have quit : ∀ (z : Int) (H1 : Hp), Same H H1 → Kdn.acts (some c) (.mark d j r) = some (some c, Kdn.say z) → ∀ p, H1 p = Option.none → Q (.ref p) (upd H1 p (.lst [.int z])) := fun z H1 s1 e p hp => by
          rw [acts_mark, ha] at e
          injection e with e
          injection e with e1 e2
          subst e1 e2
          have s2 : Same H (upd H1 p (.lst [.int z])) := s1.trans (Same.new hp)
          exact k _ p (BoardAt.mono s2 (.of h1 h2 W R)) (Kp.of s2) (s1.free hp) upd_same
        refine ⟨_, rfl, _, rfl, bd, C, dx, _, _, rfl, h1, T.cl, T.fD, bfs_dances _ _ _ _, _, _, rfl, rfl, _, rfl, ?_⟩
        dsimp only
        refine ite2 (fun q => ?_) (fun q => ?_)
        · have q1 := of_decide_eq_true q
          rw [if_pos rfl]
          refine ⟨(by show 1 ≤ sizeLine; decide), fun p hp => quit (-2) H (Same.refl H) ?_ p hp⟩
          rw [acts_mark, if_pos (.inl (by omega))]
        · have q1 := of_decide_eq_false (Bool.eq_false_iff.mpr q)
          refine ⟨_, rfl, _, rfl, bd, C, dx, _, _, rfl, h1, T.cl, T.fJ, bfs_judges _ _ _ _, _, _, rfl, rfl, _, rfl, ?_⟩
          dsimp only
          refine ite2 (fun q => ?_) (fun q => ?_)
          · have q2 := of_decide_eq_true q
            refine ⟨(by show 1 ≤ sizeLine; decide), fun p hp => quit (-2) H (Same.refl H) ?_ p hp⟩
            rw [acts_mark, if_pos (.inr (by omega))]
          · have q2 := of_decide_eq_false (Bool.eq_false_iff.mpr q)
            have nh : ¬ (c.dances.length ≤ d ∨ c.judges ≤ j) := by omega
            -- if not is_row(places, self.couples)
            refine ⟨_, rfl, _, rfl, bd, C, dx, _, _, rfl, h1, T.cl, T.fC, bfs_couples _ _ _ _, pa, r, c.couples, rfl, hr', h64, by omega, fun H1 s1 => ?_⟩
            refine ⟨_, rfl, ?_⟩
            dsimp only
            refine ite2 (fun q => ?_) (fun q => ?_)
            · have q3 : Kdn.permutes c.couples r = false := by simpa using q
              refine ⟨(by show 1 ≤ sizeLine; decide), fun p hp => quit (-22) H1 s1 ?_ p hp⟩
              rw [acts_mark, if_neg nh, if_pos q3]
            · have q3 : Kdn.permutes c.couples r = true := by simpa using q
              rw [if_neg nh, if_neg (by rw [q3]; simp)] at ha
              injection ha with ha
              injection ha with e1 e2
              subst e1 e2
              -- self.rows[dance, judge] = list(places)
              refine ⟨_, rfl, pa, _, rfl, .inl (s1.seq hr'), fun l hl => ?_⟩
              have s2 : Same H (upd H1 l (.lst (zV r))) := s1.trans (Same.new hl)
              refine ⟨_, rfl, bd, C, dx, _, _, rfl, s2 _ _ h1, T.cl, T.fR, bfs_rows _ _ _ _, _, rfl, _, rfl, (by show 2 ≤ sizeLine; decide), fun t ht => ?_⟩
              have s3 : Same H (upd (upd H1 l (.lst (zV r))) t (.tup [.int (d : Int), .int (j : Int)])) := s2.trans (Same.new ht)
              have hl3 : upd (upd H1 l (.lst (zV r))) t (.tup [.int (d : Int), .int (j : Int)]) l = some (.lst (zV r)) := Same.new ht _ _ upd_same
              have hlH : H l = Option.none := s1.free hl
              have ct := R.ct
              have dj : c.dances.length * c.judges ≤ 5 * 15 := Nat.mul_le_mul d5 j15
              refine ⟨rw, _, rfl, DPut.t (k := key d j) (s3 _ _ h2) upd_same (small1000 (by omega)), ?_⟩
              generalize upd (upd H1 l (.lst (zV r))) t (.tup [.int (d : Int), .int (j : Int)]) = H3 at s3 hl3
              have h23 := s3 _ _ h2
              have brw : bd ≠ rw := ne_of h1 h2 (by intro z; cases z)
              have h14 : upd H3 rw (.dT (putK kvs (key d j) (.ref l))) bd = some (.ins C dx (bfs c.couples c.judges c.dances.length rw)) := by rw [upd_ne brw]; exact s3 _ _ h1
              -- return [self.rows_missing()]
              refine ⟨_, rfl, bd, dx, _, rfl, h14, bfs_no _ _ _ _ (by decide +kernel) (by decide +kernel) (by decide +kernel) (by decide +kernel), bd, dx, rw, _, _, _, _, rfl, h14, upd_same, by omega, (by show 1 ≤ sizeLine; decide), fun p hp => ?_⟩
              have hd' : d < c.dances.length := by omega
              have hj' : j < (c.dances.getD d []).length := by rw [W.wideD hd']; omega
              have lk := lackL_set r c.dances d j hd' hj'
              have lm : Kdn.lacking (Kdn.marked c d j r) = lackL (c.dances.set d ((c.dances.getD d []).set j (some r))) := rfl
              have lc := lacking_eq c
              have hvn : valV kvs (key d j) = Option.none ↔ look c d j = Option.none := by
                constructor
                · intro z
                  cases y : look c d j with
                  | none => rfl
                  | some r0 =>
                    obtain ⟨a0, z1, _, _⟩ := R.sm d j r0 y
                    rw [z] at z1
                    cases z1
                · exact R.nn d j
              have cnt : (putK kvs (key d j) (.ref l)).length + Kdn.lacking (Kdn.marked c d j r) = c.dances.length * c.judges := by
                rw [putK_len]
                have lk' : lackL (c.dances.set d ((c.dances.getD d []).set j (some r))) + (if look c d j = Option.none then 1 else 0) = lackL c.dances := lk
                by_cases z : look c d j = Option.none
                · rw [if_pos (hvn.mpr z)]
                  rw [if_pos z] at lk'
                  omega
                · rw [if_neg (fun y => z (hvn.mp y))]
                  rw [if_neg z] at lk'
                  omega
              have ev : ((c.dances.length : Int) * (c.judges : Int) - ((putK kvs (key d j) (.ref l)).length : Int)) = ((Kdn.lacking (Kdn.marked c d j r) : Nat) : Int) := by
                have : ((c.dances.length * c.judges : Nat) : Int) = (c.dances.length : Int) * (c.judges : Int) := by push_cast; rfl
                omega
              rw [ev] at *
              have hpH : H p = Option.none := by
                cases z : H p with
                | none => rfl
                | some o =>
                  exfalso
                  by_cases y : p = rw
                  · subst y; rw [upd_same] at hp; cases hp
                  · rw [upd_ne y, s3 _ _ z] at hp; cases hp
              have kp : Kp H (upd H3 rw (.dT (putK kvs (key d j) (.ref l)))) := (Kp.of s3).trans (Kp.put h23 rfl)
              have B4 : BoardAt C tl (upd H3 rw (.dT (putK kvs (key d j) (.ref l)))) bd (some (Kdn.marked c d j r)) := by
                refine .of (dx := dx) (rw := rw) (kvs := putK kvs (key d j) (.ref l)) ?_ upd_same (W.marked hd' (by omega) q3) ⟨fun e q z => ?_, fun e q r' z => ?_, ?_⟩
                · rw [h14]
                  show _ = some (HO.ins C dx (bfs c.couples c.judges (c.dances.set d _).length rw))
                  rw [List.length_set]
                · rw [look_marked hd' hj'] at z
                  by_cases y : e = d ∧ q = j
                  · rw [if_pos y] at z; cases z
                  · rw [if_neg y] at z
                    rw [valV_put, if_neg (key_ne y)]
                    exact R.nn e q z
                · rw [look_marked hd' hj'] at z
                  by_cases y : e = d ∧ q = j
                  · rw [if_pos y] at z
                    cases z
                    refine ⟨l, by rw [valV_put, if_pos (key_len.mpr y)], ?_, fun z => htl (by rw [← z]; exact hlH)⟩
                    rw [upd_ne (ne_of hl3 h23 (by intro z; cases z))]
                    exact hl3
                  · rw [if_neg y] at z
                    obtain ⟨a0, z1, z2, z3⟩ := R.sm e q r' z
                    refine ⟨a0, by rw [valV_put, if_neg (key_ne y)]; exact z1, ?_, z3⟩
                    rw [upd_ne (ne_of z2 h2 (by intro z; cases z))]
                    exact s3 _ _ z2
                · rw [cnt]
                  show _ = (c.dances.set d _).length * c.judges
                  rw [List.length_set]
              exact k _ p (B4.mono (Same.new hp)) (kp.trans (Kp.of (Same.new hp))) hpH upd_same
end
end Dn
end
section
set_option Elab.async false
set_option linter.all false
set_option maxRecDepth 100000
set_option maxHeartbeats 4000000
namespace Dn
open PySem PySem.Spec PyProof.Rows L2
/-- an attribute, in a comprehension -/
theorem pe_fldK {X : Cx} {K : PySem.W.Frag} {e : Expr} {ta : TE} {f : Str} {pos : Pos} (hK : X.K = K) (he : PE X e ta) (hb : attributeBase e f X.env (eval e X.env) = eval e X.env) : PE X (.Attribute e f pos) (tFld K ta f) := by
  subst hK
  exact pe_fld he hb
/-- the rows told of a dance, in the judges' order -/
def told (c : Kdn.Contest) (e : Nat) : List (List Nat) := (c.dances.getD e []).filterMap id
theorem told_take {c : Kdn.Contest} (W : WF c) {e i : Nat} (he : e < c.dances.length) (hi : i < c.judges) : (c.dances.getD e [])[i]? = some (look c e i) := by
  have : i < (c.dances.getD e []).length := by rw [W.wideD he]; exact hi
  unfold look
  rw [List.getD_eq_getElem?_getD (l := c.dances.getD e []), List.getElem?_eq_getElem this]
  rfl
theorem told_len {c : Kdn.Contest} (W : WF c) {e : Nat} (he : e < c.dances.length) : (told c e).length ≤ c.judges := by
  unfold told
  have h := List.length_filterMap_le id (c.dances.getD e [])
  rw [W.wideD he] at h
  exact h
section
variable {P : Program} {w : World} {K : PySem.W.Frag} {mg : Str → Option Value} {base : Heap}
/-! ### rows_of -/
def spRowsOf (C : Addr) (K : PySem.W.Frag) : Sp := fun vs H Q _ => ∃ (bd tl : Addr) (e : Nat) (c : Kdn.Contest), vs = [.ref bd, .int (e : Int)] ∧ BoardAt C tl H bd (some c) ∧ e < c.dances.length ∧
  ∀ (H' : Hp) (p : Addr), Same H H' → H p = Option.none → Dp K H' (.ref p) (rowsD (told c e)) → Q (.ref p) H'
abbrev nRowsOf : List Str := ["self", "dance", "judge"]
theorem scRowsOf : FnScope nRowsOf ["self", "dance"] (defScope sRowsOf) := ⟨rfl, rfl, rfl, by decide +kernel, rfl, by decide +kernel, by decide +kernel⟩
theorem ok_rowsOf {f C : Addr} {fd : FuncData} (F : Fun K "rows_of" "Board.rows_of" sRowsOf f fd) (T : Txt K mg C) (B : Blt mg) : FnOk P w K mg base CX0 1 f fd ["self", "dance"] (spRowsOf C K) := by
  refine F.ok scRowsOf (fun vs H Q E h => ?_) (fun cdv A outer s H vs Q E hr h => ?_)
  · obtain ⟨bd, tl, e, c, rfl, _⟩ := h
    rfl
  · obtain ⟨bd, tl, e, c, rfl, hB, he, k⟩ := h
    have hu := hu_of hr
    refine ⟨_, pss_one (ps_ret (pe_lc (own := [("judge", 2)]) rfl scRowsOf.nd (pi_range1 rfl B.range (pa_cons (pe_fld (pv 0) rfl) pa_nil)) (blkOk_by (N := nRowsOf) (sc := defScope sRowsOf) (by decide +kernel)) (fun _ _ _ _ _ => pg_name (i := 2) scRowsOf.nd rfl (Or.inl rfl))
      (fun _ _ _ _ _ => pts_one (pt_cmp (pc_din hu (pe_tup (pa_cons (pv 1) (pa_cons (pv 2) pa_nil))) (pe_fldK (K := K) rfl (pv 0) rfl)) rfl))
      (fun _ _ _ _ _ => pe_dget hu (pe_fldK (K := K) rfl (pv 0) rfl) (pe_tup (pa_cons (pv 1) (pa_cons (pv 2) pa_nil))) (fun _ _ => rfl)))), ?_⟩
    cases hB with
    | @of dx rw kvs c h1 h2 W R =>
      have j15 := W.j15
      refine ⟨_, rfl, bd, C, dx, _, _, rfl, h1, T.cl, T.fJ, bfs_judges _ _ _ _, (c.judges : Int), rfl, by omega, by omega, fun D hD => ?_⟩
      have en0 : ((c.judges : Int)).toNat = c.judges := by omega
      rw [en0]
      refine lc_range (n := c.judges) (fun i H' => i ≤ c.judges ∧ Same H H' ∧ ∃ xs, H' D = some (.lst xs) ∧ DpAll K (hid D H') xs ((((c.dances.getD e []).take i).filterMap id).map rowD)) ⟨Nat.zero_le _, Same.new hD, [], upd_same, .nil⟩ ?_ ?_
      · rintro i H' hi ⟨_, sm, xs, hx, hda⟩
        have ek : ([V.int (e : Int), V.int (0 + (i : Int))]) = (key e i).map kV := by rw [Int.zero_add]; rfl
        have tk := told_take W he hi
        obtain ⟨l1, _⟩ := dpAll_at hda
        have l2 := List.length_filterMap_le id ((c.dances.getD e []).take i)
        rw [List.length_map] at l1
        rw [List.length_take] at l2
        refine ⟨rfl, ?_⟩
        refine ⟨_, rfl, _, rfl, (by show 2 ≤ sizeLine; decide), fun t ht => ?_⟩
        have tD : t ≠ D := fun z => by rw [z, hx] at ht; cases ht
        have s1 : Same H (upd H' t (.tup [.int (e : Int), .int (0 + (i : Int))])) := sm.trans (Same.new ht)
        refine ⟨_, rfl, bd, C, dx, _, _, rfl, s1 _ _ h1, T.cl, T.fR, bfs_rows _ _ _ _, rw, _, rfl, DGet.t (k := key e i) (s1 _ _ h2) (upd_same.trans (congrArg (fun z => some (HO.tup z)) ek)), _, rfl, ?_⟩
        dsimp only
        cases lk : look c e i with
        | none =>
          rw [R.nn e i lk]
          refine iteF ?_
          rw [lk] at tk
          refine ⟨hi, s1, xs, by rw [upd_ne (Ne.symm tD)]; exact hx, ?_⟩
          rw [take_snoc tk, List.filterMap_append, hid_upd_ne tD]
          show DpAll K _ xs (((((c.dances.getD e []).take i).filterMap id) ++ []).map rowD)
          rw [List.append_nil]
          exact DpAll.mono (Same.new (hid_new ht)) _ _ hda
        | some r =>
          obtain ⟨a, va, ha, _⟩ := R.sm e i r lk
          rw [va]
          refine iteT ?_
          rw [lk] at tk
          refine ⟨_, rfl, bd, C, dx, _, _, rfl, s1 _ _ h1, T.cl, T.fR, bfs_rows _ _ _ _, _, rfl, _, rfl, (by show 2 ≤ sizeLine; decide), fun t2 ht2 => ?_⟩
          have t2D : t2 ≠ D := fun z => by rw [z, upd_ne (Ne.symm tD), hx] at ht2; cases ht2
          have s2 : Same H (upd (upd H' t (.tup [.int (e : Int), .int (0 + (i : Int))])) t2 (.tup [.int (e : Int), .int (0 + (i : Int))])) := s1.trans (Same.new ht2)
          have dg := DGet.t (k := key e i) (s2 _ _ h2) (upd_same.trans (congrArg (fun z => some (HO.tup z)) ek))
          rw [va] at dg
          refine ⟨rw, _, rfl, dg, xs, by rw [upd_ne (Ne.symm t2D), upd_ne (Ne.symm tD)]; exact hx, small1000 (by omega), hi, s2.put hD, _, upd_same, ?_⟩
          have aD : a ≠ D := ne_of_none ha hD
          rw [hid_upd, take_snoc tk, List.filterMap_append, List.map_append, hid_upd_ne t2D, hid_upd_ne tD]
          have s3 : Same (hid D H') (upd (upd (hid D H') t (.tup [.int (e : Int), .int (0 + (i : Int))])) t2 (.tup [.int (e : Int), .int (0 + (i : Int))])) := by
            refine (Same.new (hid_new ht)).trans (Same.new ?_)
            have ht2' := hid_new (D := D) ht2
            rw [hid_upd_ne tD] at ht2'
            exact ht2'
          refine DpAll.snoc (DpAll.mono s3 _ _ hda) (row_dp (SqL.of (s3 _ _ ?_)))
          rw [hid_ne aD]
          exact sm _ _ ha
      · rintro H' ⟨_, sm, xs, hx, hda⟩
        rw [List.take_of_length_le (by rw [W.wideD he]; exact Nat.le_refl _)] at hda
        exact k H' D sm hD (.lst (SqL.of hx) (DpAll.mono hid_same _ _ hda))
/-! ### dance -/
def argDance : Hp → List V → Kdn.Call → Prop := fun _ us x => ∃ d : Nat, us = [.int (d : Int)] ∧ x = .dance d
abbrev nDance : List Str := ["self", "dance", "rows"]
theorem scDance : FnScope nDance ["self", "dance"] (defScope sDance) := ⟨rfl, rfl, rfl, by decide +kernel, rfl, by decide +kernel, by decide +kernel⟩
theorem ok_dance {f fR fD C : Addr} {fd fdR fdD : FuncData} (F : Fun K "dance" "Board.dance" sDance f fd) (T : Txt K mg C) (B : Blt mg)
    (FR : Fun K "rows_of" "Board.rows_of" sRowsOf fR fdR) (bR : Binds K fdR ["self", "dance"] []) (mR : Meth K C "rows_of" fR)
    (FD : Fun K "dance_places" "dance_places" sDpl fD fdD) (bD : Binds K fdD ["rows", "couples"] []) (mD : mg "dance_places" = some (.ref fD)) (GD : FnOk P w K mg base CX0 3 fD fdD ["rows", "couples"] (spDpl K)) :
    FnOk P w K mg base CX0 4 f fd ["self", "dance"] (spAct C K argDance) := by
  have GR : FnOk P w K mg base CX0 1 fR fdR ["self", "dance"] (spRowsOf C K) := ok_rowsOf FR T B
  refine F.ok scDance (fun vs H Q E h => ?_) (fun cdv A outer s H vs Q E hr h => ?_)
  · obtain ⟨bd, tl, us, x, s, s', a, rfl, ⟨d, rfl, _⟩, _⟩ := h
    rfl
  · obtain ⟨bd, tl, us, x, st, s', a, rfl, ⟨d, rfl, rfl⟩, htl, hB, ha, k⟩ := h
    cases st with
    | none => cases ha
    | some c =>
      obtain ⟨tS, hS⟩ := T.noS
      obtain ⟨tM, hM⟩ := T.miss
      have r1 : Room 1 _ := hr.mono (by decide)
      refine ⟨_, pss_cons (ps_if (pt_cmpR op_ge (pv 1) (pe_fld (pv 0) rfl) (nomark _)) (pss_one (ps_ret (pe_lst (pa_cons (pe_glob (v := .int (-2)) rfl hS ⟨tS, rfl⟩) pa_nil)))) pss_nil)
        (pss_cons (ps_set (i := 2) scDance.nd rfl (Or.inl rfl) (pe_meth (pv 0) T.cl mR GR r1 bR .nil pass0 (pa_cons (pv 1) pa_nil)))
        (pss_cons (ps_if (pt_cmpR op_lt (pe_callB call_len_seq rfl B.len PySem.boot_len (pa_cons (pv 2) pa_nil)) (pe_fld (pv 0) rfl) (nomark _)) (pss_one (ps_ret (pe_lst (pa_cons (pe_glob (v := .int (-11)) rfl hM ⟨tM, rfl⟩) pa_nil)))) pss_nil)
        (pss_one (ps_ret (pe_op op_cat (pe_lst (pa_cons pe_int pa_nil)) (pe_call GD hr rfl mD FD.kp bD .nil pass0 (pa_cons (pv 2) (pa_cons (pe_fld (pv 0) rfl) pa_nil)))))))), ?_⟩
      have hB' := hB
      cases hB with
      | @of dx rw kvs c h1 h2 W R =>
        rw [acts_dance] at ha
        injection ha with ha
        injection ha with e1 e2
        subst e1
        -- an answer that leaves the board
        have quit : ∀ (H1 : Hp) (p : Addr), Same H H1 → H p = Option.none → H1 p = some (.lst ((ansOf a).map V.int)) → Q (.ref p) H1 := fun H1 p s1 hp h => k H1 p (hB'.mono s1) (Kp.of s1) hp h
        refine ⟨_, rfl, _, rfl, bd, C, dx, _, _, rfl, h1, T.cl, T.fD, bfs_dances _ _ _ _, _, _, rfl, rfl, _, rfl, ?_⟩
        dsimp only
        refine ite2 (fun q => ?_) (fun q => ?_)
        · have q1 := of_decide_eq_true q
          rw [if_pos (by omega)] at e2
          subst e2
          refine ⟨(by show 1 ≤ sizeLine; decide), fun p hp => quit _ p (Same.new hp) hp upd_same⟩
        · have q1 := of_decide_eq_false (Bool.eq_false_iff.mpr q)
          rw [if_neg (by omega)] at e2
          have hd : d < c.dances.length := by omega
          refine ⟨_, rfl, bd, dx, _, rfl, h1, bfs_no _ _ _ _ (by decide +kernel) (by decide +kernel) (by decide +kernel) (by decide +kernel), _, rfl, bd, tl, d, c, rfl, hB', hd, fun H1 pr s1 fr dr => ?_⟩
          obtain ⟨a1, xs, e1, hs, _, hl, _⟩ := dp_list dr
          cases e1
          have re := rowsOf_eq (c.dances.getD d [])
          rw [W.wideD hd] at re
          refine ⟨_, rfl, pr, _, rfl, .inl hs, _, rfl, bd, C, dx, _, _, rfl, s1 _ _ h1, T.cl, T.fJ, bfs_judges _ _ _ _, _, _, rfl, rfl, _, rfl, ?_⟩
          dsimp only
          refine ite2 (fun q => ?_) (fun q => ?_)
          · have q2 := of_decide_eq_true q
            have q3 : ((c.dances.getD d []).filterMap id).length < c.judges := by
              have : xs.length = (told c d).length := hl
              unfold told at this
              omega
            rw [if_pos q3] at re
            rw [re] at e2
            subst e2
            refine ⟨(by show 1 ≤ sizeLine; decide), fun p hp => quit _ p (s1.trans (Same.new hp)) (s1.free hp) upd_same⟩
          · have q2 := of_decide_eq_false (Bool.eq_false_iff.mpr q)
            have hl' : xs.length = (told c d).length := hl
            have q3 : ¬ ((c.dances.getD d []).filterMap id).length < c.judges := by
              unfold told at hl'
              omega
            rw [if_neg q3] at re
            rw [re] at e2
            subst e2
            have n12 := W.n12
            have tl := told_len W hd
            have j3 := W.j3
            have j15 := W.j15
            refine ⟨(by show 1 ≤ sizeLine; decide), fun z hz => ?_⟩
            have s2 : Same H (upd H1 z (.lst [.int 0])) := s1.trans (Same.new hz)
            refine ⟨_, rfl, _, rfl, bd, C, dx, _, _, rfl, s2 _ _ h1, T.cl, T.fC, bfs_couples _ _ _ _, .ref pr, told c d, c.couples, rfl, Dp.mono (Same.new hz) _ _ dr, fun r hr' => row_range (mem_rows W hr'), by omega, by omega, by omega, fun H2 p s3 fp hp => ?_⟩
            refine ⟨z, p, _, _, rfl, rfl, s3 _ _ upd_same, hp, ?_, fun y hy => ?_⟩
            · rw [zV_len]
              have : (Kdn.danceOf c.couples (told c d)).length = c.couples := by unfold Kdn.danceOf; simp
              rw [this]
              exact Nat.le_trans (show 1 + c.couples ≤ 1000 by omega) (by decide)
            · refine quit _ y ((s2.trans s3).trans (Same.new hy)) ((s2.trans s3).free hy) ?_
              rw [upd_same]
              rfl
end
end Dn
end
section
set_option Elab.async false
set_option linter.all false
set_option maxRecDepth 100000
set_option maxHeartbeats 2000000
/-! ### the list that is handed in, call by call -/
namespace Dn
open L2
/-- a call as it is handed in -/
def flat : Kdn.Call → List Int
  | .start n j d => [0, (n : Int), (j : Int), (d : Int)]
  | .mark d j r => 1 :: (d : Int) :: (j : Int) :: (r.length : Int) :: zs r
  | .dance d => [2, (d : Int)]
  | .total k => [3, (k : Int)]
  | .final => [4]
  | .missing => [5]
def small : Kdn.Call → Prop
  | .mark _ _ r => r.length ≤ 20
  | _ => True
/-- what is answered to calls, from a state on -/
inductive Play : Option Kdn.Contest → List Kdn.Call → List Int → Prop
  | nil {s : Option Kdn.Contest} : Play s [] []
  | cons {s s' : Option Kdn.Contest} {x : Kdn.Call} {xs : List Kdn.Call} {a : Kdn.Ans} {out : List Int} : Kdn.acts s x = some (s', a) → Play s' xs out → Play s (x :: xs) (((ansOf a).length : Int) :: (ansOf a ++ out))
theorem zs_nats : ∀ {l : List Int}, (∀ z ∈ l, 0 ≤ z) → zs (KdnNeutral.natsOf l) = l
  | [], _ => rfl
  | x :: l, h => by
    have e := zs_nats (l := l) fun z hz => h z (List.mem_cons_of_mem _ hz)
    have hx := h x (List.mem_cons_self ..)
    show ((x.toNat : Nat) : Int) :: zs (KdnNeutral.natsOf l) = x :: l
    rw [e, Int.toNat_of_nonneg hx]
theorem call_read {p : Int} {r : List Int} {c : List (List Int)} {t : List Int} (hp : ∀ z ∈ p :: r, 0 ≤ z) (h : PyFlat.call PyKdn.shape (p :: r) = some (c, t)) :
    ∃ x, p :: r = flat x ++ t ∧ PyKdn.whole c = c ∧ KdnNeutral.callOf c = some x ∧ (KdnNeutral.asked1 c = true → small x) := by
  have hn : ∀ z ∈ r, ((z.toNat : Nat) : Int) = z := fun z hz => Int.toNat_of_nonneg (hp z (List.mem_cons_of_mem _ hz))
  dsimp only [PyFlat.call, PyKdn.shape] at h
  by_cases h0 : p = 0
  · subst h0
    simp only [if_pos, if_true] at h
    match r, hn, h with
    | [], _, h => simp at h
    | [_], _, h => simp at h
    | [_, _], _, h => simp at h
    | n :: j :: d :: t', hn, h =>
      rw [if_neg (by simp)] at h
      simp only [PyFlat.rows, List.drop, List.take] at h
      injection h with h
      injection h with h1 h2
      subst h1 h2
      refine ⟨.start n.toNat j.toNat d.toNat, ?_, rfl, rfl, fun _ => trivial⟩
      show _ = 0 :: ((n.toNat : Nat) : Int) :: ((j.toNat : Nat) : Int) :: ((d.toNat : Nat) : Int) :: t'
      rw [hn n (by simp), hn j (by simp), hn d (by simp)]
  rw [if_neg h0] at h
  by_cases h1 : p = 1
  · subst h1
    simp only [if_pos, if_true] at h
    match r, hn, h with
    | [], _, h => simp at h
    | [_], _, h => simp at h
    | [_, _], _, h => simp [PyFlat.rows, PyFlat.row] at h
    | d :: j :: q :: t', hn, h =>
      rw [if_neg (by simp)] at h
      simp only [PyFlat.rows, PyFlat.row, List.drop, List.take] at h
      by_cases hq : 0 ≤ q ∧ q.toNat ≤ t'.length
      · rw [if_pos hq] at h
        simp only at h
        injection h with h
        injection h with h1 h2
        subst h1 h2
        have el : (t'.take q.toNat).length = q.toNat := by rw [List.length_take]; omega
        refine ⟨.mark d.toNat j.toNat (KdnNeutral.natsOf (t'.take q.toNat)), ?_, rfl, rfl, fun a => ?_⟩
        · show _ = 1 :: ((d.toNat : Nat) : Int) :: ((j.toNat : Nat) : Int) :: (((KdnNeutral.natsOf (t'.take q.toNat)).length : Nat) : Int) :: (zs (KdnNeutral.natsOf (t'.take q.toNat)) ++ t'.drop q.toNat)
          have e1 : (KdnNeutral.natsOf (t'.take q.toNat)).length = q.toNat := by unfold KdnNeutral.natsOf; rw [List.length_map, el]
          rw [zs_nats fun z hz => hp z (by have := List.mem_of_mem_take hz; simp [this]), List.take_append_drop, e1, hn d (by simp), hn j (by simp), hn q (by simp)]
        · show (KdnNeutral.natsOf (t'.take q.toNat)).length ≤ 20
          unfold KdnNeutral.natsOf
          rw [List.length_map]
          have a' : (KdnNeutral.natural d 32 && (KdnNeutral.natural j 32 && ((t'.take q.toNat).all (fun (z : Int) => KdnNeutral.natural z 8) && decide ((t'.take q.toNat).length ≤ 20)))) = true := a
          rw [Bool.and_eq_true, Bool.and_eq_true, Bool.and_eq_true] at a'
          exact of_decide_eq_true a'.2.2.2
      · rw [if_neg hq] at h
        cases h
  rw [if_neg h1] at h
  by_cases h2 : p = 2
  · subst h2
    simp only [if_pos, if_true] at h
    match r, hn, h with
    | [], _, h => simp at h
    | d :: t', hn, h =>
      rw [if_neg (by simp)] at h
      simp only [PyFlat.rows, List.drop, List.take] at h
      injection h with h
      injection h with h1 h2
      subst h1 h2
      refine ⟨.dance d.toNat, ?_, rfl, rfl, fun _ => trivial⟩
      show _ = 2 :: ((d.toNat : Nat) : Int) :: t'
      rw [hn d (by simp)]
  rw [if_neg h2] at h
  by_cases h3 : p = 3
  · subst h3
    simp only [if_pos, if_true] at h
    match r, hn, h with
    | [], _, h => simp at h
    | d :: t', hn, h =>
      rw [if_neg (by simp)] at h
      simp only [PyFlat.rows, List.drop, List.take] at h
      injection h with h
      injection h with h1 h2
      subst h1 h2
      refine ⟨.total d.toNat, ?_, rfl, rfl, fun _ => trivial⟩
      show _ = 3 :: ((d.toNat : Nat) : Int) :: t'
      rw [hn d (by simp)]
  rw [if_neg h3] at h
  by_cases h4 : p = 4
  · subst h4
    simp only [if_pos, if_true] at h
    rw [if_neg (by simp)] at h
    simp only [PyFlat.rows, List.drop, List.take] at h
    injection h with h
    injection h with h1 h2
    subst h1 h2
    exact ⟨.final, rfl, rfl, rfl, fun _ => trivial⟩
  rw [if_neg h4] at h
  by_cases h5 : p = 5
  · subst h5
    simp only [if_pos, if_true] at h
    rw [if_neg (by simp)] at h
    simp only [PyFlat.rows, List.drop, List.take] at h
    injection h with h
    injection h with h1 h2
    subst h1 h2
    exact ⟨.missing, rfl, rfl, rfl, fun _ => trivial⟩
  rw [if_neg h5] at h
  cases h
theorem step_of {s : Option Kdn.Contest} {c : List (List Int)} {x : Kdn.Call} (hc : KdnNeutral.callOf c = some x) : KdnNeutral.step s c = match Kdn.acts s x with
    | none => (s, [])
    | some (t, a) => (t, ansOf a) := by
  unfold KdnNeutral.step
  rw [hc]
  show (match Kdn.acts s x with | none => _ | some (t, a) => _) = _
  cases Kdn.acts s x with
  | none => rfl
  | some y => rfl
theorem calls_read : ∀ (f : Nat) (l : List Int) (cs : List (List (List Int))) (s : Option Kdn.Contest), (∀ z ∈ l, 0 ≤ z) → PyFlat.calls PyKdn.shape f l = some cs → (cs.map PyKdn.whole).all KdnNeutral.asked1 = true → KdnNeutral.may s (cs.map PyKdn.whole) = true →
    ∃ xs : List Kdn.Call, l = xs.flatMap flat ∧ xs.length = cs.length ∧ (∀ x ∈ xs, small x) ∧ Play s xs (PyFlat.told (PyFlat.played KdnNeutral.step s (cs.map PyKdn.whole)))
  | f, [], cs, s, _, h, _, _ => by
    unfold PyFlat.calls at h
    injection h with h
    subst h
    exact ⟨[], rfl, rfl, (fun _ z => by cases z), Play.nil⟩
  | 0, _ :: _, cs, s, _, h, _, _ => by
    unfold PyFlat.calls at h
    cases h
  | f + 1, p :: r, cs, s, hp, h, ha, hm => by
    unfold PyFlat.calls at h
    cases hc : PyFlat.call PyKdn.shape (p :: r) with
    | none => rw [hc] at h; cases h
    | some y =>
      obtain ⟨c, t⟩ := y
      rw [hc] at h
      simp only at h
      cases ht : PyFlat.calls PyKdn.shape f t with
      | none => rw [ht] at h; cases h
      | some cs' =>
        rw [ht] at h
        simp only at h
        injection h with h
        subst h
        obtain ⟨x, e1, e2, e3, e4⟩ := call_read hp hc
        rw [List.map_cons, List.all_cons, Bool.and_eq_true, e2] at ha
        rw [List.map_cons, e2] at hm
        have hm' : (!((KdnNeutral.step s c).2.isEmpty) && KdnNeutral.may (KdnNeutral.step s c).1 (cs'.map PyKdn.whole)) = true := hm
        rw [Bool.and_eq_true] at hm'
        have st := step_of (s := s) e3
        cases hx : Kdn.acts s x with
        | none =>
          rw [st, hx] at hm'
          exact absurd hm'.1 (by simp)
        | some y =>
          obtain ⟨s', a⟩ := y
          rw [hx] at st
          simp only at st
          rw [st] at hm'
          obtain ⟨xs, i1, i2, i3, i4⟩ := calls_read f t cs' s' (fun z hz => hp z (by rw [e1]; exact List.mem_append_right _ hz)) ht ha.2 hm'.2
          refine ⟨x :: xs, by rw [e1, List.flatMap_cons, i1], by rw [List.length_cons, List.length_cons, i2], fun y hy => ?_, ?_⟩
          · rcases List.mem_cons.mp hy with rfl | z
            · exact e4 ha.1
            · exact i3 y z
          · rw [List.map_cons, e2]
            have : PyFlat.told (PyFlat.played KdnNeutral.step s (c :: cs'.map PyKdn.whole)) = (((KdnNeutral.step s c).2.length : Nat) : Int) :: ((KdnNeutral.step s c).2 ++ PyFlat.told (PyFlat.played KdnNeutral.step (KdnNeutral.step s c).1 (cs'.map PyKdn.whole))) := rfl
            rw [this, st]
            exact .cons hx i4
/-- what may be handed in, as calls -/
theorem asked_read {l : List Int} (hp : ∀ z ∈ l, 0 ≤ z) (h : PyKdn.answers_asked l = true) : ∃ xs : List Kdn.Call, l = xs.flatMap flat ∧ xs.length ≤ 1500 ∧ (∀ x ∈ xs, small x) ∧ Play none xs (PyKdn.answers l) := by
  unfold PyKdn.answers_asked PyKdn.calls at h
  unfold PyKdn.answers PyKdn.calls
  cases e : PyFlat.calls PyKdn.shape l.length l with
  | none => rw [e] at h; cases h
  | some cs =>
    rw [e] at h
    simp only at h
    simp only
    rw [Bool.and_eq_true] at h
    obtain ⟨h1, h2⟩ := h
    unfold KdnNeutral.asked at h2
    rw [Bool.and_eq_true, Bool.and_eq_true] at h2
    obtain ⟨xs, i1, i2, i3, i4⟩ := calls_read l.length l cs none hp e h2.1.2 h2.2
    unfold PyFlat.atMost at h1
    have h3 := of_decide_eq_true h1
    rw [List.length_map] at h3
    exact ⟨xs, i1, by omega, i3, i4⟩
theorem danceOf_len (n : Nat) (rows : List (List Nat)) : (Kdn.danceOf n rows).length = n := by unfold Kdn.danceOf; simp
theorem finalOf_len (n : Nat) (all : List (List (List Nat))) : (Kdn.finalOf n all).length = n := by unfold Kdn.finalOf; simp
/-- an answer is short -/
theorem ans_len {s s' : Option Kdn.Contest} {x : Kdn.Call} {a : Kdn.Ans} (W : ∀ c, s = some c → WF c) (h : Kdn.acts s x = some (s', a)) : (ansOf a).length ≤ 13 := by
  have say1 : ∀ v, (ansOf (Kdn.say v)).length ≤ 13 := fun v => by show 1 ≤ 13; decide
  have l12 : ∀ (c : Kdn.Contest) (o : List Nat), s = some c → o.length = c.couples → (ansOf ⟨0, o⟩).length ≤ 13 := fun c o e ho => by
    have := (W c e).n12
    show (KdnNeutral.ints o).length + 1 ≤ 13
    unfold KdnNeutral.ints
    rw [List.length_map]
    omega
  cases s with
  | none =>
    cases x with
    | start n j d =>
      unfold Kdn.acts at h
      simp only at h
      injection h with h
      split at h
      all_goals
        injection h with h1 h2
        subst h2
        exact say1 _
    | mark d j r => cases h
    | dance d => cases h
    | total k => cases h
    | final => cases h
    | missing => cases h
  | some c =>
    have := l12 c
    cases x with
    | start n j d =>
      unfold Kdn.acts at h
      simp only at h
      injection h with h
      split at h
      all_goals
        injection h with h1 h2
        subst h2
        exact say1 _
    | mark d j r =>
      rw [acts_mark] at h
      injection h with h
      split at h
      · injection h with h1 h2
        subst h2
        exact say1 _
      · split at h
        all_goals
          injection h with h1 h2
          subst h2
          exact say1 _
    | dance d =>
      rw [acts_dance] at h
      injection h with h
      injection h with h1 h2
      subst h2
      split
      · exact say1 _
      · split
        · exact say1 _
        · exact this _ rfl (danceOf_len _ _)
    | total k =>
      have h' : some (some c, if c.couples ≤ k then Kdn.say (-2) else match Kdn.allRows c with
        | none => Kdn.say (-11)
        | some all => Kdn.say (Kdn.total c.couples all k : Nat)) = some (s', a) := h
      injection h' with h
      injection h with h1 h2
      subst h2
      split
      · exact say1 _
      · split
        · exact say1 _
        · exact say1 _
    | final =>
      have h' : some (some c, match Kdn.allRows c with
        | none => Kdn.say (-11)
        | some all => ⟨0, Kdn.finalOf c.couples all⟩) = some (s', a) := h
      injection h' with h
      injection h with h1 h2
      subst h2
      split
      · exact say1 _
      · exact this _ rfl (finalOf_len _ _)
    | missing =>
      have h' : some (some c, Kdn.say (Kdn.lacking c : Nat)) = some (s', a) := h
      injection h' with h
      injection h with h1 h2
      subst h2
      exact say1 _
theorem BoardAt.wf {C tl : PySem.Addr} {H : Hp} {bd : PySem.Addr} {s : Option Kdn.Contest} (B : BoardAt C tl H bd s) : ∀ c, s = some c → WF c := by
  cases B with
  | new _ _ => intro c h; cases h
  | of _ _ w _ => intro c h; cases h; exact w
end Dn
end
section
set_option Elab.async false
set_option linter.all false
set_option maxRecDepth 100000
set_option maxHeartbeats 2000000
/-! ### all dances: the groups one behind another -/
namespace Dn
/-- places are given out: R is what each is to have at the end, G the groups that are still to come, from place p on -/
structure GJ (n : Nat) (R : Nat → Nat) (P : List Nat) (p : Nat) (G : List (List Nat)) : Prop where
  len : P.length = n
  pos : 1 ≤ p
  res : ∀ k, k < n → R k = if P.getD k 0 = 0 then Kdn.place (Kdn.shared p G) k else P.getD k 0
theorem rep_zeroD (n k : Nat) : (List.replicate n 0).getD k 0 = 0 := by
  rw [List.getD_eq_getElem?_getD]
  cases e : (List.replicate n 0)[k]? with
  | none => rfl
  | some x => exact (List.mem_replicate.mp (List.mem_of_getElem? e)).2
theorem opn_rep (n : Nat) : opn (List.replicate n 0) = List.range n := by
  unfold opn
  rw [List.length_replicate, List.filter_eq_self]
  intro k _
  rw [rep_zeroD]
  rfl
theorem GJ.begin (n : Nat) (G : List (List Nat)) : GJ n (fun k => Kdn.place (Kdn.shared 1 G) k) (List.replicate n 0) 1 G :=
  ⟨List.length_replicate .., Nat.le_refl _, fun k _ => by rw [if_pos (rep_zeroD n k)]⟩
theorem GJ.give {n : Nat} {R : Nat → Nat} {P : List Nat} {p : Nat} {g : List Nat} {G : List (List Nat)} (J : GJ n R P p (g :: G)) (sub : ∀ k ∈ g, k ∈ opn P) : GJ n R (setAll P (2 * p + (g.length - 1)) g) (p + g.length) G := by
  have hp := J.pos
  have hv : 2 * p + (g.length - 1) ≠ 0 := by omega
  refine ⟨by rw [setAll_len]; exact J.len, by omega, fun k hk => ?_⟩
  have hkP : k < P.length := by rw [J.len]; exact hk
  rw [J.res k hk, setAll_at _ g P k hkP]
  by_cases e : P.getD k 0 = 0
  · rw [if_pos e]
    show Kdn.place ((g.map fun k => (k, 2 * p + (g.length - 1))) ++ Kdn.shared (p + g.length) _) k = _
    by_cases hk2 : k ∈ g
    · rw [place_map _ _ k g hk2, if_pos hk2, if_neg hv]
    · rw [place_app _ _ k (fun x hx => by
        obtain ⟨j, hj, rfl⟩ := List.mem_map.mp hx
        exact fun z => hk2 (by rw [← z]; exact hj)), if_neg hk2, if_pos e]
  · have hk2 : k ∉ g := fun z => e (mem_opn.mp (sub k z)).2
    rw [if_neg e, if_neg hk2, if_neg e]
theorem GJ.done {n : Nat} {R : Nat → Nat} {P : List Nat} {p : Nat} {G : List (List Nat)} (J : GJ n R P p G) (no : opn P = []) : P = (List.range n).map R := by
  apply List.ext_getElem
  · rw [J.len, List.length_map, List.length_range]
  · intro k h1 h2
    have hk : k < n := by rw [← J.len]; exact h1
    rw [List.getElem_map, List.getElem_range, J.res k hk]
    have e : P.getD k 0 = P[k] := by rw [List.getD_eq_getElem?_getD, List.getElem?_eq_getElem h1]; rfl
    have ne : ¬ P.getD k 0 = 0 := fun z => by
      have : k ∈ opn P := mem_opn.mpr ⟨h1, z⟩
      rw [no] at this
      cases this
    rw [if_neg ne, e]
/-! the next group of those with a like total -/
def nextG (n need : Nat) (pl m : Nat → List Nat) (p : Nat) (l : List Nat) : List Nat := if (Kdn.byPlaces pl p l).length = 1 then Kdn.byPlaces pl p l else Kdn.byMarks n need m n p (Kdn.byPlaces pl p l)
theorem byPlaces_one (pl : Nat → List Nat) (p k : Nat) : Kdn.byPlaces pl p [k] = [k] := by
  unfold Kdn.byPlaces
  rw [List.filter_eq_self]
  intro j hj
  have : j = k := by simpa using hj
  subst this
  simp
theorem apart_nil (n need : Nat) (pl m : Nat → List Nat) : ∀ f p, Kdn.apart n need pl m f p [] = []
  | 0, _ => rfl
  | _ + 1, _ => rfl
theorem contains_self (k : Nat) : ([k].filter fun j => !([k].contains j)) = [] := by
  rw [List.filter_eq_nil_iff]
  intro j hj
  simp at hj
  subst hj
  simp
theorem apart_step {n need : Nat} {pl m : Nat → List Nat} {f p : Nat} {l : List Nat} (h : l ≠ []) : Kdn.apart n need pl m (f + 1) p l = nextG n need pl m p l :: Kdn.apart n need pl m f (p + (nextG n need pl m p l).length) (l.filter fun k => !((nextG n need pl m p l).contains k)) := by
  match l, h with
  | [k], _ =>
    have e : nextG n need pl m p [k] = [k] := by
      unfold nextG
      rw [byPlaces_one]
      rfl
    rw [e, contains_self, apart_nil]
    rfl
  | a :: b :: r, _ => rfl
theorem final_nil (n need : Nat) (t : Nat → Nat) (pl m : Nat → List Nat) : ∀ f p, Kdn.final n need t pl m f p [] = []
  | 0, _ => rfl
  | _ + 1, _ => rfl
theorem final_step {n need : Nat} {t : Nat → Nat} {pl m : Nat → List Nat} {f p : Nat} {l : List Nat} (h : l ≠ []) : Kdn.final n need t pl m (f + 1) p l = Kdn.apart n need pl m (n + 1) p (Kdn.leastSum t l) ++ Kdn.final n need t pl m f (p + (Kdn.leastSum t l).length) (l.filter fun k => !((Kdn.leastSum t l).contains k)) := by
  match l, h with
  | _ :: _, _ => rfl
/-- a part of a list, told by a test -/
def Part (g l : List Nat) : Prop := ∃ q : Nat → Bool, g = l.filter q
theorem Part.refl (l : List Nat) : Part l l := ⟨fun _ => true, (List.filter_eq_self.mpr fun _ _ => rfl).symm⟩
theorem Part.of (l : List Nat) (q : Nat → Bool) : Part (l.filter q) l := ⟨q, rfl⟩
theorem Part.trans {a b c : List Nat} (h : Part a b) (k : Part b c) : Part a c := by
  obtain ⟨q, rfl⟩ := h
  obtain ⟨r, rfl⟩ := k
  exact ⟨_, List.filter_filter ..⟩
theorem Part.sub {g l : List Nat} (h : Part g l) : ∀ k ∈ g, k ∈ l := by
  obtain ⟨q, rfl⟩ := h
  exact fun k hk => (List.mem_filter.mp hk).1
theorem Part.rest {g l : List Nat} (h : Part g l) : g.length + (l.filter fun k => !(g.contains k)).length = l.length := by
  obtain ⟨q, rfl⟩ := h
  have e : (l.filter fun k => !((l.filter q).contains k)) = l.filter fun k => !(q k) := by
    apply List.filter_congr
    intro k hk
    congr 1
    cases z : q k with
    | true => exact List.contains_iff_mem.mpr (List.mem_filter.mpr ⟨hk, z⟩)
    | false =>
      refine Bool.eq_false_iff.mpr fun y => ?_
      have := (List.mem_filter.mp (List.contains_iff_mem.mp y)).2
      rw [z] at this
      cases this
  rw [e]
  clear e
  induction l with
  | nil => rfl
  | cons x r ih =>
    rw [List.filter_cons, List.filter_cons, List.length_cons]
    cases z : q x with
    | true =>
      rw [if_pos rfl, if_neg (by decide), List.length_cons]
      omega
    | false =>
      rw [if_neg (by decide), if_pos (by decide), List.length_cons]
      omega
theorem byMarks_part {n need : Nat} {m : Nat → List Nat} : ∀ (f c : Nat) (l : List Nat), Part (Kdn.byMarks n need m f c l) l
  | 0, _, l => Part.refl l
  | f + 1, c, l => by
    show Part (if (l.filter fun k => decide (need ≤ Kdn.upTo (m k) c)).isEmpty = true then Kdn.byMarks n need m f (c + 1) l else Kdn.front n m c (l.filter fun k => decide (need ≤ Kdn.upTo (m k) c))) l
    split
    · exact byMarks_part f (c + 1) l
    · exact (Part.of _ _).trans (Part.of _ _)
theorem nextG_part {n need : Nat} {pl m : Nat → List Nat} {p : Nat} {l : List Nat} : Part (nextG n need pl m p l) l := by
  unfold nextG
  split
  · exact Part.of _ _
  · exact (byMarks_part _ _ _).trans (Part.of _ _)
theorem leastSum_part {t : Nat → Nat} {l : List Nat} : Part (Kdn.leastSum t l) l := Part.of _ _
/-! none of these is empty -/
theorem exists_least (t : Nat → Nat) : ∀ l : List Nat, l ≠ [] → ∃ k ∈ l, ∀ j ∈ l, t k ≤ t j
  | [], h => absurd rfl h
  | [a], _ => ⟨a, List.mem_cons_self .., fun j hj => by simp at hj; subst hj; exact Nat.le_refl _⟩
  | a :: b :: r, _ => by
    obtain ⟨k, hk, h⟩ := exists_least t (b :: r) (by intro z; cases z)
    by_cases z : t a ≤ t k
    · refine ⟨a, List.mem_cons_self .., fun j hj => ?_⟩
      rcases List.mem_cons.mp hj with rfl | y
      · exact Nat.le_refl _
      · exact Nat.le_trans z (h j y)
    · refine ⟨k, List.mem_cons_of_mem _ hk, fun j hj => ?_⟩
      rcases List.mem_cons.mp hj with rfl | y
      · omega
      · exact h j y
theorem leastSum_ne {t : Nat → Nat} {l : List Nat} (h : l ≠ []) : Kdn.leastSum t l ≠ [] := by
  obtain ⟨k, hk, hm⟩ := exists_least t l h
  intro z
  have : k ∈ Kdn.leastSum t l := by
    unfold Kdn.leastSum
    rw [List.mem_filter, List.all_eq_true]
    exact ⟨hk, fun j hj => decide_eq_true (hm j hj)⟩
  rw [z] at this
  cases this
/-- of two with their numbers and sums up to a place, who is ahead -/
def ahead (pl : Nat → List Nat) (p j k : Nat) : Bool := decide (Kdn.upTo (pl k) (2 * p) < Kdn.upTo (pl j) (2 * p)) || (Kdn.upTo (pl k) (2 * p) == Kdn.upTo (pl j) (2 * p) && decide (Kdn.sumTo (pl j) (2 * p) < Kdn.sumTo (pl k) (2 * p)))
theorem ahead_iff {pl : Nat → List Nat} {p j k : Nat} : ahead pl p j k = true ↔ Kdn.upTo (pl k) (2 * p) < Kdn.upTo (pl j) (2 * p) ∨ (Kdn.upTo (pl k) (2 * p) = Kdn.upTo (pl j) (2 * p) ∧ Kdn.sumTo (pl j) (2 * p) < Kdn.sumTo (pl k) (2 * p)) := by
  unfold ahead
  rw [Bool.or_eq_true, Bool.and_eq_true, decide_eq_true_iff, decide_eq_true_iff, beq_iff_eq]
theorem byPlaces_eq (pl : Nat → List Nat) (p : Nat) (l : List Nat) : Kdn.byPlaces pl p l = l.filter fun k => l.all fun j => !(ahead pl p j k) := rfl
theorem exists_ahead (pl : Nat → List Nat) (p : Nat) : ∀ l : List Nat, l ≠ [] → ∃ k ∈ l, ∀ j ∈ l, ¬ ahead pl p j k = true
  | [], h => absurd rfl h
  | [a], _ => ⟨a, List.mem_cons_self .., fun j hj => by
      simp at hj
      subst hj
      rw [ahead_iff]
      omega⟩
  | a :: b :: r, _ => by
    obtain ⟨k, hk, h⟩ := exists_ahead pl p (b :: r) (by intro z; cases z)
    by_cases z : ahead pl p a k = true
    · refine ⟨a, List.mem_cons_self .., fun j hj => ?_⟩
      rw [ahead_iff] at z ⊢
      rcases List.mem_cons.mp hj with rfl | y
      · omega
      · have := h j y
        rw [ahead_iff] at this
        omega
    · refine ⟨k, List.mem_cons_of_mem _ hk, fun j hj => ?_⟩
      rcases List.mem_cons.mp hj with rfl | y
      · exact z
      · exact h j y
theorem byPlaces_ne {pl : Nat → List Nat} {p : Nat} {l : List Nat} (h : l ≠ []) : Kdn.byPlaces pl p l ≠ [] := by
  obtain ⟨k, hk, hm⟩ := exists_ahead pl p l h
  intro z
  have : k ∈ Kdn.byPlaces pl p l := by
    rw [byPlaces_eq, List.mem_filter, List.all_eq_true]
    exact ⟨hk, fun j hj => by rw [Bool.eq_false_iff.mpr (hm j hj)]; rfl⟩
  rw [z] at this
  cases this
theorem front_ne {n : Nat} {m : Nat → List Nat} {c : Nat} {l : List Nat} (h1 : 1 ≤ c) (h2 : c ≤ n) (h : l ≠ []) : Kdn.front n m c l ≠ [] := by
  obtain ⟨N, hN⟩ : ∃ N, ∀ k ∈ l, k < N := ⟨Kdn.sum l + 1, fun k hk => by
    have : ∀ (l : List Nat), k ∈ l → k ≤ Kdn.sum l := fun l => by
      induction l with
      | nil => intro z; cases z
      | cons x r ih =>
        intro z
        rw [ksum_cons]
        rcases List.mem_cons.mp z with rfl | y
        · omega
        · have := ih y
          omega
    have := this l hk
    omega⟩
  have e := lead_front (m := m) (ts := (List.range N).map fun k => stand (m k) n) (ws := l) h1 h2 fun k hk => by
    rw [List.getD_eq_getElem?_getD, List.getElem?_map, List.getElem?_range (hN k hk)]
    rfl
  rw [← e]
  exact lead_ne h
theorem byMarks_at {n need : Nat} {m : Nat → List Nat} {f c : Nat} {l : List Nat} (h : (l.filter fun k => decide (need ≤ Kdn.upTo (m k) c)) ≠ []) : Kdn.byMarks n need m (f + 1) c l = Kdn.front n m c (l.filter fun k => decide (need ≤ Kdn.upTo (m k) c)) := by
  show (if (l.filter fun k => decide (need ≤ Kdn.upTo (m k) c)).isEmpty = true then _ else _) = _
  rw [if_neg]
  intro z
  exact h (List.isEmpty_iff.mp z)
theorem byMarks_next {n need : Nat} {m : Nat → List Nat} {f c : Nat} {l : List Nat} (h : (l.filter fun k => decide (need ≤ Kdn.upTo (m k) c)) = []) : Kdn.byMarks n need m (f + 1) c l = Kdn.byMarks n need m f (c + 1) l := by
  show (if (l.filter fun k => decide (need ≤ Kdn.upTo (m k) c)).isEmpty = true then _ else _) = _
  rw [if_pos]
  rw [h]
  rfl
theorem byMarks_ne {n need : Nat} {m : Nat → List Nat} : ∀ (f c : Nat) {l : List Nat}, 1 ≤ c → c ≤ n → n < c + f → l ≠ [] → (∀ k ∈ l, need ≤ Kdn.upTo (m k) n) → Kdn.byMarks n need m f c l ≠ []
  | 0, c, l, _, h2, h3, _, _ => by omega
  | f + 1, c, l, h1, h2, h3, h, hm => by
    by_cases e : (l.filter fun k => decide (need ≤ Kdn.upTo (m k) c)) = []
    · rw [byMarks_next e]
      by_cases z : c = n
      · exfalso
        obtain ⟨k, hk⟩ := List.exists_mem_of_ne_nil l h
        have : k ∈ (l.filter fun k => decide (need ≤ Kdn.upTo (m k) c)) := List.mem_filter.mpr ⟨hk, decide_eq_true (by rw [z]; exact hm k hk)⟩
        rw [e] at this
        cases this
      · exact byMarks_ne f (c + 1) (by omega) (by omega) (by omega) h hm
    · rw [byMarks_at e]
      exact front_ne h1 h2 e
theorem nextG_ne {n need : Nat} {pl m : Nat → List Nat} {p : Nat} {l : List Nat} (h1 : 1 ≤ p) (h2 : p ≤ n) (h : l ≠ []) (hm : ∀ k ∈ l, need ≤ Kdn.upTo (m k) n) : nextG n need pl m p l ≠ [] := by
  unfold nextG
  split
  · exact byPlaces_ne h
  · exact byMarks_ne n p h1 h2 (by omega) (byPlaces_ne h) fun k hk => hm k ((Part.of _ _).sub k hk)
/-! the state of the end: l is left of those with a like total, o are those behind them -/
structure FJ (n need : Nat) (t : Nat → Nat) (pl m : Nat → List Nat) (R : Nat → Nat) (P : List Nat) (p : Nat) (l o : List Nat) : Prop where
  gj : ∃ f1 f2, l.length < f1 ∧ o.length < f2 ∧ GJ n R P p (Kdn.apart n need pl m f1 p l ++ Kdn.final n need t pl m f2 (p + l.length) o)
  opl : ∀ k ∈ l, k ∈ opn P
  opo : ∀ k ∈ o, k ∈ opn P
  dis : ∀ k ∈ l, k ∉ o
  all : ∀ k ∈ opn P, k ∈ l ∨ k ∈ o
  cnt : p + l.length + o.length = n + 1
  maj : ∀ k, k < n → need ≤ Kdn.upTo (m k) n
theorem FJ.len {n need : Nat} {t : Nat → Nat} {pl m : Nat → List Nat} {R : Nat → Nat} {P : List Nat} {p : Nat} {l o : List Nat} (J : FJ n need t pl m R P p l o) : P.length = n := by
  obtain ⟨_, _, _, _, J⟩ := J.gj
  exact J.len
theorem FJ.pos {n need : Nat} {t : Nat → Nat} {pl m : Nat → List Nat} {R : Nat → Nat} {P : List Nat} {p : Nat} {l o : List Nat} (J : FJ n need t pl m R P p l o) : 1 ≤ p := by
  obtain ⟨_, _, _, _, J⟩ := J.gj
  exact J.pos
theorem FJ.begin {n need : Nat} {t : Nat → Nat} {pl m : Nat → List Nat} (maj : ∀ k, k < n → need ≤ Kdn.upTo (m k) n) :
    FJ n need t pl m (fun k => Kdn.place (Kdn.shared 1 (Kdn.final n need t pl m (n + 1) 1 (List.range n))) k) (List.replicate n 0) 1 [] (List.range n) := by
  refine ⟨⟨1, n + 1, (by simp), (by simp), ?_⟩, (fun _ z => by cases z), (fun k hk => by rw [opn_rep]; exact hk), (fun _ z => by cases z), (fun k hk => .inr (by rw [opn_rep] at hk; exact hk)), (by rw [List.length_nil, List.length_range]; omega), maj⟩
  rw [apart_nil]
  exact GJ.begin n _
theorem filter_not_mem {l g : List Nat} {k : Nat} : k ∈ (l.filter fun j => !(g.contains j)) ↔ k ∈ l ∧ k ∉ g := by
  rw [List.mem_filter]
  constructor
  · rintro ⟨a, b⟩
    refine ⟨a, fun z => ?_⟩
    rw [List.contains_iff_mem.mpr z] at b
    cases b
  · rintro ⟨a, b⟩
    refine ⟨a, ?_⟩
    rw [Bool.eq_false_iff.mpr fun z => b (List.contains_iff_mem.mp z)]
    rfl
theorem FJ.group {n need : Nat} {t : Nat → Nat} {pl m : Nat → List Nat} {R : Nat → Nat} {P : List Nat} {p : Nat} {o : List Nat} (J : FJ n need t pl m R P p [] o) (h : o ≠ []) :
    FJ n need t pl m R P p (Kdn.leastSum t o) (o.filter fun k => !((Kdn.leastSum t o).contains k)) := by
  obtain ⟨f1, f2, h1, h2, g⟩ := J.gj
  have pr := leastSum_part (t := t) (l := o)
  have cn := J.cnt
  have rs := pr.rest
  have pp := J.pos
  have lt : 0 < (Kdn.leastSum t o).length := List.length_pos_iff.mpr (leastSum_ne h)
  obtain ⟨f, rfl⟩ : ∃ f, f2 = f + 1 := ⟨f2 - 1, by omega⟩
  rw [apart_nil, List.nil_append, List.length_nil, Nat.add_zero, final_step h] at g
  rw [List.length_nil] at cn
  refine ⟨⟨n + 1, f, by omega, by omega, g⟩, fun k hk => J.opo k (pr.sub k hk), fun k hk => J.opo k (filter_not_mem.mp hk).1, fun k hk z => (filter_not_mem.mp z).2 hk, fun k hk => ?_, by omega, J.maj⟩
  rcases J.all k hk with z | z
  · cases z
  · by_cases y : k ∈ Kdn.leastSum t o
    · exact .inl y
    · exact .inr (filter_not_mem.mpr ⟨z, y⟩)
theorem FJ.give {n need : Nat} {t : Nat → Nat} {pl m : Nat → List Nat} {R : Nat → Nat} {P : List Nat} {p : Nat} {l o g : List Nat} (J : FJ n need t pl m R P p l o) (h : l ≠ []) (hg : g = nextG n need pl m p l) :
    FJ n need t pl m R (setAll P (2 * p + (g.length - 1)) g) (p + g.length) (l.filter fun k => !(g.contains k)) o := by
  obtain ⟨f1, f2, h1, h2, gj⟩ := J.gj
  have cn := J.cnt
  have pp := J.pos
  have hv : 2 * p + (g.length - 1) ≠ 0 := by omega
  obtain ⟨f, rfl⟩ : ∃ f, f1 = f + 1 := ⟨f1 - 1, by omega⟩
  rw [apart_step h, ← hg, List.cons_append] at gj
  have pr : Part g l := by rw [hg]; exact nextG_part
  have rs := pr.rest
  have hl : 0 < l.length := List.length_pos_iff.mpr h
  have gne : 0 < g.length := by
    refine List.length_pos_iff.mpr ?_
    rw [hg]
    exact nextG_ne pp (by omega) h fun k hk => J.maj k (by rw [← J.len]; exact (mem_opn.mp (J.opl k hk)).1)
  have e : p + l.length = p + g.length + (l.filter fun k => !(g.contains k)).length := by omega
  rw [e] at gj
  refine ⟨⟨f, f2, by omega, h2, gj.give fun k hk => J.opl k (pr.sub k hk)⟩, fun k hk => ?_, fun k hk => ?_, fun k hk => J.dis k (filter_not_mem.mp hk).1, fun k hk => ?_, by omega, J.maj⟩
  · rw [opn_set hv]
    obtain ⟨a, b⟩ := filter_not_mem.mp hk
    exact filter_not_mem.mpr ⟨J.opl k a, b⟩
  · rw [opn_set hv]
    exact filter_not_mem.mpr ⟨J.opo k hk, fun z => J.dis k (pr.sub k z) hk⟩
  · rw [opn_set hv] at hk
    obtain ⟨a, b⟩ := filter_not_mem.mp hk
    rcases J.all k a with z | z
    · exact .inl (filter_not_mem.mpr ⟨z, b⟩)
    · exact .inr z
theorem FJ.done {n need : Nat} {t : Nat → Nat} {pl m : Nat → List Nat} {R : Nat → Nat} {P : List Nat} {p : Nat} (J : FJ n need t pl m R P p [] []) : P = (List.range n).map R := by
  obtain ⟨f1, f2, _, _, g⟩ := J.gj
  refine g.done ?_
  cases e : opn P with
  | nil => rfl
  | cons k r =>
    rcases J.all k (by rw [e]; exact List.mem_cons_self ..) with z | z
    · cases z
    · cases z
end Dn
end
section
set_option Elab.async false
set_option linter.all false
set_option maxRecDepth 100000
set_option maxHeartbeats 2000000
/-! ### all rows of a contest; the totals, places and marks that the end is told by -/
namespace Dn
theorem lack1_len : ∀ l : List Cell, (l.filterMap id).length + lack1 l = l.length
  | [] => rfl
  | none :: l => by
    have := lack1_len l
    rw [lack1_cons, if_pos rfl, List.length_cons]
    show (l.filterMap id).length + _ = _
    omega
  | some r :: l => by
    have := lack1_len l
    rw [lack1_cons, if_neg (by simp), List.length_cons]
    show (r :: l.filterMap id).length + _ = _
    rw [List.length_cons]
    omega
theorem rowsOf_lack (l : List Cell) : Kdn.rowsOf l = if lack1 l = 0 then some (l.filterMap id) else none := by
  have := lack1_len l
  rw [rowsOf_eq]
  by_cases h : lack1 l = 0
  · rw [if_pos h, if_neg (by omega)]
  · rw [if_neg h, if_pos (by omega)]
/-- all that has been told, dance by dance -/
def allTold (c : Kdn.Contest) : List (List (List Nat)) := c.dances.map fun l => l.filterMap id
theorem all_fold : ∀ D : List (List Cell), D.foldr (fun x y => match Kdn.rowsOf x, y with
    | some r, some l => some (r :: l)
    | _, _ => none) (some []) = if lackL D = 0 then some (D.map fun l => l.filterMap id) else none
  | [] => rfl
  | x :: D => by
    rw [List.foldr_cons, all_fold D, rowsOf_lack x, lackL_cons]
    by_cases h1 : lack1 x = 0
    · by_cases h2 : lackL D = 0
      · rw [if_pos h1, if_pos h2, if_pos (by omega)]
        rfl
      · rw [if_pos h1, if_neg h2, if_neg (by omega)]
    · rw [if_neg h1, if_neg (by omega : ¬ lack1 x + lackL D = 0)]
theorem allRows_eq (c : Kdn.Contest) : Kdn.allRows c = if Kdn.lacking c = 0 then some (allTold c) else none := by
  rw [lacking_eq]
  unfold Kdn.allRows allTold
  cases h : c.dances with
  | nil => rfl
  | cons x D => exact all_fold (x :: D)
theorem allTold_len (c : Kdn.Contest) : (allTold c).length = c.dances.length := by unfold allTold; rw [List.length_map]
theorem allTold_at {c : Kdn.Contest} {e : Nat} (h : e < c.dances.length) : (allTold c)[e]? = some (told c e) := by
  unfold allTold told
  rw [List.getElem?_map, List.getD_eq_getElem?_getD, List.getElem?_eq_getElem h]
  rfl
/-- where none lacks each dance has all its rows -/
theorem told_full {c : Kdn.Contest} (W : WF c) (h : Kdn.lacking c = 0) {e : Nat} (he : e < c.dances.length) : (told c e).length = c.judges := by
  have l1 := lack1_len (c.dances.getD e [])
  rw [W.wideD he] at l1
  have : ∀ (D : List (List Cell)) (x : List Cell), x ∈ D → lackL D = 0 → lack1 x = 0 := fun D => by
    induction D with
    | nil => intro x z; cases z
    | cons y D ih =>
      intro x hx hl
      rw [lackL_cons] at hl
      rcases List.mem_cons.mp hx with rfl | z
      · omega
      · exact ih x z (by omega)
  have z := this c.dances (c.dances.getD e []) (by rw [List.getD_eq_getElem?_getD, List.getElem?_eq_getElem he]; exact List.getElem_mem he) (by rw [← lacking_eq]; exact h)
  unfold told
  omega
/-! the end, by its parts -/
def plF (n : Nat) (all : List (List (List Nat))) : Nat → List Nat := fun k => ((List.range n).map fun k => (all.map (Kdn.danceOf n)).map fun x => x.getD k 0).getD k []
def ttF (n : Nat) (all : List (List (List Nat))) : Nat → Nat := fun k => (((List.range n).map fun k => (all.map (Kdn.danceOf n)).map fun x => x.getD k 0).map Kdn.sum).getD k 0
def mkF (n : Nat) (all : List (List (List Nat))) : Nat → List Nat := fun k => ((List.range n).map (Kdn.together all)).getD k []
def endF (n : Nat) (all : List (List (List Nat))) : Nat → Nat := fun k => Kdn.place (Kdn.shared 1 (Kdn.final n (Kdn.majority (Kdn.marksMany all)) (ttF n all) (plF n all) (mkF n all) (n + 1) 1 (List.range n))) k
theorem finalOf_eq (n : Nat) (all : List (List (List Nat))) : Kdn.finalOf n all = (List.range n).map (endF n all) := rfl
theorem plF_at {n : Nat} {all : List (List (List Nat))} {k : Nat} (h : k < n) : plF n all k = Kdn.placesOf n all k := by
  unfold plF Kdn.placesOf
  rw [List.getD_eq_getElem?_getD, List.getElem?_map, List.getElem?_range h]
  show ((all.map (Kdn.danceOf n)).map fun x => x.getD k 0) = _
  rw [List.map_map]
  rfl
theorem ttF_at {n : Nat} {all : List (List (List Nat))} {k : Nat} (h : k < n) : ttF n all k = Kdn.total n all k := by
  unfold ttF Kdn.total
  rw [List.getD_eq_getElem?_getD, List.getElem?_map, List.getElem?_map, List.getElem?_range h]
  show Kdn.sum ((all.map (Kdn.danceOf n)).map fun x => x.getD k 0) = _
  rw [List.map_map]
  rfl
theorem mkF_at {n : Nat} {all : List (List (List Nat))} {k : Nat} (h : k < n) : mkF n all k = Kdn.together all k := by
  unfold mkF
  rw [List.getD_eq_getElem?_getD, List.getElem?_map, List.getElem?_range h]
  rfl
theorem together_len (k : Nat) : ∀ all : List (List (List Nat)), (Kdn.together all k).length = Kdn.marksMany all
  | [] => rfl
  | rows :: all => by
    show (Kdn.marksOf rows k ++ Kdn.together all k).length = Kdn.sum (rows.length :: all.map fun rows => rows.length)
    rw [List.length_append, together_len k all, ksum_cons]
    unfold Kdn.marksOf Kdn.marksMany
    rw [List.length_map]
theorem together_range {n : Nat} {all : List (List (List Nat))} (h : ∀ rows ∈ all, ∀ r ∈ rows, r.length = n ∧ ∀ x ∈ r, 1 ≤ x ∧ x ≤ n) {k : Nat} (hk : k < n) : ∀ x ∈ Kdn.together all k, 1 ≤ x ∧ x ≤ n := fun x hx => by
  unfold Kdn.together at hx
  obtain ⟨rows, h1, h2⟩ := List.mem_flatMap.mp hx
  unfold Kdn.marksOf at h2
  obtain ⟨r, h3, rfl⟩ := List.mem_map.mp h2
  obtain ⟨q1, q2⟩ := h rows h1 r h3
  have hk' : k < r.length := by omega
  rw [List.getD_eq_getElem?_getD, List.getElem?_eq_getElem hk']
  exact q2 _ (List.getElem_mem hk')
/-- up to the last column all have a majority -/
theorem maj_all {n : Nat} {all : List (List (List Nat))} (h : ∀ rows ∈ all, ∀ r ∈ rows, r.length = n ∧ ∀ x ∈ r, 1 ≤ x ∧ x ≤ n) (h0 : 0 < Kdn.marksMany all) : ∀ k, k < n → Kdn.majority (Kdn.marksMany all) ≤ Kdn.upTo (mkF n all k) n := fun k hk => by
  rw [mkF_at hk, upTo_all fun x hx => (together_range h hk x hx).2, together_len]
  unfold Kdn.majority
  omega
theorem told_range {c : Kdn.Contest} (W : WF c) : ∀ rows ∈ allTold c, ∀ r ∈ rows, r.length = c.couples ∧ ∀ x ∈ r, 1 ≤ x ∧ x ≤ c.couples := fun rows h r hr => by
  unfold allTold at h
  obtain ⟨l, hl, rfl⟩ := List.mem_map.mp h
  obtain ⟨e, he, rfl⟩ := List.mem_iff_getElem.mp hl
  refine row_range (mem_rows W (e := e) ?_)
  rw [List.getD_eq_getElem?_getD, List.getElem?_eq_getElem he]
  exact hr
theorem told_many {c : Kdn.Contest} (W : WF c) (h : Kdn.lacking c = 0) : Kdn.marksMany (allTold c) = c.dances.length * c.judges := by
  have key : ∀ e, e < c.dances.length → ((allTold c).getD e []).length = c.judges := fun e he => by
    rw [List.getD_eq_getElem?_getD, allTold_at he]
    exact told_full W h he
  have gen : ∀ (all : List (List (List Nat))) (j : Nat), (∀ e, e < all.length → (all.getD e []).length = j) → Kdn.marksMany all = all.length * j := fun all j => by
    induction all with
    | nil => intro _; exact (Nat.zero_mul j).symm
    | cons rows all ih =>
      intro hh
      have h0 := hh 0 (by simp)
      have h1 := ih fun e he => hh (e + 1) (by rw [List.length_cons]; omega)
      show Kdn.sum (rows.length :: all.map fun rows => rows.length) = (all.length + 1) * j
      rw [ksum_cons, Nat.succ_mul]
      unfold Kdn.marksMany at h1
      rw [h1]
      have h0' : rows.length = j := h0
      omega
  have := gen (allTold c) c.judges (by rw [allTold_len]; exact key)
  rw [this, allTold_len]
theorem acts_total (c : Kdn.Contest) (k : Nat) : Kdn.acts (some c) (.total k) = some (some c, if c.couples ≤ k then Kdn.say (-2) else if Kdn.lacking c = 0 then Kdn.say (Kdn.total c.couples (allTold c) k : Nat) else Kdn.say (-11)) := by
  show some (some c, if c.couples ≤ k then Kdn.say (-2) else match Kdn.allRows c with
    | none => Kdn.say (-11)
    | some all => Kdn.say (Kdn.total c.couples all k : Nat)) = _
  rw [allRows_eq]
  by_cases h : Kdn.lacking c = 0
  · rw [if_pos h, if_pos h]
  · rw [if_neg h, if_neg h]
theorem acts_final (c : Kdn.Contest) : Kdn.acts (some c) .final = some (some c, if Kdn.lacking c = 0 then ⟨0, Kdn.finalOf c.couples (allTold c)⟩ else Kdn.say (-11)) := by
  show some (some c, match Kdn.allRows c with
    | none => Kdn.say (-11)
    | some all => ⟨0, Kdn.finalOf c.couples all⟩) = _
  rw [allRows_eq]
  by_cases h : Kdn.lacking c = 0
  · rw [if_pos h, if_pos h]
  · rw [if_neg h, if_neg h]
theorem acts_missing (c : Kdn.Contest) : Kdn.acts (some c) .missing = some (some c, Kdn.say (Kdn.lacking c : Nat)) := rfl
end Dn
end
section
set_option Elab.async false
set_option linter.all false
set_option maxRecDepth 100000
set_option maxHeartbeats 2000000
/-! ### list(d.values()) of a dict by tuples -/
namespace PySem
open Sem (wp)
/-- a dict, by its entries -/
def Ents (h : Heap) (d : Addr) (es : Array DictEntry) (ep : Nat) : Prop := ∃ o, h.get? d = some o ∧ o.ExactDict ∧ o.data = .dict es ep
section
variable {prog : Program} {w : World} {A : Around} {E : Value → Shared → Prop} {s : Shared} {d : Addr} {es : Array DictEntry} {ep : Nat}
theorem Ents.typeIs (x : Ents s.heap d es ep) : s.TypeIs (.ref d) "dict" := let ⟨o, h, c, _⟩ := x; ⟨o, h, c.1⟩
theorem Ents.stay {h h' : Heap} (x : Ents h d es ep) (k : ∀ o, h.get? d = some o → h'.get? d = some o) : Ents h' d es ep := let ⟨o, e, r⟩ := x; ⟨o, k o e, r⟩
theorem Ents.lt {h : Heap} (x : Ents h d es ep) : d < h.objs.size := let ⟨_, e, _⟩ := x; Heap.lt_size e
theorem ents_view (hd : (d == sysModules) = false) : MeetsIn prog w (Builtin.«dict.values» ⟨[.ref d], []⟩) (fun _ R s => s.TypeIs (.ref d) "dict" ∧ R (.ok (.ret (.ref s.heap.objs.size))) { s with heap := s.heap.push { cls := .type "dict_values", data := .fields #[.ref d] } }) :=
  .of_wp fun A R s ⟨hT, h⟩ => by
    refine wpAny_bind ?_
    unfold Builtin.Dict.noArgs
    refine wpAny_bind (wpAny_notOrdered_dict hT ?_)
    show wpAny _ _ (pure d) _ _ s
    refine wpAny_pure ?_
    show wpAny _ _ (Builtin.Dict.showsAll d >>= _) _ _ s
    unfold Builtin.Dict.showsAll
    rw [if_neg (by rw [hd]; exact Bool.false_ne_true)]
    exact wpAny_bind (wpAny_pure (wpAny_bind (wpAny_newObj_type (wpAny_pure ⟨_, rfl, h⟩))))
theorem ents_iter {v : Addr} {Q : Value → Shared → Prop} (hv : s.heap.IsValuesView v d) (hm : Ents s.heap d es ep)
    (hQ : Q (.ref s.heap.objs.size) { s with heap := s.heap.push { cls := .type "dict_valueiterator", data := .fields #[.ref d, .int 0 0, .int es.size 0, .int ep 0] } }) : wpAny (model prog w) A (pyIter (.ref v)) Q E s := by
  obtain ⟨ov, e1, _, e2⟩ := id hv
  obtain ⟨o, e3, _, e4⟩ := id hm
  refine wpAny_pyIter_slot hv.typeIs F.slot_dict_values_iter (wpAny_call_entry F.slot_dict_values_iter hv.typeIs F.entry_dict_values_iter ?_ (F.args_dict_values_iter_1 _))
  unfold Builtin.«dict_values.__iter__»
  refine wpAny_bind (wpAny_pure (wpAny_bind ?_))
  unfold Builtin.Dict_items.dictOf
  refine wpAny_bind (wpAny_field e1 e2 (x := .ref d) rfl (wpAny_pure (wpAny_bind ?_)))
  unfold Builtin.Dict_items.newIterator
  refine wpAny_bind (wpAny_dictEntries e3 e4 (wpAny_bind (wpAny_dictEpoch e3 e4 ?_)))
  have no : Builtin.Dict_items.ownsTuple "dict_valueiterator" = false := by decide
  simp only [no, Bool.false_eq_true, if_false]
  refine wpAny_newObj_type (wpAny_pure ⟨_, rfl, "dict_valueiterator", _, ⟨_, Heap.get?_push_size _ rfl, rfl⟩, F.slot_dict_valueiterator_next.lookup, ?_⟩)
  simpa [rawInt] using hQ
theorem ents_item {it : Addr} {i n : Nat} {en : DictEntry} {Q : Option Value → Shared → Prop} (hit : s.heap.IsValIter it d i n ep) (hm : Ents s.heap d es ep) (hn : es.size = n) (hx : es[i]? = some en)
    (hQ : ∀ h', h'.IsValIter it d (i + 1) n ep → Heap.SameBut it s.heap h' → Q (some en.val) { s with heap := h' }) : wpAny (model prog w) A (pyNext (.ref it)) Q E s := by
  obtain ⟨o, e1, ec, e2⟩ := id hit
  obtain ⟨od, e3, _, e4⟩ := id hm
  obtain ⟨lt, ee⟩ := Array.getElem?_eq_some_iff.mp hx
  unfold pyNext
  refine wpAny_bind (wpAny_attempt (wpAny_callSpecial?_slot (name := Str.ofString "__next__") hit.typeIs F.slot_dict_valueiterator_next
    (wpAny_call_entry F.slot_dict_valueiterator_next hit.typeIs F.entry_dict_valueiterator_next ?_ (F.args_dict_valueiterator_next_1 _))))
  refine wpAny_bind (wpAny_pure (wpAny_bind (wpAny_bind ?_)))
  first | refine wpAny_bind (wpAny_typeNameOfWhole_valiter hit.typeIs (wpAny_pure ?_)) | refine wpAny_bind (wpAny_typeNameOf_valiter hit.typeIs (wpAny_pure ?_))
  refine wpAny_bind (wpAny_fieldsOf e1 e2 ?_)
  have no : Builtin.Dict_items.ownsTuple "dict_valueiterator" = false := by decide
  simp only [no, Bool.false_eq_true, if_false]
  show wpAny _ _ (if (Value.ref d == Value.none) = true then _ else _) _ _ s
  rw [if_neg (show ¬ ((Value.ref d == Value.none) = true) from Bool.false_ne_true)]
  refine wpAny_bind (wpAny_pure (wpAny_bind (wpAny_dictEntries e3 e4 ?_)))
  rw [if_neg (by rw [hn]; simp)]
  refine wpAny_bind (wpAny_pure (wpAny_bind (wpAny_dictEpoch e3 e4 ?_)))
  rw [if_neg (by simp)]
  refine wpAny_pure ?_
  simp only [show ¬ ((i : Int) < 0) from by omega, if_false, Int.toNat_natCast, Array.getElem?_eq_getElem lt]
  refine wpAny_bind ?_
  first | refine wpAny_bind (wpAny_typeNameOfWhole_valiter hit.typeIs (wpAny_pure ?_)) | refine wpAny_bind (wpAny_typeNameOf_valiter hit.typeIs (wpAny_pure ?_))
  refine wpAny_bind (wpAny_isOneOf_valiter hit.typeIs ?_)
  show wpAny _ _ (setField (.ref it) 1 (rawInt ((i : Int) + 1)) >>= _) _ _ s
  refine wpAny_bind (wpAny_setField e1 e2 (by simp) ?_)
  have hit' : (s.heap.update it (Obj.mapFields (·.setIfInBounds 1 (rawInt ((i : Int) + 1))))).IsValIter it d (i + 1) n ep :=
    ⟨_, Heap.get?_update_self _ e1 (Obj.isFreed_of_fields (Obj.data_mapFields e2 _)), (Obj.cls_mapFields ..).trans ec, by rw [Obj.data_mapFields e2]; simp [rawInt]⟩
  refine wpAny_bind (wpAny_holding ?_)
  refine wpAny_bind (wpAny_isOneOf_valiter (s := { s with heap := s.heap.update it (Obj.mapFields (·.setIfInBounds 1 (rawInt ((i : Int) + 1)))) }) hit'.typeIs ?_)
  refine wpAny_bind (wpAny_isOneOf_valiter (s := { s with heap := s.heap.update it (Obj.mapFields (·.setIfInBounds 1 (rawInt ((i : Int) + 1)))) }) hit'.typeIs ?_)
  show wpAny _ _ (pure es[i].val) _ _ _
  rw [ee]
  exact wpAny_pure (wpAny_pure ⟨_, rfl, wpAny_pure (hQ _ hit' (Heap.SameBut.update ..))⟩)
theorem ents_end {it : Addr} {i n : Nat} {Q : Option Value → Shared → Prop} (hh : A.handled = none) (hit : s.heap.IsValIter it d i n ep) (hm : Ents s.heap d es ep) (hn : es.size = n) (hge : n ≤ i)
    (hQ : ∀ h', Heap.ExtBut it s.heap h' → Q none { s with heap := h' }) : wpAny (model prog w) A (pyNext (.ref it)) Q E s := by
  obtain ⟨o, e1, ec, e2⟩ := id hit
  obtain ⟨od, e3, _, e4⟩ := id hm
  unfold pyNext
  refine wpAny_bind (wpAny_attempt (wpAny_callSpecial?_slot (name := Str.ofString "__next__") hit.typeIs F.slot_dict_valueiterator_next
    (wpAny_call_entry F.slot_dict_valueiterator_next hit.typeIs F.entry_dict_valueiterator_next ?_ (F.args_dict_valueiterator_next_1 _))))
  refine wpAny_bind (wpAny_pure (wpAny_bind (wpAny_bind ?_)))
  first | refine wpAny_bind (wpAny_typeNameOfWhole_valiter hit.typeIs (wpAny_pure ?_)) | refine wpAny_bind (wpAny_typeNameOf_valiter hit.typeIs (wpAny_pure ?_))
  refine wpAny_bind (wpAny_fieldsOf e1 e2 ?_)
  have no : Builtin.Dict_items.ownsTuple "dict_valueiterator" = false := by decide
  simp only [no, Bool.false_eq_true, if_false]
  show wpAny _ _ (if (Value.ref d == Value.none) = true then _ else _) _ _ s
  rw [if_neg (show ¬ ((Value.ref d == Value.none) = true) from Bool.false_ne_true)]
  refine wpAny_bind (wpAny_pure (wpAny_bind (wpAny_dictEntries e3 e4 ?_)))
  rw [if_neg (by rw [hn]; simp)]
  refine wpAny_bind (wpAny_pure (wpAny_bind (wpAny_dictEpoch e3 e4 ?_)))
  rw [if_neg (by simp)]
  refine wpAny_pure ?_
  simp only [show ¬ ((i : Int) < 0) from by omega, if_false, Int.toNat_natCast, Array.getElem?_eq_none (show es.size ≤ i by omega)]
  refine wpAny_bind ?_
  first | refine wpAny_bind (wpAny_typeNameOfWhole_valiter hit.typeIs (wpAny_pure ?_)) | refine wpAny_bind (wpAny_typeNameOf_valiter hit.typeIs (wpAny_pure ?_))
  show wpAny _ _ (setField (.ref it) 0 .none >>= _) _ _ s
  refine wpAny_bind (wpAny_setField e1 e2 (by simp) ?_)
  show wpAny _ _ (newExc (.type "StopIteration") [] >>= _) _ _ _
  refine wpAny_bind ?_
  simp only [newExc, newTuple]
  refine wpAny_bind (wpAny_newObj_type ?_ (by size_fits))
  refine wpAny_bind (m := firstArgMember _ _) (wpAny_of_eq (a := Value.none) (by first | rfl | (simp only [firstArgMember]; rfl)) ?_)
  refine wpAny_newObj_type ?_ (by size_fits)
  simp only [raiseNew]
  refine wpAny_bind (wpAny_handled ?_)
  rw [show A.in1.handled = none from hh]
  refine wpAny_bind (wpAny_pure (wpAny_throw ?_))
  refine wpAny_bind (wpAny_isInstance (T := "StopIteration") (b := true) ⟨_, Heap.get?_push_size _ rfl, rfl⟩ isSubtype_stop ?_)
  exact wpAny_pure (hQ _ (((Heap.SameBut.update ..).extBut.push _).push _))
theorem ents_walks (hh : A.handled = none) (I d : Addr) (hne : d ≠ I) (es : Array DictEntry) (ep : Nat) :
    Walks prog w A I [I, d] [I] es.size (fun i v => ∃ en, es[i]? = some en ∧ en.val = v) (fun i h => h.IsValIter I d i es.size ep ∧ Ents h d es ep) where
  sub := fun b hb => by simp at hb; simp [hb]
  frame := fun _ _ _ st k => ⟨let ⟨o, e, r⟩ := st.1; ⟨o, k I (by simp) o e, r⟩, st.2.stay fun o e => k d (by simp) o e⟩
  item := fun i s Q E hi st hQ => ents_item st.1 st.2 rfl (Array.getElem?_eq_getElem hi) fun h' hit' sb =>
    hQ _ h' s.toks ⟨_, Array.getElem?_eq_getElem hi, rfl⟩ ⟨hit', st.2.stay fun o e => sb.extBut d o hne e⟩ fun b o hb e => sb.extBut b o (fun z => hb (by simp [z])) e
  done := fun s Q E st hQ => ents_end hh st.1 st.2 rfl (Nat.le_refl _) fun h' he => hQ h' s.toks fun b o hb e => he b o (fun z => hb (by simp [z])) e
  self := fun _ _ _ _ st hQ => wpAny_pyIter_valiter st.1 hQ
theorem ents_src {r : Addr} : W.KdlSrc prog w "dict_values" r d es.size (fun i v => ∃ en, es[i]? = some en ∧ en.val = v) (fun h => h.IsValuesView r d ∧ Ents h d es ep) where
  type := fun _ hm => hm.1.typeIs
  there := fun _ hm => ⟨let ⟨_, ho, _⟩ := hm.1; Heap.lt_size ho, hm.2.lt⟩
  keep := fun _ _ hm hk => ⟨let ⟨o, ho, x⟩ := hm.1; ⟨o, hk r (.inl rfl) o ho, x⟩, hm.2.stay fun o e => hk d (.inr rfl) o e⟩
  notList := by decide
  notTuple := by decide
  hint := fun _ _ _ _ hm hq => W.kdl_hint_values hm.1.typeIs hq
  iter := fun _ _ hh hm => ⟨_, _, (fun _ _ hq => ents_iter hm.1 hm.2 hq), ents_walks hh _ d (Nat.ne_of_lt hm.2.lt) es ep, ⟨⟨_, Heap.get?_push_size _ rfl, rfl, rfl⟩, hm.2.stay fun o e => Heap.get?_push_of_some _ e⟩⟩
end
end PySem
namespace L2
open PySem PySem.Spec PyProof.Rows Dn
open PySem.SeqAt (EqAt LtAt shaped)
theorem vals_by : ∀ {xs : List V} {us : List Value}, xs.length = us.length → (∀ (j : Nat) (x : V) (u : Value), xs[j]? = some x → us[j]? = some u → RelV x u) → Vals xs us
  | [], [], _, _ => .nil
  | [], _ :: _, h, _ => by cases h
  | _ :: _, [], h, _ => by cases h
  | x :: xs, u :: us, h, g => .cons (g 0 x u rfl rfl) (vals_by (by simpa using h) fun j y z e1 e2 => g (j + 1) y z (by simpa using e1) (by simpa using e2))
/-- a dict's values, seen -/
def vw (p d : Addr) : HO := .ext fun h => h.IsValuesView p d
section
variable {X : Cx}
theorem mt_valuesT : MtR X "dict.values" (fun x vs H Q => ∃ d kvs, x = V.ref d ∧ vs = [] ∧ H d = some (.dT kvs) ∧ ∀ p, H p = none → Q (.ref p) (upd H p (vw p d))) := by
  intro pins s σ H x xs v us Q I rx rs h
  obtain ⟨d, kvs, rfl, rfl, hd, q⟩ := h
  cases rx
  cases rs
  obtain ⟨z, hs, xs, rel, o, es, ep, h1, h2, h3, h4, h5⟩ := dt_of I.hok hd
  have hT : s.TypeIs (.ref d) "dict" := ⟨o, h1, h2.1⟩
  refine call_meetsIn F.slot_dict_values hT F.entry_dict_values (F.args_dict_values_1 _) (ents_view hs) ⟨hT, ?_⟩
  refine ⟨.ref s.heap.objs.size, _, I.laid (t' := s.toks) (a := s.heap.objs.size) (o := vw s.heap.objs.size d) (fun _ _ q => Heap.get?_push_of_some _ q) (Nat.le_refl _) ?_, rfl, q _ (I.hok.fresh (Nat.le_refl _))⟩
  exact ⟨⟨_, Heap.get?_push_size _ rfl, rfl, rfl⟩, ⟨_, Heap.get?_push_size _ rfl⟩, fun h1 h2 ⟨o, e, r⟩ k => ⟨o, k o e, r⟩⟩
theorem call_listV (hc : X.calm = true) : CallR X (.type "list") (fun xs H Q => ∃ (p d : Addr) (kvs : List (List Key × V)), xs = [.ref p] ∧ H p = some (vw p d) ∧ H d = some (.dT kvs) ∧ ∀ l, H l = none → Q (.ref l) (upd H l (.lst (kvs.map fun x => x.2)))) := by
  intro pins s σ H xs us Q I r h
  obtain ⟨p, d, kvs, rfl, hp, hd, q⟩ := h
  rw [Vals.ref1 r]
  obtain ⟨z, hs, ys, rel, o, es, ep, h1, h2, h3, h4, h5⟩ := dt_of I.hok hd
  obtain ⟨hv, _, _⟩ := I.hok p _ hp
  have l1 : es.size = ys.length := size_of_entries h4
  have l2 : kvs.length = ys.length := Paired.length rel
  refine W.kdl_call (ents_src (r := p) (d := d) (es := es) (ep := ep)) (I.ok.hd hc) ⟨hv, o, h1, h2, h3⟩ (by omega) fun h' tk acc c' kp hS hacc => ?_
  refine ⟨.ref s.heap.objs.size, _, I.laid (a := s.heap.objs.size) (o := .lst (kvs.map fun x => x.2)) kp (Nat.le_refl _) ⟨by rw [List.length_map]; exact z, acc.toList, c', vals_by ?_ (fun j x u e1 e2 => ?_), ?_⟩, rfl, q _ (I.hok.fresh (Nat.le_refl _))⟩
  · have e := hacc.1
    rw [List.length_map, Array.length_toList (xs := acc)]
    omega
  · rw [List.getElem?_map] at e1
    obtain ⟨⟨k, y⟩, e3, e4⟩ := Option.map_eq_some_iff.mp e1
    obtain ⟨b, e5, _, _, rv⟩ := paired_get rel e3
    obtain ⟨en, e6, e7⟩ := hacc.2 j u (by rw [← Array.getElem?_toList]; exact e2)
    rw [entry_at h4, e5] at e6
    cases e6
    subst e4 e7
    exact rv
  · simpa using hS
/-- min(xs) of a list of pairs of ints -/
def rMinP (K : PySem.W.Frag) : List V → Hp → VK → Prop := fun vs H Q => ∃ (a : Addr) (xs : List V) (ps : List Pr), vs = [V.ref a] ∧ SqL K H a xs ∧ DpAll K H xs (ps.map prD) ∧ 0 < ps.length ∧
  ∀ x p, Dp K H x (prD p) → p ∈ ps → (∀ u ∈ ps, plt u p = false) → Q x H
end
end L2
namespace Dn
/-- the foremost by place -/
theorem best_lp (ps : Nat → Pr) : ∀ k, PySem.argBest (fun i j => plt (ps i) (ps j)) k ≤ k ∧ ∀ j, j ≤ k → plt (ps j) (ps (PySem.argBest (fun i j => plt (ps i) (ps j)) k)) = false := fun k => by
  have e : (fun i j => plt (ps i) (ps j)) = fun i j => tlt [ps i] [ps j] := by
    funext i j
    rw [tlt_cons]
    by_cases h : ps i = ps j
    · rw [if_pos h, h, plt_irrefl]; rfl
    · rw [if_neg h]
  have b := best_le (fun i => [ps i]) k
  rw [e]
  refine ⟨b.1, fun j hj => ?_⟩
  have := b.2 j hj
  rw [tlt_cons] at this
  by_cases h : ps j = ps (PySem.argBest (fun i j => tlt [ps i] [ps j]) k)
  · rw [h]; exact plt_irrefl _
  · rw [if_neg h] at this
    exact this
end Dn
namespace L2
open PySem PySem.Spec PyProof.Rows Dn
open PySem.SeqAt (EqAt LtAt shaped)
section
variable {X : Cx}
theorem cr_minP (hc : X.calm = true) (hu : X.A.units + 80 < cLine) : CallR X (.builtin "min") (rMinP X.K) := by
  intro pins s σ H vs us Q I r h
  obtain ⟨a, xs, ts, rfl, hs, hd, hne, q⟩ := h
  obtain ⟨its, rv, hl, _⟩ := I.list hs
  rw [Vals.ref1 r]
  obtain ⟨l1, g1⟩ := dpAll_at hd
  have l2 := rv.length
  rw [List.length_map] at l1
  have len : its.length = ts.length := by omega
  have tm : ∀ i, i < ts.length → (ts.map prD)[i]? = some (prD (ts.getD i (0, 0))) ∧ ts.getD i (0, 0) ∈ ts := fun i hi => by
    rw [List.getElem?_map, List.getElem?_eq_getElem hi, List.getD_eq_getElem?_getD, List.getElem?_eq_getElem hi]
    exact ⟨rfl, List.getElem_mem hi⟩
  have rd : ∀ (i : Nat) (v : Value), its[i]? = some v → ∃ as, Reads s.heap v (prD (ts.getD i (0, 0))) as := fun i v e => by
    have hi : i < its.length := (List.getElem?_eq_some_iff.mp e).1
    have hi2 : i < xs.length := by omega
    obtain ⟨u, e2, rr⟩ := rv.get (i := i) (x := xs[i]) (List.getElem?_eq_getElem hi2)
    rw [e] at e2
    cases e2
    exact Dp.reads I _ xs[i] v (g1 i _ _ (List.getElem?_eq_getElem hi2) (tm i (by omega)).1) rr
  refine minH_list (I.ok.hd hc) hl.isList (by omega) (fun i j => plt (ts.getD i (0, 0)) (ts.getD j (0, 0))) (fun i j vi vj t Q E kp ei ej q => ?_) (fun v h' tk ev kp => ?_)
  · obtain ⟨as, r1⟩ := rd i vi ei
    obtain ⟨bs, r2⟩ := rd j vj ej
    exact ltAt_pr (Reads.keeps kp r1) (Reads.keeps kp r2) (by rw [Around.in1_units]; omega) _ _ E Q q
  · have b := best_lp (fun i => ts.getD i (0, 0)) (its.length - 1)
    generalize hk : PySem.argBest (fun i j => plt (ts.getD i (0, 0)) (ts.getD j (0, 0))) (its.length - 1) = k at b ev
    have hk1 : k < its.length := by have := b.1; omega
    have hk2 : k < xs.length := by omega
    obtain ⟨u, e2, rr⟩ := rv.get (i := k) (x := xs[k]) (List.getElem?_eq_getElem hk2)
    rw [ev] at e2
    cases e2
    refine ⟨xs[k], H, I.kept kp, rr, q xs[k] _ (g1 k _ _ (List.getElem?_eq_getElem hk2) (tm k (by omega)).1) (tm k (by omega)).2 fun u hu => ?_⟩
    obtain ⟨j, hj, rfl⟩ := List.mem_iff_getElem.mp hu
    have := b.2 j (by omega)
    rw [List.getD_eq_getElem?_getD, List.getElem?_eq_getElem hj] at this
    exact this
end
end L2
end
section
set_option Elab.async false
set_option linter.all false
set_option maxRecDepth 100000
set_option maxHeartbeats 2000000
/-! ### the rows in any order; the end's loop by the least total -/
namespace Dn
theorem perm_by {α : Type} [DecidableEq α] : ∀ (a b : List α), a.Nodup → (∀ x ∈ a, x ∈ b) → b.length ≤ a.length → a.Perm b
  | [], b, _, _, h => by
    cases b with
    | nil => exact .nil
    | cons x b => simp at h
  | x :: a, b, hn, hs, hl => by
    have p : b.Perm (x :: b.erase x) := List.perm_cons_erase (hs x (List.mem_cons_self ..))
    have hn' := List.nodup_cons.mp hn
    have l := p.length_eq
    rw [List.length_cons] at l hl
    refine (List.Perm.cons x (perm_by a (b.erase x) hn'.2 (fun y hy => ?_) (by omega))).trans p.symm
    exact (List.mem_erase_of_ne (fun z => hn'.1 (by rw [← z]; exact hy))).mpr (hs y (List.mem_cons_of_mem _ hy))
theorem ksum_perm {a b : List Nat} (h : a.Perm b) : Kdn.sum a = Kdn.sum b := by
  induction h with
  | nil => rfl
  | cons x _ ih => rw [ksum_cons, ksum_cons, ih]
  | swap x y l => rw [ksum_cons, ksum_cons, ksum_cons, ksum_cons]; omega
  | trans _ _ h1 h2 => exact h1.trans h2
theorem upTo_perm {a b : List Nat} (h : a.Perm b) (c : Nat) : Kdn.upTo a c = Kdn.upTo b c := (h.filter _).length_eq
theorem sumTo_perm {a b : List Nat} (h : a.Perm b) (c : Nat) : Kdn.sumTo a c = Kdn.sumTo b c := ksum_perm (h.filter _)
theorem stand_perm {a b : List Nat} (h : a.Perm b) (n : Nat) : stand a n = stand b n := by
  unfold stand entry
  apply List.map_congr_left
  intro i _
  rw [upTo_perm h, sumTo_perm h]
theorem marks_perm {a b : List (List Nat)} (h : a.Perm b) (k : Nat) : (Kdn.marksOf a k).Perm (Kdn.marksOf b k) := h.map _
theorem marks_flat (k : Nat) : ∀ all : List (List (List Nat)), Kdn.marksOf all.flatten k = Kdn.together all k
  | [] => rfl
  | rows :: all => by
    have := marks_flat k all
    unfold Kdn.marksOf at this
    show (rows ++ all.flatten).map (fun r => r.getD k 0) = rows.map (fun r => r.getD k 0) ++ Kdn.together all k
    rw [List.map_append, this]
/-! the keys of a contest's rows -/
open PySem PySem.Spec PyProof.Rows L2
def keysOf (d j : Nat) : List (List Key) := (List.range d).flatMap fun e => (List.range j).map fun q => key e q
theorem mem_keys {d j : Nat} {k : List Key} : k ∈ keysOf d j ↔ ∃ e q, e < d ∧ q < j ∧ k = key e q := by
  unfold keysOf
  rw [List.mem_flatMap]
  constructor
  · rintro ⟨e, he, hk⟩
    obtain ⟨q, hq, rfl⟩ := List.mem_map.mp hk
    exact ⟨e, q, List.mem_range.mp he, List.mem_range.mp hq, rfl⟩
  · rintro ⟨e, q, he, hq, rfl⟩
    exact ⟨e, List.mem_range.mpr he, List.mem_map.mpr ⟨q, List.mem_range.mpr hq, rfl⟩⟩
theorem keys_nodup (d j : Nat) : (keysOf d j).Nodup := by
  unfold keysOf List.Nodup
  rw [List.pairwise_flatMap]
  constructor
  · intro e _
    rw [List.pairwise_map]
    refine List.Pairwise.imp ?_ (List.nodup_range (n := j))
    intro a b hab z
    exact hab (key_len.mp z).2
  · refine List.Pairwise.imp ?_ (List.nodup_range (n := d))
    intro a b hab x hx y hy z
    obtain ⟨q, _, rfl⟩ := List.mem_map.mp hx
    obtain ⟨q', _, rfl⟩ := List.mem_map.mp hy
    exact hab (key_len.mp z).1
theorem keys_length (j : Nat) : ∀ d, (keysOf d j).length = d * j
  | 0 => by unfold keysOf; simp
  | d + 1 => by
    have := keys_length j d
    unfold keysOf at this ⊢
    rw [List.range_succ, List.flatMap_append, List.length_append, this]
    simp [Nat.succ_mul]
def rowAt (c : Kdn.Contest) (k : List Key) : List Nat := match k with
  | [Sum.inl a, Sum.inl b] => (look c a.toNat b.toNat).getD []
  | _ => []
theorem rowAt_key (c : Kdn.Contest) (e q : Nat) : rowAt c (key e q) = (look c e q).getD [] := by
  show (look c ((e : Int)).toNat ((q : Int)).toNat).getD [] = _
  rw [Int.toNat_natCast, Int.toNat_natCast]
theorem lack1_some : ∀ {l : List Cell}, lack1 l = 0 → l.filterMap id = l.map (fun x => x.getD []) ∧ ∀ x ∈ l, x ≠ none
  | [], _ => ⟨rfl, fun _ z => by cases z⟩
  | none :: l, h => by rw [lack1_cons, if_pos rfl] at h; omega
  | some r :: l, h => by
    rw [lack1_cons, if_neg (by simp)] at h
    obtain ⟨h1, h2⟩ := lack1_some (l := l) (by omega)
    refine ⟨?_, fun x hx => ?_⟩
    · show r :: l.filterMap id = r :: l.map _
      rw [h1]
    · rcases List.mem_cons.mp hx with rfl | z
      · simp
      · exact h2 x z
theorem full_lack {c : Kdn.Contest} (W : WF c) (h : Kdn.lacking c = 0) {e : Nat} (he : e < c.dances.length) : lack1 (c.dances.getD e []) = 0 := by
  have l1 := lack1_len (c.dances.getD e [])
  have l2 := told_full W h he
  unfold told at l2
  rw [W.wideD he] at l1
  omega
theorem full_look {c : Kdn.Contest} (W : WF c) (h : Kdn.lacking c = 0) {e q : Nat} (he : e < c.dances.length) (hq : q < c.judges) : ∃ r, look c e q = some r := by
  cases z : look c e q with
  | some r => exact ⟨r, rfl⟩
  | none =>
    exfalso
    have t := told_take W he hq
    rw [z] at t
    exact (lack1_some (full_lack W h he)).2 _ (List.mem_of_getElem? t) rfl
theorem told_row {c : Kdn.Contest} (W : WF c) (h : Kdn.lacking c = 0) {e : Nat} (he : e < c.dances.length) : ((List.range c.judges).map fun q => rowAt c (key e q)) = told c e := by
  unfold told
  rw [(lack1_some (full_lack W h he)).1]
  apply List.ext_getElem
  · rw [List.length_map, List.length_map, List.length_range, W.wideD he]
  · intro i h1 h2
    rw [List.length_map, List.length_range] at h1
    rw [List.getElem_map, List.getElem_map, List.getElem_range, rowAt_key]
    have t := told_take W he h1
    rw [List.length_map] at h2
    rw [List.getElem?_eq_getElem h2] at t
    rw [Option.some.inj t]
theorem allTold_eq (c : Kdn.Contest) : allTold c = (List.range c.dances.length).map (told c) := by
  apply List.ext_getElem?
  intro i
  by_cases h : i < c.dances.length
  · rw [allTold_at h, List.getElem?_map, List.getElem?_range h]
    rfl
  · rw [List.getElem?_eq_none (by rw [allTold_len]; omega), List.getElem?_eq_none (by rw [List.length_map, List.length_range]; omega)]
theorem keys_rows {c : Kdn.Contest} (W : WF c) (h : Kdn.lacking c = 0) : (keysOf c.dances.length c.judges).map (rowAt c) = (allTold c).flatten := by
  rw [allTold_eq, ← List.flatMap_def]
  unfold keysOf
  rw [List.map_flatMap]
  rw [List.flatMap_def, List.flatMap_def]
  congr 1
  apply List.map_congr_left
  intro e he
  rw [List.map_map]
  exact told_row W h (List.mem_range.mp he)
theorem valV_mem {kvs : List (List Key × V)} {k : List Key} {v : V} (h : valV kvs k = some v) : (k, v) ∈ kvs := by
  unfold valV at h
  obtain ⟨p, h1, h2⟩ := Option.map_eq_some_iff.mp h
  have e : p.1 = k := of_decide_eq_true (p := p.1 = k) (List.find?_some (p := fun kv : List Key × V => decide (kv.1 = k)) h1)
  have m := List.mem_of_find?_eq_some h1
  obtain ⟨a, b⟩ := p
  cases e
  cases h2
  exact m
theorem valV_nd : ∀ {kvs : List (List Key × V)} {k : List Key} {v : V}, (kvs.map fun x => x.1).Nodup → (k, v) ∈ kvs → valV kvs k = some v
  | [], _, _, _, h => by cases h
  | (a, b) :: r, k, v, hn, h => by
    rw [List.map_cons, List.nodup_cons] at hn
    unfold valV
    rw [List.find?_cons]
    rcases List.mem_cons.mp h with z | z
    · cases z
      rw [decide_eq_true rfl]
      rfl
    · have ne : ¬ a = k := fun y => hn.1 (List.mem_map.mpr ⟨(k, v), z, y.symm⟩)
      rw [decide_eq_false ne]
      exact valV_nd hn.2 z
theorem dp_snds {K : PySem.W.Frag} {H : Hp} (g : List Key → List Nat) : ∀ l : List (List Key × V), (∀ p ∈ l, Dp K H p.2 (rowD (g p.1))) → DpAll K H (l.map fun x => x.2) (((l.map fun x => x.1).map g).map rowD)
  | [], _ => .nil
  | p :: l, h => .cons (h p (List.mem_cons_self ..)) (dp_snds g l fun q hq => h q (List.mem_cons_of_mem _ hq))
/-- the values of the dict: all rows, in some order -/
theorem Rows.vals {tl : Addr} {H : Hp} {kvs : List (List Key × V)} {c : Kdn.Contest} (K : PySem.W.Frag) (R : Rows tl H kvs c) (W : WF c) (h : Kdn.lacking c = 0) : ∃ rs : List (List Nat), DpAll K H (kvs.map fun x => x.2) (rs.map rowD) ∧ rs.Perm (allTold c).flatten := by
  have ct := R.ct
  have P : (keysOf c.dances.length c.judges).Perm (kvs.map fun x => x.1) := by
    refine perm_by _ _ (keys_nodup _ _) (fun k hk => ?_) (by rw [keys_length, List.length_map]; omega)
    obtain ⟨e, q, he, hq, rfl⟩ := mem_keys.mp hk
    obtain ⟨r, hr⟩ := full_look W h he hq
    obtain ⟨a, va, _⟩ := R.sm e q r hr
    exact List.mem_map.mpr ⟨_, valV_mem va, rfl⟩
  have nd : (kvs.map fun x => x.1).Nodup := P.nodup_iff.mp (keys_nodup _ _)
  refine ⟨(kvs.map fun x => x.1).map (rowAt c), dp_snds _ _ fun p hp => ?_, ?_⟩
  · obtain ⟨e, q, he, hq, ek⟩ := mem_keys.mp (P.mem_iff.mpr (List.mem_map.mpr ⟨p, hp, rfl⟩))
    have ek' : p.1 = key e q := ek
    obtain ⟨r, hr⟩ := full_look W h he hq
    obtain ⟨a, va, ha, _⟩ := R.sm e q r hr
    have vp := valV_nd nd (k := p.1) (v := p.2) hp
    rw [ek', va] at vp
    rw [← Option.some.inj vp, ek', rowAt_key, hr]
    exact row_dp (SqL.of ha)
  · rw [← keys_rows W h]
    exact (P.map _).symm
/-! the loop that gives out the end's places, by the least total of those that are open -/
def FK (n need : Nat) (t : Nat → Nat) (pl m : Nat → List Nat) (R : Nat → Nat) (P : List Nat) (p : Nat) : Prop := ∃ l o, FJ n need t pl m R P p l o ∧ Part l (opn P) ∧ Part o (opn P) ∧ (∀ k ∈ l, ∀ j ∈ l, t k = t j) ∧ ∀ k ∈ l, ∀ j ∈ o, t k < t j
theorem FK.len {n need : Nat} {t : Nat → Nat} {pl m : Nat → List Nat} {R : Nat → Nat} {P : List Nat} {p : Nat} (J : FK n need t pl m R P p) : P.length = n := by
  obtain ⟨l, o, J, _⟩ := J
  exact J.len
theorem FK.pos {n need : Nat} {t : Nat → Nat} {pl m : Nat → List Nat} {R : Nat → Nat} {P : List Nat} {p : Nat} (J : FK n need t pl m R P p) : 1 ≤ p := by
  obtain ⟨l, o, J, _⟩ := J
  exact J.pos
theorem FK.begin {n need : Nat} {t : Nat → Nat} {pl m : Nat → List Nat} (maj : ∀ k, k < n → need ≤ Kdn.upTo (m k) n) :
    FK n need t pl m (fun k => Kdn.place (Kdn.shared 1 (Kdn.final n need t pl m (n + 1) 1 (List.range n))) k) (List.replicate n 0) 1 := by
  refine ⟨[], List.range n, FJ.begin maj, ⟨fun _ => false, ?_⟩, ⟨fun _ => true, ?_⟩, (fun _ z => by cases z), (fun _ z => by cases z)⟩
  · symm
    rw [List.filter_eq_nil_iff]
    intro _ _ z
    cases z
  · rw [opn_rep]
    exact (List.filter_eq_self.mpr fun _ _ => rfl).symm
theorem FK.done {n need : Nat} {t : Nat → Nat} {pl m : Nat → List Nat} {R : Nat → Nat} {P : List Nat} {p : Nat} (J : FK n need t pl m R P p) (h : ¬ p ≤ n) : P = (List.range n).map R := by
  obtain ⟨l, o, J, _⟩ := J
  have c := J.cnt
  have l0 : l = [] := List.length_eq_zero_iff.mp (by omega)
  have o0 : o = [] := List.length_eq_zero_iff.mp (by omega)
  subst l0 o0
  exact J.done
theorem part_less {g l q : List Nat} (h : Part l q) : Part (l.filter fun k => !(g.contains k)) (q.filter fun k => !(g.contains k)) := by
  obtain ⟨f, rfl⟩ := h
  refine ⟨f, ?_⟩
  rw [List.filter_filter, List.filter_filter]
  apply List.filter_congr
  intro k _
  exact Bool.and_comm _ _
theorem leastSum_like {t : Nat → Nat} {l : List Nat} {k j : Nat} (hk : k ∈ Kdn.leastSum t l) (hj : j ∈ l) : t k ≤ t j := by
  unfold Kdn.leastSum at hk
  exact of_decide_eq_true (List.all_eq_true.mp (List.mem_filter.mp hk).2 j hj)
/-- there is a group at the head -/
theorem FK.head {n need : Nat} {t : Nat → Nat} {pl m : Nat → List Nat} {R : Nat → Nat} {P : List Nat} {p : Nat} (J : FK n need t pl m R P p) (h : p ≤ n) :
    ∃ l o, l ≠ [] ∧ FJ n need t pl m R P p l o ∧ Part l (opn P) ∧ Part o (opn P) ∧ (∀ k ∈ l, ∀ j ∈ l, t k = t j) ∧ ∀ k ∈ l, ∀ j ∈ o, t k < t j := by
  obtain ⟨l, o, J, h1, h2, h3, h4⟩ := J
  by_cases e : l = []
  · subst e
    have c := J.cnt
    have on : o ≠ [] := fun z => by subst z; simp at c; omega
    refine ⟨_, _, leastSum_ne on, J.group on, leastSum_part.trans h2, (Part.of _ _).trans h2, fun k hk j hj => ?_, fun k hk j hj => ?_⟩
    · have a := leastSum_like hk (leastSum_part.sub j hj)
      have b := leastSum_like hj (leastSum_part.sub k hk)
      omega
    · obtain ⟨a, b⟩ := filter_not_mem.mp hj
      have le := leastSum_like hk a
      refine Nat.lt_of_le_of_ne le fun z => b ?_
      unfold Kdn.leastSum
      rw [List.mem_filter, List.all_eq_true]
      exact ⟨a, fun i hi => decide_eq_true (by have := leastSum_like hk hi; omega)⟩
  · exact ⟨l, o, e, J, h1, h2, h3, h4⟩
theorem FK.next {n need : Nat} {t : Nat → Nat} {pl m : Nat → List Nat} {R : Nat → Nat} {P : List Nat} {p : Nat} (J : FK n need t pl m R P p) (h : p ≤ n) :
    ∃ l, l ≠ [] ∧ (∀ k ∈ l, k ∈ opn P) ∧ (∀ z, z ∈ (opn P).map t → (∀ y ∈ (opn P).map t, z ≤ y) → ((opn P).filter fun k => decide (t k = z)) = l) ∧
      FK n need t pl m R (setAll P (2 * p + ((nextG n need pl m p l).length - 1)) (nextG n need pl m p l)) (p + (nextG n need pl m p l).length) ∧ nextG n need pl m p l ≠ [] := by
  obtain ⟨l, o, ne, J, h1, h2, h3, h4⟩ := J.head h
  have pp := J.pos
  refine ⟨l, ne, J.opl, fun z hz hm => ?_, ?_, nextG_ne J.pos h ne fun k hk => J.maj k (by rw [← J.len]; exact (mem_opn.mp (J.opl k hk)).1)⟩
  · obtain ⟨k0, hk0⟩ := List.exists_mem_of_ne_nil l ne
    have ez : z = t k0 := by
      obtain ⟨j, hj, rfl⟩ := List.mem_map.mp hz
      have a := hm _ (List.mem_map.mpr ⟨k0, J.opl k0 hk0, rfl⟩)
      rcases J.all j hj with y | y
      · exact h3 j y k0 hk0
      · have := h4 k0 hk0 j y
        omega
    obtain ⟨f, ef⟩ := h1
    rw [ef]
    apply List.filter_congr
    intro k hk
    by_cases y : k ∈ l
    · have fk : f k = true := by rw [ef] at y; exact (List.mem_filter.mp y).2
      rw [fk, ez]
      exact decide_eq_true (h3 k y k0 hk0)
    · have fk : f k = false := Bool.eq_false_iff.mpr fun q => y (by rw [ef]; exact List.mem_filter.mpr ⟨hk, q⟩)
      rw [fk, ez]
      refine decide_eq_false fun q => ?_
      rcases J.all k hk with x | x
      · exact y x
      · have := h4 k0 hk0 k x
        omega
  · generalize hg : nextG n need pl m p l = g
    have gp : Part g l := by rw [← hg]; exact nextG_part
    have hv : 2 * p + (g.length - 1) ≠ 0 := by omega
    refine ⟨_, o, J.give ne hg.symm, ?_, ?_, fun k hk j hj => h3 k (filter_not_mem.mp hk).1 j (filter_not_mem.mp hj).1, fun k hk j hj => h4 k (filter_not_mem.mp hk).1 j hj⟩
    · rw [opn_set hv]
      exact part_less h1
    · rw [opn_set hv]
      have e : o = o.filter fun k => !(g.contains k) := by
        symm
        rw [List.filter_eq_self]
        intro k hk
        rw [Bool.eq_false_iff.mpr fun z => J.dis k (gp.sub k (List.contains_iff_mem.mp z)) hk]
        rfl
      rw [e]
      exact part_less h2
/-! the best by places, by pairs -/
theorem ahead_plt (pl : Nat → List Nat) (p j k : Nat) : ahead pl p j k = plt (entry (pl j) (2 * p)) (entry (pl k) (2 * p)) := by
  rw [Bool.eq_iff_iff, ahead_iff, plt_iff]
  unfold entry
  simp only
  omega
theorem byPlaces_by {pl : Nat → List Nat} {p : Nat} {l : List Nat} {b : Pr} (hb : b ∈ l.map fun k => entry (pl k) (2 * p)) (hm : ∀ u ∈ l.map (fun k => entry (pl k) (2 * p)), plt u b = false) :
    (l.filter fun k => decide (entry (pl k) (2 * p) = b)) = Kdn.byPlaces pl p l := by
  rw [byPlaces_eq]
  apply List.filter_congr
  intro k hk
  obtain ⟨j, hj, rfl⟩ := List.mem_map.mp hb
  by_cases e : entry (pl k) (2 * p) = entry (pl j) (2 * p)
  · rw [decide_eq_true e]
    symm
    rw [List.all_eq_true]
    intro i hi
    rw [ahead_plt, e, hm _ (List.mem_map.mpr ⟨i, hi, rfl⟩)]
    rfl
  · rw [decide_eq_false e]
    symm
    rcases plt_total e with q | q
    · rw [hm _ (List.mem_map.mpr ⟨k, hk, rfl⟩)] at q
      cases q
    · rw [List.all_eq_false]
      exact ⟨j, hj, by rw [ahead_plt, q]; simp⟩
end Dn
end
section
set_option Elab.async false
set_option linter.all false
set_option maxRecDepth 100000
set_option maxHeartbeats 4000000
namespace Dn
open PySem PySem.Spec PyProof.Rows L2
abbrev sTot : Stmt := top 8
abbrev sPut : Stmt := top 9
abbrev sByD : Stmt := top 10
theorem zs_sum : ∀ l : List Nat, (zs l).sum = ((Kdn.sum l : Nat) : Int)
  | [] => rfl
  | x :: l => by
    have := zs_sum l
    unfold zs at this ⊢
    rw [List.map_cons, List.sum_cons, this, ksum_cons]
    push_cast
    rfl
section
variable {P : Program} {w : World} {K : PySem.W.Frag} {mg : Str → Option Value} {base : Heap}
/-! ### couple_total -/
def spTot (K : PySem.W.Frag) : Sp := fun vs H Q _ => ∃ (v : V) (ds : List (List Nat)) (k : Nat), vs = [v, .int (k : Int)] ∧ Dp K H v (rowsD ds) ∧ (∀ r ∈ ds, k < r.length) ∧ ds.length ≤ 1000 ∧
  ∀ (H' : Hp), Same H H' → Q (.int ((Kdn.sum (Kdn.marksOf ds k) : Nat) : Int)) H'
abbrev nTot : List Str := ["dances", "couple", "places"]
theorem scTot : FnScope nTot ["dances", "couple"] (defScope sTot) := ⟨rfl, rfl, rfl, by decide +kernel, rfl, by decide +kernel, by decide +kernel⟩
theorem ok_tot {f : Addr} {fd : FuncData} (F : Fun K "couple_total" "couple_total" sTot f fd) (B : Blt mg) : FnOk P w K mg base CX0 1 f fd ["dances", "couple"] (spTot K) := by
  refine F.ok scTot (fun vs H Q E h => ?_) (fun cdv A outer s H vs Q E hr h => ?_)
  · obtain ⟨v, ds, k, rfl, _⟩ := h
    rfl
  · obtain ⟨v, rs, k, rfl, hd, hk, hl, kk⟩ := h
    refine ⟨_, pss_one (ps_ret (pe_callB (cr_sum rfl) rfl B.sum PyProof.Rows.boot_sum (pa_cons (pe_lc (own := [("places", 2)]) rfl scTot.nd (pi_list (pv 0)) (blkOk_by (N := nTot) (sc := defScope sTot) (by decide +kernel)) (fun _ _ _ _ _ => pg_name (i := 2) scTot.nd rfl (Or.inl rfl)) (fun _ _ _ _ _ => pts_nil)
      (fun _ _ _ _ _ => pe_ix (r := rIxL K) ix_list (pv 2) (pv 1) (fun _ _ => rfl))) pa_nil))), ?_⟩
    obtain ⟨a, xs, rfl, hs, _, hlen, g⟩ := dp_list hd
    refine ⟨_, rfl, a, rfl, ⟨_, hs⟩, fun D hD => ?_⟩
    refine lc_list (K := K) (a := a) (xs := xs) (fun i H' => Same H H' ∧ H' D = some (.lst (zV (Kdn.marksOf (rs.take i) k)))) ⟨Same.new hD, upd_same⟩ (fun i H' _ ⟨sm, _⟩ => sm.seq hs) ?_ ?_
    · rintro i x H' hi ⟨sm, hx⟩
      have hi1 : i < xs.length := (List.getElem?_eq_some_iff.mp hi).1
      have hi2 : i < rs.length := by omega
      obtain ⟨x', e', dx⟩ := g i rs[i] (List.getElem?_eq_getElem hi2)
      rw [hi] at e'
      cases e'
      obtain ⟨b, rfl, hb⟩ := dp_row dx
      have hkr := hk rs[i] (List.getElem_mem hi2)
      refine ⟨rfl, yes_if ?_⟩
      refine ⟨_, rfl, _, rfl, b, _, _, _, rfl, rfl, sm.seq hb, atI_nat (zV_at (List.getElem?_eq_getElem hkr)), _, hx, ?_, (sm.put hD), ?_⟩
      · rw [zV_len]
        unfold Kdn.marksOf
        rw [List.length_map, List.length_take]
        exact small1000 (by omega)
      · rw [upd_same, zV_snoc, marks_take (List.getElem?_eq_getElem hi2) (List.getElem?_eq_getElem hkr)]
    · rintro H' ⟨sm, hx⟩
      rw [hlen, List.take_length] at hx
      refine ⟨D, zs _, rfl, SqL.of hx, ?_⟩
      rw [zs_sum]
      exact kk H' sm
/-! ### placed_up_to -/
def spPut (K : PySem.W.Frag) : Sp := fun vs H Q _ => ∃ (v : V) (ds : List (List Nat)) (k p : Nat), vs = [v, .int (k : Int), .int (p : Int)] ∧ Dp K H v (rowsD ds) ∧ (∀ r ∈ ds, k < r.length) ∧ ds.length ≤ 1000 ∧
  ∀ (H' : Hp) (t : Addr), Same H H' → Dp K (nw H H') (.ref t) (prD (entry (Kdn.marksOf ds k) (2 * p))) → Q (.ref t) H'
abbrev nPut : List Str := ["dances", "couple", "place", "such", "places"]
theorem scPut : FnScope nPut ["dances", "couple", "place"] (defScope sPut) := ⟨rfl, rfl, rfl, by decide +kernel, rfl, by decide +kernel, by decide +kernel⟩
theorem ok_put {f : Addr} {fd : FuncData} (F : Fun K "placed_up_to" "placed_up_to" sPut f fd) (B : Blt mg) : FnOk P w K mg base CX0 1 f fd ["dances", "couple", "place"] (spPut K) := by
  refine F.ok scPut (fun vs H Q E h => ?_) (fun cdv A outer s H vs Q E hr h => ?_)
  · obtain ⟨v, ds, k, p, rfl, _⟩ := h
    rfl
  · obtain ⟨v, rs, k, p, rfl, hd, hk, hl, kk⟩ := h
    refine ⟨_, pss_cons (ps_setLc (i := 3) (own := [("places", 4)]) rfl scPut.nd rfl rfl (sw_true rfl rfl rfl rfl) (pi_list (pv 0)) (blkOk_by (N := nPut) (sc := defScope sPut) (by decide +kernel)) (fun _ _ _ _ _ => pg_name (i := 4) scPut.nd rfl (Or.inl rfl))
        (fun _ _ _ _ _ => pts_one (pt_cmpR op_le (pe_ix (r := rIxL K) ix_list (pv 4) (pv 1) (fun _ _ => rfl)) (pe_op op_mul pe_int (pv 2)) (nomark _))) (fun _ _ _ _ _ => pe_ix (r := rIxL K) ix_list (pv 4) (pv 1) (fun _ _ => rfl)))
      (pss_one (ps_ret (pe_tup (pa_cons (pe_un un_neg (pe_callB call_len_seq rfl B.len PySem.boot_len (pa_cons (pv 3) pa_nil))) (pa_cons (pe_callB (cr_sum rfl) rfl B.sum PyProof.Rows.boot_sum (pa_cons (pv 3) pa_nil)) pa_nil))))), ?_⟩
    obtain ⟨a, xs, rfl, hs, _, hlen, g⟩ := dp_list hd
    refine ⟨_, rfl, a, rfl, ⟨_, hs⟩, fun D hD => ?_⟩
    refine lc_list (K := K) (a := a) (xs := xs) (fun i H' => Same H H' ∧ H' D = some (.lst (zV ((Kdn.marksOf (rs.take i) k).filter fun x => decide (x ≤ 2 * p))))) ⟨Same.new hD, upd_same⟩ (fun i H' _ ⟨sm, _⟩ => sm.seq hs) ?_ ?_
    · rintro i x H' hi ⟨sm, hx⟩
      have hi1 : i < xs.length := (List.getElem?_eq_some_iff.mp hi).1
      have hi2 : i < rs.length := by omega
      obtain ⟨x', e', dx⟩ := g i rs[i] (List.getElem?_eq_getElem hi2)
      rw [hi] at e'
      cases e'
      obtain ⟨b, rfl, hb⟩ := dp_row dx
      have hkr := hk rs[i] (List.getElem_mem hi2)
      refine ⟨rfl, ?_⟩
      refine ⟨_, rfl, _, rfl, b, _, _, _, rfl, rfl, sm.seq hb, atI_nat (zV_at (List.getElem?_eq_getElem hkr)), _, rfl, _, _, rfl, rfl, .inl ⟨by decide, by decide⟩, _, _, rfl, rfl, _, rfl, ?_⟩
      dsimp only
      have ed : decide ((rs[i][k] : Int) ≤ 2 * (p : Int)) = decide (rs[i][k] ≤ 2 * p) := by
        by_cases z : rs[i][k] ≤ 2 * p
        · rw [decide_eq_true z, decide_eq_true (by omega)]
        · rw [decide_eq_false z, decide_eq_false (by omega)]
      rw [ed]
      have mt := marks_take (List.getElem?_eq_getElem hi2) (List.getElem?_eq_getElem hkr)
      refine ite2 (fun q => ?_) (fun q => ?_)
      · refine ⟨_, rfl, _, rfl, b, _, _, _, rfl, rfl, sm.seq hb, atI_nat (zV_at (List.getElem?_eq_getElem hkr)), _, hx, ?_, (sm.put hD), ?_⟩
        · rw [zV_len]
          have := List.length_filter_le (fun x => decide (x ≤ 2 * p)) (Kdn.marksOf (rs.take i) k)
          unfold Kdn.marksOf at this ⊢
          rw [List.length_map, List.length_take] at this
          exact small1000 (by omega)
        · rw [upd_same, zV_snoc, mt, List.filter_append, List.filter_cons, if_pos q]
          rfl
      · refine ⟨sm, ?_⟩
        rw [mt, List.filter_append, List.filter_cons, if_neg q, hx]
        simp
    · rintro H' ⟨sm, hx⟩
      rw [hlen, List.take_length] at hx
      refine ⟨_, rfl, D, _, rfl, .inl (SqL.of hx), _, rfl, _, rfl, D, zs _, rfl, SqL.of hx, (by show 2 ≤ sizeLine; decide), fun t ht => ?_⟩
      have htH : H t = Option.none := sm.free ht
      refine kk _ t (sm.put htH) ?_
      rw [nw_upd htH, zs_sum, zV_len]
      exact pr_dp (SqT.of upd_same)
/-! ### best_by_dances -/
def spByD (K : PySem.W.Frag) : Sp := fun vs H Q _ => ∃ (v : V) (b : Addr) (ds : List (List Nat)) (ws : List Nat) (p : Nat), vs = [v, .ref b, .int (p : Int)] ∧ Dp K H v (rowsD ds) ∧ SqL K H b (zV ws) ∧ ws ≠ [] ∧ (∀ k ∈ ws, ∀ r ∈ ds, k < r.length) ∧ ds.length ≤ 1000 ∧ ws.length ≤ 1000 ∧
  ∀ (H' : Hp) (q : Addr), Same H H' → H q = Option.none → H' q = some (.lst (zV (Kdn.byPlaces (Kdn.marksOf ds) p ws))) → Q (.ref q) H'
abbrev nByD : List Str := ["dances", "tied", "place", "best", "couple"]
theorem scByD : FnScope nByD ["dances", "tied", "place"] (defScope sByD) := ⟨rfl, rfl, rfl, by decide +kernel, rfl, by decide +kernel, by decide +kernel⟩
theorem ok_byD {f fP : Addr} {fd fdP : FuncData} (F : Fun K "best_by_dances" "best_by_dances" sByD f fd) (FP : Fun K "placed_up_to" "placed_up_to" sPut fP fdP) (bP : Binds K fdP ["dances", "couple", "place"] []) (mP : mg "placed_up_to" = some (.ref fP)) (B : Blt mg) :
    FnOk P w K mg base CX0 2 f fd ["dances", "tied", "place"] (spByD K) := by
  have GP : FnOk P w K mg base CX0 1 fP fdP ["dances", "couple", "place"] (spPut K) := ok_put FP B
  refine F.ok scByD (fun vs H Q E h => ?_) (fun cdv A outer s H vs Q E hr h => ?_)
  · obtain ⟨v, b, ds, ws, p, rfl, _⟩ := h
    rfl
  · obtain ⟨v, b, ds, ws, p, rfl, hd, hb, hne, hk, hl, hw, kk⟩ := h
    refine ⟨_, pss_cons (ps_set (i := 3) scByD.nd rfl (Or.inr rfl) (pe_callB (cr_minP rfl hr.u80) rfl B.mn PyProof.Rows.boot_min (pa_cons (pe_lc (own := [("couple", 4)]) rfl scByD.nd (pi_list (pv 1)) (blkOk_by (N := nByD) (sc := defScope sByD) (by decide +kernel)) (fun _ _ _ _ _ => pg_name (i := 4) scByD.nd rfl (Or.inl rfl)) (fun _ _ _ _ _ => pts_nil)
        (fun _ _ _ _ _ => pe_call GP hr rfl mP FP.kp bP .nil pass0 (pa_cons (pv 0) (pa_cons (pv 4) (pa_cons (pv 2) pa_nil))))) pa_nil)))
      (pss_one (ps_ret (pe_lc (own := [("couple", 4)]) rfl scByD.nd (pi_list (pv 1)) (blkOk_by (N := nByD) (sc := defScope sByD) (by decide +kernel)) (fun _ _ _ _ _ => pg_name (i := 4) scByD.nd rfl (Or.inl rfl))
        (fun _ _ _ _ _ => pts_one (pt_cmpR (r := rEqD K) (op_eqD hr.units) (pe_call GP hr rfl mP FP.kp bP .nil pass0 (pa_cons (pv 0) (pa_cons (pv 4) (pa_cons (pv 2) pa_nil)))) (pv 3) (nomark _))) (fun _ _ _ _ _ => pv 4)))), ?_⟩
    refine ⟨_, rfl, b, rfl, ⟨_, hb⟩, fun D hD => ?_⟩
    refine lc_list (K := K) (a := b) (xs := zV ws) (fun i H' => Same H H' ∧ ∃ ys, H' D = some (.lst ys) ∧ DpAll K (hid D H') ys (((ws.take i).map fun k => entry (Kdn.marksOf ds k) (2 * p)).map prD)) ⟨Same.new hD, [], upd_same, .nil⟩ (fun i H' _ ⟨sm, _⟩ => sm.seq hb) ?_ ?_
    · rintro i x H' hi ⟨sm, acc, hx, hda⟩
      obtain ⟨k, ek, rfl⟩ := zV_of hi
      refine ⟨rfl, yes_if ?_⟩
      refine ⟨_, rfl, _, rfl, _, rfl, v, ds, k, p, rfl, Dp.mono sm _ _ hd, hk k (List.mem_of_getElem? ek), hl, fun H2 t s2 dp => ?_⟩
      obtain ⟨l1, _⟩ := dpAll_at hda
      rw [List.length_map, List.length_map, List.length_take] at l1
      refine ⟨acc, s2 _ _ hx, small1000 (by omega), (sm.trans s2).put hD, _, upd_same, ?_⟩
      rw [hid_upd, take_snoc ek, List.map_append, List.map_append]
      refine DpAll.snoc (DpAll.mono (fun b o e => ?_) _ _ hda) (Dp.mono (nw_hid hx) _ _ dp)
      have nb : b ≠ D := fun z => by rw [z, hid_at] at e; cases e
      rw [hid_ne nb] at e ⊢
      exact s2 b o e
    · rintro H1 ⟨sm, acc, hx, hda⟩
      rw [zV_len, List.take_length] at hda
      have wl : 0 < ws.length := List.length_pos_iff.mpr hne
      refine ⟨D, acc, (ws.map fun k => entry (Kdn.marksOf ds k) (2 * p)), rfl, SqL.of hx, DpAll.mono hid_same _ _ hda, by rw [List.length_map]; exact wl, fun x t dt ht hmin => ?_⟩
      -- return [couple for couple in tied if .. == best]
      refine ⟨_, rfl, b, rfl, ⟨_, sm.seq hb⟩, fun D2 hD2 => ?_⟩
      have hD2H : H D2 = Option.none := sm.free hD2
      refine lc_list (K := K) (a := b) (xs := zV ws) (fun i H' => Same H1 H' ∧ H' D2 = some (.lst (zV ((ws.take i).filter fun k => decide (entry (Kdn.marksOf ds k) (2 * p) = t))))) ⟨Same.new hD2, upd_same⟩ (fun i H' _ ⟨s2, _⟩ => (sm.trans s2).seq hb) ?_ ?_
      · rintro i x2 H' hi ⟨s2, hx2⟩
        obtain ⟨k, ek, rfl⟩ := zV_of hi
        refine ⟨rfl, ?_⟩
        refine ⟨_, rfl, _, rfl, _, rfl, v, ds, k, p, rfl, Dp.mono (sm.trans s2) _ _ hd, hk k (List.mem_of_getElem? ek), hl, fun H3 q s3 dq => ?_⟩
        refine ⟨_, rfl, prD (entry (Kdn.marksOf ds k) (2 * p)), prD t, Dp.mono nw_same _ _ dq, Dp.mono (s2.trans s3) _ _ dt, prD_shaped _, prD_shaped _, _, rfl, ?_⟩
        dsimp only
        rw [prD_eqv]
        refine ite2 (fun q => ?_) (fun q => ?_)
        all_goals have f := filter_snoc (fun k => decide (entry (Kdn.marksOf ds k) (2 * p) = t)) ek
        · rw [if_pos q] at f
          refine ⟨_, rfl, _, s3 _ _ hx2, ?_, (s2.trans s3).put hD2, ?_⟩
          · rw [zV_len]
            have := List.length_filter_le (fun k => decide (entry (Kdn.marksOf ds k) (2 * p) = t)) (ws.take i)
            rw [List.length_take] at this
            exact small1000 (by omega)
          · rw [upd_same, zV_snoc, f]
        · rw [if_neg q] at f
          exact ⟨s2.trans s3, by rw [f]; exact s3 _ _ hx2⟩
      · rintro H' ⟨s2, hx2⟩
        rw [zV_len, List.take_length, byPlaces_by ht hmin] at hx2
        exact kk H' D2 (sm.trans s2) hD2H hx2
end
end Dn
end
section
set_option Elab.async false
set_option linter.all false
set_option maxRecDepth 100000
set_option maxHeartbeats 4000000
namespace Dn
open PySem PySem.Spec PyProof.Rows L2
abbrev sByM : Stmt := top 11
abbrev sBest : Stmt := top 12
/-- the tables of all couples, by marks of which each has q -/
structure TabsOk (n q : Nat) (m : Nat → List Nat) (ts : List Tab) : Prop where
  len : ts.length = n
  tab : ∀ k, k < n → ts[k]? = some (stand (m k) n)
  up : ∀ k, k < n → ∀ x ∈ m k, x ≤ n
  many : ∀ k, k < n → (m k).length = q
  pos : 0 < q
theorem TabsOk.getD {n q : Nat} {m : Nat → List Nat} {ts : List Tab} (T : TabsOk n q m ts) {k : Nat} (hk : k < n) : ts.getD k [] = stand (m k) n := by
  rw [List.getD_eq_getElem?_getD, T.tab k hk]
  rfl
theorem TabsOk.wide {n q : Nat} {m : Nat → List Nat} {ts : List Tab} (T : TabsOk n q m ts) : ∀ t ∈ ts, t.length = n := fun t ht => by
  obtain ⟨k, hk, rfl⟩ := List.mem_iff_getElem.mp ht
  have e := T.tab k (by rw [← T.len]; exact hk)
  rw [List.getElem?_eq_getElem hk] at e
  rw [Option.some.inj e]
  exact stand_len _ _
theorem TabsOk.maj {n q : Nat} {m : Nat → List Nat} {ts : List Tab} (T : TabsOk n q m ts) {k : Nat} (hk : k < n) (c : Nat) : decide (2 * (entry (m k) c).1 < (entry (m k) n).1) = decide (Kdn.majority q ≤ Kdn.upTo (m k) c) := maj_iff (T.up k hk) (T.many k hk)
theorem TabsOk.all {n q : Nat} {m : Nat → List Nat} {ts : List Tab} (T : TabsOk n q m ts) {k : Nat} (hk : k < n) : Kdn.majority q ≤ Kdn.upTo (m k) n := by
  rw [upTo_all (T.up k hk), T.many k hk]
  have := T.pos
  unfold Kdn.majority
  omega
theorem any_map {α : Type} (f : α → Bool) (l : List α) : (l.map f).any id = l.any f := by
  rw [List.any_map]
  rfl
theorem any_none {f : Nat → Bool} {l : List Nat} (h : l.any f = false) : l.filter f = [] := by
  rw [List.filter_eq_nil_iff]
  intro k hk z
  rw [List.any_eq_false] at h
  exact h k hk z
theorem any_some {f : Nat → Bool} {l : List Nat} (h : l.any f = true) : l.filter f ≠ [] := fun z => by
  obtain ⟨k, hk, e⟩ := List.any_eq_true.mp h
  rw [List.filter_eq_nil_iff] at z
  exact z k hk e
section
variable {P : Program} {w : World} {K : PySem.W.Frag} {mg : Str → Option Value} {base : Heap}
/-! ### best_by_marks -/
def spByM (K : PySem.W.Frag) : Sp := fun vs H Q _ => ∃ (v : V) (b : Addr) (ts : List Tab) (ws : List Nat) (p n q : Nat) (m : Nat → List Nat), vs = [v, .ref b, .int (p : Int)] ∧ Dp K H v (tabsD ts) ∧ SqL K H b (zV ws) ∧ ws ≠ [] ∧ (∀ k ∈ ws, k < n) ∧ TabsOk n q m ts ∧ 1 ≤ p ∧ p ≤ n ∧ n ≤ 1000 ∧ ws.length ≤ 1000 ∧
  ∀ (H' : Hp) (l : Addr), Same H H' → H l = Option.none → H' l = some (.lst (zV (Kdn.byMarks n (Kdn.majority q) m n p ws))) → Q (.ref l) H'
abbrev nByM : List Str := ["tables", "tied", "place", "column", "couple"]
theorem scByM : FnScope nByM ["tables", "tied", "place"] (defScope sByM) := ⟨rfl, rfl, rfl, by decide +kernel, rfl, by decide +kernel, by decide +kernel⟩
theorem ok_byM {f fH fL : Addr} {fd fdH fdL : FuncData} (F : Fun K "best_by_marks" "best_by_marks" sByM f fd)
    (FH : Fun K "has_majority" "has_majority" sHas fH fdH) (bH : Binds K fdH ["table", "column"] []) (mH : mg "has_majority" = some (.ref fH))
    (FL : Fun K "leaders" "leaders" sLead fL fdL) (bL : Binds K fdL ["tables", "waiting", "column"] []) (mL : mg "leaders" = some (.ref fL)) (B : Blt mg) :
    FnOk P w K mg base CX0 2 f fd ["tables", "tied", "place"] (spByM K) := by
  have GH : FnOk P w K mg base CX0 1 fH fdH ["table", "column"] (spHas K) := ok_has FH
  have GL : FnOk P w K mg base CX0 1 fL fdL ["tables", "waiting", "column"] (spLead K) := ok_lead FL B
  refine F.ok scByM (fun vs H Q E h => ?_) (fun cdv A outer s H vs Q E hr h => ?_)
  · obtain ⟨v, b, ts, ws, p, n, q, m, rfl, _⟩ := h
    rfl
  · obtain ⟨v, b, ts, ws, p, n, q, m, rfl, hd, hb, hne, hk, T, hp1, hp2, hn, hw, kk⟩ := h
    refine ⟨_, pss_cons (ps_set (i := 3) scByM.nd rfl (Or.inr rfl) (pv 2))
      (pss_cons (ps_while PassesOwn.never (pt_not (pt_val (pe_callB (cr_any rfl) rfl B.any PyProof.Rows.boot_any (pa_cons (pe_lc (own := [("couple", 4)]) rfl scByM.nd (pi_list (pv 1)) (blkOk_by (N := nByM) (sc := defScope sByM) (by decide +kernel)) (fun _ _ _ _ _ => pg_name (i := 4) scByM.nd rfl (Or.inl rfl)) (fun _ _ _ _ _ => pts_nil)
          (fun _ _ _ _ _ => pe_call GH hr rfl mH FH.kp bH .nil pass0 (pa_cons (pe_ix (r := rIxL K) ix_list (pv 0) (pv 4) (fun _ _ => rfl)) (pa_cons (pv 3) pa_nil)))) pa_nil))))
        (pss_one (ps_aug (i := 3) scByM.nd rfl (Or.inr rfl) pe_int ip_add)))
      (pss_one (ps_ret (pe_call GL hr rfl mL FL.kp bL .nil pass0 (pa_cons (pv 0) (pa_cons (pe_lc (own := [("couple", 4)]) rfl scByM.nd (pi_list (pv 1)) (blkOk_by (N := nByM) (sc := defScope sByM) (by decide +kernel)) (fun _ _ _ _ _ => pg_name (i := 4) scByM.nd rfl (Or.inl rfl))
          (fun _ _ _ _ _ => pts_one (pt_val (pe_call GH hr rfl mH FH.kp bH .nil pass0 (pa_cons (pe_ix (r := rIxL K) ix_list (pv 0) (pv 4) (fun _ _ => rfl)) (pa_cons (pv 3) pa_nil))))) (fun _ _ _ _ _ => pv 4)) (pa_cons (pv 3) pa_nil))))))), ?_⟩
    obtain ⟨a, xs, rfl, hs, _, hlen, g⟩ := dp_list hd
    -- has_majority(tables[couple], column)
    have tab : ∀ {H' : Hp} {k : Nat}, Same H H' → k < n → ∃ y, xs[k]? = some y ∧ Dp K H' y (tabD (stand (m k) n)) := fun {H' k} sm hkn => by
      obtain ⟨y, ey, dy⟩ := g k _ (T.tab k hkn)
      exact ⟨y, ey, Dp.mono sm _ _ dy⟩
    have ends : ∀ {c : Nat}, 1 ≤ c → c ≤ n → c - 1 < n ∧ c - 1 + 1 = c ∧ n - 1 + 1 = n := fun h1 h2 => by omega
    refine ⟨_, rfl, ?_⟩
    refine ⟨fun mm σ H5 => ∃ (v4 : Option V) (c : Nat), σ = [some (.ref a), some (.ref b), some (.int (p : Int)), some (.int (c : Int)), v4] ∧ p ≤ c ∧ c ≤ n ∧ mm = n - c ∧ Same H H5 ∧
        Kdn.byMarks n (Kdn.majority q) m n p ws = Kdn.byMarks n (Kdn.majority q) m (n + p - c) c ws,
      ⟨_, none, p, rfl, Nat.le_refl _, hp2, rfl, Same.refl H, by rw [Nat.add_sub_cancel]⟩, ?_⟩
    rintro mm σ H5 ⟨v4, c, rfl, hc1, hc2, rfl, sm, hby⟩
    obtain ⟨q1, q2, q3⟩ := ends (c := c) (by omega) hc2
    refine ⟨_, rfl, b, rfl, ⟨_, sm.seq hb⟩, fun D hD => ?_⟩
    refine lc_list (K := K) (a := b) (xs := zV ws) (fun i H' => Same H5 H' ∧ H' D = some (.lst (((ws.take i).map fun k => decide (Kdn.majority q ≤ Kdn.upTo (m k) c)).map V.bl))) ⟨Same.new hD, upd_same⟩ (fun i H' _ ⟨s2, _⟩ => (sm.trans s2).seq hb) ?_ ?_
    · rintro i x H' hi ⟨s2, hx⟩
      obtain ⟨k, ek, rfl⟩ := zV_of hi
      have hkn : k < n := hk k (List.mem_of_getElem? ek)
      obtain ⟨y, ey, dy⟩ := tab (sm.trans s2) hkn
      refine ⟨rfl, yes_if ?_⟩
      refine ⟨_, rfl, _, rfl, a, xs, _, y, rfl, rfl, (sm.trans s2).seq hs, atI_nat ey, _, rfl, y, _, c, _, _, rfl, dy, by omega, stand_at _ q1, (by rw [stand_len]; exact stand_at _ (by omega)), _, hx, ?_, s2.put hD, ?_⟩
      · rw [List.length_map, List.length_map, List.length_take]
        exact small1000 (by omega)
      · rw [q2, q3, T.maj hkn, upd_same, take_snoc ek, List.map_append, List.map_append]
        rfl
    · rintro H6 ⟨s2, hx⟩
      rw [zV_len, List.take_length] at hx
      refine ⟨D, _, rfl, SqL.of hx, _, rfl, ?_⟩
      rw [any_map]
      dsimp only
      refine ite2 (fun z => ?_) (fun z => ?_)
      · have z1 : (ws.any fun k => decide (Kdn.majority q ≤ Kdn.upTo (m k) c)) = false := by simpa using z
        have fn := any_none z1
        have cn : c < n := by
          refine Nat.lt_of_le_of_ne hc2 fun y => ?_
          obtain ⟨k0, hk0⟩ := List.exists_mem_of_ne_nil ws hne
          have : k0 ∈ ws.filter fun k => decide (Kdn.majority q ≤ Kdn.upTo (m k) c) := List.mem_filter.mpr ⟨hk0, decide_eq_true (by rw [y]; exact T.all (hk k0 hk0))⟩
          rw [fn] at this
          cases this
        refine ⟨_, fun _ _ h => h, ?_⟩
        refine ⟨_, rfl, _, _, rfl, rfl, ?_⟩
        refine ⟨n - (c + 1), by omega, v4, c + 1, rfl, by omega, by omega, rfl, sm.trans s2, ?_⟩
        rw [hby]
        have ef : n + p - c = (n + p - (c + 1)) + 1 := by omega
        rw [ef, byMarks_next fn]
      · have z1 : (ws.any fun k => decide (Kdn.majority q ≤ Kdn.upTo (m k) c)) = true := by simpa using z
        have fne := any_some z1
        refine ⟨_, rfl, _, rfl, b, rfl, ⟨_, (sm.trans s2).seq hb⟩, fun D2 hD2 => ?_⟩
        have s6 : Same H H6 := sm.trans s2
        refine lc_list (K := K) (a := b) (xs := zV ws) (fun i H' => Same H6 H' ∧ H' D2 = some (.lst (zV ((ws.take i).filter fun k => decide (Kdn.majority q ≤ Kdn.upTo (m k) c))))) ⟨Same.new hD2, upd_same⟩ (fun i H' _ ⟨s3, _⟩ => (s6.trans s3).seq hb) ?_ ?_
        · rintro i x H' hi ⟨s3, hx3⟩
          obtain ⟨k, ek, rfl⟩ := zV_of hi
          have hkn : k < n := hk k (List.mem_of_getElem? ek)
          obtain ⟨y, ey, dy⟩ := tab (s6.trans s3) hkn
          refine ⟨rfl, ?_⟩
          refine ⟨_, rfl, _, rfl, a, xs, _, y, rfl, rfl, (s6.trans s3).seq hs, atI_nat ey, _, rfl, y, _, c, _, _, rfl, dy, by omega, stand_at _ q1, (by rw [stand_len]; exact stand_at _ (by omega)), _, rfl, ?_⟩
          dsimp only
          rw [q2, q3, T.maj hkn]
          have f4 := filter_snoc (fun k => decide (Kdn.majority q ≤ Kdn.upTo (m k) c)) ek
          refine ite2 (fun y => ?_) (fun y => ?_)
          · rw [if_pos y] at f4
            refine ⟨_, rfl, _, hx3, ?_, s3.put hD2, ?_⟩
            · rw [zV_len]
              have h1 := List.length_filter_le (fun k => decide (Kdn.majority q ≤ Kdn.upTo (m k) c)) (ws.take i)
              rw [List.length_take] at h1
              exact small1000 (by omega)
            · rw [upd_same, zV_snoc, f4]
          · rw [if_neg y] at f4
            exact ⟨s3, by rw [f4]; exact hx3⟩
        · rintro H7 ⟨s3, hx3⟩
          rw [zV_len, List.take_length] at hx3
          have s7 : Same H H7 := s6.trans s3
          have fl := List.length_filter_le (fun k => decide (Kdn.majority q ≤ Kdn.upTo (m k) c)) ws
          refine ⟨_, rfl, .ref a, D2, ts, _, c, n, rfl, Dp.mono s7 _ _ hd, SqL.of hx3, fne, fun k hkm => by rw [T.len]; exact hk k (List.mem_filter.mp hkm).1, T.wide, by omega, hc2, hn, by omega, fun H8 l s8 fl hl => ?_⟩
          refine kk H8 l (s7.trans s8) (s7.free fl) ?_
          have ef : n + p - c = (n + p - c - 1) + 1 := by omega
          rw [hl, hby, ef, byMarks_at fne, lead_front (by omega) hc2 fun k hkm => T.getD (hk k (List.mem_filter.mp hkm).1)]
/-! ### best_of -/
def spBest (K : PySem.W.Frag) : Sp := fun vs H Q _ => ∃ (u v : V) (b : Addr) (ds : List (List Nat)) (ts : List Tab) (ws : List Nat) (p n q : Nat) (m : Nat → List Nat), vs = [u, v, .ref b, .int (p : Int)] ∧ Dp K H u (rowsD ds) ∧ (∀ k ∈ ws, ∀ r ∈ ds, k < r.length) ∧ ds.length ≤ 1000 ∧
  Dp K H v (tabsD ts) ∧ SqL K H b (zV ws) ∧ ws ≠ [] ∧ (∀ k ∈ ws, k < n) ∧ TabsOk n q m ts ∧ 1 ≤ p ∧ p ≤ n ∧ n ≤ 1000 ∧ ws.length ≤ 1000 ∧
  ∀ (H' : Hp) (l : Addr), Same H H' → H l = Option.none → H' l = some (.lst (zV (nextG n (Kdn.majority q) (Kdn.marksOf ds) m p ws))) → Q (.ref l) H'
abbrev nBest : List Str := ["dances", "tables", "tied", "place", "best"]
theorem scBest : FnScope nBest ["dances", "tables", "tied", "place"] (defScope sBest) := ⟨rfl, rfl, rfl, by decide +kernel, rfl, by decide +kernel, by decide +kernel⟩
theorem ok_best {f fD fM : Addr} {fd fdD fdM : FuncData} (F : Fun K "best_of" "best_of" sBest f fd)
    (FD : Fun K "best_by_dances" "best_by_dances" sByD fD fdD) (bD : Binds K fdD ["dances", "tied", "place"] []) (mD : mg "best_by_dances" = some (.ref fD)) (GD : FnOk P w K mg base CX0 2 fD fdD ["dances", "tied", "place"] (spByD K))
    (FM : Fun K "best_by_marks" "best_by_marks" sByM fM fdM) (bM : Binds K fdM ["tables", "tied", "place"] []) (mM : mg "best_by_marks" = some (.ref fM)) (GM : FnOk P w K mg base CX0 2 fM fdM ["tables", "tied", "place"] (spByM K)) (B : Blt mg) :
    FnOk P w K mg base CX0 3 f fd ["dances", "tables", "tied", "place"] (spBest K) := by
  refine F.ok scBest (fun vs H Q E h => ?_) (fun cdv A outer s H vs Q E hr h => ?_)
  · obtain ⟨u, v, b, ds, ts, ws, p, n, q, m, rfl, _⟩ := h
    rfl
  · obtain ⟨u, v, b, ds, ts, ws, p, n, q, m, rfl, hu, hkd, hld, hd, hb, hne, hk, T, hp1, hp2, hn, hw, kk⟩ := h
    refine ⟨_, pss_cons (ps_set (i := 4) scBest.nd rfl (Or.inl rfl) (pe_call GD hr rfl mD FD.kp bD .nil pass0 (pa_cons (pv 0) (pa_cons (pv 2) (pa_cons (pv 3) pa_nil)))))
      (pss_cons (ps_if (pt_cmpR op_eq (pe_callB call_len_seq rfl B.len PySem.boot_len (pa_cons (pv 4) pa_nil)) pe_int (nomark _)) (pss_one (ps_ret (pv 4))) pss_nil)
      (pss_one (ps_ret (pe_call GM hr rfl mM FM.kp bM .nil pass0 (pa_cons (pv 1) (pa_cons (pv 4) (pa_cons (pv 3) pa_nil))))))), ?_⟩
    refine ⟨_, rfl, _, rfl, _, rfl, u, b, ds, ws, p, rfl, hu, hb, hne, hkd, hld, hw, fun H1 l s1 fl hl => ?_⟩
    refine ⟨_, rfl, l, _, rfl, .inl (SqL.of hl), rfl, _, rfl, ?_⟩
    dsimp only
    rw [zV_len]
    refine ite2 (fun z => ?_) (fun z => ?_)
    · have z1 : (Kdn.byPlaces (Kdn.marksOf ds) p ws).length = 1 := by
        have := of_decide_eq_true z
        injection this with this
        omega
      refine ⟨_, rfl, kk H1 l s1 fl ?_⟩
      unfold nextG
      rw [if_pos z1]
      exact hl
    · have z1 : ¬ (Kdn.byPlaces (Kdn.marksOf ds) p ws).length = 1 := fun y => z (decide_eq_true (by rw [y]; rfl))
      have pr : Part (Kdn.byPlaces (Kdn.marksOf ds) p ws) ws := Part.of _ _
      have ln : (Kdn.byPlaces (Kdn.marksOf ds) p ws).length ≤ ws.length := List.length_filter_le ..
      refine ⟨_, rfl, _, rfl, _, rfl, v, l, ts, _, p, n, q, m, rfl, Dp.mono s1 _ _ hd, SqL.of hl, byPlaces_ne hne, fun k hkm => hk k (pr.sub k hkm), T, hp1, hp2, hn, by omega, fun H2 l2 s2 f2 h2 => ?_⟩
      refine kk H2 l2 (s1.trans s2) (s1.free f2) ?_
      unfold nextG
      rw [if_neg z1]
      exact h2
end
end Dn
end
section
set_option Elab.async false
set_option linter.all false
set_option maxRecDepth 100000
set_option maxHeartbeats 4000000
namespace Dn
open PySem PySem.Spec PyProof.Rows L2
abbrev sFin : Stmt := top 13
theorem byPlaces_congr {pl pl' : Nat → List Nat} {p : Nat} {l : List Nat} (h : ∀ k ∈ l, pl k = pl' k) : Kdn.byPlaces pl p l = Kdn.byPlaces pl' p l := by
  rw [byPlaces_eq, byPlaces_eq]
  apply List.filter_congr
  intro k hk
  have e : ∀ j ∈ l, ahead pl p j k = ahead pl' p j k := fun j hj => by unfold ahead; rw [h k hk, h j hj]
  rw [Bool.eq_iff_iff, List.all_eq_true, List.all_eq_true]
  constructor
  · intro q j hj
    rw [← e j hj]
    exact q j hj
  · intro q j hj
    rw [e j hj]
    exact q j hj
theorem nextG_congr {n need : Nat} {pl pl' m : Nat → List Nat} {p : Nat} {l : List Nat} (h : ∀ k ∈ l, pl k = pl' k) : nextG n need pl m p l = nextG n need pl' m p l := by
  unfold nextG
  rw [byPlaces_congr h]
theorem plF_marks {n : Nat} {all : List (List (List Nat))} {k : Nat} (h : k < n) : plF n all k = Kdn.marksOf (all.map (Kdn.danceOf n)) k := by
  rw [plF_at h]
  unfold Kdn.placesOf Kdn.marksOf
  rw [List.map_map]
  rfl
theorem ttF_sum {n : Nat} {all : List (List (List Nat))} {k : Nat} (h : k < n) : ttF n all k = Kdn.sum (Kdn.marksOf (all.map (Kdn.danceOf n)) k) := by
  rw [ttF_at h, ← plF_marks h, plF_at h]
  rfl
section
variable {P : Program} {w : World} {K : PySem.W.Frag} {mg : Str → Option Value} {base : Heap}
def spFin (K : PySem.W.Frag) : Sp := fun vs H Q _ => ∃ (u v : V) (all : List (List (List Nat))) (rs : List (List Nat)) (n : Nat), vs = [u, v, .int (n : Int)] ∧ Dp K H u (rowsD (all.map (Kdn.danceOf n))) ∧ Dp K H v (rowsD rs) ∧ rs.Perm all.flatten ∧
  (∀ rows ∈ all, ∀ r ∈ rows, r.length = n ∧ ∀ x ∈ r, 1 ≤ x ∧ x ≤ n) ∧ 0 < Kdn.marksMany all ∧ rs.length ≤ 1000 ∧ all.length ≤ 1000 ∧ n ≤ 1000 ∧
  ∀ (H' : Hp) (p : Addr), Same H H' → H p = Option.none → H' p = some (.lst (zV (Kdn.finalOf n all))) → Q (.ref p) H'
abbrev nFin : List Str := ["dances", "rows", "couples", "tables", "totals", "final", "place", "unplaced", "least", "best", "couple"]
theorem scFin : FnScope nFin ["dances", "rows", "couples"] (defScope sFin) := ⟨rfl, rfl, rfl, by decide +kernel, rfl, by decide +kernel, by decide +kernel⟩
theorem ok_fin {f fC fT fB fM : Addr} {fd fdC fdT fdB fdM : FuncData} (F : Fun K "final_places" "final_places" sFin f fd)
    (FC : Fun K "couple_table" "couple_table" sCtab fC fdC) (bC : Binds K fdC ["rows", "couple", "couples"] []) (mC : mg "couple_table" = some (.ref fC)) (GC : FnOk P w K mg base CX0 2 fC fdC ["rows", "couple", "couples"] (spCtab K))
    (FT : Fun K "couple_total" "couple_total" sTot fT fdT) (bT : Binds K fdT ["dances", "couple"] []) (mT : mg "couple_total" = some (.ref fT))
    (FB : Fun K "best_of" "best_of" sBest fB fdB) (bB : Binds K fdB ["dances", "tables", "tied", "place"] []) (mB : mg "best_of" = some (.ref fB)) (GB : FnOk P w K mg base CX0 3 fB fdB ["dances", "tables", "tied", "place"] (spBest K))
    (FM : Fun K "middle_place" "middle_place" sMid fM fdM) (bM : Binds K fdM ["place", "sharing"] []) (mM : mg "middle_place" = some (.ref fM)) (B : Blt mg) :
    FnOk P w K mg base CX0 4 f fd ["dances", "rows", "couples"] (spFin K) := by
  have GT : FnOk P w K mg base CX0 1 fT fdT ["dances", "couple"] (spTot K) := ok_tot FT B
  have GM : FnOk P w K mg base CX0 1 fM fdM ["place", "sharing"] spMid := ok_mid FM
  refine F.ok scFin (fun vs H Q E h => ?_) (fun cdv A outer s H vs Q E hr h => ?_)
  · obtain ⟨u, v, all, rs, n, rfl, _⟩ := h
    rfl
  · obtain ⟨u, v, all, rs, n, rfl, hu, hd, hperm, hall, hmany, hr1, ha1, hn, kk⟩ := h
    have r1 : Room 1 _ := hr.mono (by decide)
    have r2 : Room 2 _ := hr.mono (by decide)
    refine ⟨_, pss_cons (ps_setLc (i := 3) (own := [("couple", 10)]) rfl scFin.nd rfl rfl (sw_true rfl rfl rfl rfl) (pi_range1 rfl B.range (pa_cons (pv 2) pa_nil)) (blkOk_by (N := nFin) (sc := defScope sFin) (by decide +kernel)) (fun _ _ _ _ _ => pg_name (i := 10) scFin.nd rfl (Or.inl rfl)) (fun _ _ _ _ _ => pts_nil)
        (fun _ _ _ _ _ => pe_call GC (hr.mono (by decide)) rfl mC FC.kp bC .nil pass0 (pa_cons (pv 1) (pa_cons (pv 10) (pa_cons (pv 2) pa_nil)))))
      (pss_cons (ps_set (i := 4) scFin.nd rfl (Or.inr rfl) (pe_lc (own := [("couple", 10)]) rfl scFin.nd (pi_range1 rfl B.range (pa_cons (pv 2) pa_nil)) (blkOk_by (N := nFin) (sc := defScope sFin) (by decide +kernel)) (fun _ _ _ _ _ => pg_name (i := 10) scFin.nd rfl (Or.inl rfl)) (fun _ _ _ _ _ => pts_nil)
        (fun _ _ _ _ _ => pe_call GT (hr.mono (by decide)) rfl mT FT.kp bT .nil pass0 (pa_cons (pv 0) (pa_cons (pv 10) pa_nil)))))
      (pss_cons (ps_set (i := 5) scFin.nd rfl (Or.inr rfl) (pe_op op_rep (pe_lst (pa_cons pe_int pa_nil)) (pv 2)))
      (pss_cons (ps_set (i := 6) scFin.nd rfl (Or.inl rfl) pe_int)
      (pss_cons (ps_while PassesOwn.never (pt_cmpR op_le (pv 6) (pv 2) (nomark _))
        (pss_cons (ps_setLc (i := 7) (own := [("couple", 10)]) rfl scFin.nd rfl rfl (sw_true rfl rfl rfl rfl) (pi_range1 rfl B.range (pa_cons (pv 2) pa_nil)) (blkOk_by (N := nFin) (sc := defScope sFin) (by decide +kernel)) (fun _ _ _ _ _ => pg_name (i := 10) scFin.nd rfl (Or.inl rfl))
          (fun _ _ _ _ _ => pts_one (pt_cmpR op_eq (pe_ix (r := rIxL K) ix_list (pv 5) (pv 10) (fun _ _ => rfl)) pe_int (nomark _))) (fun _ _ _ _ _ => pv 10))
        (pss_cons (ps_set (i := 8) scFin.nd rfl (Or.inr rfl) (pe_callB (cr_min rfl) rfl B.mn PyProof.Rows.boot_min (pa_cons (pe_lc (own := [("couple", 10)]) rfl scFin.nd (pi_list (pv 7)) (blkOk_by (N := nFin) (sc := defScope sFin) (by decide +kernel)) (fun _ _ _ _ _ => pg_name (i := 10) scFin.nd rfl (Or.inl rfl)) (fun _ _ _ _ _ => pts_nil)
          (fun _ _ _ _ _ => pe_ix (r := rIxL K) ix_list (pv 4) (pv 10) (fun _ _ => rfl))) pa_nil)))
        (pss_cons (ps_set (i := 9) scFin.nd rfl (Or.inl rfl) (pe_call GB hr rfl mB FB.kp bB .nil pass0 (pa_cons (pv 0) (pa_cons (pv 3) (pa_cons (pe_lc (own := [("couple", 10)]) rfl scFin.nd (pi_list (pv 7)) (blkOk_by (N := nFin) (sc := defScope sFin) (by decide +kernel)) (fun _ _ _ _ _ => pg_name (i := 10) scFin.nd rfl (Or.inl rfl))
          (fun _ _ _ _ _ => pts_one (pt_cmpR op_eq (pe_ix (r := rIxL K) ix_list (pv 4) (pv 10) (fun _ _ => rfl)) (pv 8) (nomark _))) (fun _ _ _ _ _ => pv 10)) (pa_cons (pv 6) pa_nil))))))
        (pss_cons (ps_for PassesOwn.never rfl (pi_list (pv 9)) (pg_name (i := 10) scFin.nd rfl (Or.inl rfl))
          (pss_one (ps_asg (pe_call GM r1 rfl mM FM.kp bM .nil pass0 (pa_cons (pv 6) (pa_cons (pe_callB call_len_seq rfl B.len PySem.boot_len (pa_cons (pv 9) pa_nil)) pa_nil))) (pg_sub (pv 5) (pv 10) set_list))))
        (pss_one (ps_aug (i := 6) scFin.nd rfl (Or.inl rfl) (pe_callB call_len_seq rfl B.len PySem.boot_len (pa_cons (pv 9) pa_nil)) ip_add)))))))
      (pss_one (ps_ret (pv 5))))))), ?_⟩
    -- what is meant
    have rsm : ∀ r ∈ rs, r.length = n ∧ ∀ x ∈ r, 1 ≤ x ∧ x ≤ n := fun r hr' => by
      obtain ⟨rows, h1, h2⟩ := List.mem_flatten.mp (hperm.mem_iff.mp hr')
      exact hall rows h1 r h2
    generalize hts : (List.range n).map (fun k => stand (mkF n all k) n) = ts
    have T : TabsOk n (Kdn.marksMany all) (mkF n all) ts := by
      refine ⟨by rw [← hts, List.length_map, List.length_range], fun k hk => ?_, fun k hk x hx => ?_, fun k hk => ?_, hmany⟩
      · rw [← hts, List.getElem?_map, List.getElem?_range hk]
        rfl
      · rw [mkF_at hk] at hx
        exact (together_range hall hk x hx).2
      · rw [mkF_at hk, together_len]
    have tsm : ∀ k, k < n → stand (Kdn.marksOf rs k) n = stand (mkF n all k) n := fun k hk => by
      rw [mkF_at hk, ← marks_flat]
      exact stand_perm (marks_perm hperm k) n
    have dsl : ∀ r ∈ all.map (Kdn.danceOf n), r.length = n := fun r hr' => by
      obtain ⟨rows, _, rfl⟩ := List.mem_map.mp hr'
      exact danceOf_len _ _
    -- tables = [couple_table(rows, couple, couples) for couple in range(couples)]
    refine ⟨_, rfl, (n : Int), rfl, by omega, by omega, fun D hD => ?_⟩
    have en0 : ((n : Int)).toNat = n := by omega
    rw [en0]
    refine lc_range (n := n) (fun i H' => i ≤ n ∧ Same H H' ∧ ∃ xs, H' D = some (.lst xs) ∧ DpAll K (hid D H') xs ((ts.take i).map tabD)) ⟨Nat.zero_le _, Same.new hD, [], upd_same, .nil⟩ ?_ ?_
    · rintro i H' hi ⟨_, sm, xs, hx, hda⟩
      refine ⟨rfl, yes_if ?_⟩
      refine ⟨_, rfl, _, rfl, _, rfl, v, rs, i, n, by rw [Int.zero_add]; rfl, Dp.mono sm _ _ hd, fun r hr' => ⟨by rw [(rsm r hr').1]; exact hi, fun x hx' => ((rsm r hr').2 x hx').1⟩, hr1, hn, fun H2 p s2 dp => ?_⟩
      rw [tsm i hi] at dp
      obtain ⟨l1, _⟩ := dpAll_at hda
      rw [List.length_map, List.length_take, T.len] at l1
      refine ⟨xs, s2 _ _ hx, small1000 (by omega), hi, (sm.trans s2).put hD, _, upd_same, ?_⟩
      rw [hid_upd, take_snoc (T.tab i hi), List.map_append]
      refine DpAll.snoc (DpAll.mono (fun b o e => ?_) _ _ hda) (Dp.mono (nw_hid hx) _ _ dp)
      have nb : b ≠ D := fun z => by rw [z, hid_at] at e; cases e
      rw [hid_ne nb] at e ⊢
      exact s2 b o e
    rintro H1 ⟨_, sm1, xs1, hx1, hda1⟩
    rw [List.take_of_length_le (by rw [T.len]; exact Nat.le_refl _)] at hda1
    have hT : Dp K H1 (.ref D) (tabsD ts) := .lst (SqL.of hx1) (DpAll.mono hid_same _ _ hda1)
    -- totals = [couple_total(dances, couple) for couple in range(couples)]
    refine ⟨_, rfl, (n : Int), rfl, by omega, by omega, fun E1 hE1 => ?_⟩
    rw [en0]
    refine lc_range (n := n) (fun i H' => i ≤ n ∧ Same H1 H' ∧ H' E1 = some (.lst (zV ((List.range i).map (ttF n all))))) ⟨Nat.zero_le _, Same.new hE1, upd_same⟩ ?_ ?_
    · rintro i H' hi ⟨_, sm, hx⟩
      refine ⟨rfl, yes_if ?_⟩
      refine ⟨_, rfl, _, rfl, u, all.map (Kdn.danceOf n), i, by rw [Int.zero_add]; rfl, Dp.mono (sm1.trans sm) _ _ hu, fun r hr' => by rw [dsl r hr']; exact hi, by rw [List.length_map]; exact ha1, fun H2 s2 => ?_⟩
      rw [← ttF_sum hi]
      refine ⟨_, s2 _ _ hx, ?_, hi, (sm.trans s2).put hE1, ?_⟩
      · rw [zV_len, List.length_map, List.length_range]
        exact small1000 (by omega)
      · rw [upd_same, zV_snoc, List.range_succ, List.map_append]
        rfl
    rintro H1b ⟨_, sm1b, hxE⟩
    -- final = [0] * couples; place = 1
    refine ⟨(by show 1 ≤ sizeLine; decide), fun q0 hq0 => ?_⟩
    refine ⟨_, rfl, q0, (n : Int), _, rfl, rfl, upd_same, by omega, by omega, ?_, fun l hl => ?_⟩
    · have := small1000 hn
      rw [en0]
      show 1 * n ≤ sizeLine
      omega
    have hlH1 : H1b l = Option.none := (Same.new hq0).free hl
    have hlH : H l = Option.none := (sm1.trans sm1b).free hlH1
    have e0 : (List.replicate ((n : Int)).toNat [V.int 0]).flatten = zV (List.replicate n 0) := by rw [en0, rep_zero]
    rw [e0]
    generalize hH2 : upd H1b q0 (.lst [.int 0]) = H2 at hl
    have sm2 : Same H1b H2 := by rw [← hH2]; exact Same.new hq0
    have sH2 : Same H H2 := (sm1.trans sm1b).trans sm2
    have hT2 : Dp K H2 (.ref D) (tabsD ts) := Dp.mono (sm1b.trans sm2) _ _ hT
    have hU2 : Dp K H2 u (rowsD (all.map (Kdn.danceOf n))) := Dp.mono sH2 _ _ hu
    have hE2 : H2 E1 = some (.lst (zV ((List.range n).map (ttF n all)))) := sm2 _ _ hxE
    have ttat : ∀ {k : Nat}, k < n → ((List.range n).map (ttF n all))[k]? = some (ttF n all k) := fun {k} hk => by
      rw [List.getElem?_map, List.getElem?_range hk]
      rfl
    -- while place <= couples
    refine ⟨fun mm σ H5 => ∃ (v7 v8 v9 v10 : Option V) (P : List Nat) (p : Nat), σ = [some u, some v, some (.int (n : Int)), some (.ref D), some (.ref E1), some (.ref l), some (.int (p : Int)), v7, v8, v9, v10] ∧ mm = n + 1 - p ∧ Same H2 H5 ∧ H5 l = some (.lst (zV P)) ∧
        FK n (Kdn.majority (Kdn.marksMany all)) (ttF n all) (plF n all) (mkF n all) (endF n all) P p,
      ⟨_, none, none, none, none, _, 1, rfl, rfl, Same.new hl, upd_same, FK.begin (maj_all hall hmany)⟩, ?_⟩
    rintro mm σ H5 ⟨v7, v8, v9, v10, P, p, rfl, rfl, s5, hl5, J⟩
    have Pl := J.len
    refine ⟨_, rfl, _, rfl, _, _, rfl, rfl, _, rfl, ?_⟩
    dsimp only
    refine ite2 (fun q => ?_) (fun q => ?_)
    · have hpn : p ≤ n := by have := of_decide_eq_true q; omega
      have pp := J.pos
      obtain ⟨gl, glne, glop, glby, J2, gne⟩ := J.next hpn
      refine ⟨_, fun _ _ h => h, ?_⟩
      -- unplaced = [couple for couple in range(couples) if final[couple] == 0]
      refine ⟨_, rfl, (n : Int), rfl, by omega, by omega, fun D1 hD1 => ?_⟩
      rw [en0]
      refine lc_range (n := n) (fun j H3 => j ≤ n ∧ Same H5 H3 ∧ H3 D1 = some (.lst (zV ((List.range j).filter fun k => P.getD k 0 == 0)))) ⟨Nat.zero_le _, Same.new hD1, upd_same⟩ ?_ ?_
      · rintro j H3 hj ⟨_, s3, hx3⟩
        have hjP : j < P.length := by omega
        have ej : (P[j]? = some P[j]) := List.getElem?_eq_getElem hjP
        refine ⟨rfl, ?_⟩
        refine ⟨_, rfl, _, rfl, l, _, _, _, rfl, rfl, SqL.of (s3 _ _ hl5), at_of (Int.zero_add _) (zV_at ej), rfl, _, rfl, ?_⟩
        dsimp only
        have ed : decide (V.int (P[j] : Int) = V.int 0) = (P.getD j 0 == 0) := by
          rw [List.getD_eq_getElem?_getD, ej]
          show _ = (P[j] == 0)
          by_cases z : P[j] = 0
          · rw [z]; rfl
          · rw [decide_eq_false (fun y => z (by injection y with y; omega))]
            exact (beq_eq_false_iff_ne.mpr z).symm
        rw [ed]
        have f3 := List.range_succ (n := j)
        refine ite2 (fun q => ?_) (fun q => ?_)
        · refine ⟨_, rfl, _, hx3, ?_, hj, s3.put hD1, ?_⟩
          · rw [zV_len]
            have := List.length_filter_le (fun k => P.getD k 0 == 0) (List.range j)
            rw [List.length_range] at this
            exact small1000 (by omega)
          · rw [upd_same, f3, List.filter_append, List.filter_cons, if_pos q, Int.zero_add, zV_snoc]
            rfl
        · refine ⟨hj, s3, ?_⟩
          rw [f3, List.filter_append, List.filter_cons, if_neg q, hx3]
          simp
      rintro H3 ⟨_, s3, hx3⟩
      rw [opn_take P n Pl.symm] at hx3
      have inP : ∀ {k : Nat}, k ∈ opn P → k < n := fun {k} hk => by rw [← Pl]; exact (mem_opn.mp hk).1
      have oln : (opn P).length ≤ n := by
        have h2 := List.length_filter_le (fun k => P.getD k 0 == 0) (List.range P.length)
        rw [List.length_range, Pl] at h2
        unfold opn
        rw [Pl]
        exact h2
      have s23 : Same H2 H3 := s5.trans s3
      -- least = min([totals[couple] for couple in unplaced])
      refine ⟨_, rfl, D1, rfl, ⟨_, SqL.of hx3⟩, fun D2 hD2 => ?_⟩
      refine lc_list (K := K) (a := D1) (xs := zV (opn P)) (fun j H4 => Same H3 H4 ∧ H4 D2 = some (.lst (zV (((opn P).take j).map (ttF n all))))) ⟨Same.new hD2, upd_same⟩ (fun j H4 _ ⟨s4, _⟩ => s4.seq (SqL.of hx3)) ?_ ?_
      · rintro j x H4 hj ⟨s4, hx4⟩
        obtain ⟨k, ek, rfl⟩ := zV_of hj
        have hkn : k < n := inP (List.mem_of_getElem? ek)
        refine ⟨rfl, yes_if ?_⟩
        refine ⟨_, rfl, _, rfl, E1, _, _, _, rfl, rfl, SqL.of ((s23.trans s4) _ _ hE2), atI_nat (zV_at (ttat hkn)), _, hx4, ?_, s4.put hD2, ?_⟩
        · rw [zV_len, List.length_map, List.length_take]
          exact small1000 (by omega)
        · rw [upd_same, zV_snoc, take_snoc ek, List.map_append]
          rfl
      rintro H4 ⟨s4, hx4⟩
      rw [zV_len, List.take_length] at hx4
      have one : 0 < (opn P).length := by
        obtain ⟨k0, hk0⟩ := List.exists_mem_of_ne_nil gl glne
        exact List.length_pos_of_mem (glop k0 hk0)
      refine ⟨D2, zs _, rfl, SqL.of hx4, by unfold zs; rw [List.length_map, List.length_map]; exact one, fun z hz hmin => ?_⟩
      obtain ⟨z, hz1, rfl⟩ : ∃ y : Nat, y ∈ (opn P).map (ttF n all) ∧ (y : Int) = z := by
        unfold zs at hz
        obtain ⟨y, h1, h2⟩ := List.mem_map.mp hz
        exact ⟨y, h1, h2⟩
      have tied := glby z hz1 fun y hy => by
        have := hmin (y : Int) (by unfold zs; exact List.mem_map.mpr ⟨y, hy, rfl⟩)
        omega
      -- best = best_of(dances, tables, [couple for couple in unplaced if totals[couple] == least], place)
      have s24 : Same H2 H4 := s23.trans s4
      refine ⟨_, rfl, _, rfl, _, rfl, D1, rfl, ⟨_, SqL.of (s4 _ _ hx3)⟩, fun D3 hD3 => ?_⟩
      refine lc_list (K := K) (a := D1) (xs := zV (opn P)) (fun j H6 => Same H4 H6 ∧ H6 D3 = some (.lst (zV (((opn P).take j).filter fun k => decide (ttF n all k = z))))) ⟨Same.new hD3, upd_same⟩ (fun j H6 _ ⟨s6, _⟩ => (s4.trans s6).seq (SqL.of hx3)) ?_ ?_
      · rintro j x H6 hj ⟨s6, hx6⟩
        obtain ⟨k, ek, rfl⟩ := zV_of hj
        have hkn : k < n := inP (List.mem_of_getElem? ek)
        refine ⟨rfl, ?_⟩
        refine ⟨_, rfl, _, rfl, E1, _, _, _, rfl, rfl, SqL.of ((s24.trans s6) _ _ hE2), atI_nat (zV_at (ttat hkn)), _, rfl, rfl, _, rfl, ?_⟩
        dsimp only
        have ed : decide (V.int (ttF n all k : Int) = V.int (z : Int)) = decide (ttF n all k = z) := by
          by_cases y : ttF n all k = z
          · rw [decide_eq_true y, y]; exact decide_eq_true rfl
          · rw [decide_eq_false y]
            exact decide_eq_false fun q => y (by injection q with q; omega)
        rw [ed]
        have f6 := filter_snoc (fun k => decide (ttF n all k = z)) ek
        refine ite2 (fun y => ?_) (fun y => ?_)
        · rw [if_pos y] at f6
          refine ⟨_, rfl, _, hx6, ?_, s6.put hD3, ?_⟩
          · rw [zV_len]
            have h1 := List.length_filter_le (fun k => decide (ttF n all k = z)) ((opn P).take j)
            rw [List.length_take] at h1
            exact small1000 (by omega)
          · rw [upd_same, zV_snoc, f6]
        · rw [if_neg y] at f6
          exact ⟨s6, by rw [f6]; exact hx6⟩
      rintro H6 ⟨s6, hx6⟩
      rw [zV_len, List.take_length, tied] at hx6
      have s26 : Same H2 H6 := s24.trans s6
      have gln : gl.length ≤ n := by
        rw [← tied]
        exact Nat.le_trans (List.length_filter_le ..) oln
      have glk : ∀ k ∈ gl, k < n := fun k hk => inP (glop k hk)
      refine ⟨_, rfl, u, .ref D, D3, all.map (Kdn.danceOf n), ts, gl, p, n, Kdn.marksMany all, mkF n all, rfl, Dp.mono s26 _ _ hU2, fun k hk r hr' => by rw [dsl r hr']; exact glk k hk, by rw [List.length_map]; exact ha1,
        Dp.mono s26 _ _ hT2, SqL.of hx6, glne, glk, T, pp, hpn, hn, by omega, fun H7 bp s7 fb hb7 => ?_⟩
      rw [nextG_congr (pl' := plF n all) fun k hk => (plF_marks (glk k hk)).symm] at hb7
      have gsub : ∀ k ∈ nextG n (Kdn.majority (Kdn.marksMany all)) (plF n all) (mkF n all) p gl, k ∈ gl := nextG_part.sub
      generalize nextG n (Kdn.majority (Kdn.marksMany all)) (plF n all) (mkF n all) p gl = g at hb7 J2 gne gsub
      have g1 : 1 ≤ g.length := List.length_pos_iff.mpr gne
      have hl6 : H6 l = some (.lst (zV P)) := s6 _ _ (s4 _ _ (s3 _ _ hl5))
      have bl : bp ≠ l := fun z => by rw [z, hl6] at fb; cases fb
      have ev : 2 * (p : Int) + (g.length : Int) - 1 = ((2 * p + (g.length - 1) : Nat) : Int) := by omega
      -- for couple in best: final[couple] = middle_place(place, len(best))
      refine ⟨_, rfl, bp, rfl, ⟨_, SqL.of hb7⟩, for_list (K := K) (a := bp) (xs := zV g) (fun j σ H8 => ∃ v10 : Option V, σ = [some u, some v, some (.int (n : Int)), some (.ref D), some (.ref E1), some (.ref l), some (.int (p : Int)), some (.ref D1), some (.int (z : Int)), some (.ref bp), v10] ∧
          Same H2 H8 ∧ H8 l = some (.lst (zV (setAll P (2 * p + (g.length - 1)) (g.take j)))) ∧ H8 bp = some (.lst (zV g)))
        ⟨v10, rfl, s26.trans s7, s7 _ _ hl6, hb7⟩ (fun j σ H8 _ ⟨_, _, _, _, hb8⟩ => SqL.of hb8) ?_ ?_⟩
      · rintro j x σ H8 hj ⟨v10', rfl, s8, hl8, hb8⟩
        obtain ⟨k, ek, rfl⟩ := zV_of hj
        have hkn : k < n := glk k (gsub k (List.mem_of_getElem? ek))
        refine ⟨_, rfl, _, rfl, bp, _, rfl, .inl (SqL.of hb8), p, g.length, by rw [zV_len]; rfl, _, rfl, _, rfl, l, _, _, k, rfl, rfl, hl8, ixN_nat (by rw [zV_len, setAll_len, Pl]; exact hkn), ?_⟩
        refine ⟨_, rfl, s8.put hl, ?_, by rw [upd_ne bl]; exact hb8⟩
        rw [upd_same, ev, zV_set, take_snoc ek, setAll_snoc]
      · rintro σ H8 ⟨v10', rfl, s8, hl8, hb8⟩
        rw [zV_len, List.take_length] at hl8
        -- place += len(best)
        refine ⟨_, rfl, _, rfl, bp, _, rfl, .inl (SqL.of hb8), _, _, rfl, rfl, ?_⟩
        dsimp only
        have ep : (p : Int) + ((zV g).length : Int) = ((p + g.length : Nat) : Int) := by rw [zV_len]; omega
        rw [ep]
        exact ⟨n + 1 - (p + g.length), by omega, _, _, _, _, _, p + g.length, rfl, rfl, s8, hl8, J2⟩
    · have hpn : ¬ p ≤ n := by have := of_decide_eq_false (Bool.eq_false_iff.mpr q); omega
      have e := J.done hpn
      rw [← finalOf_eq] at e
      rw [e] at hl5
      exact ⟨_, rfl, kk H5 l (sH2.trans s5) hlH hl5⟩
end
end Dn
end
section
set_option Elab.async false
set_option linter.all false
set_option maxRecDepth 100000
set_option maxHeartbeats 4000000
namespace Dn
open PySem PySem.Spec PyProof.Rows L2
theorem miss_val {tl : Addr} {H : Hp} {kvs : List (List Key × V)} {c : Kdn.Contest} (R : Rows tl H kvs c) : (c.dances.length : Int) * (c.judges : Int) - (kvs.length : Int) = ((Kdn.lacking c : Nat) : Int) := by
  have ct := R.ct
  have : ((c.dances.length * c.judges : Nat) : Int) = (c.dances.length : Int) * (c.judges : Int) := by push_cast; rfl
  omega
section
variable {P : Program} {w : World} {K : PySem.W.Frag} {mg : Str → Option Value} {base : Heap}
/-! ### places_by_dance -/
def spBy (C : Addr) (K : PySem.W.Frag) : Sp := fun vs H Q _ => ∃ (bd tl : Addr) (c : Kdn.Contest), vs = [.ref bd] ∧ BoardAt C tl H bd (some c) ∧ Kdn.lacking c = 0 ∧
  ∀ (H' : Hp) (p : Addr), Same H H' → H p = Option.none → Dp K H' (.ref p) (rowsD ((allTold c).map (Kdn.danceOf c.couples))) → Q (.ref p) H'
abbrev nBy : List Str := ["self", "dance"]
theorem scBy : FnScope nBy ["self"] (defScope sByDance) := ⟨rfl, rfl, rfl, by decide +kernel, rfl, by decide +kernel, by decide +kernel⟩
theorem ok_by {f fR fD C : Addr} {fd fdR fdD : FuncData} (F : Fun K "places_by_dance" "Board.places_by_dance" sByDance f fd) (T : Txt K mg C) (B : Blt mg)
    (FR : Fun K "rows_of" "Board.rows_of" sRowsOf fR fdR) (bR : Binds K fdR ["self", "dance"] []) (mR : Meth K C "rows_of" fR)
    (FD : Fun K "dance_places" "dance_places" sDpl fD fdD) (bD : Binds K fdD ["rows", "couples"] []) (mD : mg "dance_places" = some (.ref fD)) (GD : FnOk P w K mg base CX0 3 fD fdD ["rows", "couples"] (spDpl K)) :
    FnOk P w K mg base CX0 4 f fd ["self"] (spBy C K) := by
  have GR : FnOk P w K mg base CX0 1 fR fdR ["self", "dance"] (spRowsOf C K) := ok_rowsOf FR T B
  refine F.ok scBy (fun vs H Q E h => ?_) (fun cdv A outer s H vs Q E hr h => ?_)
  · obtain ⟨bd, tl, c, rfl, _⟩ := h
    rfl
  · obtain ⟨bd, tl, c, rfl, hB, h0, k⟩ := h
    refine ⟨_, pss_one (ps_ret (pe_lc (own := [("dance", 1)]) rfl scBy.nd (pi_range1 rfl B.range (pa_cons (pe_fld (pv 0) rfl) pa_nil)) (blkOk_by (N := nBy) (sc := defScope sByDance) (by decide +kernel)) (fun _ _ _ _ _ => pg_name (i := 1) scBy.nd rfl (Or.inl rfl)) (fun _ _ _ _ _ => pts_nil)
      (fun _ _ _ _ _ => pe_call GD hr rfl mD FD.kp bD .nil pass0 (pa_cons (pe_meth (pv 0) T.cl mR GR (hr.mono (by decide)) bR .nil pass0 (pa_cons (pv 1) pa_nil)) (pa_cons (pe_fldK (K := K) rfl (pv 0) rfl) pa_nil))))), ?_⟩
    have hB' := hB
    cases hB with
    | @of dx rw kvs c h1 h2 W R =>
      have j15 := W.j15
      have j3 := W.j3
      have d5 := W.d5
      have n12 := W.n12
      refine ⟨_, rfl, bd, C, dx, _, _, rfl, h1, T.cl, T.fD, bfs_dances _ _ _ _, (c.dances.length : Int), rfl, by omega, by omega, fun D hD => ?_⟩
      have en0 : ((c.dances.length : Int)).toNat = c.dances.length := by omega
      rw [en0]
      refine lc_range (n := c.dances.length) (fun i H' => i ≤ c.dances.length ∧ Same H H' ∧ ∃ xs, H' D = some (.lst xs) ∧ DpAll K (hid D H') xs (((List.range i).map fun e => Kdn.danceOf c.couples (told c e)).map rowD)) ⟨Nat.zero_le _, Same.new hD, [], upd_same, .nil⟩ ?_ ?_
      · rintro i H' hi ⟨_, sm, xs, hx, hda⟩
        obtain ⟨l1, _⟩ := dpAll_at hda
        rw [List.length_map, List.length_map, List.length_range] at l1
        have tf := told_full W h0 hi
        refine ⟨rfl, yes_if ?_⟩
        refine ⟨_, rfl, bd, dx, _, rfl, sm _ _ h1, bfs_no _ _ _ _ (by decide +kernel) (by decide +kernel) (by decide +kernel) (by decide +kernel), _, rfl, bd, tl, i, c, by rw [Int.zero_add]; rfl, hB'.mono sm, hi, fun H1 pr s1 fr dr => ?_⟩
        refine ⟨_, rfl, bd, C, dx, _, _, rfl, (sm.trans s1) _ _ h1, T.cl, T.fC, bfs_couples _ _ _ _, .ref pr, told c i, c.couples, rfl, dr, fun r hr' => row_range (mem_rows W hr'), by omega, by omega, by omega, fun H2 p s2 fp hp => ?_⟩
        have hx2 : H2 D = some (.lst xs) := s2 _ _ (s1 _ _ hx)
        have pD : p ≠ D := fun z => by rw [z, s1 _ _ hx] at fp; cases fp
        refine ⟨xs, hx2, small1000 (by omega), hi, (sm.trans (s1.trans s2)).put hD, _, upd_same, ?_⟩
        rw [hid_upd, List.range_succ, List.map_append, List.map_append]
        refine DpAll.snoc (DpAll.mono (fun b o e => ?_) _ _ hda) (row_dp (SqL.of ?_))
        · have nb : b ≠ D := fun z => by rw [z, hid_at] at e; cases e
          rw [hid_ne nb] at e ⊢
          exact s2 _ _ (s1 _ _ e)
        · rw [hid_ne pD]
          exact hp
      · rintro H' ⟨_, sm, xs, hx, hda⟩
        refine k H' D sm hD ?_
        rw [allTold_eq, List.map_map]
        exact .lst (SqL.of hx) (DpAll.mono hid_same _ _ hda)
/-! ### missing -/
def argMissing : Hp → List V → Kdn.Call → Prop := fun _ us x => us = [] ∧ x = .missing
theorem scMissing : FnScope ["self"] ["self"] (defScope sMissing) := ⟨rfl, rfl, rfl, by decide +kernel, rfl, by decide +kernel, by decide +kernel⟩
theorem ok_missing {f fM C : Addr} {fd fdM : FuncData} (F : Fun K "missing" "Board.missing" sMissing f fd) (T : Txt K mg C) (B : Blt mg)
    (FM : Fun K "rows_missing" "Board.rows_missing" sMiss fM fdM) (bM : Binds K fdM ["self"] []) (mM : Meth K C "rows_missing" fM) :
    FnOk P w K mg base CX0 2 f fd ["self"] (spAct C K argMissing) := by
  have GM : FnOk P w K mg base CX0 1 fM fdM ["self"] (spMiss C) := ok_miss FM T B
  refine F.ok scMissing (fun vs H Q E h => ?_) (fun cdv A outer s H vs Q E hr h => ?_)
  · obtain ⟨bd, tl, us, x, s, s', a, rfl, ⟨rfl, _⟩, _⟩ := h
    rfl
  · obtain ⟨bd, tl, us, x, st, s', a, rfl, ⟨rfl, rfl⟩, htl, hB, ha, k⟩ := h
    cases st with
    | none => cases ha
    | some c =>
      refine ⟨_, pss_one (ps_ret (pe_lst (pa_cons (pe_meth0 (pv 0) T.cl mM GM hr bM .nil pass0) pa_nil))), ?_⟩
      have hB' := hB
      cases hB with
      | @of dx rw kvs c h1 h2 W R =>
        have d5 := W.d5
        rw [acts_missing] at ha
        injection ha with ha
        injection ha with e1 e2
        subst e1 e2
        refine ⟨_, rfl, bd, dx, _, rfl, h1, bfs_no _ _ _ _ (by decide +kernel) (by decide +kernel) (by decide +kernel) (by decide +kernel), bd, dx, rw, _, _, _, _, rfl, h1, h2, by omega, (by show 1 ≤ sizeLine; decide), fun p hp => ?_⟩
        rw [miss_val R]
        exact k _ p (hB'.mono (Same.new hp)) (Kp.of (Same.new hp)) hp upd_same
/-! ### total -/
def argTotal : Hp → List V → Kdn.Call → Prop := fun _ us x => ∃ k : Nat, us = [.int (k : Int)] ∧ x = .total k
theorem scTotal : FnScope ["self", "couple"] ["self", "couple"] (defScope sTotal) := ⟨rfl, rfl, rfl, by decide +kernel, rfl, by decide +kernel, by decide +kernel⟩
theorem ok_total {f fM fT fB C : Addr} {fd fdM fdT fdB : FuncData} (F : Fun K "total" "Board.total" sTotal f fd) (T : Txt K mg C) (B : Blt mg)
    (FM : Fun K "rows_missing" "Board.rows_missing" sMiss fM fdM) (bM : Binds K fdM ["self"] []) (mM : Meth K C "rows_missing" fM)
    (FT : Fun K "couple_total" "couple_total" sTot fT fdT) (bT : Binds K fdT ["dances", "couple"] []) (mT : mg "couple_total" = some (.ref fT))
    (bB : Binds K fdB ["self"] []) (mB : Meth K C "places_by_dance" fB) (GB : FnOk P w K mg base CX0 4 fB fdB ["self"] (spBy C K)) :
    FnOk P w K mg base CX0 5 f fd ["self", "couple"] (spAct C K argTotal) := by
  have GM : FnOk P w K mg base CX0 1 fM fdM ["self"] (spMiss C) := ok_miss FM T B
  have GT : FnOk P w K mg base CX0 1 fT fdT ["dances", "couple"] (spTot K) := ok_tot FT B
  refine F.ok scTotal (fun vs H Q E h => ?_) (fun cdv A outer s H vs Q E hr h => ?_)
  · obtain ⟨bd, tl, us, x, s, s', a, rfl, ⟨d, rfl, _⟩, _⟩ := h
    rfl
  · obtain ⟨bd, tl, us, x, st, s', a, rfl, ⟨d, rfl, rfl⟩, htl, hB, ha, k⟩ := h
    cases st with
    | none => cases ha
    | some c =>
      obtain ⟨tS, hS⟩ := T.noS
      obtain ⟨tM, hM⟩ := T.miss
      have r1 : Room 1 _ := hr.mono (by decide)
      refine ⟨_, pss_cons (ps_if (pt_cmpR op_ge (pv 1) (pe_fld (pv 0) rfl) (nomark _)) (pss_one (ps_ret (pe_lst (pa_cons (pe_glob (v := .int (-2)) rfl hS ⟨tS, rfl⟩) pa_nil)))) pss_nil)
        (pss_cons (ps_if (pt_cmpR op_gt (pe_meth0 (pv 0) T.cl mM GM r1 bM .nil pass0) pe_int (nomark _)) (pss_one (ps_ret (pe_lst (pa_cons (pe_glob (v := .int (-11)) rfl hM ⟨tM, rfl⟩) pa_nil)))) pss_nil)
        (pss_one (ps_ret (pe_lst (pa_cons (pe_call GT r1 rfl mT FT.kp bT .nil pass0 (pa_cons (pe_meth0 (pv 0) T.cl mB GB hr bB .nil pass0) (pa_cons (pv 1) pa_nil))) pa_nil))))), ?_⟩
      have hB' := hB
      cases hB with
      | @of dx rw kvs c h1 h2 W R =>
        have d5 := W.d5
        rw [acts_total] at ha
        injection ha with ha
        injection ha with e1 e2
        subst e1
        have quit : ∀ (H1 : Hp) (p : Addr), Same H H1 → H p = Option.none → H1 p = some (.lst ((ansOf a).map V.int)) → Q (.ref p) H1 := fun H1 p s1 hp h => k H1 p (hB'.mono s1) (Kp.of s1) hp h
        refine ⟨_, rfl, _, rfl, bd, C, dx, _, _, rfl, h1, T.cl, T.fC, bfs_couples _ _ _ _, _, _, rfl, rfl, _, rfl, ?_⟩
        dsimp only
        refine ite2 (fun q => ?_) (fun q => ?_)
        · have q1 := of_decide_eq_true q
          rw [if_pos (by omega)] at e2
          subst e2
          refine ⟨(by show 1 ≤ sizeLine; decide), fun p hp => quit _ p (Same.new hp) hp upd_same⟩
        · have q1 := of_decide_eq_false (Bool.eq_false_iff.mpr q)
          rw [if_neg (by omega)] at e2
          have hd : d < c.couples := by omega
          refine ⟨_, rfl, bd, dx, _, rfl, h1, bfs_no _ _ _ _ (by decide +kernel) (by decide +kernel) (by decide +kernel) (by decide +kernel), bd, dx, rw, _, _, _, _, rfl, h1, h2, by omega, _, _, rfl, rfl, _, rfl, ?_⟩
          dsimp only
          rw [miss_val R]
          refine ite2 (fun q => ?_) (fun q => ?_)
          · have q2 := of_decide_eq_true q
            rw [if_neg (by omega)] at e2
            subst e2
            refine ⟨(by show 1 ≤ sizeLine; decide), fun p hp => quit _ p (Same.new hp) hp upd_same⟩
          · have q2 := of_decide_eq_false (Bool.eq_false_iff.mpr q)
            have h0 : Kdn.lacking c = 0 := by omega
            rw [if_pos h0] at e2
            subst e2
            refine ⟨_, rfl, bd, dx, _, rfl, h1, bfs_no _ _ _ _ (by decide +kernel) (by decide +kernel) (by decide +kernel) (by decide +kernel), bd, tl, c, rfl, hB', h0, fun H1 pl s1 fp dp => ?_⟩
            refine ⟨_, rfl, .ref pl, _, d, rfl, dp, fun r hr' => ?_, by rw [List.length_map, allTold_len]; omega, fun H2 s2 => ?_⟩
            · obtain ⟨rows, _, rfl⟩ := List.mem_map.mp hr'
              rw [danceOf_len]
              exact hd
            · refine ⟨(by show 1 ≤ sizeLine; decide), fun p hp => quit _ p ((s1.trans s2).trans (Same.new hp)) ((s1.trans s2).free hp) ?_⟩
              rw [upd_same, ← ttF_sum hd, ttF_at hd]
              rfl
/-! ### final -/
def argFinal : Hp → List V → Kdn.Call → Prop := fun _ us x => us = [] ∧ x = .final
theorem scFinal : FnScope ["self"] ["self"] (defScope sFinal) := ⟨rfl, rfl, rfl, by decide +kernel, rfl, by decide +kernel, by decide +kernel⟩
theorem ok_final {f fM fF fB C : Addr} {fd fdM fdF fdB : FuncData} (F : Fun K "final" "Board.final" sFinal f fd) (T : Txt K mg C) (B : Blt mg)
    (FM : Fun K "rows_missing" "Board.rows_missing" sMiss fM fdM) (bM : Binds K fdM ["self"] []) (mM : Meth K C "rows_missing" fM)
    (FF : Fun K "final_places" "final_places" sFin fF fdF) (bF : Binds K fdF ["dances", "rows", "couples"] []) (mF : mg "final_places" = some (.ref fF)) (GF : FnOk P w K mg base CX0 4 fF fdF ["dances", "rows", "couples"] (spFin K))
    (bB : Binds K fdB ["self"] []) (mB : Meth K C "places_by_dance" fB) (GB : FnOk P w K mg base CX0 4 fB fdB ["self"] (spBy C K)) :
    FnOk P w K mg base CX0 5 f fd ["self"] (spAct C K argFinal) := by
  have GM : FnOk P w K mg base CX0 1 fM fdM ["self"] (spMiss C) := ok_miss FM T B
  refine F.ok scFinal (fun vs H Q E h => ?_) (fun cdv A outer s H vs Q E hr h => ?_)
  · obtain ⟨bd, tl, us, x, s, s', a, rfl, ⟨rfl, _⟩, _⟩ := h
    rfl
  · obtain ⟨bd, tl, us, x, st, s', a, rfl, ⟨rfl, rfl⟩, htl, hB, ha, k⟩ := h
    cases st with
    | none => cases ha
    | some c =>
      obtain ⟨tM, hM⟩ := T.miss
      have r1 : Room 1 _ := hr.mono (by decide)
      refine ⟨_, pss_cons (ps_if (pt_cmpR op_gt (pe_meth0 (pv 0) T.cl mM GM r1 bM .nil pass0) pe_int (nomark _)) (pss_one (ps_ret (pe_lst (pa_cons (pe_glob (v := .int (-11)) rfl hM ⟨tM, rfl⟩) pa_nil)))) pss_nil)
        (pss_one (ps_ret (pe_op op_cat (pe_lst (pa_cons pe_int pa_nil)) (pe_call GF hr rfl mF FF.kp bF .nil pass0 (pa_cons (pe_meth0 (pv 0) T.cl mB GB hr bB .nil pass0)
          (pa_cons (pe_callTy (call_listV rfl) rfl B.list PyProof.Rows.boot_list (pa_cons (pe_bm0 PySem.F.plainAttrs_dict PySem.F.slot_dict_values PySem.F.type_dict_values mt_valuesT (pe_fld (pv 0) rfl)) pa_nil)) (pa_cons (pe_fld (pv 0) rfl) pa_nil))))))), ?_⟩
      have hB' := hB
      cases hB with
      | @of dx rw kvs c h1 h2 W R =>
        have d5 := W.d5
        have d1 := W.d1
        have j3 := W.j3
        have j15 := W.j15
        have n12 := W.n12
        have ct := R.ct
        have dj : c.dances.length * c.judges ≤ 5 * 15 := Nat.mul_le_mul d5 j15
        have dj0 : 0 < c.dances.length * c.judges := Nat.mul_pos (by omega) (by omega)
        rw [acts_final] at ha
        injection ha with ha
        injection ha with e1 e2
        subst e1
        have quit : ∀ (H1 : Hp) (p : Addr), Same H H1 → H p = Option.none → H1 p = some (.lst ((ansOf a).map V.int)) → Q (.ref p) H1 := fun H1 p s1 hp h => k H1 p (hB'.mono s1) (Kp.of s1) hp h
        refine ⟨_, rfl, bd, dx, _, rfl, h1, bfs_no _ _ _ _ (by decide +kernel) (by decide +kernel) (by decide +kernel) (by decide +kernel), bd, dx, rw, _, _, _, _, rfl, h1, h2, by omega, _, _, rfl, rfl, _, rfl, ?_⟩
        dsimp only
        rw [miss_val R]
        refine ite2 (fun q => ?_) (fun q => ?_)
        · have q2 := of_decide_eq_true q
          rw [if_neg (by omega)] at e2
          subst e2
          refine ⟨(by show 1 ≤ sizeLine; decide), fun p hp => quit _ p (Same.new hp) hp upd_same⟩
        · have q2 := of_decide_eq_false (Bool.eq_false_iff.mpr q)
          have h0 : Kdn.lacking c = 0 := by omega
          rw [if_pos h0] at e2
          subst e2
          obtain ⟨rs, drs, hperm⟩ := R.vals K W h0
          obtain ⟨l1, _⟩ := dpAll_at drs
          rw [List.length_map, List.length_map] at l1
          refine ⟨(by show 1 ≤ sizeLine; decide), fun z hz => ?_⟩
          have s1 : Same H (upd H z (.lst [.int 0])) := Same.new hz
          refine ⟨_, rfl, bd, dx, _, rfl, s1 _ _ h1, bfs_no _ _ _ _ (by decide +kernel) (by decide +kernel) (by decide +kernel) (by decide +kernel), bd, tl, c, rfl, hB'.mono s1, h0, fun H2 pl s2 fp dp => ?_⟩
          have s12 : Same H H2 := s1.trans s2
          refine ⟨_, rfl, bd, C, dx, _, _, rfl, s12 _ _ h1, T.cl, T.fR, bfs_rows _ _ _ _, .inr (.inr (.inl ⟨rfl, .inr ⟨kvs, s12 _ _ h2⟩⟩)), rw, kvs, rfl, rfl, s12 _ _ h2, fun pv hpv => ?_⟩
          have s3 : Same H2 (upd H2 pv (vw pv rw)) := Same.new hpv
          refine ⟨pv, rw, kvs, rfl, upd_same, s3 _ _ (s12 _ _ h2), fun l hl => ?_⟩
          have s4 : Same H2 (upd (upd H2 pv (vw pv rw)) l (.lst (kvs.map fun x => x.2))) := s3.trans (Same.new hl)
          have s14 := s12.trans s4
          refine ⟨_, rfl, bd, C, dx, _, _, rfl, s14 _ _ h1, T.cl, T.fC, bfs_couples _ _ _ _, .ref pl, .ref l, allTold c, rs, c.couples, rfl, Dp.mono s4 _ _ dp, .lst (SqL.of upd_same) (DpAll.mono s14 _ _ drs), hperm, told_range W,
            by rw [told_many W h0]; exact dj0, by omega, by rw [allTold_len]; omega, by omega, fun H5 p s5 fp5 hp5 => ?_⟩
          refine ⟨z, p, _, _, rfl, rfl, s5 _ _ (s4 _ _ (s2 _ _ upd_same)), hp5, ?_, fun y hy => ?_⟩
          · rw [zV_len, finalOf_len]
            exact Nat.le_trans (show 1 + c.couples ≤ 1000 by omega) (by decide)
          · refine quit _ y ((s14.trans s5).trans (Same.new hy)) ((s14.trans s5).free hy) ?_
            rw [upd_same]
            rfl
end
end Dn
end
section
set_option Elab.async false
set_option linter.all false
set_option maxRecDepth 100000
set_option maxHeartbeats 4000000
namespace Dn
open PySem PySem.Spec PyProof.Rows L2
abbrev sSize : Stmt := top 28
abbrev sAnswer : Stmt := top 29
abbrev sAnswers : Stmt := top 30
theorem _root_.L2.Same.some {H H' : Hp} (s : Same H H') {b : Addr} (h : H b ≠ Option.none) : H' b ≠ Option.none := by
  cases e : H b with
  | none => exact absurd e h
  | some o => rw [s _ _ e]; intro z; cases z
theorem Kp.hid {D : Addr} {H H' : Hp} (k : Kp H H') : Kp (L2.hid D H) (L2.hid D H') := fun b o e f => by
  have nb : b ≠ D := fun z => by rw [z, hid_at] at e; cases e
  rw [hid_ne nb] at e ⊢
  exact k b o e f
theorem vI_eq (a : Int) : decide (V.int a = V.int a) = true := decide_eq_true rfl
theorem vI_ne {a b : Int} (h : a ≠ b) : decide (V.int a = V.int b) = false := decide_eq_false fun z => h (by injection z)
/-- the numbers of the calls -/
structure TxtC (mg : Str → Option Value) : Prop where
  cS : ∃ t, mg "START" = some (.int 0 t)
  cM : ∃ t, mg "MARK" = some (.int 1 t)
  cD : ∃ t, mg "DANCE" = some (.int 2 t)
  cT : ∃ t, mg "TOTAL" = some (.int 3 t)
  cF : ∃ t, mg "FINAL" = some (.int 4 t)
  cN : ∃ t, mg "MISSING" = some (.int 5 t)
theorem iV_at {l : List Int} {i : Nat} {x : Int} (h : l[i]? = some x) : (l.map V.int)[i]? = some (.int x) := by
  rw [List.getElem?_map, h]
  rfl
theorem at_pre {pre m : List Int} (i : Nat) {x : Int} (h : m[i]? = some x) : (pre ++ m)[pre.length + i]? = some x := by
  rw [List.getElem?_append_right (by omega), Nat.add_sub_cancel_left]
  exact h
theorem cutV_mid (pre m post : List Int) : cutV ((pre ++ (m ++ post)).map V.int) (some (pre.length : Int)) (some ((pre.length : Int) + (m.length : Int))) = m.map V.int := by
  unfold cutV
  have e : (pre.length : Int) + (m.length : Int) = ((pre.length + m.length : Nat) : Int) := by omega
  rw [e, HT.sIx_nat, HT.sIx_nat, List.length_map, List.length_append, List.length_append, Nat.min_eq_left (by omega), Nat.min_eq_left (by omega), ← List.map_drop, List.drop_left, ← List.map_take, Nat.add_sub_cancel_left, List.take_left]
section
variable {P : Program} {w : World} {K : PySem.W.Frag} {mg : Str → Option Value} {base : Heap}
/-! ### call_size -/
def spSize (K : PySem.W.Frag) : Sp := fun vs H Q _ => ∃ (a : Addr) (pre rest : List Int) (x : Kdn.Call), vs = [.ref a, .int (pre.length : Int)] ∧ SqL K H a ((pre ++ (flat x ++ rest)).map V.int) ∧ Q (.int ((flat x).length : Int)) H
theorem scSize : FnScope ["calls", "at"] ["calls", "at"] (defScope sSize) := ⟨rfl, rfl, rfl, by decide +kernel, rfl, by decide +kernel, by decide +kernel⟩
theorem ok_size {f : Addr} {fd : FuncData} (F : Fun K "call_size" "call_size" sSize f fd) (T : TxtC mg) : FnOk P w K mg base CX0 1 f fd ["calls", "at"] (spSize K) := by
  refine F.ok scSize (fun vs H Q E h => ?_) (fun cdv A outer s H vs Q E hr h => ?_)
  · obtain ⟨a, pre, rest, x, rfl, _⟩ := h
    rfl
  · obtain ⟨a, pre, rest, x, rfl, hS, k⟩ := h
    obtain ⟨t0, m0⟩ := T.cS
    obtain ⟨t1, m1⟩ := T.cM
    obtain ⟨t2, m2⟩ := T.cD
    obtain ⟨t3, m3⟩ := T.cT
    obtain ⟨t4, m4⟩ := T.cF
    obtain ⟨t5, m5⟩ := T.cN
    refine ⟨_, pss_cons (ps_if (pt_cmpR op_eq (pe_ix (r := rIxL K) ix_list (pv 0) (pv 1) (fun _ _ => rfl)) (pe_glob (v := .int 0) rfl m0 ⟨t0, rfl⟩) (nomark _)) (pss_one (ps_ret pe_int)) pss_nil)
      (pss_cons (ps_if (pt_cmpR op_eq (pe_ix (r := rIxL K) ix_list (pv 0) (pv 1) (fun _ _ => rfl)) (pe_glob (v := .int 1) rfl m1 ⟨t1, rfl⟩) (nomark _)) (pss_one (ps_ret (pe_op op_add pe_int (pe_ix (r := rIxL K) ix_list (pv 0) (pe_op op_add (pv 1) pe_int) (fun _ _ => rfl))))) pss_nil)
      (pss_cons (ps_if (PW.pt (pw_or (pt_cmpR op_eq (pe_ix (r := rIxL K) ix_list (pv 0) (pv 1) (fun _ _ => rfl)) (pe_glob (v := .int 2) rfl m2 ⟨t2, rfl⟩) (nomark _)) (pw_or1 (pt_cmpR op_eq (pe_ix (r := rIxL K) ix_list (pv 0) (pv 1) (fun _ _ => rfl)) (pe_glob (v := .int 3) rfl m3 ⟨t3, rfl⟩) (nomark _))))) (pss_one (ps_ret pe_int)) pss_nil)
      (pss_cons (ps_if (PW.pt (pw_or (pt_cmpR op_eq (pe_ix (r := rIxL K) ix_list (pv 0) (pv 1) (fun _ _ => rfl)) (pe_glob (v := .int 4) rfl m4 ⟨t4, rfl⟩) (nomark _)) (pw_or1 (pt_cmpR op_eq (pe_ix (r := rIxL K) ix_list (pv 0) (pv 1) (fun _ _ => rfl)) (pe_glob (v := .int 5) rfl m5 ⟨t5, rfl⟩) (nomark _))))) (pss_one (ps_ret pe_int)) pss_nil)
      pss_never))), ?_⟩
    have first : ∀ {p : Int}, (flat x)[0]? = some p → atI ((pre ++ (flat x ++ rest)).map V.int) (pre.length : Int) = some (.int p) := fun {p} e => atI_nat (iV_at (at_pre 0 (by
      rw [List.getElem?_append_left (List.getElem?_eq_some_iff.mp e).1]
      exact e)))
    cases x with
    | start n j d =>
      refine ⟨_, rfl, _, rfl, a, _, _, _, rfl, rfl, hS, first rfl, rfl, _, rfl, ?_⟩
      dsimp only
      rw [vI_eq]
      exact iteT k
    | mark d j r =>
      refine ⟨_, rfl, _, rfl, a, _, _, _, rfl, rfl, hS, first rfl, rfl, _, rfl, ?_⟩
      dsimp only
      rw [vI_ne (by decide)]
      refine iteF ?_
      refine ⟨_, rfl, _, rfl, a, _, _, _, rfl, rfl, hS, first rfl, rfl, _, rfl, ?_⟩
      dsimp only
      rw [vI_eq]
      refine iteT ?_
      refine ⟨_, rfl, _, rfl, _, _, rfl, rfl, a, _, _, _, rfl, rfl, hS, at_of (j := pre.length + 3) (v := .int (r.length : Int)) (by omega) (iV_at (at_pre 3 rfl)), _, _, rfl, rfl, ?_⟩
      have e : (4 : Int) + (r.length : Int) = ((flat (.mark d j r)).length : Int) := by
        show _ = (((zs r).length + 1 + 1 + 1 + 1 : Nat) : Int)
        unfold zs
        rw [List.length_map]
        omega
      show Q (V.int (4 + (r.length : Int))) H
      rw [e]
      exact k
    | dance d =>
      refine ⟨_, rfl, _, rfl, a, _, _, _, rfl, rfl, hS, first rfl, rfl, _, rfl, ?_⟩
      dsimp only
      rw [vI_ne (by decide)]
      refine iteF ?_
      refine ⟨_, rfl, _, rfl, a, _, _, _, rfl, rfl, hS, first rfl, rfl, _, rfl, ?_⟩
      dsimp only
      rw [vI_ne (by decide)]
      refine iteF ?_
      refine ⟨_, rfl, _, rfl, a, _, _, _, rfl, rfl, hS, first rfl, rfl, _, rfl, ?_⟩
      dsimp only
      rw [vI_eq]
      exact iteT (iteT k)
    | total d =>
      refine ⟨_, rfl, _, rfl, a, _, _, _, rfl, rfl, hS, first rfl, rfl, _, rfl, ?_⟩
      dsimp only
      rw [vI_ne (by decide)]
      refine iteF ?_
      refine ⟨_, rfl, _, rfl, a, _, _, _, rfl, rfl, hS, first rfl, rfl, _, rfl, ?_⟩
      dsimp only
      rw [vI_ne (by decide)]
      refine iteF ?_
      refine ⟨_, rfl, _, rfl, a, _, _, _, rfl, rfl, hS, first rfl, rfl, _, rfl, ?_⟩
      dsimp only
      rw [vI_ne (by decide)]
      refine iteF ?_
      refine ⟨_, rfl, _, rfl, a, _, _, _, rfl, rfl, hS, first rfl, rfl, _, rfl, ?_⟩
      dsimp only
      rw [vI_eq]
      exact iteT k
    | final =>
      refine ⟨_, rfl, _, rfl, a, _, _, _, rfl, rfl, hS, first rfl, rfl, _, rfl, ?_⟩
      dsimp only
      rw [vI_ne (by decide)]
      refine iteF ?_
      refine ⟨_, rfl, _, rfl, a, _, _, _, rfl, rfl, hS, first rfl, rfl, _, rfl, ?_⟩
      dsimp only
      rw [vI_ne (by decide)]
      refine iteF ?_
      refine ⟨_, rfl, _, rfl, a, _, _, _, rfl, rfl, hS, first rfl, rfl, _, rfl, ?_⟩
      dsimp only
      rw [vI_ne (by decide)]
      refine iteF ?_
      refine ⟨_, rfl, _, rfl, a, _, _, _, rfl, rfl, hS, first rfl, rfl, _, rfl, ?_⟩
      dsimp only
      rw [vI_ne (by decide)]
      refine iteF ?_
      refine ⟨_, rfl, _, rfl, a, _, _, _, rfl, rfl, hS, first rfl, rfl, _, rfl, ?_⟩
      dsimp only
      rw [vI_eq]
      exact iteT (iteT k)
    | missing =>
      refine ⟨_, rfl, _, rfl, a, _, _, _, rfl, rfl, hS, first rfl, rfl, _, rfl, ?_⟩
      dsimp only
      rw [vI_ne (by decide)]
      refine iteF ?_
      refine ⟨_, rfl, _, rfl, a, _, _, _, rfl, rfl, hS, first rfl, rfl, _, rfl, ?_⟩
      dsimp only
      rw [vI_ne (by decide)]
      refine iteF ?_
      refine ⟨_, rfl, _, rfl, a, _, _, _, rfl, rfl, hS, first rfl, rfl, _, rfl, ?_⟩
      dsimp only
      rw [vI_ne (by decide)]
      refine iteF ?_
      refine ⟨_, rfl, _, rfl, a, _, _, _, rfl, rfl, hS, first rfl, rfl, _, rfl, ?_⟩
      dsimp only
      rw [vI_ne (by decide)]
      refine iteF ?_
      refine ⟨_, rfl, _, rfl, a, _, _, _, rfl, rfl, hS, first rfl, rfl, _, rfl, ?_⟩
      dsimp only
      rw [vI_ne (by decide)]
      refine iteF ?_
      refine ⟨_, rfl, _, rfl, a, _, _, _, rfl, rfl, hS, first rfl, rfl, _, rfl, ?_⟩
      dsimp only
      rw [vI_eq]
      exact iteT k
/-! ### answer -/
def argAns (K : PySem.W.Frag) : Hp → List V → Kdn.Call → Prop := fun H us x => ∃ p, us = [.ref p] ∧ SqL K H p ((flat x).map V.int) ∧ small x
theorem scAnswer : FnScope ["board", "call"] ["board", "call"] (defScope sAnswer) := ⟨rfl, rfl, rfl, by decide +kernel, rfl, by decide +kernel, by decide +kernel⟩
theorem ok_answer {f fS fM fD fT fF fN C : Addr} {fd fdS fdM fdD fdT fdF fdN : FuncData} (F : Fun K "answer" "answer" sAnswer f fd) (T : Txt K mg C) (TC : TxtC mg)
    (bS : Binds K fdS ["self", "couples", "judges", "dances"] []) (mS : Meth K C "start" fS) (GS : FnOk P w K mg base CX0 2 fS fdS ["self", "couples", "judges", "dances"] (spAct C K argStart))
    (bM : Binds K fdM ["self", "dance", "judge", "places"] []) (mM : Meth K C "mark" fM) (GM : FnOk P w K mg base CX0 2 fM fdM ["self", "dance", "judge", "places"] (spAct C K (argMark K)))
    (bD : Binds K fdD ["self", "dance"] []) (mD : Meth K C "dance" fD) (GD : FnOk P w K mg base CX0 4 fD fdD ["self", "dance"] (spAct C K argDance))
    (bT : Binds K fdT ["self", "couple"] []) (mT : Meth K C "total" fT) (GT : FnOk P w K mg base CX0 5 fT fdT ["self", "couple"] (spAct C K argTotal))
    (bF : Binds K fdF ["self"] []) (mF : Meth K C "final" fF) (GF : FnOk P w K mg base CX0 5 fF fdF ["self"] (spAct C K argFinal))
    (bN : Binds K fdN ["self"] []) (mN : Meth K C "missing" fN) (GN : FnOk P w K mg base CX0 2 fN fdN ["self"] (spAct C K argMissing)) :
    FnOk P w K mg base CX0 6 f fd ["board", "call"] (spAct C K (argAns K)) := by
  refine F.ok scAnswer (fun vs H Q E h => ?_) (fun cdv A outer s H vs Q E hr h => ?_)
  · obtain ⟨bd, tl, us, x, s, s', a, rfl, ⟨p, rfl, _⟩, _⟩ := h
    rfl
  · obtain ⟨bd, tl, us, x, st, s', a, rfl, ⟨p, rfl, hS, hsm⟩, htl, hB, ha, k⟩ := h
    obtain ⟨t0, m0⟩ := TC.cS
    obtain ⟨t1, m1⟩ := TC.cM
    obtain ⟨t2, m2⟩ := TC.cD
    obtain ⟨t3, m3⟩ := TC.cT
    obtain ⟨t4, m4⟩ := TC.cF
    have r2 : Room 2 _ := hr.mono (by decide)
    have r4 : Room 4 _ := hr.mono (by decide)
    refine ⟨_, pss_cons (ps_if (pt_cmpR op_eq (pe_ix (r := rIxL K) ix_list (pv 1) pe_int (fun _ _ => rfl)) (pe_glob (v := .int 0) rfl m0 ⟨t0, rfl⟩) (nomark _))
        (pss_one (ps_ret (pe_meth (pv 0) T.cl mS GS r2 bS .nil pass0 (pa_cons (pe_ix (r := rIxL K) ix_list (pv 1) pe_int (fun _ _ => rfl)) (pa_cons (pe_ix (r := rIxL K) ix_list (pv 1) pe_int (fun _ _ => rfl)) (pa_cons (pe_ix (r := rIxL K) ix_list (pv 1) pe_int (fun _ _ => rfl)) pa_nil)))))) pss_nil)
      (pss_cons (ps_if (pt_cmpR op_eq (pe_ix (r := rIxL K) ix_list (pv 1) pe_int (fun _ _ => rfl)) (pe_glob (v := .int 1) rfl m1 ⟨t1, rfl⟩) (nomark _))
        (pss_one (ps_ret (pe_meth (pv 0) T.cl mM GM r2 bM .nil pass0 (pa_cons (pe_ix (r := rIxL K) ix_list (pv 1) pe_int (fun _ _ => rfl)) (pa_cons (pe_ix (r := rIxL K) ix_list (pv 1) pe_int (fun _ _ => rfl)) (pa_cons (pe_slice (r := rSlL K) sl_list (pv 1) (po_some pe_int) po_none) pa_nil)))))) pss_nil)
      (pss_cons (ps_if (pt_cmpR op_eq (pe_ix (r := rIxL K) ix_list (pv 1) pe_int (fun _ _ => rfl)) (pe_glob (v := .int 2) rfl m2 ⟨t2, rfl⟩) (nomark _))
        (pss_one (ps_ret (pe_meth (pv 0) T.cl mD GD r4 bD .nil pass0 (pa_cons (pe_ix (r := rIxL K) ix_list (pv 1) pe_int (fun _ _ => rfl)) pa_nil)))) pss_nil)
      (pss_cons (ps_if (pt_cmpR op_eq (pe_ix (r := rIxL K) ix_list (pv 1) pe_int (fun _ _ => rfl)) (pe_glob (v := .int 3) rfl m3 ⟨t3, rfl⟩) (nomark _))
        (pss_one (ps_ret (pe_meth (pv 0) T.cl mT GT hr bT .nil pass0 (pa_cons (pe_ix (r := rIxL K) ix_list (pv 1) pe_int (fun _ _ => rfl)) pa_nil)))) pss_nil)
      (pss_cons (ps_if (pt_cmpR op_eq (pe_ix (r := rIxL K) ix_list (pv 1) pe_int (fun _ _ => rfl)) (pe_glob (v := .int 4) rfl m4 ⟨t4, rfl⟩) (nomark _))
        (pss_one (ps_ret (pe_meth0 (pv 0) T.cl mF GF hr bF .nil pass0))) pss_nil)
      (pss_one (ps_ret (pe_meth0 (pv 0) T.cl mN GN r2 bN .nil pass0))))))), ?_⟩
    have at_ : ∀ (i : Nat) {p : Int}, (flat x)[i]? = some p → atI ((flat x).map V.int) (i : Int) = some (.int p) := fun i {p} e => atI_nat (iV_at e)
    obtain ⟨dx, rw, n0, j0, d0, hb⟩ : ∃ dx rw n0 j0 d0, H bd = some (.ins C dx (bfs n0 j0 d0 rw)) := by
      cases hB with
      | new h1 _ => exact ⟨_, _, _, _, _, h1⟩
      | of h1 _ _ _ => exact ⟨_, _, _, _, _, h1⟩
    have no : ∀ {m : Str}, ¬ m = "rows" → ¬ m = "dances" → ¬ m = "judges" → ¬ m = "couples" → (bfs n0 j0 d0 rw).lookup m = Option.none := fun h1 h2 h3 h4 => bfs_no _ _ _ _ h1 h2 h3 h4
    cases x with
    | start n j d =>
      refine ⟨_, rfl, p, _, _, _, rfl, rfl, hS, at_ 0 rfl, rfl, _, rfl, ?_⟩
      dsimp only
      rw [vI_eq]
      refine iteT ?_
      refine ⟨_, rfl, bd, dx, _, rfl, hb, no (by decide +kernel) (by decide +kernel) (by decide +kernel) (by decide +kernel), _, rfl, p, _, _, _, rfl, rfl, hS, at_ 1 rfl, _, rfl, p, _, _, _, rfl, rfl, hS, at_ 2 rfl, _, rfl, p, _, _, _, rfl, rfl, hS, at_ 3 rfl, ?_⟩
      exact ⟨bd, tl, _, _, st, s', a, rfl, ⟨n, j, d, rfl, rfl⟩, htl, hB, ha, k⟩
    | mark d j r =>
      refine ⟨_, rfl, p, _, _, _, rfl, rfl, hS, at_ 0 rfl, rfl, _, rfl, ?_⟩
      dsimp only
      rw [vI_ne (by decide)]
      refine iteF ?_
      refine ⟨_, rfl, p, _, _, _, rfl, rfl, hS, at_ 0 rfl, rfl, _, rfl, ?_⟩
      dsimp only
      rw [vI_eq]
      refine iteT ?_
      refine ⟨_, rfl, bd, dx, _, rfl, hb, no (by decide +kernel) (by decide +kernel) (by decide +kernel) (by decide +kernel), _, rfl, p, _, _, _, rfl, rfl, hS, at_ 1 rfl, _, rfl, p, _, _, _, rfl, rfl, hS, at_ 2 rfl, _, rfl, _, rfl, p, _, rfl, hS, fun l hl => ?_⟩
      have hc : cutV ((flat (.mark d j r)).map V.int) (some 4) Option.none = zV r := by
        refine (cutV_from (k := 4) _ ?_).trans rfl
        rw [List.length_map]
        show 4 ≤ (zs r).length + 1 + 1 + 1 + 1
        omega
      rw [hc]
      have s1 : Same H (upd H l (.lst (zV r))) := Same.new hl
      have h20 : r.length ≤ 20 := hsm
      exact ⟨bd, tl, _, _, st, s', a, rfl, ⟨d, j, l, r, rfl, SqL.of upd_same, by omega, rfl⟩, s1.some htl, hB.mono s1, ha, fun H' q B' kp fq hq => k H' q B' ((Kp.of s1).trans kp) (s1.free fq) hq⟩
    | dance d =>
      refine ⟨_, rfl, p, _, _, _, rfl, rfl, hS, at_ 0 rfl, rfl, _, rfl, ?_⟩
      dsimp only
      rw [vI_ne (by decide)]
      refine iteF ?_
      refine ⟨_, rfl, p, _, _, _, rfl, rfl, hS, at_ 0 rfl, rfl, _, rfl, ?_⟩
      dsimp only
      rw [vI_ne (by decide)]
      refine iteF ?_
      refine ⟨_, rfl, p, _, _, _, rfl, rfl, hS, at_ 0 rfl, rfl, _, rfl, ?_⟩
      dsimp only
      rw [vI_eq]
      refine iteT ?_
      refine ⟨_, rfl, bd, dx, _, rfl, hb, no (by decide +kernel) (by decide +kernel) (by decide +kernel) (by decide +kernel), _, rfl, p, _, _, _, rfl, rfl, hS, at_ 1 rfl, ?_⟩
      exact ⟨bd, tl, _, _, st, s', a, rfl, ⟨d, rfl, rfl⟩, htl, hB, ha, k⟩
    | total d =>
      refine ⟨_, rfl, p, _, _, _, rfl, rfl, hS, at_ 0 rfl, rfl, _, rfl, ?_⟩
      dsimp only
      rw [vI_ne (by decide)]
      refine iteF ?_
      refine ⟨_, rfl, p, _, _, _, rfl, rfl, hS, at_ 0 rfl, rfl, _, rfl, ?_⟩
      dsimp only
      rw [vI_ne (by decide)]
      refine iteF ?_
      refine ⟨_, rfl, p, _, _, _, rfl, rfl, hS, at_ 0 rfl, rfl, _, rfl, ?_⟩
      dsimp only
      rw [vI_ne (by decide)]
      refine iteF ?_
      refine ⟨_, rfl, p, _, _, _, rfl, rfl, hS, at_ 0 rfl, rfl, _, rfl, ?_⟩
      dsimp only
      rw [vI_eq]
      refine iteT ?_
      refine ⟨_, rfl, bd, dx, _, rfl, hb, no (by decide +kernel) (by decide +kernel) (by decide +kernel) (by decide +kernel), _, rfl, p, _, _, _, rfl, rfl, hS, at_ 1 rfl, ?_⟩
      exact ⟨bd, tl, _, _, st, s', a, rfl, ⟨d, rfl, rfl⟩, htl, hB, ha, k⟩
    | final =>
      refine ⟨_, rfl, p, _, _, _, rfl, rfl, hS, at_ 0 rfl, rfl, _, rfl, ?_⟩
      dsimp only
      rw [vI_ne (by decide)]
      refine iteF ?_
      refine ⟨_, rfl, p, _, _, _, rfl, rfl, hS, at_ 0 rfl, rfl, _, rfl, ?_⟩
      dsimp only
      rw [vI_ne (by decide)]
      refine iteF ?_
      refine ⟨_, rfl, p, _, _, _, rfl, rfl, hS, at_ 0 rfl, rfl, _, rfl, ?_⟩
      dsimp only
      rw [vI_ne (by decide)]
      refine iteF ?_
      refine ⟨_, rfl, p, _, _, _, rfl, rfl, hS, at_ 0 rfl, rfl, _, rfl, ?_⟩
      dsimp only
      rw [vI_ne (by decide)]
      refine iteF ?_
      refine ⟨_, rfl, p, _, _, _, rfl, rfl, hS, at_ 0 rfl, rfl, _, rfl, ?_⟩
      dsimp only
      rw [vI_eq]
      refine iteT ?_
      refine ⟨_, rfl, bd, dx, _, rfl, hb, no (by decide +kernel) (by decide +kernel) (by decide +kernel) (by decide +kernel), ?_⟩
      exact ⟨bd, tl, [], _, st, s', a, rfl, ⟨rfl, rfl⟩, htl, hB, ha, k⟩
    | missing =>
      refine ⟨_, rfl, p, _, _, _, rfl, rfl, hS, at_ 0 rfl, rfl, _, rfl, ?_⟩
      dsimp only
      rw [vI_ne (by decide)]
      refine iteF ?_
      refine ⟨_, rfl, p, _, _, _, rfl, rfl, hS, at_ 0 rfl, rfl, _, rfl, ?_⟩
      dsimp only
      rw [vI_ne (by decide)]
      refine iteF ?_
      refine ⟨_, rfl, p, _, _, _, rfl, rfl, hS, at_ 0 rfl, rfl, _, rfl, ?_⟩
      dsimp only
      rw [vI_ne (by decide)]
      refine iteF ?_
      refine ⟨_, rfl, p, _, _, _, rfl, rfl, hS, at_ 0 rfl, rfl, _, rfl, ?_⟩
      dsimp only
      rw [vI_ne (by decide)]
      refine iteF ?_
      refine ⟨_, rfl, p, _, _, _, rfl, rfl, hS, at_ 0 rfl, rfl, _, rfl, ?_⟩
      dsimp only
      rw [vI_ne (by decide)]
      refine iteF ?_
      refine ⟨_, rfl, bd, dx, _, rfl, hb, no (by decide +kernel) (by decide +kernel) (by decide +kernel) (by decide +kernel), ?_⟩
      exact ⟨bd, tl, [], _, st, s', a, rfl, ⟨rfl, rfl⟩, htl, hB, ha, k⟩
/-! ### answers -/
/-- the list of the calls is handed in, the answers' list comes out -/
def spAns (K : PySem.W.Frag) : Sp := fun vs H Q _ => ∃ (a : Addr) (xs : List Kdn.Call) (out : List Int), vs = [.ref a] ∧ SqL K H a ((xs.flatMap flat).map V.int) ∧ xs.length ≤ 1500 ∧ (∀ x ∈ xs, small x) ∧ Play Option.none xs out ∧
  ∀ (H' : Hp) (p : Addr), H' p = some (.lst (out.map V.int)) → Q (.ref p) H'
abbrev nAns : List Str := ["calls", "board", "told", "at", "size", "numbers"]
theorem scAns : FnScope nAns ["calls"] (defScope sAnswers) := ⟨rfl, rfl, rfl, by decide +kernel, rfl, by decide +kernel, by decide +kernel⟩
theorem ok_answers {f fI fZ fA C : Addr} {fd fdI fdZ fdA : FuncData} (F : Fun K "answers" "answers" sAnswers f fd) (T : Txt K mg C) (B : Blt mg) (M : Mk K C fI)
    (bI : Binds K fdI ["self"] []) (GI : FnOk P w K mg base CX0 1 fI fdI ["self"] (spInit C))
    (FZ : Fun K "call_size" "call_size" sSize fZ fdZ) (bZ : Binds K fdZ ["calls", "at"] []) (mZ : mg "call_size" = some (.ref fZ)) (GZ : FnOk P w K mg base CX0 1 fZ fdZ ["calls", "at"] (spSize K))
    (FA : Fun K "answer" "answer" sAnswer fA fdA) (bA : Binds K fdA ["board", "call"] []) (mA : mg "answer" = some (.ref fA)) (GA : FnOk P w K mg base CX0 6 fA fdA ["board", "call"] (spAct C K (argAns K))) :
    FnOk P w K mg base CX0 7 f fd ["calls"] (spAns K) := by
  refine F.ok scAns (fun vs H Q E h => ?_) (fun cdv A outer s H vs Q E hr h => ?_)
  · obtain ⟨a, xs, out, rfl, _⟩ := h
    rfl
  · obtain ⟨a, xs0, out0, rfl, hS, hlen, hsm, hplay, k⟩ := h
    have r1 : Room 1 _ := hr.mono (by decide)
    have r2 : Room (1 + 1) _ := hr.mono (by decide)
    refine ⟨_, pss_cons (ps_set (i := 1) scAns.nd rfl (Or.inl rfl) (pe_make0 M GI r2 rfl T.mgC bI .nil pass0))
      (pss_cons (ps_set (i := 2) scAns.nd rfl (Or.inl rfl) (pe_lst pa_nil))
      (pss_cons (ps_set (i := 3) scAns.nd rfl (Or.inl rfl) pe_int)
      (pss_cons (ps_while PassesOwn.never (pt_cmpR op_lt (pv 3) (pe_callB call_len_seq rfl B.len PySem.boot_len (pa_cons (pv 0) pa_nil)) (nomark _))
        (pss_cons (ps_set (i := 4) scAns.nd rfl (Or.inl rfl) (pe_call GZ r1 rfl mZ FZ.kp bZ .nil pass0 (pa_cons (pv 0) (pa_cons (pv 3) pa_nil))))
        (pss_cons (ps_set (i := 5) scAns.nd rfl (Or.inl rfl) (pe_call GA hr rfl mA FA.kp bA .nil pass0 (pa_cons (pv 1) (pa_cons (pe_slice (r := rSlL K) sl_list (pv 0) (po_some (pv 3)) (po_some (pe_op op_add (pv 3) (pv 4)))) pa_nil))))
        (pss_cons (ps_expr (pe_bm PySem.F.plainAttrs_list PySem.F.slot_list_append PySem.F.type_list_append mt_append (pv 2) (pa_cons (pe_callB call_len_seq rfl B.len PySem.boot_len (pa_cons (pv 5) pa_nil)) pa_nil)))
        (pss_cons (ps_expr (pe_bm PySem.F.plainAttrs_list PySem.F.slot_list_extend PySem.F.type_list_extend mt_extend (pv 2) (pa_cons (pv 5) pa_nil)))
        (pss_one (ps_aug (i := 3) scAns.nd rfl (Or.inl rfl) (pv 4) ip_add)))))))
      (pss_one (ps_ret (pv 2)))))), ?_⟩
    -- board = Board(); told = []; at = 0
    intro bd dx nb nd ne
    refine ⟨bd, dx, rfl, upd_same, fun H1 B1 k1 => ?_⟩
    have s1 : Same H H1 := Same.made nb nd k1
    refine ⟨rfl, (by show 0 ≤ sizeLine; decide), fun tl htl => ?_⟩
    have s2 : Same H1 (upd H1 tl (.lst [])) := Same.new htl
    -- while at < len(calls)
    refine ⟨fun mm σ H5 => ∃ (v4 v5 : Option V) (pre : List Int) (xs : List Kdn.Call) (st : Option Kdn.Contest) (T out : List Int), σ = [some (.ref a), some (.ref bd), some (.ref tl), some (.int (pre.length : Int)), v4, v5] ∧ mm = xs.length ∧
        xs0.flatMap flat = pre ++ xs.flatMap flat ∧ (∀ x ∈ xs, small x) ∧ Play st xs out ∧ T ++ out = out0 ∧ T.length + 14 * xs.length ≤ 14 * 1500 ∧ H5 tl = some (.lst (T.map V.int)) ∧ BoardAt C tl H5 bd st ∧ SqL K (hid tl H5) a ((xs0.flatMap flat).map V.int),
      ⟨_, none, none, [], xs0, none, [], out0, rfl, rfl, rfl, hsm, hplay, rfl, by simp only [List.length_nil]; omega, upd_same, (B1 tl).mono s2, by rw [hid_upd]; exact (same_hid s1 (s1.free htl)).seq hS⟩, ?_⟩
    rintro mm σ H5 ⟨v4, v5, pre, xs, st, Tt, out, rfl, rfl, hxs, hs1, hpl, hT, hTl, htl5, B5, hS6⟩
    have hS5 : SqL K H5 a ((xs0.flatMap flat).map V.int) := hid_same.seq hS6
    refine ⟨_, rfl, _, rfl, a, _, rfl, .inl hS5, _, _, rfl, rfl, _, rfl, ?_⟩
    dsimp only
    refine ite2 (fun q => ?_) (fun q => ?_)
    · have q1 := of_decide_eq_true q
      rw [List.length_map, hxs, List.length_append] at q1
      refine ⟨_, fun _ _ h => h, ?_⟩
      cases hpl with
      | nil => simp at q1
      | @cons _ st' x xs' ans out' hact hpl' =>
        have hs1x := hs1 x (List.mem_cons_self ..)
        rw [List.flatMap_cons] at hxs
        -- size = call_size(calls, at)
        refine ⟨_, rfl, _, rfl, a, pre, xs'.flatMap flat, x, rfl, by rw [← hxs]; exact hS5, ?_⟩
        -- numbers = answer(board, calls[at:at + size])
        refine ⟨_, rfl, _, rfl, _, rfl, _, rfl, _, rfl, _, rfl, _, _, rfl, rfl, _, rfl, a, _, rfl, hS5, fun l hl => ?_⟩
        rw [hxs, cutV_mid]
        have s6 : Same H5 (upd H5 l (.lst ((flat x).map V.int))) := Same.new hl
        refine ⟨bd, tl, _, x, st, st', ans, rfl, ⟨l, rfl, SqL.of upd_same, hs1x⟩, s6.some (by rw [htl5]; intro z; cases z), B5.mono s6, hact, fun H7 p B7 kp7 fp hp => ?_⟩
        have kp : Kp H5 H7 := (Kp.of s6).trans kp7
        have htl7 := kp _ _ htl5 rfl
        have fp5 : H5 p = Option.none := s6.free fp
        have ptl : p ≠ tl := fun z => by rw [z, htl5] at fp5; cases fp5
        have l13 := ans_len B5.wf hact
        have xl : (x :: xs').length = xs'.length + 1 := rfl
        rw [xl] at hTl
        -- told.append(len(numbers))
        refine ⟨_, rfl, .inl ⟨rfl, _, SqL.of htl7⟩, _, rfl, p, _, rfl, .inl (SqL.of hp), tl, _, _, rfl, rfl, htl7, ?_, ?_⟩
        · rw [List.length_map]
          exact Nat.lt_of_lt_of_le (show Tt.length < 30000 by omega) (by decide)
        -- told.extend(numbers)
        refine ⟨_, rfl, .inl ⟨rfl, _, SqL.of upd_same⟩, _, rfl, tl, p, _, _, rfl, rfl, upd_same, by rw [upd_ne ptl]; exact hp, ?_, ?_⟩
        · rw [List.length_append, List.length_map, List.length_map]
          show Tt.length + 1 + (ansOf ans).length ≤ sizeLine
          exact Nat.le_trans (show Tt.length + 1 + (ansOf ans).length ≤ 30000 by omega) (by decide)
        -- at += size
        rw [upd_upd]
        refine ⟨_, rfl, _, rfl, _, _, rfl, rfl, ?_⟩
        dsimp only
        have ea : (pre.length : Int) + ((flat x).length : Int) = ((pre ++ flat x).length : Int) := by rw [List.length_append]; omega
        rw [ea]
        refine ⟨_, ?_, _, _, pre ++ flat x, xs', st', Tt ++ (((ansOf ans).length : Int) :: ansOf ans), out', rfl, rfl, by rw [List.append_assoc], fun y hy => hs1 y (List.mem_cons_of_mem _ hy), hpl', ?_, ?_, ?_, ?_, ?_⟩
        · show xs'.length < xs'.length + 1
          omega
        · rw [← hT]
          simp
        · rw [List.length_append, List.length_cons]
          omega
        · rw [upd_same, List.map_append, List.map_cons, List.length_map]
          simp
        · exact B7.own htl7
        · rw [hid_upd]
          rw [hxs] at hS6
          exact (Kp.hid kp).seq hS6
    · have q1 := of_decide_eq_false (Bool.eq_false_iff.mpr q)
      rw [List.length_map, hxs, List.length_append] at q1
      have xz : xs = [] := by
        cases xs with
        | nil => rfl
        | cons x xs' =>
          exfalso
          rw [List.flatMap_cons, List.length_append] at q1
          have : 1 ≤ (flat x).length := by cases x <;> simp [flat]
          omega
      subst xz
      cases hpl with
      | nil =>
        rw [List.append_nil] at hT
        subst hT
        exact ⟨_, rfl, k H5 tl htl5⟩
end
end Dn
end
section
set_option Elab.async false
set_option linter.all false
set_option maxRecDepth 100000
set_option maxHeartbeats 4000000
namespace Dn
open PySem PySem.Spec PyProof.Rows L2
/-! ### what the top has written -/
theorem all_mk {P : Program} {w : World} {K : PySem.W.Frag} {h : Heap} {mg : Str → Option Value} {fa C f_standings f_has_majority f_leaders f_middle_place f_couple_table f_dance_places f_couple_total f_placed_up_to f_best_by_dances f_best_by_marks f_best_of f_final_places f_sizes_fit f_is_row f_call_size f_answer f_answers f___init__ f_start f_mark f_dance f_total f_final f_missing f_rows_missing f_rows_of f_places_by_dance : Addr} (X : K.In h) (G : h.Ns mainGlobals mg) (hfa : mg "answers" = some (.ref fa))
    {od_standings an_standings : Option Addr} {sl_standings : Array (Option Value)} {oc_standings kV_standings dc_standings pm_standings cd_standings ct_standings : Value}
    {od_has_majority an_has_majority : Option Addr} {sl_has_majority : Array (Option Value)} {oc_has_majority kV_has_majority dc_has_majority pm_has_majority cd_has_majority ct_has_majority : Value}
    {od_leaders an_leaders : Option Addr} {sl_leaders : Array (Option Value)} {oc_leaders kV_leaders dc_leaders pm_leaders cd_leaders ct_leaders : Value}
    {od_middle_place an_middle_place : Option Addr} {sl_middle_place : Array (Option Value)} {oc_middle_place kV_middle_place dc_middle_place pm_middle_place cd_middle_place ct_middle_place : Value}
    {od_couple_table an_couple_table : Option Addr} {sl_couple_table : Array (Option Value)} {oc_couple_table kV_couple_table dc_couple_table pm_couple_table cd_couple_table ct_couple_table : Value}
    {od_dance_places an_dance_places : Option Addr} {sl_dance_places : Array (Option Value)} {oc_dance_places kV_dance_places dc_dance_places pm_dance_places cd_dance_places ct_dance_places : Value}
    {od_couple_total an_couple_total : Option Addr} {sl_couple_total : Array (Option Value)} {oc_couple_total kV_couple_total dc_couple_total pm_couple_total cd_couple_total ct_couple_total : Value}
    {od_placed_up_to an_placed_up_to : Option Addr} {sl_placed_up_to : Array (Option Value)} {oc_placed_up_to kV_placed_up_to dc_placed_up_to pm_placed_up_to cd_placed_up_to ct_placed_up_to : Value}
    {od_best_by_dances an_best_by_dances : Option Addr} {sl_best_by_dances : Array (Option Value)} {oc_best_by_dances kV_best_by_dances dc_best_by_dances pm_best_by_dances cd_best_by_dances ct_best_by_dances : Value}
    {od_best_by_marks an_best_by_marks : Option Addr} {sl_best_by_marks : Array (Option Value)} {oc_best_by_marks kV_best_by_marks dc_best_by_marks pm_best_by_marks cd_best_by_marks ct_best_by_marks : Value}
    {od_best_of an_best_of : Option Addr} {sl_best_of : Array (Option Value)} {oc_best_of kV_best_of dc_best_of pm_best_of cd_best_of ct_best_of : Value}
    {od_final_places an_final_places : Option Addr} {sl_final_places : Array (Option Value)} {oc_final_places kV_final_places dc_final_places pm_final_places cd_final_places ct_final_places : Value}
    {od_sizes_fit an_sizes_fit : Option Addr} {sl_sizes_fit : Array (Option Value)} {oc_sizes_fit kV_sizes_fit dc_sizes_fit pm_sizes_fit cd_sizes_fit ct_sizes_fit : Value}
    {od_is_row an_is_row : Option Addr} {sl_is_row : Array (Option Value)} {oc_is_row kV_is_row dc_is_row pm_is_row cd_is_row ct_is_row : Value}
    {od_call_size an_call_size : Option Addr} {sl_call_size : Array (Option Value)} {oc_call_size kV_call_size dc_call_size pm_call_size cd_call_size ct_call_size : Value}
    {od_answer an_answer : Option Addr} {sl_answer : Array (Option Value)} {oc_answer kV_answer dc_answer pm_answer cd_answer ct_answer : Value}
    {od_answers an_answers : Option Addr} {sl_answers : Array (Option Value)} {oc_answers kV_answers dc_answers pm_answers cd_answers ct_answers : Value}
    {od___init__ an___init__ : Option Addr} {sl___init__ : Array (Option Value)} {oc___init__ kV___init__ dc___init__ pm___init__ cd___init__ ct___init__ : Value}
    {od_start an_start : Option Addr} {sl_start : Array (Option Value)} {oc_start kV_start dc_start pm_start cd_start ct_start : Value}
    {od_mark an_mark : Option Addr} {sl_mark : Array (Option Value)} {oc_mark kV_mark dc_mark pm_mark cd_mark ct_mark : Value}
    {od_dance an_dance : Option Addr} {sl_dance : Array (Option Value)} {oc_dance kV_dance dc_dance pm_dance cd_dance ct_dance : Value}
    {od_total an_total : Option Addr} {sl_total : Array (Option Value)} {oc_total kV_total dc_total pm_total cd_total ct_total : Value}
    {od_final an_final : Option Addr} {sl_final : Array (Option Value)} {oc_final kV_final dc_final pm_final cd_final ct_final : Value}
    {od_missing an_missing : Option Addr} {sl_missing : Array (Option Value)} {oc_missing kV_missing dc_missing pm_missing cd_missing ct_missing : Value}
    {od_rows_missing an_rows_missing : Option Addr} {sl_rows_missing : Array (Option Value)} {oc_rows_missing kV_rows_missing dc_rows_missing pm_rows_missing cd_rows_missing ct_rows_missing : Value}
    {od_rows_of an_rows_of : Option Addr} {sl_rows_of : Array (Option Value)} {oc_rows_of kV_rows_of dc_rows_of pm_rows_of cd_rows_of ct_rows_of : Value}
    {od_places_by_dance an_places_by_dance : Option Addr} {sl_places_by_dance : Array (Option Value)} {oc_places_by_dance kV_places_by_dance dc_places_by_dance pm_places_by_dance cd_places_by_dance ct_places_by_dance : Value}
    {t_NO_SUCH t_ROW_MISSING t_NOT_AS_TOLD t_START t_MARK t_DANCE t_TOTAL t_FINAL t_MISSING : Tok}
    (aC : PySem.W.nsIn K mainGlobals "Board" = some (some (.ref C)))
    (a_standings : PySem.W.nsIn K mainGlobals "standings" = some (some (.ref f_standings))) (l_standings : K.lookup f_standings = some ⟨oc_standings, od_standings, .func (PySem.W.fnOf "standings" "standings" (defArgs sStand) (defBody sStand) (defScope sStand) .none kV_standings dc_standings pm_standings an_standings cd_standings ct_standings), sl_standings⟩) (c_standings : PySem.W.codeIn K cd_standings "standings" = true) (k_standings : PySem.W.keepIn K (.ref f_standings) = true)
    (a_has_majority : PySem.W.nsIn K mainGlobals "has_majority" = some (some (.ref f_has_majority))) (l_has_majority : K.lookup f_has_majority = some ⟨oc_has_majority, od_has_majority, .func (PySem.W.fnOf "has_majority" "has_majority" (defArgs sHas) (defBody sHas) (defScope sHas) .none kV_has_majority dc_has_majority pm_has_majority an_has_majority cd_has_majority ct_has_majority), sl_has_majority⟩) (c_has_majority : PySem.W.codeIn K cd_has_majority "has_majority" = true) (k_has_majority : PySem.W.keepIn K (.ref f_has_majority) = true)
    (a_leaders : PySem.W.nsIn K mainGlobals "leaders" = some (some (.ref f_leaders))) (l_leaders : K.lookup f_leaders = some ⟨oc_leaders, od_leaders, .func (PySem.W.fnOf "leaders" "leaders" (defArgs sLead) (defBody sLead) (defScope sLead) .none kV_leaders dc_leaders pm_leaders an_leaders cd_leaders ct_leaders), sl_leaders⟩) (c_leaders : PySem.W.codeIn K cd_leaders "leaders" = true) (k_leaders : PySem.W.keepIn K (.ref f_leaders) = true)
    (a_middle_place : PySem.W.nsIn K mainGlobals "middle_place" = some (some (.ref f_middle_place))) (l_middle_place : K.lookup f_middle_place = some ⟨oc_middle_place, od_middle_place, .func (PySem.W.fnOf "middle_place" "middle_place" (defArgs sMid) (defBody sMid) (defScope sMid) .none kV_middle_place dc_middle_place pm_middle_place an_middle_place cd_middle_place ct_middle_place), sl_middle_place⟩) (c_middle_place : PySem.W.codeIn K cd_middle_place "middle_place" = true) (k_middle_place : PySem.W.keepIn K (.ref f_middle_place) = true)
    (a_couple_table : PySem.W.nsIn K mainGlobals "couple_table" = some (some (.ref f_couple_table))) (l_couple_table : K.lookup f_couple_table = some ⟨oc_couple_table, od_couple_table, .func (PySem.W.fnOf "couple_table" "couple_table" (defArgs sCtab) (defBody sCtab) (defScope sCtab) .none kV_couple_table dc_couple_table pm_couple_table an_couple_table cd_couple_table ct_couple_table), sl_couple_table⟩) (c_couple_table : PySem.W.codeIn K cd_couple_table "couple_table" = true) (k_couple_table : PySem.W.keepIn K (.ref f_couple_table) = true)
    (a_dance_places : PySem.W.nsIn K mainGlobals "dance_places" = some (some (.ref f_dance_places))) (l_dance_places : K.lookup f_dance_places = some ⟨oc_dance_places, od_dance_places, .func (PySem.W.fnOf "dance_places" "dance_places" (defArgs sDpl) (defBody sDpl) (defScope sDpl) .none kV_dance_places dc_dance_places pm_dance_places an_dance_places cd_dance_places ct_dance_places), sl_dance_places⟩) (c_dance_places : PySem.W.codeIn K cd_dance_places "dance_places" = true) (k_dance_places : PySem.W.keepIn K (.ref f_dance_places) = true)
    (a_couple_total : PySem.W.nsIn K mainGlobals "couple_total" = some (some (.ref f_couple_total))) (l_couple_total : K.lookup f_couple_total = some ⟨oc_couple_total, od_couple_total, .func (PySem.W.fnOf "couple_total" "couple_total" (defArgs sTot) (defBody sTot) (defScope sTot) .none kV_couple_total dc_couple_total pm_couple_total an_couple_total cd_couple_total ct_couple_total), sl_couple_total⟩) (c_couple_total : PySem.W.codeIn K cd_couple_total "couple_total" = true) (k_couple_total : PySem.W.keepIn K (.ref f_couple_total) = true)
    (a_placed_up_to : PySem.W.nsIn K mainGlobals "placed_up_to" = some (some (.ref f_placed_up_to))) (l_placed_up_to : K.lookup f_placed_up_to = some ⟨oc_placed_up_to, od_placed_up_to, .func (PySem.W.fnOf "placed_up_to" "placed_up_to" (defArgs sPut) (defBody sPut) (defScope sPut) .none kV_placed_up_to dc_placed_up_to pm_placed_up_to an_placed_up_to cd_placed_up_to ct_placed_up_to), sl_placed_up_to⟩) (c_placed_up_to : PySem.W.codeIn K cd_placed_up_to "placed_up_to" = true) (k_placed_up_to : PySem.W.keepIn K (.ref f_placed_up_to) = true)
    (a_best_by_dances : PySem.W.nsIn K mainGlobals "best_by_dances" = some (some (.ref f_best_by_dances))) (l_best_by_dances : K.lookup f_best_by_dances = some ⟨oc_best_by_dances, od_best_by_dances, .func (PySem.W.fnOf "best_by_dances" "best_by_dances" (defArgs sByD) (defBody sByD) (defScope sByD) .none kV_best_by_dances dc_best_by_dances pm_best_by_dances an_best_by_dances cd_best_by_dances ct_best_by_dances), sl_best_by_dances⟩) (c_best_by_dances : PySem.W.codeIn K cd_best_by_dances "best_by_dances" = true) (k_best_by_dances : PySem.W.keepIn K (.ref f_best_by_dances) = true)
    (a_best_by_marks : PySem.W.nsIn K mainGlobals "best_by_marks" = some (some (.ref f_best_by_marks))) (l_best_by_marks : K.lookup f_best_by_marks = some ⟨oc_best_by_marks, od_best_by_marks, .func (PySem.W.fnOf "best_by_marks" "best_by_marks" (defArgs sByM) (defBody sByM) (defScope sByM) .none kV_best_by_marks dc_best_by_marks pm_best_by_marks an_best_by_marks cd_best_by_marks ct_best_by_marks), sl_best_by_marks⟩) (c_best_by_marks : PySem.W.codeIn K cd_best_by_marks "best_by_marks" = true) (k_best_by_marks : PySem.W.keepIn K (.ref f_best_by_marks) = true)
    (a_best_of : PySem.W.nsIn K mainGlobals "best_of" = some (some (.ref f_best_of))) (l_best_of : K.lookup f_best_of = some ⟨oc_best_of, od_best_of, .func (PySem.W.fnOf "best_of" "best_of" (defArgs sBest) (defBody sBest) (defScope sBest) .none kV_best_of dc_best_of pm_best_of an_best_of cd_best_of ct_best_of), sl_best_of⟩) (c_best_of : PySem.W.codeIn K cd_best_of "best_of" = true) (k_best_of : PySem.W.keepIn K (.ref f_best_of) = true)
    (a_final_places : PySem.W.nsIn K mainGlobals "final_places" = some (some (.ref f_final_places))) (l_final_places : K.lookup f_final_places = some ⟨oc_final_places, od_final_places, .func (PySem.W.fnOf "final_places" "final_places" (defArgs sFin) (defBody sFin) (defScope sFin) .none kV_final_places dc_final_places pm_final_places an_final_places cd_final_places ct_final_places), sl_final_places⟩) (c_final_places : PySem.W.codeIn K cd_final_places "final_places" = true) (k_final_places : PySem.W.keepIn K (.ref f_final_places) = true)
    (a_sizes_fit : PySem.W.nsIn K mainGlobals "sizes_fit" = some (some (.ref f_sizes_fit))) (l_sizes_fit : K.lookup f_sizes_fit = some ⟨oc_sizes_fit, od_sizes_fit, .func (PySem.W.fnOf "sizes_fit" "sizes_fit" (defArgs sFit) (defBody sFit) (defScope sFit) .none kV_sizes_fit dc_sizes_fit pm_sizes_fit an_sizes_fit cd_sizes_fit ct_sizes_fit), sl_sizes_fit⟩) (c_sizes_fit : PySem.W.codeIn K cd_sizes_fit "sizes_fit" = true) (k_sizes_fit : PySem.W.keepIn K (.ref f_sizes_fit) = true)
    (a_is_row : PySem.W.nsIn K mainGlobals "is_row" = some (some (.ref f_is_row))) (l_is_row : K.lookup f_is_row = some ⟨oc_is_row, od_is_row, .func (PySem.W.fnOf "is_row" "is_row" (defArgs sRow) (defBody sRow) (defScope sRow) .none kV_is_row dc_is_row pm_is_row an_is_row cd_is_row ct_is_row), sl_is_row⟩) (c_is_row : PySem.W.codeIn K cd_is_row "is_row" = true) (k_is_row : PySem.W.keepIn K (.ref f_is_row) = true)
    (a_call_size : PySem.W.nsIn K mainGlobals "call_size" = some (some (.ref f_call_size))) (l_call_size : K.lookup f_call_size = some ⟨oc_call_size, od_call_size, .func (PySem.W.fnOf "call_size" "call_size" (defArgs sSize) (defBody sSize) (defScope sSize) .none kV_call_size dc_call_size pm_call_size an_call_size cd_call_size ct_call_size), sl_call_size⟩) (c_call_size : PySem.W.codeIn K cd_call_size "call_size" = true) (k_call_size : PySem.W.keepIn K (.ref f_call_size) = true)
    (a_answer : PySem.W.nsIn K mainGlobals "answer" = some (some (.ref f_answer))) (l_answer : K.lookup f_answer = some ⟨oc_answer, od_answer, .func (PySem.W.fnOf "answer" "answer" (defArgs sAnswer) (defBody sAnswer) (defScope sAnswer) .none kV_answer dc_answer pm_answer an_answer cd_answer ct_answer), sl_answer⟩) (c_answer : PySem.W.codeIn K cd_answer "answer" = true) (k_answer : PySem.W.keepIn K (.ref f_answer) = true)
    (a_answers : PySem.W.nsIn K mainGlobals "answers" = some (some (.ref f_answers))) (l_answers : K.lookup f_answers = some ⟨oc_answers, od_answers, .func (PySem.W.fnOf "answers" "answers" (defArgs sAnswers) (defBody sAnswers) (defScope sAnswers) .none kV_answers dc_answers pm_answers an_answers cd_answers ct_answers), sl_answers⟩) (c_answers : PySem.W.codeIn K cd_answers "answers" = true) (k_answers : PySem.W.keepIn K (.ref f_answers) = true)
    (a___init__ : PySem.W.findIn K (.ref C) "__init__" = some (some (.ref f___init__))) (i___init__ : PySem.W.isFn K (.ref f___init__) = true) (l___init__ : K.lookup f___init__ = some ⟨oc___init__, od___init__, .func (PySem.W.fnOf "__init__" "Board.__init__" (defArgs sInit) (defBody sInit) (defScope sInit) .none kV___init__ dc___init__ pm___init__ an___init__ cd___init__ ct___init__), sl___init__⟩) (c___init__ : PySem.W.codeIn K cd___init__ "Board.__init__" = true) (k___init__ : PySem.W.keepIn K (.ref f___init__) = true)
    (a_start : PySem.W.findIn K (.ref C) "start" = some (some (.ref f_start))) (i_start : PySem.W.isFn K (.ref f_start) = true) (l_start : K.lookup f_start = some ⟨oc_start, od_start, .func (PySem.W.fnOf "start" "Board.start" (defArgs sStart) (defBody sStart) (defScope sStart) .none kV_start dc_start pm_start an_start cd_start ct_start), sl_start⟩) (c_start : PySem.W.codeIn K cd_start "Board.start" = true) (k_start : PySem.W.keepIn K (.ref f_start) = true)
    (a_mark : PySem.W.findIn K (.ref C) "mark" = some (some (.ref f_mark))) (i_mark : PySem.W.isFn K (.ref f_mark) = true) (l_mark : K.lookup f_mark = some ⟨oc_mark, od_mark, .func (PySem.W.fnOf "mark" "Board.mark" (defArgs sMark) (defBody sMark) (defScope sMark) .none kV_mark dc_mark pm_mark an_mark cd_mark ct_mark), sl_mark⟩) (c_mark : PySem.W.codeIn K cd_mark "Board.mark" = true) (k_mark : PySem.W.keepIn K (.ref f_mark) = true)
    (a_dance : PySem.W.findIn K (.ref C) "dance" = some (some (.ref f_dance))) (i_dance : PySem.W.isFn K (.ref f_dance) = true) (l_dance : K.lookup f_dance = some ⟨oc_dance, od_dance, .func (PySem.W.fnOf "dance" "Board.dance" (defArgs sDance) (defBody sDance) (defScope sDance) .none kV_dance dc_dance pm_dance an_dance cd_dance ct_dance), sl_dance⟩) (c_dance : PySem.W.codeIn K cd_dance "Board.dance" = true) (k_dance : PySem.W.keepIn K (.ref f_dance) = true)
    (a_total : PySem.W.findIn K (.ref C) "total" = some (some (.ref f_total))) (i_total : PySem.W.isFn K (.ref f_total) = true) (l_total : K.lookup f_total = some ⟨oc_total, od_total, .func (PySem.W.fnOf "total" "Board.total" (defArgs sTotal) (defBody sTotal) (defScope sTotal) .none kV_total dc_total pm_total an_total cd_total ct_total), sl_total⟩) (c_total : PySem.W.codeIn K cd_total "Board.total" = true) (k_total : PySem.W.keepIn K (.ref f_total) = true)
    (a_final : PySem.W.findIn K (.ref C) "final" = some (some (.ref f_final))) (i_final : PySem.W.isFn K (.ref f_final) = true) (l_final : K.lookup f_final = some ⟨oc_final, od_final, .func (PySem.W.fnOf "final" "Board.final" (defArgs sFinal) (defBody sFinal) (defScope sFinal) .none kV_final dc_final pm_final an_final cd_final ct_final), sl_final⟩) (c_final : PySem.W.codeIn K cd_final "Board.final" = true) (k_final : PySem.W.keepIn K (.ref f_final) = true)
    (a_missing : PySem.W.findIn K (.ref C) "missing" = some (some (.ref f_missing))) (i_missing : PySem.W.isFn K (.ref f_missing) = true) (l_missing : K.lookup f_missing = some ⟨oc_missing, od_missing, .func (PySem.W.fnOf "missing" "Board.missing" (defArgs sMissing) (defBody sMissing) (defScope sMissing) .none kV_missing dc_missing pm_missing an_missing cd_missing ct_missing), sl_missing⟩) (c_missing : PySem.W.codeIn K cd_missing "Board.missing" = true) (k_missing : PySem.W.keepIn K (.ref f_missing) = true)
    (a_rows_missing : PySem.W.findIn K (.ref C) "rows_missing" = some (some (.ref f_rows_missing))) (i_rows_missing : PySem.W.isFn K (.ref f_rows_missing) = true) (l_rows_missing : K.lookup f_rows_missing = some ⟨oc_rows_missing, od_rows_missing, .func (PySem.W.fnOf "rows_missing" "Board.rows_missing" (defArgs sMiss) (defBody sMiss) (defScope sMiss) .none kV_rows_missing dc_rows_missing pm_rows_missing an_rows_missing cd_rows_missing ct_rows_missing), sl_rows_missing⟩) (c_rows_missing : PySem.W.codeIn K cd_rows_missing "Board.rows_missing" = true) (k_rows_missing : PySem.W.keepIn K (.ref f_rows_missing) = true)
    (a_rows_of : PySem.W.findIn K (.ref C) "rows_of" = some (some (.ref f_rows_of))) (i_rows_of : PySem.W.isFn K (.ref f_rows_of) = true) (l_rows_of : K.lookup f_rows_of = some ⟨oc_rows_of, od_rows_of, .func (PySem.W.fnOf "rows_of" "Board.rows_of" (defArgs sRowsOf) (defBody sRowsOf) (defScope sRowsOf) .none kV_rows_of dc_rows_of pm_rows_of an_rows_of cd_rows_of ct_rows_of), sl_rows_of⟩) (c_rows_of : PySem.W.codeIn K cd_rows_of "Board.rows_of" = true) (k_rows_of : PySem.W.keepIn K (.ref f_rows_of) = true)
    (a_places_by_dance : PySem.W.findIn K (.ref C) "places_by_dance" = some (some (.ref f_places_by_dance))) (i_places_by_dance : PySem.W.isFn K (.ref f_places_by_dance) = true) (l_places_by_dance : K.lookup f_places_by_dance = some ⟨oc_places_by_dance, od_places_by_dance, .func (PySem.W.fnOf "places_by_dance" "Board.places_by_dance" (defArgs sByDance) (defBody sByDance) (defScope sByDance) .none kV_places_by_dance dc_places_by_dance pm_places_by_dance an_places_by_dance cd_places_by_dance ct_places_by_dance), sl_places_by_dance⟩) (c_places_by_dance : PySem.W.codeIn K cd_places_by_dance "Board.places_by_dance" = true) (k_places_by_dance : PySem.W.keepIn K (.ref f_places_by_dance) = true)
    (a_NO_SUCH : PySem.W.nsIn K mainGlobals "NO_SUCH" = some (some (.int (-2) t_NO_SUCH)))
    (a_ROW_MISSING : PySem.W.nsIn K mainGlobals "ROW_MISSING" = some (some (.int (-11) t_ROW_MISSING)))
    (a_NOT_AS_TOLD : PySem.W.nsIn K mainGlobals "NOT_AS_TOLD" = some (some (.int (-22) t_NOT_AS_TOLD)))
    (a_START : PySem.W.nsIn K mainGlobals "START" = some (some (.int (0) t_START)))
    (a_MARK : PySem.W.nsIn K mainGlobals "MARK" = some (some (.int (1) t_MARK)))
    (a_DANCE : PySem.W.nsIn K mainGlobals "DANCE" = some (some (.int (2) t_DANCE)))
    (a_TOTAL : PySem.W.nsIn K mainGlobals "TOTAL" = some (some (.int (3) t_TOTAL)))
    (a_FINAL : PySem.W.nsIn K mainGlobals "FINAL" = some (some (.int (4) t_FINAL)))
    (a_MISSING : PySem.W.nsIn K mainGlobals "MISSING" = some (some (.int (5) t_MISSING)))
    (n_range : PySem.W.nsIn K mainGlobals "range" = some none)
    (n_len : PySem.W.nsIn K mainGlobals "len" = some none)
    (n_min : PySem.W.nsIn K mainGlobals "min" = some none)
    (n_sorted : PySem.W.nsIn K mainGlobals "sorted" = some none)
    (n_list : PySem.W.nsIn K mainGlobals "list" = some none)
    (n_sum : PySem.W.nsIn K mainGlobals "sum" = some none)
    (n_any : PySem.W.nsIn K mainGlobals "any" = some none)
    (pg : PySem.W.plainGet K C Str.empty = true) (hd : PySem.W.hasDictIn K C = true) (po : PySem.W.plainOver K C = true) (sa : PySem.W.findIn K (.ref C) "__setattr__" = some (some (.builtin "object.__setattr__"))) (mk : PySem.W.makesIn K C = true) (kc : PySem.W.keepIn K (.ref C) = true)
    (no_couples : PySem.W.findIn K (.ref C) "couples" = some none)
    (no_judges : PySem.W.findIn K (.ref C) "judges" = some none)
    (no_dances : PySem.W.findIn K (.ref C) "dances" = some none)
    (no_rows : PySem.W.findIn K (.ref C) "rows" = some none)
    : ∃ fd : FuncData, (∀ (s : Shared) (us : List Value), us.length = (["calls"] : List Str).length → BindsTo s fd ⟨us, []⟩ ((["calls"] : List Str).zip us)) ∧ ∀ base : Heap, K.In base → base.Ns mainGlobals mg → FnOk P w K mg base CX0 7 fa fd ["calls"] (spAns K) := by
  have e := hfa.symm.trans (PySem.W.mg_of X G a_answers)
  cases e
  have m_NO_SUCH := PySem.W.mg_of X G a_NO_SUCH
  have m_ROW_MISSING := PySem.W.mg_of X G a_ROW_MISSING
  have m_NOT_AS_TOLD := PySem.W.mg_of X G a_NOT_AS_TOLD
  have m_START := PySem.W.mg_of X G a_START
  have m_MARK := PySem.W.mg_of X G a_MARK
  have m_DANCE := PySem.W.mg_of X G a_DANCE
  have m_TOTAL := PySem.W.mg_of X G a_TOTAL
  have m_FINAL := PySem.W.mg_of X G a_FINAL
  have m_MISSING := PySem.W.mg_of X G a_MISSING
  have B : Blt mg := ⟨PySem.W.mg_none_of X G n_range, PySem.W.mg_none_of X G n_len, PySem.W.mg_none_of X G n_min, PySem.W.mg_none_of X G n_sorted, PySem.W.mg_none_of X G n_list, PySem.W.mg_none_of X G n_sum, PySem.W.mg_none_of X G n_any⟩
  have T : Txt K mg C := ⟨⟨pg, hd, po, sa⟩, no_couples, no_judges, no_dances, no_rows, PySem.W.mg_of X G aC, ⟨_, m_NO_SUCH⟩, ⟨_, m_ROW_MISSING⟩, ⟨_, m_NOT_AS_TOLD⟩⟩
  have TC : TxtC mg := ⟨⟨_, m_START⟩, ⟨_, m_MARK⟩, ⟨_, m_DANCE⟩, ⟨_, m_TOTAL⟩, ⟨_, m_FINAL⟩, ⟨_, m_MISSING⟩⟩
  have F_standings := fun_mk (st := sStand) l_standings c_standings k_standings
  have b_standings := F_standings.binds (ps := ["marks", "couples"]) fun _ _ _ _ _ _ us hl => match us, hl with | [_, _], _ => rfl
  have m_standings := PySem.W.mg_of X G a_standings
  have F_has_majority := fun_mk (st := sHas) l_has_majority c_has_majority k_has_majority
  have b_has_majority := F_has_majority.binds (ps := ["table", "column"]) fun _ _ _ _ _ _ us hl => match us, hl with | [_, _], _ => rfl
  have m_has_majority := PySem.W.mg_of X G a_has_majority
  have F_leaders := fun_mk (st := sLead) l_leaders c_leaders k_leaders
  have b_leaders := F_leaders.binds (ps := ["tables", "waiting", "column"]) fun _ _ _ _ _ _ us hl => match us, hl with | [_, _, _], _ => rfl
  have m_leaders := PySem.W.mg_of X G a_leaders
  have F_middle_place := fun_mk (st := sMid) l_middle_place c_middle_place k_middle_place
  have b_middle_place := F_middle_place.binds (ps := ["place", "sharing"]) fun _ _ _ _ _ _ us hl => match us, hl with | [_, _], _ => rfl
  have m_middle_place := PySem.W.mg_of X G a_middle_place
  have F_couple_table := fun_mk (st := sCtab) l_couple_table c_couple_table k_couple_table
  have b_couple_table := F_couple_table.binds (ps := ["rows", "couple", "couples"]) fun _ _ _ _ _ _ us hl => match us, hl with | [_, _, _], _ => rfl
  have m_couple_table := PySem.W.mg_of X G a_couple_table
  have F_dance_places := fun_mk (st := sDpl) l_dance_places c_dance_places k_dance_places
  have b_dance_places := F_dance_places.binds (ps := ["rows", "couples"]) fun _ _ _ _ _ _ us hl => match us, hl with | [_, _], _ => rfl
  have m_dance_places := PySem.W.mg_of X G a_dance_places
  have F_couple_total := fun_mk (st := sTot) l_couple_total c_couple_total k_couple_total
  have b_couple_total := F_couple_total.binds (ps := ["dances", "couple"]) fun _ _ _ _ _ _ us hl => match us, hl with | [_, _], _ => rfl
  have m_couple_total := PySem.W.mg_of X G a_couple_total
  have F_placed_up_to := fun_mk (st := sPut) l_placed_up_to c_placed_up_to k_placed_up_to
  have b_placed_up_to := F_placed_up_to.binds (ps := ["dances", "couple", "place"]) fun _ _ _ _ _ _ us hl => match us, hl with | [_, _, _], _ => rfl
  have m_placed_up_to := PySem.W.mg_of X G a_placed_up_to
  have F_best_by_dances := fun_mk (st := sByD) l_best_by_dances c_best_by_dances k_best_by_dances
  have b_best_by_dances := F_best_by_dances.binds (ps := ["dances", "tied", "place"]) fun _ _ _ _ _ _ us hl => match us, hl with | [_, _, _], _ => rfl
  have m_best_by_dances := PySem.W.mg_of X G a_best_by_dances
  have F_best_by_marks := fun_mk (st := sByM) l_best_by_marks c_best_by_marks k_best_by_marks
  have b_best_by_marks := F_best_by_marks.binds (ps := ["tables", "tied", "place"]) fun _ _ _ _ _ _ us hl => match us, hl with | [_, _, _], _ => rfl
  have m_best_by_marks := PySem.W.mg_of X G a_best_by_marks
  have F_best_of := fun_mk (st := sBest) l_best_of c_best_of k_best_of
  have b_best_of := F_best_of.binds (ps := ["dances", "tables", "tied", "place"]) fun _ _ _ _ _ _ us hl => match us, hl with | [_, _, _, _], _ => rfl
  have m_best_of := PySem.W.mg_of X G a_best_of
  have F_final_places := fun_mk (st := sFin) l_final_places c_final_places k_final_places
  have b_final_places := F_final_places.binds (ps := ["dances", "rows", "couples"]) fun _ _ _ _ _ _ us hl => match us, hl with | [_, _, _], _ => rfl
  have m_final_places := PySem.W.mg_of X G a_final_places
  have F_sizes_fit := fun_mk (st := sFit) l_sizes_fit c_sizes_fit k_sizes_fit
  have b_sizes_fit := F_sizes_fit.binds (ps := ["couples", "judges", "dances"]) fun _ _ _ _ _ _ us hl => match us, hl with | [_, _, _], _ => rfl
  have m_sizes_fit := PySem.W.mg_of X G a_sizes_fit
  have F_is_row := fun_mk (st := sRow) l_is_row c_is_row k_is_row
  have b_is_row := F_is_row.binds (ps := ["places", "couples"]) fun _ _ _ _ _ _ us hl => match us, hl with | [_, _], _ => rfl
  have m_is_row := PySem.W.mg_of X G a_is_row
  have F_call_size := fun_mk (st := sSize) l_call_size c_call_size k_call_size
  have b_call_size := F_call_size.binds (ps := ["calls", "at"]) fun _ _ _ _ _ _ us hl => match us, hl with | [_, _], _ => rfl
  have m_call_size := PySem.W.mg_of X G a_call_size
  have F_answer := fun_mk (st := sAnswer) l_answer c_answer k_answer
  have b_answer := F_answer.binds (ps := ["board", "call"]) fun _ _ _ _ _ _ us hl => match us, hl with | [_, _], _ => rfl
  have m_answer := PySem.W.mg_of X G a_answer
  have F_answers := fun_mk (st := sAnswers) l_answers c_answers k_answers
  have b_answers := F_answers.binds (ps := ["calls"]) fun _ _ _ _ _ _ us hl => match us, hl with | [_], _ => rfl
  have m_answers := PySem.W.mg_of X G a_answers
  have F___init__ := fun_mk (st := sInit) l___init__ c___init__ k___init__
  have b___init__ := F___init__.binds (ps := ["self"]) fun _ _ _ _ _ _ us hl => match us, hl with | [_], _ => rfl
  have F_start := fun_mk (st := sStart) l_start c_start k_start
  have b_start := F_start.binds (ps := ["self", "couples", "judges", "dances"]) fun _ _ _ _ _ _ us hl => match us, hl with | [_, _, _, _], _ => rfl
  have M_start : Meth K C "start" f_start := ⟨a_start, i_start, k_start⟩
  have F_mark := fun_mk (st := sMark) l_mark c_mark k_mark
  have b_mark := F_mark.binds (ps := ["self", "dance", "judge", "places"]) fun _ _ _ _ _ _ us hl => match us, hl with | [_, _, _, _], _ => rfl
  have M_mark : Meth K C "mark" f_mark := ⟨a_mark, i_mark, k_mark⟩
  have F_dance := fun_mk (st := sDance) l_dance c_dance k_dance
  have b_dance := F_dance.binds (ps := ["self", "dance"]) fun _ _ _ _ _ _ us hl => match us, hl with | [_, _], _ => rfl
  have M_dance : Meth K C "dance" f_dance := ⟨a_dance, i_dance, k_dance⟩
  have F_total := fun_mk (st := sTotal) l_total c_total k_total
  have b_total := F_total.binds (ps := ["self", "couple"]) fun _ _ _ _ _ _ us hl => match us, hl with | [_, _], _ => rfl
  have M_total : Meth K C "total" f_total := ⟨a_total, i_total, k_total⟩
  have F_final := fun_mk (st := sFinal) l_final c_final k_final
  have b_final := F_final.binds (ps := ["self"]) fun _ _ _ _ _ _ us hl => match us, hl with | [_], _ => rfl
  have M_final : Meth K C "final" f_final := ⟨a_final, i_final, k_final⟩
  have F_missing := fun_mk (st := sMissing) l_missing c_missing k_missing
  have b_missing := F_missing.binds (ps := ["self"]) fun _ _ _ _ _ _ us hl => match us, hl with | [_], _ => rfl
  have M_missing : Meth K C "missing" f_missing := ⟨a_missing, i_missing, k_missing⟩
  have F_rows_missing := fun_mk (st := sMiss) l_rows_missing c_rows_missing k_rows_missing
  have b_rows_missing := F_rows_missing.binds (ps := ["self"]) fun _ _ _ _ _ _ us hl => match us, hl with | [_], _ => rfl
  have M_rows_missing : Meth K C "rows_missing" f_rows_missing := ⟨a_rows_missing, i_rows_missing, k_rows_missing⟩
  have F_rows_of := fun_mk (st := sRowsOf) l_rows_of c_rows_of k_rows_of
  have b_rows_of := F_rows_of.binds (ps := ["self", "dance"]) fun _ _ _ _ _ _ us hl => match us, hl with | [_, _], _ => rfl
  have M_rows_of : Meth K C "rows_of" f_rows_of := ⟨a_rows_of, i_rows_of, k_rows_of⟩
  have F_places_by_dance := fun_mk (st := sByDance) l_places_by_dance c_places_by_dance k_places_by_dance
  have b_places_by_dance := F_places_by_dance.binds (ps := ["self"]) fun _ _ _ _ _ _ us hl => match us, hl with | [_], _ => rfl
  have M_places_by_dance : Meth K C "places_by_dance" f_places_by_dance := ⟨a_places_by_dance, i_places_by_dance, k_places_by_dance⟩
  refine ⟨PySem.W.fnOf "answers" "answers" (defArgs sAnswers) (defBody sAnswers) (defScope sAnswers) .none kV_answers dc_answers pm_answers an_answers cd_answers ct_answers, fun s us hu => match us, hu with | [_], _ => .of_eq rfl, fun base _ _ => ?_⟩
  · have GD := ok_dpl (P := P) (w := w) (base := base) F_dance_places F_standings b_standings m_standings F_couple_table b_couple_table m_couple_table F_has_majority b_has_majority m_has_majority F_leaders b_leaders m_leaders F_middle_place b_middle_place m_middle_place B
    have G1 := ok_start (P := P) (w := w) (base := base) F_start T F_sizes_fit b_sizes_fit m_sizes_fit
    have G2 := ok_mark (P := P) (w := w) (base := base) F_mark T B F_is_row b_is_row m_is_row F_rows_missing b_rows_missing M_rows_missing
    have G3 := ok_dance (P := P) (w := w) (base := base) F_dance T B F_rows_of b_rows_of M_rows_of F_dance_places b_dance_places m_dance_places GD
    have GC := ok_ctab (P := P) (w := w) (base := base) F_couple_table F_standings b_standings m_standings B
    have GY := ok_by (P := P) (w := w) (base := base) F_places_by_dance T B F_rows_of b_rows_of M_rows_of F_dance_places b_dance_places m_dance_places GD
    have GE := ok_byD (P := P) (w := w) (base := base) F_best_by_dances F_placed_up_to b_placed_up_to m_placed_up_to B
    have GK := ok_byM (P := P) (w := w) (base := base) F_best_by_marks F_has_majority b_has_majority m_has_majority F_leaders b_leaders m_leaders B
    have GO := ok_best (P := P) (w := w) (base := base) F_best_of F_best_by_dances b_best_by_dances m_best_by_dances GE F_best_by_marks b_best_by_marks m_best_by_marks GK B
    have GF := ok_fin (P := P) (w := w) (base := base) F_final_places F_couple_table b_couple_table m_couple_table GC F_couple_total b_couple_total m_couple_total F_best_of b_best_of m_best_of GO F_middle_place b_middle_place m_middle_place B
    have G4 := ok_total (P := P) (w := w) (base := base) F_total T B F_rows_missing b_rows_missing M_rows_missing F_couple_total b_couple_total m_couple_total b_places_by_dance M_places_by_dance GY
    have G5 := ok_final (P := P) (w := w) (base := base) F_final T B F_rows_missing b_rows_missing M_rows_missing F_final_places b_final_places m_final_places GF b_places_by_dance M_places_by_dance GY
    have G6 := ok_missing (P := P) (w := w) (base := base) F_missing T B F_rows_missing b_rows_missing M_rows_missing
    have GA := ok_answer (P := P) (w := w) (base := base) F_answer T TC b_start M_start G1 b_mark M_mark G2 b_dance M_dance G3 b_total M_total G4 b_final M_final G5 b_missing M_missing G6
    exact ok_answers F_answers T B ⟨mk, a___init__, i___init__, kc⟩ b___init__ (ok_init F___init__ T) F_call_size b_call_size m_call_size (ok_size F_call_size TC) F_answer b_answer m_answer GA
end Dn
end
open PySem PySem.W PyProof.Rows
set_option Elab.async false
set_option maxRecDepth 100000 in
set_option maxHeartbeats 0 in
theorem PySem.Challenge.cw_dancejudged_s01_answers_holds : PySem.Challenge.rw_dancejudged_s01_answers.Holds := by
  w_on; k_headS; (case hw => exact ⟨[.list [.int 0, .int 2, .int 3, .int 1]], by decide +kernel, by decide +kernel⟩)
  k_fillS
  refine L2.walk_specK (r := PySem.Challenge.rw_dancejudged_s01_answers) (k := 7) (CX := L2.CX0) (ps := ["calls"]) (sp := Dn.spAns) (by decide +kernel) rfl rfl ⟨rfl, by decide, by decide⟩ (fun w h Y => PySem.W.kIn_of Y) ?F ?S (fun _ _ _ _ z => z)
  case F =>
    intro w mg fa h Y KX G hmg
    refine' Dn.all_mk KX G hmg ?aC ?a_standings ?l_standings ?c_standings ?k_standings ?a_has_majority ?l_has_majority ?c_has_majority ?k_has_majority ?a_leaders ?l_leaders ?c_leaders ?k_leaders ?a_middle_place ?l_middle_place ?c_middle_place ?k_middle_place ?a_couple_table ?l_couple_table ?c_couple_table ?k_couple_table ?a_dance_places ?l_dance_places ?c_dance_places ?k_dance_places ?a_couple_total ?l_couple_total ?c_couple_total ?k_couple_total ?a_placed_up_to ?l_placed_up_to ?c_placed_up_to ?k_placed_up_to ?a_best_by_dances ?l_best_by_dances ?c_best_by_dances ?k_best_by_dances ?a_best_by_marks ?l_best_by_marks ?c_best_by_marks ?k_best_by_marks ?a_best_of ?l_best_of ?c_best_of ?k_best_of ?a_final_places ?l_final_places ?c_final_places ?k_final_places ?a_sizes_fit ?l_sizes_fit ?c_sizes_fit ?k_sizes_fit ?a_is_row ?l_is_row ?c_is_row ?k_is_row ?a_call_size ?l_call_size ?c_call_size ?k_call_size ?a_answer ?l_answer ?c_answer ?k_answer ?a_answers ?l_answers ?c_answers ?k_answers ?a___init__ ?i___init__ ?l___init__ ?c___init__ ?k___init__ ?a_start ?i_start ?l_start ?c_start ?k_start ?a_mark ?i_mark ?l_mark ?c_mark ?k_mark ?a_dance ?i_dance ?l_dance ?c_dance ?k_dance ?a_total ?i_total ?l_total ?c_total ?k_total ?a_final ?i_final ?l_final ?c_final ?k_final ?a_missing ?i_missing ?l_missing ?c_missing ?k_missing ?a_rows_missing ?i_rows_missing ?l_rows_missing ?c_rows_missing ?k_rows_missing ?a_rows_of ?i_rows_of ?l_rows_of ?c_rows_of ?k_rows_of ?a_places_by_dance ?i_places_by_dance ?l_places_by_dance ?c_places_by_dance ?k_places_by_dance ?a_NO_SUCH ?a_ROW_MISSING ?a_NOT_AS_TOLD ?a_START ?a_MARK ?a_DANCE ?a_TOTAL ?a_FINAL ?a_MISSING ?n_range ?n_len ?n_min ?n_sorted ?n_list ?n_sum ?n_any ?pg ?hd ?po ?sa ?mk ?kc ?no_couples ?no_judges ?no_dances ?no_rows
    (case aC => k_is)
    (case a_standings => k_is)
    (case l_standings => k_is)
    (case c_standings => k_is)
    (case k_standings => k_is)
    (case a_has_majority => k_is)
    (case l_has_majority => k_is)
    (case c_has_majority => k_is)
    (case k_has_majority => k_is)
    (case a_leaders => k_is)
    (case l_leaders => k_is)
    (case c_leaders => k_is)
    (case k_leaders => k_is)
    (case a_middle_place => k_is)
    (case l_middle_place => k_is)
    (case c_middle_place => k_is)
    (case k_middle_place => k_is)
    (case a_couple_table => k_is)
    (case l_couple_table => k_is)
    (case c_couple_table => k_is)
    (case k_couple_table => k_is)
    (case a_dance_places => k_is)
    (case l_dance_places => k_is)
    (case c_dance_places => k_is)
    (case k_dance_places => k_is)
    (case a_couple_total => k_is)
    (case l_couple_total => k_is)
    (case c_couple_total => k_is)
    (case k_couple_total => k_is)
    (case a_placed_up_to => k_is)
    (case l_placed_up_to => k_is)
    (case c_placed_up_to => k_is)
    (case k_placed_up_to => k_is)
    (case a_best_by_dances => k_is)
    (case l_best_by_dances => k_is)
    (case c_best_by_dances => k_is)
    (case k_best_by_dances => k_is)
    (case a_best_by_marks => k_is)
    (case l_best_by_marks => k_is)
    (case c_best_by_marks => k_is)
    (case k_best_by_marks => k_is)
    (case a_best_of => k_is)
    (case l_best_of => k_is)
    (case c_best_of => k_is)
    (case k_best_of => k_is)
    (case a_final_places => k_is)
    (case l_final_places => k_is)
    (case c_final_places => k_is)
    (case k_final_places => k_is)
    (case a_sizes_fit => k_is)
    (case l_sizes_fit => k_is)
    (case c_sizes_fit => k_is)
    (case k_sizes_fit => k_is)
    (case a_is_row => k_is)
    (case l_is_row => k_is)
    (case c_is_row => k_is)
    (case k_is_row => k_is)
    (case a_call_size => k_is)
    (case l_call_size => k_is)
    (case c_call_size => k_is)
    (case k_call_size => k_is)
    (case a_answer => k_is)
    (case l_answer => k_is)
    (case c_answer => k_is)
    (case k_answer => k_is)
    (case a_answers => k_is)
    (case l_answers => k_is)
    (case c_answers => k_is)
    (case k_answers => k_is)
    (case a___init__ => k_is)
    (case i___init__ => k_is)
    (case l___init__ => k_is)
    (case c___init__ => k_is)
    (case k___init__ => k_is)
    (case a_start => k_is)
    (case i_start => k_is)
    (case l_start => k_is)
    (case c_start => k_is)
    (case k_start => k_is)
    (case a_mark => k_is)
    (case i_mark => k_is)
    (case l_mark => k_is)
    (case c_mark => k_is)
    (case k_mark => k_is)
    (case a_dance => k_is)
    (case i_dance => k_is)
    (case l_dance => k_is)
    (case c_dance => k_is)
    (case k_dance => k_is)
    (case a_total => k_is)
    (case i_total => k_is)
    (case l_total => k_is)
    (case c_total => k_is)
    (case k_total => k_is)
    (case a_final => k_is)
    (case i_final => k_is)
    (case l_final => k_is)
    (case c_final => k_is)
    (case k_final => k_is)
    (case a_missing => k_is)
    (case i_missing => k_is)
    (case l_missing => k_is)
    (case c_missing => k_is)
    (case k_missing => k_is)
    (case a_rows_missing => k_is)
    (case i_rows_missing => k_is)
    (case l_rows_missing => k_is)
    (case c_rows_missing => k_is)
    (case k_rows_missing => k_is)
    (case a_rows_of => k_is)
    (case i_rows_of => k_is)
    (case l_rows_of => k_is)
    (case c_rows_of => k_is)
    (case k_rows_of => k_is)
    (case a_places_by_dance => k_is)
    (case i_places_by_dance => k_is)
    (case l_places_by_dance => k_is)
    (case c_places_by_dance => k_is)
    (case k_places_by_dance => k_is)
    (case a_NO_SUCH => k_is)
    (case a_ROW_MISSING => k_is)
    (case a_NOT_AS_TOLD => k_is)
    (case a_START => k_is)
    (case a_MARK => k_is)
    (case a_DANCE => k_is)
    (case a_TOTAL => k_is)
    (case a_FINAL => k_is)
    (case a_MISSING => k_is)
    (case n_range => k_is)
    (case n_len => k_is)
    (case n_min => k_is)
    (case n_sorted => k_is)
    (case n_list => k_is)
    (case n_sum => k_is)
    (case n_any => k_is)
    (case pg => k_is)
    (case hd => k_is)
    (case po => k_is)
    (case sa => k_is)
    (case mk => k_is)
    (case kc => k_is)
    (case no_couples => k_is)
    (case no_judges => k_is)
    (case no_dances => k_is)
    (case no_rows => k_is)
  case S =>
    intro K H xs a hO hwi hask hx
    cases hx with
    | cons h1 h2 =>
      cases h2
      cases h1 with
      | lst hs ha =>
        have e := L2.ints_dw a.1 _ ha
        subst e
        have q : ((Codec.inLen 0 30000 a.1 && a.1.all (Codec.inInt 0 4294967295)) && true) = true := hwi
        rw [Bool.and_eq_true, Bool.and_eq_true] at q
        have hp : ∀ z ∈ a.1, 0 ≤ z := fun z hz => (Codec.inInt_iff.mp (List.all_eq_true.mp q.1.2 z hz)).1
        obtain ⟨xs, e1, e2, e3, e4⟩ := Dn.asked_read hp hask
        rw [e1] at hs
        exact ⟨_, xs, _, rfl, hs, e2, e3, e4, fun H' p hp => .lst (L2.SqL.of hp) (L2.dw_ints _)⟩
#print axioms PySem.Challenge.cw_dancejudged_s01_answers_holds
