import PyProof.Rows.All
import Wide.All
import OpenK.AllK
import Wide.FinOn
import PyProof.EqAt
import PyProof.EqKinds
import PyProof.TupleCall
import KE.BitLaws
import PyProof.StationsW
import PyProof.RulesTry
import PyProof.InstStoreFacts
import PyProof.ExcInit
import OpenK.KGet
import PyProof.ExcAttrAll.Exception
import OpenK.KMake
import PyProof.ExcClass3
import PyProof.RulesAs
import OpenK.KOwn
import Open.SpecLaws
import KE.OsHead
import KE.OsGo
import KE.KLam
import Sg51Spec
import PySem.Challenge.RW_setlines_s06_measure
set_option Elab.async false
set_option linter.all false
set_option maxRecDepth 100000
namespace L2
open PySem PySem.Spec PyProof.Rows
noncomputable abbrev Key := Sum Int Str
noncomputable def keyIs : Key → Value → Bool
  | .inl k, v => Value.isInt k v
  | .inr x, v => Value.isStrOf x v
noncomputable def keyH (w : World) : Key → Int
  | .inl k => hashInt k
  | .inr x => hashStr w x
theorem keyIs_shape : ∀ {k : Key} {v : Value}, keyIs k v = true → (∃ i t, k = Sum.inl i ∧ v = Value.int i t) ∨ (∃ x t, k = Sum.inr x ∧ v = Value.str x t)
  | .inl i, v, h => by
    obtain ⟨t, e⟩ := Value.isInt_shape (k := i) (v := v) h
    exact .inl ⟨i, t, rfl, e⟩
  | .inr x, v, h => by
    obtain ⟨t, e⟩ := Value.isStrOf_shape (x := x) (v := v) h
    exact .inr ⟨x, t, rfl, e⟩
theorem keyIs_int (i : Int) (t : Tok) : keyIs (.inl i) (.int i t) = true := by simp [keyIs, Value.isInt]
theorem keyIs_str (x : Str) (t : Tok) : keyIs (.inr x) (.str x t) = true := by simp [keyIs, Value.isStrOf]
theorem key_ll (a b : Int) : decide ((Sum.inl a : Key) = Sum.inl b) = (a == b) := by
  by_cases e : a = b
  · subst e; simp
  · have h : ¬ (Sum.inl a : Key) = Sum.inl b := fun q => e (Sum.inl.inj q)
    rw [decide_eq_false h]
    exact (beq_eq_false_iff_ne.mpr e).symm
theorem key_rr (a b : Str) : decide ((Sum.inr a : Key) = Sum.inr b) = decide (a = b) := by
  by_cases e : a = b
  · subst e; simp
  · have h : ¬ (Sum.inr a : Key) = Sum.inr b := fun q => e (Sum.inr.inj q)
    rw [decide_eq_false h, decide_eq_false e]
theorem key_lr (a : Int) (b : Str) : decide ((Sum.inl a : Key) = Sum.inr b) = false := decide_eq_false (fun q => nomatch q)
theorem key_rl (a : Str) (b : Int) : decide ((Sum.inr a : Key) = Sum.inl b) = false := decide_eq_false (fun q => nomatch q)
noncomputable def mixKind (prog : Program) (w : World) : PySem.KeyKind prog w Key where
  is := keyIs
  hash := keyH w
  inj := fun v a b ha hb => by
    rcases keyIs_shape ha with ⟨i, t, rfl, rfl⟩ | ⟨x, t, rfl, rfl⟩
    · rcases keyIs_shape hb with ⟨j, u, rfl, e⟩ | ⟨y, u, rfl, e⟩
      · injection e with e1 _; rw [e1]
      · exact nomatch e
    · rcases keyIs_shape hb with ⟨j, u, rfl, e⟩ | ⟨y, u, rfl, e⟩
      · exact nomatch e
      · injection e with e1 _; rw [e1]
  byValue := fun k v h => by
    rcases keyIs_shape h with ⟨i, t, rfl, rfl⟩ | ⟨x, t, rfl, rfl⟩ <;> rfl
  pyHash := fun hv h => by
    rcases keyIs_shape hv with ⟨i, t, rfl, rfl⟩ | ⟨x, t, rfl, rfl⟩
    · exact wpAny_pyHash_int h
    · exact wpAny_pyHash_str h
  eqBool := fun hu hv h => by
    rcases keyIs_shape hu with ⟨i, t, rfl, rfl⟩ | ⟨x, t, rfl, rfl⟩
    · rcases keyIs_shape hv with ⟨j, u, rfl, rfl⟩ | ⟨y, u, rfl, rfl⟩
      · rw [key_ll] at h; exact wpAny_eqBool_int h
      · rw [key_lr] at h; exact SeqAt.EqAt.int_str i t y u _ _ _ _ h
    · rcases keyIs_shape hv with ⟨j, u, rfl, rfl⟩ | ⟨y, u, rfl, rfl⟩
      · rw [key_rl] at h; exact SeqAt.EqAt.str_int x t j u _ _ _ _ h
      · rw [key_rr] at h; exact wpAny_eqBool_str h
  «strs» := fun k x t v h => by
    rcases keyIs_shape h with ⟨i, u, rfl, e⟩ | ⟨y, u, rfl, e⟩
    · exact nomatch e
    · injection e with e1 _
      subst e1
      cases v <;> rfl
theorem mixKind_int (prog : Program) (w : World) (i : Int) (t : Tok) : (mixKind prog w).is (.inl i) (.int i t) = true := keyIs_int i t
theorem mixKind_str (prog : Program) (w : World) (x : Str) (t : Tok) : (mixKind prog w).is (.inr x) (.str x t) = true := keyIs_str x t
end L2
namespace L2
open PySem PySem.Spec PyProof.Rows
inductive V where
  | non | bl (b : Bool) | int (i : Int) | str (x : Str) | byt (b : Array UInt8) | flt (b : UInt64) | ref (a : Addr) | ty (n : String)
  deriving DecidableEq
noncomputable def RelV : V → Value → Prop
  | .non, u => u = Value.none
  | .bl b, u => u = Value.bool b
  | .int i, u => ∃ t, u = Value.int i t
  | .str x, u => ∃ t, u = Value.str x t
  | .byt b, u => ∃ t, u = Value.bytes b t
  | .flt b, u => ∃ t, u = Value.float b t
  | .ref a, u => u = Value.ref a
  | .ty n, u => u = Value.type n
noncomputable abbrev Vals : List V → List Value → Prop := Paired RelV
theorem Vals.length {xs : List V} {us : List Value} (r : Vals xs us) : xs.length = us.length := Paired.length r
theorem Vals.get : ∀ {xs : List V} {us : List Value} {i : Nat} {x : V}, Vals xs us → xs[i]? = some x → ∃ u, us[i]? = some u ∧ RelV x u
  | _, _, _, _, .nil, e => by simp at e
  | _, _, 0, _, .cons r _, e => by simp at e; subst e; exact ⟨_, rfl, r⟩
  | _, _, i + 1, x, .cons _ t, e => by
    obtain ⟨u, h1, h2⟩ := Vals.get (i := i) (x := x) t (by simpa using e)
    exact ⟨u, by simpa using h1, h2⟩
theorem Vals.set {x : V} {u : Value} (r : RelV x u) : ∀ {xs : List V} {us : List Value} (i : Nat), Vals xs us → Vals (xs.set i x) (us.set i u)
  | _, _, _, .nil => .nil
  | _, _, 0, .cons _ t => .cons r t
  | _, _, i + 1, .cons q t => .cons q (Vals.set r i t)
theorem Vals.append : ∀ {xs ys : List V} {us ws : List Value}, Vals xs us → Vals ys ws → Vals (xs ++ ys) (us ++ ws)
  | _, _, _, _, .nil, s => s
  | _, _, _, _, .cons r t, s => .cons r (Vals.append t s)
theorem Vals.take : ∀ {xs : List V} {us : List Value} (n : Nat), Vals xs us → Vals (xs.take n) (us.take n)
  | _, _, 0, _ => .nil
  | _, _, _ + 1, .nil => .nil
  | _, _, n + 1, .cons r t => .cons r (Vals.take n t)
theorem Vals.drop : ∀ {xs : List V} {us : List Value} (n : Nat), Vals xs us → Vals (xs.drop n) (us.drop n)
  | _, _, 0, r => r
  | _, _, _ + 1, .nil => .nil
  | _, _, n + 1, .cons _ t => Vals.drop n t
theorem Vals.none_of : ∀ {xs : List V} {us : List Value} {i : Nat}, Vals xs us → xs[i]? = none → us[i]? = none := fun {xs us i} r e => by
  have h1 := r.length
  have h2 : xs.length ≤ i := List.getElem?_eq_none_iff.mp e
  exact List.getElem?_eq_none_iff.mpr (by omega)
noncomputable def RelO : Option V → Option Value → Prop
  | some v, some u => RelV v u
  | none, none => True
  | _, _ => False
noncomputable def KV {κ : Type} : List (κ × V) → List (κ × Value) → Prop := Paired fun (p : κ × V) (q : κ × Value) => p.1 = q.1 ∧ RelV p.2 q.2
noncomputable def kV : Key → V
  | .inl i => .int i
  | .inr x => .str x
inductive HO where
    | lst (xs : List V)
    | tup (xs : List V)
    | dK (kvs : List (Key × V)) | dT (kvs : List (List Key × V))
    | set (S : Int → Bool) (n : Nat)
    | ins (C dx : Addr) (fs : List (Str × V))
    | own (x : Addr)
    | xd (fs : List (Str × V))
    | met (f x : Addr)
    | rng (lo hi : Int)
    | frz (o : Obj) (u : HO)
    | tbl (ps : Array Value)
    | ext (φ : Heap → Prop)
noncomputable abbrev Hp := Addr → Option HO
noncomputable def upd (H : Hp) (a : Addr) (o : HO) : Hp := fun b => if b = a then some o else H b
theorem upd_same {H : Hp} {a : Addr} {o : HO} : upd H a o a = some o := by unfold upd; rw [if_pos rfl]
theorem upd_ne {H : Hp} {a b : Addr} {o : HO} (h : b ≠ a) : upd H a o b = H b := by unfold upd; rw [if_neg h]
theorem upd_upd {H : Hp} {a : Addr} {o u : HO} : upd (upd H a o) a u = upd H a u := by
  funext b; unfold upd; split <;> rfl
theorem ne_of {H : Hp} {a b : Addr} {o u : HO} (h : H a = some o) (h' : H b = some u) (d : o ≠ u) : a ≠ b := by
  intro e; subst e; rw [h] at h'; exact d (Option.some.inj h')
theorem ne_of_none {H : Hp} {a b : Addr} {o : HO} (h : H a = some o) (h' : H b = none) : a ≠ b := by
  intro e; subst e; rw [h] at h'; cases h'
section
variable (P : Program) (w : World)
noncomputable def ObjOk (H : Hp) (h : Heap) (a : Addr) : HO → Prop
  | .lst xs => xs.length ≤ sizeLine ∧ ∃ (its : List Value) (n : Nat), Vals xs its ∧ h.get? a = some { cls := .type "list", data := .seq its.toArray n }
  | .tup xs => xs.length ≤ sizeLine ∧ ∃ its : List Value, Vals xs its ∧ IsTup h a its.toArray
  | .dK kvs => kvs.length ≤ sizeLine ∧ (a == sysModules) = false ∧ ∃ vs, KV kvs vs ∧ h.DictOf (mixKind P w) a vs
  | .dT kvs => kvs.length ≤ sizeLine ∧ (a == sysModules) = false ∧ ∃ xs : List (List Key × Addr × Value),
      Paired (fun (p : List Key × V) (q : List Key × Addr × Value) => p.1 = q.1 ∧ H q.2.1 = some (.tup (p.1.map kV)) ∧ RelV p.2 q.2.2) kvs xs ∧
      ∃ o es ep, h.get? a = some o ∧ o.ExactDict ∧ o.data = .dict es ep ∧ es.toList = xs.map (entryOfKey (tupleKind (mixKind P w))) ∧ (xs.map (·.1)).Nodup
  | .set S n => h.SetOf (intKind P w) a S n
  | .ins C dx fs => H dx = some (.own a) ∧ fs.length ≤ 1000 ∧ dx ≠ a ∧ h.get? a = some (PySem.W.instObj C dx) ∧
      ∃ mA, h.Ns1 dx mA ∧ (∀ f, RelO (fs.lookup f) (mA f)) ∧ PySem.Within mA (fs.map (·.1))
  | .own _ => ∃ o, h.get? a = some o
  | .xd fs => ∃ mA, h.Ns1 a mA ∧ ∀ f, RelO (fs.lookup f) (mA f)
  | .rng lo hi => ∃ t u v, h.get? a = some { cls := .type "range", data := .fields #[.int lo t, .int hi u, .int 1 v] }
  | .frz o u => h.get? a = some o ∧ ObjOk H h a u
  | .tbl ps => h.get? a = some { cls := .none, data := .fields ps }
  | .met f x => h.get? a = some (PySem.W.methodObj (.ref f) (.ref x))
  | .ext φ => φ h ∧ (∃ o, h.get? a = some o) ∧ ∀ h1 h2 : Heap, φ h1 → (∀ o, h1.get? a = some o → h2.get? a = some o) → φ h2
noncomputable def HOk (H : Hp) (h : Heap) : Prop := ∀ a o, H a = some o → ObjOk P w H h a o
end
section
variable {P : Program} {w : World} {H H' : Hp} {h h' : Heap} {a : Addr} {o : HO}
theorem ObjOk.lt (x : ObjOk P w H h a o) : a < h.objs.size := by
  cases o with
  | lst xs => obtain ⟨_, _, _, _, e⟩ := x; exact Heap.lt_size e
  | tup xs => obtain ⟨_, _, _, p⟩ := x; exact p.lt
  | dK kvs => obtain ⟨_, _, _, _, o, _, _, e, _⟩ := x; exact Heap.lt_size e
  | dT kvs => obtain ⟨_, _, _, _, o, _, _, e, _⟩ := x; exact Heap.lt_size e
  | set S n => obtain ⟨o, _, _, _, e, _⟩ := x; exact Heap.lt_size e
  | ins C dx fs => obtain ⟨_, _, _, e, _⟩ := x; exact Heap.lt_size e
  | own y => obtain ⟨_, e⟩ := x; exact Heap.lt_size e
  | xd fs => obtain ⟨_, ⟨_, _, _, e, _⟩, _⟩ := x; exact Heap.lt_size e
  | rng lo hi => obtain ⟨_, _, _, e⟩ := x; exact Heap.lt_size e
  | frz ob u => obtain ⟨e, _⟩ := x; exact Heap.lt_size e
  | tbl ps => exact Heap.lt_size (show h.get? a = some _ from x)
  | met f y => exact Heap.lt_size (show h.get? a = some _ from x)
  | ext φ => obtain ⟨_, ⟨_, e⟩, _⟩ := x; exact Heap.lt_size e
theorem Paired.mapP {α β : Type} {F G : α → β → Prop} : ∀ {l₁ : List α} {l₂ : List β}, Paired F l₁ l₂ → (∀ a b, F a b → G a b) → Paired G l₁ l₂
  | _, _, .nil, _ => .nil
  | _, _, .cons r t, f => .cons (f _ _ r) (Paired.mapP t f)
theorem ObjOk.stay (x : ObjOk P w H h a o) (k : ∀ b u, (b = a ∨ H b = some (.own a)) → h.get? b = some u → h'.get? b = some u)
    (ho : ∀ b, H b = some (.own a) → H' b = some (.own a)) (ht : ∀ b xs, H b = some (.tup xs) → H' b = some (.tup xs)) : ObjOk P w H' h' a o := by
  induction o with
  | lst xs => obtain ⟨z, its, n, r, e⟩ := x; exact ⟨z, its, n, r, k _ _ (.inl rfl) e⟩
  | tup xs => obtain ⟨z, its, r, ob, e, c⟩ := x; exact ⟨z, its, r, ob, k _ _ (.inl rfl) e, c⟩
  | dK kvs => obtain ⟨z, y, vs, r, ob, es, ep, e, c⟩ := x; exact ⟨z, y, vs, r, ob, es, ep, k _ _ (.inl rfl) e, c⟩
  | dT kvs =>
    obtain ⟨z, y, xs, r, ob, es, ep, e, c⟩ := x
    exact ⟨z, y, xs, Paired.mapP r fun p q z => ⟨z.1, ht _ _ z.2.1, z.2.2⟩, ob, es, ep, k _ _ (.inl rfl) e, c⟩
  | set S n => obtain ⟨ob, es, ep, t, e, c⟩ := x; exact ⟨ob, es, ep, t, k _ _ (.inl rfl) e, c⟩
  | ins C dx fs =>
    obtain ⟨d, z, ne, e, mA, ⟨od, es, ep, e2, c⟩, r⟩ := x
    exact ⟨ho _ d, z, ne, k _ _ (.inl rfl) e, mA, ⟨od, es, ep, k _ _ (.inr d) e2, c⟩, r⟩
  | own y => obtain ⟨ob, e⟩ := x; exact ⟨ob, k _ _ (.inl rfl) e⟩
  | xd fs => obtain ⟨mA, ⟨od, es, ep, e, c⟩, r⟩ := x; exact ⟨mA, ⟨od, es, ep, k _ _ (.inl rfl) e, c⟩, r⟩
  | rng lo hi => obtain ⟨t, u, v, e⟩ := x; exact ⟨t, u, v, k _ _ (.inl rfl) e⟩
  | frz ob u ih => obtain ⟨e, q⟩ := x; exact ⟨k _ _ (.inl rfl) e, ih q⟩
  | tbl ps =>
    have e : h.get? a = some { cls := .none, data := .fields ps } := x
    show h'.get? a = some { cls := .none, data := .fields ps }
    exact k a _ (.inl rfl) e
  | met f y =>
    have e : h.get? a = some (PySem.W.methodObj (.ref f) (.ref y)) := x
    show h'.get? a = some (PySem.W.methodObj (.ref f) (.ref y))
    exact k a _ (.inl rfl) e
  | ext φ => obtain ⟨p, ⟨o, e⟩, st⟩ := x; exact ⟨st _ _ p fun o q => k _ _ (.inl rfl) q, ⟨o, k _ _ (.inl rfl) e⟩, st⟩
theorem HOk.lt (x : HOk P w H h) (e : H a = some o) : a < h.objs.size := (x a o e).lt
theorem HOk.fresh (x : HOk P w H h) (e : h.objs.size ≤ a) : H a = none := by
  cases q : H a with
  | none => rfl
  | some u => exact absurd (Nat.lt_of_lt_of_le (x.lt q) e) (Nat.lt_irrefl _)
theorem HOk.kept (x : HOk P w H h) (k : ∀ b u, h.get? b = some u → h'.get? b = some u) : HOk P w H h' := fun a o e =>
  (x a o e).stay (fun b u _ q => k b u q) (fun _ q => q) fun _ _ q => q
theorem HOk.laid (x : HOk P w H h) (k : ∀ b u, h.get? b = some u → h'.get? b = some u) (hp : h.objs.size ≤ a) (new : ObjOk P w (upd H a o) h' a o) : HOk P w (upd H a o) h' := fun b u e => by
  have hn := x.fresh hp
  by_cases hb : b = a
  · subst hb; rw [upd_same] at e; cases e; exact new
  · rw [upd_ne hb] at e
    exact (x b u e).stay (fun c v _ q => k c v q) (fun c q => by rw [upd_ne (ne_of_none q hn)]; exact q) fun c xs q => by rw [upd_ne (ne_of_none q hn)]; exact q
end
noncomputable def Rd (H : Hp) (a : Addr) (u : HO) : Prop := H a = some u ∨ ∃ o, H a = some (.frz o u)
theorem Rd.of {H : Hp} {a : Addr} {u : HO} (h : H a = some u) : Rd H a u := .inl h
theorem Rd.ok {P : Program} {w : World} {H : Hp} {h : Heap} {a : Addr} {u : HO} (r : Rd H a u) (x : HOk P w H h) : ObjOk P w H h a u := by
  rcases r with r | ⟨o, r⟩
  · exact x a u r
  · obtain ⟨_, q⟩ := x a _ r
    exact q
noncomputable def Mut : Option HO → Prop
  | some (.lst _) => True
  | some (.dK _) => True
  | some (.dT _) => True
  | some (.set _ _) => True
  | some (.ins _ _ _) => True
  | some (.ext _) => True
  | _ => False
section
variable {P : Program} {w : World} {H : Hp} {h h' : Heap} {x e : Addr} {o' : HO}
theorem HOk.write (ok : HOk P w H h) (mu : Mut (H x)) (he : e = x ∨ H e = some (.own x)) (k : ∀ b u, b ≠ e → h.get? b = some u → h'.get? b = some u) (heo : ∃ u, h'.get? e = some u)
    (new : ObjOk P w (upd H x o') h' x o') : HOk P w (upd H x o') h' := fun b u q => by
  have nown : ∀ c y, H c = some (.own y) → c ≠ x := fun c y r z => by subst z; rw [r] at mu; exact mu
  have ntup : ∀ c xs, H c = some (.tup xs) → c ≠ x := fun c xs r z => by subst z; rw [r] at mu; exact mu
  by_cases hb : b = x
  · subst hb; rw [upd_same] at q; cases q; exact new
  · rw [upd_ne hb] at q
    by_cases hbe : b = e
    · have q' : H b = some (.own x) := by
        rcases he with z | z
        · exact absurd (hbe.trans z) hb
        · rw [hbe]; exact z
      rw [q] at q'; cases q'
      obtain ⟨v, hv⟩ := heo
      exact ⟨v, by rw [hbe]; exact hv⟩
    · refine (ok b u q).stay (fun c v hc r => k c v ?_ r) (fun c r => by rw [upd_ne (nown c b r)]; exact r) fun c xs r => by rw [upd_ne (ntup c xs r)]; exact r
      rcases hc with rfl | hc
      · exact hbe
      · rintro rfl
        rcases he with z | z
        · exact nown c b hc z
        · rw [hc] at z; cases z; exact hb rfl
end
structure Un (fs ex : List Addr) (H H' : Hp) (h h' : Heap) : Prop where
  keep : ∀ b o, h.get? b = some o → H b = none → b ∉ fs → b ∉ ex → h'.get? b = some o
  slot : ∀ b o, h.get? b = some o → H b = none → b ∈ fs → b ∉ ex → ∃ sl, h'.get? b = some { o with slots := sl }
  free : ∀ b o, h.get? b = some o → H b = none → b ∉ ex → H' b = none
  there : ∀ b o, h.get? b = some o → b ∉ ex → ∃ o', h'.get? b = some o'
  tups : ∀ b xs, H b = some (.tup xs) → H' b = some (.tup xs)
  frzs : ∀ b o u, H b = some (.frz o u) → H' b = some (.frz o u)
  tbls : ∀ b ps, H b = some (.tbl ps) → ∃ more, H' b = some (.tbl (ps ++ more))
section
variable {fs fs' ex ex' : List Addr} {H H1 H2 : Hp} {h h1 h2 h' : Heap} {a x e : Addr} {o : HO}
theorem Un.any (u : Un fs ex H H1 h h1) {b : Addr} {ob : Obj} (q : h.get? b = some ob) (n : H b = none) (hx : b ∉ ex) : ∃ sl, h1.get? b = some { ob with slots := sl } := by
  by_cases hb : b ∈ fs
  · exact u.slot b ob q n hb hx
  · exact ⟨ob.slots, u.keep b ob q n hb hx⟩
theorem Un.trans (a : Un fs ex H H1 h h1) (b : Un fs ex H1 H2 h1 h2) : Un fs ex H H2 h h2 where
  keep := fun c ob q n hc hx => b.keep c ob (a.keep c ob q n hc hx) (a.free c ob q n hx) hc hx
  slot := fun c ob q n hc hx => by
    obtain ⟨sl, e1⟩ := a.slot c ob q n hc hx
    obtain ⟨sl', e2⟩ := b.slot c _ e1 (a.free c ob q n hx) hc hx
    exact ⟨sl', e2⟩
  free := fun c ob q n hx => by
    obtain ⟨o', e1⟩ := a.there c ob q hx
    exact b.free c o' e1 (a.free c ob q n hx) hx
  there := fun c ob q hx => by
    obtain ⟨o', e1⟩ := a.there c ob q hx
    exact b.there c o' e1 hx
  tups := fun c xs q => b.tups c xs (a.tups c xs q)
  frzs := fun c ob xs q => b.frzs c ob xs (a.frzs c ob xs q)
  tbls := fun c ps q => by
    obtain ⟨m1, e1⟩ := a.tbls c ps q
    obtain ⟨m2, e2⟩ := b.tbls c _ e1
    exact ⟨m1 ++ m2, by rw [e2, Array.append_assoc]⟩
theorem Un.kept (k : ∀ b u, h.get? b = some u → h'.get? b = some u) : Un fs ex H H h h' :=
  ⟨fun b ob q _ _ _ => k b ob q, fun b ob q _ _ _ => ⟨ob.slots, k b ob q⟩, fun _ _ _ n _ => n, fun b ob q _ => ⟨ob, k b ob q⟩, fun _ _ q => q, fun _ _ _ q => q, fun _ ps q => ⟨#[], by rw [q]; simp⟩⟩
theorem Un.refl : Un fs ex H H h h := Un.kept fun _ _ q => q
theorem Un.laid (k : ∀ b u, h.get? b = some u → h'.get? b = some u) (hp : h.objs.size ≤ a) (hn : H a = none) : Un fs ex H (upd H a o) h h' where
  keep := fun b u q _ _ _ => k b u q
  slot := fun b u q _ _ _ => ⟨u.slots, k b u q⟩
  free := fun b u q n _ => by rw [upd_ne (Nat.ne_of_lt (Nat.lt_of_lt_of_le (Heap.lt_size q) hp))]; exact n
  there := fun b u q _ => ⟨u, k b u q⟩
  tups := fun b xs q => by rw [upd_ne (ne_of_none q hn)]; exact q
  frzs := fun b u xs q => by rw [upd_ne (ne_of_none q hn)]; exact q
  tbls := fun b ps q => ⟨#[], by rw [upd_ne (ne_of_none q hn), q]; simp⟩
theorem Un.write (mu : Mut (H x)) (he : e = x ∨ H e = some (.own x)) (k : ∀ b u, b ≠ e → h.get? b = some u → h'.get? b = some u) (heo : ∃ u, h'.get? e = some u) : Un fs ex H (upd H x o) h h' := by
  have hx : ∀ b, H b = none → b ≠ x := fun b n z => by subst z; rw [n] at mu; exact mu
  have hb : ∀ b, H b = none → b ≠ e := fun b n z => by
    subst z
    rcases he with r | r
    · exact hx b n r
    · rw [n] at r; cases r
  have hm : ∀ b u, H b = some u → ¬ Mut (some u) → b ≠ x := fun b u q nm z => by subst z; rw [q] at mu; exact nm mu
  refine ⟨fun b u q n _ _ => k b u (hb b n) q, fun b u q n _ _ => ⟨u.slots, k b u (hb b n) q⟩, fun b u q n _ => by rw [upd_ne (hx b n)]; exact n, fun b u q _ => ?_,
    fun b xs q => by rw [upd_ne (hm b _ q fun z => z)]; exact q, fun b u xs q => by rw [upd_ne (hm b _ q fun z => z)]; exact q, fun b ps q => ⟨#[], by rw [upd_ne (hm b _ q fun z => z), q]; simp⟩⟩
  by_cases hbe : b = e
  · subst hbe; exact heo
  · exact ⟨u, k b u hbe q⟩
theorem Un.mono (u : Un fs ex H H1 h h1) (hs : ∀ b ∈ fs, b ∈ fs') (hx : ∀ b ∈ ex, b ∈ ex') : Un fs' ex' H H1 h h1 :=
  ⟨fun b ob q n hb he => u.keep b ob q n (fun z => hb (hs b z)) fun z => he (hx b z), fun _ _ q n _ he => u.any q n fun z => he (hx _ z), fun b ob q n he => u.free b ob q n fun z => he (hx b z), fun b ob q he => u.there b ob q fun z => he (hx b z), u.tups, u.frzs, u.tbls⟩
end
noncomputable def trk (h : Heap) (H : Hp) : List Addr := (List.range h.objs.size).filter fun a => (H a).isSome
noncomputable def hidT (h : Heap) (H : Hp) : Heap := PySem.W.hideAll h (trk h H)
theorem hidT_size (h : Heap) (H : Hp) : (hidT h H).objs.size = h.objs.size := PySem.W.hideAll_size _ _
theorem hidT_get {h : Heap} {H : Hp} {b : Addr} {o : Obj} (e : h.get? b = some o) (n : H b = none) : (hidT h H).get? b = some o :=
  PySem.W.hideAll_get _ e fun hm => by
    have q : (H b).isSome = true := (List.mem_filter.mp hm).2
    rw [n] at q; simp at q
theorem of_hidT {h : Heap} {H : Hp} {b : Addr} {o : Obj} (e : (hidT h H).get? b = some o) : h.get? b = some o ∧ H b = none := by
  have e' : h.get? b = some o := PySem.W.of_hideAll (trk h H) e
  refine ⟨e', ?_⟩
  cases q : H b with
  | none => rfl
  | some x =>
    have hm : b ∈ trk h H := List.mem_filter.mpr ⟨List.mem_range.mpr (Heap.lt_size e'), by simp [q]⟩
    have z : (hidT h H).get? b = none := PySem.W.hideAll_none (trk h H) hm
    rw [z] at e; cases e
noncomputable def allNews (g h : Heap) (L : Addr) : List (Addr × Obj) := (List.range h.objs.size).filterMap fun a => if a = L ∨ (g.get? a).isSome = true then none else (h.get? a).map fun o => (a, o)
noncomputable def rest (g h : Heap) (L d : Addr) : List (Addr × Obj) := (allNews g h L).filter fun p => decide (p.1 ≠ d)
end L2
namespace L2
open PySem PySem.Spec PyProof.Rows
structure Mod (K : PySem.W.Frag) (mg : Str → Option Value) (base : Heap) : Prop where
  kin : K.In base
  glob : base.Ns mainGlobals mg
  blt : ∃ mb, base.Ns builtinsNs mb ∧ ∀ x : Str, x ≠ "__name__" → mb x = bootBuiltins x
  nolimit : base.NoLimit
structure Cx where
  prog : Program
  w : World
  K : PySem.W.Frag
  mg : Str → Option Value
  base : Heap
  A : Around
  N : List Str
  s_0 : Shared
  H_0 : Hp
  env : Env
  outer : List Env
  stack : List Env
  ex : List Addr
  fn : Str → Bool
  calm : Bool
  pn : List (Addr × Obj)
  xe : Value → Shared → Prop
noncomputable def frs (l : List Env) : List Addr := l.filterMap (·.frame)
noncomputable abbrev Cx.fs (X : Cx) : List Addr := frs X.outer
noncomputable def Vis (sc : Scope) (x : Str) : Prop := sc.names.lookup x = some .local ∨ sc.names.lookup x = some .cell ∨ sc.names.lookup x = some .free
noncomputable def Loc (sc : Scope) (x : Str) : Prop := sc.names.lookup x = some .local ∨ sc.names.lookup x = some .cell
noncomputable def Look (env : Env) (h : Heap) (m : Str → Option Value) (x : Str) (u : Value) : Prop :=
  (env.kindOf x = some .local ∧ m x = some u) ∨ ((env.kindOf x = some .cell ∨ env.kindOf x = some .free) ∧ ∃ c, env.cells.lookup x = some c ∧ h.IsCell c (some u))
structure Cx.Ok (X : Cx) : Prop where
  mod : Mod X.K X.mg X.base
  kind : X.env.scope.kind = .function
  glob : X.env.globals = mainGlobals
  blt : X.env.builtins = builtinsNs
  above : X.s_0.heap.objs.size ≤ X.env.locals
  inj : ∀ x y c, X.env.cells.lookup x = some c → X.env.cells.lookup y = some c → x = y
  has : ∀ x, (X.env.kindOf x = some .cell ∨ X.env.kindOf x = some .free) → ∃ c, X.env.cells.lookup x = some c
  cab : ∀ x c, X.fn x = true → X.env.cells.lookup x = some c → X.s_0.heap.objs.size ≤ c
  hd : X.calm = true → X.A.handled = none
  frames : X.A.frames = some X.stack
  stk : X.stack = X.outer ∨ (X.stack = X.env :: X.outer ∧ X.env.frame = some X.env.locals)
  exf : ∀ b ∈ X.ex, b ≠ X.env.locals ∧ ∀ x c, X.env.cells.lookup x = some c → c ≠ b
  bs : ∀ b o, X.base.get? b = some o → X.s_0.heap.get? b = some o ∧ X.H_0 b = none
  bsz : X.base.objs.size ≤ X.s_0.heap.objs.size
  noex : ∀ b o, X.base.get? b = some o → b ∉ X.ex
  exfs : ∀ b ∈ X.ex, b ∉ X.fs
  funs : X.s_0.heap.FunFrames X.base X.outer
  frf : ∀ b ∈ X.fs, X.H_0 b = none
structure Inv (X : Cx) (pins : List (Addr × Obj)) (σ : List (Option V)) (H : Hp) (s : Shared) : Prop where
  ok : X.Ok
  os : s.os = X.s_0.os
  bare : AllBare s.gens
  base : Un X.fs X.ex X.H_0 H X.s_0.heap s.heap
  loc : ∃ m, s.heap.Ns X.env.locals m ∧ ∀ (i : Nat) (x : Str) (v : V), X.N[i]? = some x → σ[i]? = some (some v) → Vis X.env.scope x → ∃ u, RelV v u ∧ Look X.env s.heap m x u
  cell : ∀ x c, X.env.cells.lookup x = some c → ∃ v, s.heap.IsCell c v
  free : H X.env.locals = none
  freeC : ∀ x c, X.env.cells.lookup x = some c → H c = none
  pin : ∀ p ∈ X.pn ++ pins, s.heap.get? p.1 = some p.2 ∧ H p.1 = none ∧ p.1 ≠ X.env.locals ∧ p.1 ∉ X.fs ∧ ∀ v, p.2.data ≠ .cell v
  hok : HOk X.prog X.w H s.heap
  len : σ.length = X.N.length
section
variable {X : Cx} {pins : List (Addr × Obj)} {σ : List (Option V)} {H H' : Hp} {s : Shared} {h' : Heap}
theorem Cx.Ok.nofr (ok : X.Ok) {b : Addr} {o : Obj} (e : X.base.get? b = some o) : b ∉ X.fs := fun hb => by
  have := (ok.funs.mem hb).1
  rw [e] at this; cases this
theorem Inv.bs (I : Inv X pins σ H s) : ∀ b o, X.base.get? b = some o → s.heap.get? b = some o ∧ H b = none := fun b o e =>
  ⟨I.base.keep b o (I.ok.bs b o e).1 (I.ok.bs b o e).2 (I.ok.nofr e) (I.ok.noex b o e), I.base.free b o (I.ok.bs b o e).1 (I.ok.bs b o e).2 (I.ok.noex b o e)⟩
theorem Inv.bk (I : Inv X pins σ H s) : ∀ b o, X.base.get? b = some o → s.heap.get? b = some o := fun b o e => (I.bs b o e).1
theorem Inv.mod (I : Inv X pins σ H s) : Mod X.K X.mg X.base := I.ok.mod
theorem Inv.kIn (I : Inv X pins σ H s) : X.K.In s.heap := I.ok.mod.kin.keeps I.bk
theorem Inv.nolimit (I : Inv X pins σ H s) : s.heap.NoLimit := I.ok.mod.nolimit.keeps I.bk
theorem Inv.fr (I : Inv X pins σ H s) : ∃ m, Fr X.base X.env.locals s.heap m :=
  let ⟨m, hn, _⟩ := I.loc
  ⟨m, hn, I.bk, Nat.le_trans I.ok.bsz I.ok.above⟩
theorem Inv.lt (I : Inv X pins σ H s) : X.env.locals < s.heap.objs.size := let ⟨_, hn, _⟩ := I.loc; hn.lt
theorem Inv.sz (I : Inv X pins σ H s) : X.s_0.heap.objs.size ≤ s.heap.objs.size := Nat.le_trans I.ok.above (Nat.le_of_lt I.lt)
theorem Inv.nofs (I : Inv X pins σ H s) {a : Addr} (h : s.heap.objs.size ≤ a) : a ∉ X.fs := fun hb => by
  obtain ⟨_, o, ho, _⟩ := I.ok.funs.mem hb
  exact absurd (Nat.lt_of_lt_of_le (Heap.lt_size ho) (Nat.le_trans I.sz h)) (Nat.lt_irrefl _)
theorem Inv.cne (I : Inv X pins σ H s) : ∀ x c, X.env.cells.lookup x = some c → c ≠ X.env.locals := fun x c e z => by
  obtain ⟨v, o, ho, hd⟩ := I.cell x c e
  obtain ⟨m, ⟨o', es, ep, ho', hd', _⟩, _⟩ := I.loc
  rw [z, ho'] at ho; cases ho; rw [hd'] at hd; cases hd
theorem Inv.funs (I : Inv X pins σ H s) : s.heap.FunFrames X.base X.outer := by
  have all : ∀ (l : List Env), (∀ b ∈ frs l, b ∈ X.fs) → X.s_0.heap.FunFrames X.base l → s.heap.FunFrames X.base l := by
    intro l
    induction l with
    | nil => intro _ _; trivial
    | cons env r ih =>
      intro hs hl
      obtain ⟨hk, ⟨L, o, hf, hn, ho, hd⟩, hr⟩ := hl
      have hL : L ∈ X.fs := hs L (by unfold frs; rw [List.filterMap_cons, hf]; exact List.mem_cons_self)
      obtain ⟨sl, e⟩ := I.base.slot L o ho (I.ok.frf L hL) hL fun z => I.ok.exfs L z hL
      exact ⟨hk, ⟨L, _, hf, hn, e, hd⟩, ih (fun b hb => hs b (by unfold frs; rw [List.filterMap_cons, hf]; exact List.mem_cons_of_mem _ hb)) hr⟩
  exact all X.outer (fun _ hb => hb) I.ok.funs
theorem Inv.stack (I : Inv X pins σ H s) : s.heap.FunFrames X.base X.stack := by
  rcases I.ok.stk with e | ⟨e, hf⟩
  · rw [e]; exact I.funs
  · rw [e]
    obtain ⟨m, hn, _⟩ := I.loc
    refine .cons (by rw [I.ok.kind]; decide) hf hn ?_ I.funs
    exact Heap.get?_none_of_le (Nat.le_trans I.ok.bsz I.ok.above)
theorem Inv.stkSub (I : Inv X pins σ H s) : ∀ b ∈ frs X.stack, b ∈ X.env.locals :: X.fs := fun b hb => by
  rcases I.ok.stk with e | ⟨e, hf⟩
  · rw [e] at hb; exact List.mem_cons_of_mem _ hb
  · rw [e] at hb
    unfold frs at hb
    rw [List.filterMap_cons, hf] at hb
    exact hb
theorem Inv.stkFree (I : Inv X pins σ H s) : ∀ b ∈ frs X.stack, H b = none := fun b hb => by
  rcases List.mem_cons.mp (I.stkSub b hb) with e | hb
  · rw [e]; exact I.free
  · obtain ⟨_, o, ho, _⟩ := I.ok.funs.mem hb
    exact I.base.free b o ho (I.ok.frf b hb) fun z => I.ok.exfs b z hb
theorem Inv.step {g' : Array GenState} {t' : Nat} {d' : Drawn} {ch : List Addr} (I : Inv X pins σ H s)
    (hch : ∀ b ∈ ch, (b ∈ X.ex ∨ X.s_0.heap.objs.size ≤ b) ∧ b ≠ X.env.locals ∧ (∀ x c, X.env.cells.lookup x = some c → c ≠ b) ∧ ∀ p ∈ X.pn ++ pins, p.1 ≠ b)
    (keep : ∀ b o, b ≠ X.env.locals → b ∉ X.fs → b ∉ ch → s.heap.get? b = some o → H b = none → h'.get? b = some o)
    (slot : ∀ b o, b ≠ X.env.locals → b ∈ X.fs → b ∉ ch → s.heap.get? b = some o → H b = none → ∃ sl, h'.get? b = some { o with slots := sl }) (free : ∀ b o, b ∉ ch → s.heap.get? b = some o → H b = none → H' b = none)
    (there : ∀ b o, b ∉ ch → s.heap.get? b = some o → ∃ o', h'.get? b = some o')
    (tups : ∀ b xs, H b = some (.tup xs) → H' b = some (.tup xs)) (frzs : ∀ b o u, H b = some (.frz o u) → H' b = some (.frz o u)) (tbls : ∀ b ps, H b = some (.tbl ps) → ∃ more, H' b = some (.tbl (ps ++ more)))
    (ns : ∀ m, s.heap.Ns X.env.locals m → h'.Ns X.env.locals m) (hok : HOk X.prog X.w H' h') (hg : AllBare g') :
    Inv X pins σ H' { s with heap := h', gens := g', drawn := d', toks := t' } := by
  have neL : ∀ b o, X.s_0.heap.get? b = some o → b ≠ X.env.locals := fun b o e => Nat.ne_of_lt (Nat.lt_of_lt_of_le (Heap.lt_size e) I.ok.above)
  have neC : ∀ b o, X.s_0.heap.get? b = some o → b ∉ X.ex → b ∉ ch := fun b o e hx hb => by
    rcases (hch b hb).1 with z | z
    · exact hx z
    · exact absurd (Nat.lt_of_lt_of_le (Heap.lt_size e) z) (Nat.lt_irrefl _)
  have cellK : ∀ x c, X.env.cells.lookup x = some c → ∀ v, s.heap.IsCell c v → h'.IsCell c v := fun x c e v ⟨o, ho, hd⟩ => by
    have nch : c ∉ ch := fun z => (hch c z).2.2.1 x c e rfl
    by_cases hc : c ∈ X.fs
    · obtain ⟨sl, q⟩ := slot c o (I.cne x c e) hc nch ho (I.freeC x c e)
      exact ⟨_, q, hd⟩
    · exact ⟨o, keep c o (I.cne x c e) hc nch ho (I.freeC x c e), hd⟩
  refine ⟨I.ok, I.os, hg, ⟨fun b o e n hb hx => ?_, fun b o e n hb hx => ?_, fun b o e n hx => ?_, fun b o e hx => ?_, fun b xs e => tups b xs (I.base.tups b xs e), fun b o xs e => frzs b o xs (I.base.frzs b o xs e), fun b ps e => ?_⟩, ?_, fun x c e => ?_, ?_, fun x c e => ?_, fun p hp => ?_, hok, I.len⟩
  · exact keep b o (neL b o e) hb (neC b o e hx) (I.base.keep b o e n hb hx) (I.base.free b o e n hx)
  · obtain ⟨sl, e1⟩ := I.base.slot b o e n hb hx
    obtain ⟨sl', e2⟩ := slot b _ (neL b o e) hb (neC b o e hx) e1 (I.base.free b o e n hx)
    exact ⟨sl', e2⟩
  · obtain ⟨o', e1⟩ := I.base.there b o e hx
    exact free b o' (neC b o e hx) e1 (I.base.free b o e n hx)
  · obtain ⟨o', e1⟩ := I.base.there b o e hx
    exact there b o' (neC b o e hx) e1
  · obtain ⟨m1, e1⟩ := I.base.tbls b ps e
    obtain ⟨m2, e2⟩ := tbls b _ e1
    exact ⟨m1 ++ m2, by rw [e2, Array.append_assoc]⟩
  · obtain ⟨m, hn, hl⟩ := I.loc
    refine ⟨m, ns m hn, fun i x v e1 e2 e3 => ?_⟩
    obtain ⟨u, r, l⟩ := hl i x v e1 e2 e3
    refine ⟨u, r, ?_⟩
    rcases l with l | ⟨k, c, e, z⟩
    · exact .inl l
    · exact .inr ⟨k, c, e, cellK x c e _ z⟩
  · obtain ⟨v, z⟩ := I.cell x c e
    exact ⟨v, cellK x c e v z⟩
  · obtain ⟨m, ⟨o, _, _, ho, _⟩, _⟩ := I.loc
    exact free _ o (fun z => (hch _ z).2.1 rfl) ho I.free
  · obtain ⟨v, o, ho, hd⟩ := I.cell x c e
    exact free c o (fun z => (hch c z).2.2.1 x c e rfl) ho (I.freeC x c e)
  · obtain ⟨e, n, ne, nf, d⟩ := I.pin p hp
    have nch : p.1 ∉ ch := fun z => (hch p.1 z).2.2.2 p hp rfl
    exact ⟨keep p.1 p.2 ne nf nch e n, free p.1 p.2 nch e n, ne, nf, d⟩
theorem Inv.un {t' : Nat} (I : Inv X pins σ H s) (u : Un X.fs [] H H' s.heap h') (hok : HOk X.prog X.w H' h') : Inv X pins σ H' { s with heap := h', toks := t' } := by
  obtain ⟨m, ⟨o, es, ep, ho, r⟩, _⟩ := id I.loc
  obtain ⟨sl, hL⟩ := u.any ho I.free (by simp)
  exact I.step (g' := s.gens) (d' := s.drawn) (ch := []) (fun _ z => nomatch z) (fun b o _ hb _ e n => u.keep b o e n hb (by simp)) (fun b o _ hb _ e n => u.slot b o e n hb (by simp)) (fun b o _ e n => u.free b o e n (by simp)) (fun b o _ e => u.there b o e (by simp)) u.tups u.frzs u.tbls (fun m' hm => by
    obtain ⟨o', es', ep', ho', r'⟩ := hm
    rw [ho] at ho'; cases ho'
    exact ⟨_, es', ep', hL, r'⟩) hok I.bare
theorem Inv.call {g' : Array GenState} {t' : Nat} {d' : Drawn} {ch : List Addr} (I : Inv X pins σ H s) (u : Un (frs X.stack) ch H H' s.heap h') (hok : HOk X.prog X.w H' h') (hg : AllBare g')
    (hch : ∀ b ∈ ch, (b ∈ X.ex ∨ X.s_0.heap.objs.size ≤ b) ∧ b ≠ X.env.locals ∧ (∀ x c, X.env.cells.lookup x = some c → c ≠ b) ∧ ∀ p ∈ X.pn ++ pins, p.1 ≠ b) :
    Inv X pins σ H' { s with heap := h', gens := g', drawn := d', toks := t' } := by
  obtain ⟨m, ⟨o, es, ep, ho, r⟩, _⟩ := id I.loc
  obtain ⟨sl, hL⟩ := u.any ho I.free fun z => (hch _ z).2.1 rfl
  exact I.step (ch := ch) hch (fun b o hL hb hc e n => u.keep b o e n (fun z => (List.mem_cons.mp (I.stkSub b z)).elim hL hb) hc) (fun b o _ _ hc e n => u.any e n hc) (fun b o hc e n => u.free b o e n hc) (fun b o hc e => u.there b o e hc) u.tups u.frzs u.tbls (fun m' hm => by
    obtain ⟨o', es', ep', ho', r'⟩ := hm
    rw [ho] at ho'; cases ho'
    exact ⟨_, es', ep', hL, r'⟩) hok hg
theorem Inv.turned {t' : Nat} {it : Addr} (I : Inv X pins σ H s) (k : ∀ b o, b ≠ it → s.heap.get? b = some o → h'.get? b = some o) (hn : H it = none) (hL : it ≠ X.env.locals)
    (h1 : it ∈ X.ex ∨ X.s_0.heap.objs.size ≤ it) (h2 : ∀ x c, X.env.cells.lookup x = some c → c ≠ it) (h3 : ∀ p ∈ X.pn ++ pins, p.1 ≠ it) : Inv X pins σ H { s with heap := h', toks := t' } := by
  have nit : ∀ b u, H b = some u → b ≠ it := fun b u e z => by rw [z, hn] at e; cases e
  refine I.step (g' := s.gens) (d' := s.drawn) (ch := [it]) (fun b hb => ?_) (fun b o _ _ hc e _ => k b o (fun z => hc (by simp [z])) e) (fun b o _ _ hc e _ => ⟨o.slots, k b o (fun z => hc (by simp [z])) e⟩) (fun _ _ _ _ n => n)
    (fun b o hc e => ⟨o, k b o (fun z => hc (by simp [z])) e⟩) (fun _ _ e => e) (fun _ _ _ e => e) (fun b ps e => ⟨#[], by rw [e]; simp⟩) (fun m hm => ?_) (fun b u e => ?_) I.bare
  · have e : b = it := by simpa using hb
    subst e
    exact ⟨h1, hL, h2, h3⟩
  · obtain ⟨o, es, ep, ho, r⟩ := hm
    exact ⟨o, es, ep, k _ o (Ne.symm hL) ho, r⟩
  · refine (I.hok b u e).stay (fun c v hc q => k c v ?_ q) (fun _ q => q) fun _ _ q => q
    rcases hc with z | z
    · rw [z]; exact nit b u e
    · exact nit c _ z
theorem Inv.tok (I : Inv X pins σ H s) (t : Nat) : Inv X pins σ H { s with toks := t } := I.un (h' := s.heap) (t' := t) Un.refl I.hok
theorem Inv.kept {t' : Nat} (I : Inv X pins σ H s) (k : ∀ b u, s.heap.get? b = some u → h'.get? b = some u) : Inv X pins σ H { s with heap := h', toks := t' } := I.un (Un.kept k) (I.hok.kept k)
theorem Inv.laid {a : Addr} {o : HO} {t' : Nat} (I : Inv X pins σ H s) (k : ∀ b u, s.heap.get? b = some u → h'.get? b = some u) (hp : s.heap.objs.size ≤ a) (new : ObjOk X.prog X.w (upd H a o) h' a o) :
    Inv X pins σ (upd H a o) { s with heap := h', toks := t' } := I.un (Un.laid k hp (I.hok.fresh hp)) (I.hok.laid k hp new)
theorem Inv.write {x e : Addr} {o : HO} {t' : Nat} (I : Inv X pins σ H s) (mu : Mut (H x)) (he : e = x ∨ H e = some (.own x)) (k : ∀ b u, b ≠ e → s.heap.get? b = some u → h'.get? b = some u) (heo : ∃ u, h'.get? e = some u)
    (new : ObjOk X.prog X.w (upd H x o) h' x o) : Inv X pins σ (upd H x o) { s with heap := h', toks := t' } := I.un (Un.write mu he k heo) (I.hok.write mu he k heo new)
theorem Inv.weak {σ' : List (Option V)} (I : Inv X pins σ H s) (hl : σ'.length = σ.length) (w : ∀ (i : Nat) v, σ'[i]? = some (some v) → σ[i]? = some (some v)) : Inv X pins σ' H s :=
  ⟨I.ok, I.os, I.bare, I.base, let ⟨m, hn, hl'⟩ := I.loc; ⟨m, hn, fun i x v e1 e2 e3 => hl' i x v e1 (w i v e2) e3⟩, I.cell, I.free, I.freeC, I.pin, I.hok, hl.trans I.len⟩
theorem Inv.pins_of {pins' : List (Addr × Obj)} (I : Inv X pins σ H s) (h : ∀ p ∈ pins', s.heap.get? p.1 = some p.2 ∧ H p.1 = none ∧ p.1 ≠ X.env.locals ∧ p.1 ∉ X.fs ∧ ∀ v, p.2.data ≠ .cell v) : Inv X pins' σ H s :=
  ⟨I.ok, I.os, I.bare, I.base, I.loc, I.cell, I.free, I.freeC, fun p hp => (List.mem_append.mp hp).elim (fun z => I.pin p (List.mem_append_left _ z)) (h p), I.hok, I.len⟩
theorem nodup_ix {N : List Str} (hN : N.Nodup) {i j : Nat} {x : Str} (a : N[i]? = some x) (b : N[j]? = some x) : i = j := by
  obtain ⟨h1, e1⟩ := List.getElem?_eq_some_iff.mp a
  obtain ⟨h2, e2⟩ := List.getElem?_eq_some_iff.mp b
  exact (List.getElem_inj hN).mp (e1.trans e2.symm)
theorem store_ok2 {M : Model} {A : Around} {E : Value → Shared → Prop} {i : Nat} {x : Str} {v : V} {u : Value} {Q : Unit → Shared → Prop} (I : Inv X pins σ H s) (hN : X.N.Nodup) (hi : X.N[i]? = some x) (hx : Loc X.env.scope x) (r : RelV v u)
    (h : ∀ s', Inv X pins (σ.set i (some v)) H s' → (∃ a, Heap.SameBut a s.heap s'.heap ∧ (a = X.env.locals ∨ X.env.cells.lookup x = some a)) → Q () s') (hf : X.fn x = true ∨ X.env.scope.names.lookup x = some .local := by first | exact .inl rfl | exact .inr rfl | assumption) : wpAny M A (storeName X.env x u) Q E s := by
  obtain ⟨m, hn, hl⟩ := id I.loc
  have hcls : (X.env.scope.kind == .class || (X.env.scope.kind == .module && X.env.locals != X.env.globals)) = false := by rw [I.ok.kind]; rfl
  have hiσ : i < σ.length := by rw [I.len]; exact (List.getElem?_eq_some_iff.mp hi).1
  have cne := I.cne
  have tracked : ∀ {a : Addr} {h' : Heap}, (∃ o, s.heap.get? a = some o ∧ H a = none) → Heap.SameBut a s.heap h' → HOk X.prog X.w H h' := fun {a h'} ha hs b ob e => by
    obtain ⟨_, _, hfree⟩ := ha
    refine (I.hok b ob e).stay (fun c w' hc q => (hs.2 c ?_).trans q) (fun _ q => q) fun _ _ q => q
    rintro rfl
    rcases hc with rfl | hc
    · rw [hfree] at e; cases e
    · rw [hfree] at hc; cases hc
  rcases hx with hk | hk
  · refine wpAny_storeName_local hk hn (fun h' hn' hs => ?_) hcls
    obtain ⟨oL, _, _, hoL, _⟩ := id hn
    refine h _ ⟨I.ok, I.os, I.bare, ⟨fun b o e n hb hx => ?_, fun b o e n hb hx => ?_, I.base.free, fun b o e hx => ?_, I.base.tups, I.base.frzs, I.base.tbls⟩, ⟨_, hn', fun j y v' e1 e2 e3 => ?_⟩, fun y c e => ?_, I.free, I.freeC, fun p hp => ?_, tracked ⟨oL, hoL, I.free⟩ hs, by simpa using I.len⟩ ⟨_, hs, .inl rfl⟩
    · exact (hs.2 b (Nat.ne_of_lt (Nat.lt_of_lt_of_le (Heap.lt_size e) I.ok.above))).trans (I.base.keep b o e n hb hx)
    · obtain ⟨sl, e1⟩ := I.base.slot b o e n hb hx
      exact ⟨sl, (hs.2 b (Nat.ne_of_lt (Nat.lt_of_lt_of_le (Heap.lt_size e) I.ok.above))).trans e1⟩
    · obtain ⟨o', e1⟩ := I.base.there b o e hx
      exact ⟨o', (hs.2 b (Nat.ne_of_lt (Nat.lt_of_lt_of_le (Heap.lt_size e) I.ok.above))).trans e1⟩
    · by_cases hj : j = i
      · subst hj
        rw [hi] at e1; cases e1
        rw [List.getElem?_set_self hiσ] at e2
        cases e2
        exact ⟨u, r, .inl ⟨hk, by simp⟩⟩
      · rw [List.getElem?_set_ne (Ne.symm hj)] at e2
        obtain ⟨u', r', q⟩ := hl j y v' e1 e2 e3
        refine ⟨u', r', ?_⟩
        rcases q with ⟨k, e⟩ | ⟨k, c, e, z⟩
        · refine .inl ⟨k, ?_⟩
          have : y ≠ x := fun e => hj (nodup_ix hN e1 (e ▸ hi))
          simp [this, e]
        · exact .inr ⟨k, c, e, z.sameBut hs (cne y c e)⟩
    · obtain ⟨w', z⟩ := I.cell y c e
      exact ⟨w', z.sameBut hs (cne y c e)⟩
    · obtain ⟨e, n, ne, nf, d⟩ := I.pin p hp
      exact ⟨(hs.2 p.1 ne).trans e, n, ne, nf, d⟩
  · have hfn : X.fn x = true := by
      rcases hf with z | z
      · exact z
      · rw [z] at hk; cases hk
    obtain ⟨c, hc⟩ := I.ok.has x (.inl hk)
    obtain ⟨w', z⟩ := I.cell x c hc
    refine wpAny_storeName_cell I.ok.kind hk hc z (fun h' hc' hs => ?_)
    obtain ⟨oc, hoc, hocd⟩ := id z
    refine h { s with heap := h' } ⟨I.ok, I.os, I.bare, ⟨fun b o e n hb hx => ?_, fun b o e n hb hx => ?_, I.base.free, fun b o e hx => ?_, I.base.tups, I.base.frzs, I.base.tbls⟩, ⟨m, hn.sameBut hs (Ne.symm (cne x c hc)), fun j y v' e1 e2 e3 => ?_⟩, fun y c' e => ?_, I.free, I.freeC, fun p hp => ?_, tracked ⟨oc, hoc, I.freeC x c hc⟩ hs, by simpa using I.len⟩ ⟨c, hs, .inr hc⟩
    · exact (hs.2 b (Nat.ne_of_lt (Nat.lt_of_lt_of_le (Heap.lt_size e) (I.ok.cab x c hfn hc)))).trans (I.base.keep b o e n hb hx)
    · obtain ⟨sl, e1⟩ := I.base.slot b o e n hb hx
      exact ⟨sl, (hs.2 b (Nat.ne_of_lt (Nat.lt_of_lt_of_le (Heap.lt_size e) (I.ok.cab x c hfn hc)))).trans e1⟩
    · obtain ⟨o', e1⟩ := I.base.there b o e hx
      exact ⟨o', (hs.2 b (Nat.ne_of_lt (Nat.lt_of_lt_of_le (Heap.lt_size e) (I.ok.cab x c hfn hc)))).trans e1⟩
    · by_cases hj : j = i
      · subst hj
        rw [hi] at e1; cases e1
        rw [List.getElem?_set_self hiσ] at e2
        cases e2
        exact ⟨u, r, .inr ⟨.inl hk, c, hc, hc'⟩⟩
      · rw [List.getElem?_set_ne (Ne.symm hj)] at e2
        obtain ⟨u', r', q⟩ := hl j y v' e1 e2 e3
        refine ⟨u', r', ?_⟩
        rcases q with q | ⟨k, c', e, z'⟩
        · exact .inl q
        · refine .inr ⟨k, c', e, z'.sameBut hs ?_⟩
          rintro rfl
          exact hj (nodup_ix hN e1 (I.ok.inj _ _ _ e hc ▸ hi))
    · by_cases hcc : c' = c
      · subst hcc; exact ⟨_, hc'⟩
      · obtain ⟨w2, z2⟩ := I.cell y c' e
        exact ⟨w2, z2.sameBut hs hcc⟩
    · obtain ⟨e, n, ne, nf, d⟩ := I.pin p hp
      refine ⟨(hs.2 p.1 ?_).trans e, n, ne, nf, d⟩
      intro q
      rw [q, hoc] at e
      have q' : oc = p.2 := Option.some.inj e
      exact d w' (by rw [← q']; exact hocd)
theorem store_ok {M : Model} {A : Around} {E : Value → Shared → Prop} {i : Nat} {x : Str} {v : V} {u : Value} {Q : Unit → Shared → Prop} (I : Inv X pins σ H s) (hN : X.N.Nodup) (hi : X.N[i]? = some x) (hx : Loc X.env.scope x) (r : RelV v u)
    (h : ∀ s', Inv X pins (σ.set i (some v)) H s' → Q () s') (hf : X.fn x = true ∨ X.env.scope.names.lookup x = some .local := by first | exact .inl rfl | exact .inr rfl | assumption) : wpAny M A (storeName X.env x u) Q E s :=
  store_ok2 I hN hi hx r (fun s' I' _ => h s' I') hf
theorem Inv.call' {s' : Shared} {ch : List Addr} (I : Inv X pins σ H s) (ho : s'.os = s.os) (u : Un (frs X.stack) ch H H' s.heap s'.heap) (hok : HOk X.prog X.w H' s'.heap) (hg : AllBare s'.gens)
    (hch : ∀ b ∈ ch, (b ∈ X.ex ∨ X.s_0.heap.objs.size ≤ b) ∧ b ≠ X.env.locals ∧ (∀ x c, X.env.cells.lookup x = some c → c ≠ b) ∧ ∀ p ∈ X.pn ++ pins, p.1 ≠ b) : Inv X pins σ H' s' := by
  obtain ⟨h', g', d', t', o'⟩ := s'
  have e : o' = s.os := ho
  subst e
  exact I.call (g' := g') (t' := t') (d' := d') u hok hg hch
end
noncomputable abbrev XK := Value → Option Addr → Hp → Prop
noncomputable abbrev St := List (Option V)
noncomputable abbrev VK := V → Hp → Prop
noncomputable abbrev TE := St → Hp → VK → Prop
noncomputable abbrev TT := St → Hp → (Bool → Hp → Prop) → Prop
noncomputable abbrev TA := St → Hp → (List V → Hp → Prop) → Prop
structure Ends where
  nx : St → Hp → Prop
  rt : VK
  bk : St → Hp → Prop := fun _ _ => False
  ct : St → Hp → Prop := fun _ _ => False
noncomputable abbrev TS := Ends → St → Hp → Prop
noncomputable def EP (X : Cx) (pins : List (Addr × Obj)) (σ : St) (Q : VK) (u : Value) (s' : Shared) : Prop := ∃ v H', Inv X pins σ H' s' ∧ RelV v u ∧ Q v H'
noncomputable def TP (X : Cx) (pins : List (Addr × Obj)) (σ : St) (Q : Bool → Hp → Prop) (b : Bool) (s' : Shared) : Prop := ∃ H', Inv X pins σ H' s' ∧ Q b H'
noncomputable def AP (X : Cx) (pins : List (Addr × Obj)) (σ : St) (Q : List V → Hp → Prop) (us : List Value) (s' : Shared) : Prop := ∃ vs H', Inv X pins σ H' s' ∧ Vals vs us ∧ Q vs H'
noncomputable def SP (X : Cx) (pins : List (Addr × Obj)) (D : Ends) (f : Flow) (s' : Shared) : Prop :=
  match f with
  | .next => ∃ σ' H', Inv X pins σ' H' s' ∧ D.nx σ' H'
  | .brk => ∃ σ' H', Inv X pins σ' H' s' ∧ D.bk σ' H'
  | .cont => ∃ σ' H', Inv X pins σ' H' s' ∧ D.ct σ' H'
  | .ret u => ∃ v σ' H', Inv X pins σ' H' s' ∧ RelV v u ∧ D.rt v H'
noncomputable def PE (X : Cx) (e : Expr) (t : TE) : Prop :=
  ∀ (pins : List (Addr × Obj)) (s : Shared) (σ : St) (H : Hp) (Q : VK), Inv X pins σ H s → t σ H Q → wpAny (model X.prog X.w) X.A (eval e X.env) (EP X pins σ Q) X.xe s
noncomputable def PT (X : Cx) (e : Expr) (t : TT) : Prop :=
  ∀ (pins : List (Addr × Obj)) (s : Shared) (σ : St) (H : Hp) (Q : Bool → Hp → Prop), Inv X pins σ H s → t σ H Q → wpAny (model X.prog X.w) X.A (isTrue e X.env (eval e X.env)) (TP X pins σ Q) X.xe s
noncomputable def PW (X : Cx) (e : Expr) (t : TT) : Prop :=
  ∀ (whole : Sem Value) (pins : List (Addr × Obj)) (s : Shared) (σ : St) (H : Hp) (Q : Bool → Hp → Prop), Inv X pins σ H s → t σ H Q → wpAny (model X.prog X.w) X.A (isTrue e X.env whole) (TP X pins σ Q) X.xe s
theorem PW.pt {X : Cx} {e : Expr} {t : TT} (h : PW X e t) : PT X e t := h _
noncomputable def PA (X : Cx) (es : List Expr) (t : TA) : Prop :=
  ∀ (pos : Pos) (pins : List (Addr × Obj)) (s : Shared) (σ : St) (H : Hp) (Q : List V → Hp → Prop), Inv X pins σ H s → t σ H Q → wpAny (model X.prog X.w) X.A (spliced (backTo pos (starEach es X.env))) (AP X pins σ Q) X.xe s
noncomputable def PS (X : Cx) (st : Stmt) (t : TS) : Prop :=
  ∀ (pins : List (Addr × Obj)) (s : Shared) (σ : St) (H : Hp) (D : Ends), Inv X pins σ H s → t D σ H → wpAny (model X.prog X.w) X.A (exec st X.env) (SP X pins D) X.xe s
noncomputable def PSs (X : Cx) (st : List Stmt) (t : TS) : Prop :=
  ∀ (pins : List (Addr × Obj)) (s : Shared) (σ : St) (H : Hp) (D : Ends), Inv X pins σ H s → t D σ H → wpAny (model X.prog X.w) X.A (execs st X.env) (SP X pins D) X.xe s
theorem thn {α : Type} {t : Sem α} {Q Q' : α → Shared → Prop} {M : Model} {A : Around} {E : Value → Shared → Prop} {s : Shared} (h : wpAny M A t Q E s) (hQ : ∀ a s, Q a s → Q' a s) : wpAny M A t Q' E s := wpAny_mono h hQ fun _ _ x => x
end L2
namespace L2
open PySem PySem.Spec PyProof.Rows
section
variable {X : Cx}
theorem bin {a b : Expr} {ta tb : TE} (ha : PE X a ta) (hb : PE X b tb) {pins : List (Addr × Obj)} {s : Shared} {σ : St} {H : Hp} {R : V → V → Hp → Prop} (I : Inv X pins σ H s) (h : ta σ H fun x H1 => tb σ H1 fun y H2 => R x y H2)
    {α : Type} {Q : α → Shared → Prop} {f : Value → Value → Sem α}
    (hf : ∀ v u s2 x y H2, Inv X pins σ H2 s2 → RelV x v → RelV y u → R x y H2 → wpAny (model X.prog X.w) X.A (f v u) Q X.xe s2) :
    wpAny (model X.prog X.w) X.A (eval a X.env) (fun v s₁ => wpAny (model X.prog X.w) X.A (eval b X.env) (fun u s₂ => wpAny (model X.prog X.w) X.A (f v u) Q X.xe s₂) X.xe s₁) X.xe s := by
  refine thn (ha pins s σ H _ I h) fun v s1 ⟨x, H1, I1, r1, q1⟩ => ?_
  refine thn (hb pins s1 σ H1 _ I1 q1) fun u s2 ⟨y, H2, I2, r2, q2⟩ => ?_
  exact hf v u s2 x y H2 I2 r1 r2 q2
inductive VarP (Q : VK) (H : Hp) (o : Option (Option V)) : Prop
  | mk : ∀ v, o = some (some v) → Q v H → VarP Q H o
noncomputable def tVar (i : Nat) : TE := fun σ H Q => VarP Q H σ[i]?
noncomputable def tC (v : V) : TE := fun _ H Q => Q v H
theorem pe_var {i : Nat} {x : Str} {pos : Pos} (hN : X.N[i]? = some x) (hv : Vis X.env.scope x) (hd : (x == ("__debug__" : Str)) = false := by decide) (hcd : (x == ("__classdict__" : Str)) = false := by decide) : PE X (.Name x pos) (tVar i) := by
  intro pins s σ H Q I h
  obtain ⟨v, e, h⟩ := h
  obtain ⟨m, hn, hl⟩ := I.loc
  obtain ⟨u, r, l⟩ := hl i x v hN e hv
  have fin : EP X pins σ Q u s := ⟨v, H, I, r, h⟩
  rcases l with ⟨hk, hm⟩ | ⟨hk, c, hc, hcell⟩
  · exact wpAny_Name (wpAny_loadName_local I.ok.kind hk hn hm fin) hd
  · rcases hk with hk | hk
    · exact wpAny_Name (wpAny_loadName_cell I.ok.kind hk hc hcell fin) hd
    · exact wpAny_Name (wpAny_loadName_free I.ok.kind hk hc hcell fin hcd) hd
theorem pe_int {i j pos} : PE X (.Constant (.int i) j pos) (tC (.int i)) := fun _ _ _ H _ I h => wpAny_Constant_int ⟨.int i, H, I.tok _, ⟨_, rfl⟩, h⟩
theorem pe_bl {b j pos} : PE X (.Constant (.bool b) j pos) (tC (.bl b)) := fun _ _ _ H _ I h => Constant_bool ⟨.bl b, H, I, rfl, h⟩
theorem pe_non {j pos} : PE X (.Constant .none j pos) (tC .non) := fun _ _ _ H _ I h => Constant_none ⟨.non, H, I, rfl, h⟩
noncomputable def Gl (X : Cx) (x : Str) : Prop := X.env.kindOf x = some .globalImplicit
theorem ld_glob {E : Value → Shared → Prop} {pins : List (Addr × Obj)} {s : Shared} {σ : St} {H : Hp} {x : Str} {u : Value} {pos : Pos} {Q : Value → Shared → Prop} (I : Inv X pins σ H s) (hg : Gl X x) (hm : X.mg x = some u) (h : Q u s)
    (hd : (x == ("__debug__" : Str)) = false := by decide) : wpAny (model X.prog X.w) X.A (eval (.Name x pos) X.env) Q E s :=
  Calls.Name_function_global I.ok.kind hg (Calls.loadGlobal_global (by rw [I.ok.glob]; exact I.mod.glob.keeps I.bk) hm h) hd
theorem ld_blt {E : Value → Shared → Prop} {pins : List (Addr × Obj)} {s : Shared} {σ : St} {H : Hp} {x : Str} {u : Value} {pos : Pos} {Q : Value → Shared → Prop} (I : Inv X pins σ H s) (hg : Gl X x) (hm : X.mg x = none) (hv : bootBuiltins x = some u) (h : Q u s)
    (hn : x ≠ "__name__" := by decide) (hd : (x == ("__debug__" : Str)) = false := by decide) : wpAny (model X.prog X.w) X.A (eval (.Name x pos) X.env) Q E s := by
  obtain ⟨mb, h1, h2⟩ := I.mod.blt
  exact Calls.Name_function_global I.ok.kind hg (Calls.loadGlobal_builtin (by rw [I.ok.glob]; exact I.mod.glob.keeps I.bk) hm (by rw [I.ok.blt]; exact h1.keeps I.bk) ((h2 x hn).trans hv) h) hd
theorem pe_glob {x : Str} {v : V} {u : Value} {pos : Pos} (hg : Gl X x) (hm : X.mg x = some u) (r : RelV v u) (hd : (x == ("__debug__" : Str)) = false := by decide) : PE X (.Name x pos) (tC v) :=
  fun _ _ _ H _ I h => ld_glob I hg hm ⟨v, H, I, r, h⟩ hd
variable {a b : Expr} {ta tb : TE} {pos : Pos}
noncomputable def PC (X : Cx) (op : CmpOp) (a b : Expr) (t : TE) : Prop :=
  ∀ (pins : List (Addr × Obj)) (s : Shared) (σ : St) (H : Hp) (Q : VK), Inv X pins σ H s → t σ H Q →
    wpAny (model X.prog X.w) X.A (eval a X.env) (fun v s₁ => wpAny (model X.prog X.w) X.A (eval b X.env) (fun u s₂ => wpAny (model X.prog X.w) X.A (compareOp op v u) (EP X pins σ Q) X.xe s₂) X.xe s₁) X.xe s
theorem nobehind (b : Expr) {op : CmpOp} (h : op ≠ .In) (h2 : op ≠ .NotIn) : behindInMarks op b = false := by
  have e1 : (op == CmpOp.In) = false := by cases op <;> first | rfl | exact absurd rfl h
  have e2 : (op == CmpOp.NotIn) = false := by cases op <;> first | rfl | exact absurd rfl h2
  cases b <;> simp [behindInMarks, e1, e2]
inductive BoolP (Q : Bool → Hp → Prop) (x : V) (H : Hp) : Prop
  | mk : ∀ c, x = .bl c → Q c H → BoolP Q x H
noncomputable def tB (t : TE) : TT := fun σ H Q => t σ H (BoolP Q)
theorem pt_cmp {op : CmpOp} {t : TE} (h : PC X op a b t) (h1 : behindInMarks op b = false := by first | exact nobehind _ (by decide) (by decide) | rfl) : PT X (.Compare a [op] [b] pos) (tB t) := by
  intro pins s σ H Q I hw
  refine wpAny_isTrue_Compare1 (thn (h pins s σ H _ I hw) fun v s1 h1 => thn h1 fun u s2 h2 => thn h2 fun c s3 ⟨x, H1, I1, r1, q1⟩ => ?_) h1
  obtain ⟨d, rfl, q⟩ := q1
  cases r1
  exact wpAny_truthy_bool ⟨H1, I1, q⟩
theorem pt_val {e : Expr} {t : TE} (h : PE X e t) (he : ∀ whole, isTrue e X.env whole = (do let v ← whole; standAt e.pos; holding [v] (truthy v)) := by intro _; rfl) : PT X e (tB t) := by
  intro pins s σ H Q I hw
  refine isTrue_plain (thn (h pins s σ H _ I hw) fun v s1 ⟨x, H1, I1, r1, q1⟩ => ?_) (he _)
  obtain ⟨d, rfl, q⟩ := q1
  cases r1
  exact wpAny_truthy_bool ⟨H1, I1, q⟩
variable {tA tB' : TT} {rest : List Expr}
noncomputable def tAnd (t u : TT) : TT := fun σ H Q => t σ H fun c H1 => if c = true then u σ H1 Q else Q false H1
noncomputable def tOr (t u : TT) : TT := fun σ H Q => t σ H fun c H1 => if c = true then Q true H1 else u σ H1 Q
noncomputable def tNot (t : TT) : TT := fun σ H Q => t σ H fun c H1 => Q (!c) H1
theorem pw_and1 (ha : PT X a tA) : PW X (.BoolOp .And [a] pos) tA := by
  intro wh pins s σ H Q I h
  refine isTrue_and (thn (ha pins s σ H Q I h) fun c s1 e => ?_)
  cases c with
  | true => exact isTrue_and_nil e
  | false => exact e
theorem pw_or1 (ha : PT X a tA) : PW X (.BoolOp .Or [a] pos) tA := by
  intro wh pins s σ H Q I h
  refine isTrue_or (thn (ha pins s σ H Q I h) fun c s1 e => ?_)
  cases c with
  | false => exact isTrue_or_nil e
  | true => exact e
theorem pw_and (ha : PT X a tA) (hb : PW X (.BoolOp .And (b :: rest) pos) tB') : PW X (.BoolOp .And (a :: b :: rest) pos) (tAnd tA tB') := by
  intro wh pins s σ H Q I h
  refine isTrue_and (thn (ha pins s σ H _ I h) fun c s1 ⟨H1, I1, q1⟩ => ?_)
  cases c with
  | true => exact hb wh pins s1 σ H1 Q I1 q1
  | false => exact ⟨H1, I1, q1⟩
theorem pw_or (ha : PT X a tA) (hb : PW X (.BoolOp .Or (b :: rest) pos) tB') : PW X (.BoolOp .Or (a :: b :: rest) pos) (tOr tA tB') := by
  intro wh pins s σ H Q I h
  refine isTrue_or (thn (ha pins s σ H _ I h) fun c s1 ⟨H1, I1, q1⟩ => ?_)
  cases c with
  | true => exact ⟨H1, I1, q1⟩
  | false => exact hb wh pins s1 σ H1 Q I1 q1
theorem pt_not (ha : PT X a tA) : PT X (.UnaryOp .Not a pos) (tNot tA) := by
  intro pins s σ H Q I h
  exact isTrue_not (ha pins s σ H (fun c H1 => Q (!c) H1) I h)
noncomputable def tAndV (ta tb : TE) : TE := fun σ H Q => ta σ H fun x H1 => ∃ c, x = .bl c ∧ if c = true then tb σ H1 Q else Q (.bl false) H1
noncomputable def tOrV (ta tb : TE) : TE := fun σ H Q => ta σ H fun x H1 => ∃ c, x = .bl c ∧ if c = true then Q (.bl true) H1 else tb σ H1 Q
noncomputable def tNotV (ta : TE) : TE := fun σ H Q => ta σ H fun x H1 => ∃ c, x = .bl c ∧ Q (.bl (!c)) H1
theorem pe_one {op} {t : TE} (h : PE X a t) : PE X (.BoolOp op [a] pos) t := fun pins s σ H Q I hw => BoolOp_one (h pins s σ H Q I hw)
theorem pe_and (ha : PE X a ta) (hb : PE X (.BoolOp .And (b :: rest) pos) tb) : PE X (.BoolOp .And (a :: b :: rest) pos) (tAndV ta tb) := by
  intro pins s σ H Q I h
  refine BoolOp_and (thn (ha pins s σ H _ I h) fun v s1 ⟨x, H1, I1, r1, q1⟩ => ?_)
  obtain ⟨c, rfl, q1⟩ := q1
  cases r1
  refine wpAny_truthy_bool ?_
  cases c with
  | true => exact hb pins s1 σ H1 Q I1 q1
  | false => exact ⟨.bl false, H1, I1, rfl, q1⟩
theorem pe_or (ha : PE X a ta) (hb : PE X (.BoolOp .Or (b :: rest) pos) tb) : PE X (.BoolOp .Or (a :: b :: rest) pos) (tOrV ta tb) := by
  intro pins s σ H Q I h
  refine BoolOp_or (thn (ha pins s σ H _ I h) fun v s1 ⟨x, H1, I1, r1, q1⟩ => ?_)
  obtain ⟨c, rfl, q1⟩ := q1
  cases r1
  refine wpAny_truthy_bool ?_
  cases c with
  | false => exact hb pins s1 σ H1 Q I1 q1
  | true => exact ⟨.bl true, H1, I1, rfl, q1⟩
theorem pe_not (ha : PE X a ta) : PE X (.UnaryOp .Not a pos) (tNotV ta) := by
  intro pins s σ H Q I h
  refine UnaryOp_ (thn (ha pins s σ H _ I h) fun v s1 ⟨x, H1, I1, r1, q1⟩ => ?_)
  obtain ⟨c, rfl, q1⟩ := q1
  cases r1
  exact not_of (wpAny_truthy_bool ⟨.bl (!c), H1, I1, rfl, q1⟩)
noncomputable def tIf (t : TT) (ta tb : TE) : TE := fun σ H Q => t σ H fun c H1 => if c = true then ta σ H1 Q else tb σ H1 Q
theorem pe_ifExp {c : Expr} (hc : PT X c tA) (ha : PE X a ta) (hb : PE X b tb) : PE X (.IfExp c a b pos) (tIf tA ta tb) := by
  intro pins s σ H Q I h
  refine wpAny_IfExp (thn (hc pins s σ H _ I h) fun d s1 ⟨H1, I1, q1⟩ => ?_)
  cases d with
  | true => exact ha pins s1 σ H1 Q I1 q1
  | false => exact hb pins s1 σ H1 Q I1 q1
end
end L2
namespace L2
open PySem PySem.Spec PyProof.Rows
noncomputable def SqL (K : PySem.W.Frag) (H : Hp) (a : Addr) (xs : List V) : Prop :=
  Rd H a (.lst xs) ∨
    ∃ (o : Obj) (its : Array Value) (n : Nat), K.lookup a = some o ∧ o.cls = .type "list" ∧ o.dict = none ∧ o.data = .seq its n ∧ its.size ≤ sizeLine ∧ Vals xs its.toList
noncomputable def SqT (K : PySem.W.Frag) (H : Hp) (a : Addr) (xs : List V) : Prop :=
  Rd H a (.tup xs) ∨
    ∃ (o : Obj) (its : Array Value) (n : Nat), K.lookup a = some o ∧ o.cls = .type "tuple" ∧ o.data = .seq its n ∧ its.size ≤ sizeLine ∧ Vals xs its.toList
noncomputable def absV : Value → Option V
  | .none => some .non
  | .bool b => some (.bl b)
  | .int i _ => some (.int i)
  | .str x _ => some (.str x)
  | .bytes b _ => some (.byt b)
  | .float b _ => some (.flt b)
  | .ref a => some (.ref a)
  | .type n => some (.ty n)
  | _ => none
theorem RelV.abs {x : V} {u : Value} (r : RelV x u) : absV u = some x := by
  cases x with
  | non => cases r; rfl
  | bl _ => cases r; rfl
  | int _ => obtain ⟨t, rfl⟩ := r; rfl
  | str _ => obtain ⟨t, rfl⟩ := r; rfl
  | byt _ => obtain ⟨t, rfl⟩ := r; rfl
  | flt _ => obtain ⟨t, rfl⟩ := r; rfl
  | ref _ => cases r; rfl
  | ty _ => cases r; rfl
theorem RelV.inj {x y : V} {u : Value} (r : RelV x u) (q : RelV y u) : x = y := Option.some.inj (r.abs.symm.trans q.abs)
theorem Vals.inj : ∀ {xs ys : List V} {us : List Value}, Vals xs us → Vals ys us → xs = ys
  | _, _, _, .nil, .nil => rfl
  | _, _, _, .cons r t, .cons r' t' => by rw [r.inj r', Vals.inj t t']
section
variable {X : Cx} {pins : List (Addr × Obj)} {σ : St} {H : Hp} {s : Shared} {a : Addr} {xs ys : List V}
theorem SqL.of {K : PySem.W.Frag} (h : H a = some (.lst xs)) : SqL K H a xs := .inl (.inl h)
theorem SqT.of {K : PySem.W.Frag} (h : H a = some (.tup xs)) : SqT K H a xs := .inl (.inl h)
theorem Inv.list (I : Inv X pins σ H s) (h : SqL X.K H a xs) : ∃ its : List Value, Vals xs its ∧ PlainL s.heap a its.toArray ∧ xs.length ≤ sizeLine := by
  rcases h with h | ⟨o, its, n, hk, hc, hd, hs, hz, r⟩
  · obtain ⟨z, its, n, r, e⟩ := h.ok I.hok
    exact ⟨its, r, ⟨_, n, e, rfl, rfl, rfl⟩, z⟩
  · refine ⟨its.toList, r, ⟨o, n, I.kIn a o hk, hc, hd, by simpa using hs⟩, ?_⟩
    have e := r.length
    simp only [Array.length_toList] at e
    omega
theorem Inv.tuple (I : Inv X pins σ H s) (h : SqT X.K H a xs) : ∃ its : List Value, Vals xs its ∧ IsTup s.heap a its.toArray ∧ xs.length ≤ sizeLine := by
  rcases h with h | ⟨o, its, n, hk, hc, hs, hz, r⟩
  · obtain ⟨z, its, r, p⟩ := h.ok I.hok
    exact ⟨its, r, p, z⟩
  · refine ⟨its.toList, r, ⟨o, I.kIn a o hk, hc, n, by simpa using hs⟩, ?_⟩
    have e := r.length
    simp only [Array.length_toList] at e
    omega
theorem Inv.list_inj (I : Inv X pins σ H s) (h : SqL X.K H a xs) (h' : SqL X.K H a ys) : xs = ys := by
  obtain ⟨its, r, ⟨o, n, e, _, _, d⟩, _⟩ := I.list h
  obtain ⟨its', r', ⟨o', n', e', _, _, d'⟩, _⟩ := I.list h'
  rw [e] at e'; cases e'
  rw [d] at d'
  injection d' with d1 _
  have : its = its' := by simpa using congrArg Array.toList d1
  subst this
  exact r.inj r'
end
noncomputable abbrev Cx.wish (X : Cx) (E : Value → Shared → Prop) : Cx := { X with xe := E }
noncomputable abbrev Cx.nox (X : Cx) : Cx := X.wish fun _ _ => False
theorem Cx.Ok.wish {X : Cx} (ok : X.Ok) (E : Value → Shared → Prop) : (X.wish E).Ok :=
  ⟨ok.mod, ok.kind, ok.glob, ok.blt, ok.above, ok.inj, ok.has, ok.cab, ok.hd, ok.frames, ok.stk, ok.exf, ok.bs, ok.bsz, ok.noex, ok.exfs, ok.funs, ok.frf⟩
theorem Cx.Ok.unwish {X : Cx} {E : Value → Shared → Prop} (ok : (X.wish E).Ok) : X.Ok :=
  ⟨ok.mod, ok.kind, ok.glob, ok.blt, ok.above, ok.inj, ok.has, ok.cab, ok.hd, ok.frames, ok.stk, ok.exf, ok.bs, ok.bsz, ok.noex, ok.exfs, ok.funs, ok.frf⟩
section
variable {X : Cx} {pins : List (Addr × Obj)} {σ : St} {H : Hp} {s : Shared} {E : Value → Shared → Prop}
theorem Inv.wish (I : Inv X pins σ H s) (E : Value → Shared → Prop) : Inv (X.wish E) pins σ H s := ⟨I.ok.wish E, I.os, I.bare, I.base, I.loc, I.cell, I.free, I.freeC, I.pin, I.hok, I.len⟩
theorem Inv.unwish (I : Inv (X.wish E) pins σ H s) : Inv X pins σ H s := ⟨I.ok.unwish, I.os, I.bare, I.base, I.loc, I.cell, I.free, I.freeC, I.pin, I.hok, I.len⟩
theorem SP.unwish {D : Ends} {f : Flow} {s' : Shared} (h : SP (X.wish E) pins D f s') : SP X pins D f s' := by
  cases f with
  | next => obtain ⟨σ', H', I, q⟩ := h; exact ⟨σ', H', I.unwish, q⟩
  | brk => obtain ⟨σ', H', I, q⟩ := h; exact ⟨σ', H', I.unwish, q⟩
  | cont => obtain ⟨σ', H', I, q⟩ := h; exact ⟨σ', H', I.unwish, q⟩
  | ret u => obtain ⟨v, σ', H', I, r, q⟩ := h; exact ⟨v, σ', H', I.unwish, r, q⟩
theorem PE.nox {e : Expr} {t : TE} (h : PE X.nox e t) : PE X e t := fun pins s σ H Q I hw =>
  wpAny_mono (h pins s σ H Q (I.wish _) hw) (fun _ _ ⟨v, H', I', r, q⟩ => ⟨v, H', I'.unwish, r, q⟩) fun _ _ z => False.elim z
theorem PT.nox {e : Expr} {t : TT} (h : PT X.nox e t) : PT X e t := fun pins s σ H Q I hw =>
  wpAny_mono (h pins s σ H Q (I.wish _) hw) (fun _ _ ⟨H', I', q⟩ => ⟨H', I'.unwish, q⟩) fun _ _ z => False.elim z
theorem PSs.nox {st : List Stmt} {t : TS} (h : PSs X.nox st t) : PSs X st t := fun pins s σ H D I hw =>
  wpAny_mono (h pins s σ H D (I.wish _) hw) (fun _ _ q => q.unwish) fun _ _ z => False.elim z
end
section
variable {X : Cx} {st : Stmt} {rest : List Stmt} {t u : TS} {e : Expr} {te : TE} {pos : Pos}
noncomputable def tNext : TS := fun D σ H => D.nx σ H
noncomputable def tSeq (t u : TS) : TS := fun D σ H => t { D with nx := u D } σ H
theorem pss_nil : PSs X [] tNext := fun _ _ σ H _ I h => wpAny_execs_nil ⟨σ, H, I, h⟩
theorem pss_cons (h1 : PS X st t) (h2 : PSs X rest u) : PSs X (st :: rest) (tSeq t u) := by
  intro pins s σ H D I h
  refine wpAny_execs_cons (thn (h1 pins s σ H { D with nx := u D } I h) fun f s1 q => ?_)
  cases f with
  | next =>
    obtain ⟨σ', H', I', q⟩ := q
    exact h2 pins s1 σ' H' D I' q
  | ret v => exact q
  | brk => exact q
  | cont => exact q
theorem pss_one (h1 : PS X st t) : PSs X [st] t := by
  intro pins s σ H D I h
  refine wpAny_execs_cons (thn (h1 pins s σ H D I h) fun f s1 q => ?_)
  cases f with
  | next => exact wpAny_execs_nil q
  | ret v => exact q
  | brk => exact q
  | cont => exact q
theorem Inv.quiet {pins : List (Addr × Obj)} {σ : St} {H : Hp} {s : Shared} (I : Inv X pins σ H s) : interactive X.env = false := by simp [interactive, I.ok.kind]
noncomputable def tDrop (te : TE) : TS := fun D σ H => te σ H fun _ H1 => D.nx σ H1
theorem ps_expr (he : PE X e te) (hs : swapsWith e none pos.line X.env = pure false := by rfl) : PS X (.Expr e pos) (tDrop te) := by
  intro pins s σ H D I h
  exact wpAny_Expr_any (thn (he pins s σ H _ I h) fun v s1 ⟨x, H1, I1, r1, q1⟩ => ⟨σ, H1, I1, q1⟩) I.quiet hs
noncomputable def tRet (te : TE) : TS := fun D σ H => te σ H D.rt
theorem ps_ret (he : PE X e te) : PS X (.Return (some e) pos) (tRet te) := by
  intro pins s σ H D I h
  exact wpAny_Return_some (thn (he pins s σ H _ I h) fun v s1 ⟨x, H1, I1, r1, q1⟩ => ⟨x, σ, H1, I1, r1, q1⟩)
noncomputable def tIfS (c : TT) (t u : TS) : TS := fun D σ H => c σ H fun b H1 => if b = true then t D σ H1 else u D σ H1
theorem ps_if {c : Expr} {a b : List Stmt} {tc : TT} (hc : PT X c tc) (ha : PSs X a t) (hb : PSs X b u) : PS X (.If c a b pos) (tIfS tc t u) := by
  intro pins s σ H D I h
  refine wpAny_If (thn (hc pins s σ H _ I h) fun d s1 ⟨H1, I1, q1⟩ => ?_)
  cases d with
  | true => exact ha pins s1 σ H1 D I1 q1
  | false => exact hb pins s1 σ H1 D I1 q1
end
noncomputable abbrev TG := V → St → Hp → (St → Hp → Prop) → Prop
noncomputable abbrev TGs := List V → St → Hp → (St → Hp → Prop) → Prop
noncomputable def PG (X : Cx) (target : Expr) (t : TG) : Prop :=
  ∀ (pins : List (Addr × Obj)) (s : Shared) (σ : St) (H : Hp) (v : V) (u : Value) (Q : St → Hp → Prop), Inv X pins σ H s → RelV v u → t v σ H Q →
    wpAny (model X.prog X.w) X.A (assign target X.env u) (fun _ s' => ∃ σ' H', Inv X pins σ' H' s' ∧ Q σ' H') X.xe s
noncomputable def PGs (X : Cx) (ts : List Expr) (t : TGs) : Prop :=
  ∀ (pins : List (Addr × Obj)) (s : Shared) (σ : St) (H : Hp) (vs : List V) (us : List Value) (Q : St → Hp → Prop), Inv X pins σ H s → Vals vs us → t vs σ H Q →
    wpAny (model X.prog X.w) X.A (assignInOrder ((assignEach ts X.env).map (·.2)) us) (fun _ s' => ∃ σ' H', Inv X pins σ' H' s' ∧ Q σ' H') X.xe s
noncomputable abbrev TIp := V → V → Hp → VK → Prop
noncomputable def PIp (X : Cx) (op : Operator) (t : TIp) : Prop :=
  ∀ (pins : List (Addr × Obj)) (s : Shared) (σ : St) (H : Hp) (x y : V) (v u : Value) (Q : VK), Inv X pins σ H s → RelV x v → RelV y u → t x y H Q →
    wpAny (model X.prog X.w) X.A (inplaceOp op v u) (EP X pins σ Q) X.xe s
section
variable {X : Cx} {pos : Pos}
noncomputable def gName (i : Nat) : TG := fun v σ H Q => Q (σ.set i (some v)) H
theorem pg_name {i : Nat} {x : Str} (hN : X.N.Nodup) (hi : X.N[i]? = some x) (hx : Loc X.env.scope x) (hf : X.fn x = true ∨ X.env.scope.names.lookup x = some .local := by first | exact .inl rfl | exact .inr rfl | assumption) : PG X (.Name x pos) (gName i) := by
  intro pins s σ H v u Q I r h
  exact wpAny_assign_Name (store_ok I hN hi hx r (fun s' I' => ⟨_, H, I', h⟩) hf)
noncomputable def gNil : TGs := fun vs σ H Q => vs = [] ∧ Q σ H
noncomputable def gCons (t : TG) (u : TGs) : TGs := fun vs σ H Q => ∃ v r, vs = v :: r ∧ t v σ H fun σ' H' => u r σ' H' Q
theorem pgs_nil : PGs X [] gNil := by
  intro pins s σ H vs us Q I r h
  obtain ⟨e, h⟩ := h
  subst e
  cases r
  exact assignInOrder_nil ⟨σ, H, I, h⟩
theorem pgs_cons {e : Expr} {es : List Expr} {t : TG} {u : TGs} (h1 : PG X e t) (h2 : PGs X es u)
    (hs : (assignEach (e :: es) X.env).map (·.2) = assign e X.env :: (assignEach es X.env).map (·.2) := by rfl) : PGs X (e :: es) (gCons t u) := by
  intro pins s σ H vs us Q I r h
  obtain ⟨v, vr, e1, h⟩ := h
  subst e1
  cases r with
  | cons r rr =>
    rw [hs]
    refine assignInOrder_cons (thn (h1 pins s σ H _ _ _ I r h) fun _ s1 ⟨σ1, H1, I1, q1⟩ => ?_)
    exact h2 pins s1 σ1 H1 _ _ Q I1 rr q1
noncomputable def gTup (K : PySem.W.Frag) (n : Nat) (t : TGs) : TG := fun v σ H Q => ∃ a xs, v = .ref a ∧ SqT K H a xs ∧ xs.length = n ∧ t xs σ H Q
theorem pg_tup {es : List Expr} {k : Nat} {t : TGs} {n : Nat} (hc : X.calm = true) (h : PGs X es t)
    (hn : (assignEach es X.env).length = n := by rfl) (hst : (assignEach es X.env).findIdx? (·.1) = none := by rfl) : PG X (.Tuple es k pos) (gTup X.K n t) := by
  intro pins s σ H v u Q I r hw
  obtain ⟨a, xs, e1, hq, hl, hw⟩ := hw
  subst e1
  cases r
  obtain ⟨its, rv, ht, hz⟩ := I.tuple hq
  refine assign_Tuple_tuple (I.ok.hd hc) ht (by simp [hn, ← hl, rv.length]) hst fun h' hx => ?_
  have I1 : Inv X pins σ H { s with heap := h' } := I.kept (t' := s.toks) fun b o e => hx b o (Nat.ne_of_lt (Heap.lt_size e)) e
  exact h pins _ σ H xs _ Q I1 (by simpa using rv) hw
noncomputable def tAsg (te : TE) (g : TG) : TS := fun D σ H => te σ H fun x H1 => g x σ H1 D.nx
theorem ps_set {i : Nat} {x : Str} {e : Expr} {te : TE} {pos' : Pos} (hN : X.N.Nodup) (hi : X.N[i]? = some x) (hx : Loc X.env.scope x) (he : PE X e te) (hs : swapsWith e (some (.Name x pos')) pos.line X.env = pure false := by rfl) (hf : X.fn x = true ∨ X.env.scope.names.lookup x = some .local := by first | exact .inl rfl | exact .inr rfl | assumption) :
    PS X (.Assign [.Name x pos'] e pos) (tAsg te (gName i)) := by
  intro pins s σ H D I h
  refine wpAny_Assign_Name (thn (he pins s σ H _ I h) fun v s1 ⟨y, H1, I1, r1, q1⟩ => ?_) hs
  exact store_ok I1 hN hi hx r1 (fun s2 I2 => ⟨_, H1, I2, q1⟩) hf
noncomputable def tAug (i : Nat) (te : TE) (ti : TIp) : TS := fun D σ H => ∃ x, σ[i]? = some (some x) ∧ te σ H fun y H1 => ti x y H1 fun z H2 => D.nx (σ.set i (some z)) H2
theorem ps_aug {i : Nat} {x : Str} {e : Expr} {te : TE} {op : Operator} {ti : TIp} {pos' : Pos} (hN : X.N.Nodup) (hi : X.N[i]? = some x) (hx : Loc X.env.scope x) (he : PE X e te) (ho : PIp X op ti) (hf : X.fn x = true ∨ X.env.scope.names.lookup x = some .local := by first | exact .inl rfl | exact .inr rfl | assumption) :
    PS X (.AugAssign (.Name x pos') op e pos) (tAug i te ti) := by
  intro pins s σ H D I h
  obtain ⟨v, e1, h⟩ := h
  obtain ⟨m, hn, hl⟩ := I.loc
  have vis : Vis X.env.scope x := by rcases hx with k | k; exact .inl k; exact .inr (.inl k)
  obtain ⟨u, r, l⟩ := hl i x v hi e1 vis
  refine wpAny_AugAssign_Name ?_
  have go : wpAny (model X.prog X.w) X.A (eval e X.env) (fun w s₂ => wpAny (model X.prog X.w) X.A (inplaceOp op u w) (fun r s₃ => wpAny (model X.prog X.w) X.A (storeName X.env x r) (fun _ => SP X pins D .next) X.xe s₃) X.xe s₂) X.xe s := by
    refine thn (he pins s σ H _ I h) fun w s1 ⟨y, H1, I1, r1, q1⟩ => ?_
    refine thn (ho pins s1 σ H1 v y u w _ I1 r r1 q1) fun z s2 ⟨zv, H2, I2, r2, q2⟩ => ?_
    exact store_ok I2 hN hi hx r2 (fun s3 I3 => ⟨_, H2, I3, q2⟩) hf
  rcases l with ⟨hk, hm⟩ | ⟨hk, c, hc, hcell⟩
  · exact wpAny_loadName_local I.ok.kind hk hn hm go
  · rcases hk with hk | hk
    · exact wpAny_loadName_cell I.ok.kind hk hc hcell go
    · rcases hx with k | k
      · have : X.env.scope.names.lookup x = some .free := hk
        rw [k] at this; cases this
      · have : X.env.scope.names.lookup x = some .free := hk
        rw [k] at this; cases this
inductive IpP (f : Int → Int → Int) (x y : V) (H : Hp) (Q : VK) : Prop
  | mk : ∀ i j, x = .int i → y = .int j → Q (.int (f i j)) H → IpP f x y H Q
noncomputable def ipI (f : Int → Int → Int) : TIp := IpP f
theorem ip_add : PIp X .Add (ipI fun i j => i + j) := by
  intro pins s σ H x y v u Q I r1 r2 h
  obtain ⟨i, j, e1, e2, q⟩ := h
  subst e1; subst e2
  obtain ⟨t, rfl⟩ := r1
  obtain ⟨t', rfl⟩ := r2
  exact iadd_int ⟨.int _, H, I.tok _, ⟨_, rfl⟩, q⟩
theorem ip_sub : PIp X .Sub (ipI fun i j => i - j) := by
  intro pins s σ H x y v u Q I r1 r2 h
  obtain ⟨i, j, e1, e2, q⟩ := h
  subst e1; subst e2
  obtain ⟨t, rfl⟩ := r1
  obtain ⟨t', rfl⟩ := r2
  exact isub_int ⟨.int _, H, I.tok _, ⟨_, rfl⟩, q⟩
end
section
variable {X : Cx} {pos : Pos}
noncomputable def tWhile (c : TT) (tb : TS) : TS := fun D σ H => ∃ W : Nat → St → Hp → Prop, (∃ m, W m σ H) ∧ ∀ m σ H, W m σ H →
  c σ H fun b H1 => if b = true then ∃ N : St → Hp → Prop, (∀ σ' H', N σ' H' → ∃ m', m' < m ∧ W m' σ' H') ∧ tb { D with nx := N, ct := N, bk := D.nx } σ H1 else D.nx σ H1
theorem ps_while {c : Expr} {body : List Stmt} {tc : TT} {tb : TS} (hp : PassesOwn (model X.prog X.w) X.A X.env X.xe) (hc : PT X c tc) (hb : PSs X body tb) : PS X (.While c body [] pos) (tWhile tc tb) := by
  intro pins s σ H D I h
  obtain ⟨W, ⟨m0, w0⟩, turn⟩ := h
  refine wpAny_While (codeAny_whileLoop (fun n s' => ∃ σ' H', Inv X pins σ' H' s' ∧ W n σ' H') ?_ m0 ⟨σ, H, I, w0⟩)
  rintro n s1 ⟨σ1, H1, I1, w1⟩
  refine wpAny_passesOwn hp (thn (hc pins s1 σ1 H1 _ I1 (turn n σ1 H1 w1)) fun b s2 ⟨H2, I2, q2⟩ => ?_)
  cases b with
  | true =>
    obtain ⟨N, hN, q2⟩ := q2
    rw [if_pos rfl]
    refine wpAny_passesOwn hp (thn (hb pins s2 σ1 H2 _ I2 q2) fun f s3 q3 => ?_)
    cases f with
    | next =>
      obtain ⟨σ3, H3, I3, n3⟩ := q3
      obtain ⟨m', hm, w3⟩ := hN σ3 H3 n3
      exact ⟨m', hm, σ3, H3, I3, w3⟩
    | cont =>
      obtain ⟨σ3, H3, I3, n3⟩ := q3
      obtain ⟨m', hm, w3⟩ := hN σ3 H3 n3
      exact ⟨m', hm, σ3, H3, I3, w3⟩
    | brk => exact q3
    | ret v => exact q3
  | false =>
    rw [if_neg Bool.false_ne_true]
    exact wpAny_execs_nil ⟨σ1, H2, I2, q2⟩
end
structure It where
  go : Nat → Hp → Prop
  yld : Nat → Hp → V → Hp → Prop
  stop : Nat → Hp → Prop
noncomputable def FpOk (X : Cx) (pins : List (Addr × Obj)) (H : Hp) (b : Addr) : Prop :=
  H b = none ∧ b ≠ X.env.locals ∧ b ∉ X.fs ∧ (b ∈ X.ex ∨ X.s_0.heap.objs.size ≤ b) ∧ (∀ x c, X.env.cells.lookup x = some c → c ≠ b) ∧ ∀ p ∈ X.pn ++ pins, p.1 ≠ b
theorem Inv.fpOk {X : Cx} {pins : List (Addr × Obj)} {σ : St} {H H' : Hp} {s : Shared} {b : Addr} (I : Inv X pins σ H s) (hb : s.heap.objs.size ≤ b) (hn : H' b = none) : FpOk X pins H' b := by
  refine ⟨hn, Nat.ne_of_gt (Nat.lt_of_lt_of_le I.lt hb), I.nofs hb, .inr (Nat.le_trans I.sz hb), fun x c e z => ?_, fun p hp z => ?_⟩
  · obtain ⟨v, q⟩ := I.cell x c e
    exact absurd (Nat.lt_of_lt_of_le q.lt (by rw [z]; exact hb)) (Nat.lt_irrefl _)
  · exact absurd (Nat.lt_of_lt_of_le (Heap.lt_size (I.pin p hp).1) (by rw [z]; exact hb)) (Nat.lt_irrefl _)
structure Turn (P : Program) (w : World) (K : PySem.W.Frag) (tg : Expr) (J : It) (fp : List Addr) (it : Addr) (tn : Nat → Heap → Prop) : Prop where
  mem : it ∈ fp
  obj : ∀ i h, tn i h → ∀ b ∈ fp, ∃ o, h.get? b = some o ∧ ∀ v, o.data ≠ .cell v
  keep : ∀ i h h', tn i h → (∀ b ∈ fp, ∀ o, h.get? b = some o → h'.get? b = some o) → tn i h'
  item : ∀ (X : Cx), X.prog = P → X.w = w → X.K = K → X.calm = true → ∀ (i : Nat) (pins : List (Addr × Obj)) (s : Shared) (σ : St) (H : Hp) (E : Value → Shared → Prop), Inv X pins σ H s → (∀ b ∈ fp, FpOk X pins H b) → tn i s.heap → J.go i H →
    wpAny (model P w) X.A (pyNext (.ref it)) (fun r s1 => ∃ u, r = some u ∧
      wpAny (model P w) X.A (letOwnedTupleGo tg (.ref it) u) (fun _ s2 => ∃ x H', Inv X pins σ H' s2 ∧ RelV x u ∧ J.yld i H x H' ∧ tn (i + 1) s2.heap ∧ ∀ b ∈ fp, H' b = none) E s1) E s
  done : ∀ (X : Cx), X.prog = P → X.w = w → X.K = K → X.calm = true → ∀ (i : Nat) (pins : List (Addr × Obj)) (s : Shared) (σ : St) (H : Hp) (E : Value → Shared → Prop), Inv X pins σ H s → (∀ b ∈ fp, FpOk X pins H b) → tn i s.heap → J.stop i H →
    wpAny (model P w) X.A (pyNext (.ref it)) (fun r s1 => r = none ∧ Inv X pins σ H s1) E s
  self : ∀ (A : Around) (i : Nat) (s : Shared) (Q : Value → Shared → Prop) (E : Value → Shared → Prop), tn i s.heap → Q (.ref it) s → wpAny (model P w) A (pyIter (.ref it)) Q E s
noncomputable abbrev TI := St → Hp → (It → Hp → Prop) → Prop
noncomputable def PIE (X : Cx) (pins : List (Addr × Obj)) (σ : St) (tg : Expr) (R : It → Hp → Prop) (itv : Value) (s2 : Shared) : Prop :=
  ∃ (it : Addr) (fp : List Addr) (tn : Nat → Heap → Prop) (J : It) (H' : Hp), itv = .ref it ∧ Inv X pins σ H' s2 ∧ Turn X.prog X.w X.K tg J fp it tn ∧ tn 0 s2.heap ∧ (∀ b ∈ fp, FpOk X pins H' b) ∧ R J H'
noncomputable def PI (X : Cx) (tg iter : Expr) (wi : TI) : Prop :=
  ∀ (pins : List (Addr × Obj)) (s : Shared) (σ : St) (H : Hp) (R : It → Hp → Prop), Inv X pins σ H s → wi σ H R →
    wpAny (model X.prog X.w) X.A (eval iter X.env) (fun v s1 => wpAny (model X.prog X.w) X.A (pyIter v) (PIE X pins σ tg R) X.xe s1) X.xe s
theorem go_of {M : Model} {A : Around} {E : Value → Shared → Prop} {s : Shared} {tg : Expr} {it : Addr} {u : Value} {o : Obj} {n : String} {vs : Array Value} {Q : Unit → Shared → Prop} (ho : s.heap.get? it = some o) (hc : o.cls = .type n) (hd : o.data = .fields vs)
    (hn : ["enumerate", "zip", "dict_itemiterator", "dict_reverseitemiterator", "odict_iterator", "itertools.zip_longest", "itertools.pairwise"].contains n = false) (hQ : Q () s) : wpAny M A (letOwnedTupleGo tg (.ref it) u) Q E s := by
  unfold letOwnedTupleGo
  cases tg <;> first
    | exact wpAny_pure hQ
    | (cases u <;> first
        | exact wpAny_pure hQ
        | (refine wpAny_bind (wpAny_load ho ?_)
           rw [hc, hd]
           show wpAny M A (if (["enumerate", "zip", "dict_itemiterator", "dict_reverseitemiterator", "odict_iterator", "itertools.zip_longest", "itertools.pairwise"].contains n && vs[0]? == some (rawInt _)) = true then _ else _) Q E s
           rw [if_neg (by intro h; rw [hn, Bool.false_and] at h; cases h)]
           exact wpAny_pure hQ))
noncomputable def Itl (K : PySem.W.Frag) (a : Addr) : It :=
  ⟨fun i H => ∃ xs x, SqL K H a xs ∧ xs[i]? = some x, fun i H x H' => H' = H ∧ ∀ xs, SqL K H a xs → xs[i]? = some x, fun i H => ∃ xs, SqL K H a xs ∧ xs.length ≤ i⟩
noncomputable def Itr (lo : Int) (n : Nat) : It := ⟨fun i _ => i < n, fun i H x H' => H' = H ∧ x = .int (lo + i), fun i _ => n ≤ i⟩
theorem turn_list {P : Program} {w : World} {K : PySem.W.Frag} {tg : Expr} (a it : Addr) : Turn P w K tg (Itl K a) [it] it (fun i h => h.IsListIter it a i) where
  mem := by simp
  obj := fun i h st b hb => by
    have e : b = it := by simpa using hb
    subst e
    obtain ⟨o, e, c, d⟩ := st
    exact ⟨o, e, fun v z => by rw [d] at z; cases z⟩
  keep := fun i h h' st k => st.at fun o e => k it (by simp) o e
  item := by
    intro X hP hw hK hc i pins s σ H E I hf st hg
    subst hP hw hK
    obtain ⟨xs, x, hq, hx⟩ := hg
    obtain ⟨its, rv, p, hz⟩ := I.list hq
    obtain ⟨u, hu, ru⟩ := rv.get hx
    obtain ⟨f0, f1, f2, f3, f4, f5⟩ := hf it (by simp)
    refine wpAny_pyNext_list_item st p.isList (x := u) (by simpa using hu) fun h' st' sb => ?_
    have I1 : Inv X pins σ H { s with heap := h' } := I.turned (t' := s.toks) (fun b o hb e => (sb.2 b hb).trans e) f0 f1 f3 f4 f5
    obtain ⟨o, e, c, d⟩ := id st'
    exact ⟨u, rfl, go_of (s := { s with heap := h' }) e c d (by decide) ⟨x, H, I1, ru, ⟨rfl, fun ys hy => by rw [I.list_inj hy hq]; exact hx⟩, st', fun b hb => (hf b hb).1⟩⟩
  done := by
    intro X hP hw hK hc i pins s σ H E I hf st hg
    subst hP hw hK
    obtain ⟨xs, hq, hx⟩ := hg
    obtain ⟨its, rv, p, hz⟩ := I.list hq
    obtain ⟨f0, f1, f2, f3, f4, f5⟩ := hf it (by simp)
    have hl := rv.length
    exact wpAny_pyNext_list_end (I.ok.hd hc) st p.isList (by simp; omega) fun h' eb => ⟨rfl, I.turned (t' := s.toks) (fun b o hb e => eb b o hb e) f0 f1 f3 f4 f5⟩
  self := fun _ _ _ _ _ st h => wpAny_pyIter_listiter st h
theorem turn_range {P : Program} {w : World} {K : PySem.W.Frag} {tg : Expr} (it : Addr) (lo : Int) (n : Nat) : Turn P w K tg (Itr lo n) [it] it (fun i h => IsRangeIter h it (lo + (i : Nat) * 1) ((n : Int) - (i : Nat)) 1) where
  mem := by simp
  obj := fun i h st b hb => by
    have e : b = it := by simpa using hb
    subst e
    exact ⟨_, st, fun v z => by
      have z' : Data.fields _ = Data.cell v := z
      cases z'⟩
  keep := fun i h h' st k => k it (by simp) _ st
  item := by
    intro X hP hw hK hc i pins s σ H E I hf st hg
    subst hP hw hK
    obtain ⟨f0, f1, f2, f3, f4, f5⟩ := hf it (by simp)
    have W := Walks.range (prog := X.prog) (w := X.w) (I.ok.hd hc) it lo 1 n
    refine W.item i s _ _ hg st fun v h' tk hv st' kk => ?_
    obtain ⟨t, rfl⟩ := hv
    have I1 : Inv X pins σ H { s with heap := h', toks := tk } := I.turned (fun b o hb e => kk b o (by simpa using hb) e) f0 f1 f3 f4 f5
    refine ⟨_, rfl, go_of (s := { s with heap := h', toks := tk }) (n := "range_iterator") st' rfl rfl (by decide) ⟨.int (lo + i), H, I1, ⟨t, ?_⟩, ⟨rfl, rfl⟩, st', fun b hb => (hf b hb).1⟩⟩
    rw [Int.mul_one]
  done := by
    intro X hP hw hK hc i pins s σ H E I hf st hg
    subst hP hw hK
    obtain ⟨f0, f1, f2, f3, f4, f5⟩ := hf it (by simp)
    exact wpAny_pyNext_range_end (I.ok.hd hc) st (by have : n ≤ i := hg; omega) fun h' eb => ⟨rfl, I.turned (t' := s.toks) (fun b o hb e => eb b o hb e) f0 f1 f3 f4 f5⟩
  self := fun _ _ _ _ _ st h => wpAny_pyIter_rangeiter st h
end L2
namespace L2
open PySem PySem.Spec PyProof.Rows
section
variable {X : Cx} {tg : Expr}
noncomputable def iList (K : PySem.W.Frag) (tl : TE) : TI := fun σ H R => tl σ H fun x H1 => ∃ a, x = .ref a ∧ (∃ xs, SqL K H1 a xs) ∧ R (Itl K a) H1
theorem pi_list {l : Expr} {tl : TE} (hl : PE X l tl) : PI X tg l (iList X.K tl) := by
  intro pins s σ H R I h
  refine thn (hl pins s σ H _ I h) fun v s1 ⟨x, H1, I1, r1, q1⟩ => ?_
  obtain ⟨a, e, ⟨xs, hq⟩, q⟩ := q1
  subst e
  cases r1
  obtain ⟨its, rv, p, hz⟩ := I1.list hq
  refine wpAny_pyIter_list p.isList ?_
  refine ⟨s1.heap.objs.size, [s1.heap.objs.size], _, _, H1, rfl, I1.kept (t' := s1.toks) fun b o e => Heap.get?_push_of_some _ e, turn_list a _, ⟨_, Heap.get?_push_size _ rfl, rfl, rfl⟩, fun b hb => ?_, q⟩
  have e : b = s1.heap.objs.size := by simpa using hb
  subst e
  exact I1.fpOk (Nat.le_refl _) (I1.hok.fresh (Nat.le_refl _))
theorem range_it {pins : List (Addr × Obj)} {σ : St} {H : Hp} {s : Shared} {R : It → Hp → Prop} {E : Value → Shared → Prop} {lo hi : Int} {t u v : Tok} {tk : Nat} (I : Inv X pins σ H s) (h1 : -(2 ^ 62) ≤ lo) (h2 : lo < 2 ^ 62) (h3 : -(2 ^ 62) ≤ hi) (h4 : hi < 2 ^ 62)
    (q : R (Itr lo (hi - lo).toNat) H) : wpAny (model X.prog X.w) X.A (pyIter (.ref s.heap.objs.size)) (PIE X pins σ tg R) E { s with heap := s.heap.push { cls := .type "range", data := .fields #[.int lo t, .int hi u, .int 1 v] }, toks := tk } := by
  refine wpAny_pyIter_range (IsRange.new ..) (small_one h1 h2 h3 h4) ?_
  have I1 : Inv X pins σ H { s with heap := s.heap.push { cls := .type "range", data := .fields #[.int lo t, .int hi u, .int 1 v] }, toks := tk } := I.kept fun b o e => Heap.get?_push_of_some _ e
  refine ⟨(s.heap.push { cls := .type "range", data := .fields #[.int lo t, .int hi u, .int 1 v] }).objs.size, [(s.heap.push { cls := .type "range", data := .fields #[.int lo t, .int hi u, .int 1 v] }).objs.size], _, _, H, rfl,
    I1.kept (t' := tk) fun b o e => Heap.get?_push_of_some _ e, turn_range _ lo (hi - lo).toNat, ?_, fun b hb => ?_, q⟩
  · have e1 : lo + ((0 : Nat) : Int) * 1 = lo := by simp
    have e2 : (((hi - lo).toNat : Nat) : Int) - ((0 : Nat) : Int) = Builtin.Range.rangeSize lo hi 1 := by rw [rangeSize_one]; split <;> omega
    show IsRangeIter _ _ (lo + ((0 : Nat) : Int) * 1) ((((hi - lo).toNat : Nat) : Int) - ((0 : Nat) : Int)) 1
    rw [e1, e2]
    exact Heap.get?_push_size _ rfl
  · have e : b = (s.heap.push { cls := .type "range", data := .fields #[.int lo t, .int hi u, .int 1 v] }).objs.size := by simpa using hb
    subst e
    exact I1.fpOk (Nat.le_refl _) (I1.hok.fresh (Nat.le_refl _))
noncomputable def iRng2 (ta : TA) : TI := fun σ H R => ta σ H fun vs H1 => ∃ i j : Int, vs = [.int i, .int j] ∧ (-(2 ^ 62) ≤ i ∧ i < 2 ^ 62 ∧ -(2 ^ 62) ≤ j ∧ j < 2 ^ 62) ∧ R (Itr i (j - i).toNat) H1
theorem pi_range2 {a b : Expr} {ta : TA} {p pos : Pos} (hg : Gl X "range") (hm : X.mg "range" = none) (ha : PA X [a, b] ta) (hs : starEach [a, b] X.env = [(false, eval a X.env), (false, eval b X.env)] := by rfl) (hs2 : starEach [b] X.env = [(false, eval b X.env)] := by rfl) :
    PI X tg (.Call (.Name "range" p) [a, b] [] pos) (iRng2 ta) := by
  intro pins s σ H R I h
  refine Call_ (ld_blt I hg hm boot_range (PyProof.Rows.callWith_type1 (thn (ha pos pins s σ H _ I h) fun us s1 ⟨vs, H1, I1, r1, q1⟩ => ?_) (by rw [hs, hs2]) (by rw [hs2]; rfl)))
  obtain ⟨i, j, e, ⟨q1, q2, q3, q4⟩, q⟩ := q1
  subst e
  cases r1 with
  | cons r rr =>
    cases rr with
    | cons r' rr =>
      cases rr
      obtain ⟨t, rfl⟩ := r
      obtain ⟨t', rfl⟩ := r'
      exact call_range_2 (range_it I1 q1 q2 q3 q4 q)
noncomputable def tFor (wi : TI) (g : TG) (tb : TS) : TS := fun D σ H => wi σ H fun J H1 => ∃ W : Nat → Nat → St → Hp → Prop, (∃ m, W 0 m σ H1) ∧ ∀ i m σ H, W i m σ H →
  (J.stop i H ∧ D.nx σ H) ∨ (J.go i H ∧ ∃ N : St → Hp → Prop, (∀ σ' H', N σ' H' → ∃ m', m' < m ∧ W (i + 1) m' σ' H') ∧ ∀ x H', J.yld i H x H' → g x σ H' fun σ2 H2 => tb { D with nx := N, ct := N, bk := D.nx } σ2 H2)
noncomputable def pinsAt (fp : List Addr) (h : Heap) : List (Addr × Obj) := fp.filterMap fun b => (h.get? b).map fun o => (b, o)
theorem mem_pinsAt {fp : List Addr} {h : Heap} {b : Addr} {o : Obj} (hb : b ∈ fp) (e : h.get? b = some o) : (b, o) ∈ pinsAt fp h := List.mem_filterMap.mpr ⟨b, hb, by rw [e]; rfl⟩
theorem of_pinsAt {fp : List Addr} {h : Heap} {p : Addr × Obj} (hp : p ∈ pinsAt fp h) : p.1 ∈ fp ∧ h.get? p.1 = some p.2 := by
  obtain ⟨b, hb, e⟩ := List.mem_filterMap.mp hp
  cases q : h.get? b with
  | none => rw [q] at e; cases e
  | some o =>
    rw [q] at e
    have e' : (b, o) = p := Option.some.inj e
    subst e'
    exact ⟨hb, q⟩
theorem Inv.pinned {pins : List (Addr × Obj)} {σ : St} {H : Hp} {s : Shared} {fp : List Addr} (I : Inv X pins σ H s) (hf : ∀ b ∈ fp, FpOk X pins H b) (ho : ∀ b ∈ fp, ∃ o, s.heap.get? b = some o ∧ ∀ v, o.data ≠ .cell v) : Inv X (pins ++ pinsAt fp s.heap) σ H s :=
  I.pins_of fun p hp => (List.mem_append.mp hp).elim (fun z => I.pin p (List.mem_append_right _ z)) fun z => by
    obtain ⟨hb, e⟩ := of_pinsAt z
    obtain ⟨f0, f1, f2, _⟩ := hf p.1 hb
    obtain ⟨o, e', d⟩ := ho p.1 hb
    rw [e] at e'; cases e'
    exact ⟨e, f0, f1, f2, d⟩
theorem Inv.unpinned {pins pl : List (Addr × Obj)} {σ : St} {H : Hp} {s : Shared} (I : Inv X (pins ++ pl) σ H s) : Inv X pins σ H s := I.pins_of fun p hp => I.pin p (List.mem_append_right _ (List.mem_append_left _ hp))
theorem ps_for {iter : Expr} {body : List Stmt} {wi : TI} {g : TG} {tb : TS} {pos : Pos} (hp : PassesOwn (model X.prog X.w) X.A X.env X.xe) (hc : X.calm = true) (hi : PI X tg iter wi) (hg : PG X tg g) (hb : PSs X body tb)
    (hs : ∀ x, foldedSetIterable iter X.env x = pure x := by intro _; rfl) : PS X (.For tg iter body [] pos) (tFor wi g tb) := by
  intro pins s σ H D I h
  refine wpAny_For (thn (hi pins s σ H _ I h) fun v s1 h1 => thn h1 fun itv s2 h2 => ?_) hs
  obtain ⟨it, fp, tn, J, H2, e, I2, T, st2, f2, W, ⟨m0, w0⟩, turn⟩ := h2
  subst e
  -- what stays true of the iterator's objects through the loop
  have stat : ∀ {H' : Hp}, (∀ b ∈ fp, H' b = none) → ∀ b ∈ fp, FpOk X pins H' b := fun hn b hb => ⟨hn b hb, (f2 b hb).2⟩
  refine codeAny_forLoop_any (fun n s' => ∃ i σ' H', Inv X pins σ' H' s' ∧ tn i s'.heap ∧ (∀ b ∈ fp, H' b = none) ∧ W i n σ' H') ?_ m0 ⟨0, σ, H2, I2, st2, fun b hb => (f2 b hb).1, w0⟩
  rintro n s3 ⟨i, σ3, H3, I3, st3, fr3, w3⟩
  rcases turn i n σ3 H3 w3 with ⟨stop, qn⟩ | ⟨go, N, hN, step⟩
  · refine wpAny_passesOwn hp (thn (T.done X rfl rfl rfl hc i pins s3 σ3 H3 X.xe I3 (stat fr3) st3 stop) fun r s4 ⟨hr, I4⟩ => ?_)
    subst hr
    exact wpAny_execs_nil ⟨σ3, H3, I4, qn⟩
  · refine wpAny_passesOwn hp (thn (T.item X rfl rfl rfl hc i pins s3 σ3 H3 X.xe I3 (stat fr3) st3 go) fun r s4 ⟨u, hr, h4⟩ => ?_)
    subst hr
    refine wpAny_passesOwn hp (thn h4 fun _ s5 ⟨x, H5, I5, r5, y5, st5, fr5⟩ => ?_)
    have I5' := I5.pinned (stat fr5) (T.obj _ _ st5)
    refine wpAny_passesOwn hp (thn (hg _ s5 σ3 H5 x u _ I5' r5 (step x H5 y5)) fun _ s6 ⟨σ6, H6, I6, q6⟩ => ?_)
    refine wpAny_passesOwn hp (thn (hb _ s6 σ6 H6 _ I6 q6) fun f s7 q7 => ?_)
    have again : ∀ {σ7 : St} {H7 : Hp}, Inv X (pins ++ pinsAt fp s5.heap) σ7 H7 s7 → N σ7 H7 → ∃ m, m < n ∧ ∃ i σ' H', Inv X pins σ' H' s7 ∧ tn i s7.heap ∧ (∀ b ∈ fp, H' b = none) ∧ W i m σ' H' := fun {σ7 H7} I7 n7 => by
      obtain ⟨m', hm, w7⟩ := hN σ7 H7 n7
      refine ⟨m', hm, i + 1, σ7, H7, I7.unpinned, T.keep _ _ _ st5 fun b hb o e => (I7.pin (b, o) (List.mem_append_right _ (List.mem_append_right _ (mem_pinsAt hb e)))).1, fun b hb => ?_, w7⟩
      obtain ⟨o, e, d⟩ := T.obj _ _ st5 b hb
      exact (I7.pin (b, o) (List.mem_append_right _ (List.mem_append_right _ (mem_pinsAt hb e)))).2.1
    cases f with
    | next => obtain ⟨σ7, H7, I7, n7⟩ := q7; exact again I7 n7
    | cont => obtain ⟨σ7, H7, I7, n7⟩ := q7; exact again I7 n7
    | brk => obtain ⟨σ7, H7, I7, q7⟩ := q7; exact ⟨σ7, H7, I7.unpinned, q7⟩
    | ret v => obtain ⟨x7, σ7, H7, I7, r7, q7⟩ := q7; exact ⟨x7, σ7, H7, I7.unpinned, r7, q7⟩
end
theorem for_list {K : PySem.W.Frag} {a : Addr} {xs : List V} {g : TG} {tb : TS} {D : Ends} {σ : St} {H : Hp} (Pv : Nat → St → Hp → Prop) (h0 : Pv 0 σ H) (hl : ∀ i σ H, i ≤ xs.length → Pv i σ H → SqL K H a xs)
    (hs : ∀ i x σ H, xs[i]? = some x → Pv i σ H → g x σ H fun σ2 H2 => tb { D with nx := Pv (i + 1), ct := Pv (i + 1), bk := D.nx } σ2 H2) (hd : ∀ σ H, Pv xs.length σ H → D.nx σ H) :
    ∃ W : Nat → Nat → St → Hp → Prop, (∃ m, W 0 m σ H) ∧ ∀ i m σ H, W i m σ H →
      ((Itl K a).stop i H ∧ D.nx σ H) ∨ ((Itl K a).go i H ∧ ∃ N : St → Hp → Prop, (∀ σ' H', N σ' H' → ∃ m', m' < m ∧ W (i + 1) m' σ' H') ∧ ∀ x H', (Itl K a).yld i H x H' → g x σ H' fun σ2 H2 => tb { D with nx := N, ct := N, bk := D.nx } σ2 H2) := by
  refine ⟨fun i m σ H => m = xs.length - i ∧ i ≤ xs.length ∧ Pv i σ H, ⟨xs.length, by simp, Nat.zero_le _, h0⟩, ?_⟩
  rintro i m σ H ⟨rfl, hi, p⟩
  have q := hl i σ H hi p
  by_cases hlt : i < xs.length
  · refine .inr ⟨⟨xs, xs[i], q, by simp [hlt]⟩, Pv (i + 1), fun σ' H' p' => ⟨xs.length - (i + 1), by omega, rfl, hlt, p'⟩, fun x H' y => ?_⟩
    obtain ⟨e, y⟩ := y
    subst e
    exact hs i x σ _ (y xs q) p
  · have e : i = xs.length := by omega
    subst e
    exact .inl ⟨⟨xs, q, Nat.le_refl _⟩, hd σ H p⟩
theorem for_range {lo : Int} {n : Nat} {g : TG} {tb : TS} {D : Ends} {σ : St} {H : Hp} (Pv : Nat → St → Hp → Prop) (h0 : Pv 0 σ H)
    (hs : ∀ i σ H, i < n → Pv i σ H → g (.int (lo + i)) σ H fun σ2 H2 => tb { D with nx := Pv (i + 1), ct := Pv (i + 1), bk := D.nx } σ2 H2) (hd : ∀ σ H, Pv n σ H → D.nx σ H) :
    ∃ W : Nat → Nat → St → Hp → Prop, (∃ m, W 0 m σ H) ∧ ∀ i m σ H, W i m σ H →
      ((Itr lo n).stop i H ∧ D.nx σ H) ∨ ((Itr lo n).go i H ∧ ∃ N : St → Hp → Prop, (∀ σ' H', N σ' H' → ∃ m', m' < m ∧ W (i + 1) m' σ' H') ∧ ∀ x H', (Itr lo n).yld i H x H' → g x σ H' fun σ2 H2 => tb { D with nx := N, ct := N, bk := D.nx } σ2 H2) := by
  refine ⟨fun i m σ H => m = n - i ∧ i ≤ n ∧ Pv i σ H, ⟨n, by simp, Nat.zero_le _, h0⟩, ?_⟩
  rintro i m σ H ⟨rfl, hi, p⟩
  by_cases hlt : i < n
  · refine .inr ⟨hlt, Pv (i + 1), fun σ' H' p' => ⟨n - (i + 1), by omega, rfl, hlt, p'⟩, fun x H' y => ?_⟩
    obtain ⟨e, y⟩ := y
    subst e y
    exact hs i σ _ hlt p
  · have e : i = n := by omega
    subst e
    exact .inl ⟨Nat.le_refl _, hd σ H p⟩
end L2
namespace L2
open PySem PySem.Spec PyProof.Rows
noncomputable abbrev R2 := V → V → Hp → VK → Prop
noncomputable def OpR (X : Cx) (f : Value → Value → Sem Value) (r : R2) : Prop :=
  ∀ (pins : List (Addr × Obj)) (s : Shared) (σ : St) (H : Hp) (x y : V) (v u : Value) (Q : VK), Inv X pins σ H s → RelV x v → RelV y u → r x y H Q →
    wpAny (model X.prog X.w) X.A (f v u) (EP X pins σ Q) X.xe s
noncomputable def UnR (X : Cx) (f : Value → Sem Value) (r : V → Hp → VK → Prop) : Prop :=
  ∀ (pins : List (Addr × Obj)) (s : Shared) (σ : St) (H : Hp) (x : V) (v : Value) (Q : VK), Inv X pins σ H s → RelV x v → r x H Q →
    wpAny (model X.prog X.w) X.A (f v) (EP X pins σ Q) X.xe s
noncomputable def CallR (X : Cx) (f : Value) (r : List V → Hp → VK → Prop) : Prop :=
  ∀ (pins : List (Addr × Obj)) (s : Shared) (σ : St) (H : Hp) (xs : List V) (us : List Value) (Q : VK), Inv X pins σ H s → Vals xs us → r xs H Q →
    wpAny (model X.prog X.w) X.A (call f us) (EP X pins σ Q) X.xe s
noncomputable def TruR (X : Cx) (r : V → Hp → (Bool → Hp → Prop) → Prop) : Prop :=
  ∀ (pins : List (Addr × Obj)) (s : Shared) (σ : St) (H : Hp) (x : V) (v : Value) (Q : Bool → Hp → Prop), Inv X pins σ H s → RelV x v → r x H Q →
    wpAny (model X.prog X.w) X.A (truthy v) (TP X pins σ Q) X.xe s
noncomputable def tOp (r : R2) (ta tb : TE) : TE := fun σ H Q => ta σ H fun x H1 => tb σ H1 fun y H2 => r x y H2 Q
noncomputable def tUn (r : V → Hp → VK → Prop) (ta : TE) : TE := fun σ H Q => ta σ H fun x H1 => r x H1 Q
inductive RIP (C : Int → Int → Prop) (g : Int → Int → V) (x y : V) (H : Hp) (Q : VK) : Prop
  | mk : ∀ i j, x = .int i → y = .int j → C i j → Q (g i j) H → RIP C g x y H Q
noncomputable def rI (C : Int → Int → Prop) (g : Int → Int → V) : R2 := RIP C g
inductive RI0P (g : Int → Int → V) (x y : V) (H : Hp) (Q : VK) : Prop
  | mk : ∀ i j, x = .int i → y = .int j → Q (g i j) H → RI0P g x y H Q
noncomputable def rI0 (g : Int → Int → V) : R2 := RI0P g
inductive RUP (g : Int → V) (x : V) (H : Hp) (Q : VK) : Prop
  | mk : ∀ i, x = .int i → Q (g i) H → RUP g x H Q
noncomputable def rU (g : Int → V) : V → Hp → VK → Prop := RUP g
section
variable {X : Cx} {a b c : Expr} {ta tb tc : TE} {pos : Pos}
theorem binT (ha : PE X a ta) (hb : PE X b tb) {pins : List (Addr × Obj)} {s : Shared} {σ : St} {H : Hp} {R : V → V → Hp → Prop} (I : Inv X pins σ H s)
    (h : ta σ H fun x H1 => tb σ H1 fun y H2 => R x y H2) {Q : Value → Shared → Prop} {f : Value → Value → Sem Value}
    (hf : ∀ v u s2 x y H2, Inv X pins σ H2 s2 → RelV x v → RelV y u → R x y H2 → wpAny (model X.prog X.w) X.A (f v u) Q X.xe s2) :
    wpAny (model X.prog X.w) X.A (eval a X.env) (fun v s₁ => wpAny (model X.prog X.w) X.A (eval b X.env) (fun u s₂ => wpAny (model X.prog X.w) X.A (f v u) Q X.xe s₂) X.xe s₁) X.xe s := by
  refine thn (ha pins s σ H _ I h) fun v s1 ⟨x, H1, I1, r1, q1⟩ => ?_
  refine thn (hb pins s1 σ H1 _ I1 q1) fun u s2 ⟨y, H2, I2, r2, q2⟩ => ?_
  exact hf v u s2 x y H2 I2 r1 r2 q2
theorem pe_op {op : Operator} {r : R2} (ho : OpR X (binaryOp op) r) (ha : PE X a ta) (hb : PE X b tb) : PE X (.BinOp a op b pos) (tOp r ta tb) := by
  intro pins s σ H Q I h
  exact wpAny_BinOp (binT ha hb I h fun v u s2 x y H2 I2 rx ry q => ho pins s2 σ H2 x y v u Q I2 rx ry q)
theorem pe_un {op : UnaryOp} {r : V → Hp → VK → Prop} (ho : UnR X (unaryOp op) r) (ha : PE X a ta) : PE X (.UnaryOp op a pos) (tUn r ta) := by
  intro pins s σ H Q I h
  exact UnaryOp_ (thn (ha pins s σ H _ I h) fun v s1 ⟨x, H1, I1, r1, q1⟩ => ho pins s1 σ H1 x v Q I1 r1 q1)
theorem opI {f : Value → Value → Sem Value} {C : Int → Int → Prop} {g : Int → Int → Int}
    (rule : ∀ (i j : Int) (t u : Tok) (s : Shared) (Q : Value → Shared → Prop) (E : Value → Shared → Prop), C i j → Q (.int (g i j) s.toks) { s with toks := s.toks + 1 } → wpAny (model X.prog X.w) X.A (f (.int i t) (.int j u)) Q E s) :
    OpR X f (rI C fun i j => .int (g i j)) := by
  intro pins s σ H x y v u Q I rx ry h
  obtain ⟨i, j, rfl, rfl, hc, q⟩ := h
  obtain ⟨t, rfl⟩ := rx
  obtain ⟨t', rfl⟩ := ry
  exact rule i j t t' s _ _ hc ⟨.int (g i j), H, I.tok _, ⟨_, rfl⟩, q⟩
theorem opI0 {f : Value → Value → Sem Value} {g : Int → Int → Int}
    (rule : ∀ (i j : Int) (t u : Tok) (s : Shared) (Q : Value → Shared → Prop) (E : Value → Shared → Prop), Q (.int (g i j) s.toks) { s with toks := s.toks + 1 } → wpAny (model X.prog X.w) X.A (f (.int i t) (.int j u)) Q E s) :
    OpR X f (rI0 fun i j => .int (g i j)) := by
  intro pins s σ H x y v u Q I rx ry h
  obtain ⟨i, j, rfl, rfl, q⟩ := h
  obtain ⟨t, rfl⟩ := rx
  obtain ⟨t', rfl⟩ := ry
  exact rule i j t t' s _ _ ⟨.int (g i j), H, I.tok _, ⟨_, rfl⟩, q⟩
theorem opB0 {f : Value → Value → Sem Value} {g : Int → Int → Bool}
    (rule : ∀ (i j : Int) (t u : Tok) (s : Shared) (Q : Value → Shared → Prop) (E : Value → Shared → Prop), Q (.bool (g i j)) s → wpAny (model X.prog X.w) X.A (f (.int i t) (.int j u)) Q E s) :
    OpR X f (rI0 fun i j => .bl (g i j)) := by
  intro pins s σ H x y v u Q I rx ry h
  obtain ⟨i, j, rfl, rfl, q⟩ := h
  obtain ⟨t, rfl⟩ := rx
  obtain ⟨t', rfl⟩ := ry
  exact rule i j t t' s _ _ ⟨.bl (g i j), H, I, rfl, q⟩
noncomputable def CMul (i j : Int) : Prop := (-(2 ^ 64) < i ∧ i < 2 ^ 64) ∨ (-(2 ^ 64) < j ∧ j < 2 ^ 64)
theorem CMul.ok {i j : Int} (h : CMul i j) : IntMulOk i j := by
  rcases h with ⟨h1, h2⟩ | ⟨h1, h2⟩
  · exact .of_left (intBits_le_64 h1 h2)
  · exact .of_right (intBits_le_64 h1 h2)
theorem op_add : OpR X (binaryOp .Add) (rI0 fun i j => .int (i + j)) := opI0 fun _ _ _ _ _ _ _ q => add_int q
theorem op_sub : OpR X (binaryOp .Sub) (rI0 fun i j => .int (i - j)) := opI0 fun _ _ _ _ _ _ _ q => sub_int q
theorem op_mul : OpR X (binaryOp .Mult) (rI CMul fun i j => .int (i * j)) := opI fun _ _ _ _ _ _ _ hc q => mul_int q hc.ok
theorem unI {f : Value → Sem Value} {g : Int → Int}
    (rule : ∀ (i : Int) (t : Tok) (s : Shared) (Q : Value → Shared → Prop) (E : Value → Shared → Prop), Q (.int (g i) s.toks) { s with toks := s.toks + 1 } → wpAny (model X.prog X.w) X.A (f (.int i t)) Q E s) :
    UnR X f (rU fun i => .int (g i)) := by
  intro pins s σ H x v Q I rx h
  obtain ⟨i, rfl, q⟩ := h
  obtain ⟨t, rfl⟩ := rx
  exact rule i t s _ _ ⟨.int (g i), H, I.tok _, ⟨_, rfl⟩, q⟩
theorem un_neg : UnR X (unaryOp .USub) (rU fun i => .int (-i)) := unI fun _ _ _ _ _ q => neg_int q
end
noncomputable def scal : V → V → Bool
  | .non, .non => true | .non, .int _ => true | .int _, .non => true | .non, .bl _ => true | .bl _, .non => true | .non, .str _ => true | .str _, .non => true
  | .int _, .int _ => true | .bl _, .bl _ => true | .str _, .str _ => true | .byt _, .byt _ => true
  | .int _, .str _ => true | .str _, .int _ => true | .bl _, .str _ => true | .str _, .bl _ => true
  | _, _ => false
noncomputable def rEq : R2 := fun x y H Q => scal x y = true ∧ Q (.bl (decide (x = y))) H
noncomputable def rNe : R2 := fun x y H Q => scal x y = true ∧ Q (.bl (!decide (x = y))) H
theorem dec_int {i j : Int} : decide (V.int i = V.int j) = (i == j) := by
  rw [Bool.eq_iff_iff]
  simp
theorem dec_bl {i j : Bool} : decide (V.bl i = V.bl j) = (i == j) := by
  rw [Bool.eq_iff_iff]
  simp
theorem dec_str {i j : Str} : decide (V.str i = V.str j) = (i == j) := by
  rw [Bool.eq_iff_iff]
  simp
theorem dec_byt {i j : Array UInt8} : decide (V.byt i = V.byt j) = (i.toList == j.toList) := by
  rw [Bool.eq_iff_iff]
  cases i
  cases j
  simp
section
variable {X : Cx} {a b c : Expr} {ta tb tc : TE} {pos : Pos}
theorem fin_bl {pins : List (Addr × Obj)} {σ : St} {H : Hp} {s : Shared} {Q : VK} {k k' : Bool} (I : Inv X pins σ H s) (q : Q (.bl k) H) (e : k = k') : EP X pins σ Q (.bool k') s := by
  subst e
  exact ⟨.bl k, H, I, rfl, q⟩
theorem op_eq : OpR X (compareOp .Eq) rEq := by
  intro pins s σ H x y v u Q I rx ry h
  obtain ⟨hs, q⟩ := h
  cases x with
  | non =>
    cases rx
    cases y with
    | non => cases ry; exact PySem.EqNone.eq_none_none (fin_bl I q (by simp))
    | bl j => cases ry; exact PySem.EqNone.eq_none_bool (fin_bl I q (by simp))
    | int j => obtain ⟨t', rfl⟩ := ry; exact PySem.EqNone.eq_none_int (fin_bl I q (by simp))
    | str j => obtain ⟨t', rfl⟩ := ry; exact PySem.EqNone.eq_none_str (fin_bl I q (by simp))
    | _ => exact absurd (show false = true from hs) Bool.false_ne_true
  | bl i =>
    cases rx
    cases y with
    | non => cases ry; exact PySem.EqNone.eq_bool_none (fin_bl I q (by simp))
    | bl j => cases ry; exact eq_bool (fin_bl I q dec_bl)
    | str j => obtain ⟨t', rfl⟩ := ry; exact PySem.EqMixed.eq_bool_str (fin_bl I q (by simp))
    | _ => exact absurd (show false = true from hs) Bool.false_ne_true
  | int i =>
    obtain ⟨t, rfl⟩ := rx
    cases y with
    | non => cases ry; exact PySem.EqNone.eq_int_none (fin_bl I q (by simp))
    | int j => obtain ⟨t', rfl⟩ := ry; exact eq_int (fin_bl I q dec_int)
    | str j => obtain ⟨t', rfl⟩ := ry; exact PySem.EqMixed.eq_int_str (fin_bl I q (by simp))
    | _ => exact absurd (show false = true from hs) Bool.false_ne_true
  | str i =>
    obtain ⟨t, rfl⟩ := rx
    cases y with
    | non => cases ry; exact PySem.EqNone.eq_str_none (fin_bl I q (by simp))
    | bl j => cases ry; exact PySem.EqMixed.eq_str_bool (fin_bl I q (by simp))
    | int j => obtain ⟨t', rfl⟩ := ry; exact PySem.EqMixed.eq_str_int (fin_bl I q (by simp))
    | str j => obtain ⟨t', rfl⟩ := ry; exact eq_str (fin_bl I q dec_str)
    | _ => exact absurd (show false = true from hs) Bool.false_ne_true
  | byt i =>
    obtain ⟨t, rfl⟩ := rx
    cases y with
    | byt j => obtain ⟨t', rfl⟩ := ry; exact PySem.W.eq_bytes (fin_bl I q dec_byt)
    | _ => exact absurd (show false = true from hs) Bool.false_ne_true
  | _ => cases y <;> exact absurd (show false = true from hs) Bool.false_ne_true
theorem op_ne : OpR X (compareOp .NotEq) rNe := by
  intro pins s σ H x y v u Q I rx ry h
  obtain ⟨hs, q⟩ := h
  cases x with
  | non =>
    cases rx
    cases y with
    | non => cases ry; exact PySem.EqNone.ne_none_none (fin_bl I q (by simp))
    | bl j => cases ry; exact PySem.EqNone.ne_none_bool (fin_bl I q (by simp))
    | int j => obtain ⟨t', rfl⟩ := ry; exact PySem.EqNone.ne_none_int (fin_bl I q (by simp))
    | str j => obtain ⟨t', rfl⟩ := ry; exact PySem.EqNone.ne_none_str (fin_bl I q (by simp))
    | _ => exact absurd (show false = true from hs) Bool.false_ne_true
  | bl i =>
    cases rx
    cases y with
    | non => cases ry; exact PySem.EqNone.ne_bool_none (fin_bl I q (by simp))
    | bl j => cases ry; exact ne_bool (fin_bl I q (congrArg not dec_bl))
    | str j => obtain ⟨t', rfl⟩ := ry; exact PySem.EqMixed.ne_bool_str (fin_bl I q (by simp))
    | _ => exact absurd (show false = true from hs) Bool.false_ne_true
  | int i =>
    obtain ⟨t, rfl⟩ := rx
    cases y with
    | non => cases ry; exact PySem.EqNone.ne_int_none (fin_bl I q (by simp))
    | int j => obtain ⟨t', rfl⟩ := ry; exact ne_int (fin_bl I q (congrArg not dec_int))
    | str j => obtain ⟨t', rfl⟩ := ry; exact PySem.EqMixed.ne_int_str (fin_bl I q (by simp))
    | _ => exact absurd (show false = true from hs) Bool.false_ne_true
  | str i =>
    obtain ⟨t, rfl⟩ := rx
    cases y with
    | non => cases ry; exact PySem.EqNone.ne_str_none (fin_bl I q (by simp))
    | bl j => cases ry; exact PySem.EqMixed.ne_str_bool (fin_bl I q (by simp))
    | int j => obtain ⟨t', rfl⟩ := ry; exact PySem.EqMixed.ne_str_int (fin_bl I q (by simp))
    | str j => obtain ⟨t', rfl⟩ := ry; exact ne_str (fin_bl I q (congrArg not dec_str))
    | _ => exact absurd (show false = true from hs) Bool.false_ne_true
  | byt i =>
    obtain ⟨t, rfl⟩ := rx
    cases y with
    | byt j => obtain ⟨t', rfl⟩ := ry; exact PySem.W.ne_bytes (fin_bl I q (congrArg not dec_byt))
    | _ => exact absurd (show false = true from hs) Bool.false_ne_true
  | _ => cases y <;> exact absurd (show false = true from hs) Bool.false_ne_true
theorem op_lt : OpR X (compareOp .Lt) (rI0 fun i j => .bl (decide (i < j))) := opB0 fun _ _ _ _ _ _ _ q => lt_int q
theorem op_le : OpR X (compareOp .LtE) (rI0 fun i j => .bl (decide (i ≤ j))) := opB0 fun _ _ _ _ _ _ _ q => le_int q
theorem op_gt : OpR X (compareOp .Gt) (rI0 fun i j => .bl (decide (j < i))) := opB0 fun _ _ _ _ _ _ _ q => gt_int q
theorem op_notN : OpR X (compareOp .IsNot) (fun x y H Q => y = .non ∧ Q (.bl (!decide (x = .non))) H) := by
  intro pins s σ H x y v u Q I rx ry h
  obtain ⟨rfl, q⟩ := h
  cases ry
  refine isnot_none_gen (fin_bl I q ?_)
  cases x <;> first
    | (cases rx; rfl)
    | (obtain ⟨t, rfl⟩ := rx; rfl)
theorem OpR.or {f : Value → Value → Sem Value} {r r' : R2} (h : OpR X f r) (h' : OpR X f r') : OpR X f (fun x y H Q => r x y H Q ∨ r' x y H Q) := by
  intro pins s σ H x y v u Q I rx ry q
  rcases q with q | q
  · exact h pins s σ H x y v u Q I rx ry q
  · exact h' pins s σ H x y v u Q I rx ry q
theorem nomark (b : Expr) {op : CmpOp} (h : op ≠ .In := by decide) (h2 : op ≠ .NotIn := by decide) : behindInMarks op b = false := by
  have e1 : (op == CmpOp.In) = false := by cases op <;> first | rfl | exact absurd rfl h
  have e2 : (op == CmpOp.NotIn) = false := by cases op <;> first | rfl | exact absurd rfl h2
  cases b <;> simp [behindInMarks, e1, e2]
theorem pe_cmpR {op : CmpOp} {r : R2} (ho : OpR X (compareOp op) r) (ha : PE X a ta) (hb : PE X b tb) (hm : behindInMarks op b = false) : PE X (.Compare a [op] [b] pos) (tOp r ta tb) := by
  intro pins s σ H Q I h
  exact wpAny_Compare1 (binT ha hb I h fun v u s2 x y H2 I2 rx ry q => ho pins s2 σ H2 x y v u Q I2 rx ry q) hm
noncomputable def tTest (t : TE) : TT := fun σ H Q => t σ H (BoolP Q)
theorem pt_cmpR {op : CmpOp} {r : R2} (ho : OpR X (compareOp op) r) (ha : PE X a ta) (hb : PE X b tb) (hm : behindInMarks op b = false) : PT X (.Compare a [op] [b] pos) (tTest (tOp r ta tb)) := by
  intro pins s σ H Q I h
  refine wpAny_isTrue_Compare1 (thn (ha pins s σ H _ I h) fun v s1 ⟨x, H1, I1, r1, q1⟩ => thn (hb pins s1 σ H1 _ I1 q1) fun u s2 ⟨y, H2, I2, r2, q2⟩ =>
    thn (ho pins s2 σ H2 x y v u _ I2 r1 r2 q2) fun c s3 ⟨z, H3, I3, r3, k, e, q3⟩ => ?_) hm
  subst e
  cases r3
  exact wpAny_truthy_bool ⟨H3, I3, q3⟩
noncomputable def tChain (r r' : R2) (ta tb tc : TE) : TE := fun σ H Q => ta σ H fun x H1 => tb σ H1 fun y H2 => r x y H2 fun z H3 => ∃ k, z = .bl k ∧
  (if k = true then tc σ H3 fun w' H4 => r' y w' H4 Q else Q (.bl false) H3)
theorem pe_chain {op op' : CmpOp} {r r' : R2} (ho : OpR X (compareOp op) r) (ho' : OpR X (compareOp op') r') (ha : PE X a ta) (hb : PE X b tb) (hc : PE X c tc)
    (hm : lastMarks [op, op'] [b, c] = false := by with_unfolding_all rfl) : PE X (.Compare a [op, op'] [b, c] pos) (tChain r r' ta tb tc) := by
  intro pins s σ H Q I h
  refine Compare_chain (thn (ha pins s σ H _ I h) fun v s1 ⟨x, H1, I1, r1, q1⟩ => chain_link (thn (hb pins s1 σ H1 _ I1 q1) fun u s2 ⟨y, H2, I2, r2, q2⟩ =>
    thn (ho pins s2 σ H2 x y v u _ I2 r1 r2 q2) fun d s3 ⟨z, H3, I3, r3, k, e, q3⟩ => ?_)) hm
  subst e
  cases r3
  refine wpAny_truthy_bool ?_
  cases k with
  | false => exact ite_ff ⟨.bl false, H3, I3, rfl, q3⟩
  | true => exact ite_tt (chain_last (thn (hc pins s3 σ H3 _ I3 q3) fun w' s4 ⟨z', H4, I4, r4, q4⟩ => ho' pins s4 σ H4 y z' u w' Q I4 r2 r4 q4))
noncomputable def TruV (K : PySem.W.Frag) (x : V) (H : Hp) (k : Bool) : Prop :=
  match x with
  | .non => k = false
  | .bl b => k = b
  | .int i => k = (i != 0)
  | .str y => y.length ≤ sizeLine ∧ k = ((y.length : Int) != 0)
  | .byt y => y.size ≤ sizeLine ∧ k = ((y.size : Int) != 0)
  | .ref p => (∃ xs, SqL K H p xs ∧ k = !xs.isEmpty) ∨ (∃ xs, SqT K H p xs ∧ k = !xs.isEmpty) ∨ ∃ kvs, H p = some (.dK kvs) ∧ k = !kvs.isEmpty
  | _ => False
theorem isEmpty_kv {κ : Type} {kvs : List (κ × V)} {vs : List (κ × Value)} (r : KV kvs vs) : (!vs.isEmpty) = !kvs.isEmpty := by
  cases r <;> rfl
theorem isEmpty_of {xs : List V} {its : List Value} (r : Vals xs its) : (!its.toArray.isEmpty) = !xs.isEmpty := by
  cases r <;> simp
theorem line63 : (sizeLine : Nat) < 2 ^ 63 := by rw [sizeLine_eq]; decide
theorem tru_ok : TruR X (fun x H Q => ∃ k, TruV X.K x H k ∧ Q k H) := by
  intro pins s σ H x v Q I rx h
  obtain ⟨k, e, q⟩ := h
  have hl := line63
  have hs : sizeLine = 16777216 := sizeLine_eq
  cases x with
  | non =>
    cases rx
    have e' : k = false := e
    subst e'
    exact truthy_none ⟨H, I, q⟩
  | bl b =>
    cases rx
    have e' : k = b := e
    subst e'
    exact wpAny_truthy_bool ⟨H, I, q⟩
  | int i =>
    obtain ⟨t, rfl⟩ := rx
    have e' : k = (i != 0) := e
    subst e'
    exact PySem.P.truthy_int ⟨H, I, q⟩
  | str y =>
    obtain ⟨t, rfl⟩ := rx
    obtain ⟨hy, e'⟩ : y.length ≤ sizeLine ∧ k = ((y.length : Int) != 0) := e
    subst e'
    exact PySem.P.truthy_str (by omega) ⟨H, I.tok _, q⟩
  | byt y =>
    obtain ⟨t, rfl⟩ := rx
    obtain ⟨hy, e'⟩ : y.size ≤ sizeLine ∧ k = ((y.size : Int) != 0) := e
    subst e'
    exact PySem.W.truthy_bytes (by omega) ⟨H, I.tok _, q⟩
  | ref p =>
    cases rx
    have e' : (∃ xs, SqL X.K H p xs ∧ k = !xs.isEmpty) ∨ (∃ xs, SqT X.K H p xs ∧ k = !xs.isEmpty) ∨ ∃ kvs, H p = some (.dK kvs) ∧ k = !kvs.isEmpty := e
    rcases e' with ⟨xs, hx, e'⟩ | ⟨xs, hx, e'⟩ | ⟨kvs, hx, e'⟩
    · subst e'
      obtain ⟨its, r, pl, hz⟩ := I.list hx
      have hlen := r.length
      exact wpAny_truthy_list pl.isList (by simp only [List.size_toArray]; omega) ⟨H, I.tok _, by rw [isEmpty_of r]; exact q⟩
    · subst e'
      obtain ⟨its, r, pl, hz⟩ := I.tuple hx
      have hlen := r.length
      exact truthy_tuple pl (by simp only [List.size_toArray]; omega) ⟨H, I.tok _, by rw [isEmpty_of r]; exact q⟩
    · subst e'
      obtain ⟨hz, hS, vs, r, m⟩ : kvs.length ≤ sizeLine ∧ (p == sysModules) = false ∧ ∃ vs, KV kvs vs ∧ s.heap.DictOf (mixKind X.prog X.w) p vs := I.hok p _ hx
      have hlen : kvs.length = vs.length := Paired.length r
      exact wpAny_truthy_dict hS m (by omega) ⟨H, I.tok _, by rw [isEmpty_kv r]; exact q⟩
  | _ => exact (show False from e).elim
theorem pt_truth (ha : PE X a ta) (he : ∀ whole, isTrue a X.env whole = (do let v ← whole; standAt a.pos; holding [v] (truthy v))) :
    PT X a (fun σ H Q => ta σ H fun x H' => ∃ k, TruV X.K x H' k ∧ Q k H') := by
  intro pins s σ H Q I h
  exact isTrue_plain (thn (ha pins s σ H _ I h) fun v s1 ⟨x, H1, I1, r1, q1⟩ => tru_ok pins s1 σ H1 x v Q I1 r1 q1) (he _)
theorem vals1 {x : V} {us : List Value} (r : Vals [x] us) : ∃ u, us = [u] ∧ RelV x u := by
  cases r with
  | cons r1 r2 => cases r2; exact ⟨_, rfl, r1⟩
theorem vals2 {x y : V} {us : List Value} (r : Vals [x, y] us) : ∃ u w', us = [u, w'] ∧ RelV x u ∧ RelV y w' := by
  cases r with
  | cons r1 r2 =>
    cases r2 with
    | cons r3 r4 => cases r4; exact ⟨_, _, rfl, r1, r3⟩
theorem call_min2 (hc : X.calm = true) : CallR X (.builtin "min") (fun xs H Q => ∃ i j, xs = [.int i, .int j] ∧ Q (.int (if j < i then j else i)) H) := by
  intro pins s σ H xs us Q I r h
  obtain ⟨i, j, rfl, q⟩ := h
  obtain ⟨u, w', rfl, ⟨t, rfl⟩, ⟨t', rfl⟩⟩ := vals2 r
  refine min_two_ints (I.ok.hd hc) fun h' tk k => ⟨_, H, I.kept k, ?_, q⟩
  by_cases hj : j < i
  · rw [if_pos hj, if_pos hj]; exact ⟨_, rfl⟩
  · rw [if_neg hj, if_neg hj]; exact ⟨_, rfl⟩
end
end L2
namespace L2
open PySem PySem.Spec PyProof.Rows
structure ObjM (h : Heap) (x dx C : Addr) (mA : Str → Option Value) : Prop where
  obj : h.get? x = some (PySem.W.instObj C dx)
  ns : h.Ns1 dx mA
  ne : dx ≠ x
theorem lookIn_ns {h : Heap} {dx : Addr} {mA : Str → Option Value} (n : h.Ns1 dx mA) : ∃ od, h.get? dx = some od ∧ ∀ name, PySem.W.lookIn name od = some (mA name) := by
  obtain ⟨o, es, ep, ho, hd, hk, _, hm⟩ := n
  refine ⟨o, ho, fun name => ?_⟩
  have e := hm name
  unfold nsFind findBy at e
  rw [← Array.find?_toList] at e
  unfold PySem.W.lookIn
  rw [hd]
  dsimp only
  split
  · rename_i y q
    rw [q] at e
    exact congrArg some e
  · rename_i q
    rw [q] at e
    have a : es.toList.any (·.refKey) = false := by
      rw [List.any_eq_false]
      intro y hy
      obtain ⟨z, t, hkey⟩ := hk y (Array.mem_toList_iff.mp hy)
      simp [DictEntry.refKey, hkey]
    have a' : ¬ es.toList.any (·.refKey) = true := by rw [a]; exact Bool.false_ne_true
    rw [if_neg a']
    exact congrArg some e
theorem ObjM.look {h : Heap} {x dx C : Addr} {mA : Str → Option Value} (I : ObjM h x dx C mA) : ∃ od, PySem.W.InstAt h x (PySem.W.instObj C dx) C (some od) ∧ ∀ name, PySem.W.lookIn name od = some (mA name) :=
  let ⟨od, ho, hl⟩ := lookIn_ns I.ns
  ⟨od, ⟨I.obj, rfl, rfl, ho⟩, hl⟩
section
variable {prog : Program} {w : World} {A : Around} {E : Value → Shared → Prop} {s : Shared} {K : PySem.W.Frag} {x dx C f : Addr} {mA : Str → Option Value} {name : Str} {v : Value}
theorem get_map {expr : Bool} {Q : Value → Shared → Prop} (X : K.In s.heap) (I : ObjM s.heap x dx C mA) (hg : PySem.W.plainGet K C name = true) (hh : PySem.W.hasDictIn K C = true)
    (ha : PySem.W.findIn K (.ref C) name = some none) (hv : mA name = some v) (hv' : PySem.W.handedIn v = true) (h : Q v { s with toks := s.toks + 1 }) :
    wpAny (model prog w) A (getAttr (.ref x) name expr) Q E s := by
  obtain ⟨od, J, hl⟩ := I.look
  exact PySem.W.get_value X J (PySem.W.plainGet_of hg).1 (PySem.W.findObj_own hh ha rfl (by rw [hl, hv])) hv' h
theorem get_meth {pl : Sem Bool} {Q : Value × List Value → Shared → Prop} (X : K.In s.heap) (I : ObjM s.heap x dx C mA) (hg : PySem.W.plainGet K C name = true)
    (hf : PySem.W.findIn K (.ref C) name = some (some (.ref f))) (ht : PySem.W.isFn K (.ref f) = true) (hv : mA name = none) (h : Q (.ref f, [.ref x]) s) :
    wpAny (model prog w) A (getMethod (.ref x) name pl) Q E s := by
  obtain ⟨od, J, hl⟩ := I.look
  exact PySem.W.method_fn X J (PySem.W.plainGet_of hg).1 (PySem.W.plainGet_of hg).2 hf (beq_iff_eq.mp ht) (by show (PySem.W.lookIn name od).map (·.isSome) = some false; rw [hl, hv]; rfl) h
theorem set_map {ns : List Str} {Q : Unit → Shared → Prop} (X : K.In s.heap) (I : ObjM s.heap x dx C mA)
    (hs : PySem.W.findIn K (.ref C) "__setattr__" = some (some (.builtin "object.__setattr__"))) (hp : PySem.W.plainOver K C = true) (ht : PySem.W.takerIn K C name = some none) (hh : PySem.W.hasDictIn K C = true)
    (hw : PySem.Within mA ns) (hsz : ns.length ≤ sizeLine)
    (h : ∀ h', ObjM h' x dx C (fun y => if y = name then some v else mA y) → Heap.SameBut dx s.heap h' → Q () { s with heap := h', toks := s.toks + 2 }) :
    wpAny (model prog w) A (setAttr (.ref x) name v) Q E s := by
  obtain ⟨od, J, hl⟩ := I.look
  refine PySem.W.set_plain X J hs (PySem.W.osa_open (s := { s with toks := s.toks + 1 }) (r := none) X J hp ht fun b => ?_)
  obtain ⟨cd, hc, hd'⟩ := PySem.W.any_some hh
  have hx : s.heap.get? x = some ⟨.ref C, some dx, .plain, #[]⟩ := I.obj
  refine wpAny_bind (wpAny_pure (wpAny_bind (wpAny_bind (wpAny_loadPart hx (wpAny_bind (PySem.W.Looks.here (s := { s with toks := s.toks + 1 }) (PySem.W.looks_clsIn X hc) ?_))))))
  rw [hd']
  refine wpAny_pure (a := some dx) (wpAny_bind (wpAny_pure (wpAny_bind ?_)))
  refine wpAny_nsSet1 (s := { s with toks := s.toks + 1 }) I.ns fun h' hn2 hs2 => ?_
  obtain ⟨oD, esD, epD, hoD, hdD, hcD⟩ := hn2.count (PySem.Within.cons name v hw)
  refine wpAny_bind (wpAny_lookBehind hoD (by rw [hdD]; exact pastItsLine_dict (Nat.le_trans hcD (by rw [List.length_cons]; omega))) ?_)
  exact wpAny_pure (h _ ⟨(hs2.2 _ (Ne.symm I.ne)).trans I.obj, hn2, I.ne⟩ hs2)
theorem make_map {R : Result → Shared → Prop} {vs : List Value} {kw : List (Str × Value)} (X : K.In s.heap) (hm : PySem.W.makesIn K C = true)
    (hi : PySem.W.findIn K (.ref C) "__init__" = some (some (.ref f))) (hf : PySem.W.typeIn K (.ref f) = some (.type "function"))
    (h : codeAny (model prog w) (A.under (.builtin "type.__call__" ⟨.ref C :: vs, kw⟩)) (.call (.ref f) ⟨.ref (s.heap.objs.size + 1) :: vs, kw⟩) (PySem.W.InitBack (s.heap.objs.size + 1) R)
      { s with heap := (s.heap.push PySem.W.emptyDict).push (PySem.W.instObj C s.heap.objs.size) }) :
    codeAny (model prog w) A (.call (.ref C) ⟨vs, kw⟩) R s := by
  obtain ⟨hh, g, d, t, os⟩ := s
  exact PySem.W.make_core (PySem.W.makes_of X hm) (PySem.W.looks_findIn X hi) (fun self => PySem.W.bind_fn X self hf) (.inl rfl) h
end
noncomputable def putF (f : Str) (v : V) : List (Str × V) → List (Str × V)
  | [] => [(f, v)]
  | (g, x) :: r => if g = f then (g, v) :: r else (g, x) :: putF f v r
theorem lookup_putF (f g : Str) (v : V) : ∀ fs : List (Str × V), (putF f v fs).lookup g = if g = f then some v else fs.lookup g
  | [] => by
    show List.lookup g [(f, v)] = _
    by_cases h : g = f
    · have hb : (g == f) = true := beq_iff_eq.mpr h
      simp only [List.lookup, hb, if_pos h]
    · have hb : (g == f) = false := beq_eq_false_iff_ne.mpr h
      simp only [List.lookup, hb, if_neg h]
  | (k, x) :: r => by
    have ih := lookup_putF f g v r
    rw [show putF f v ((k, x) :: r) = (if k = f then (k, v) :: r else (k, x) :: putF f v r) from rfl]
    by_cases hk : k = f
    · rw [if_pos hk]
      by_cases h : g = k
      · have hb : (g == k) = true := beq_iff_eq.mpr h
        simp only [List.lookup, hb, if_pos (h.trans hk)]
      · have hb : (g == k) = false := beq_eq_false_iff_ne.mpr h
        simp only [List.lookup, hb, if_neg (fun e : g = f => h (e.trans hk.symm))]
    · rw [if_neg hk]
      by_cases h : g = k
      · have hb : (g == k) = true := beq_iff_eq.mpr h
        simp only [List.lookup, hb, if_neg (fun e : g = f => hk (h.symm.trans e))]
      · have hb : (g == k) = false := beq_eq_false_iff_ne.mpr h
        simp only [List.lookup, hb]
        exact ih
theorem keys_putF (f : Str) (v : V) : ∀ fs : List (Str × V), f ∈ (putF f v fs).map (·.1) ∧ ∀ g, g ∈ fs.map (·.1) → g ∈ (putF f v fs).map (·.1)
  | [] => ⟨by simp [putF], fun g h => by simp at h⟩
  | (k, x) :: r => by
    obtain ⟨i1, i2⟩ := keys_putF f v r
    rw [show putF f v ((k, x) :: r) = (if k = f then (k, v) :: r else (k, x) :: putF f v r) from rfl]
    by_cases hk : k = f
    · rw [if_pos hk]
      subst hk
      exact ⟨by simp, fun g h => by simpa using h⟩
    · rw [if_neg hk]
      refine ⟨?_, fun g h => ?_⟩
      · rw [List.map_cons]
        exact List.mem_cons_of_mem _ i1
      · rw [List.map_cons] at h ⊢
        rcases List.mem_cons.mp h with e | e
        · exact List.mem_cons.mpr (.inl e)
        · exact List.mem_cons_of_mem _ (i2 g e)
theorem length_putF (f : Str) (v : V) : ∀ fs : List (Str × V), (putF f v fs).length ≤ fs.length + 1
  | [] => by simp [putF]
  | (k, x) :: r => by
    have ih := length_putF f v r
    rw [show putF f v ((k, x) :: r) = (if k = f then (k, v) :: r else (k, x) :: putF f v r) from rfl]
    by_cases hk : k = f
    · rw [if_pos hk, List.length_cons, List.length_cons]; omega
    · rw [if_neg hk, List.length_cons, List.length_cons]; omega
theorem RelO.some_of {v : V} {o : Option Value} (r : RelO (some v) o) : ∃ u, o = some u ∧ RelV v u := by
  cases o with
  | none => exact (show False from r).elim
  | some u => exact ⟨u, rfl, r⟩
theorem RelO.none_of {o : Option Value} (r : RelO none o) : o = none := by
  cases o with
  | none => rfl
  | some u => exact (show False from r).elim
theorem handed_of {v : V} {u : Value} (r : RelV v u) : PySem.W.handedIn u = true := by
  cases v with
  | non => cases (show u = Value.none from r); rfl
  | bl b => cases (show u = Value.bool b from r); rfl
  | int i => obtain ⟨t, e⟩ := (show ∃ t, u = Value.int i t from r); cases e; rfl
  | str x => obtain ⟨t, e⟩ := (show ∃ t, u = Value.str x t from r); cases e; rfl
  | byt b => obtain ⟨t, e⟩ := (show ∃ t, u = Value.bytes b t from r); cases e; rfl
  | flt b => obtain ⟨t, e⟩ := (show ∃ t, u = Value.float b t from r); cases e; rfl
  | ref a => cases (show u = Value.ref a from r); rfl
  | ty n => cases (show u = Value.type n from r); rfl
section
variable {P : Program} {w : World} {H H' : Hp} {h h' : Heap} {a C dx : Addr} {fs fs' : List (Str × V)}
theorem ins_get (hok : HOk P w H h) (e : H a = some (.ins C dx fs)) : ∃ mA, ObjM h a dx C mA ∧ (∀ f, RelO (fs.lookup f) (mA f)) ∧ PySem.Within mA (fs.map (·.1)) ∧ fs.length ≤ 1000 ∧ H dx = some (.own a) := by
  obtain ⟨d, z, ne, ob, mA, n, r, q⟩ := (show ObjOk P w H h a (.ins C dx fs) from hok a _ e)
  exact ⟨mA, ⟨ob, n, ne⟩, r, q, z, d⟩
end
structure Cls (K : PySem.W.Frag) (C : Addr) : Prop where
  pg : PySem.W.plainGet K C Str.empty = true
  hd : PySem.W.hasDictIn K C = true
  po : PySem.W.plainOver K C = true
  sa : PySem.W.findIn K (.ref C) "__setattr__" = some (some (.builtin "object.__setattr__"))
theorem Cls.get {K : PySem.W.Frag} {C : Addr} (c : Cls K C) (f : Str) : PySem.W.plainGet K C f = true := c.pg
noncomputable def NoAttr (K : PySem.W.Frag) (C : Addr) (f : Str) : Prop := PySem.W.findIn K (.ref C) f = some none
theorem NoAttr.taker {K : PySem.W.Frag} {C : Addr} {f : Str} (n : NoAttr K C f) : PySem.W.takerIn K C f = some none := by
  unfold PySem.W.takerIn
  rw [show PySem.W.findIn K (.ref C) f = some none from n]
  rfl
structure Con (K : PySem.W.Frag) (C : Addr) (f : Str) (v : V) (u : Value) : Prop where
  at_ : PySem.W.findIn K (.ref C) f = some (some u)
  rel : RelV v u
  get : PySem.W.specialIn K u "__get__" = some none
  cp : PySem.W.copiedNames.contains f = false
structure Meth (K : PySem.W.Frag) (C : Addr) (m : Str) (f : Addr) : Prop where
  at_ : PySem.W.findIn K (.ref C) m = some (some (.ref f))
  fn : PySem.W.isFn K (.ref f) = true
  kp : PySem.W.keepIn K (.ref f) = true
section
variable {X : Cx} {pins : List (Addr × Obj)} {σ : St} {H : Hp} {s : Shared} {a C dx : Addr} {fs : List (Str × V)} {f : Str} {v : V} {A : Around} {E : Value → Shared → Prop}
theorem getattr_ok {b : Bool} {Q : Value → Shared → Prop} (I : Inv X pins σ H s) (e : H a = some (.ins C dx fs)) (c : Cls X.K C) (n : NoAttr X.K C f) (l : fs.lookup f = some v)
    (h : ∀ u s', Inv X pins σ H s' → RelV v u → Q u s') : wpAny (model X.prog X.w) A (getAttr (.ref a) f b) Q E s := by
  obtain ⟨mA, O, r, _, _, _⟩ := ins_get I.hok e
  obtain ⟨u, hu, ru⟩ := RelO.some_of (v := v) (o := mA f) (by rw [← l]; exact r f)
  exact get_map I.kIn O (c.get f) c.hd n hu (handed_of ru) (h u _ (I.tok _) ru)
theorem getmeth_ok {m : Str} {g : Addr} {pl : Sem Bool} {Q : Value × List Value → Shared → Prop} (I : Inv X pins σ H s) (e : H a = some (.ins C dx fs)) (c : Cls X.K C) (k : Meth X.K C m g) (l : fs.lookup m = none)
    (h : Q (.ref g, [.ref a]) s) : wpAny (model X.prog X.w) A (getMethod (.ref a) m pl) Q E s := by
  obtain ⟨mA, O, r, _, _, _⟩ := ins_get I.hok e
  have hn : mA m = none := RelO.none_of (by rw [← l]; exact r m)
  exact get_meth I.kIn O (c.get m) k.at_ k.fn hn h
theorem setattr_ok {y : V} {u : Value} {Q : Unit → Shared → Prop} (I : Inv X pins σ H s) (e : H a = some (.ins C dx fs)) (c : Cls X.K C) (n : NoAttr X.K C f) (hl : fs.length < 1000) (ry : RelV y u)
    (h : ∀ s', Inv X pins σ (upd H a (.ins C dx (putF f y fs))) s' → Q () s') : wpAny (model X.prog X.w) A (setAttr (.ref a) f u) Q E s := by
  obtain ⟨mA, O, r, wi, _, ho⟩ := ins_get I.hok e
  have hz : (fs.map (·.1)).length ≤ sizeLine := by rw [List.length_map, sizeLine_eq]; omega
  refine set_map I.kIn O c.sa c.po n.taker c.hd wi hz fun h' O' sb => h _ ?_
  have hd : ∃ o, h'.get? dx = some o := let ⟨o, _, _, e', _⟩ := O'.ns; ⟨o, e'⟩
  refine I.write (x := a) (e := dx) (by rw [e]; exact True.intro) (.inr ho) (fun b q hb z => (sb.2 b hb).trans z) hd ?_
  refine ⟨by rw [upd_ne O.ne]; exact ho, ?_, O.ne, O'.obj, _, O'.ns, fun g => ?_, fun g hg => ?_⟩
  · have := length_putF f y fs; omega
  · show RelO ((putF f y fs).lookup g) (if g = f then some u else mA g)
    rw [lookup_putF]
    by_cases q : g = f
    · rw [if_pos q, if_pos q]; exact ry
    · rw [if_neg q, if_neg q]; exact r g
  · by_cases q : g = f
    · rw [q]; exact (keys_putF f y fs).1
    · refine (keys_putF f y fs).2 g (wi g fun z => hg ?_)
      show (if g = f then some u else mA g) = none
      rw [if_neg q]; exact z
theorem Inv.made (I : Inv X pins σ H s) : Inv X pins σ (upd (upd H s.heap.objs.size (.own (s.heap.objs.size + 1))) (s.heap.objs.size + 1) (.ins C s.heap.objs.size []))
    { s with heap := (s.heap.push PySem.W.emptyDict).push (PySem.W.instObj C s.heap.objs.size) } := by
  have e1 : (s.heap.push PySem.W.emptyDict).get? s.heap.objs.size = some PySem.W.emptyDict := Heap.get?_push_size s.heap rfl
  have e2 : ((s.heap.push PySem.W.emptyDict).push (PySem.W.instObj C s.heap.objs.size)).get? (s.heap.objs.size + 1) = some (PySem.W.instObj C s.heap.objs.size) := by
    have := Heap.get?_push_size (s.heap.push PySem.W.emptyDict) (o := PySem.W.instObj C s.heap.objs.size) rfl
    rwa [Heap.size_push] at this
  have e3 : (s.heap.push PySem.W.emptyDict).Ns s.heap.objs.size (fun _ => none) := ⟨PySem.W.emptyDict, #[], _, e1, rfl, (fun e he => absurd he (by simp)), fun _ => rfl⟩
  have I1 := I.laid (a := s.heap.objs.size) (o := .own (s.heap.objs.size + 1)) (h' := s.heap.push PySem.W.emptyDict) (t' := s.toks) (fun b u q => Heap.get?_push_of_some _ q) (Nat.le_refl _) ⟨_, e1⟩
  refine I1.laid (a := s.heap.objs.size + 1) (o := .ins C s.heap.objs.size []) (t' := s.toks) (fun b u q => Heap.get?_push_of_some _ q) (Nat.le_of_eq (Heap.size_push _ _)) ?_
  have ne : s.heap.objs.size ≠ s.heap.objs.size + 1 := Nat.ne_of_lt (Nat.lt_succ_self _)
  refine ⟨by rw [upd_ne ne, upd_same], Nat.zero_le _, ne, e2, fun _ => none, (Heap.Ns1.of_empty e3).at fun o q => Heap.get?_push_of_some _ q, fun _ => True.intro, fun y hy => absurd rfl hy⟩
theorem attr_of {prog : Program} {w : World} {env : Env} {e : Expr} {f : Str} {pos : Pos} {s : Shared} {Q : Value → Shared → Prop} (hb : attributeBase e f env (eval e env) = eval e env)
    (h : wpAny (model prog w) A (eval e env) (fun o s₁ => wpAny (model prog w) A (getAttr o f true) Q E s₁) E s) : wpAny (model prog w) A (eval (.Attribute e f pos) env) Q E s :=
  Attribute_any_ h (by rw [arm_eval_Attribute, hb])
end
inductive FldP (K : PySem.W.Frag) (f : Str) (Q : VK) (x : V) (H : Hp) : Prop
  | mk : ∀ a C dx fs v, x = .ref a → H a = some (.ins C dx fs) → Cls K C → NoAttr K C f → fs.lookup f = some v → Q v H → FldP K f Q x H
noncomputable def tFld (K : PySem.W.Frag) (ta : TE) (f : Str) : TE := fun σ H Q => ta σ H (FldP K f Q)
inductive SFldP (K : PySem.W.Frag) (f : Str) (R : Hp → Prop) (y : V) (x : V) (H : Hp) : Prop
  | mk : ∀ a C dx fs, x = .ref a → H a = some (.ins C dx fs) → Cls K C → NoAttr K C f → fs.length < 1000 → R (upd H a (.ins C dx (putF f y fs))) → SFldP K f R y x H
noncomputable def sFld (K : PySem.W.Frag) (ta tv : TE) (f : Str) : TS := fun D σ H => tv σ H fun y H1 => ta σ H1 (SFldP K f (D.nx σ) y)
noncomputable def InOp (X : Cx) (op : Operator) (rd : V → V → Hp → VK → Prop) : Prop :=
  ∀ (pins : List (Addr × Obj)) (s : Shared) (σ : St) (H : Hp) (x y : V) (u v : Value) (Q : VK), Inv X pins σ H s → RelV x u → RelV y v → rd x y H Q → wpAny (model X.prog X.w) X.A (inplaceOp op u v) (EP X pins σ Q) X.xe s
inductive PutP (C a : Addr) (f : Str) (R : Hp → Prop) (z : V) (H : Hp) : Prop
  | mk : ∀ dx fs, H a = some (.ins C dx fs) → fs.length < 1000 → R (upd H a (.ins C dx (putF f z fs))) → PutP C a f R z H
inductive SAugP (K : PySem.W.Frag) (f : Str) (tv : Hp → VK → Prop) (rd : V → V → Hp → VK → Prop) (R : Hp → Prop) (x : V) (H : Hp) : Prop
  | mk : ∀ a C dx fs v, x = .ref a → H a = some (.ins C dx fs) → Cls K C → NoAttr K C f → fs.lookup f = some v → (tv H fun y H2 => rd v y H2 (PutP C a f R)) → SAugP K f tv rd R x H
noncomputable def sFldAug (K : PySem.W.Frag) (ta tv : TE) (rd : V → V → Hp → VK → Prop) (f : Str) : TS := fun D σ H => ta σ H (SAugP K f (tv σ) rd (D.nx σ))
section
variable {X : Cx} {o e value : Expr} {f : Str} {pos pos' tpos : Pos} {ta tv : TE}
theorem pe_fld (he : PE X e ta) (hb : attributeBase e f X.env (eval e X.env) = eval e X.env) : PE X (.Attribute e f pos) (tFld X.K ta f) := by
  intro pins s σ H Q I h
  refine attr_of hb (thn (he pins s σ H _ I h) fun u s1 ⟨x, H1, I1, rx, a, C, dx, fs, v, ex, ea, c, n, l, q⟩ => ?_)
  subst ex
  obtain rfl : u = Value.ref a := rx
  exact getattr_ok I1 ea c n l fun u' s2 I2 ru => ⟨v, H1, I2, ru, q⟩
theorem ps_fld (ha : PE X o ta) (hv : PE X value tv) (hs : swapsWith value (some (.Attribute o f pos')) pos.line X.env = pure false) : PS X (.Assign [.Attribute o f pos'] value pos) (sFld X.K ta tv f) := by
  intro pins s σ H D I h
  refine plainObj_wpAny_Assign_Attribute (thn (hv pins s σ H _ I h) fun u s1 ⟨y, H1, I1, ry, q⟩ => thn (ha pins s1 σ H1 _ I1 q) fun ov s2 ⟨x, H2, I2, rx, a, C, dx, fs, ex, ea, c, n, l, q2⟩ => ?_) hs
  subst ex
  obtain rfl : ov = Value.ref a := rx
  exact setattr_ok I2 ea c n l ry fun s3 I3 => ⟨σ, _, I3, q2⟩
theorem ps_fldaug {op : Operator} {rd : V → V → Hp → VK → Prop} (ha : PE X o ta) (hv : PE X value tv) (hop : InOp X op rd) : PS X (.AugAssign (.Attribute o f tpos) op value pos) (sFldAug X.K ta tv rd f) := by
  intro pins s σ H D I h
  refine wpAny_AugAssign_AttributeAny (thn (ha pins s σ H _ I h) fun ov s1 ⟨x, H1, I1, rx, a, C, dx, fs, v, ex, ea, c, n, l, q⟩ => ?_)
  subst ex
  obtain rfl : ov = Value.ref a := rx
  refine getattr_ok I1 ea c n l fun u s2 I2 ru => thn (hv pins s2 σ H1 _ I2 q) fun w3 s3 ⟨y, H2, I3, ry, q3⟩ => thn (hop pins s3 σ H2 v y u w3 _ I3 ru ry q3) fun w4 s4 ⟨z, H3, I4, rz, dx', fs', ea', l', q4⟩ => ?_
  exact setattr_ok I4 ea' c n l' rz fun s5 I5 => ⟨σ, _, I5, q4⟩
inductive RAddP (x y : V) (H : Hp) (Q : VK) : Prop
  | mk : ∀ i j, x = .int i → y = .int j → Q (.int (i + j)) H → RAddP x y H Q
noncomputable def rAdd : V → V → Hp → VK → Prop := RAddP
inductive RSubP (x y : V) (H : Hp) (Q : VK) : Prop
  | mk : ∀ i j, x = .int i → y = .int j → Q (.int (i - j)) H → RSubP x y H Q
noncomputable def rSub : V → V → Hp → VK → Prop := RSubP
theorem in_add : InOp X .Add rAdd := by
  rintro pins s σ H x y u v Q I rx ry ⟨i, j, rfl, rfl, q⟩
  obtain ⟨t, rfl⟩ := (show ∃ t, u = Value.int i t from rx)
  obtain ⟨t', rfl⟩ := (show ∃ t', v = Value.int j t' from ry)
  exact PyProof.Rows.iadd_int ⟨.int (i + j), H, I.tok _, ⟨_, rfl⟩, q⟩
theorem in_sub : InOp X .Sub rSub := by
  rintro pins s σ H x y u v Q I rx ry ⟨i, j, rfl, rfl, q⟩
  obtain ⟨t, rfl⟩ := (show ∃ t, u = Value.int i t from rx)
  obtain ⟨t', rfl⟩ := (show ∃ t', v = Value.int j t' from ry)
  exact PyProof.Rows.isub_int ⟨.int (i - j), H, I.tok _, ⟨_, rfl⟩, q⟩
end
section
variable {X : Cx} {pins : List (Addr × Obj)} {σ : St} {H : Hp} {s : Shared} {A : Around} {E : Value → Shared → Prop} {Q : Value → Shared → Prop} {c : Value} {b : Bool}
inductive TyOf (K : PySem.W.Frag) (H : Hp) : V → Value → Prop where
  | non : TyOf K H .non (.type "NoneType")
  | bl (x : Bool) : TyOf K H (.bl x) (.type "bool")
  | int (i : Int) : TyOf K H (.int i) (.type "int")
  | str (x : Str) : TyOf K H (.str x) (.type "str")
  | flt (x : UInt64) : TyOf K H (.flt x) (.type "float")
  | lst {a : Addr} {xs : List V} (e : H a = some (.lst xs)) : TyOf K H (.ref a) (.type "list")
  | frz {a : Addr} {o : Obj} {xs : List V} (e : H a = some (.frz o (.lst xs))) : TyOf K H (.ref a) (.type "list")
  | tup {a : Addr} {xs : List V} (e : H a = some (.tup xs)) : TyOf K H (.ref a) (.type "tuple")
  | dK {a : Addr} {kvs : List (Key × V)} (e : H a = some (.dK kvs)) : TyOf K H (.ref a) (.type "dict")
  | dT {a : Addr} {kvs : List (List Key × V)} (e : H a = some (.dT kvs)) : TyOf K H (.ref a) (.type "dict")
  | ins {a C dx : Addr} {fs : List (Str × V)} (e : H a = some (.ins C dx fs)) (cl : Cls K C) (ha : PySem.W.findIn K (.ref C) "__class__" = some (some (.builtin "object.__class__")))
      (hn : PySem.W.specialIn K (.builtin "object.__class__") "__get__" = some (some (.builtin "getset_descriptor.__get__"))) (htk : PySem.W.takesIn K (.builtin "object.__class__") = some true)
      (hm : PySem.W.mroIn K C (.type "object") = some true) : TyOf K H (.ref a) (.ref C)
end
end L2
namespace L2
open PySem PySem.Spec PyProof.Rows
structure Room (k : Nat) (A : Around) : Prop where
  hd : A.handled = none
  dp : A.depth + 3 * k + 5 < recursionLimit
  un : A.units + 16 * k + 200 < cLine
theorem Room.mono {j k : Nat} {A : Around} (r : Room k A) (h : j ≤ k) : Room j A := ⟨r.hd, by have := r.dp; omega, by have := r.un; omega⟩
theorem Room.deeper {k : Nat} {A : Around} (r : Room (k + 1) A) (env : Env) : Room k (A.deeper env) :=
  ⟨r.hd, by have := r.dp; show A.depth + 1 + 3 * k + 5 < _; omega, by have := r.un; show A.units + 3 + 16 * k + 200 < _; omega⟩
theorem make_depth {A : Around} {C : Addr} {us : List Value} {kw : List (Str × Value)} : (A.under (.builtin "type.__call__" ⟨.ref C :: us, kw⟩)).depth = A.depth + 1 := by
  first | rfl | simp [Around.under, Code.weight, Code.isCreation, Code.isGuard, Code.isCaller, Code.frames, Code.isFrame, guardIds]
theorem make_units {A : Around} {C : Addr} {us : List Value} {kw : List (Str × Value)} : (A.under (.builtin "type.__call__" ⟨.ref C :: us, kw⟩)).units = A.units + 1 := by
  first | rfl | simp [Around.under, Code.cUnits, Code.frames, Code.isFrame]
theorem Room.make {k : Nat} {A : Around} (r : Room (k + 1) A) (C : Addr) (us : List Value) (kw : List (Str × Value)) : Room k (A.under (.builtin "type.__call__" ⟨.ref C :: us, kw⟩)) :=
  ⟨r.hd, by have := r.dp; rw [make_depth]; omega, by have := r.un; rw [make_units]; omega⟩
theorem Room.depth {k : Nat} {A : Around} (r : Room k A) : A.depth < recursionLimit := by have := r.dp; omega
theorem Room.units {k : Nat} {A : Around} (r : Room k A) : A.units + 64 < cLine := by have := r.un; omega
noncomputable def tNil : TA := fun _ H Q => Q [] H
noncomputable def tCons (ta : TE) (tr : TA) : TA := fun σ H Q => ta σ H fun x H1 => tr σ H1 fun xs H2 => Q (x :: xs) H2
section
variable {X : Cx} {e : Expr} {es : List Expr} {te : TE} {t : TA} {pos : Pos}
theorem pa_nil : PA X [] tNil := fun _ _ _ _ H Q I h => Calls.spliced_nil ⟨[], H, I, .nil, h⟩
theorem pa_cons (ha : PE X e te) (hr : PA X es t) (hs : starEach (e :: es) X.env = (false, eval e X.env) :: starEach es X.env := by rfl) : PA X (e :: es) (tCons te t) := by
  intro pos pins s σ H Q I h
  rw [hs]
  show wpAny _ _ (spliced ((false, eval e X.env) :: backTo pos (starEach es X.env))) _ _ s
  refine Calls.spliced_cons (thn (ha pins s σ H _ I h) fun u s1 ⟨x, H1, I1, r1, q1⟩ => ?_)
  exact thn (hr pos pins s1 σ H1 _ I1 q1) fun us s2 ⟨xs, H2, I2, r2, q2⟩ => ⟨x :: xs, H2, I2, .cons r1 r2, q2⟩
noncomputable def tTup (t : TA) : TE := fun σ H Q => t σ H fun xs H1 => xs.length ≤ sizeLine ∧ ∀ p, H1 p = none → Q (.ref p) (upd H1 p (.tup xs))
noncomputable def tLst (t : TA) : TE := fun σ H Q => t σ H fun xs H1 => xs.length ≤ sizeLine ∧ ∀ p, H1 p = none → Q (.ref p) (upd H1 p (.lst xs))
theorem pe_tup {x1} (h : PA X es t) : PE X (.Tuple es x1 pos) (tTup t) := by
  intro pins s σ H Q I hq
  refine wpAny_Tuple_spliced (thn (h pos pins s σ H _ I hq) fun us s1 ⟨xs, H1, I1, r, z, q⟩ => ⟨by rw [← r.length]; exact z, ?_⟩)
  have hf : H1 s1.heap.objs.size = none := I1.hok.fresh (Nat.le_refl _)
  refine ⟨.ref s1.heap.objs.size, upd H1 s1.heap.objs.size (.tup xs), I1.laid (t' := s1.toks) (fun b u e => Heap.get?_push_of_some _ e) (Nat.le_refl _) ?_, rfl, q _ hf⟩
  exact ⟨z, us, r, ⟨_, Heap.get?_push_size _ rfl, rfl, _, rfl⟩⟩
theorem pe_lst (h : PA X es t) : PE X (.List es pos) (tLst t) := by
  intro pins s σ H Q I hq
  refine wpAny_List_spliced (thn (h pos pins s σ H _ I hq) fun us s1 ⟨xs, H1, I1, r, z, q⟩ => ⟨by rw [← r.length]; exact z, ?_⟩)
  have hf : H1 s1.heap.objs.size = none := I1.hok.fresh (Nat.le_refl _)
  refine ⟨.ref s1.heap.objs.size, upd H1 s1.heap.objs.size (.lst xs), I1.laid (t' := s1.toks) (fun b u e => Heap.get?_push_of_some _ e) (Nat.le_refl _) ?_, rfl, q _ hf⟩
  exact ⟨z, us, 0, r, Heap.get?_push_size _ rfl⟩
end
noncomputable abbrev Sp := List V → Hp → VK → XK → Prop
noncomputable abbrev CXT := List Env → Hp → Shared → XK → Value → Shared → Prop
structure Env0 (P : Program) (w : World) (K : PySem.W.Frag) (mg : Str → Option Value) (base : Heap) (A : Around) (outer : List Env) (s : Shared) (H : Hp) : Prop where
  frames : A.frames = some outer
  mod : Mod K mg base
  bs : ∀ b o, base.get? b = some o → s.heap.get? b = some o ∧ H b = none
  bsz : base.objs.size ≤ s.heap.objs.size
  funs : s.heap.FunFrames base outer
  frf : ∀ b ∈ frs outer, H b = none
  hok : HOk P w H s.heap
  bare : AllBare s.gens
noncomputable def CE (outer : List Env) (P : Program) (w : World) (H : Hp) (s : Shared) (Q : VK) (u : Value) (s' : Shared) : Prop :=
  ∃ v H', s'.os = s.os ∧ AllBare s'.gens ∧ Un (frs outer) [] H H' s.heap s'.heap ∧ HOk P w H' s'.heap ∧ RelV v u ∧ Q v H'
noncomputable def CR (CX : CXT) (outer : List Env) (P : Program) (w : World) (H : Hp) (s : Shared) (Q : VK) (E : XK) (r : Result) (s' : Shared) : Prop :=
  match r with
  | .ok (.ret u) => CE outer P w H s Q u s'
  | .ok _ => False
  | .error e => CX outer H s E e s'
structure FnOk (P : Program) (w : World) (K : PySem.W.Frag) (mg : Str → Option Value) (base : Heap) (CX : CXT) (k : Nat) (f : Addr) (fd : FuncData) (ps : List Str) (sp : Sp) : Prop where
  len : ∀ vs H Q E, sp vs H Q E → vs.length = ps.length
  run : ∀ (A : Around) (outer : List Env) (s : Shared) (H : Hp) (args : Args) (us : List Value) (vs : List V) (Q : VK) (E : XK), Room k A → Env0 P w K mg base A outer s H → BindsTo s fd args (ps.zip us) → Vals vs us → sp vs H Q E →
    codeAny (model P w) A (.call (.ref f) args) (CR CX outer P w H s Q E) s
theorem FnOk.mono {P : Program} {w : World} {K : PySem.W.Frag} {mg : Str → Option Value} {base : Heap} {CX : CXT} {j k : Nat} {f : Addr} {fd : FuncData} {ps : List Str} {sp : Sp} (F : FnOk P w K mg base CX j f fd ps sp) (h : j ≤ k) :
    FnOk P w K mg base CX k f fd ps sp := ⟨F.len, fun A outer s H args us vs Q E hr => F.run A outer s H args us vs Q E (hr.mono h)⟩
theorem FnOk.imp {P : Program} {w : World} {K : PySem.W.Frag} {mg : Str → Option Value} {base : Heap} {CX : CXT} {k : Nat} {f : Addr} {fd : FuncData} {ps : List Str} {sp sp' : Sp} (F : FnOk P w K mg base CX k f fd ps sp)
    (h : ∀ vs H Q E, sp' vs H Q E → sp vs H Q E) : FnOk P w K mg base CX k f fd ps sp' :=
  ⟨fun vs H Q E q => F.len vs H Q E (h _ _ _ _ q), fun A outer s H args us vs Q E hr he hb hv hs => F.run A outer s H args us vs Q E hr he hb hv (h _ _ _ _ hs)⟩
theorem Env0.make {P : Program} {w : World} {K : PySem.W.Frag} {mg : Str → Option Value} {base : Heap} {A : Around} {outer : List Env} {s : Shared} {H : Hp} (e : Env0 P w K mg base A outer s H) (C : Addr) (us : List Value) (kw : List (Str × Value)) :
    Env0 P w K mg base (A.under (.builtin "type.__call__" ⟨.ref C :: us, kw⟩)) outer s H := ⟨by first | exact e.frames | (simpa [Around.under, Code.envs, Code.isFrame, pushEnvs] using e.frames), e.mod, e.bs, e.bsz, e.funs, e.frf, e.hok, e.bare⟩
section
variable {X : Cx} {pins : List (Addr × Obj)} {σ : St} {H : Hp} {s s' : Shared}
theorem Inv.env0 (I : Inv X pins σ H s) : Env0 X.prog X.w X.K X.mg X.base X.A X.stack s H :=
  ⟨I.ok.frames, I.ok.mod, I.bs, Nat.le_trans I.ok.bsz I.sz, I.stack, I.stkFree, I.hok, I.bare⟩
theorem Inv.after {Q : VK} {u : Value} (I : Inv X pins σ H s) (h : CE X.stack X.prog X.w H s Q u s') : EP X pins σ Q u s' := by
  obtain ⟨v, H', os, bare, un, hok, r, q⟩ := h
  obtain ⟨hh, g, d, t, os'⟩ := s'
  obtain rfl : os' = s.os := os
  exact ⟨v, H', I.call (h' := hh) (g' := g) (d' := d) (t' := t) (ch := []) un hok bare (fun b z => absurd z (by simp)), r, q⟩
end
noncomputable def tCall (sp : Sp) (dvs : List V) (E : XK) (t : TA) : TE := fun σ H Q => t σ H fun vs H1 => sp (vs ++ dvs) H1 Q E
inductive MethP (C : Addr) (m : Str) (sp : Sp) (dvs : List V) (E : XK) (t : Hp → (List V → Hp → Prop) → Prop) (Q : VK) (x : V) (H : Hp) : Prop
  | mk : ∀ a dx fs, x = .ref a → H a = some (.ins C dx fs) → fs.lookup m = none → (t H fun vs H2 => sp (x :: (vs ++ dvs)) H2 Q E) → MethP C m sp dvs E t Q x H
noncomputable def tMeth (C : Addr) (m : Str) (sp : Sp) (dvs : List V) (E : XK) (ta : TE) (t : TA) : TE := fun σ H Q => ta σ H (MethP C m sp dvs E (t σ) Q)
noncomputable def tMake (C : Addr) (sp : Sp) (dvs : List V) (E : XK) (t : TA) : TE := fun σ H Q => t σ H fun vs H1 => ∀ x dx, H1 x = none → H1 dx = none → dx ≠ x →
  sp (.ref x :: (vs ++ dvs)) (upd (upd H1 dx (.own x)) x (.ins C dx [])) (fun v H2 => v = .non ∧ Q (.ref x) H2) E
noncomputable def Binds (K : PySem.W.Frag) (fd : FuncData) (ps : List Str) (ds : List Value) : Prop :=
  ∀ (s : Shared) (us : List Value), K.In s.heap → (us ++ ds).length = ps.length → BindsTo s fd ⟨us, []⟩ (ps.zip (us ++ ds))
theorem Binds.all {K : PySem.W.Frag} {fd : FuncData} {ps : List Str} (h : ∀ us : List Value, us.length = ps.length → bindArgs fd ⟨us, []⟩ = pure (ps.zip us)) : Binds K fd ps [] := fun s us _ hl => by
  rw [List.append_nil] at hl ⊢
  exact .of_eq (h us hl)
noncomputable def Passes (CX : CXT) (X : Cx) (E : XK) : Prop := ∀ (pins : List (Addr × Obj)) (σ : St) (H : Hp) (s : Shared) (e : Value) (s' : Shared), Inv X pins σ H s → CX X.stack H s E e s' → X.xe e s'
section
variable {X : Cx} {CX : CXT} {k : Nat} {f C : Addr} {fd : FuncData} {ps : List Str} {sp : Sp} {dvs : List V} {ds : List Value} {E : XK} {x m : Str} {p pos apos : Pos} {e o : Expr} {es : List Expr} {ta : TE} {t : TA}
theorem run_fn {pins : List (Addr × Obj)} {σ : St} {H : Hp} {s : Shared} {Q : VK} {us : List Value} {vs : List V} (F : FnOk X.prog X.w X.K X.mg X.base CX k f fd ps sp) (hr : Room k X.A) (hb : Binds X.K fd ps ds) (hd : Vals dvs ds) (hx : Passes CX X E)
    (I : Inv X pins σ H s) (r : Vals vs us) (h : sp (vs ++ dvs) H Q E) : wpAny (model X.prog X.w) X.A (call (.ref f) us) (EP X pins σ Q) X.xe s := by
  have r2 : Vals (vs ++ dvs) (us ++ ds) := r.append hd
  have hl : (us ++ ds).length = ps.length := by rw [← r2.length]; exact F.len _ _ _ _ h
  refine wpAny_call (codeAny_mono (F.run X.A X.stack s H ⟨us, []⟩ (us ++ ds) (vs ++ dvs) Q E hr I.env0 (hb s us I.kIn hl) r2 h) fun r s' hq => ?_)
  cases r with
  | error e => exact hx pins σ H s e s' I hq
  | ok fl =>
    cases fl with
    | ret u => exact I.after hq
    | next => exact False.elim hq
    | brk => exact False.elim hq
    | cont => exact False.elim hq
theorem pe_call (F : FnOk X.prog X.w X.K X.mg X.base CX k f fd ps sp) (hr : Room k X.A) (hg : Gl X x) (hm : X.mg x = some (.ref f)) (hk : PySem.W.keepIn X.K (.ref f) = true) (hb : Binds X.K fd ps ds) (hd : Vals dvs ds) (hx : Passes CX X E)
    (ha : PA X (e :: es) t) (hdb : (x == ("__debug__" : Str)) = false := by decide) (he : starEach (e :: es) X.env = (false, eval e X.env) :: starEach es X.env := by rfl) (hpl : (backTo pos (starEach es X.env)).any (·.1) = false := by rfl) :
    PE X (.Call (.Name x p) (e :: es) [] pos) (tCall sp dvs E t) := by
  intro pins s σ H Q I h
  refine wpAny_Call_Name_kw (ld_glob I hg hm ?_ hdb)
  refine PySem.W.callWith_K (h₀ := X.base) I.ok.mod.kin hk (thn (ha pos pins s σ H _ I h) fun us s1 ⟨vs, H1, I1, r, q⟩ => ⟨I1.kIn, ?_⟩) he hpl
  exact run_fn F hr hb hd hx I1 r q
theorem pe_meth {pl : Sem Bool} (he : PE X o ta) (c : Cls X.K C) (hm : Meth X.K C m f) (F : FnOk X.prog X.w X.K X.mg X.base CX k f fd ps sp) (hr : Room k X.A) (hb : Binds X.K fd ps ds) (hd : Vals dvs ds) (hx : Passes CX X E) (ha : PA X (e :: es) t)
    (hst : starEach (e :: es) X.env = (false, eval e X.env) :: starEach es X.env := by rfl) (hpl : (backTo pos (starEach es X.env)).any (·.1) = false := by rfl)
    (ht : eval (.Call (.Attribute o m apos) (e :: es) [] pos) X.env = (do
      let ov ← eval o X.env
      standAt apos.atName
      let (f, first) ← holding [ov] (getMethod ov m pl)
      callWith pos f first (backTo pos (starEach (e :: es) X.env)) (backToKw pos (keywordEach [] X.env))) := by rfl) :
    PE X (.Call (.Attribute o m apos) (e :: es) [] pos) (tMeth C m sp dvs E ta t) := by
  intro pins s σ H Q I h
  refine PySem.W.methodCall_KW (pl := pl) (thn (he pins s σ H _ I h) fun u s1 ⟨x, H1, I1, rx, a, dx, fs, ex, ea, l, q⟩ => ?_) ht
  subst ex
  obtain rfl : u = Value.ref a := rx
  refine getmeth_ok I1 ea c hm l ?_
  refine PySem.W.callWith_K (first := [.ref a]) (h₀ := X.base) I.ok.mod.kin hm.kp (thn (ha pos pins s1 σ H1 _ I1 q) fun us s2 ⟨vs, H2, I2, r, q2⟩ => ⟨I2.kIn, ?_⟩) hst hpl
  exact run_fn (us := .ref a :: us) (vs := .ref a :: vs) F hr hb hd hx I2 (.cons rfl r) q2
theorem pe_meth0 {pl : Sem Bool} (he : PE X o ta) (c : Cls X.K C) (hm : Meth X.K C m f) (F : FnOk X.prog X.w X.K X.mg X.base CX k f fd ps sp) (hr : Room k X.A) (hb : Binds X.K fd ps ds) (hd : Vals dvs ds) (hx : Passes CX X E)
    (ht : eval (.Call (.Attribute o m apos) [] [] pos) X.env = (do
      let ov ← eval o X.env
      standAt apos.atName
      let (f, first) ← holding [ov] (getMethod ov m pl)
      callWith pos f first (backTo pos (starEach [] X.env)) (backToKw pos (keywordEach [] X.env))) := by rfl) :
    PE X (.Call (.Attribute o m apos) [] [] pos) (tMeth C m sp dvs E ta tNil) := by
  intro pins s σ H Q I h
  refine PySem.W.methodCall_KW (pl := pl) (thn (he pins s σ H _ I h) fun u s1 ⟨x, H1, I1, rx, a, dx, fs, ex, ea, l, q⟩ => ?_) ht
  subst ex
  obtain rfl : u = Value.ref a := rx
  refine getmeth_ok I1 ea c hm l ?_
  exact PySem.W.callWith_K0 (first := [.ref a]) I1.kIn hm.kp (run_fn (us := [.ref a]) (vs := [.ref a]) F hr hb hd hx I1 (.cons rfl .nil) q)
structure Mk (K : PySem.W.Frag) (C f : Addr) : Prop where
  makes : PySem.W.makesIn K C = true
  init : PySem.W.findIn K (.ref C) "__init__" = some (some (.ref f))
  fn : PySem.W.isFn K (.ref f) = true
  kp : PySem.W.keepIn K (.ref C) = true
theorem run_make {pins : List (Addr × Obj)} {σ : St} {H : Hp} {s : Shared} {Q : VK} {us : List Value} {vs : List V} (M : Mk X.K C f) (F : FnOk X.prog X.w X.K X.mg X.base CX k f fd ps sp) (hr : Room (k + 1) X.A) (hb : Binds X.K fd ps ds) (hd : Vals dvs ds)
    (hx : Passes CX X E) (I : Inv X pins σ H s) (r : Vals vs us)
    (h : ∀ x dx, H x = none → H dx = none → dx ≠ x → sp (.ref x :: (vs ++ dvs)) (upd (upd H dx (.own x)) x (.ins C dx [])) (fun v H2 => v = .non ∧ Q (.ref x) H2) E) :
    wpAny (model X.prog X.w) X.A (call (.ref C) us) (EP X pins σ Q) X.xe s := by
  have hq := h (s.heap.objs.size + 1) s.heap.objs.size (I.hok.fresh (Nat.le_succ _)) (I.hok.fresh (Nat.le_refl _)) (Nat.ne_of_lt (Nat.lt_succ_self _))
  have I2 := Inv.made (C := C) I
  have r2 : Vals (V.ref (s.heap.objs.size + 1) :: (vs ++ dvs)) (Value.ref (s.heap.objs.size + 1) :: (us ++ ds)) := .cons rfl (r.append hd)
  have hl : (Value.ref (s.heap.objs.size + 1) :: us ++ ds).length = ps.length := by
    have e := r2.length
    rw [F.len _ _ _ _ hq] at e
    exact e.symm
  refine wpAny_call (make_map (f := f) I.kIn M.makes M.init (beq_iff_eq.mp M.fn) (codeAny_mono (F.run _ X.stack _ _ ⟨Value.ref (s.heap.objs.size + 1) :: us, []⟩ (Value.ref (s.heap.objs.size + 1) :: (us ++ ds)) _ _ E (hr.make C us [])
    (I2.env0.make C us []) (hb _ (Value.ref (s.heap.objs.size + 1) :: us) I2.kIn hl) r2 hq) fun r s' hq' => ?_))
  cases r with
  | error e => exact hx pins σ _ _ e s' I2 hq'
  | ok fl =>
    cases fl with
    | ret u =>
      obtain ⟨v, H', I3, rv, ev, q3⟩ := I2.after hq'
      subst ev
      exact ⟨rv, ⟨V.ref (s.heap.objs.size + 1), H', I3, rfl, q3⟩⟩
    | next => exact False.elim hq'
    | brk => exact False.elim hq'
    | cont => exact False.elim hq'
theorem pe_make (M : Mk X.K C f) (F : FnOk X.prog X.w X.K X.mg X.base CX k f fd ps sp) (hr : Room (k + 1) X.A) (hg : Gl X x) (hm : X.mg x = some (.ref C)) (hb : Binds X.K fd ps ds) (hd : Vals dvs ds) (hx : Passes CX X E)
    (ha : PA X (e :: es) t) (hdb : (x == ("__debug__" : Str)) = false := by decide) (he : starEach (e :: es) X.env = (false, eval e X.env) :: starEach es X.env := by rfl) (hpl : (backTo pos (starEach es X.env)).any (·.1) = false := by rfl) :
    PE X (.Call (.Name x p) (e :: es) [] pos) (tMake C sp dvs E t) := by
  intro pins s σ H Q I h
  refine wpAny_Call_Name_kw (ld_glob I hg hm ?_ hdb)
  refine PySem.W.callWith_K (h₀ := X.base) I.ok.mod.kin M.kp (thn (ha pos pins s σ H _ I h) fun us s1 ⟨vs, H1, I1, r, q⟩ => ⟨I1.kIn, ?_⟩) he hpl
  exact run_make M F hr hb hd hx I1 r q
end
section
variable {X : Cx} {CX : CXT} {k : Nat} {f C : Addr} {fd : FuncData} {ps ks : List Str} {sp : Sp} {E : XK} {x m : Str} {p pos apos kpos : Pos} {e o : Expr} {es : List Expr} {kws : List Keyword} {te ta : TE} {t tk : TA} {nm : Option Str}
structure KBinds (K : PySem.W.Frag) (fd : FuncData) (ps ks : List Str) (g : List Value → List Value → List Value) (gV : List V → List V → List V) : Prop where
  to : ∀ (s : Shared) (us ws : List Value), K.In s.heap → (g us ws).length = ps.length → BindsTo s fd ⟨us, ks.zip ws⟩ (ps.zip (g us ws))
  rel : ∀ {vs : List V} {us : List Value} {zs : List V} {ws : List Value}, Vals vs us → Vals zs ws → Vals (gV vs zs) (g us ws)
variable {g : List Value → List Value → List Value} {gV : List V → List V → List V}
end
structure FnScope (N P : List Str) (sc : Scope) : Prop where
  kind : sc.kind = .function
  co : sc.isCoroutine = false
  gen : sc.isGenerator = false
  nd : N.Nodup
  pre : N.take P.length = P
  par : ∀ x ∈ P, sc.names.lookup x = some .local ∨ sc.names.lookup x = some .cell
  nofree : ∀ y ∈ sc.names, y.2 ≠ .free
theorem bindL_out {kindOf : Str → Option NameKind} {x : Str} : ∀ {binds : List (Str × Value)} {m : Str → Option Value}, (∀ v, (x, v) ∉ binds) → bindL kindOf binds m x = m x
  | [], _, _ => rfl
  | (n, v) :: r, m, h => by
    unfold bindL
    rw [bindL_out fun w hw => h w (List.mem_cons_of_mem _ hw)]
    split
    · have : x ≠ n := by rintro rfl; exact h v List.mem_cons_self
      simp [this]
    · rfl
theorem bindC_out {kindOf : Str → Option NameKind} {x : Str} : ∀ {binds : List (Str × Value)} {m : Str → Option Value}, (∀ v, (x, v) ∉ binds) → bindC kindOf binds m x = m x
  | [], _, _ => rfl
  | (n, v) :: r, m, h => by
    unfold bindC
    rw [bindC_out fun w hw => h w (List.mem_cons_of_mem _ hw)]
    split
    · rfl
    · have : x ≠ n := by rintro rfl; exact h v List.mem_cons_self
      simp [this]
theorem bindL_get {kindOf : Str → Option NameKind} {x : Str} {v : Value} : ∀ {P : List Str} {vs : List Value} {i : Nat} {m : Str → Option Value}, P.Nodup → P[i]? = some x → vs[i]? = some v → kindOf x = some .local →
    bindL kindOf (P.zip vs) m x = some v
  | [], _, _, _, _, h, _, _ => by simp at h
  | _ :: _, [], _, _, _, _, h, _ => by simp at h
  | p :: P, w :: vs, 0, m, nd, h1, h2, hk => by
    simp at h1 h2; subst h1; subst h2
    show bindL kindOf ((p, w) :: P.zip vs) m p = _
    unfold bindL
    rw [bindL_out fun v hv => (List.nodup_cons.mp nd).1 (List.of_mem_zip hv).1, if_pos hk]
    simp
  | p :: P, w :: vs, i + 1, m, nd, h1, h2, hk => by
    show bindL kindOf ((p, w) :: P.zip vs) m x = _
    unfold bindL
    exact bindL_get (i := i) (List.nodup_cons.mp nd).2 (by simpa using h1) (by simpa using h2) hk
theorem bindC_get {kindOf : Str → Option NameKind} {x : Str} {v : Value} : ∀ {P : List Str} {vs : List Value} {i : Nat} {m : Str → Option Value}, P.Nodup → P[i]? = some x → vs[i]? = some v → kindOf x ≠ some .local →
    bindC kindOf (P.zip vs) m x = some v
  | [], _, _, _, _, h, _, _ => by simp at h
  | _ :: _, [], _, _, _, _, h, _ => by simp at h
  | p :: P, w :: vs, 0, m, nd, h1, h2, hk => by
    simp at h1 h2; subst h1; subst h2
    show bindC kindOf ((p, w) :: P.zip vs) m p = _
    unfold bindC
    rw [bindC_out fun v hv => (List.nodup_cons.mp nd).1 (List.of_mem_zip hv).1, if_neg hk]
    simp
  | p :: P, w :: vs, i + 1, m, nd, h1, h2, hk => by
    show bindC kindOf ((p, w) :: P.zip vs) m x = _
    unfold bindC
    exact bindC_get (i := i) (List.nodup_cons.mp nd).2 (by simpa using h1) (by simpa using h2) hk
noncomputable def start (N : List Str) (vs : List V) : St := vs.map some ++ List.replicate (N.length - vs.length) none
noncomputable def cxOf (CX : CXT) (P : Program) (w : World) (K : PySem.W.Frag) (mg : Str → Option Value) (base : Heap) (N : List Str) (qual : Str) (scope : Scope) (f : Addr) (cd : Value) (A : Around) (outer : List Env) (s : Shared) (H : Hp) (E : XK) : Cx where
  prog := P
  w := w
  K := K
  mg := mg
  base := base
  A := A.deeper (envOfC qual scope s.heap.objs.size f cd)
  N := N
  s_0 := s
  H_0 := H
  env := envOfC qual scope s.heap.objs.size f cd
  outer := outer
  stack := envOfC qual scope s.heap.objs.size f cd :: outer
  ex := []
  calm := true
  fn := fun _ => true
  pn := []
  xe := fun e s' => wpAny (model P w) (A.deeper (envOfC qual scope s.heap.objs.size f cd)) (leaving (envOfC qual scope s.heap.objs.size f cd) e) (fun _ s'' => CX outer H s E e s'') (fun e' s'' => CX outer H s E e' s'') s'
theorem cell_has {sc : Scope} {n : Nat} {x : Str} (h : sc.names.lookup x = some .cell) : ∃ c, (cellsFrom n sc.names []).lookup x = some c := by
  have q := PySem.W.cellsFrom_some sc.names n [] (.inl h)
  exact Option.isSome_iff_exists.mp q
theorem inv_start {CX : CXT} {P : Program} {w : World} {K : PySem.W.Frag} {mg : Str → Option Value} {base : Heap} {N ps : List Str} {qual : Str} {scope : Scope} {f : Addr} {cd : Value} {A : Around} {outer : List Env} {s s1 : Shared} {H : Hp} {E : XK} {us : List Value} {vs : List V}
    (S : FnScope N ps scope) (hd : A.handled = none) (e0 : Env0 P w K mg base A outer s H) (hl : vs.length = ps.length) (r : Vals vs us)
    (x : InCallC s s.heap.objs.size (bindL (envOfC qual scope s.heap.objs.size f cd).kindOf (ps.zip us) fun _ => none) (cellsFrom (s.heap.objs.size + 1) scope.names []) (bindC (envOfC qual scope s.heap.objs.size f cd).kindOf (ps.zip us) fun _ => none) s1) :
    Inv (cxOf CX P w K mg base N qual scope f cd A outer s H E) [] (start N vs) H s1 := by
  have hpl : ps.length ≤ N.length := by have := congrArg List.length S.pre; rw [List.length_take] at this; omega
  obtain ⟨h1, tk, rfl, hk⟩ := x.done
  have noA : ∀ b : Addr, b ∉ (cxOf CX P w K mg base N qual scope f cd A outer s H E).ex := fun b z => absurd (show b ∈ ([] : List Addr) from z) (by simp)
  refine ⟨⟨e0.mod, S.kind, rfl, rfl, Nat.le_refl _, fun y z c h1 h2 => ?_, fun y hy => ?_, fun y c _ h => ?_, fun _ => hd, Around.frames_deeper e0.frames, .inr ⟨rfl, rfl⟩, fun b z => absurd z (noA b), e0.bs, e0.bsz, fun b _ _ => noA b, fun b z => absurd z (noA b), e0.funs, e0.frf⟩,
    rfl, e0.bare, Un.kept hk, ⟨_, x.toInCall.ns, fun i y v h1 h2 h3 => ?_⟩, fun y c h => ⟨_, x.cell y c h⟩, e0.hok.fresh (Nat.le_refl _), fun y c h => ?_, fun p hp => absurd (show p ∈ ([] : List (Addr × Obj)) from hp) (by simp), e0.hok.kept hk, ?_⟩
  · exact name_of_addr x.apart (PySem.mem_of_lookup h1) (PySem.mem_of_lookup h2)
  · have hy : scope.names.lookup y = some .cell ∨ scope.names.lookup y = some .free := hy
    rcases hy with hy | hy
    · exact cell_has hy
    · exact absurd rfl (S.nofree _ (PySem.mem_of_lookup hy))
  · exact Nat.le_of_lt (x.above y c (PySem.mem_of_lookup h))
  · have hi : i < vs.length := by
      unfold start at h2
      by_cases hi : i < vs.length
      · exact hi
      · rw [List.getElem?_append_right (by simpa using hi)] at h2
        rw [List.getElem?_replicate] at h2
        split at h2 <;> cases h2
    have ha : vs[i]? = some v := by
      unfold start at h2
      rw [List.getElem?_append_left (by simpa using hi), List.getElem?_map] at h2
      cases e : vs[i]? with
      | none => rw [e] at h2; cases h2
      | some a => rw [e] at h2; cases h2; rfl
    obtain ⟨u, hu, rv⟩ := r.get ha
    have hp : ps[i]? = some y := by
      rw [← S.pre, List.getElem?_take_of_lt (by omega)]; exact h1
    have ndP : ps.Nodup := by rw [← S.pre]; exact S.nd.sublist (List.take_sublist _ _)
    refine ⟨u, rv, ?_⟩
    rcases S.par y (List.mem_of_getElem? hp) with k | k
    · exact .inl ⟨k, bindL_get ndP hp hu k⟩
    · obtain ⟨c, e⟩ := cell_has (n := s.heap.objs.size + 1) k
      refine .inr ⟨.inl k, c, e, ?_⟩
      have q := x.cell y c e
      rw [bindC_get ndP hp hu (by show scope.names.lookup y ≠ _; rw [k]; decide)] at q
      exact q
  · exact e0.hok.fresh (Nat.le_of_lt (x.above y c (PySem.mem_of_lookup h)))
  · unfold start
    show _ = N.length
    rw [List.length_append, List.length_map, List.length_replicate]
    omega
theorem fn_of {CX : CXT} {P : Program} {w : World} {K : PySem.W.Frag} {mg : Str → Option Value} {base : Heap} {k : Nat} {f : Addr} {name qual : Str} {params : Arguments} {body : List Stmt} {scope : Scope} {dV kV doc pm cdv ct oc : Value} {an od : Option Addr}
    {osl : Array (Option Value)} {N ps : List Str} {sp : Sp} (lk : K.lookup f = some ⟨oc, od, .func (PySem.W.fnOf name qual params body scope dV kV doc pm an cdv ct), osl⟩) (hcd : PySem.W.codeIn K cdv qual = true) (S : FnScope N ps scope)
    (len : ∀ vs H Q E, sp vs H Q E → vs.length = ps.length)
    (hbody : ∀ (A : Around) (outer : List Env) (s : Shared) (H : Hp) (vs : List V) (Q : VK) (E : XK), Room k (A.deeper (envOfC qual scope s.heap.objs.size f cdv)) → sp vs H Q E →
      ∃ t, PSs (cxOf CX P w K mg base N qual scope f cdv A outer s H E) body t ∧ t { nx := fun _ H' => Q .non H', rt := Q } (start N vs) H) :
    FnOk P w K mg base CX (k + 1) f (PySem.W.fnOf name qual params body scope dV kV doc pm an cdv ct) ps sp := by
  refine ⟨len, fun A outer s H args us vs Q E hr e0 hb r hsp => ?_⟩
  have hl := len _ _ _ _ hsp
  have KX : K.In s.heap := e0.mod.kin.keeps fun b o e => (e0.bs b o e).1
  have lim : s.heap.NoLimit := e0.mod.nolimit.keeps fun b o e => (e0.bs b o e).1
  have hkind : ∀ y ∈ ps.zip us, scope.names.lookup y.1 = some .local ∨ (scope.names.lookup y.1 = some .cell ∧ ((cellsFrom (s.heap.objs.size + 1) scope.names []).lookup y.1).isSome = true) := fun ⟨n, v⟩ hy => by
    rcases S.par n (List.of_mem_zip hy).1 with q | q
    · exact .inl q
    · exact .inr ⟨q, PySem.W.cellsFrom_some _ _ _ (.inl q)⟩
  refine codeAny_call_function hr.depth (KX _ _ lk) rfl S.co S.gen rfl (PySem.W.codeRec_of KX hcd) (hb _ _ _ _ ?_)
  refine wpAny_newFunctionEnv_cells S.kind hkind fun env he s1 x => ?_
  subst he
  refine ⟨lim.keeps x.toInCall.keep, codeAny_func ?_⟩
  obtain ⟨t, ht, hq⟩ := hbody A outer s H vs Q E (hr.deeper _) hsp
  have I : Inv (cxOf CX P w K mg base N qual scope f cdv A outer s H E) [] (start N vs) H s1 := inv_start S hr.hd e0 hl r x
  refine wpAny_mono (ht [] s1 (start N vs) H _ I hq) (fun fl s' hs => ?_) fun e s' hs => hs
  have fin : ∀ {σ' : St} {H' : Hp} {v : V} {u : Value}, Inv (cxOf CX P w K mg base N qual scope f cdv A outer s H E) [] σ' H' s' → RelV v u → Q v H' → CE outer P w H s Q u s' :=
    fun {σ' H' v u} J rv q => ⟨v, H', J.os, J.bare, J.base, J.hok, rv, q⟩
  cases fl with
  | ret u =>
    obtain ⟨v, σ', H', J, rv, q⟩ := hs
    exact fin J rv q
  | next =>
    obtain ⟨σ', H', J, q⟩ := hs
    exact fin (v := V.non) (u := Value.none) J rfl q
  | brk =>
    obtain ⟨_, _, _, q⟩ := hs
    exact False.elim q
  | cont =>
    obtain ⟨_, _, _, q⟩ := hs
    exact False.elim q
end L2
namespace L2
open PySem PySem.Spec PyProof.Rows
section
variable {X : Cx} {x : Str} {p pos : Pos} {e : Expr} {es : List Expr} {t : TA} {id T : String} {r : List V → Hp → VK → Prop}
noncomputable def tCB (r : List V → Hp → VK → Prop) (t : TA) : TE := fun σ H Q => t σ H fun vs H1 => r vs H1 Q
theorem pe_callB (hc : CallR X (.builtin id) r) (hg : Gl X x) (hm : X.mg x = none) (hv : bootBuiltins x = some (.builtin id)) (ha : PA X (e :: es) t) (hn : x ≠ "__name__" := by decide) (hdb : (x == ("__debug__" : Str)) = false := by decide)
    (he : starEach (e :: es) X.env = (false, eval e X.env) :: starEach es X.env := by rfl) (hpl : (backTo pos (starEach es X.env)).any (·.1) = false := by rfl) : PE X (.Call (.Name x p) (e :: es) [] pos) (tCB r t) := by
  intro pins s σ H Q I h
  refine wpAny_Call_Name_kw (ld_blt I hg hm hv ?_ hn hdb)
  exact PyProof.Rows.callWith_builtin1 (thn (ha pos pins s σ H _ I h) fun us s1 ⟨vs, H1, I1, r1, q1⟩ => hc pins s1 σ H1 vs us Q I1 r1 q1) he hpl
theorem pe_callTy (hc : CallR X (.type T) r) (hg : Gl X x) (hm : X.mg x = none) (hv : bootBuiltins x = some (.type T)) (ha : PA X (e :: es) t) (hn : x ≠ "__name__" := by decide) (hdb : (x == ("__debug__" : Str)) = false := by decide)
    (he : starEach (e :: es) X.env = (false, eval e X.env) :: starEach es X.env := by rfl) (hpl : (backTo pos (starEach es X.env)).any (·.1) = false := by rfl) : PE X (.Call (.Name x p) (e :: es) [] pos) (tCB r t) := by
  intro pins s σ H Q I h
  refine wpAny_Call_Name_kw (ld_blt I hg hm hv ?_ hn hdb)
  exact PyProof.Rows.callWith_type1 (thn (ha pos pins s σ H _ I h) fun us s1 ⟨vs, H1, I1, r1, q1⟩ => hc pins s1 σ H1 vs us Q I1 r1 q1) he hpl
end
end L2
namespace HT
open PySem PyProof.Rows
section
open PySem.SeqAt
open PySem.AutoSeq1 (wpAny_loadPart')
open PySem.MeetsSeq PySem.MeetsSeq2 PySem.MeetsSeq3
end
section
variable {prog : Program} {w : World} {A : Around} {E : Value → Shared → Prop} {s : Shared}
noncomputable def sIx (n d : Nat) : Option Int → Nat
  | none => d
  | some v => if v < 0 then (v + (n : Int)).toNat else min v.toNat n
theorem sIx_none (n d : Nat) : sIx n d none = d := rfl
theorem sIx_nat (n d k : Nat) : sIx n d (some (k : Int)) = min k n := by
  show (if (k : Int) < 0 then ((k : Int) + (n : Int)).toNat else min (k : Int).toNat n) = min k n
  rw [if_neg (by omega), Int.toNat_natCast]
end
end HT
namespace L2
open PySem PySem.Spec PyProof.Rows
noncomputable abbrev TO := St → Hp → (Option Int → Hp → Prop) → Prop
noncomputable def PO (X : Cx) (e : Option Expr) (t : TO) : Prop :=
  ∀ (pins : List (Addr × Obj)) (s : Shared) (σ : St) (H : Hp) (Q : Option Int → Hp → Prop), Inv X pins σ H s → t σ H Q →
    wpAny (model X.prog X.w) X.A (evalPart e X.env) (fun u s' => ∃ o H', Inv X pins σ H' s' ∧ IsPart u o ∧ Q o H') X.xe s
noncomputable def tNoPart : TO := fun _ H Q => Q none H
noncomputable def tPart (t : TE) : TO := fun σ H Q => t σ H fun x H1 => ∃ i, x = .int i ∧ Q (some i) H1
section
variable {X : Cx} {e : Expr} {te : TE} {lo hi : Option Expr} {tl th : TO} {pos p2 : Pos}
theorem po_none : PO X none tNoPart := by
  intro pins s σ H Q I h
  rw [evalPart_none]
  exact wpAny_pure ⟨none, H, I, .none, h⟩
theorem po_some (h : PE X e te) : PO X (some e) (tPart te) := by
  intro pins s σ H Q I hw
  rw [evalPart_some]
  refine thn (h pins s σ H _ I hw) fun u s1 ⟨x, H1, I1, r1, q1⟩ => ?_
  obtain ⟨i, rfl, q⟩ := q1
  obtain ⟨t, rfl⟩ := r1
  exact ⟨some i, H1, I1, .int i t, q⟩
noncomputable def SlR (X : Cx) (r : V → Option Int → Option Int → Hp → VK → Prop) : Prop :=
  ∀ (pins : List (Addr × Obj)) (s : Shared) (σ : St) (H : Hp) (x : V) (v vl vu : Value) (lo hi : Option Int) (sl : Addr) (Q : VK), Inv X pins σ H s → RelV x v → s.heap.IsSliceOf sl vl vu .none → IsPart vl lo → IsPart vu hi → r x lo hi H Q →
    ∃ T id, typeLookup (.type T) "__getitem__" = pure (some (.builtin id)) ∧ s.TypeIs v T ∧ wpAny (model X.prog X.w) X.A (getItem v (.ref sl)) (EP X pins σ Q) X.xe s
theorem SlR.or {r r' : V → Option Int → Option Int → Hp → VK → Prop} (h : SlR X r) (h' : SlR X r') : SlR X (fun x lo hi H Q => r x lo hi H Q ∨ r' x lo hi H Q) := by
  intro pins s σ H x v vl vu lo hi sl Q I rx hs pl pu q
  rcases q with q | q
  · exact h pins s σ H x v vl vu lo hi sl Q I rx hs pl pu q
  · exact h' pins s σ H x v vl vu lo hi sl Q I rx hs pl pu q
noncomputable def tSl (r : V → Option Int → Option Int → Hp → VK → Prop) (te : TE) (tl th : TO) : TE := fun σ H Q => te σ H fun x H1 => tl σ H1 fun l H2 => th σ H2 fun u H3 => r x l u H3 Q
theorem pe_slice {r : V → Option Int → Option Int → Hp → VK → Prop} (hr : SlR X r) (he : PE X e te) (hl : PO X lo tl) (hu : PO X hi th) : PE X (.Subscript e (.Slice lo hi none p2) pos) (tSl r te tl th) := by
  intro pins s σ H Q I h
  refine Subscript_ (thn (he pins s σ H _ I h) fun v s1 ⟨x, H1, I1, r1, q1⟩ => ?_)
  refine wpAny_Slice (thn (hl pins s1 σ H1 _ I1 q1) fun vl s2 ⟨l, H2, I2, pl, q2⟩ => thn (hu pins s2 σ H2 _ I2 q2) fun vu s3 ⟨u, H3, I3, pu, q3⟩ => ?_)
  rw [evalPart_none]
  refine wpAny_pure ?_
  have I4 : Inv X pins σ H3 { s3 with heap := s3.heap.push { cls := .type "slice", data := .fields #[vl, vu, .none] } } := I3.kept (t' := s3.toks) fun b ob q => Heap.get?_push_of_some _ q
  obtain ⟨T, id, hT, ht, hg⟩ := hr pins { s3 with heap := s3.heap.push { cls := .type "slice", data := .fields #[vl, vu, .none] } } σ H3 x v vl vu l u s3.heap.objs.size Q I4 r1 (Heap.IsSliceOf.new ..) pl pu q3
  show wpAny (model X.prog X.w) X.A (subscriptTail e (.Slice lo hi none p2) v (.ref s3.heap.objs.size)) (EP X pins σ Q) X.xe { s3 with heap := s3.heap.push { cls := .type "slice", data := .fields #[vl, vu, .none] } }
  exact tail_any (ops := [.ref s3.heap.objs.size, v]) ht hT hg (by with_unfolding_all rfl)
noncomputable def cutV (xs : List V) (lo hi : Option Int) : List V := (xs.drop (HT.sIx xs.length 0 lo)).take (HT.sIx xs.length xs.length hi - HT.sIx xs.length 0 lo)
theorem cutV_length (xs : List V) (lo hi : Option Int) : (cutV xs lo hi).length ≤ xs.length := by
  unfold cutV
  rw [List.length_take, List.length_drop]
  omega
end
end L2
namespace L2
open PySem PySem.Spec PyProof.Rows
noncomputable def ixN (n : Nat) (i : Int) : Option Nat := if 0 ≤ i then (if i < n then some i.toNat else none) else if -(n : Int) ≤ i then some (i + n).toNat else none
noncomputable def atI {α : Type} (xs : List α) (i : Int) : Option α := (ixN xs.length i).bind fun j => xs[j]?
theorem ixN_seq {n : Nat} {i : Int} {j : Nat} (h : ixN n i = some j) : seqIndex? i n = some j ∧ j < n ∧ -(n : Int) ≤ i ∧ i < n := by
  unfold ixN at h
  by_cases h0 : 0 ≤ i
  · rw [if_pos h0] at h
    by_cases h1 : i < n
    · rw [if_pos h1] at h
      have e : i.toNat = j := Option.some.inj h
      exact ⟨by rw [seqIndex_of h0 h1, e], by omega, by omega, h1⟩
    · rw [if_neg h1] at h; cases h
  · rw [if_neg h0] at h
    by_cases h1 : -(n : Int) ≤ i
    · rw [if_pos h1] at h
      have e : (i + n).toNat = j := Option.some.inj h
      exact ⟨by rw [seqIndex_neg (by omega) h1, e], by omega, h1, by omega⟩
    · rw [if_neg h1] at h; cases h
theorem atI_get {α : Type} {xs : List α} {i : Int} {v : α} (h : atI xs i = some v) : ∃ j, seqIndex? i xs.length = some j ∧ xs[j]? = some v ∧ j < xs.length ∧ -(xs.length : Int) ≤ i ∧ i < xs.length := by
  unfold atI at h
  cases e : ixN xs.length i with
  | none => rw [e] at h; cases h
  | some j =>
    rw [e] at h
    obtain ⟨h1, h2, h3, h4⟩ := ixN_seq e
    exact ⟨j, h1, h, h2, h3, h4⟩
theorem atI_nat {α : Type} {xs : List α} {j : Nat} {v : α} (h : xs[j]? = some v) : atI xs (j : Int) = some v := by
  have hj : j < xs.length := (List.getElem?_eq_some_iff.mp h).1
  have e : ixN xs.length (j : Int) = some j := by
    unfold ixN
    rw [if_pos (by omega), if_pos (by omega)]; simp
  unfold atI; rw [e]; exact h
theorem atI_last {α : Type} (xs : List α) (v : α) : atI (xs ++ [v]) (-1) = some v := by
  have hl : (xs ++ [v]).length = xs.length + 1 := by simp
  have e : ixN (xs ++ [v]).length (-1) = some xs.length := by
    unfold ixN
    rw [hl, if_neg (by decide), if_pos (by omega)]
    congr 1
    omega
  unfold atI
  rw [e]
  show (xs ++ [v])[xs.length]? = some v
  simp
noncomputable def PlainIx (b : Expr) : Prop := ∀ o i, subscripted b false o i = operate [o, i] (getItem o i)
noncomputable def IxR (X : Cx) (r : R2) : Prop :=
  ∀ (value slice : Expr) (pins : List (Addr × Obj)) (s : Shared) (σ : St) (H : Hp) (x y : V) (v u : Value) (Q : VK), Inv X pins σ H s → RelV x v → RelV y u → r x y H Q →
    subscripted slice false v u = operate [v, u] (getItem v u) → wpAny (model X.prog X.w) X.A (subscriptTail value slice v u) (EP X pins σ Q) X.xe s
noncomputable def MtR (X : Cx) (id : String) (r : V → List V → Hp → VK → Prop) : Prop :=
  ∀ (pins : List (Addr × Obj)) (s : Shared) (σ : St) (H : Hp) (x : V) (xs : List V) (v : Value) (us : List Value) (Q : VK), Inv X pins σ H s → RelV x v → Vals xs us → r x xs H Q →
    wpAny (model X.prog X.w) X.A (call (.builtin id) (v :: us)) (EP X pins σ Q) X.xe s
section
variable {X : Cx} {a b : Expr} {ta tb : TE} {pos : Pos}
theorem IxR.or {r r' : R2} (h : IxR X r) (h' : IxR X r') : IxR X (fun x y H Q => r x y H Q ∨ r' x y H Q) := by
  intro value slice pins s σ H x y v u Q I rx ry q hs
  rcases q with q | q
  · exact h value slice pins s σ H x y v u Q I rx ry q hs
  · exact h' value slice pins s σ H x y v u Q I rx ry q hs
theorem MtR.or {id : String} {r r' : V → List V → Hp → VK → Prop} (h : MtR X id r) (h' : MtR X id r') : MtR X id (fun x xs H Q => r x xs H Q ∨ r' x xs H Q) := by
  intro pins s σ H x xs v us Q I rx rs q
  rcases q with q | q
  · exact h pins s σ H x xs v us Q I rx rs q
  · exact h' pins s σ H x xs v us Q I rx rs q
theorem pe_ix {r : R2} (hr : IxR X r) (ha : PE X a ta) (hb : PE X b tb) (hs : PlainIx b) : PE X (.Subscript a b pos) (tOp r ta tb) := by
  intro pins s σ H Q I h
  exact Subscript_ (binT ha hb I h fun v u s2 x y H2 I2 rx ry q => hr a b pins s2 σ H2 x y v u Q I2 rx ry q (hs _ _))
inductive RIxLP (K : PySem.W.Frag) (x y : V) (H : Hp) (Q : VK) : Prop
  | mk : ∀ p xs i v, x = .ref p → y = .int i → SqL K H p xs → atI xs i = some v → Q v H → RIxLP K x y H Q
noncomputable def rIxL (K : PySem.W.Frag) : R2 := RIxLP K
theorem ix_list : IxR X (rIxL X.K) := by
  intro value slice pins s σ H x y v u Q I rx ry h hs
  obtain ⟨p, xs, i, z, rfl, rfl, hq, he, q⟩ := h
  cases rx
  obtain ⟨t, rfl⟩ := ry
  obtain ⟨its, r, pl, hz⟩ := I.list hq
  obtain ⟨j, h1, h2, h3, h4, h5⟩ := atI_get he
  obtain ⟨w, ew, rw'⟩ := r.get h2
  have hl := r.length
  have hn := line63
  have fin : EP X pins σ Q w s := ⟨z, H, I, rw', q⟩
  by_cases h0 : 0 ≤ i
  · have hj : i.toNat = j := by
      rw [seqIndex_of h0 h5] at h1
      exact Option.some.inj h1
    exact item_listR pl.isList h0 (by omega) (by rw [hj]; simpa using ew) fin hs
  · have hj : (i + (its.toArray.size : Int)).toNat = j := by
      rw [seqIndex_neg (by omega) h4] at h1
      rw [List.size_toArray, ← hl]
      exact Option.some.inj h1
    exact subscriptTail_builtinR (x := w) pl.isList.typeIs slot_list_getitem.lookup
      (wpAny_getItem_list_neg (Q := fun r s' => r = w ∧ EP X pins σ Q r s') pl.isList (by omega) (by rw [List.size_toArray] <;> omega) (by omega) (by rw [hj]; simpa using ew) ⟨rfl, fin⟩) hs
theorem Inv.lst {pins : List (Addr × Obj)} {σ : St} {H : Hp} {s : Shared} {p : Addr} {xs : List V} (I : Inv X pins σ H s) (h : H p = some (.lst xs)) :
    ∃ (its : List Value) (n : Nat), Vals xs its ∧ s.heap.get? p = some { cls := .type "list", data := .seq its.toArray n } ∧ xs.length ≤ sizeLine := by
  obtain ⟨z, its, n, r, e⟩ := I.hok p _ h
  exact ⟨its, n, r, e, z⟩
theorem slice_bounds (lo hi : Option Int) (n : Nat) : (sliceBounds lo hi none n).1 = ((HT.sIx n 0 lo : Nat) : Int) ∧ (sliceBounds lo hi none n).2.1 = ((HT.sIx n n hi : Nat) : Int) ∧ (sliceBounds lo hi none n).2.2 = 1 := by
  refine ⟨?_, ?_, rfl⟩
  · cases lo with
    | none => simp [sliceBounds, HT.sIx]
    | some i =>
      simp only [sliceBounds, HT.sIx, Option.getD_none, show (1 : Int) > 0 by decide, if_true]
      by_cases h : i < 0
      · simp only [h, if_true] <;> omega
      · simp only [h, if_false] <;> omega
  · cases hi with
    | none => simp [sliceBounds, HT.sIx]
    | some i =>
      simp only [sliceBounds, HT.sIx, Option.getD_none, show (1 : Int) > 0 by decide, if_true]
      by_cases h : i < 0
      · simp only [h, if_true] <;> omega
      · simp only [h, if_false] <;> omega
theorem slicePick_cut (its : List Value) (lo hi : Option Int) : slicePick its.toArray lo hi none = ((its.drop (HT.sIx its.length 0 lo)).take (HT.sIx its.length its.length hi - HT.sIx its.length 0 lo)).toArray := by
  obtain ⟨h1, h2, h3⟩ := slice_bounds lo hi its.toArray.size
  unfold slicePick
  rw [h1, h2, h3]
  simp only [sliceRange_one, pick_run, List.size_toArray] <;> rfl
noncomputable def rSlL (K : PySem.W.Frag) : V → Option Int → Option Int → Hp → VK → Prop := fun x lo hi H Q => ∃ a xs, x = .ref a ∧ SqL K H a xs ∧ ∀ p, H p = none → Q (.ref p) (upd H p (.lst (cutV xs lo hi)))
theorem sl_list : SlR X (rSlL X.K) := by
  intro pins s σ H x v vl vu lo hi sl Q I rx hs pl pu h
  obtain ⟨a, xs, rfl, hx, q⟩ := h
  cases rx
  obtain ⟨its, r, ht, hz⟩ := I.list hx
  have hlen := r.length
  refine ⟨"list", _, slot_list_getitem.lookup, ht.isList.typeIs, ?_⟩
  refine wpAny_getItem_list_slice ht.isList hs pl pu .none (by simp) ?_ (by rw [List.size_toArray] <;> omega)
  rw [slicePick_cut, ← hlen]
  refine ⟨.ref s.heap.objs.size, _, I.laid (t' := s.toks) (o := .lst (cutV xs lo hi)) (fun b ob q => Heap.get?_push_of_some _ q) (Nat.le_refl _) ?_, rfl, q _ (I.hok.fresh (Nat.le_refl _))⟩
  exact ⟨Nat.le_trans (cutV_length xs lo hi) hz, _, 0, (r.drop (HT.sIx xs.length 0 lo)).take (HT.sIx xs.length xs.length hi - HT.sIx xs.length 0 lo), Heap.get?_push_size _ rfl⟩
noncomputable def flatV : V → Bool
  | .non => true
  | .bl _ => true
  | .int _ => true
  | .str _ => true
  | _ => false
noncomputable def eqV : V → V → Bool
  | .non, .non => true
  | .bl a, .bl b => a == b
  | .bl a, .int b => (if a then 1 else 0) == b
  | .int a, .bl b => a == (if b then 1 else 0)
  | .int a, .int b => a == b
  | .str a, .str b => a == b
  | _, _ => false
theorem eqAt_V {A : Around} {s : Shared} {y x : V} {u v : Value} (ry : RelV y u) (rx : RelV x v) (fy : flatV y = true) (fx : flatV x = true) : SeqAt.EqAt A s u v (eqV y x) := by
  cases y with
  | non =>
    cases ry
    cases x with
    | non => cases rx; exact SeqAt.EqAt.same _
    | bl b => cases rx; exact SeqAt.EqAt.none_bool b
    | int b => obtain ⟨t, rfl⟩ := rx; exact SeqAt.EqAt.none_int b t
    | str b => obtain ⟨t, rfl⟩ := rx; exact SeqAt.EqAt.none_str b t
    | _ => exact absurd (show false = true from fx) Bool.false_ne_true
  | bl a =>
    cases ry
    cases x with
    | non => cases rx; exact SeqAt.EqAt.bool_none a
    | bl b => cases rx; exact SeqAt.EqAt.bool_bool a b
    | int b => obtain ⟨t, rfl⟩ := rx; exact SeqAt.EqAt.bool_int a b t
    | str b => obtain ⟨t, rfl⟩ := rx; exact SeqAt.EqAt.bool_str a b t
    | _ => exact absurd (show false = true from fx) Bool.false_ne_true
  | int a =>
    obtain ⟨t', rfl⟩ := ry
    cases x with
    | non => cases rx; exact SeqAt.EqAt.int_none a t'
    | bl b => cases rx; exact SeqAt.EqAt.int_bool a t' b
    | int b => obtain ⟨t, rfl⟩ := rx; exact SeqAt.EqAt.int_int a t' b t
    | str b => obtain ⟨t, rfl⟩ := rx; exact SeqAt.EqAt.int_str a t' b t
    | _ => exact absurd (show false = true from fx) Bool.false_ne_true
  | str a =>
    obtain ⟨t', rfl⟩ := ry
    cases x with
    | non => cases rx; exact SeqAt.EqAt.str_none a t'
    | bl b => cases rx; exact SeqAt.EqAt.str_bool a t' b
    | int b => obtain ⟨t, rfl⟩ := rx; exact SeqAt.EqAt.str_int a t' b t
    | str b => obtain ⟨t, rfl⟩ := rx; exact SeqAt.EqAt.str_str a t' b t
    | _ => exact absurd (show false = true from fx) Bool.false_ne_true
  | _ => exact absurd (show false = true from fy) Bool.false_ne_true
noncomputable def eqU (x : V) (u : Value) : Bool := match u with
  | .none => eqV .non x
  | .bool b => eqV (.bl b) x
  | .int i _ => eqV (.int i) x
  | .str z _ => eqV (.str z) x
  | _ => false
theorem eqU_of {x y : V} {u : Value} (r : RelV y u) (f : flatV y = true) : eqU x u = eqV y x := by
  cases y with
  | non => cases r; rfl
  | bl b => cases r; rfl
  | int i => obtain ⟨t, rfl⟩ := r; rfl
  | str z => obtain ⟨t, rfl⟩ := r; rfl
  | _ => exact absurd (show false = true from f) Bool.false_ne_true
theorem any_eqU {x : V} : ∀ {xs : List V} {us : List Value}, Vals xs us → xs.all flatV = true → us.any (eqU x) = xs.any fun y => eqV y x
  | _, _, .nil, _ => rfl
  | y :: xs, u :: us, .cons r t, f => by
    rw [List.all_cons, Bool.and_eq_true] at f
    rw [List.any_cons, List.any_cons, eqU_of r f.1, any_eqU t f.2]
theorem mem_eqAt {A : Around} {s : Shared} {x : V} {v : Value} (rx : RelV x v) (fx : flatV x = true) : ∀ {xs : List V} {us : List Value}, Vals xs us → xs.all flatV = true → ∀ u ∈ us, SeqAt.EqAt A s u v (eqU x u)
  | _, _, .nil, _ => fun u hu => by cases hu
  | y :: xs, u :: us, .cons r t, f => fun u' hu => by
    rw [List.all_cons, Bool.and_eq_true] at f
    rcases List.mem_cons.mp hu with rfl | hu
    · rw [eqU_of r f.1]; exact eqAt_V r rx f.1 fx
    · exact mem_eqAt rx fx t f.2 u' hu
noncomputable def inV (x : V) (xs : List V) : Bool := xs.any fun y => eqV y x
noncomputable def rIn (K : PySem.W.Frag) (neg : Bool) : R2 := fun x y H Q => ∃ p xs, y = .ref p ∧ (SqL K H p xs ∨ SqT K H p xs) ∧ flatV x = true ∧ xs.all flatV = true ∧ Q (.bl (if neg then !inV x xs else inV x xs)) H
theorem op_in_seq : OpR X (compareOp .In) (rIn X.K false) := by
  intro pins s σ H x y v u Q I rx ry h
  obtain ⟨p, xs, rfl, hq, fx, fs, q⟩ := h
  cases ry
  rcases hq with hq | hq
  · obtain ⟨its, r, pl, hz⟩ := I.list hq
    refine SeqAt.in_listAt (eqU x) pl.isList (fun w hw => mem_eqAt rx fx r fs w (by simpa using hw)) ⟨.bl _, H, I, rfl, ?_⟩
    rw [show its.toArray.any (eqU x) = its.any (eqU x) by simp, any_eqU r fs]
    exact q
  · obtain ⟨its, r, pl, hz⟩ := I.tuple hq
    refine SeqAt.in_tupleAt (eqU x) pl (fun w hw => mem_eqAt rx fx r fs w (by simpa using hw)) ⟨.bl _, H, I, rfl, ?_⟩
    rw [show its.toArray.any (eqU x) = its.any (eqU x) by simp, any_eqU r fs]
    exact q
theorem op_notIn_seq : OpR X (compareOp .NotIn) (rIn X.K true) := by
  intro pins s σ H x y v u Q I rx ry h
  obtain ⟨p, xs, rfl, hq, fx, fs, q⟩ := h
  cases ry
  rcases hq with hq | hq
  · obtain ⟨its, r, pl, hz⟩ := I.list hq
    refine SeqAt.notIn_listAt (eqU x) pl.isList (fun w hw => mem_eqAt rx fx r fs w (by simpa using hw)) ⟨.bl _, H, I, rfl, ?_⟩
    rw [show its.toArray.any (eqU x) = its.any (eqU x) by simp, any_eqU r fs]
    exact q
  · obtain ⟨its, r, pl, hz⟩ := I.tuple hq
    refine SeqAt.notIn_tupleAt (eqU x) pl (fun w hw => mem_eqAt rx fx r fs w (by simpa using hw)) ⟨.bl _, H, I, rfl, ?_⟩
    rw [show its.toArray.any (eqU x) = its.any (eqU x) by simp, any_eqU r fs]
    exact q
theorem call_len_seq : CallR X (.builtin "len") (fun xs H Q => ∃ p ys, xs = [.ref p] ∧ (SqL X.K H p ys ∨ SqT X.K H p ys) ∧ Q (.int ys.length) H) := by
  intro pins s σ H xs us Q I r h
  obtain ⟨p, ys, rfl, hq, q⟩ := h
  obtain ⟨u, rfl, rx⟩ := vals1 r
  cases rx
  have hn := line63
  rcases hq with hq | hq
  · obtain ⟨its, r', pl, hz⟩ := I.list hq
    have hlen := r'.length
    exact Calls.call_len_list pl.isList (by simp only [List.size_toArray] <;> omega) ⟨.int ys.length, H, I.tok _, ⟨s.toks + 1, by rw [List.size_toArray, hlen]⟩, q⟩
  · obtain ⟨its, r', pl, hz⟩ := I.tuple hq
    have hlen := r'.length
    exact len_tuple pl (by simp only [List.size_toArray] <;> omega) ⟨.int ys.length, H, I.tok _, ⟨s.toks + 1, by rw [List.size_toArray, hlen]⟩, q⟩
theorem CallR.or {f : Value} {r r' : List V → Hp → VK → Prop} (h : CallR X f r) (h' : CallR X f r') : CallR X f (fun xs H Q => r xs H Q ∨ r' xs H Q) := by
  intro pins s σ H xs us Q I rs q
  rcases q with q | q
  · exact h pins s σ H xs us Q I rs q
  · exact h' pins s σ H xs us Q I rs q
theorem call_tuple_of : CallR X (.type "tuple") (fun xs H Q => ∃ p ys, xs = [.ref p] ∧ ((SqL X.K H p ys ∧ ∀ l, H l = none → Q (.ref l) (upd H l (.tup ys))) ∨ (SqT X.K H p ys ∧ Q (.ref p) H))) := by
  intro pins s σ H xs us Q I r h
  obtain ⟨p, ys, rfl, h⟩ := h
  obtain ⟨u, rfl, rx⟩ := vals1 r
  cases rx
  rcases h with ⟨hq, q⟩ | ⟨hq, q⟩
  · obtain ⟨its, r', pl, hz⟩ := I.list hq
    have hlen := r'.length
    refine call_tuple_list pl.isList (fun h' kp => ?_) (by simp only [List.size_toArray] <;> omega)
    have I1 : Inv X pins σ H { s with heap := h' } := I.kept (t' := s.toks) kp
    have I2 : Inv X pins σ (upd H h'.objs.size (.tup ys)) { s with heap := h'.push { cls := .type "tuple", data := .seq its.toArray } } :=
      I1.laid (t' := s.toks) (fun b o e => Heap.get?_push_of_some _ e) (Nat.le_refl _) (show ObjOk X.prog X.w _ _ _ (.tup ys) from ⟨hz, its, r', IsTup.new _ _⟩)
    exact ⟨.ref h'.objs.size, _, I2, rfl, q _ (I1.hok.fresh (Nat.le_refl _))⟩
  · obtain ⟨its, r', pl, hz⟩ := I.tuple hq
    exact call_tuple_same pl ⟨.ref p, H, I, rfl, q⟩
noncomputable def tyV (K : PySem.W.Frag) (T : String) (x : V) (H : Hp) : Prop := match x with
  | .str _ => T = "str"
  | .int _ => T = "int"
  | .ref p => (T = "list" ∧ ∃ xs, SqL K H p xs) ∨ (T = "tuple" ∧ ∃ o, K.lookup p = some o ∧ o.cls = .type "tuple" ∧ o.dict = none) ∨
      (T = "dict" ∧ ((∃ kvs, H p = some (.dK kvs)) ∨ ∃ kvs, H p = some (.dT kvs))) ∨ (T = "set" ∧ ∃ S n, H p = some (.set S n))
  | _ => False
theorem tyV_is {pins : List (Addr × Obj)} {σ : St} {H : Hp} {s : Shared} {T : String} {x : V} {v : Value} (I : Inv X pins σ H s) (r : RelV x v) (ty : tyV X.K T x H) :
    s.TypeIs v T ∧ ∀ a, v = .ref a → ∃ ob, s.heap.get? a = some ob ∧ ob.dict = none := by
  cases x with
  | str z =>
    obtain ⟨t, rfl⟩ := r
    cases (show T = "str" from ty)
    exact ⟨typeIs_str s z t, fun _ e => nomatch e⟩
  | int i =>
    obtain ⟨t, rfl⟩ := r
    cases (show T = "int" from ty)
    exact ⟨typeIs_int s i t, fun _ e => nomatch e⟩
  | ref p =>
    cases r
    rcases ty with ⟨rfl, xs, hq⟩ | ⟨rfl, o, hk, hc, hd⟩ | ⟨rfl, hk⟩ | ⟨rfl, S, n, hk⟩
    · obtain ⟨its, _, pl, _⟩ := I.list hq
      refine ⟨pl.isList.typeIs, fun a e => ?_⟩
      cases e
      obtain ⟨o, n, e, c, hd, _⟩ := pl
      exact ⟨o, e, hd⟩
    · refine ⟨⟨o, I.kIn p o hk, hc⟩, fun a e => ?_⟩
      cases e
      exact ⟨o, I.kIn _ o hk, hd⟩
    · have z : ∃ o, s.heap.get? p = some o ∧ o.ExactDict := by
        rcases hk with ⟨kvs, hk⟩ | ⟨kvs, hk⟩
        · obtain ⟨_, _, _, _, o, _, _, e, ex, _⟩ := I.hok p _ hk
          exact ⟨o, e, ex⟩
        · obtain ⟨_, _, _, _, o, _, _, e, ex, _⟩ := I.hok p _ hk
          exact ⟨o, e, ex⟩
      obtain ⟨o, e, ex⟩ := z
      refine ⟨⟨o, e, ex.1⟩, fun a e2 => ?_⟩
      cases e2
      exact ⟨o, e, ex.2.1⟩
    · obtain ⟨o, _, _, _, e, ex, _⟩ := I.hok p _ hk
      refine ⟨⟨o, e, ex.1⟩, fun a e2 => ?_⟩
      cases e2
      exact ⟨o, e, ex.2.1⟩
  | _ => exact False.elim ty
noncomputable def tBM0 (K : PySem.W.Frag) (T : String) (r : V → List V → Hp → VK → Prop) (to : TE) : TE := fun σ H Q => to σ H fun x H1 => tyV K T x H1 ∧ r x [] H1 Q
noncomputable def tBM (K : PySem.W.Frag) (T : String) (r : V → List V → Hp → VK → Prop) (to : TE) (t : TA) : TE := fun σ H Q => to σ H fun x H1 => tyV K T x H1 ∧ t σ H1 fun xs H2 => r x xs H2 Q
variable {o e : Expr} {es : List Expr} {to : TE} {t : TA} {name : Str} {apos cpos : Pos} {T id : String} {r : V → List V → Hp → VK → Prop}
theorem pe_bm0 (pa : PlainAttrs T) (slot : Slot T name id) (hty : typeOf (.builtin id) = pure (.type "method_descriptor")) (hm : MtR X id r) (ho : PE X o to)
    (hbase : attributeBase o name X.env (eval o X.env) = eval o X.env := by rfl) (hline : (apos.endLine == cpos.line) = true := by rfl) : PE X (.Call (.Attribute o name apos) [] [] cpos) (tBM0 X.K T r to) := by
  intro pins s σ H Q I h
  refine wpAny_Call_method0_late hbase hline (thn (ho pins s σ H _ I h) fun v s1 ⟨x, H1, I1, r1, ty, q1⟩ => ?_)
  obtain ⟨h1, h2⟩ := tyV_is I1 r1 ty
  exact ⟨T, id, pa, slot, hty, h1, h2, Calls.callWith_builtin rfl (PySem.evalArgs_none (hm pins s1 σ H1 x [] v [] Q I1 r1 .nil q1))⟩
theorem pe_bm (pa : PlainAttrs T) (slot : Slot T name id) (hty : typeOf (.builtin id) = pure (.type "method_descriptor")) (hm : MtR X id r) (ho : PE X o to) (ha : PA X (e :: es) t)
    (hbase : attributeBase o name X.env (eval o X.env) = eval o X.env := by rfl)
    (hfew : ((backTo cpos (starEach (e :: es) X.env)).all (fun x => !x.1) && (backToKw cpos (keywordEach [] X.env)).all (fun x => x.1.isSome)
      && decide ((e :: es).length + ([] : List Keyword).length + (if ([] : List Keyword).isEmpty then 0 else 1) < 30)) = true := by rfl)
    (hline : (apos.endLine == cpos.line) = true := by rfl) (hs : starEach (e :: es) X.env = (false, eval e X.env) :: starEach es X.env := by rfl) (hplain : (backTo cpos (starEach es X.env)).any (·.1) = false := by rfl) :
    PE X (.Call (.Attribute o name apos) (e :: es) [] cpos) (tBM X.K T r to t) := by
  intro pins s σ H Q I h
  refine wpAny_Call_method_late hbase hfew hline rfl (thn (ho pins s σ H _ I h) fun v s1 ⟨x, H1, I1, r1, ty, q1⟩ => ?_)
  obtain ⟨h1, h2⟩ := tyV_is I1 r1 ty
  refine ⟨T, id, pa, slot, hty, h1, h2, ?_⟩
  have hA := ha cpos pins s1 σ H1 _ I1 q1
  rw [hs] at hA ⊢
  refine Calls.callWith_builtin (by show (false || (backTo cpos (starEach es X.env)).any (·.1)) = false; rw [hplain] <;> rfl) (Calls.evalArgs_plain ?_)
  exact thn hA fun us s2 ⟨vs, H2, I2, r2, q2⟩ => hm pins s2 σ H2 x vs v us Q I2 r1 r2 q2
end
end L2
namespace L2
open PySem PySem.Spec PyProof.Rows
noncomputable def MtM (X : Cx) (id : String) (r : V → List V → Hp → VK → Prop) : Prop :=
  ∀ (pins : List (Addr × Obj)) (s : Shared) (σ : St) (H : Hp) (x : V) (xs : List V) (v : Value) (us : List Value) (Q : VK), Inv X pins σ H s → RelV x v → Vals xs us → r x xs H Q →
    wpAny (model X.prog X.w) X.A (call (.builtin id) (v :: us)) (EP X pins σ Q) X.xe s
theorem Vals.one : ∀ {x : V} {us : List Value}, Vals [x] us → ∃ u, us = [u] ∧ RelV x u
  | _, _, .cons r .nil => ⟨_, rfl, r⟩
theorem Vals.zero : ∀ {us : List Value}, Vals [] us → us = []
  | _, .nil => rfl
theorem Vals.dropLast {xs : List V} {us : List Value} (h : Vals xs us) : Vals xs.dropLast us.dropLast := by
  induction h with
  | nil => exact .nil
  | cons r t ih =>
    cases t with
    | nil => exact .nil
    | cons q t' => exact .cons r ih
theorem Vals.eraseIdx : ∀ {xs : List V} {us : List Value} (i : Nat), Vals xs us → Vals (xs.eraseIdx i) (us.eraseIdx i)
  | _, _, _, .nil => .nil
  | _, _, 0, .cons _ t => t
  | _, _, i + 1, .cons r t => .cons r (Vals.eraseIdx i t)
theorem Vals.reverse {xs : List V} {us : List Value} (h : Vals xs us) : Vals xs.reverse us.reverse := by
  induction h with
  | nil => exact .nil
  | cons r t ih => rw [List.reverse_cons, List.reverse_cons]; exact Vals.append ih (.cons r .nil)
theorem Vals.rep {xs : List V} {us : List Value} (h : Vals xs us) : ∀ k : Nat, Vals (List.replicate k xs).flatten (List.replicate k us).flatten
  | 0 => .nil
  | k + 1 => by
    rw [List.replicate_succ, List.replicate_succ, List.flatten_cons, List.flatten_cons]
    exact Vals.append h (Vals.rep h k)
theorem erase_last {α : Type} (l : List α) : l.eraseIdx (l.length - 1) = l.dropLast := by
  induction l with
  | nil => rfl
  | cons a r ih =>
    cases r with
    | nil => rfl
    | cons b r =>
      have e : (a :: b :: r).length - 1 = ((b :: r).length - 1) + 1 := by
        have h1 : (a :: b :: r).length = r.length + 2 := rfl
        have h2 : (b :: r).length = r.length + 1 := rfl
        omega
      rw [e, List.eraseIdx_cons_succ, ih]
      all_goals rfl
theorem foldl_rep (its : List Value) : ∀ (k : Nat) (acc : List Value),
    List.foldl (fun x1 x2 => x1 ++ x2) acc.toArray (List.replicate k its.toArray) = (acc ++ (List.replicate k its).flatten).toArray
  | 0, acc => by simp
  | k + 1, acc => by
    have e : acc.toArray ++ its.toArray = (acc ++ its).toArray := by simp
    have e2 : (acc ++ its) ++ (List.replicate k its).flatten = acc ++ (List.replicate (k + 1) its).flatten := by
      rw [List.replicate_succ, List.flatten_cons, List.append_assoc]
    rw [← e2, ← foldl_rep its k (acc ++ its), ← e, List.replicate_succ, List.foldl_cons]
section
variable {X : Cx} {pins : List (Addr × Obj)} {σ : St} {H : Hp} {s : Shared} {l b : Addr} {xs ys zs : List V}
theorem Inv.lset {its its' : List Value} {n : Nat} {f : Array Value → Array Value} {t' : Nat} (I : Inv X pins σ H s) (hH : H l = some (.lst xs))
    (e : s.heap.get? l = some { cls := .type "list", data := .seq its.toArray n }) (hf : f its.toArray = its'.toArray) (hv : Vals ys its') (hz : ys.length ≤ sizeLine) :
    Inv X pins σ (upd H l (.lst ys)) { s with heap := s.heap.update l (Obj.mapSeq f), toks := t' } := by
  have q := PySem.IsL.update e f
  rw [hf] at q
  refine I.write (x := l) (e := l) (by rw [hH]; exact trivial) (.inl rfl) (fun b' u hb hu => (Heap.get?_update_other s.heap (Obj.mapSeq f) (Ne.symm hb)).trans hu) ⟨_, q⟩ ?_
  exact ⟨hz, its', _, hv, q⟩
theorem Inv.lnew {its : List Value} {t' : Nat} (I : Inv X pins σ H s) (hv : Vals ys its) (hz : ys.length ≤ sizeLine) :
    Inv X pins σ (upd H s.heap.objs.size (.lst ys)) { s with heap := s.heap.push { cls := .type "list", data := .seq its.toArray }, toks := t' } :=
  I.laid (fun _ _ q => Heap.get?_push_of_some _ q) (Nat.le_refl _) ⟨hz, its, 0, hv, Heap.get?_push_size _ rfl⟩
theorem Inv.fresh (I : Inv X pins σ H s) : H s.heap.objs.size = none := I.hok.fresh (Nat.le_refl _)
theorem Inv.lstM (I : Inv X pins σ H s) (hH : H l = some (.lst xs)) : xs.length ≤ sizeLine ∧ ∃ (its : List Value) (n : Nat), Vals xs its ∧ xs.length = its.length ∧ s.heap.get? l = some { cls := .type "list", data := .seq its.toArray n } := by
  obtain ⟨z, its, n, r, e⟩ := I.hok l _ hH
  exact ⟨z, its, n, r, r.length, e⟩
theorem notLongL {n : Nat} (h : n ≤ sizeLine) : Builtin.List.listTooLong n = false := by
  unfold Builtin.List.listTooLong
  exact decide_eq_false (by omega)
end
section
variable {X : Cx}
inductive RAppendP (x : V) (vs : List V) (H : Hp) (Q : VK) : Prop
  | mk : ∀ l xs y, x = .ref l → vs = [y] → H l = some (.lst xs) → xs.length < sizeLine → Q .non (upd H l (.lst (xs ++ [y]))) → RAppendP x vs H Q
noncomputable def rAppend : V → List V → Hp → VK → Prop := RAppendP
theorem mt_append : MtM X "list.append" rAppend := by
  intro pins s σ H x vs v us Q I rx rv h
  obtain ⟨l, xs, y, rfl, rfl, hH, hz, q⟩ := h
  cases rx
  obtain ⟨u, rfl, ru⟩ := rv.one
  obtain ⟨z, its, n, r, hl, e⟩ := I.lstM hH
  refine call_meets F.slot_list_append ⟨_, e, rfl⟩ F.entry_list_append (F.args_list_append_2 _ _) (PySem.list_append l its.toArray n u (by rw [List.size_toArray]; omega)) ⟨e, ?_⟩
  refine ⟨.non, _, I.lset (its' := its ++ [u]) hH e (by simp) (r.append (.cons ru .nil)) ?_, rfl, q⟩
  rw [List.length_append, List.length_singleton]
  omega
inductive RExtendP (x : V) (vs : List V) (H : Hp) (Q : VK) : Prop
  | mk : ∀ l b xs zs, x = .ref l → vs = [.ref b] → H l = some (.lst xs) → H b = some (.lst zs) → xs.length + zs.length ≤ sizeLine → Q .non (upd H l (.lst (xs ++ zs))) → RExtendP x vs H Q
noncomputable def rExtend : V → List V → Hp → VK → Prop := RExtendP
theorem mt_extend : MtM X "list.extend" rExtend := by
  intro pins s σ H x vs v us Q I rx rv h
  obtain ⟨l, b, xs, zs, rfl, rfl, hH, hB, hz, q⟩ := h
  cases rx
  obtain ⟨u, rfl, ru⟩ := rv.one
  cases ru
  obtain ⟨z, its, n, r, hl, e⟩ := I.lstM hH
  obtain ⟨z2, its2, n2, r2, hl2, e2⟩ := I.lstM hB
  have hsz : its.toArray.size + its2.toArray.size ≤ sizeLine := by rw [List.size_toArray, List.size_toArray]; omega
  have hlong : ¬ (!its.toArray.isEmpty && Builtin.List.listTooLong (its.toArray.size + its2.toArray.size)) = true := by
    rw [notLongL hsz, Bool.and_false]
    exact Bool.false_ne_true
  refine call_meets F.slot_list_extend ⟨_, e, rfl⟩ F.entry_list_extend (F.args_list_extend_2 _ _)
    (AutoSeq1.list_extend_list_list_0 l its.toArray n b its2.toArray n2 hlong (by rw [List.size_toArray]; omega) (by omega)) ⟨e, e2, ?_⟩
  refine ⟨.non, _, I.lset (its' := its ++ its2) hH e (by simp) (r.append r2) ?_, rfl, q⟩
  rw [List.length_append]
  omega
inductive RPopP (x : V) (vs : List V) (H : Hp) (Q : VK) : Prop
  | mk : ∀ l xs y, x = .ref l → vs = [] → H l = some (.lst xs) → xs[xs.length - 1]? = some y → Q y (upd H l (.lst xs.dropLast)) → RPopP x vs H Q
noncomputable def rPop : V → List V → Hp → VK → Prop := RPopP
theorem mt_pop : MtM X "list.pop" rPop := by
  intro pins s σ H x vs v us Q I rx rv h
  obtain ⟨l, xs, y, rfl, rfl, hH, hy, q⟩ := h
  cases rx
  have hus := rv.zero
  subst hus
  obtain ⟨z, its, n, r, hl, e⟩ := I.lstM hH
  obtain ⟨u, hu, ru⟩ := r.get hy
  have hy' : its.toArray[its.toArray.size - 1]? = some u := by
    show its.toArray[its.length - 1]? = some u
    rw [← Array.getElem?_toList, ← hl]
    exact hu
  refine call_meets F.slot_list_pop ⟨_, e, rfl⟩ F.entry_list_pop (F.args_list_pop_1 _) (MeetsSeq.list_pop_last l its.toArray n u hy' (by rw [List.size_toArray]; omega)) ⟨e, ?_⟩
  refine ⟨y, _, I.lset (its' := its.dropLast) hH e ?_ r.dropLast ?_, ru, q⟩
  · show its.toArray.eraseIdxIfInBounds (its.toArray.size - 1) = its.dropLast.toArray
    rw [List.size_toArray, List.eraseIdxIfInBounds_toArray, erase_last]
  · rw [List.length_dropLast]
    omega
inductive RCatP (x y : V) (H : Hp) (Q : VK) : Prop
  | mk : ∀ l b xs zs, x = .ref l → y = .ref b → H l = some (.lst xs) → H b = some (.lst zs) → xs.length + zs.length ≤ sizeLine → (∀ p, H p = none → Q (.ref p) (upd H p (.lst (xs ++ zs)))) → RCatP x y H Q
noncomputable def rCat : R2 := RCatP
theorem op_cat : OpR X (binaryOp .Add) rCat := by
  intro pins s σ H x y v u Q I rx ry h
  obtain ⟨l, b, xs, zs, rfl, rfl, hH, hB, hz, q⟩ := h
  cases rx
  cases ry
  obtain ⟨z, its, n, r, hl, e⟩ := I.lstM hH
  obtain ⟨z2, its2, n2, r2, hl2, e2⟩ := I.lstM hB
  refine PySem.P.add_list e e2 ?_ (by rw [List.size_toArray, List.size_toArray]; omega)
  have ea : its.toArray ++ its2.toArray = (its ++ its2).toArray := by simp
  rw [ea]
  exact ⟨.ref _, _, I.lnew (t' := s.toks) (r.append r2) (by rw [List.length_append]; omega), rfl, q _ I.fresh⟩
noncomputable def rRep : R2 := fun x y H Q => ∃ l k xs, x = .ref l ∧ y = .int k ∧ H l = some (.lst xs) ∧ -(2 ^ 63) ≤ k ∧ k < 2 ^ 63 ∧ xs.length * k.toNat ≤ sizeLine ∧
  ∀ p, H p = none → Q (.ref p) (upd H p (.lst (List.replicate k.toNat xs).flatten))
theorem len_rep {α : Type} (xs : List α) (k : Nat) : (List.replicate k xs).flatten.length = k * xs.length := by
  induction k with
  | zero => simp
  | succ k ih => rw [List.replicate_succ, List.flatten_cons, List.length_append, ih, Nat.succ_mul, Nat.add_comm]
theorem op_rep : OpR X (binaryOp .Mult) rRep := by
  intro pins s σ H x y v u Q I rx ry h
  obtain ⟨l, k, xs, rfl, rfl, hH, h1, h2, hz, q⟩ := h
  cases rx
  obtain ⟨t, rfl⟩ := ry
  obtain ⟨z, its, n, r, hl, e⟩ := I.lstM hH
  have hlen : its.toArray.size * k.toNat ≤ sizeLine := by rw [List.size_toArray, ← hl]; exact hz
  have hcap : ¬ its.toArray.size * k.toNat > (2 ^ 63 - 1) / 8 := by
    have : (sizeLine : Nat) ≤ (2 ^ 63 - 1) / 8 := by decide
    omega
  have hfit : ¬ (!Builtin.List.listFitsIndex k) = true := by
    rw [fitsIndex_both h1 h2]
    exact Bool.false_ne_true
  have hlong : ¬ Builtin.List.listTooLong (its.toArray.size * k.toNat) = true := by
    rw [notLongL hlen]
    exact Bool.false_ne_true
  have hnew : List.foldl (fun x1 x2 => x1 ++ x2) #[] (List.replicate (if its.toArray.isEmpty = true then 0 else k.toNat) its.toArray) = (List.replicate k.toNat its).flatten.toArray := by
    have f0 : ∀ m : Nat, List.foldl (fun x1 x2 => x1 ++ x2) #[] (List.replicate m its.toArray) = (List.replicate m its).flatten.toArray := fun m => by
      have := foldl_rep its m []
      rw [List.nil_append] at this
      exact this
    rw [f0]
    cases its with
    | nil => simp
    | cons a r' => rw [if_neg (by simp)]
  refine wpAny_binaryOp_repeat_ref (T := "list") (U := "int") (by decide) ⟨_, e, rfl⟩ (fun s' => typeIs_int s' k t) noFill_list_mul F.fills_int_mul F.slot_int_rmul repeat_list F.slot_int_index.lookup
    (call_meets F.slot_int_rmul (typeIs_int s k t) F.entry_int_rmul (F.args_int_rmul_2 _ _) (int___rmul___int_list k t l its.toArray n)
      ⟨e, rfl, ⟨_, e, rfl⟩, call_meets F.slot_list_mul ⟨_, e, rfl⟩ F.entry_list_mul (F.args_list_mul_2 _ _) (AutoListH.list___mul___list_int_3 l its.toArray n k t hfit hcap hlong) ⟨e, ?_⟩⟩)
  rw [hnew]
  exact ⟨.ref _, _, I.lnew (t' := s.toks) (r.rep k.toNat) (by rw [len_rep, Nat.mul_comm]; exact hz), rfl, q _ I.fresh⟩
end
section
variable {prog : Program} {w : World} {A : Around} {E : Value → Shared → Prop} {s : Shared}
end
section
variable {X : Cx}
end
end L2
namespace L2
open PySem PySem.Spec PyProof.Rows
theorem Vals.ints : ∀ {ns : List Int} {us : List Value}, Vals (ns.map V.int) us → IntsAre us ns
  | [], us, h => by
    rw [List.map_nil] at h
    cases h
    exact IntsAre.nil
  | n :: ns, us, h => by
    rw [List.map_cons] at h
    cases h with
    | cons r t =>
      obtain ⟨k, rfl⟩ := r
      exact IntsAre.cons n k (Vals.ints t)
theorem Vals.strs : ∀ {xs : List Str} {us : List Value}, Vals (xs.map V.str) us → StrsAre us xs
  | [], us, h => by
    rw [List.map_nil] at h
    cases h
    exact StrsAre.nil
  | x :: xs, us, h => by
    rw [List.map_cons] at h
    cases h with
    | cons r t =>
      obtain ⟨k, rfl⟩ := r
      exact StrsAre.cons x k (Vals.strs t)
theorem Vals.ref1 {a : Addr} {us : List Value} (r : Vals [V.ref a] us) : us = [Value.ref a] := by
  cases r with
  | cons r t =>
    cases t
    cases r
    rfl
section
variable {prog : Program} {w : World} {A : Around} {E : Value → Shared → Prop} {s : Shared} {l : Addr} {its : List Value} {ns : List Int} {Q : Value → Shared → Prop}
theorem max_raw (hh : A.handled = none) (hl : s.heap.IsList l its.toArray) (hi : IntsAre its ns) (hne : 0 < ns.length)
    (h : ∀ h' tk M t', (∀ b o, s.heap.get? b = some o → h'.get? b = some o) → M ∈ ns → (∀ a, a ∈ ns → a ≤ M) → Q (.int M t') { s with heap := h', toks := tk }) : wpAny (model prog w) A (call (.builtin "max") [.ref l]) Q E s := by
  obtain ⟨xs, e⟩ := hi.allInts.items
  have hn : numsOf (intItems xs).toList = ns := by rw [← e]; exact hi.numsOf
  rw [nums_intItems] at hn
  subst hn
  rw [e] at hl
  have hsz : 0 < xs.size := by simpa using hne
  refine PySem.max_intList hh hl hsz fun v h' tk hv hk => ?_
  obtain ⟨t, rfl⟩ := intItems_at hv
  obtain ⟨h1, h2⟩ := argBest_gt (numAt xs) (xs.size - 1)
  refine h h' tk _ t hk ?_ fun a ha => ?_
  · rw [numAt_eq]; exact PySem.getD_mem (by rw [List.length_map, Array.length_toList]; omega)
  · obtain ⟨j, hj, rfl⟩ := mem_getD ha
    rw [List.length_map, Array.length_toList] at hj
    rw [← numAt_eq]; exact h2 j (by omega)
end
section
variable {X : Cx}
noncomputable def rMax (K : PySem.W.Frag) : List V → Hp → VK → Prop := fun vs H Q => ∃ (a : Addr) (ns : List Int), vs = [V.ref a] ∧ SqL K H a (ns.map V.int) ∧ 0 < ns.length ∧ ∀ m, m ∈ ns → (∀ y, y ∈ ns → y ≤ m) → Q (.int m) H
theorem cr_max (hc : X.calm = true) : CallR X (.builtin "max") (rMax X.K) := by
  intro pins s σ H vs us Q I r h
  obtain ⟨a, ns, rfl, hs, hne, q⟩ := h
  obtain ⟨its, rv, hl, _⟩ := I.list hs
  rw [Vals.ref1 r]
  exact max_raw (I.ok.hd hc) hl.isList rv.ints hne fun h' tk m t' hk h1 h2 => ⟨.int _, H, I.kept hk, ⟨_, rfl⟩, q m h1 h2⟩
end
section
variable {X : Cx}
end
section
variable {X : Cx}
end
section
variable {X : Cx}
end
mutual
inductive Dp (K : PySem.W.Frag) (H : Hp) : V → PyData → Prop
  | non : Dp K H .non .none
  | bl (b : Bool) : Dp K H (.bl b) (.bool b)
  | int (i : Int) : Dp K H (.int i) (.int i)
  | str (x : Str) : Dp K H (.str x) (.str x)
  | lst {a : Addr} {xs : List V} {ds : List PyData} : SqL K H a xs → DpAll K H xs ds → Dp K H (.ref a) (.list ds)
  | tup {a : Addr} {xs : List V} {ds : List PyData} : SqT K H a xs → DpAll K H xs ds → Dp K H (.ref a) (.tuple ds)
inductive DpAll (K : PySem.W.Frag) (H : Hp) : List V → List PyData → Prop
  | nil : DpAll K H [] []
  | cons {v : V} {vs : List V} {d : PyData} {ds : List PyData} : Dp K H v d → DpAll K H vs ds → DpAll K H (v :: vs) (d :: ds)
end
section
variable {X : Cx} {pins : List (Addr × Obj)} {σ : St} {H : Hp} {s : Shared}
mutual
theorem Dp.reads (I : Inv X pins σ H s) : ∀ (d : PyData) (v : V) (u : Value), Dp X.K H v d → RelV v u → ∃ as, Reads s.heap u d as
  | .none, _, _, h, r => by
    cases h
    cases r
    exact ⟨_, Reads.none⟩
  | .bool b, _, _, h, r => by
    cases h
    cases r
    exact ⟨_, Reads.bool b⟩
  | .int i, _, _, h, r => by
    cases h
    obtain ⟨t, rfl⟩ := r
    exact ⟨_, Reads.int i t⟩
  | .str x, _, _, h, r => by
    cases h
    obtain ⟨t, rfl⟩ := r
    exact ⟨_, Reads.str x t⟩
  | .list ds, _, _, h, r => by
    cases h with
    | lst hs ha =>
      cases r
      obtain ⟨its, rv, ⟨o, n, ho, hc, _, hd⟩, _⟩ := I.list hs
      obtain ⟨as, hr⟩ := Dp.readsAll I ds _ its ha rv
      exact ⟨_, Reads.list ho hc hd hr⟩
  | .tuple ds, _, _, h, r => by
    cases h with
    | tup hs ha =>
      cases r
      obtain ⟨its, rv, ⟨o, ho, hc, n, hd⟩, _⟩ := I.tuple hs
      obtain ⟨as, hr⟩ := Dp.readsAll I ds _ its ha rv
      exact ⟨_, Reads.tuple ho hc hd hr⟩
  | .dict _, _, _, h, _ => by cases h
theorem Dp.readsAll (I : Inv X pins σ H s) : ∀ (ds : List PyData) (vs : List V) (us : List Value), DpAll X.K H vs ds → Vals vs us → ∃ as, ReadsAll s.heap us ds as
  | [], _, _, h, r => by
    cases h
    cases r
    exact ⟨_, ReadsAll.nil⟩
  | d :: ds, _, _, h, r => by
    cases h with
    | cons h1 h2 =>
      cases r with
      | cons r1 r2 =>
        obtain ⟨as, q1⟩ := Dp.reads I d _ _ h1 r1
        obtain ⟨bs, q2⟩ := Dp.readsAll I ds _ _ h2 r2
        exact ⟨_, ReadsAll.cons q1 q2⟩
end
end
section
variable {X : Cx}
end
end L2
namespace L2
open PySem PySem.Spec PyProof.Rows
noncomputable abbrev CellAt (h : Heap) (c : Addr) (v : Option Value) : Prop := h.IsCell c v
noncomputable def relS (scope sc : Scope) : Scope :=
  { scope with names := scope.names.map fun (n, k) => if (k == .free && sc.kind == .function && sc.names.lookup n == some .cell) then (n, .cell) else (n, k) }
noncomputable def cloFrom (cells : List (Str × Addr)) : List (Str × NameKind) → List (Str × Addr) → List (Str × Addr)
  | [], acc => acc
  | (n, k) :: r, acc => if k == .free then cloFrom cells r ((n, (cells.lookup n).getD 0) :: acc) else cloFrom cells r acc
theorem closure_loop (env : Env) (f : Str × NameKind → List (Str × Addr) → Sem (ForInStep (List (Str × Addr))))
    (hf : ∀ n k c, f (n, k) c = if k == .free then (do let a ← cellOf env n; pure (.yield ((n, a) :: c))) else pure (.yield c)) :
    ∀ (names : List (Str × NameKind)) (acc : List (Str × Addr)), (∀ y ∈ names, y.2 = .free → ∃ c, env.cells.lookup y.1 = some c) → forIn names acc f = pure (cloFrom env.cells names acc)
  | [], acc, _ => by rw [List.forIn_nil]; rfl
  | (n, k) :: r, acc, h => by
    rw [List.forIn_cons, hf]
    have ih := fun acc => closure_loop env f hf r acc fun y hy => h y (List.mem_cons_of_mem _ hy)
    unfold cloFrom
    by_cases hk : (k == NameKind.free) = true
    · rw [if_pos hk, if_pos hk]
      obtain ⟨c, hc⟩ := h (n, k) List.mem_cons_self (by simpa using hk)
      have e : cellOf env n = pure c := by unfold cellOf; rw [hc]
      rw [e]
      have e2 : (env.cells.lookup n).getD 0 = c := by rw [hc]; rfl
      rw [e2]
      exact ih _
    · rw [if_neg hk, if_neg hk]
      exact ih _
theorem closure_ok {scope : Scope} {env : Env} (h : ∀ y ∈ scope.names, y.2 = .free → ∃ c, env.cells.lookup y.1 = some c) : closureFor scope env = pure (cloFrom env.cells scope.names []) := by
  simp only [closureFor]
  rw [closure_loop env _ (fun n k c => rfl) scope.names [] h]
  rfl
theorem mem_lookup {α : Type} : ∀ {l : List (Str × α)} {n : Str} {c : α}, (n, c) ∈ l → ∃ c', l.lookup n = some c'
  | (k, v) :: r, n, c, h => by
    rw [List.lookup_cons]
    cases hb : n == k with
    | true => exact ⟨_, rfl⟩
    | false =>
      rcases List.mem_cons.mp h with e | h
      · cases e; simp at hb
      · exact mem_lookup h
theorem cloFrom_mem {cells : List (Str × Addr)} : ∀ {names : List (Str × NameKind)} {acc : List (Str × Addr)} {n : Str} {c : Addr}, (n, c) ∈ cloFrom cells names acc → (n, c) ∈ acc ∨ ((n, .free) ∈ names ∧ c = (cells.lookup n).getD 0)
  | [], _, _, _, h => .inl h
  | (m, k) :: r, acc, n, c, h => by
    unfold cloFrom at h
    split at h
    · rename_i hk
      have hk : k = .free := by simpa using hk
      rcases cloFrom_mem h with h | ⟨h1, h2⟩
      · rcases List.mem_cons.mp h with e | h
        · cases e; exact .inr ⟨hk ▸ List.mem_cons_self, rfl⟩
        · exact .inl h
      · exact .inr ⟨List.mem_cons_of_mem _ h1, h2⟩
    · rcases cloFrom_mem h with h | ⟨h1, h2⟩
      · exact .inl h
      · exact .inr ⟨List.mem_cons_of_mem _ h1, h2⟩
theorem cloFrom_acc {cells : List (Str × Addr)} : ∀ {names : List (Str × NameKind)} {acc : List (Str × Addr)} {p : Str × Addr}, p ∈ acc → p ∈ cloFrom cells names acc
  | [], _, _, h => h
  | (m, k) :: r, acc, p, h => by
    unfold cloFrom
    split
    · exact cloFrom_acc (List.mem_cons_of_mem _ h)
    · exact cloFrom_acc h
theorem cloFrom_has {cells : List (Str × Addr)} : ∀ {names : List (Str × NameKind)} {acc : List (Str × Addr)} {n : Str}, (n, .free) ∈ names → (n, (cells.lookup n).getD 0) ∈ cloFrom cells names acc
  | (m, k) :: r, acc, n, h => by
    unfold cloFrom
    rcases List.mem_cons.mp h with e | h
    · cases e
      exact cloFrom_acc List.mem_cons_self
    · split
      · exact cloFrom_has h
      · exact cloFrom_has h
theorem cells_mem : ∀ {names : List (Str × NameKind)} {h : Heap} {acc : List (Str × Addr)} {x : Str} {c : Addr}, (x, c) ∈ cellsFrom h.objs.size names acc →
    (x, c) ∈ acc ∨ ((x, .cell) ∈ names ∧ h.objs.size ≤ c ∧ CellAt (pushCells h names) c none)
  | [], _, _, _, _, h => .inl h
  | (n, k) :: r, h, acc, x, c, hm => by
    unfold cellsFrom at hm
    unfold pushCells
    split at hm
    · rename_i hk
      rw [if_pos hk]
      have hk : k = .cell := by simpa using hk
      rw [← Heap.size_push h { cls := .type "cell", data := .cell none }] at hm
      rcases cells_mem hm with hm | ⟨h1, h2, h3⟩
      · rcases List.mem_cons.mp hm with e | hm
        · cases e
          exact .inr ⟨hk ▸ List.mem_cons_self, Nat.le_refl _, _, pushCells_keeps r _ _ _ (Heap.get?_push_size _ rfl), rfl⟩
        · exact .inl hm
      · rw [Heap.size_push] at h2
        exact .inr ⟨List.mem_cons_of_mem _ h1, Nat.le_of_succ_le h2, h3⟩
    · rename_i hk
      rw [if_neg hk]
      rcases cells_mem hm with hm | ⟨h1, h2, h3⟩
      · exact .inl hm
      · exact .inr ⟨List.mem_cons_of_mem _ h1, h2, h3⟩
theorem cells_acc : ∀ {names : List (Str × NameKind)} {n : Nat} {acc : List (Str × Addr)} {p : Str × Addr}, p ∈ acc → p ∈ cellsFrom n names acc
  | [], _, _, _, h => h
  | (m, k) :: r, n, acc, p, h => by
    unfold cellsFrom
    split
    · exact cells_acc (List.mem_cons_of_mem _ h)
    · exact cells_acc h
theorem cells_has : ∀ {names : List (Str × NameKind)} {n : Nat} {acc : List (Str × Addr)} {x : Str}, (x, .cell) ∈ names → ∃ c, (x, c) ∈ cellsFrom n names acc
  | (m, k) :: r, n, acc, x, h => by
    unfold cellsFrom
    rcases List.mem_cons.mp h with e | h
    · cases e
      exact ⟨n, cells_acc List.mem_cons_self⟩
    · split
      · exact cells_has h
      · exact cells_has h
theorem cells_inj : ∀ {names : List (Str × NameKind)} {h : Heap} {acc : List (Str × Addr)} {x y : Str} {c : Addr}, (∀ p ∈ acc, p.2 < h.objs.size) → (∀ x y c, (x, c) ∈ acc → (y, c) ∈ acc → x = y) →
    (x, c) ∈ cellsFrom h.objs.size names acc → (y, c) ∈ cellsFrom h.objs.size names acc → x = y
  | [], _, _, _, _, _, _, hi, h1, h2 => hi _ _ _ h1 h2
  | (n, k) :: r, h, acc, x, y, c, hl, hi, h1, h2 => by
    unfold cellsFrom at h1 h2
    split at h1
    · rename_i hk
      rw [if_pos hk] at h2
      rw [← Heap.size_push h { cls := .type "cell", data := .cell none }] at h1 h2
      refine cells_inj (h := h.push _) (fun p hp => ?_) (fun x y c a b => ?_) h1 h2
      · rw [Heap.size_push]
        rcases List.mem_cons.mp hp with rfl | hp
        · exact Nat.lt_succ_self _
        · exact Nat.lt_succ_of_lt (hl p hp)
      · rcases List.mem_cons.mp a with e | a <;> rcases List.mem_cons.mp b with e' | b
        · cases e; cases e'; rfl
        · cases e; exact absurd (hl _ b) (Nat.lt_irrefl _)
        · cases e'; exact absurd (hl _ a) (Nat.lt_irrefl _)
        · exact hi _ _ _ a b
    · rename_i hk
      rw [if_neg hk] at h2
      exact cells_inj hl hi h1 h2
theorem newEnv_comp {M : Model} {A : Around} {E : Value → Shared → Prop} {s : Shared} {scope : Scope} {globals : Addr} {closure : List (Str × Addr)} {qual : Str} {func : Option Addr} {code : Value} {around : Env} {builtins : Addr} {Q : Env → Shared → Prop}
    (h : Q (newEnv scope s.heap.objs.size globals (cellsFrom (s.heap.objs.size + 1) scope.names closure) qual func code (some around) builtins)
      { s with heap := pushCells (s.heap.push { cls := .type "dict", data := .dict #[] }) scope.names }) :
    wpAny M A (newFunctionEnv scope globals closure [] qual func code (some around) builtins) Q E s := by
  simp only [newFunctionEnv, Option.isSome_some, if_true]
  refine wpAny_bind (wpAny_alloc ?_)
  refine wpAny_bind (wpAny_layCells _ (fun n k c => rfl) scope.names closure _ _ ?_)
  rw [show ({ s with heap := s.heap.push { cls := .type "dict", data := .dict #[] } } : Shared).heap.objs.size = s.heap.objs.size + 1 from Heap.size_push ..]
  rw [List.forIn_nil]
  exact wpAny_bind (wpAny_pure (wpAny_pure h))
theorem lookup_relS {sc : Scope} : ∀ {names : List (Str × NameKind)} {x : Str} {k : NameKind},
    (names.map fun (n, k) => if (k == NameKind.free && sc.kind == .function && sc.names.lookup n == some .cell) then (n, NameKind.cell) else (n, k)).lookup x = some k →
    ∃ k', names.lookup x = some k' ∧ (k = k' ∨ (k' = .free ∧ k = .cell))
  | [], _, _, h => by simp at h
  | (n, k₀) :: r, x, k, h => by
    have ih := @lookup_relS sc r x k
    have h' : List.lookup x ((if (k₀ == NameKind.free && sc.kind == .function && sc.names.lookup n == some .cell) = true then (n, NameKind.cell) else (n, k₀)) :: (r.map _)) = some k := h
    cases hx : x == n with
    | true =>
      simp only [List.lookup_cons, hx]
      by_cases hc : (k₀ == NameKind.free && sc.kind == .function && sc.names.lookup n == some .cell) = true
      · rw [if_pos hc] at h'
        simp only [List.lookup_cons, hx] at h'
        cases h'
        simp only [Bool.and_eq_true, beq_iff_eq] at hc
        exact ⟨k₀, rfl, .inr ⟨hc.1.1, rfl⟩⟩
      · rw [if_neg hc] at h'
        simp only [List.lookup_cons, hx] at h'
        cases h'
        exact ⟨_, rfl, .inl rfl⟩
    | false =>
      simp only [List.lookup_cons, hx]
      by_cases hc : (k₀ == NameKind.free && sc.kind == .function && sc.names.lookup n == some .cell) = true
      · rw [if_pos hc] at h'
        simp only [List.lookup_cons, hx] at h'
        exact ih h'
      · rw [if_neg hc] at h'
        simp only [List.lookup_cons, hx] at h'
        exact ih h'
structure BlkOk (N : List Str) (sc scope : Scope) (own : List (Str × Nat)) : Prop where
  kind : scope.kind = .function
  uniq : ∀ y ∈ scope.names, scope.names.lookup y.1 = some y.2
  ix : ∀ p ∈ own, N[p.2]? = some p.1
  free : ∀ y ∈ scope.names, y.2 = .free → sc.names.lookup y.1 = some .cell ∨ sc.names.lookup y.1 = some .free
  own : ∀ y ∈ scope.names, y.2 = .local ∨ y.2 = .cell → y.1 ∈ own.map (·.1) ∨ y.1 ∉ N
noncomputable def wipe (σ : St) : List Nat → St
  | [] => σ
  | v :: vs => (wipe σ vs).set v none
theorem wipe_length (σ : St) : ∀ vs : List Nat, (wipe σ vs).length = σ.length
  | [] => rfl
  | v :: vs => by unfold wipe; rw [List.length_set, wipe_length σ vs]
theorem wipe_some {σ : St} {i : Nat} {x : V} : ∀ {vs : List Nat}, (wipe σ vs)[i]? = some (some x) → σ[i]? = some (some x) ∧ i ∉ vs
  | [], h => ⟨h, by simp⟩
  | v :: vs, h => by
    unfold wipe at h
    by_cases hi : v = i
    · subst hi
      by_cases hv : v < (wipe σ vs).length
      · rw [List.getElem?_set_self hv] at h; cases h
      · rw [List.getElem?_eq_none (by simpa using hv)] at h; cases h
    · rw [List.getElem?_set_ne hi] at h
      obtain ⟨h1, h2⟩ := wipe_some h
      exact ⟨h1, by simp only [List.mem_cons, not_or]; exact ⟨fun e => hi e.symm, h2⟩⟩
noncomputable abbrev Cx.blk (X : Cx) (s : Shared) (H : Hp) (scope : Scope) (cenv : Env) (fp : List Addr) : Cx := { X with s_0 := s, H_0 := H, env := cenv, outer := X.stack, ex := fp, fn := fun x => scope.names.lookup x == some .cell, pn := [], xe := fun _ _ => False }
section
variable {X : Cx} {pins : List (Addr × Obj)} {σ : St} {H : Hp} {s : Shared}
theorem block_start {scope : Scope} {own : List (Str × Nat)} {fp : List Addr} (I : Inv X pins σ H s) (ok : BlkOk X.N X.env.scope scope own) (hN : X.N.Nodup) (hfp : ∀ b ∈ fp, FpOk X pins H b ∧ b < s.heap.objs.size) :
    Inv (X.blk s H scope (compEnvC scope (cellsFrom (s.heap.objs.size + 1) scope.names (cloFrom X.env.cells scope.names [])) s.heap.objs.size X.env) fp) [] (wipe σ (own.map (·.2))) H { s with heap := pushCells (s.heap.push { cls := .type "dict", data := .dict #[] }) scope.names } := by
  have hfree : ∀ y ∈ scope.names, y.2 = .free → ∃ c, X.env.cells.lookup y.1 = some c := fun y hy e => by
    rcases ok.free y hy e with k | k
    · exact I.ok.has _ (.inl k)
    · exact I.ok.has _ (.inr k)
  generalize hcenv : compEnvC scope (cellsFrom (s.heap.objs.size + 1) scope.names (cloFrom X.env.cells scope.names [])) s.heap.objs.size X.env = cenv
  have kp : ∀ b o, s.heap.get? b = some o → (pushCells (s.heap.push { cls := .type "dict", data := .dict #[] }) scope.names).get? b = some o := fun b o e => pushCells_keeps _ _ _ _ (Heap.get?_push_of_some _ e)
  have hL : cenv.locals = s.heap.objs.size := by rw [← hcenv]; rfl
  have hcl : cenv.cells = cellsFrom (s.heap.objs.size + 1) scope.names (cloFrom X.env.cells scope.names []) := by rw [← hcenv]; rfl
  have hsc : cenv.scope = relS scope X.env.scope := by rw [← hcenv]; rfl
  rw [← Heap.size_push s.heap { cls := .type "dict", data := .dict #[] }] at hcl
  have cm : ∀ {y c}, (y, c) ∈ cloFrom X.env.cells scope.names [] → X.env.cells.lookup y = some c ∧ c < s.heap.objs.size := fun {y c} hm => by
    rcases cloFrom_mem hm with hm | ⟨h1, rfl⟩
    · cases hm
    · obtain ⟨c, hc⟩ := hfree _ h1 rfl
      rw [hc]
      obtain ⟨w, z⟩ := I.cell _ _ hc
      exact ⟨rfl, z.lt⟩
  have mem : ∀ {y c}, cenv.cells.lookup y = some c → (X.env.cells.lookup y = some c ∧ c < s.heap.objs.size) ∨ (s.heap.objs.size + 1 ≤ c ∧ CellAt (pushCells (s.heap.push { cls := .type "dict", data := .dict #[] }) scope.names) c none) := fun {y c} e => by
    rw [hcl] at e
    rcases cells_mem (PySem.mem_of_lookup e) with hm | ⟨_, h2, h3⟩
    · exact .inl (cm hm)
    · rw [Heap.size_push] at h2; exact .inr ⟨h2, h3⟩
  have look : ∀ {y}, scope.names.lookup y = some .free → ∃ c, cenv.cells.lookup y = some c ∧ X.env.cells.lookup y = some c := fun {y} hl => by
    have hy : (y, NameKind.free) ∈ scope.names := PySem.mem_of_lookup hl
    obtain ⟨c', e'⟩ := mem_lookup (cells_acc (names := scope.names) (n := (s.heap.push { cls := .type "dict", data := .dict #[] }).objs.size) (cloFrom_has (cells := X.env.cells) (acc := []) hy))
    rw [← hcl] at e'
    refine ⟨c', e', ?_⟩
    rw [hcl] at e'
    rcases cells_mem (PySem.mem_of_lookup e') with hm | ⟨h1, _, _⟩
    · exact (cm hm).1
    · have := ok.uniq _ h1
      rw [hl] at this; cases this
  have okB : (X.blk s H scope cenv fp).Ok := by
    refine ⟨I.ok.mod, by show cenv.scope.kind = _; rw [hsc]; exact ok.kind, by show cenv.globals = _; rw [← hcenv]; exact I.ok.glob, by show cenv.builtins = _; rw [← hcenv]; exact I.ok.blt, by show s.heap.objs.size ≤ cenv.locals; rw [hL]; exact Nat.le_refl _,
      fun y z c e1 e2 => ?_, fun y hy => ?_, fun y c z e => ?_, I.ok.hd, I.ok.frames, .inl rfl, fun b hb => ⟨?_, fun y c e z => ?_⟩, I.bs, Nat.le_trans I.ok.bsz I.sz, fun b o e hb => ?_, fun b hb z => ?_, I.stack, I.stkFree⟩
    · have e1 : cenv.cells.lookup y = some c := e1
      have e2 : cenv.cells.lookup z = some c := e2
      rw [hcl] at e1 e2
      refine cells_inj (fun p hp => ?_) (fun y z c a b => I.ok.inj y z c (cm a).1 (cm b).1) (PySem.mem_of_lookup e1) (PySem.mem_of_lookup e2)
      rw [Heap.size_push]
      exact Nat.lt_succ_of_lt (cm (y := p.1) (c := p.2) hp).2
    · show ∃ c, cenv.cells.lookup y = some c
      have key : ∀ k, cenv.kindOf y = some k → (k = .cell ∨ k = .free) → ∃ c, cenv.cells.lookup y = some c := fun k hk hk' => by
        unfold Env.kindOf at hk
        rw [hsc] at hk
        obtain ⟨k', e, r⟩ := lookup_relS hk
        have : k' = .cell ∨ k' = .free := by
          rcases r with rfl | ⟨rfl, _⟩
          · exact hk'
          · exact .inr rfl
        rcases this with rfl | rfl
        · obtain ⟨c, hm⟩ := cells_has (n := (s.heap.push { cls := .type "dict", data := .dict #[] }).objs.size) (acc := cloFrom X.env.cells scope.names []) (PySem.mem_of_lookup e)
          obtain ⟨c', e'⟩ := mem_lookup hm
          exact ⟨c', by rw [hcl]; exact e'⟩
        · obtain ⟨c, h1, _⟩ := look e
          exact ⟨c, h1⟩
      rcases hy with hy | hy
      · exact key _ hy (.inl rfl)
      · exact key _ hy (.inr rfl)
    · have z : (scope.names.lookup y == some NameKind.cell) = true := z
      have z : scope.names.lookup y = some .cell := by simpa using z
      have e : cenv.cells.lookup y = some c := e
      rw [hcl] at e
      rcases cells_mem (PySem.mem_of_lookup e) with hm | ⟨_, h2, _⟩
      · rcases cloFrom_mem hm with hm | ⟨h1, _⟩
        · cases hm
        · have q := ok.uniq _ h1
          rw [z] at q; cases q
      · rw [Heap.size_push] at h2
        exact Nat.le_of_succ_le h2
    · show b ≠ cenv.locals
      rw [hL]; exact Nat.ne_of_lt (hfp b hb).2
    · have e : cenv.cells.lookup y = some c := e
      rcases mem e with ⟨h1, _⟩ | ⟨h1, _⟩
      · exact (hfp b hb).1.2.2.2.2.1 y c h1 z
      · have h2 : s.heap.objs.size + 1 ≤ b := by rw [← z]; exact h1
        exact absurd (Nat.lt_of_lt_of_le (hfp b hb).2 (Nat.le_of_succ_le h2)) (Nat.lt_irrefl _)
    · rcases (hfp b hb).1.2.2.2.1 with z | z
      · exact I.ok.noex b o e z
      · exact absurd (Nat.lt_of_lt_of_le (Heap.lt_size e) (Nat.le_trans I.ok.bsz z)) (Nat.lt_irrefl _)
    · rcases List.mem_cons.mp (I.stkSub b z) with z | z
      · exact (hfp b hb).1.2.1 z
      · exact (hfp b hb).1.2.2.1 z
  refine ⟨okB, rfl, I.bare, Un.kept kp, ⟨fun _ => none, ?_, fun i y av e1 e2 e3 => ?_⟩, fun y c e => ?_, ?_, fun y c e => ?_, fun p hp => ?_, I.hok.kept kp, by rw [wipe_length]; exact I.len⟩
  · show Heap.Ns _ cenv.locals _
    rw [hL]
    exact Heap.Ns.keeps (Heap.Ns.new ..) fun b o e => pushCells_keeps _ _ _ _ e
  · obtain ⟨e2, hne⟩ := wipe_some e2
    have hfr : scope.names.lookup y = some .free ∧ (cenv.kindOf y = some .cell ∨ cenv.kindOf y = some .free) := by
      have key : ∀ k, cenv.scope.names.lookup y = some k → k = .local ∨ k = .cell ∨ k = .free → scope.names.lookup y = some .free ∧ (cenv.kindOf y = some .cell ∨ cenv.kindOf y = some .free) := fun k hk hk' => by
        have hk0 := hk
        rw [hsc] at hk
        obtain ⟨k', e, r⟩ := lookup_relS hk
        have no : ¬ (k' = .local ∨ k' = .cell) := fun hh => by
          rcases ok.own _ (PySem.mem_of_lookup e) hh with e' | e'
          · obtain ⟨p, hp, hpy⟩ := List.mem_map.mp e'
            have e3 := ok.ix p hp
            have : p.1 = y := hpy
            rw [this] at e3
            exact hne (List.mem_map.mpr ⟨p, hp, nodup_ix hN e3 e1⟩)
          · exact e' (List.mem_of_getElem? e1)
        rcases r with rfl | ⟨rfl, rfl⟩
        · rcases hk' with rfl | rfl | rfl
          · exact absurd (.inl rfl) no
          · exact absurd (.inr rfl) no
          · exact ⟨e, .inr hk0⟩
        · exact ⟨e, .inl hk0⟩
      have e3 : Vis cenv.scope y := e3
      rcases e3 with e3 | e3 | e3
      · exact key _ e3 (.inl rfl)
      · exact key _ e3 (.inr (.inl rfl))
      · exact key _ e3 (.inr (.inr rfl))
    obtain ⟨m, hn, hl⟩ := I.loc
    have hvis : Vis X.env.scope y := (ok.free _ (PySem.mem_of_lookup hfr.1) rfl).elim (fun k => .inr (.inl k)) (fun k => .inr (.inr k))
    obtain ⟨w, r, q⟩ := hl i y av e1 e2 hvis
    refine ⟨w, r, .inr ⟨hfr.2, ?_⟩⟩
    obtain ⟨c, h1, h2⟩ := look hfr.1
    rcases q with ⟨k, _⟩ | ⟨_, c', e', z⟩
    · have k : X.env.scope.names.lookup y = some .local := k
      rcases ok.free _ (PySem.mem_of_lookup hfr.1) rfl with k' | k' <;> rw [show X.env.scope.names.lookup y = _ from k'] at k <;> cases k
    · rw [h2] at e'; cases e'
      exact ⟨c, h1, z.keeps kp⟩
  · have e : cenv.cells.lookup y = some c := e
    rcases mem e with ⟨h1, _⟩ | ⟨_, z⟩
    · obtain ⟨w, z⟩ := I.cell y c h1
      exact ⟨w, z.keeps kp⟩
    · exact ⟨_, z⟩
  · show H cenv.locals = none
    rw [hL]; exact I.hok.fresh (Nat.le_refl _)
  · have e : cenv.cells.lookup y = some c := e
    rcases mem e with ⟨h1, _⟩ | ⟨h1, _⟩
    · exact I.freeC y c h1
    · exact I.hok.fresh (Nat.le_of_succ_le h1)
  · exact absurd (show p ∈ ([] : List (Addr × Obj)) ++ [] from hp) (by simp)
theorem app_ok {E : Value → Shared → Prop} {D : Addr} {xs : List V} {y : V} {v : Value} {Q : Value → Shared → Prop} (I : Inv X pins σ H s) (hD : H D = some (.lst xs)) (hz : xs.length < sizeLine) (r : RelV y v)
    (h : ∀ s', Inv X pins σ (upd H D (.lst (xs ++ [y]))) s' → Q .none s') : wpAny (model X.prog X.w) X.A (call (.builtin "list.append") [.ref D, v]) Q E s := by
  obtain ⟨hz', its, n, ri, e⟩ := I.hok D _ hD
  have hl := ri.length
  refine append_at (hsz := by rw [List.size_toArray]; omega) e fun h' sb ho' => ?_
  refine h { s with heap := h' } (I.write (t' := s.toks) (by rw [hD]; trivial) (.inl rfl) (fun b u hb q => (sb.2 b hb).trans q) ⟨_, ho'⟩ ⟨by rw [List.length_append]; exact hz, its ++ [v], n + 1, ri.append (.cons r .nil), ?_⟩)
  rw [ho']
  simp
noncomputable def PTs (X : Cx) (ifs : List Expr) (t : TT) : Prop :=
  ∀ (pins : List (Addr × Obj)) (s : Shared) (σ : St) (H : Hp) (Q : Bool → Hp → Prop), Inv X pins σ H s → t σ H Q →
    wpAny (model X.prog X.w) X.A (forIn ifs true fun c r => if r = true then do let ok ← isTrue c X.env (eval c X.env); pure (ForInStep.yield ok) else pure (ForInStep.yield r)) (TP X pins σ Q) X.xe s
noncomputable def tYes : TT := fun _ H Q => Q true H
theorem pts_nil : PTs X [] tYes := fun _ _ _ H _ I h => wpAny_tests_nil ⟨H, I, h⟩
theorem pts_one {c : Expr} {t : TT} (h : PT X c t) : PTs X [c] t := fun pins s σ H Q I hw => wpAny_tests_one (h pins s σ H Q I hw)
end
theorem thnF {α : Type} {t : Sem α} {Q Q' : α → Shared → Prop} {M : Model} {A : Around} {E : Value → Shared → Prop} {s : Shared} (h : wpAny M A t Q (fun _ _ => False) s) (hQ : ∀ a s, Q a s → Q' a s) : wpAny M A t Q' E s := wpAny_mono h hQ fun _ _ z => False.elim z
theorem compLoop_any {prog : Program} {w : World} {A : Around} {R : Result → Shared → Prop} {s : Shared} {elt target iter : Expr} {ifs : List Expr} {scope : Scope} {pos : Pos} {it acc : Value} {env : Env} (I : Nat → Shared → Prop)
    (turn : ∀ n s, I n s → wpAny (model prog w) A (pyNext it) (fun r s₁ => match r with
      | none => R (.ok .next) s₁
      | some v => wpAny (model prog w) A (letOwnedTupleGo target it v) (fun _ s₁' => wpAny (model prog w) A (assign target env v) (fun _ s₂ =>
          wpAny (model prog w) A (forIn ifs true fun c r => if r = true then do let ok ← isTrue c env (eval c env); pure (ForInStep.yield ok) else pure (ForInStep.yield r)) (fun ok s₃ =>
            if ok = true then wpAny (model prog w) A (eval elt env) (fun x s₄ =>
              wpAny (model prog w) A (call (.builtin "list.append") [acc, x]) (fun _ s₅ => ∃ m, m < n ∧ I m s₅) (notedBy (model prog w) A env fun e s' => R (.error e) s') s₄) (notedBy (model prog w) A env fun e s' => R (.error e) s') s₃
            else ∃ m, m < n ∧ I m s₃) (notedBy (model prog w) A env fun e s' => R (.error e) s') s₂) (notedBy (model prog w) A env fun e s' => R (.error e) s') s₁') (notedBy (model prog w) A env fun e s' => R (.error e) s') s₁) (notedBy (model prog w) A env fun e s' => R (.error e) s') s)
    (n : Nat) (h : I n s) :
    codeAny (model prog w) A (.compLoop (.ListComp elt [⟨target, iter, ifs, 0⟩] scope pos) 0 it acc env) R s := by
  refine codeAny_loop rfl I (fun n s hI => ?_) n h
  show wpAny _ A ((compTurn (.ListComp elt [⟨target, iter, ifs, 0⟩] scope pos) 0 it acc env).onRaise (fun x => do noteFrame x env; theTreesLotGoes x)) _ _ s
  refine wpAny_noted ?_
  rw [compTurn_list]
  refine wpAny_bind (wpAny_standAt (wpAny_bind (wpAny_mono (turn n s hI) (fun r s₁ h₁ => ?_) fun _ _ h' => h')))
  cases r with
  | none => exact wpAny_pure h₁
  | some v =>
    refine wpAny_bind (wpAny_mono h₁ (fun _ s₁' h₁' => ?_) fun _ _ h' => h')
    refine wpAny_bind (wpAny_mono h₁' (fun _ s₂ h₂ => wpAny_bind (wpAny_mono h₂ (fun ok s₃ h₃ => ?_) fun _ _ h' => h')) fun _ _ h' => h')
    cases ok with
    | false => exact wpAny_pure ⟨rfl, h₃⟩
    | true =>
      exact wpAny_bind (wpAny_bind (wpAny_mono h₃ (fun x s₄ h₄ => wpAny_bind (wpAny_mono h₄ (fun _ s₅ h₅ => wpAny_pure (wpAny_pure ⟨rfl, h₅⟩)) fun _ _ h' => h')) fun _ _ h' => h'))
section
variable {X : Cx}
noncomputable def tLc (wi : TI) (g : TG) (tt : TT) (te : TE) (vs : List Nat) : TE := fun σ H Q => wi σ H fun J H1 => ∀ D, H1 D = none → ∃ W : Nat → Nat → Hp → Prop, (∃ m, W 0 m (upd H1 D (.lst []))) ∧ ∀ i m H, W i m H →
  (J.stop i H ∧ Q (.ref D) H) ∨ (J.go i H ∧ ∃ Nx : Hp → Prop, (∀ H', Nx H' → ∃ m', m' < m ∧ W (i + 1) m' H') ∧ ∀ x H', J.yld i H x H' → g x (wipe σ vs) H' fun σ2 H2 => wipe σ2 vs = wipe σ vs ∧ tt σ2 H2 fun b H3 =>
    if b = true then te σ2 H3 fun y H4 => ∃ acc, H4 D = some (.lst acc) ∧ acc.length < sizeLine ∧ Nx (upd H4 D (.lst (acc ++ [y]))) else Nx H3)
theorem lc_core {pins : List (Addr × Obj)} {s : Shared} {σ : St} {H : Hp} {Q : VK} {elt tg iter : Expr} {ifs : List Expr} {scope : Scope} {own : List (Str × Nat)} {pos pos' : Pos} {wi : TI} {g : TG} {tt : TT} {te : TE} {use : Option (Value → Sem Unit)} {Qf : Value → Shared → Prop}
    (hc : X.calm = true) (hN : X.N.Nodup) (I : Inv X pins σ H s) (hi : PI X tg iter wi) (ok : BlkOk X.N X.env.scope scope own)
    (hg : ∀ (s : Shared) (H : Hp) (C : Addr) (cl : List (Str × Addr)) (fp : List Addr), PG (X.blk s H scope (compEnvC scope cl C X.env) fp) tg g) (ht : ∀ (s : Shared) (H : Hp) (C : Addr) (cl : List (Str × Addr)) (fp : List Addr), PTs (X.blk s H scope (compEnvC scope cl C X.env) fp) ifs tt)
    (he : ∀ (s : Shared) (H : Hp) (C : Addr) (cl : List (Str × Addr)) (fp : List Addr), PE (X.blk s H scope (compEnvC scope cl C X.env) fp) elt te) (hs : ∀ x, foldedSetIterable iter X.env x = pure x)
    (h : tLc wi g tt te (own.map (·.2)) σ H Q)
    (hRR : ∀ D C s' m H', Inv X pins σ H' s' → Q (.ref D) H' → s'.heap.Ns C m → FpOk X pins H' C → compPost (model X.prog X.w) X.A X.xe use Qf (.ref D) C (.ok .next) s') :
    wpAny (model X.prog X.w) X.A (comprehension (.ListComp elt [⟨tg, iter, ifs, 0⟩] scope pos) scope X.env pos' (newList []) false (eval iter X.env) use) Qf X.xe s := by
  have hfree : ∀ y ∈ scope.names, y.2 = .free → ∃ c, X.env.cells.lookup y.1 = some c := fun y hy e => by
    rcases ok.free y hy e with k | k
    · exact I.ok.has _ (.inl k)
    · exact I.ok.has _ (.inr k)
  refine wpAny_comprehension_free (use := use) rfl hs (closure_ok hfree) ok.kind (fun y hy e => by rw [ok.uniq y hy, e])
    (thn (hi pins s σ H _ I h) fun xv s1 hx => thn hx fun itv s2 h2 => ?_)
  obtain ⟨it, fp, tn, J, H2, e, I2, T, st2, f2, q⟩ := h2
  subst e
  refine wpAny_newObj_type (newEnv_comp ?_) (by show 0 ≤ sizeLine; decide)
  generalize hD : s2.heap.objs.size = D
  have hDn : H2 D = none := I2.hok.fresh (Nat.le_of_eq hD)
  obtain ⟨W, ⟨m0, w0⟩, turn⟩ := q D hDn
  -- the new list
  generalize hs3 : ({ s2 with heap := s2.heap.push { cls := .type "list", data := .seq ([] : List Value).toArray } } : Shared) = s3
  have I3 : Inv X pins σ (upd H2 D (.lst [])) s3 := by
    rw [← hs3]
    refine I2.laid (t' := s2.toks) (fun b o e => Heap.get?_push_of_some _ e) (Nat.le_of_eq hD) ⟨Nat.zero_le _, [], 0, .nil, ?_⟩
    rw [← hD]
    exact Heap.get?_push_size _ rfl
  have h3 : s3.heap = s2.heap.push { cls := .type "list", data := .seq ([] : List Value).toArray } := by rw [← hs3]
  have sz : ∀ b ∈ fp, b < s2.heap.objs.size := fun b hb => by
    obtain ⟨o, e, _⟩ := T.obj _ _ st2 b hb
    exact Heap.lt_size e
  have f3 : ∀ b ∈ fp, FpOk X pins (upd H2 D (.lst [])) b ∧ b < s3.heap.objs.size := fun b hb => by
    have hlt := sz b hb
    refine ⟨⟨?_, (f2 b hb).2⟩, by rw [h3, Heap.size_push]; exact Nat.lt_succ_of_lt hlt⟩
    rw [upd_ne (by rw [← hD]; exact Nat.ne_of_lt hlt)]
    exact (f2 b hb).1
  have st3 : tn 0 s3.heap := T.keep _ _ _ st2 fun b _ o e => by rw [h3]; exact Heap.get?_push_of_some _ e
  have I4 := block_start I3 ok hN f3
  have pg := hg s3 (upd H2 D (.lst [])) s3.heap.objs.size (cellsFrom (s3.heap.objs.size + 1) scope.names (cloFrom X.env.cells scope.names [])) fp
  have pt := ht s3 (upd H2 D (.lst [])) s3.heap.objs.size (cellsFrom (s3.heap.objs.size + 1) scope.names (cloFrom X.env.cells scope.names [])) fp
  have pe := he s3 (upd H2 D (.lst [])) s3.heap.objs.size (cellsFrom (s3.heap.objs.size + 1) scope.names (cloFrom X.env.cells scope.names [])) fp
  show codeAny _ _ (.compStart (.ListComp elt [⟨tg, iter, ifs, 0⟩] scope pos) 0 (.ref it) (.ref D) (compEnvC scope (cellsFrom (s3.heap.objs.size + 1) scope.names (cloFrom X.env.cells scope.names [])) s3.heap.objs.size X.env)) (compPost (model X.prog X.w) X.A X.xe use Qf (.ref D) s3.heap.objs.size) { s3 with heap := pushCells (s3.heap.push { cls := .type "dict", data := .dict #[] }) scope.names }
  have nfp : ∀ b ∈ fp, (upd H2 D (.lst [])) b = none := fun b hb => (f3 b hb).1.1
  generalize hce : compEnvC scope (cellsFrom (s3.heap.objs.size + 1) scope.names (cloFrom X.env.cells scope.names [])) s3.heap.objs.size X.env = ce at I4 pg pt pe ⊢
  have cL : ce.locals = s3.heap.objs.size := by subst hce; rfl
  generalize hH3 : upd H2 D (.lst []) = H3 at I3 I4 pg pt pe w0 nfp f3
  generalize hs4 : ({ s3 with heap := pushCells (s3.heap.push { cls := .type "dict", data := .dict #[] }) scope.names } : Shared) = s4 at I4 ⊢
  have st4 : tn 0 s4.heap := T.keep _ _ _ st3 fun b _ o e => by rw [← hs4]; exact pushCells_keeps _ _ _ _ (Heap.get?_push_of_some _ e)
  have stat : ∀ {σ' : St} {H' : Hp} {s' : Shared}, Inv (X.blk s3 H3 scope ce fp) [] σ' H' s' → (∀ b ∈ fp, H' b = none) → ∀ b ∈ fp, FpOk (X.blk s3 H3 scope ce fp) [] H' b := fun {σ' H' s'} I' hn b hb =>
    ⟨hn b hb, (I'.ok.exf b hb).1, I'.ok.exfs b hb, .inl hb, fun x c e => (I'.ok.exf b hb).2 x c e, fun p hp => absurd (show p ∈ ([] : List (Addr × Obj)) ++ [] from hp) (by simp)⟩
  have loop : codeAny (model X.prog X.w) X.A (.compLoop (.ListComp elt [⟨tg, iter, ifs, 0⟩] scope pos) 0 (.ref it) (.ref D) ce) (compPost (model X.prog X.w) X.A X.xe use Qf (.ref D) s3.heap.objs.size) s4 := by
    refine compLoop_any (fun n s' => ∃ i H', Inv (X.blk s3 H3 scope ce fp) [] (wipe σ (own.map (·.2))) H' s' ∧ tn i s'.heap ∧ (∀ b ∈ fp, H' b = none) ∧ W i n H') ?_ m0 ⟨0, H3, I4, st4, nfp, w0⟩
    rintro n s5 ⟨i, H5, I5, st5, n5, w5⟩
    rcases turn i n H5 w5 with ⟨stop, qq⟩ | ⟨go, Nx, hNx, step⟩
    · have td := T.done (X.blk s3 H3 scope ce fp) rfl rfl rfl hc i [] s5 _ H5 (fun _ _ => False) I5 (stat I5 n5) st5 stop
      refine thnF td fun r s6 ⟨hr, I6⟩ => ?_
      subst hr
      -- back in the def's context
      have I7 : Inv X pins σ H5 s6 := I3.call' (ch := fp) I6.os I6.base I6.hok I6.bare fun b hb => ⟨(f3 b hb).1.2.2.2.1, (f3 b hb).1.2.1, (f3 b hb).1.2.2.2.2.1, (f3 b hb).1.2.2.2.2.2⟩
      have nC : H5 s3.heap.objs.size = none := by
        have z : H5 ce.locals = none := I6.free
        rw [cL] at z
        exact z
      obtain ⟨m, hn, _⟩ := I6.loc
      have hn : s6.heap.Ns ce.locals m := hn
      rw [cL] at hn
      exact hRR D s3.heap.objs.size s6 m H5 I7 qq hn (I3.fpOk (Nat.le_refl _) nC)
    · have ti := T.item (X.blk s3 H3 scope ce fp) rfl rfl rfl hc i [] s5 _ H5 (fun _ _ => False) I5 (stat I5 n5) st5 go
      refine thnF ti fun r s6 ⟨u, hr, h6⟩ => ?_
      subst hr
      refine thnF h6 fun _ s7 ⟨x, H7, I7, r7, y7, st7, n7⟩ => ?_
      have I7' := I7.pinned (stat I7 n7) (T.obj _ _ st7)
      refine thnF (pg _ s7 _ H7 x u _ I7' r7 (step x H7 y7)) fun _ s8 ⟨σ8, H8, I8, hw8, q8⟩ => ?_
      refine thnF (pt _ s8 σ8 H8 _ I8 q8) fun b s9 ⟨H9, I9, q9⟩ => ?_
      -- the turn's end
      have fin : ∀ {s' : Shared} {H' : Hp}, Inv (X.blk s3 H3 scope ce fp) ([] ++ pinsAt fp s7.heap) σ8 H' s' → Nx H' → ∃ m, m < n ∧ ∃ i H', Inv (X.blk s3 H3 scope ce fp) [] (wipe σ (own.map (·.2))) H' s' ∧ tn i s'.heap ∧ (∀ b ∈ fp, H' b = none) ∧ W i m H' := fun {s' H'} I' nx => by
        obtain ⟨m', hm, w'⟩ := hNx H' nx
        have pin' : ∀ b ∈ fp, ∀ o, s7.heap.get? b = some o → s'.heap.get? b = some o ∧ H' b = none := fun b hb o e =>
          let z := I'.pin (b, o) (List.mem_append_right _ (List.mem_append_right _ (mem_pinsAt hb e)))
          ⟨z.1, z.2.1⟩
        have hl : (wipe σ (own.map (·.2))).length = σ8.length := by rw [← hw8, wipe_length]
        refine ⟨m', hm, i + 1, H', (I'.unpinned (pins := [])).weak hl (fun j v e => ?_), T.keep _ _ _ st7 fun b hb o e => (pin' b hb o e).1, fun b hb => ?_, w'⟩
        · rw [← hw8] at e
          exact (wipe_some e).1
        · obtain ⟨o, e, _⟩ := T.obj _ _ st7 b hb
          exact (pin' b hb o e).2
      cases b with
      | false =>
        simp only [Bool.false_eq_true, if_false] at q9 ⊢
        exact fin I9 q9
      | true =>
        simp only [if_true] at q9 ⊢
        refine thnF (pe _ s9 σ8 H9 _ I9 q9) fun z s10 ⟨yv, H10, I10, r10, acc, hD10, hz10, nx⟩ => ?_
        exact app_ok (X := X.blk s3 H3 scope ce fp) I10 hD10 hz10 r10 fun s11 I11 => fin I11 nx
  exact codeAny_compStart_list loop (T.self X.A 0 _ _ _ st4 loop)
theorem pe_lc {elt tg iter : Expr} {ifs : List Expr} {scope : Scope} {own : List (Str × Nat)} {pos : Pos} {wi : TI} {g : TG} {tt : TT} {te : TE} (hc : X.calm = true) (hN : X.N.Nodup) (hi : PI X tg iter wi) (ok : BlkOk X.N X.env.scope scope own)
    (hg : ∀ (s : Shared) (H : Hp) (C : Addr) (cl : List (Str × Addr)) (fp : List Addr), PG (X.blk s H scope (compEnvC scope cl C X.env) fp) tg g) (ht : ∀ (s : Shared) (H : Hp) (C : Addr) (cl : List (Str × Addr)) (fp : List Addr), PTs (X.blk s H scope (compEnvC scope cl C X.env) fp) ifs tt)
    (he : ∀ (s : Shared) (H : Hp) (C : Addr) (cl : List (Str × Addr)) (fp : List Addr), PE (X.blk s H scope (compEnvC scope cl C X.env) fp) elt te) (hs : ∀ x, foldedSetIterable iter X.env x = pure x := by intro _; rfl) :
    PE X (.ListComp elt [⟨tg, iter, ifs, 0⟩] scope pos) (tLc wi g tt te (own.map (·.2))) := by
  intro pins s σ H Q I h
  rw [eval_ListComp]
  refine lc_core hc hN I hi ok hg ht he hs h fun D C s' m H' I' q hn f => ⟨m, hn, fun h'' sb => ?_⟩
  obtain ⟨f0, f1, f2, f3, f4, f5⟩ := f
  exact ⟨.ref D, H', I'.turned (t' := s'.toks) (fun b o hb e => (sb.2 b hb).trans e) f0 f1 f3 f4 f5, rfl, q⟩
end
theorem lc_range {lo : Int} {n : Nat} {g : TG} {tt : TT} {te : TE} {vs : List Nat} {σ : St} {H1 : Hp} {D : Addr} {Qd : Hp → Prop} (Pv : Nat → Hp → Prop) (h0 : Pv 0 (upd H1 D (.lst [])))
    (hs : ∀ i H, i < n → Pv i H → g (.int (lo + i)) (wipe σ vs) H fun σ2 H2 => wipe σ2 vs = wipe σ vs ∧ tt σ2 H2 fun b H3 =>
      if b = true then te σ2 H3 fun y H4 => ∃ acc, H4 D = some (.lst acc) ∧ acc.length < sizeLine ∧ Pv (i + 1) (upd H4 D (.lst (acc ++ [y]))) else Pv (i + 1) H3) (hd : ∀ H, Pv n H → Qd H) :
    ∃ W : Nat → Nat → Hp → Prop, (∃ m, W 0 m (upd H1 D (.lst []))) ∧ ∀ i m H, W i m H →
      ((Itr lo n).stop i H ∧ Qd H) ∨ ((Itr lo n).go i H ∧ ∃ Nx : Hp → Prop, (∀ H', Nx H' → ∃ m', m' < m ∧ W (i + 1) m' H') ∧ ∀ x H', (Itr lo n).yld i H x H' → g x (wipe σ vs) H' fun σ2 H2 => wipe σ2 vs = wipe σ vs ∧ tt σ2 H2 fun b H3 =>
        if b = true then te σ2 H3 fun y H4 => ∃ acc, H4 D = some (.lst acc) ∧ acc.length < sizeLine ∧ Nx (upd H4 D (.lst (acc ++ [y]))) else Nx H3) := by
  refine ⟨fun i m H => m = n - i ∧ i ≤ n ∧ Pv i H, ⟨n, by simp, Nat.zero_le _, h0⟩, ?_⟩
  rintro i m H ⟨rfl, hi, p⟩
  by_cases hlt : i < n
  · refine .inr ⟨hlt, Pv (i + 1), fun H' p' => ⟨n - (i + 1), by omega, rfl, hlt, p'⟩, fun x H' y => ?_⟩
    obtain ⟨e, y⟩ := y
    subst e y
    exact hs i _ hlt p
  · have e : i = n := by omega
    subst e
    exact .inl ⟨Nat.le_refl _, hd H p⟩
end L2
namespace L2
open PySem PySem.Spec PyProof.Rows
section
variable {prog : Program} {w : World} {A : Around} {R : Result → Shared → Prop} {s : Shared} {elt t0 i0 t1 i1 : Expr} {ifs0 ifs1 : List Expr} {scope : Scope} {pos : Pos} {it acc : Value} {env : Env}
end
section
variable {X : Cx}
end
end L2
namespace L2
open PySem PySem.Spec PyProof.Rows
section
variable {κ : Type} [DecidableEq κ]
noncomputable def valV (kvs : List (κ × V)) (k : κ) : Option V := (kvs.find? fun kv => decide (kv.1 = k)).map (·.2)
noncomputable def putK (kvs : List (κ × V)) (k : κ) (v : V) : List (κ × V) :=
  if (kvs.any fun kv => decide (kv.1 = k)) = true then kvs.map (fun kv => if kv.1 = k then (kv.1, v) else kv) else kvs ++ [(k, v)]
noncomputable def dropK (kvs : List (κ × V)) (k : κ) : List (κ × V) := kvs.filter fun kv => decide (kv.1 ≠ k)
theorem valV_pos {p : κ × V} {r : List (κ × V)} {k : κ} (e : p.1 = k) : valV (p :: r) k = some p.2 := by simp [valV, List.find?_cons, e]
theorem valV_neg {p : κ × V} {r : List (κ × V)} {k : κ} (e : ¬ p.1 = k) : valV (p :: r) k = valV r k := by simp [valV, List.find?_cons, e]
theorem valV_any (k : κ) : ∀ kvs : List (κ × V), (kvs.any fun kv => decide (kv.1 = k)) = (valV kvs k).isSome
  | [] => rfl
  | p :: r => by
    rw [List.any_cons]
    by_cases e : p.1 = k
    · simp only [valV_pos e, decide_eq_true e, Bool.true_or, Option.isSome_some]
    · rw [valV_neg e, decide_eq_false e, Bool.false_or]; exact valV_any k r
theorem length_putK (kvs : List (κ × V)) (k : κ) (v : V) : (putK kvs k v).length ≤ kvs.length + 1 := by
  unfold putK
  split
  · rw [List.length_map]; omega
  · rw [List.length_append, List.length_cons, List.length_nil]; omega
theorem putK_new {kvs : List (κ × V)} {k : κ} (v : V) (h : valV kvs k = none) : putK kvs k v = kvs ++ [(k, v)] := by
  unfold putK
  rw [valV_any, h]
  exact if_neg (by decide)
theorem RelO.isSome_eq {o : Option V} {u : Option Value} (r : RelO o u) : o.isSome = u.isSome := by
  cases o with
  | none => cases u with
    | none => rfl
    | some _ => exact (show False from r).elim
  | some _ => cases u with
    | none => exact (show False from r).elim
    | some _ => rfl
theorem RelO.getD {o : Option V} {u : Option Value} {d : V} {d' : Value} (r : RelO o u) (rd : RelV d d') : RelV (o.getD d) (u.getD d') := by
  cases o with
  | none => cases u with
    | none => exact rd
    | some _ => exact (show False from r).elim
  | some _ => cases u with
    | none => exact (show False from r).elim
    | some _ => exact r
theorem KV.val {kvs : List (κ × V)} {vs : List (κ × Value)} (r : KV kvs vs) (k : κ) : RelO (valV kvs k) (valueAt vs k) := by
  unfold KV at r
  induction r with
  | nil => exact True.intro
  | @cons p q ps qs h t ih =>
    obtain ⟨h1, h2⟩ := h
    by_cases e : p.1 = k
    · have e' : q.1 = k := h1.symm.trans e
      have b : valueAt (q :: qs) k = some q.2 := by simp [valueAt, List.find?_cons, e']
      rw [valV_pos e, b]; exact h2
    · have e' : ¬ q.1 = k := fun z => e (h1.trans z)
      have b : valueAt (q :: qs) k = valueAt qs k := by simp [valueAt, List.find?_cons, e']
      rw [valV_neg e, b]; exact ih
theorem KV.any {kvs : List (κ × V)} {vs : List (κ × Value)} (r : KV kvs vs) (k : κ) : (kvs.any fun kv => decide (kv.1 = k)) = vs.any fun kv => decide (kv.1 = k) := by
  unfold KV at r
  induction r with
  | nil => rfl
  | cons h t ih => rw [List.any_cons, List.any_cons, ih, h.1]
theorem KV.repl {kvs : List (κ × V)} {vs : List (κ × Value)} (r : KV kvs vs) (k : κ) {y : V} {u : Value} (ry : RelV y u) :
    KV (kvs.map fun kv => if kv.1 = k then (kv.1, y) else kv) (vs.map fun kv => if kv.1 = k then (kv.1, u) else kv) := by
  unfold KV at r ⊢
  induction r with
  | nil => exact .nil
  | @cons p q ps qs h t ih =>
    rw [List.map_cons, List.map_cons]
    refine .cons ?_ ih
    obtain ⟨h1, h2⟩ := h
    by_cases e : p.1 = k
    · rw [if_pos e, if_pos (h1.symm.trans e)]; exact ⟨h1, ry⟩
    · rw [if_neg e, if_neg (fun z => e (h1.trans z))]; exact ⟨h1, h2⟩
theorem KV.put {kvs : List (κ × V)} {vs : List (κ × Value)} (r : KV kvs vs) (k : κ) {y : V} {u : Value} (ry : RelV y u) : KV (putK kvs k y) (stored vs k u) := by
  unfold putK stored
  rw [r.any k]
  by_cases e : (vs.any fun kv => decide (kv.1 = k)) = true
  · rw [if_pos e, if_pos e]; exact r.repl k ry
  · rw [if_neg e, if_neg e]; exact Paired.snoc r ⟨rfl, ry⟩
theorem KV.drop {kvs : List (κ × V)} {vs : List (κ × Value)} (r : KV kvs vs) (k : κ) : KV (dropK kvs k) (without vs k) := by
  unfold KV at r ⊢
  unfold dropK without
  induction r with
  | nil => exact .nil
  | @cons p q ps qs h t ih =>
    obtain ⟨h1, h2⟩ := h
    rw [List.filter_cons, List.filter_cons]
    by_cases e : p.1 = k
    · have a : ¬ decide (p.1 ≠ k) = true := by simp [e]
      have b : ¬ decide (q.1 ≠ k) = true := by simp [h1.symm.trans e]
      rw [if_neg a, if_neg b]; exact ih
    · have e' : ¬ q.1 = k := fun z => e (h1.trans z)
      have a : decide (p.1 ≠ k) = true := by simp [e]
      have b : decide (q.1 ≠ k) = true := by simp [e']
      rw [if_pos a, if_pos b]; exact .cons ⟨h1, h2⟩ ih
theorem KV.length {kvs : List (κ × V)} {vs : List (κ × Value)} (r : KV kvs vs) : kvs.length = vs.length := Paired.length r
end
theorem kV_is {P : Program} {w : World} {k : Key} {u : Value} (r : RelV (kV k) u) : (mixKind P w).is k u = true := by
  cases k with
  | inl i => obtain ⟨t, e⟩ := (show ∃ t, u = Value.int i t from r); subst e; exact mixKind_int P w i t
  | inr x => obtain ⟨t, e⟩ := (show ∃ t, u = Value.str x t from r); subst e; exact mixKind_str P w x t
theorem items_are {P : Program} {w : World} : ∀ {ks : List Key} {us : List Value}, Vals (ks.map kV) us → ItemsAre (mixKind P w) ks us
  | [], _, r => by rw [List.map_nil] at r; cases r; exact .nil
  | k :: ks, _, r => by
    rw [List.map_cons] at r
    cases r with
    | cons h t => exact .cons (kV_is h) (items_are t)
noncomputable abbrev KT (H : Hp) : List (List Key × V) → List (List Key × Addr × Value) → Prop := Paired fun p q => p.1 = q.1 ∧ H q.2.1 = some (.tup (p.1.map kV)) ∧ RelV p.2 q.2.2
theorem KT.val {H : Hp} {kvs : List (List Key × V)} {xs : List (List Key × Addr × Value)} (r : KT H kvs xs) (k : List Key) : RelO (valV kvs k) ((atKey xs k).map (·.2)) := by
  induction r with
  | nil => exact True.intro
  | @cons p q ps qs h t ih =>
    obtain ⟨h1, _, h2⟩ := h
    by_cases e : p.1 = k
    · have e' : q.1 = k := h1.symm.trans e
      have b : atKey (q :: qs) k = some q.2 := by simp [atKey, List.find?_cons, e']
      rw [valV_pos e, b]; exact h2
    · have e' : ¬ q.1 = k := fun z => e (h1.trans z)
      have b : atKey (q :: qs) k = atKey qs k := by simp [atKey, List.find?_cons, e']
      rw [valV_neg e, b]; exact ih
theorem KT.repl {H : Hp} {kvs : List (List Key × V)} {xs : List (List Key × Addr × Value)} (r : KT H kvs xs) (k : List Key) {y : V} {u : Value} (ry : RelV y u) :
    KT H (kvs.map fun kv => if kv.1 = k then (kv.1, y) else kv) (xs.map (putAt k u)) := by
  induction r with
  | nil => exact .nil
  | @cons p q ps qs h t ih =>
    rw [List.map_cons, List.map_cons]
    refine .cons ?_ ih
    obtain ⟨h1, h2, h3⟩ := h
    unfold putAt
    by_cases e : p.1 = k
    · rw [if_pos e, if_pos (h1.symm.trans e)]; exact ⟨h1, h2, ry⟩
    · rw [if_neg e, if_neg (fun z => e (h1.trans z))]; exact ⟨h1, h2, h3⟩
theorem KT.put {H : Hp} {kvs : List (List Key × V)} {xs : List (List Key × Addr × Value)} (r : KT H kvs xs) (k : List Key) {b : Addr} {y : V} {u : Value} (hb : H b = some (.tup (k.map kV))) (ry : RelV y u) :
    KT H (putK kvs k y) (storedH xs k b u) := by
  have e : (kvs.any fun kv => decide (kv.1 = k)) = (atKey xs k).isSome := by
    rw [valV_any, (r.val k).isSome_eq, Option.isSome_map]
  unfold putK storedH
  rw [e]
  by_cases q : (atKey xs k).isSome = true
  · rw [if_pos q, if_pos q]; exact r.repl k ry
  · rw [if_neg q, if_neg q]; exact Paired.snoc r ⟨rfl, hb, ry⟩
theorem KT.keeps {H H' : Hp} {kvs : List (List Key × V)} {xs : List (List Key × Addr × Value)} (r : KT H kvs xs) (ht : ∀ b ys, H b = some (.tup ys) → H' b = some (.tup ys)) : KT H' kvs xs :=
  Paired.mapP r fun _ _ z => ⟨z.1, ht _ _ z.2.1, z.2.2⟩
section
variable {P : Program} {w : World} {H : Hp} {h : Heap} {a : Addr}
theorem rd_of {u : HO} (ok : HOk P w H h) (e : Rd H a u) : ObjOk P w H h a u := e.ok ok
theorem dk_rd {kvs : List (Key × V)} (ok : HOk P w H h) (e : Rd H a (.dK kvs)) : kvs.length ≤ sizeLine ∧ (a == sysModules) = false ∧ ∃ vs, KV kvs vs ∧ h.DictOf (mixKind P w) a vs :=
  show ObjOk P w H h a (.dK kvs) from rd_of ok e
theorem dk_of {kvs : List (Key × V)} (ok : HOk P w H h) (e : H a = some (.dK kvs)) : kvs.length ≤ sizeLine ∧ (a == sysModules) = false ∧ ∃ vs, KV kvs vs ∧ h.DictOf (mixKind P w) a vs := dk_rd ok (.inl e)
theorem key_of {ks : List Key} (ok : HOk P w H h) (e : H a = some (.tup (ks.map kV))) : (tupleKind (mixKind P w)).is h ks a := by
  obtain ⟨_, its, r, o, h1, h2, n, h3⟩ := (show ObjOk P w H h a (.tup (ks.map kV)) from ok a _ e)
  exact ⟨o, its.toArray, n, h1, h2, h3, by simpa using items_are r⟩
theorem dt_rd {kvs : List (List Key × V)} (ok : HOk P w H h) (e : Rd H a (.dT kvs)) : kvs.length ≤ sizeLine ∧ (a == sysModules) = false ∧
    ∃ xs, KT H kvs xs ∧ h.DictOfH (tupleKind (mixKind P w)) a xs := by
  obtain ⟨z, y, xs, r, o, es, ep, h1, h2, h3, h4, h5⟩ := (show ObjOk P w H h a (.dT kvs) from rd_of ok e)
  refine ⟨z, y, xs, r, o, es, ep, h1, h2, h3, h4, fun x hx => ?_, h5⟩
  have all : ∀ {l : List (List Key × V)} {m : List (List Key × Addr × Value)}, KT H l m → ∀ x ∈ m, (tupleKind (mixKind P w)).is h x.1 x.2.1 := by
    intro l m q
    induction q with
    | nil => intro x hx; exact nomatch hx
    | @cons p q ps qs hq t ih =>
      intro x hx
      rcases List.mem_cons.mp hx with e | hx
      · subst e
        exact key_of ok (by rw [← hq.1]; exact hq.2.1)
      · exact ih x hx
  exact all r x hx
theorem dt_of {kvs : List (List Key × V)} (ok : HOk P w H h) (e : H a = some (.dT kvs)) : kvs.length ≤ sizeLine ∧ (a == sysModules) = false ∧
    ∃ xs, KT H kvs xs ∧ h.DictOfH (tupleKind (mixKind P w)) a xs := dt_rd ok (.inl e)
end
noncomputable def DGet (H : Hp) (a : Addr) (y : V) (r : Option V) : Prop :=
  (∃ kvs k, Rd H a (.dK kvs) ∧ y = kV k ∧ r = valV kvs k) ∨ ∃ kvs k b, Rd H a (.dT kvs) ∧ y = .ref b ∧ H b = some (.tup (k.map kV)) ∧ r = valV kvs k
noncomputable def DPut (H : Hp) (a : Addr) (y v : V) (H' : Hp) : Prop :=
  (∃ kvs k, H a = some (.dK kvs) ∧ y = kV k ∧ kvs.length < sizeLine ∧ H' = upd H a (.dK (putK kvs k v))) ∨
  ∃ kvs k b, H a = some (.dT kvs) ∧ y = .ref b ∧ H b = some (.tup (k.map kV)) ∧ kvs.length < sizeLine ∧ H' = upd H a (.dT (putK kvs k v))
theorem DGet.k {H : Hp} {a : Addr} {kvs : List (Key × V)} {k : Key} (e : H a = some (.dK kvs)) : DGet H a (kV k) (valV kvs k) := .inl ⟨kvs, k, .inl e, rfl, rfl⟩
theorem DGet.t {H : Hp} {a b : Addr} {kvs : List (List Key × V)} {k : List Key} (e : H a = some (.dT kvs)) (eb : H b = some (.tup (k.map kV))) : DGet H a (.ref b) (valV kvs k) := .inr ⟨kvs, k, b, .inl e, rfl, eb, rfl⟩
theorem DPut.k {H : Hp} {a : Addr} {kvs : List (Key × V)} {k : Key} {v : V} (e : H a = some (.dK kvs)) (hl : kvs.length < sizeLine) : DPut H a (kV k) v (upd H a (.dK (putK kvs k v))) := .inl ⟨kvs, k, e, rfl, hl, rfl⟩
theorem DPut.t {H : Hp} {a b : Addr} {kvs : List (List Key × V)} {k : List Key} {v : V} (e : H a = some (.dT kvs)) (eb : H b = some (.tup (k.map kV))) (hl : kvs.length < sizeLine) :
    DPut H a (.ref b) v (upd H a (.dT (putK kvs k v))) := .inr ⟨kvs, k, b, e, rfl, eb, hl, rfl⟩
section
variable {X : Cx} {pins : List (Addr × Obj)} {σ : St} {H : Hp} {s : Shared} {a : Addr} {y v : V} {u r : Value} {o : Option V} {A : Around} {E : Value → Shared → Prop}
theorem Inv.big (I : Inv X pins σ H s) : sysModules < s.heap.objs.size := by
  have h : mainGlobals < s.heap.objs.size := (I.mod.glob.keeps I.bk).lt
  exact Nat.lt_trans (by decide) h
theorem d_in {Q : Value → Shared → Prop} (hu : A.units + 1 < cLine) (I : Inv X pins σ H s) (g : DGet H a y o) (ry : RelV y u) (h : ∀ s', Inv X pins σ H s' → Q (.bool o.isSome) s') :
    wpAny (model X.prog X.w) A (compareOp .In u (.ref a)) Q E s := by
  rcases g with ⟨kvs, k, e, ey, l⟩ | ⟨kvs, k, b, e, ey, eb, l⟩
  · subst ey
    obtain ⟨z, hd, vs, rel, dd⟩ := dk_rd I.hok e
    refine wpAny_in_of (kV_is ry) hd dd.mapOf ?_
    rw [← (rel.val k).isSome_eq, ← l]
    exact h _ (I.tok _)
  · subst ey
    cases (show u = Value.ref b from ry)
    obtain ⟨z, hd, xs, rel, dd⟩ := dt_rd I.hok e
    refine wpAny_in_heap (tupleKind_room_in1 hu) (key_of I.hok eb) hd dd ?_
    have q := (rel.val k).isSome_eq
    rw [Option.isSome_map] at q
    rw [← q, ← l]
    exact h _ (I.tok _)
theorem d_write {h' : Heap} {t' : Nat} {ob : HO} (I : Inv X pins σ H s) (mu : Mut (H a)) (hs : Heap.SameBut a s.heap h') (he : ∃ q, h'.get? a = some q) (new : ObjOk X.prog X.w (upd H a ob) h' a ob) :
    Inv X pins σ (upd H a ob) { s with heap := h', toks := t' } :=
  I.write (x := a) (e := a) mu (.inl rfl) (fun b q hb z => (hs.2 b hb).trans z) he new
theorem dk_new {P : Program} {w : World} {H' : Hp} {h' : Heap} {kvs : List (Key × V)} {vs : List (Key × Value)} (z : kvs.length ≤ sizeLine) (hd : (a == sysModules) = false) (rel : KV kvs vs) (dd : h'.DictOf (mixKind P w) a vs) :
    ObjOk P w H' h' a (.dK kvs) := ⟨z, hd, vs, rel, dd⟩
theorem d_setItem {H' : Hp} {Q : Unit → Shared → Prop} (hu : A.units + 1 < cLine) (I : Inv X pins σ H s) (g : DPut H a y v H') (ry : RelV y u) (rv : RelV v r) (h : ∀ s', Inv X pins σ H' s' → Q () s') :
    wpAny (model X.prog X.w) A (setItem (.ref a) u r) Q E s := by
  rcases g with ⟨kvs, k, e, ey, l, eH⟩ | ⟨kvs, k, b, e, ey, eb, l, eH⟩
  · subst ey eH
    obtain ⟨z, hd, vs, rel, dd⟩ := dk_of I.hok e
    have hz : vs.length ≤ sizeLine := by rw [← rel.length]; exact z
    have hl : (putK kvs k v).length ≤ sizeLine := by have := length_putK kvs k v; omega
    refine wpAny_setItem_pairs (hsz := hz) (kV_is ry) dd fun h' dd' hs => h _ ?_
    have he : ∃ q, h'.get? a = some q := let ⟨q, _, _, hq, _⟩ := dd'; ⟨q, hq⟩
    exact d_write I (by rw [e]; exact True.intro) hs he (dk_new hl hd (rel.put k rv) dd')
  · subst ey eH
    cases (show u = Value.ref b from ry)
    obtain ⟨z, hd, xs, rel, dd⟩ := dt_of I.hok e
    have hz : xs.length ≤ sizeLine := by rw [← Paired.length rel]; exact z
    have hl : (putK kvs k v).length ≤ sizeLine := by have := length_putK kvs k v; omega
    refine wpAny_setItem_heap (hsz := hz) (tupleKind_room_in1 hu) (key_of I.hok eb) dd fun h' dd' hs => h _ ?_
    obtain ⟨q, es, ep, hq, h2, h3, h4, _, h5⟩ := dd'
    refine d_write I (by rw [e]; exact True.intro) hs ⟨q, hq⟩ ⟨hl, hd, _, (rel.put k eb rv).keeps fun c ys ec => ?_, q, es, ep, hq, h2, h3, h4, h5⟩
    rw [upd_ne (ne_of ec e (fun z => nomatch z))]
    exact ec
end
section
variable {X : Cx} {pins : List (Addr × Obj)} {σ : St} {H : Hp} {s : Shared} {a : Addr} {kvs : List (Key × V)} {k : Key} {u : Value} {A : Around} {E : Value → Shared → Prop}
end
noncomputable def NoSl (i : Expr) : Prop := ∀ ov iv, subscripted i false ov iv = operate [ov, iv] (getItem ov iv)
theorem subD_of {prog : Program} {w : World} {A : Around} {E : Value → Shared → Prop} {s : Shared} {env : Env} {value slice : Expr} {pos : Pos} {T id : String} {Q : Value → Shared → Prop}
    (hl : typeLookup (.type T) "__getitem__" = pure (some (.builtin id))) (hs : NoSl slice)
    (h : wpAny (model prog w) A (eval value env) (fun o s₁ => wpAny (model prog w) A (eval slice env) (fun i s₂ => s₂.TypeIs o T ∧ wpAny (model prog w) A (getItem o i) Q E s₂) E s₁) E s) :
    wpAny (model prog w) A (eval (.Subscript value slice pos) env) Q E s := by
  refine Subscript_ (wpAny_mono h (fun o s₁ h₁ => wpAny_mono h₁ (fun i s₂ h₂ => ?_) fun _ _ x => x) fun _ _ x => x)
  obtain ⟨hT, h₂⟩ := h₂
  unfold subscriptTail
  refine wpAny_bind ?_
  rw [getitemInPython_of_ne hT.not_modules]
  refine wpAny_bind (wpAny_specialOf hT hl ?_)
  have fin : wpAny (model prog w) A (subscripted slice false o i) (fun r s₃ => wpAny (model prog w) A (letTemporaryGo value o r >>= fun _ => pure r) Q E s₃) E s₂ := by
    rw [hs o i]
    exact wpAny_operating (wpAny_mono h₂ (fun r s₃ h₃ => wpAny_bind (wpAny_letTemporaryGo (wpAny_pure h₃))) fun _ _ x => x)
  first
    | exact wpAny_pure (wpAny_bind fin)
    | exact wpAny_bind (wpAny_pure (wpAny_bind fin))
    | exact wpAny_bind fin
noncomputable def tDIn (ty td : TE) : TE := fun σ H Q => ty σ H fun y H1 => td σ H1 fun x H2 => ∃ a o, x = .ref a ∧ DGet H2 a y o ∧ Q (.bl o.isSome) H2
noncomputable def sDPut (td ty tv : TE) : TS := fun D σ H => tv σ H fun v H1 => td σ H1 fun x H2 => ty σ H2 fun y H3 => ∃ a H4, x = .ref a ∧ DPut H3 a y v H4 ∧ D.nx σ H4
section
variable {X : Cx} {o i e value : Expr} {pos pos' tpos : Pos} {td ty tv : TE}
theorem pc_din (hu : X.A.units + 1 < cLine) (hi : PE X i ty) (ho : PE X o td) : PC X .In i o (tDIn ty td) := by
  intro pins s σ H Q I h
  refine thn (hi pins s σ H _ I h) fun iv s1 ⟨y, H1, I1, ry, q1⟩ => thn (ho pins s1 σ H1 _ I1 q1) fun u s2 ⟨x, H2, I2, rx, a, ov, ex, g, q2⟩ => ?_
  subst ex
  obtain rfl : u = Value.ref a := rx
  exact d_in hu I2 g ry fun s3 I3 => ⟨.bl ov.isSome, H2, I3, rfl, q2⟩
theorem ps_dput (hu : X.A.units + 1 < cLine) (ho : PE X o td) (hi : PE X i ty) (hv : PE X value tv) (hs : swapsWith value (some (.Subscript o i pos')) pos.line X.env = pure false) :
    PS X (.Assign [.Subscript o i pos'] value pos) (sDPut td ty tv) := by
  intro pins s σ H D I h
  refine wpAny_Assign_Subscript (thn (hv pins s σ H _ I h) fun r s1 ⟨v, H1, I1, rv, q1⟩ => thn (ho pins s1 σ H1 _ I1 q1) fun u s2 ⟨x, H2, I2, rx, q2⟩ => thn (hi pins s2 σ H2 _ I2 q2) fun iv s3 ⟨y, H3, I3, ry, a, H4, ex, g, q3⟩ => ?_) hs
  subst ex
  obtain rfl : u = Value.ref a := rx
  exact d_setItem hu I3 g ry rv fun s4 I4 => ⟨σ, H4, I4, q3⟩
end
theorem dt_empty {P : Program} {w : World} {H : Hp} (h : Heap) (hb : sysModules < h.objs.size) : ObjOk P w H (h.push { cls := .type "dict", data := .dict #[] }) h.objs.size (.dT []) :=
  ⟨Nat.zero_le _, beq_eq_false_iff_ne.mpr (Ne.symm (Nat.ne_of_lt hb)), [], .nil, _, #[], 0, Heap.get?_push_size _ rfl, ⟨rfl, rfl, rfl⟩, rfl, rfl, List.nodup_nil⟩
noncomputable def tDNewT : TE := fun _ H Q => ∀ p, H p = none → Q (.ref p) (upd H p (.dT []))
section
variable {X : Cx} {pos : Pos}
theorem pe_dnewT : PE X (.Dict [] [] pos) tDNewT := fun pins s σ H Q I h =>
  wpAny_Dict_empty ⟨.ref s.heap.objs.size, _, I.laid (a := s.heap.objs.size) (o := .dT []) (t' := s.toks) (fun _ _ q => Heap.get?_push_of_some _ q) (Nat.le_refl _) (dt_empty s.heap I.big), rfl, h _ (I.hok.fresh (Nat.le_refl _))⟩
end
structure M1 (X : Cx) (o : Expr) (m : Str) (apos : Pos) (e : Expr) (cpos : Pos) : Prop where
  base : attributeBase o m X.env (eval o X.env) = eval o X.env
  few : ((backTo cpos (starEach [e] X.env)).all (fun x => !x.1) && (backToKw cpos (keywordEach [] X.env)).all (fun x => x.1.isSome)
    && decide (([e] : List Expr).length + ([] : List Keyword).length + (if ([] : List Keyword).isEmpty then 0 else 1) < 30)) = true
  line : (apos.endLine == cpos.line) = true
  trees : backTo cpos (starEach [e] X.env) = [(false, eval e X.env)]
structure M2 (X : Cx) (o : Expr) (m : Str) (apos : Pos) (e f : Expr) (cpos : Pos) : Prop where
  base : attributeBase o m X.env (eval o X.env) = eval o X.env
  few : ((backTo cpos (starEach [e, f] X.env)).all (fun x => !x.1) && (backToKw cpos (keywordEach [] X.env)).all (fun x => x.1.isSome)
    && decide (([e, f] : List Expr).length + ([] : List Keyword).length + (if ([] : List Keyword).isEmpty then 0 else 1) < 30)) = true
  line : (apos.endLine == cpos.line) = true
  trees : backTo cpos (starEach [e, f] X.env) = [(false, eval e X.env), (false, eval f X.env)]
section
variable {X : Cx} {pins : List (Addr × Obj)} {σ : St} {H : Hp} {s : Shared} {a : Addr} {y d : V} {u r : Value} {o : Option V} {A : Around} {E : Value → Shared → Prop}
end
section
variable {X : Cx} {o e f : Expr} {apos cpos : Pos} {td ty tx : TE}
end
section
variable {X : Cx} {pins : List (Addr × Obj)} {σ : St} {H : Hp} {s : Shared} {a : Addr} {kvs : List (Key × V)} {A : Around} {E : Value → Shared → Prop}
end
section
variable {X : Cx} {pins : List (Addr × Obj)} {σ : St} {H : Hp} {s : Shared} {a : Addr} {y : V} {u : Value} {A : Around} {E : Value → Shared → Prop}
end
end L2
namespace L2
open PySem PySem.Spec PyProof.Rows
section
variable {prog : Program} {w : World} {A : Around} {E : Value → Shared → Prop}
end
section
variable {X : Cx}
end
end L2
namespace L2
open PySem PySem.Spec PyProof.Rows
section
variable {X : Cx} {pins : List (Addr × Obj)} {σ : St} {H : Hp} {s : Shared} {h' : Heap}
theorem Inv.turnedL {t' : Nat} {ch : List Addr} (I : Inv X pins σ H s) (k : ∀ b o, b ∉ ch → s.heap.get? b = some o → h'.get? b = some o) (hf : ∀ b ∈ ch, FpOk X pins H b) : Inv X pins σ H { s with heap := h', toks := t' } := by
  have nit : ∀ b u, H b = some u → b ∉ ch := fun b u e z => by
    have q := (hf b z).1
    rw [q] at e; cases e
  refine I.step (g' := s.gens) (d' := s.drawn) (ch := ch) (fun b hb => ⟨(hf b hb).2.2.2.1, (hf b hb).2.1, (hf b hb).2.2.2.2.1, (hf b hb).2.2.2.2.2⟩) (fun b o _ _ hc e _ => k b o hc e) (fun b o _ _ hc e _ => ⟨o.slots, k b o hc e⟩)
    (fun _ _ _ _ n => n) (fun b o hc e => ⟨o, k b o hc e⟩) (fun _ _ e => e) (fun _ _ _ e => e) (fun b ps e => ⟨#[], by rw [e]; simp⟩) (fun m hm => ?_) (fun b u e => ?_) I.bare
  · obtain ⟨o, es, ep, ho, r⟩ := hm
    exact ⟨o, es, ep, k _ o (fun z => (hf _ z).2.1 rfl) ho, r⟩
  · refine (I.hok b u e).stay (fun c v hc q => k c v ?_ q) (fun _ q => q) fun _ _ q => q
    rcases hc with z | z
    · rw [z]; exact nit b u e
    · exact nit c _ z
theorem Inv.turnedNew {t' : Nat} {ch : List Addr} {T : Addr} {ob : HO} (I : Inv X pins σ H s) (k : ∀ b o, b ∉ ch → s.heap.get? b = some o → h'.get? b = some o) (hf : ∀ b ∈ ch, FpOk X pins H b) (hT : s.heap.objs.size ≤ T)
    (new : ObjOk X.prog X.w (upd H T ob) h' T ob) : Inv X pins σ (upd H T ob) { s with heap := h', toks := t' } := by
  have hn : H T = none := I.hok.fresh hT
  have nit : ∀ b u, H b = some u → b ∉ ch := fun b u e z => by
    have q := (hf b z).1
    rw [q] at e; cases e
  refine I.step (g' := s.gens) (d' := s.drawn) (ch := ch) (fun b hb => ⟨(hf b hb).2.2.2.1, (hf b hb).2.1, (hf b hb).2.2.2.2.1, (hf b hb).2.2.2.2.2⟩) (fun b o _ _ hc e _ => k b o hc e) (fun b o _ _ hc e _ => ⟨o.slots, k b o hc e⟩)
    (fun b o _ e n => ?_) (fun b o hc e => ⟨o, k b o hc e⟩) (fun b xs e => ?_) (fun b o u e => ?_) (fun b ps e => ⟨#[], ?_⟩) (fun m hm => ?_) (fun b u e => ?_) I.bare
  · rw [upd_ne (Nat.ne_of_lt (Nat.lt_of_lt_of_le (Heap.lt_size e) hT))]; exact n
  · rw [upd_ne (ne_of_none e hn)]; exact e
  · rw [upd_ne (ne_of_none e hn)]; exact e
  · rw [upd_ne (ne_of_none e hn), e]; simp
  · obtain ⟨o, es, ep, ho, r⟩ := hm
    exact ⟨o, es, ep, k _ o (fun z => (hf _ z).2.1 rfl) ho, r⟩
  · by_cases hb : b = T
    · subst hb
      rw [upd_same] at e
      cases e
      exact new
    · rw [upd_ne hb] at e
      refine (I.hok b u e).stay (fun c v hc q => k c v ?_ q) (fun c q => by rw [upd_ne (ne_of_none q hn)]; exact q) fun c xs q => by rw [upd_ne (ne_of_none q hn)]; exact q
      rcases hc with z | z
      · rw [z]; exact nit b u e
      · exact nit c _ z
end
section
variable {X : Cx}
end
noncomputable def RgC (i j c : Int) (n : Nat) : Prop := c ≠ 0 ∧ c.natAbs < 1073741824 ∧ Builtin.Range.small i j c = true ∧ Builtin.Range.rangeSize i j c = n
theorem RgC.neg {i j : Int} (ha : -(2 ^ 62) ≤ i) (ha' : i < 2 ^ 62) (hb : -(2 ^ 62) ≤ j) (hb' : j < 2 ^ 62) : RgC i j (-1) (i - j).toNat :=
  ⟨by decide, by decide, PySem.W.small_down ha ha' hb hb', PySem.W.rangeSize_downNat i j⟩
section
variable {X : Cx} {tg : Expr}
end
section
variable {X : Cx} {tg : Expr}
end
section
variable {prog : Program} {w : World} {A : Around} {E : Value → Shared → Prop} {s : Shared}
end
section
variable {X : Cx} {pins : List (Addr × Obj)} {σ : St} {H : Hp} {s : Shared} {d : Addr} {o : Obj}
end
section
variable {P : Program} {w : World} {K : PySem.W.Frag} {tg : Expr} {d : Addr} {o : Obj} {es : Array DictEntry} {ep : Nat}
end
section
variable {X : Cx} {tg e : Expr} {td : TE} {apos cpos : Pos}
end
theorem boot_zip5 : bootBuiltins "zip" = some (.type "zip") := by decide +kernel
noncomputable def Itz (K : PySem.W.Frag) (a b : Addr) : It :=
  ⟨fun i H => ∃ (xs ys : List V) (x y : V), SqL K H a xs ∧ SqL K H b ys ∧ xs[i]? = some x ∧ ys[i]? = some y,
    fun i H v H' => ∃ T x y, v = .ref T ∧ H T = none ∧ H' = upd H T (.tup [x, y]) ∧ (∀ xs, SqL K H a xs → xs[i]? = some x) ∧ ∀ ys, SqL K H b ys → ys[i]? = some y,
    fun i H => ∃ xs ys : List V, SqL K H a xs ∧ SqL K H b ys ∧ (xs.length ≤ i ∨ ys.length ≤ i)⟩
theorem turn_zip {P : Program} {w : World} {K : PySem.W.Frag} {elts : List Expr} {kk : Nat} {tpos : Pos} {a b z TI TO i1 i2 : Addr} (D : ZipApart z TI TO i1 i2 a b) :
    Turn P w K (.Tuple elts kk tpos) (Itz K a b) [z, TI, TO, i1, i2] z (fun i h => IsZip h z TI TO .none ∧ IsPair h TI (.ref i1) (.ref i2) ∧ (∃ x y, IsPair h TO x y) ∧ h.IsListIter i1 a i ∧ h.IsListIter i2 b i) where
  mem := by simp
  obj := fun i h st c hc => by
    obtain ⟨hz, hTI, ⟨x, y, hTO⟩, ⟨o1, e1, _, d1⟩, ⟨o2, e2, _, d2⟩⟩ := st
    have e' : c = z ∨ c = TI ∨ c = TO ∨ c = i1 ∨ c = i2 := by simpa using hc
    rcases e' with q | q | q | q | q
    · rw [q]; exact ⟨_, hz, fun v q => nomatch q⟩
    · rw [q]; exact ⟨_, hTI, fun v q => nomatch q⟩
    · rw [q]; exact ⟨_, hTO, fun v q => nomatch q⟩
    · rw [q]; exact ⟨o1, e1, fun v q => by rw [d1] at q; cases q⟩
    · rw [q]; exact ⟨o2, e2, fun v q => by rw [d2] at q; cases q⟩
  keep := fun i h h' st k => by
    obtain ⟨hz, hTI, ⟨x, y, hTO⟩, h1, h2⟩ := st
    exact ⟨k z (by simp) _ hz, k TI (by simp) _ hTI, ⟨x, y, k TO (by simp) _ hTO⟩, h1.at fun o q => k i1 (by simp) o q, h2.at fun o q => k i2 (by simp) o q⟩
  item := by
    intro X hP hw hK hc i pins s σ H E I hf st hg
    subst hP hw hK
    obtain ⟨hz, hTI, ⟨x0, y0, hTO⟩, h1, h2⟩ := st
    obtain ⟨xs, ys, x, y, hqx, hqy, hx, hy⟩ := hg
    obtain ⟨its, rv, p, _⟩ := I.list hqx
    obtain ⟨its2, rv2, p2, _⟩ := I.list hqy
    obtain ⟨u, hu, ru⟩ := rv.get hx
    obtain ⟨u2, hu2, ru2⟩ := rv2.get hy
    have hzl : z < s.heap.objs.size := Heap.lt_size hz
    refine wpAny_pyNext_zip_item D hz hTI hTO h1 h2 p.isList p2.isList (x := u) (y := u2) (by simpa using hu) (by simpa using hu2) fun h' z' TO' h1' h2' hT hsz hk => ?_
    refine ⟨_, rfl, wpAny_letOwnedTupleGo_zip (s := { s with heap := h' }) z' fun h'' z'' sb => ?_⟩
    have hT2 : h''.get? s.heap.objs.size = some { cls := .type "tuple", data := .seq #[u, u2] } := (sb.2 _ (Nat.ne_of_gt hzl)).trans hT
    have new : ObjOk X.prog X.w (upd H s.heap.objs.size (.tup [x, y])) h'' s.heap.objs.size (.tup [x, y]) :=
      ⟨by show 2 ≤ sizeLine; decide, [u, u2], .cons ru (.cons ru2 .nil), ⟨_, hT2, rfl, _, rfl⟩⟩
    have I1 : Inv X pins σ (upd H s.heap.objs.size (.tup [x, y])) { s with heap := h'' } :=
      I.turnedNew (t' := s.toks) (ch := [z, TI, TO, i1, i2]) (fun c o hb q => (sb.2 c (fun q' => hb (by simp [q']))).trans (hk c o (fun q' => hb (by simp [q'])) (fun q' => hb (by simp [q'])) (fun q' => hb (by simp [q'])) (fun q' => hb (by simp [q'])) q)) hf (Nat.le_refl _) new
    refine ⟨.ref s.heap.objs.size, _, I1, rfl, ⟨_, x, y, rfl, I.hok.fresh (Nat.le_refl _), rfl, fun l hl => by rw [I.list_inj hl hqx]; exact hx, fun l hl => by rw [I.list_inj hl hqy]; exact hy⟩, ⟨z'', ?_, ⟨u, u2, ?_⟩, ?_, ?_⟩, fun c hcm => ?_⟩
    · exact (sb.2 _ D.TIz).trans (hk _ _ D.TIz D.TITO D.TIi1 D.TIi2 hTI)
    · exact (sb.2 _ D.TOz).trans TO'
    · exact h1'.at fun o q => (sb.2 _ D.i1z).trans q
    · exact h2'.at fun o q => (sb.2 _ D.i2z).trans q
    · have hlt : c < s.heap.objs.size := by
        have e' : c = z ∨ c = TI ∨ c = TO ∨ c = i1 ∨ c = i2 := by simpa using hcm
        rcases e' with q | q | q | q | q
        · rw [q]; exact hzl
        · rw [q]; exact Heap.lt_size hTI
        · rw [q]; exact Heap.lt_size hTO
        · rw [q]; obtain ⟨_, e1, _⟩ := h1; exact Heap.lt_size e1
        · rw [q]; obtain ⟨_, e2, _⟩ := h2; exact Heap.lt_size e2
      rw [upd_ne (Nat.ne_of_lt hlt)]
      exact (hf c hcm).1
  done := by
    intro X hP hw hK hc i pins s σ H E I hf st hg
    subst hP hw hK
    obtain ⟨hz, hTI, ⟨x0, y0, hTO⟩, h1, h2⟩ := st
    obtain ⟨xs, ys, hqx, hqy, hend⟩ := hg
    obtain ⟨its, rv, p, _⟩ := I.list hqx
    obtain ⟨its2, rv2, p2, _⟩ := I.list hqy
    have l1 := rv.length
    have l2 := rv2.length
    have he : its.toArray[i]? = none ∨ its2.toArray[i]? = none := by
      rcases hend with q | q
      · exact .inl (by simp; omega)
      · exact .inr (by simp; omega)
    exact wpAny_pyNext_zip_end (I.ok.hd hc) D hz hTI hTO h1 h2 p.isList p2.isList he fun h' hk => ⟨rfl, I.turnedL (t' := s.toks) (ch := [z, TI, TO, i1, i2]) (fun c o hb q =>
      hk c o (fun q' => hb (by simp [q'])) (fun q' => hb (by simp [q'])) (fun q' => hb (by simp [q'])) (fun q' => hb (by simp [q'])) q) hf⟩
  self := fun A i s Q E st h => wpAny_pyIter_zip st.1 h
noncomputable def iZip (K : PySem.W.Frag) (ta : TA) : TI := fun σ H R => ta σ H fun vs H1 => ∃ a b xs ys, vs = [.ref a, .ref b] ∧ SqL K H1 a xs ∧ SqL K H1 b ys ∧ R (Itz K a b) H1
theorem pi_zip {X : Cx} {e e2 : Expr} {ta : TA} {p pos tpos : Pos} {elts : List Expr} {kk : Nat} (hg : Gl X "zip") (hm : X.mg "zip" = none) (ha : PA X [e, e2] ta)
    (hs : starEach [e, e2] X.env = (false, eval e X.env) :: starEach [e2] X.env := by rfl) (hpl : (backTo pos (starEach [e2] X.env)).any (·.1) = false := by rfl) :
    PI X (.Tuple elts kk tpos) (.Call (.Name "zip" p) [e, e2] [] pos) (iZip X.K ta) := by
  intro pins s σ H R I h
  refine Call_ (ld_blt I hg hm boot_zip5 (PyProof.Rows.callWith_type1 (thn (ha pos pins s σ H _ I h) fun us s1 ⟨vs, H1, I1, r1, q1⟩ => ?_) hs hpl))
  obtain ⟨a, b, xs, ys, ex, hqx, hqy, q⟩ := q1
  subst ex
  cases r1 with
  | cons r rr =>
    cases rr with
    | cons r' rr =>
      cases rr
      cases r
      cases r'
      obtain ⟨its, rv, p1, _⟩ := I1.list hqx
      obtain ⟨its2, rv2, p2, _⟩ := I1.list hqy
      have la : a < s1.heap.objs.size := p1.lt
      have lb : b < s1.heap.objs.size := p2.lt
      refine call_zip_2 p1.isList p2.isList fun h' hz hTI hTO h1 h2 hsz hk => wpAny_pyIter_zip hz ?_
      have I2 : Inv X pins σ H1 { s1 with heap := h' } := I1.kept (t' := s1.toks) hk
      refine ⟨s1.heap.objs.size + 4, [s1.heap.objs.size + 4, s1.heap.objs.size + 2, s1.heap.objs.size + 3, s1.heap.objs.size, s1.heap.objs.size + 1], _, _, H1, rfl, I2, turn_zip (PySem.W.ktu_apart s1.heap.objs.size a b la lb), ⟨hz, hTI, ⟨_, _, hTO⟩, h1, h2⟩, fun c hcm => ?_, q⟩
      have e' : c = s1.heap.objs.size + 4 ∨ c = s1.heap.objs.size + 2 ∨ c = s1.heap.objs.size + 3 ∨ c = s1.heap.objs.size ∨ c = s1.heap.objs.size + 1 := by simpa using hcm
      have hle : s1.heap.objs.size ≤ c := by
        rcases e' with z | z | z | z | z
        · rw [z]; exact Nat.le_add_right _ _
        · rw [z]; exact Nat.le_add_right _ _
        · rw [z]; exact Nat.le_add_right _ _
        · rw [z]; exact Nat.le_refl _
        · rw [z]; exact Nat.le_add_right _ _
      exact I1.fpOk hle (I1.hok.fresh hle)
end L2
section 
namespace Bits
open PySem PyProof.Rows
end Bits
end 
section 
namespace TL
open PySem PySem.Builtin PySem.Builtin.Str PySem.StrLaws
noncomputable abbrev tl (x : Str) : List Nat := x.cps.toList
noncomputable def pre (S l : List Nat) : Bool := l.take S.length == S
noncomputable def par (S : List Nat) : List Nat → List Nat → Option (List Nat × List Nat)
  | _, [] => none
  | acc, c :: r => if pre S (c :: r) = true then some (acc, (c :: r).drop S.length) else par S (acc ++ [c]) r
end TL
end 
namespace L2
open PySem PySem.Spec PyProof.Rows
section
variable {X : Cx} {pins : List (Addr × Obj)} {σ : St} {H : Hp} {s : Shared} {Q : VK}
end
section
variable {X : Cx}
end
section
variable {X : Cx} {o e : Expr} {to te : TE}
end
end L2
namespace L2
open PySem PySem.Spec PyProof.Rows
section
variable {X : Cx}
end
end L2
namespace Att
open PySem PySem.W PySem.Calls PyProof.Rows
section
variable {prog : Program} {w : World} {A : Around} {E : Value → Shared → Prop} {s : Shared} {K : Frag}
end
end Att
namespace L2
open PySem PySem.Spec PyProof.Rows
end L2
namespace L2
open PySem PySem.Spec PyProof.Rows
end L2
namespace L2
open PySem PySem.Spec PyProof.Rows
noncomputable def inClass (s : Stmt) (j : Nat) : Stmt := match s with
  | .ClassDef _ _ _ body _ _ _ _ _ _ _ => body.getD j (.Pass ⟨0, 0, 0, 0⟩)
  | _ => .Pass ⟨0, 0, 0, 0⟩
noncomputable def defArgs (s : Stmt) : Arguments := match s with
  | .FunctionDef _ a _ _ _ _ _ _ _ _ => a
  | _ => { posonlyargs := [], args := [], vararg := none, kwonlyargs := [], kw_defaults := [], kwarg := none, defaults := [] }
noncomputable def defBody (s : Stmt) : List Stmt := match s with
  | .FunctionDef _ _ b _ _ _ _ _ _ _ => b
  | _ => []
noncomputable def defScope (s : Stmt) : Scope := match s with
  | .FunctionDef _ _ _ _ _ _ sc _ _ _ => sc
  | _ => { kind := .function, names := [], isGenerator := false, isCoroutine := false }
noncomputable abbrev CX0 : CXT := fun _ _ _ _ _ _ => False
noncomputable abbrev E0 : XK := fun _ _ _ => False
structure Fun (K : PySem.W.Frag) (x qual : Str) (st : Stmt) (f : Addr) (fd : FuncData) : Prop where
  ex : ∃ (oc : Value) (od : Option Addr) (kV doc pm : Value) (an : Option Addr) (cdv ct : Value) (osl : Array (Option Value)),
    fd = PySem.W.fnOf x qual (defArgs st) (defBody st) (defScope st) .none kV doc pm an cdv ct ∧ K.lookup f = some ⟨oc, od, .func fd, osl⟩ ∧ PySem.W.codeIn K cdv qual = true
  kp : PySem.W.keepIn K (.ref f) = true
section
variable {P : Program} {w : World} {K : PySem.W.Frag} {mg : Str → Option Value} {base : Heap}
theorem Fun.ok {x qual : Str} {st : Stmt} {f : Addr} {fd : FuncData} {N ps : List Str} {k : Nat} {sp : Sp} (F : Fun K x qual st f fd) (S : FnScope N ps (defScope st)) (len : ∀ vs H Q E, sp vs H Q E → vs.length = ps.length)
    (hbody : ∀ (cdv : Value) (A : Around) (outer : List Env) (s : Shared) (H : Hp) (vs : List V) (Q : VK) (E : XK), Room k (A.deeper (envOfC qual (defScope st) s.heap.objs.size f cdv)) → sp vs H Q E →
      ∃ t, PSs (cxOf CX0 P w K mg base N qual (defScope st) f cdv A outer s H E).nox (defBody st) t ∧ t { nx := fun _ H' => Q .non H', rt := Q } (start N vs) H) : FnOk P w K mg base CX0 (k + 1) f fd ps sp := by
  obtain ⟨oc, od, kV, doc, pm, an, cdv, ct, osl, rfl, lk, hcd⟩ := F.ex
  refine fn_of lk hcd S len fun A outer s H vs Q E hr hsp => ?_
  obtain ⟨t, h, q⟩ := hbody cdv A outer s H vs Q E hr hsp
  exact ⟨t, h.nox, q⟩
theorem Fun.binds {x qual : Str} {st : Stmt} {f : Addr} {fd : FuncData} {ps : List Str} (F : Fun K x qual st f fd)
    (h : ∀ (kV doc pm : Value) (an : Option Addr) (cdv ct : Value) (us : List Value), us.length = ps.length → bindArgs (PySem.W.fnOf x qual (defArgs st) (defBody st) (defScope st) .none kV doc pm an cdv ct) ⟨us, []⟩ = pure (ps.zip us)) : Binds K fd ps [] := by
  obtain ⟨oc, od, kV, doc, pm, an, cdv, ct, osl, rfl, lk, hcd⟩ := F.ex
  exact .all (h kV doc pm an cdv ct)
theorem fun_mk {x qual : Str} {st : Stmt} {f : Addr} {oc : Value} {od an : Option Addr} {osl : Array (Option Value)} {kV doc pm cdv ct : Value} (l : K.lookup f = some ⟨oc, od, .func (PySem.W.fnOf x qual (defArgs st) (defBody st) (defScope st) .none kV doc pm an cdv ct), osl⟩)
    (c : PySem.W.codeIn K cdv qual = true) (k : PySem.W.keepIn K (.ref f) = true) : Fun K x qual st f (PySem.W.fnOf x qual (defArgs st) (defBody st) (defScope st) .none kV doc pm an cdv ct) := ⟨⟨oc, od, kV, doc, pm, an, cdv, ct, osl, rfl, l, c⟩, k⟩
end
theorem hu_of {A : Around} {k : Nat} (hr : Room k A) : A.units + 1 < cLine := Nat.lt_of_le_of_lt (Nat.add_le_add_left (by decide : 1 ≤ 64) _) hr.units
section
variable {X : Cx}
theorem pv (i : Nat) {x : Str} {pos : Pos} (hN : X.N[i]? = some x := by rfl) (hv : Vis X.env.scope x := by first | exact Or.inl rfl | exact Or.inr (Or.inl rfl) | exact Or.inr (Or.inr rfl)) (hd : (x == ("__debug__" : Str)) = false := by decide)
    (hcd : (x == ("__classdict__" : Str)) = false := by decide) : PE X (.Name x pos) (tVar i) := pe_var hN hv hd hcd
end
theorem iteT {A B : Prop} (h : A) : if true = true then A else B := by
  rw [if_pos rfl]
  exact h
theorem ite2 {c A B : Prop} [Decidable c] (h1 : c → A) (h2 : ¬ c → B) : if c then A else B := by
  by_cases h : c
  · rw [if_pos h]
    exact h1 h
  · rw [if_neg h]
    exact h2 h
noncomputable def Same (H H' : Hp) : Prop := ∀ b o, H b = some o → H' b = some o
theorem Same.refl (H : Hp) : Same H H := fun _ _ h => h
theorem Same.trans {H H1 H2 : Hp} (a : Same H H1) (b : Same H1 H2) : Same H H2 := fun c o h => b c o (a c o h)
theorem Same.free {H H' : Hp} (e : Same H H') {l : Addr} (h : H' l = Option.none) : H l = Option.none := by
  cases q : H l with
  | none => rfl
  | some o =>
    rw [e l o q] at h
    cases h
theorem Same.seq {K : PySem.W.Frag} {H H' : Hp} {a : Addr} {xs : List V} (e : Same H H') (h : SqL K H a xs) : SqL K H' a xs := by
  rcases h with (h | ⟨o, h⟩) | h
  · exact .inl (.inl (e _ _ h))
  · exact .inl (.inr ⟨o, e _ _ h⟩)
  · exact .inr h
section
variable {κ : Type} [DecidableEq κ]
theorem nd_snoc : ∀ {l : List κ} {k : κ}, l.Nodup → ¬ k ∈ l → (l ++ [k]).Nodup
  | [], k, _, _ => by simp
  | a :: r, k, h, hk => by
    obtain ⟨h1, h2⟩ := List.nodup_cons.mp h
    show (a :: (r ++ [k])).Nodup
    refine List.nodup_cons.mpr ⟨fun m => ?_, nd_snoc h2 fun m => hk (List.mem_cons.mpr (Or.inr m))⟩
    rcases List.mem_append.mp m with q | q
    · exact h1 q
    · exact hk (List.mem_cons.mpr (Or.inl (List.mem_singleton.mp q).symm))
end
theorem at_of {xs : List V} {z : Int} {j : Nat} {v : V} (e : z = (j : Int)) (h : xs[j]? = some v) : atI xs z = some v := by
  rw [e]
  exact atI_nat h
theorem nd_ix {α : Type} {l : List α} (hN : l.Nodup) {i j : Nat} {x : α} (a : l[i]? = some x) (b : l[j]? = some x) : i = j := by
  obtain ⟨h1, e1⟩ := List.getElem?_eq_some_iff.mp a
  obtain ⟨h2, e2⟩ := List.getElem?_eq_some_iff.mp b
  exact (List.getElem_inj hN).mp (e1.trans e2.symm)
theorem Same.made {H H1 : Hp} {x dx C : Addr} (nx : H x = Option.none) (nd : H dx = Option.none) (k : ∀ b o, (upd (upd H dx (.own x)) x (.ins C dx [])) b = some o → b ≠ x → H1 b = some o) : Same H H1 := fun b o e =>
  k b o (by rw [upd_ne (ne_of_none e nx), upd_ne (ne_of_none e nd)]; exact e) (ne_of_none e nx)
end L2
set_option linter.all false
set_option maxRecDepth 100000
namespace L2
open PySem
noncomputable def fsOf (l : List Env) : List Addr := l.filterMap (·.frame)
noncomputable def ExcNew (h : Heap) (e C dx : Addr) : Prop := ∃ oe vs, h.get? e = some oe ∧ oe.cls = .ref C ∧ oe.dict = some dx ∧ oe.data = .fields vs ∧ vs[1]? = some .none
noncomputable def ExcAt (h : Heap) (e C dx T : Addr) (fl : Value) : Prop := ∃ oe vs oT ts, h.get? e = some oe ∧ oe.cls = .ref C ∧ oe.dict = some dx ∧ oe.data = .fields vs ∧ vs[1]? = some (.ref T) ∧ T ≠ e ∧
  h.get? T = some oT ∧ oT.data = .fields ts ∧ ts[3]? = some fl
structure Passed (fs ch : List Addr) (h h' : Heap) : Prop where
  keep : ∀ b o, h.get? b = some o → b ∉ fs → b ∉ ch → h'.get? b = some o
  slot : ∀ b o, h.get? b = some o → b ∉ ch → ∃ sl, h'.get? b = some { o with slots := sl }
  there : ∀ b o, h.get? b = some o → ∃ o', h'.get? b = some o'
theorem Passed.refl {fs ch : List Addr} {h : Heap} : Passed fs ch h h := ⟨fun _ _ q _ _ => q, fun _ o q _ => ⟨o.slots, q⟩, fun _ o q => ⟨o, q⟩⟩
theorem Passed.trans {fs ch : List Addr} {h h1 h2 : Heap} (a : Passed fs ch h h1) (b : Passed fs ch h1 h2) : Passed fs ch h h2 :=
  ⟨fun c o q n1 n2 => b.keep c o (a.keep c o q n1 n2) n1 n2, fun c o q n => by
    obtain ⟨sl, q1⟩ := a.slot c o q n
    obtain ⟨sl2, q2⟩ := b.slot c _ q1 n
    exact ⟨sl2, q2⟩, fun c o q => by
    obtain ⟨o1, q1⟩ := a.there c o q
    exact b.there c o1 q1⟩
theorem Passed.mono {fs ch ch' : List Addr} {h h' : Heap} (a : Passed fs ch h h') (m : ∀ b, b ∈ ch → b ∈ ch') : Passed fs ch' h h' :=
  ⟨fun b o q n1 n2 => a.keep b o q n1 fun z => n2 (m b z), fun b o q n => a.slot b o q fun z => n (m b z), a.there⟩
section
variable {M : Model} {A : Around} {E : Value → Shared → Prop} {s : Shared} {base : Heap} {env : Env} {outer : List Env} {L e C dx T : Addr} {oe : Obj} {vs : Array Value} {Q : Unit → Shared → Prop}
theorem upd_passed {h : Heap} {b : Addr} {ob : Obj} {ws : Array Value} {i : Nat} {x : Value} (q : h.get? b = some ob) (hd : ob.data = .fields ws) : Passed [] [b] h (h.update b (Obj.mapFields (·.setIfInBounds i x))) := by
  have hs : (h.update b (Obj.mapFields (·.setIfInBounds i x))).get? b = some (ob.mapFields (·.setIfInBounds i x)) := Heap.get?_update_self _ q (Obj.isFreed_of_fields (Obj.data_mapFields hd _))
  have ho : ∀ c, c ≠ b → (h.update b (Obj.mapFields (·.setIfInBounds i x))).get? c = h.get? c := fun c hc => Heap.get?_update_other _ _ (Ne.symm hc)
  refine ⟨fun c o z _ n => ?_, fun c o z n => ⟨o.slots, ?_⟩, fun c o z => ?_⟩
  · rw [ho c fun w => n (by simp [w])]; exact z
  · rw [ho c fun w => n (by simp [w])]; exact z
  · by_cases w : c = b
    · exact ⟨_, by rw [w]; exact hs⟩
    · exact ⟨o, by rw [ho c w]; exact z⟩
theorem dict_map (o : Obj) (f : Array Value → Array Value) : (o.mapFields f).dict = o.dict := by
  obtain ⟨c, d, dt, sl⟩ := o
  cases dt <;> rfl
theorem note_core {head : Value} {hn : Bool} (hfr : A.frames = some (env :: outer)) (hl : s.heap.FunFrames base (env :: outer)) (hf : env.frame = some L) (ho : s.heap.get? e = some oe) (hd : oe.data = .fields vs) (hsz : 1 < vs.size)
    (k : ∀ (h' : Heap) (T' : Addr) (oT : Obj) (ts : Array Value), s.heap.objs.size ≤ T' → Passed (fsOf (env :: outer)) [e] s.heap h' → h'.get? e = some (oe.mapFields (·.setIfInBounds 1 (.ref T'))) → T' ≠ e →
      h'.get? T' = some oT → oT.data = .fields ts → ts[3]? = some (rawInt L) → Q () { s with heap := h' }) :
    wpAny M A (do let a ← frameOf env; let pl ← entryPlaceOf L hn; let b ← EntryCells.newEntry head a .none (rawInt L) .none pl; setField (.ref e) 1 b) Q E s := by
  have nfr : e ∉ fsOf (env :: outer) := fun hm => by
    obtain ⟨_, o, q, nf⟩ := hl.mem hm
    rw [ho] at q
    exact nf vs ((Option.some.inj q) ▸ hd)
  refine wpAny_bind (wpAny_frameOf_fun hfr hl hf fun g hg => ?_)
  refine wpAny_bind (wpAny_entryPlaceOf fun pls hp => ?_)
  unfold EntryCells.newEntry newFields
  refine wpAny_bind (wpAny_newObj_type ?_ (hp.sizeOk5 _ _ _ _ _))
  have q1 : g.get? e = some oe := (hg.2.1 e nfr).trans ho
  have q2 := Heap.get?_push_of_some (h := g) { cls := .type "traceback", dict := none, data := .fields ([head, .ref L, .none, rawInt L, .none] ++ (if pls.isEmpty then List.replicate 6 Value.none else pls)).toArray } q1
  refine wpAny_setField q2 hd hsz ?_
  have nT : g.objs.size ≠ e := Nat.ne_of_gt (Heap.lt_size q1)
  have d3 := Obj.data_mapFields hd (·.setIfInBounds 1 (Value.ref g.objs.size))
  have P2 : Passed [] [e] _ _ := upd_passed (i := 1) (x := Value.ref g.objs.size) q2 hd
  have P1 : Passed (fsOf (env :: outer)) [e] s.heap g := ⟨fun b o q n _ => (hg.2.1 b n).trans q, fun b o q _ => hg.2.2 b o q, fun b o q => by
    obtain ⟨sl, z⟩ := hg.2.2 b o q
    exact ⟨_, z⟩⟩
  refine k _ g.objs.size _ _ (by rw [hg.1]; exact Nat.le_refl _) ⟨fun b o q n1 n2 => ?_, fun b o q n => ?_, fun b o q => ?_⟩ (Heap.get?_update_self _ q2 (Obj.isFreed_of_fields d3)) nT
    ((Heap.get?_update_other _ _ (Ne.symm nT)).trans (Heap.get?_push_size g rfl)) rfl (by first | (simp; done) | (rcases hp with rfl | ⟨_, _, _, _, _, _, _, rfl⟩ <;> simp))
  · exact P2.keep b o (Heap.get?_push_of_some _ (P1.keep b o q n1 n2)) (by simp) n2
  · obtain ⟨sl, z⟩ := P1.slot b o q n
    exact ⟨sl, P2.keep b _ (Heap.get?_push_of_some _ z) (by simp) n⟩
  · obtain ⟨o1, z⟩ := P1.there b o q
    exact P2.there b o1 (Heap.get?_push_of_some _ z)
noncomputable def ExcSt (h : Heap) (e C dx L : Addr) (ts : List Addr) : Prop := (ts = [] ∧ ExcNew h e C dx) ∨ ∃ T, ts = [T] ∧ (ExcAt h e C dx T .none ∨ ExcAt h e C dx T (rawInt L))
theorem note_any {ts : List Addr} (hfr : A.frames = some (env :: outer)) (hl : s.heap.FunFrames base (env :: outer)) (hf : env.frame = some L) (x : ExcSt s.heap e C dx L ts)
    (k : ∀ (h' : Heap) (T' : Addr), ExcAt h' e C dx T' (rawInt L) → (T' ∈ ts ∨ s.heap.objs.size ≤ T') → Passed (fsOf (env :: outer)) (e :: ts) s.heap h' → Q () { s with heap := h' }) : wpAny M A (noteFrame (.ref e) env) Q E s := by
  unfold noteFrame
  simp only [hf]
  rcases x with ⟨rfl, oe, vs, ho, hc, hx, hd, h1⟩ | ⟨T, rfl, x⟩
  · refine wpAny_bind (wpAny_field ho hd h1 ?_)
    rw [if_neg (by decide)]
    refine note_core hfr hl hf ho hd (Array.getElem?_eq_some_iff.mp h1).1 fun h' T' oT tv hn P he hne hT hdT h3 => ?_
    refine k h' T' ⟨_, _, oT, tv, he, (Obj.cls_mapFields _ _).trans hc, (dict_map _ _).trans hx, Obj.data_mapFields hd _, ?_, hne, hT, hdT, h3⟩ (.inr hn) P
    simp [(Array.getElem?_eq_some_iff.mp h1).1]
  · rcases x with x | x
    · obtain ⟨oe, vs, oT, tv, ho, hc, hx, hd, h1, hne, hT, hdT, h3⟩ := x
      refine wpAny_bind (wpAny_field ho hd h1 ?_)
      rw [if_pos (show (Value.ref T != Value.none) = true by simp)]
      refine wpAny_bind (wpAny_field hT hdT h3 ?_)
      rw [if_neg (show ¬ (Value.none == rawInt L) = true by simp [rawInt])]
      refine wpAny_bind (wpAny_setField hT hdT (Array.getElem?_eq_some_iff.mp h3).1 ?_)
      have P0 : Passed [] [T] _ _ := upd_passed (i := 3) (x := Value.none) hT hdT
      have ho' := P0.keep e oe ho (by simp) (by simp [Ne.symm hne])
      refine note_core (base := base) hfr (hl.of_keeps fun b o q nf => ⟨o, P0.keep b o q (by simp) (fun z => ?_), rfl⟩) hf ho' hd (Array.getElem?_eq_some_iff.mp h1).1 fun h' T' oT' tv' hn P he hne' hT' hdT' h3' => ?_
      · have z : b = T := by simpa using z
        rw [z, hT] at q
        exact nf tv ((Option.some.inj q) ▸ hdT)
      · rw [Heap.size_after_update] at hn
        refine k h' T' ⟨_, _, oT', tv', he, (Obj.cls_mapFields _ _).trans hc, (dict_map _ _).trans hx, Obj.data_mapFields hd _, ?_, hne', hT', hdT', h3'⟩ (.inr hn) ?_
        · simp [(Array.getElem?_eq_some_iff.mp h1).1]
        · refine Passed.trans (h1 := _) ⟨fun b o q _ n => P0.keep b o q (by simp) fun z => n (by simp at z; simp [z]), fun b o q n => ⟨o.slots, P0.keep b o q (by simp) fun z => n (by simp at z; simp [z])⟩, P0.there⟩ (P.mono fun b z => by simp at z; simp [z])
    · obtain ⟨oe, vs, oT, tv, ho, hc, hx, hd, h1, hne, hT, hdT, h3⟩ := id x
      refine wpAny_bind (wpAny_field ho hd h1 ?_)
      rw [if_pos (show (Value.ref T != Value.none) = true by simp)]
      refine wpAny_bind (wpAny_field hT hdT h3 ?_)
      rw [if_pos (show (rawInt L == rawInt L) = true by simp)]
      exact wpAny_pure (k s.heap T x (.inl (by simp)) .refl)
theorem flight_any {fl : Value} {fr : Option Addr} (x : ExcAt s.heap e C dx T fl)
    (k : ∀ h' : Heap, ExcAt h' e C dx T (fr.elim .none fun f => rawInt f) → Passed [] [T] s.heap h' → Q () { s with heap := h' }) : wpAny M A (setFlight (.ref e) fr) Q E s := by
  obtain ⟨oe, vs, oT, tv, ho, hc, hx, hd, h1, hne, hT, hdT, h3⟩ := x
  unfold setFlight
  refine wpAny_bind (wpAny_field ho hd h1 ?_)
  rw [if_pos (show (Value.ref T != Value.none) = true by simp)]
  have hz := (Array.getElem?_eq_some_iff.mp h3).1
  refine wpAny_setField hT hdT hz ?_
  have P0 : Passed [] [T] _ _ := upd_passed (i := 3) (x := fr.elim Value.none fun f => rawInt f) hT hdT
  refine k _ ⟨oe, vs, _, _, P0.keep e oe ho (by simp) (by simp [Ne.symm hne]), hc, hx, hd, h1, hne, Heap.get?_update_self _ hT (Obj.isFreed_of_fields (Obj.data_mapFields hdT _)), Obj.data_mapFields hdT _, ?_⟩ P0
  simp [hz]
end
end L2
set_option linter.all false
set_option maxRecDepth 100000
namespace L2
open PySem
open Builtin Builtin.ObjectAttr
section
variable {prog : Program} {w : World} {A : Around} {E : Value → Shared → Prop} {h : Heap} {g : Array GenState} {d : Drawn} {t : Nat} {os : OsState}
variable {nm q : Str} {C N x : Addr} {bs bm : List Value} {sn : List Str} {sub : List Value} {ab : Bool} {col : Option Bool} {dd : Option Addr} {k0 k1 k2 k3 k5 : Option Value} {B newId sa owner : String}
  {mN : Str → Option Value} {name : Str} {v : Value} {ob : Obj} {vs : Array Value}
theorem setx_entry {tk : Tok} {Q : Fin → Shared → Prop} (SF : StoreFacts B bm sa owner) (hC : h.get? C = some (excClassObj nm q C N bs bm true sn sub ab col dd k0 k1 k2 k3 k5 newId)) (hn : h.Ns N mN) (hna : mN name = none)
    (hB : typeLookup (.type B) name = pure none) (hx : h.get? x = some ob) (hc : ob.cls = .ref C) (hnd : ob.dict = none) (hfd : ob.data = .fields vs)
    (hq : ∀ h' tk', h'.get? x = some { ob with dict := some h.objs.size } → h'.Ns1 h.objs.size (fun y => if y = name then some v else none) → (∀ b u, b ≠ x → h.get? b = some u → h'.get? b = some u) → Q (.done (.ret .none)) ⟨h', g, d, tk', os⟩) :
    wpAny (model prog w) A (Builtin.«object.__setattr__» ⟨[.ref x, .str name tk, v], []⟩) Q E ⟨h, g, d, t, os⟩ := by
  have pass := SF.passes (.ref x)
  unfold Builtin.«object.__setattr__»
  repeat (first | (with_reducible refine wpAny_loadPart_at hx ?_; rw [hc]) | rw [refuse_eq] | (rw [refuseLoop_ref, pass]) | (with_reducible refine wpAny_mroOf_exc hC ?_) | (with_reducible refine wpAny_typeLookup_exc hC hn SF.mro hB ?_; rw [hna]) | wp_step)
  rw [hnd, if_neg (by simp [typeHasDict])]
  split
  · rename_i z; cases z
  split
  · rename_i c z; rw [hfd] at z; cases z
  have x1 : (h.push { cls := .type "dict", data := .dict #[] }).get? x = some ob := Heap.get?_push_of_some _ hx
  have ne : x ≠ h.objs.size := Nat.ne_of_lt (Heap.lt_size hx)
  refine wpAny_bind (wpAny_alloc' (wpAny_bind (wpAny_update' x1 (wpAny_pure ?_))))
  have gd : ((h.push { cls := .type "dict", data := .dict #[] }).update x fun u => { cls := u.cls, dict := some h.objs.size, data := u.data, slots := u.slots }).get? h.objs.size = some { cls := .type "dict", data := .dict #[] } :=
    (Heap.get?_update_ne _ _ _ _ ne.symm).trans (Heap.get?_push_at rfl rfl)
  have nd : ((h.push { cls := .type "dict", data := .dict #[] }).update x fun u => { cls := u.cls, dict := some h.objs.size, data := u.data, slots := u.slots }).Ns h.objs.size (fun _ => none) := ⟨_, #[], _, gd, rfl, fun en z => absurd z (by simp), fun _ => rfl⟩
  show wpAny _ _ (storeInDict h.objs.size (.str name tk) name v) _ _ _
  unfold storeInDict newKeyGuard
  refine wpAny_bind (wpAny_pure (wpAny_bind (wpAny_nsSet1 (Heap.Ns1.of_empty nd) fun h2 n2 s2 => ?_)))
  obtain ⟨oD, eD, pD, hD, dD, cD⟩ := n2.count (Within.cons name v Within.nil)
  refine wpAny_bind (wpAny_lookBehind hD (by rw [dD]; exact pastItsLine_dict (Nat.le_trans cD (by rw [List.length_cons, List.length_nil, sizeLine_eq]; omega))) ?_)
  wp_walk
  have fr := (Heap.get?_some_iff.mp hx).2
  have hxx : h2.get? x = some { ob with dict := some h.objs.size } := (s2.2 x ne).trans (Heap.get?_update_self _ x1 (by obtain ⟨oc, od, ot, ol⟩ := ob; cases ot <;> first | rfl | exact fr))
  refine hq h2 _ hxx n2 fun b u nb z => ?_
  exact (s2.2 b (Nat.ne_of_lt (Heap.lt_size z))).trans ((Heap.get?_update_ne _ _ _ _ nb).trans (Heap.get?_push_of_some _ z))
theorem setx {Q : Unit → Shared → Prop} (SF : StoreFacts B bm sa owner) (hC : h.get? C = some (excClassObj nm q C N bs bm true sn sub ab col dd k0 k1 k2 k3 k5 newId)) (hn : h.Ns N mN) (hns : mN "__setattr__" = none) (hna : mN name = none)
    (hB : typeLookup (.type B) name = pure none) (hx : h.get? x = some ob) (hc : ob.cls = .ref C) (hnd : ob.dict = none) (hfd : ob.data = .fields vs)
    (hq : ∀ h' tk', h'.get? x = some { ob with dict := some h.objs.size } → h'.Ns1 h.objs.size (fun y => if y = name then some v else none) → (∀ b u, b ≠ x → h.get? b = some u → h'.get? b = some u) → Q () ⟨h', g, d, tk', os⟩) :
    wpAny (model prog w) A (setAttr (.ref x) name v) Q E ⟨h, g, d, t, os⟩ := by
  have f3 := SF.slot.bind (.ref x)
  unfold setAttr callSpecial? specialOf
  repeat (any_goals (first | assumption | (with_reducible refine wpAny_typeLookup_exc hC hn SF.mro SF.slot.lookup ?_; rw [hns]) | (with_reducible refine wpAny_loadPart_at hx ?_; rw [hc]) | wp_step))
  refine codeAny_call_builtin SF.slot.plain SF.entry (wpAny_check_sa SF hC hx hc (setx_entry SF hC hn hna hB hx hc hnd hfd fun h' tk' a b c => ?_))
  repeat (any_goals (first | assumption | wp_step))
  exact hq h' tk' a b c
end
end L2
set_option linter.all false
set_option maxRecDepth 100000
namespace L2
open PySem
open PySem.W (Frag findIn findObj looks_find looks_findIn InstAt handedIn mroIn looks_mroIn handedOut_of Looks)
section
variable {prog : Program} {w : World} {A : Around} {E : Value → Shared → Prop} {h : Heap} {g : Array GenState} {d : Drawn} {t : Nat} {os : OsState} {K : Frag} {x C : Addr} {ox : Obj} {od : Option Obj} {name : Str} {v : Value}
theorem getx {expr : Bool} {Q : Value → Shared → Prop} (X : K.In h) (I : InstAt h x ox C od) (hga : findIn K (.ref C) "__getattribute__" = some (some (.builtin "BaseException.__getattribute__"))) (hgn : findIn K (.ref C) "__getattr__" = some none)
    (hsb : mroIn K C (.type "BaseException") = some true) (hf : findObj K C od name = some (.value v)) (hh : handedIn v = true) (hq : Q v ⟨h, g, d, t + 1, os⟩) :
    wpAny (model prog w) A (getAttr (.ref x) name expr) Q E ⟨h, g, d, t, os⟩ := by
  have L0 : Looks (model prog w) h (typeOf (.ref x)) (.ref C) := I.type
  have L1 := looks_findIn (M := model prog w) X hga
  have L2 := looks_findIn (M := model prog w) X hgn
  have L3 := looks_find (M := model prog w) X I hf
  have L4 : Looks (model prog w) h (isInstance (.ref x) (.type "BaseException")) true := L0.andThen (looks_mroIn X hsb)
  have FB := PySem.F.attrBase_Exception
  have f3 := FB.ga.bind (.ref x)
  have e0 : (expr && onTheHeap (Value.builtin "BaseException.__getattribute__")) = false := by cases expr <;> rfl
  have e2 : (Value.builtin "BaseException.__getattribute__" == Value.builtin "object.__getattribute__") = false := by decide +kernel
  unfold getAttr getAttrBy
  refine wpAny_bind (wpAny_mkText (wpAny_holding (wpAny_bind (L0.at (wpAny_bind (L1.at ?_))))))
  show wpAny _ _ (if (onTheHeap (Value.ref C) && Value.builtin "BaseException.__getattribute__" == Value.builtin "object.__getattribute__") = true then _ else getAttrByItsOwn _ _ _ _ _ _) _ _ _
  rw [e2, Bool.and_false, if_neg Bool.false_ne_true]
  unfold getAttrByItsOwn hookBefore
  rw [if_pos (show onTheHeap (Value.ref C) = true from rfl)]
  refine wpAny_bind (L2.at (wpAny_bind (wpAny_attempt ?_)))
  unfold callGetattribute
  rw [e0, if_neg Bool.false_ne_true]
  refine wpAny_holding ?_
  unfold boundAndCalled
  rw [f3]
  refine wpAny_bind (wpAny_pure ?_)
  refine wpAny_mono (Q := fun a s' => a = v ∧ s' = ⟨h, g, d, t + 1, os⟩) ?_ (fun a s' z => ?_) fun _ _ z => z
  · refine wpAny_call (codeAny_call_builtin FB.ga.plain PySem.F.entry_bexc_ga ?_)
    have hk : builtinKind "BaseException.__getattribute__" = some .slot := by decide +kernel
    have hs : splitId "BaseException.__getattribute__" = some ("BaseException", "__getattribute__") := by decide +kernel
    refine @PySem.W.check_slot (model prog w) _ _ ⟨h, g, d, t + 1, os⟩ "BaseException.__getattribute__" "BaseException" "__getattribute__" (.ref x) [.str name t] [] _ hk hs L4 (PySem.F.args_bexc_ga _ _) ?_
    unfold Builtin.«object.__getattribute__» slotArgs
    repeat (any_goals (first | assumption | (with_reducible refine L0.at ?_) | (with_reducible refine L3.at ?_) | wp_step))
    exact ⟨rfl, rfl⟩
  · obtain ⟨rfl, rfl⟩ := z
    show wpAny _ _ (handedOut a) _ _ _
    rw [handedOut_of hh]
    exact wpAny_pure hq
end
end L2
set_option linter.all false
set_option maxRecDepth 100000
namespace L2
open PySem
section
variable {M : Model} {A : Around} {E : Value → Shared → Prop} {env : Env} {s : Shared}
variable {nm q : Str} {C N : Addr} {bs bm : List Value} {hdct : Bool} {sn : List Str} {sub : List Value} {ab : Bool} {col : Option Bool} {dd : Option Addr} {k0 k1 k2 k3 k5 : Option Value} {newId : String}
theorem raise_core {x : Sem Value} {Q : Flow → Shared → Prop} (hbase : bm.contains (.type "BaseException") = true) (hh : A.handled = none)
    (h : wpAny M A x (fun v s1 => ∃ e t dx sl, v = .ref e ∧ s1.heap.get? C = some (excClassObj nm q C N bs bm hdct sn sub ab col dd k0 k1 k2 k3 k5 newId) ∧
      s1.heap.get? e = some ⟨.ref C, some dx, .fields #[.ref t, .none, .none, .none, .bool false, .none], sl⟩ ∧ E (.ref e) s1) E s) :
    wpAny M A (raiseStmt env (some x) none) Q E s := by
  have hb : (Value.ref C :: bm).contains (.type "BaseException") = true := by rw [List.contains_cons, hbase, Bool.or_true]
  unfold raiseStmt
  refine wpAny_bind (wpAny_mono h (fun v s1 h1 => ?_) fun _ _ z => z)
  obtain ⟨e, t, dx, sl, rfl, hC, he, hE⟩ := h1
  obtain ⟨hp, g, d, tk, os⟩ := s1
  repeat (first | with_reducible refine wpAny_loadPart_at hC ?_ | with_reducible refine wpAny_loadPart_at he ?_ | (with_reducible refine wpAny_isSubtype_exc hC ?_; rw [hb]) | wp_step)
  exact wpAny_raiseNew_none hh hE
theorem raise_stmt {e : Expr} {pos : Pos} {Q : Flow → Shared → Prop} (hbase : bm.contains (.type "BaseException") = true) (hh : A.handled = none)
    (h : wpAny M A (eval e env) (fun v s1 => ∃ e t dx sl, v = .ref e ∧ s1.heap.get? C = some (excClassObj nm q C N bs bm hdct sn sub ab col dd k0 k1 k2 k3 k5 newId) ∧
      s1.heap.get? e = some ⟨.ref C, some dx, .fields #[.ref t, .none, .none, .none, .bool false, .none], sl⟩ ∧ E (.ref e) s1) E s) :
    wpAny M A (exec (.Raise (some e) none pos) env) Q E s := by
  rw [arm_exec_Raise]
  have h2 : wpAny M A (eval e env >>= fun v => standAt pos >>= fun _ => pure v) _ E s := wpAny_bind (wpAny_mono h (fun v s1 h1 => wpAny_bind (wpAny_standAt (wpAny_pure h1))) fun _ _ z => z)
  first
    | exact wpAny_bind (wpAny_standAt (raise_core (C := C) (nm := nm) (q := q) (N := N) (bs := bs) (bm := bm) (hdct := hdct) (sn := sn) (sub := sub) (ab := ab) (col := col) (dd := dd) (k0 := k0) (k1 := k1) (k2 := k2) (k3 := k3) (k5 := k5) (newId := newId) hbase hh h2))
    | (simp only [evalOpt, Option.map]; exact wpAny_bind (wpAny_standAt (raise_core (C := C) (nm := nm) (q := q) (N := N) (bs := bs) (bm := bm) (hdct := hdct) (sn := sn) (sub := sub) (ab := ab) (col := col) (dd := dd) (k0 := k0) (k1 := k1) (k2 := k2) (k3 := k3) (k5 := k5) (newId := newId) hbase hh h2)))
end
end L2
set_option linter.all false
set_option maxRecDepth 100000
namespace L2
open PySem PySem.Spec PyProof.Rows
section
variable {P : Program} {w : World} {H H' : Hp} {h h' : Heap} {a : Addr} {o : HO}
theorem ObjOk.there (x : ObjOk P w H h a o) : ∃ ob, h.get? a = some ob := by
  cases o with
  | lst xs => obtain ⟨_, _, _, _, e⟩ := x; exact ⟨_, e⟩
  | tup xs => obtain ⟨_, _, _, ob, e, _⟩ := x; exact ⟨ob, e⟩
  | dK kvs => obtain ⟨_, _, _, _, ob, _, _, e, _⟩ := x; exact ⟨ob, e⟩
  | dT kvs => obtain ⟨_, _, _, _, ob, _, _, e, _⟩ := x; exact ⟨ob, e⟩
  | set S n => obtain ⟨ob, _, _, _, e, _⟩ := x; exact ⟨ob, e⟩
  | ins C dx fs => obtain ⟨_, _, _, e, _⟩ := x; exact ⟨_, e⟩
  | own y => exact x
  | xd fs => obtain ⟨_, ⟨ob, _, _, e, _⟩, _⟩ := x; exact ⟨ob, e⟩
  | rng lo hi => obtain ⟨_, _, _, e⟩ := x; exact ⟨_, e⟩
  | frz ob u => obtain ⟨e, _⟩ := x; exact ⟨_, e⟩
  | tbl ps => exact ⟨_, x⟩
  | met f y => exact ⟨_, x⟩
  | ext φ => obtain ⟨_, e, _⟩ := x; exact e
theorem HOk.free (x : HOk P w H h) (e : h.get? a = none) : H a = none := by
  cases q : H a with
  | none => rfl
  | some u =>
    obtain ⟨ob, z⟩ := (x a u q).there
    rw [e] at z; cases z
theorem HOk.laidN (x : HOk P w H h) (k : ∀ b u, h.get? b = some u → h'.get? b = some u) (hn : H a = none) (new : ObjOk P w (upd H a o) h' a o) : HOk P w (upd H a o) h' := fun b u e => by
  by_cases hb : b = a
  · subst hb; rw [upd_same] at e; cases e; exact new
  · rw [upd_ne hb] at e
    exact (x b u e).stay (fun c v _ q => k c v q) (fun c q => by rw [upd_ne (ne_of_none q hn)]; exact q) fun c xs q => by rw [upd_ne (ne_of_none q hn)]; exact q
theorem Un.laidN {fs ex : List Addr} (k : ∀ b u, h.get? b = some u → h'.get? b = some u) (hp : h.get? a = none) (hn : H a = none) : Un fs ex H (upd H a o) h h' where
  keep := fun b u q _ _ _ => k b u q
  slot := fun b u q _ _ _ => ⟨u.slots, k b u q⟩
  free := fun b u q n _ => by rw [upd_ne (fun z => by rw [z, hp] at q; cases q)]; exact n
  there := fun b u q _ => ⟨u, k b u q⟩
  tups := fun b xs q => by rw [upd_ne (ne_of_none q hn)]; exact q
  frzs := fun b u xs q => by rw [upd_ne (ne_of_none q hn)]; exact q
  tbls := fun b ps q => ⟨#[], by rw [upd_ne (ne_of_none q hn), q]; simp⟩
end
noncomputable def drop1 (H : Hp) (a : Addr) : Hp := fun b => if b = a then none else H b
theorem drop1_same {H : Hp} {a : Addr} : drop1 H a a = none := by unfold drop1; rw [if_pos rfl]
theorem drop1_ne {H : Hp} {a b : Addr} (h : b ≠ a) : drop1 H a b = H b := by unfold drop1; rw [if_neg h]
section
variable {X : Cx} {pins : List (Addr × Obj)} {σ : List (Option V)} {H H' : Hp} {s : Shared} {h' : Heap} {a : Addr} {o : HO}
theorem Inv.laidN {t' : Nat} (I : Inv X pins σ H s) (k : ∀ b u, s.heap.get? b = some u → h'.get? b = some u) (hp : s.heap.get? a = none) (new : ObjOk X.prog X.w (upd H a o) h' a o) :
    Inv X pins σ (upd H a o) { s with heap := h', toks := t' } := I.un (Un.laidN k hp (I.hok.free hp)) (I.hok.laidN k (I.hok.free hp) new)
theorem Inv.forget {φ : Heap → Prop} (I : Inv X pins σ H s) (e : H a = some (.ext φ)) : Inv X pins σ (drop1 H a) s := by
  have ne : ∀ b u, H b = some u → (∀ ψ, u ≠ .ext ψ) → b ≠ a := fun b u q n z => by rw [z, e] at q; exact n φ (Option.some.inj q).symm
  have nn : ∀ b, H b = none → drop1 H a b = none := fun b q => by
    by_cases z : b = a
    · rw [z]; exact drop1_same
    · rw [drop1_ne z]; exact q
  refine ⟨I.ok, I.os, I.bare, ⟨I.base.keep, I.base.slot, fun b ob q n hx => nn b (I.base.free b ob q n hx), I.base.there, fun b xs q => ?_, fun b ob u q => ?_, fun b ps q => ?_⟩, I.loc, I.cell, nn _ I.free, fun x c q => nn _ (I.freeC x c q), fun p hp => ?_, fun b u q => ?_, I.len⟩
  · have z := I.base.tups b xs q
    rw [drop1_ne (ne b _ z fun ψ w => by cases w)]; exact z
  · have z := I.base.frzs b ob u q
    rw [drop1_ne (ne b _ z fun ψ w => by cases w)]; exact z
  · obtain ⟨m, z⟩ := I.base.tbls b ps q
    exact ⟨m, by rw [drop1_ne (ne b _ z fun ψ w => by cases w)]; exact z⟩
  · obtain ⟨p1, p2, p3⟩ := I.pin p hp
    exact ⟨p1, nn _ p2, p3⟩
  · have hb : b ≠ a := fun z => by rw [z, drop1_same] at q; cases q
    rw [drop1_ne hb] at q
    exact (I.hok b u q).stay (fun c v _ z => z) (fun c z => by rw [drop1_ne (ne c _ z fun ψ w => by cases w)]; exact z) fun c xs z => by rw [drop1_ne (ne c _ z fun ψ w => by cases w)]; exact z
theorem Inv.passed {ch : List Addr} (I : Inv X [] σ H s) (hpn : X.pn = []) (hb : ∀ b ∈ ch, H b = none ∧ X.s_0.heap.get? b = none ∧ ∃ ob vs, s.heap.get? b = some ob ∧ ob.data = .fields vs)
    (keep : ∀ b u, s.heap.get? b = some u → b ∉ frs X.stack → b ∉ ch → h'.get? b = some u) (slot : ∀ b u, s.heap.get? b = some u → b ∉ ch → ∃ sl, h'.get? b = some { u with slots := sl }) (there : ∀ b u, s.heap.get? b = some u → ∃ u', h'.get? b = some u') :
    Inv X [] σ H { s with heap := h' } := by
  have nL : X.env.locals ∉ ch := fun z => by
    obtain ⟨_, _, ob, vs, q, d⟩ := hb _ z
    obtain ⟨m, ⟨o, es, ep, ho, hd, _⟩, _⟩ := I.loc
    rw [ho] at q; cases q; rw [hd] at d; cases d
  have nC : ∀ x c, X.env.cells.lookup x = some c → c ∉ ch := fun x c e z => by
    obtain ⟨_, _, ob, vs, q, d⟩ := hb _ z
    obtain ⟨v, o, ho, hd⟩ := I.cell x c e
    rw [ho] at q; cases q; rw [hd] at d; cases d
  have nt : ∀ b u, H b = some u → b ∉ ch := fun b u q z => by rw [(hb b z).1] at q; cases q
  have n0 : ∀ b ob, X.s_0.heap.get? b = some ob → b ∉ ch := fun b ob q z => by rw [(hb b z).2.1] at q; cases q
  have fr : ∀ b, b ∈ frs X.stack → b = X.env.locals ∨ b ∈ X.fs := fun b z => List.mem_cons.mp (I.stkSub b z)
  have neL : ∀ b ob, X.s_0.heap.get? b = some ob → b ≠ X.env.locals := fun b ob e => Nat.ne_of_lt (Nat.lt_of_lt_of_le (Heap.lt_size e) I.ok.above)
  have cellK : ∀ x c, X.env.cells.lookup x = some c → ∀ v, s.heap.IsCell c v → h'.IsCell c v := fun x c e v ⟨o, ho, hd⟩ => by
    obtain ⟨sl, q⟩ := slot c o ho (nC x c e)
    exact ⟨_, q, hd⟩
  refine ⟨I.ok, I.os, I.bare, ⟨fun b ob e n hb hx => ?_, fun b ob e n hb hx => ?_, I.base.free, fun b ob e hx => ?_, I.base.tups, I.base.frzs, I.base.tbls⟩, ?_, fun x c e => ?_, I.free, I.freeC, fun p hp => ?_, fun b u e => ?_, I.len⟩
  · exact keep b ob (I.base.keep b ob e n hb hx) (fun z => (fr b z).elim (neL b ob e) hb) (n0 b ob e)
  · obtain ⟨sl, z⟩ := I.base.slot b ob e n hb hx
    obtain ⟨sl', z'⟩ := slot b _ z (n0 b ob e)
    exact ⟨sl', z'⟩
  · obtain ⟨u, z⟩ := I.base.there b ob e hx
    exact there b u z
  · obtain ⟨m, ⟨o, es, ep, ho, r⟩, hl⟩ := I.loc
    obtain ⟨sl, z⟩ := slot _ o ho nL
    refine ⟨m, ⟨_, es, ep, z, r⟩, fun i x v e1 e2 e3 => ?_⟩
    obtain ⟨u, ru, l⟩ := hl i x v e1 e2 e3
    refine ⟨u, ru, ?_⟩
    rcases l with l | ⟨k, c, e, z⟩
    · exact .inl l
    · exact .inr ⟨k, c, e, cellK x c e _ z⟩
  · obtain ⟨v, z⟩ := I.cell x c e
    exact ⟨v, cellK x c e v z⟩
  · rw [hpn] at hp; cases hp
  · refine (I.hok b u e).stay (fun c v hc q => ?_) (fun _ q => q) fun _ _ q => q
    have hcs : ∃ u', H c = some u' := by
      rcases hc with z | z
      · exact ⟨u, by rw [z]; exact e⟩
      · exact ⟨_, z⟩
    obtain ⟨u', hu⟩ := hcs
    exact keep c v q (fun z => by rw [I.stkFree c z] at hu; cases hu) (nt c u' hu)
end
noncomputable def nones (X : Cx) : St := List.replicate X.N.length none
noncomputable def XS (X : Cx) (E : XK) (ev : Value) (s' : Shared) : Prop := ∃ (e C dx : Addr) (ts : List Addr) (H' : Hp), ev = .ref e ∧ Inv X [] (nones X) H' s' ∧ ExcSt s'.heap e C dx X.env.locals ts ∧
  (∀ b ∈ e :: ts, H' b = none ∧ X.s_0.heap.get? b = none) ∧ E (.ref C) (some dx) H'
noncomputable def CXw (P : Program) (w : World) : CXT := fun outer H s E ev s' => ∃ (e C dx T : Addr) (H' : Hp), ev = .ref e ∧ s'.os = s.os ∧ AllBare s'.gens ∧ Un (frs outer) [] H H' s.heap s'.heap ∧ HOk P w H' s'.heap ∧
  ExcAt s'.heap e C dx T .none ∧ (∀ b ∈ [e, T], H' b = none ∧ s.heap.get? b = none) ∧ E (.ref C) (some dx) H'
structure Own (X : Cx) : Prop where
  pn : X.pn = []
  ex : X.ex = []
  stk : X.stack = X.env :: X.outer
  fr : X.env.frame = some X.env.locals
theorem ExcSt.recs {h : Heap} {e C dx L : Addr} {ts : List Addr} (x : ExcSt h e C dx L ts) : ∀ b ∈ e :: ts, ∃ ob vs, h.get? b = some ob ∧ ob.data = .fields vs := by
  intro b hb
  rcases x with ⟨rfl, oe, vs, ho, _, _, hd, _⟩ | ⟨T, rfl, x⟩
  · have z : b = e := by simpa using hb
    exact ⟨oe, vs, by rw [z]; exact ho, hd⟩
  · have x' : ∃ fl, ExcAt h e C dx T fl := x.elim (fun z => ⟨_, z⟩) fun z => ⟨_, z⟩
    obtain ⟨fl, oe, vs, oT, tv, ho, _, _, hd, _, _, hT, hdT, _⟩ := x'
    rcases List.mem_cons.mp hb with z | z
    · exact ⟨oe, vs, by rw [z]; exact ho, hd⟩
    · have z : b = T := by simpa using z
      exact ⟨oT, tv, by rw [z]; exact hT, hdT⟩
section
variable {X : Cx} {E : XK} {ev : Value} {s s' : Shared}
theorem xs_noted {M : Model} {e C dx : Addr} {ts : List Addr} {H' : Hp} {Q : Unit → Shared → Prop} {E' : Value → Shared → Prop} (O : Own X) (I : Inv X [] (nones X) H' s') (x : ExcSt s'.heap e C dx X.env.locals ts) (hn : ∀ b ∈ e :: ts, H' b = none ∧ X.s_0.heap.get? b = none)
    (k : ∀ (h' : Heap) (T' : Addr), Inv X [] (nones X) H' { s' with heap := h' } → ExcAt h' e C dx T' (rawInt X.env.locals) → (∀ b ∈ [e, T'], H' b = none ∧ X.s_0.heap.get? b = none) → Q () { s' with heap := h' }) :
    wpAny M X.A (noteFrame (.ref e) X.env) Q E' s' := by
  have hfr := I.ok.frames
  have hst := I.stack
  rw [O.stk] at hfr hst
  refine note_any hfr hst O.fr x fun h' T' x1 hT P => ?_
  have nT : H' T' = none ∧ X.s_0.heap.get? T' = none := by
    rcases hT with z | z
    · exact hn T' (List.mem_cons_of_mem _ z)
    · exact ⟨I.hok.fresh z, Heap.get?_none_of_le (Nat.le_trans I.sz z)⟩
  refine k h' T' (I.passed (ch := e :: ts) O.pn (fun b hb => ⟨(hn b hb).1, (hn b hb).2, x.recs b hb⟩) (fun b u q n1 n2 => P.keep b u q (by rw [← O.stk]; exact n1) n2) P.slot P.there) x1 fun b hb => ?_
  rcases List.mem_cons.mp hb with z | z
  · rw [z]; exact hn e (by simp)
  · have z : b = T' := by simpa using z
    rw [z]; exact nT
theorem xs_flight {M : Model} {e C dx T : Addr} {H' : Hp} {fl : Value} {fr : Option Addr} {Q : Unit → Shared → Prop} {E' : Value → Shared → Prop} (O : Own X) (I : Inv X [] (nones X) H' s') (x : ExcAt s'.heap e C dx T fl) (hn : ∀ b ∈ [e, T], H' b = none ∧ X.s_0.heap.get? b = none)
    (k : ∀ h' : Heap, Inv X [] (nones X) H' { s' with heap := h' } → ExcAt h' e C dx T (fr.elim .none fun f => rawInt f) → Q () { s' with heap := h' }) :
    wpAny M X.A (setFlight (.ref e) fr) Q E' s' := by
  refine flight_any x fun h' x1 P => ?_
  obtain ⟨oe, vs, oT, tv, ho, _, _, hd, _, _, hT, hdT, _⟩ := x
  refine k h' (I.passed (ch := [T]) O.pn (fun b hb => ?_) (fun b u q _ n2 => P.keep b u q (by simp) n2) P.slot P.there) x1
  have z : b = T := by simpa using hb
  rw [z]
  exact ⟨(hn T (by simp)).1, (hn T (by simp)).2, oT, tv, hT, hdT⟩
theorem ownW (O : Own X) : PassesOwn (model X.prog X.w) X.A X.env (XS X E) := by
  rintro ev s' ⟨e, C, dx, ts, H', rfl, I, x, hn, hE⟩
  refine xs_noted O I x hn fun h' T' I1 x1 hn1 => ?_
  obtain ⟨oe, vs, oT, tv, ho, _, _, hd, h1, _⟩ := id x1
  refine wpAny_bind (wpAny_field ho hd h1 ?_)
  show wpAny _ _ (if (Value.ref T' == Value.none) = true then _ else setFlight (Value.ref e) X.env.frame) _ _ _
  rw [if_neg (show ¬ (Value.ref T' == Value.none) = true by simp)]
  refine xs_flight O I1 x1 hn1 fun h2 I2 x2 => ?_
  rw [O.fr] at x2
  exact ⟨e, C, dx, [T'], H', rfl, I2, .inr ⟨T', rfl, .inr x2⟩, hn1, hE⟩
theorem passW (O : Own X) : Passes (CXw X.prog X.w) (X.wish (XS X E)) E := by
  rintro pins σ H s ev s' I ⟨e, C, dx, T, H', rfl, os, bare, un, hok, x, hn, hE⟩
  have I1 : Inv (X.wish (XS X E)) pins σ H' s' := I.call' (ch := []) os un hok bare fun _ z => nomatch z
  have I2 := ((I1.pins_of (pins' := []) fun p hp => nomatch hp).weak (σ' := nones X) (by rw [I1.len]; exact List.length_replicate) fun i v z => by
    unfold nones at z
    rw [List.getElem?_replicate] at z
    split at z <;> cases z).unwish
  refine ⟨e, C, dx, [T], H', rfl, I2, .inr ⟨T, rfl, .inl x⟩, fun b hb => ⟨(hn b hb).1, ?_⟩, hE⟩
  cases q : X.s_0.heap.get? b with
  | none => rfl
  | some o =>
    obtain ⟨o', z⟩ := I.base.there b o q (by show b ∉ X.ex; rw [O.ex]; simp)
    rw [(hn b hb).2] at z; cases z
theorem passN : Passes (CXw X.prog X.w) X.nox E0 := by
  rintro pins σ H s ev s' I ⟨e, C, dx, T, H', rfl, os, bare, un, hok, x, hn, hE⟩
  exact hE
end
section
variable {P : Program} {w : World} {K : PySem.W.Frag} {mg : Str → Option Value} {base : Heap} {N : List Str} {qual : Str} {scope : Scope} {f : Addr} {cd : Value} {A : Around} {outer : List Env} {s : Shared} {H : Hp} {E : XK}
theorem own_cx : Own (cxOf (CXw P w) P w K mg base N qual scope f cd A outer s H E) := ⟨rfl, rfl, rfl, rfl⟩
theorem xs_leaves {ev : Value} {s' : Shared} (h : XS (cxOf (CXw P w) P w K mg base N qual scope f cd A outer s H E) E ev s') : (cxOf (CXw P w) P w K mg base N qual scope f cd A outer s H E).xe ev s' := by
  obtain ⟨e, C, dx, ts, H', rfl, I, x, hn, hE⟩ := h
  have O : Own (cxOf (CXw P w) P w K mg base N qual scope f cd A outer s H E) := own_cx
  show wpAny _ _ (leaving _ _) _ _ s'
  unfold leaving
  refine wpAny_bind (xs_noted O I x hn fun h' T' I1 x1 hn1 => ?_)
  refine xs_flight O I1 x1 hn1 fun h2 I2 x2 => ?_
  exact ⟨e, C, dx, T', H', rfl, I2.os, I2.bare, I2.base, I2.hok, x2, hn1, hE⟩
end
theorem Fun.okW {P : Program} {w : World} {K : PySem.W.Frag} {mg : Str → Option Value} {base : Heap} {x qual : Str} {st : Stmt} {f : Addr} {fd : FuncData} {N ps : List Str} {k : Nat} {sp : Sp} (F : Fun K x qual st f fd) (S : FnScope N ps (defScope st)) (len : ∀ vs H Q E, sp vs H Q E → vs.length = ps.length)
    (hbody : ∀ (cdv : Value) (A : Around) (outer : List Env) (s : Shared) (H : Hp) (vs : List V) (Q : VK) (E : XK) (X : Cx), X = cxOf (CXw P w) P w K mg base N qual (defScope st) f cdv A outer s H E → Own X → Room k (A.deeper (envOfC qual (defScope st) s.heap.objs.size f cdv)) → sp vs H Q E →
      ∃ t, PSs ((cxOf (CXw P w) P w K mg base N qual (defScope st) f cdv A outer s H E).wish (XS (cxOf (CXw P w) P w K mg base N qual (defScope st) f cdv A outer s H E) E)) (defBody st) t ∧ t { nx := fun _ H' => Q .non H', rt := Q } (start N vs) H) : FnOk P w K mg base (CXw P w) (k + 1) f fd ps sp := by
  obtain ⟨oc, od, kV, doc, pm, an, cdv, ct, osl, rfl, lk, hcd⟩ := F.ex
  refine fn_of lk hcd S len fun A outer s H vs Q E hr hsp => ?_
  obtain ⟨t, h, q⟩ := hbody cdv A outer s H vs Q E _ rfl own_cx hr hsp
  refine ⟨t, fun pins s1 σ H1 D I hw => ?_, q⟩
  exact wpAny_mono (h pins s1 σ H1 D (I.wish _) hw) (fun fl s2 z => z.unwish) fun ev s2 z => xs_leaves z
theorem Fun.okN {P : Program} {w : World} {K : PySem.W.Frag} {mg : Str → Option Value} {base : Heap} {x qual : Str} {st : Stmt} {f : Addr} {fd : FuncData} {N ps : List Str} {k : Nat} {sp : Sp} (F : Fun K x qual st f fd) (S : FnScope N ps (defScope st)) (len : ∀ vs H Q E, sp vs H Q E → vs.length = ps.length)
    (hbody : ∀ (cdv : Value) (A : Around) (outer : List Env) (s : Shared) (H : Hp) (vs : List V) (Q : VK) (E : XK), Room k (A.deeper (envOfC qual (defScope st) s.heap.objs.size f cdv)) → sp vs H Q E →
      ∃ t, PSs (cxOf (CXw P w) P w K mg base N qual (defScope st) f cdv A outer s H E).nox (defBody st) t ∧ t { nx := fun _ H' => Q .non H', rt := Q } (start N vs) H) : FnOk P w K mg base (CXw P w) (k + 1) f fd ps sp := by
  obtain ⟨oc, od, kV, doc, pm, an, cdv, ct, osl, rfl, lk, hcd⟩ := F.ex
  refine fn_of lk hcd S len fun A outer s H vs Q E hr hsp => ?_
  obtain ⟨t, h, q⟩ := hbody cdv A outer s H vs Q E hr hsp
  exact ⟨t, h.nox, q⟩
end L2
set_option linter.all false
set_option maxRecDepth 100000
namespace L2
open PySem PySem.Spec PyProof.Rows
structure XC (K : PySem.W.Frag) (C fI : Addr) : Prop where
  cls : ∃ nm qn N bs sn sub ab col dd k0 k1 k2 k3 k5, K.lookup C = some (excClassObj nm qn C N bs [.type "Exception", .type "BaseException", .type "object"] true sn sub ab col dd k0 k1 k2 k3 k5 "Exception.__new__") ∧ PySem.W.nsOkIn K N = true ∧
    PySem.W.nsIn K N "__init__" = some (some (.ref fI)) ∧ PySem.W.nsIn K N "__setattr__" = some none ∧ PySem.W.nsIn K N "place" = some none
  fn : PySem.W.isFn K (.ref fI) = true
  kp : PySem.W.keepIn K (.ref C) = true
  ga : PySem.W.findIn K (.ref C) "__getattribute__" = some (some (.builtin "BaseException.__getattribute__"))
  gn : PySem.W.findIn K (.ref C) "__getattr__" = some none
  na : PySem.W.findIn K (.ref C) "place" = some none
  hd : PySem.W.hasDictIn K C = true
  sb : PySem.W.mroIn K C (.type "BaseException") = some true
theorem ns_some {K : PySem.W.Frag} {h : Heap} {N : Addr} {m : Str → Option Value} {n : Str} {v : Value} (X : K.In h) (G : h.Ns N m) (e : PySem.W.nsIn K N n = some (some v)) : m n = some v := by
  obtain ⟨o, es, ep, ho, hd, _, hf⟩ := G
  unfold PySem.W.nsIn at e
  split at e
  · rename_i c d es2 n2 sl z
    have y := X _ _ z
    rw [ho] at y
    cases y
    cases hd
    split at e
    · rename_i en he
      rw [← hf]
      unfold nsFind findBy
      rw [← Array.find?_toList, he]
      exact Option.some.inj e
    · split at e <;> cases e
  · cases e
noncomputable def XNew (e C : Addr) (h : Heap) : Prop := ∃ t, h.get? e = some { cls := .ref C, data := .fields #[.ref t, .none, .none, .none, .bool false, .none] }
noncomputable def XHas (e C dx : Addr) (h : Heap) : Prop := ∃ t, h.get? e = some { cls := .ref C, dict := some dx, data := .fields #[.ref t, .none, .none, .none, .bool false, .none] }
noncomputable def XGot (e C dx : Addr) (h : Heap) : Prop := ∃ oe vs, h.get? e = some oe ∧ oe.cls = .ref C ∧ oe.dict = some dx ∧ oe.data = .fields vs
noncomputable abbrev pl1 (v : V) : List (Str × V) := [("place", v)]
noncomputable def sX (C : Addr) (ta tv : TE) : TS := fun D σ H => tv σ H fun y H1 => ta σ H1 fun x H2 => ∃ e, x = .ref e ∧ H2 e = some (.ext (XNew e C)) ∧ ∀ dx, H2 dx = none → dx ≠ e → D.nx σ (upd (upd H2 dx (.xd (pl1 y))) e (.ext (XHas e C dx)))
section
variable {X : Cx} {C fI : Addr}
theorem ps_xset {o value : Expr} {pos pos' : Pos} {ta tv : TE} (c : XC X.K C fI) (ha : PE X o ta) (hv : PE X value tv) (hs : swapsWith value (some (.Attribute o "place" pos')) pos.line X.env = pure false) : PS X (.Assign [.Attribute o "place" pos'] value pos) (sX C ta tv) := by
  intro pins s σ H D I h
  refine plainObj_wpAny_Assign_Attribute (thn (hv pins s σ H _ I h) fun u s1 ⟨y, H1, I1, ry, q⟩ => thn (ha pins s1 σ H1 _ I1 q) fun ov s2 ⟨x, H2, I2, rx, e, ex, ea, q2⟩ => ?_) hs
  subst ex
  obtain rfl : ov = Value.ref e := rx
  obtain ⟨⟨t, he⟩, _, _⟩ := I2.hok e _ ea
  obtain ⟨nm, qn, N, bs, sn, sub, ab, col, dd, k0, k1, k2, k3, k5, hl, nk, ni, ns, np⟩ := c.cls
  have KX := I2.kIn
  have hC := KX _ _ hl
  have hN : s2.heap.Ns N (s2.heap.nsMap N) := .of_isNs (PySem.W.isNs_of_in KX nk)
  have n1 := PySem.W.ns_none_of KX hN ns
  have n2 := PySem.W.ns_none_of KX hN np
  obtain ⟨hh, g, d, tk, os⟩ := s2
  refine setx PySem.F.store_Exception hC hN n1 n2 (by rw [typeLookup_type, builtinLookup_eq_fast]; kernel_rfl) he rfl rfl rfl fun h' tk' hx hn kp => ?_
  have fr : H2 hh.objs.size = none := I2.hok.fresh (Nat.le_refl _)
  have ne : hh.objs.size ≠ e := Nat.ne_of_gt (Heap.lt_size he)
  have neE : ∀ b u, H2 b = some u → (∀ ψ, u ≠ .ext ψ) → b ≠ e := fun b u z n w => by rw [w, ea] at z; exact n _ (Option.some.inj z).symm
  have neD : ∀ b u, H2 b = some u → b ≠ hh.objs.size := fun b u z w => by rw [w, fr] at z; cases z
  have oldD : ∀ b ob, hh.get? b = some ob → b ≠ hh.objs.size := fun b ob z w => absurd (Heap.lt_size z) (by rw [w]; exact Nat.lt_irrefl _)
  have unE : ∀ b, H2 b = none → b ≠ e := fun b z w => by rw [w, ea] at z; cases z
  have U : Un X.fs [] H2 (upd (upd H2 hh.objs.size (.xd (pl1 y))) e (.ext (XHas e C hh.objs.size))) hh h' := by
    refine ⟨fun b ob z n _ _ => kp b ob (unE b n) z, fun b ob z n _ _ => ⟨ob.slots, kp b ob (unE b n) z⟩, fun b ob z n _ => ?_, fun b ob z _ => ?_, fun b xs z => ?_, fun b ob xs z => ?_, fun b ps z => ⟨#[], ?_⟩⟩
    · rw [upd_ne (unE b n), upd_ne (oldD b ob z)]; exact n
    · by_cases w : b = e
      · exact ⟨_, by rw [w]; exact hx⟩
      · exact ⟨ob, kp b ob w z⟩
    · rw [upd_ne (neE b _ z fun ψ w => by cases w), upd_ne (neD b _ z)]; exact z
    · rw [upd_ne (neE b _ z fun ψ w => by cases w), upd_ne (neD b _ z)]; exact z
    · rw [upd_ne (neE b _ z fun ψ w => by cases w), upd_ne (neD b _ z), z]; simp
  have J : Inv X pins σ _ ⟨h', g, d, tk', os⟩ := I2.un (t' := tk') U fun b u z => by
    by_cases w : b = e
    · subst w
      rw [upd_same] at z
      cases z
      exact ⟨⟨t, hx⟩, ⟨_, hx⟩, fun h1 h2 ⟨t2, e2⟩ k2 => ⟨t2, k2 _ e2⟩⟩
    · rw [upd_ne w] at z
      by_cases w2 : b = hh.objs.size
      · subst w2
        rw [upd_same] at z
        cases z
        refine ⟨_, hn, fun f => ?_⟩
        show RelO (match f == ("place" : Str) with | true => some y | false => none) (if f = "place" then some u else none)
        by_cases w3 : f = "place"
        · rw [if_pos w3, w3, beq_self_eq_true]; exact ry
        · rw [if_neg w3, beq_eq_false_iff_ne.mpr w3]; exact True.intro
      · rw [upd_ne w2] at z
        refine (I2.hok b u z).stay (fun c v hc q => kp c v ?_ q) (fun c q => ?_) fun c xs q => ?_
        · rcases hc with r | r
          · rw [r]; exact w
          · exact neE c _ r fun ψ w => by cases w
        · rw [upd_ne (neE c _ q fun ψ w => by cases w), upd_ne (neD c _ q)]; exact q
        · rw [upd_ne (neE c _ q fun ψ w => by cases w), upd_ne (neD c _ q)]; exact q
  exact ⟨σ, _, J, q2 _ fr ne⟩
noncomputable def tX (K : PySem.W.Frag) (ta : TE) : TE := fun σ H Q => ta σ H fun x H1 => ∃ e C fI dx fs v, x = .ref e ∧ H1 e = some (.ext (XGot e C dx)) ∧ XC K C fI ∧ H1 dx = some (.xd fs) ∧ fs.lookup ("place" : Str) = some v ∧ Q v H1
theorem pe_xfld {e : Expr} {pos : Pos} {ta : TE} (he : PE X e ta) (hb : attributeBase e "place" X.env (eval e X.env) = eval e X.env) : PE X (.Attribute e "place" pos) (tX X.K ta) := by
  intro pins s σ H Q I h
  refine attr_of hb (thn (he pins s σ H _ I h) fun u s1 ⟨x, H1, I1, rx, e, C, fI, dx, fs, v, ex, ea, c, ed, l, q⟩ => ?_)
  subst ex
  obtain rfl : u = Value.ref e := rx
  obtain ⟨⟨oe, vs, ho, hc, hx, hdt⟩, _, _⟩ := I1.hok e _ ea
  obtain ⟨mA, ns, r⟩ := I1.hok dx _ ed
  obtain ⟨od, hod, hl⟩ := lookIn_ns ns
  obtain ⟨v', hv, rv⟩ := RelO.some_of (v := v) (o := mA "place") (by rw [← l]; exact r _)
  have KX := I1.kIn
  obtain ⟨hh, g, d, tk, os⟩ := s1
  have J : PySem.W.InstAt hh e oe C (some od) := ⟨ho, hc, by unfold PySem.W.notCls; rw [hdt], by rw [hx]; exact hod⟩
  refine getx KX J c.ga c.gn c.sb (PySem.W.findObj_own c.hd c.na rfl (by rw [hl, hv])) (handed_of rv) ?_
  exact ⟨v, H1, I1.tok _, rv, q⟩
end
inductive SpXP (C : Addr) (vs : List V) (H : Hp) (Q : VK) (E_ : XK) : Prop
  | mk : ∀ (e : Addr) (i : Int), vs = [.ref e, .int i] → H e = some (.ext (XNew e C)) → (∀ dx, H dx = none → dx ≠ e → Q .non (upd (upd H dx (.xd (pl1 (.int (if 65536 < i then 65536 else i))))) e (.ext (XHas e C dx)))) → SpXP C vs H Q E_
noncomputable def spX (C : Addr) : Sp := SpXP C
noncomputable def tRaise (C : Addr) (E : XK) (t : TA) : TS := fun _ σ H => t σ H fun vs H1 => ∃ i : Int, vs = [.int i] ∧ ∀ dx, H1 dx = none → E (.ref C) (some dx) (upd H1 dx (.xd (pl1 (.int (if 65536 < i then 65536 else i)))))
theorem ps_raise {X : Cx} {x : Str} {np cpos pos : Pos} {a : Expr} {t : TA} {E : XK} {C fI : Addr} {fd : FuncData} {k : Nat} (O : Own X) (hc : X.calm = true) (c : XC X.K C fI) (F : FnOk X.prog X.w X.K X.mg X.base (CXw X.prog X.w) k fI fd ["self", "place"] (spX C)) (hr : Room (k + 1) X.A)
    (hb : Binds X.K fd ["self", "place"] []) (hg : Gl X x) (hm : X.mg x = some (.ref C)) (ha : PA (X.wish (XS X E)) [a] t) (hdb : (x == ("__debug__" : Str)) = false := by decide) (he : starEach [a] X.env = (false, eval a X.env) :: starEach [] X.env := by rfl)
    (hpl : (backTo cpos (starEach [] X.env)).any (·.1) = false := by rfl) : PS (X.wish (XS X E)) (.Raise (some (.Call (.Name x np) [a] [] cpos)) none pos) (tRaise C E t) := by
  intro pins s σ H D I h
  obtain ⟨nm, qn, N, bs, sn, sub, ab, col, dd, k0, k1, k2, k3, k5, hl, nk, ni, ns, npl⟩ := c.cls
  refine raise_stmt (C := C) (nm := nm) (q := qn) (N := N) (bs := bs) (bm := [.type "Exception", .type "BaseException", .type "object"]) (hdct := true) (sn := sn) (sub := sub) (ab := ab) (col := col) (dd := dd) (k0 := k0) (k1 := k1) (k2 := k2) (k3 := k3) (k5 := k5) (newId := "Exception.__new__") (by decide +kernel) (I.ok.hd hc) ?_
  refine wpAny_Call_Name_kw (ld_glob I hg hm ?_ hdb)
  refine PySem.W.callWith_K (h₀ := X.base) I.ok.mod.kin c.kp (thn (ha cpos pins s σ H _ I h) fun us s1 ⟨vs, H1, I1, r, i, ev, q⟩ => ⟨I1.kIn, ?_⟩) he hpl
  subst ev
  have hC := I1.kIn _ _ hl
  have hN : s1.heap.Ns N (s1.heap.nsMap N) := .of_isNs (PySem.W.isNs_of_in I1.kIn nk)
  have hi := ns_some I1.kIn hN ni
  obtain ⟨oI, hoI, hcI⟩ : ∃ oI, X.K.lookup fI = some oI ∧ oI.cls = .type "function" := Option.map_eq_some_iff.mp (show (X.K.lookup fI).map (·.cls) = _ from beq_iff_eq.mp c.fn)
  have hfI := I1.kIn _ _ hoI
  have hus : us.length = 1 := r.length.symm
  obtain ⟨hh, g, d, tk, os⟩ := s1
  refine wpAny_call_exc_init PySem.F.excBase_Exception hC hN hi hfI hcI (fun h' e hm' => ?_) (by show us.length ≤ sizeLine; rw [hus, sizeLine_eq]; decide)
  obtain ⟨t0, ht0, _, _⟩ := hm'.there
  have I2 : Inv (X.wish (XS X E)) pins σ (upd H1 e (.ext (XNew e C))) ⟨h', g, d, tk, os⟩ := I1.laidN (t' := tk) hm'.keeps hm'.new ⟨⟨t0, ht0⟩, ⟨_, ht0⟩, fun h1 h2 ⟨t2, e2⟩ k2 => ⟨t2, k2 _ e2⟩⟩
  have nE : H1 e = none := I1.hok.free hm'.new
  have r2 : Vals (V.ref e :: [V.int i]) (Value.ref e :: us) := .cons rfl r
  refine wpAny_call (codeAny_mono (F.run _ X.stack ⟨h', g, d, tk, os⟩ (upd H1 e (.ext (XNew e C))) ⟨Value.ref e :: us, []⟩ (Value.ref e :: us) (V.ref e :: [V.int i])
    (fun v H2 => v = .non ∧ ∃ dx, H1 dx = none ∧ dx ≠ e ∧ H2 = upd (upd (upd H1 e (.ext (XNew e C))) dx (.xd (pl1 (.int (if 65536 < i then 65536 else i))))) e (.ext (XHas e C dx))) E0 (hr.make C us []) (I2.env0.make C us [])
    (by have z := hb ⟨h', g, d, tk, os⟩ (Value.ref e :: us) I2.kIn (by rw [List.append_nil, List.length_cons, hus]; rfl); rw [List.append_nil] at z; exact z) r2 ⟨e, i, rfl, upd_same, fun dx z w => ⟨rfl, dx, by rw [upd_ne w] at z; exact z, w, rfl⟩⟩) fun rs s' hq => ?_)
  cases rs with
  | error ev =>
    obtain ⟨_, _, _, _, _, _, _, _, _, _, _, _, z⟩ := hq
    exact False.elim z
  | ok fl =>
    cases fl with
    | next => exact False.elim hq
    | brk => exact False.elim hq
    | cont => exact False.elim hq
    | ret u =>
      obtain ⟨v, H', I3, rv, ev, dx, hdx, ne, eH⟩ := I2.after hq
      subst ev
      obtain rfl : u = Value.none := rv
      have hE' : H' e = some (.ext (XHas e C dx)) := by rw [eH]; exact upd_same
      obtain ⟨⟨t3, h3⟩, _, _⟩ := I3.hok e _ hE'
      refine ⟨rfl, e, t3, dx, #[], rfl, I3.kIn _ _ hl, h3, ?_⟩
      have I4 := I3.forget hE'
      have I5 := ((I4.pins_of (pins' := []) fun p hp => nomatch hp).weak (σ' := nones X) (by rw [I4.len]; exact List.length_replicate) fun j v z => by
        unfold nones at z
        rw [List.getElem?_replicate] at z
        split at z <;> cases z).unwish
      have eD : drop1 H' e = upd H1 dx (.xd (pl1 (.int (if 65536 < i then 65536 else i)))) := by
        funext b
        by_cases w : b = e
        · rw [w, drop1_same, upd_ne (Ne.symm ne)]; exact nE.symm
        · rw [drop1_ne w, eH, upd_ne w]
          by_cases w2 : b = dx
          · rw [w2, upd_same, upd_same]
          · rw [upd_ne w2, upd_ne w2, upd_ne w]
      refine ⟨e, C, dx, [], drop1 H' e, rfl, I5, .inl ⟨rfl, _, _, h3, rfl, rfl, rfl, rfl⟩, fun b hb' => ?_, by rw [eD]; exact q dx hdx⟩
      have z : b = e := by simpa using hb'
      rw [z]
      refine ⟨drop1_same, ?_⟩
      cases qq : X.s_0.heap.get? e with
      | none => rfl
      | some o0 =>
        obtain ⟨o1, z1⟩ := I1.base.there e o0 qq (by show e ∉ X.ex; rw [O.ex]; simp)
        have := hm'.new
        rw [this] at z1; cases z1
noncomputable def PS0 (X : Cx) (st : List Stmt) (t : TS) : Prop := ∀ (s : Shared) (σ : St) (H : Hp) (D : Ends), Inv X [] σ H s → t D σ H → wpAny (model X.prog X.w) X.A (execs st X.env) (SP X [] D) X.xe s
noncomputable def PS01 (X : Cx) (st : Stmt) (t : TS) : Prop := ∀ (s : Shared) (σ : St) (H : Hp) (D : Ends), Inv X [] σ H s → t D σ H → wpAny (model X.prog X.w) X.A (exec st X.env) (SP X [] D) X.xe s
theorem PSs.zero {X : Cx} {st : List Stmt} {t : TS} (h : PSs X st t) : PS0 X st t := fun s σ H D I q => h [] s σ H D I q
theorem PS.zero {X : Cx} {st : Stmt} {t : TS} (h : PS X st t) : PS01 X st t := fun s σ H D I q => h [] s σ H D I q
theorem ps0_cons {X : Cx} {st : Stmt} {rest : List Stmt} {t u : TS} (h1 : PS01 X st t) (h2 : PS0 X rest u) : PS0 X (st :: rest) (tSeq t u) := by
  intro s σ H D I h
  refine wpAny_execs_cons (thn (h1 s σ H _ I h) fun f s1 q => ?_)
  cases f with
  | next =>
    obtain ⟨σ1, H1, I1, q1⟩ := q
    exact h2 s1 σ1 H1 D I1 q1
  | brk => exact q
  | cont => exact q
  | ret u => exact q
theorem fn_of0 {CX : CXT} {P : Program} {w : World} {K : PySem.W.Frag} {mg : Str → Option Value} {base : Heap} {k : Nat} {f : Addr} {name qual : Str} {params : Arguments} {body : List Stmt} {scope : Scope} {dV kV doc pm cdv ct oc : Value} {an od : Option Addr}
    {osl : Array (Option Value)} {N ps : List Str} {sp : Sp} (lk : K.lookup f = some ⟨oc, od, .func (PySem.W.fnOf name qual params body scope dV kV doc pm an cdv ct), osl⟩) (hcd : PySem.W.codeIn K cdv qual = true) (S : FnScope N ps scope)
    (len : ∀ vs H Q E, sp vs H Q E → vs.length = ps.length)
    (hbody : ∀ (A : Around) (outer : List Env) (s : Shared) (H : Hp) (vs : List V) (Q : VK) (E : XK), Room k (A.deeper (envOfC qual scope s.heap.objs.size f cdv)) → sp vs H Q E →
      ∃ t, PS0 (cxOf CX P w K mg base N qual scope f cdv A outer s H E) body t ∧ t { nx := fun _ H' => Q .non H', rt := Q } (start N vs) H) :
    FnOk P w K mg base CX (k + 1) f (PySem.W.fnOf name qual params body scope dV kV doc pm an cdv ct) ps sp := by
  refine ⟨len, fun A outer s H args us vs Q E hr e0 hb r hsp => ?_⟩
  have hl := len _ _ _ _ hsp
  have KX : K.In s.heap := e0.mod.kin.keeps fun b o e => (e0.bs b o e).1
  have lim : s.heap.NoLimit := e0.mod.nolimit.keeps fun b o e => (e0.bs b o e).1
  have hkind : ∀ y ∈ ps.zip us, scope.names.lookup y.1 = some .local ∨ (scope.names.lookup y.1 = some .cell ∧ ((cellsFrom (s.heap.objs.size + 1) scope.names []).lookup y.1).isSome = true) := fun ⟨n, v⟩ hy => by
    rcases S.par n (List.of_mem_zip hy).1 with q | q
    · exact .inl q
    · exact .inr ⟨q, PySem.W.cellsFrom_some _ _ _ (.inl q)⟩
  refine codeAny_call_function hr.depth (KX _ _ lk) rfl S.co S.gen rfl (PySem.W.codeRec_of KX hcd) (hb _ _ _ _ ?_)
  refine wpAny_newFunctionEnv_cells S.kind hkind fun env he s1 x => ?_
  subst he
  refine ⟨lim.keeps x.toInCall.keep, codeAny_func ?_⟩
  obtain ⟨t, ht, hq⟩ := hbody A outer s H vs Q E (hr.deeper _) hsp
  have I : Inv (cxOf CX P w K mg base N qual scope f cdv A outer s H E) [] (start N vs) H s1 := inv_start S hr.hd e0 hl r x
  refine wpAny_mono (ht s1 (start N vs) H _ I hq) (fun fl s' hs => ?_) fun e s' hs => hs
  have fin : ∀ {σ' : St} {H' : Hp} {v : V} {u : Value}, Inv (cxOf CX P w K mg base N qual scope f cdv A outer s H E) [] σ' H' s' → RelV v u → Q v H' → CE outer P w H s Q u s' :=
    fun {σ' H' v u} J rv q => ⟨v, H', J.os, J.bare, J.base, J.hok, rv, q⟩
  cases fl with
  | ret u =>
    obtain ⟨v, σ', H', J, rv, q⟩ := hs
    exact fin J rv q
  | next =>
    obtain ⟨σ', H', J, q⟩ := hs
    exact fin (v := V.non) (u := Value.none) J rfl q
  | brk =>
    obtain ⟨_, _, _, q⟩ := hs
    exact False.elim q
  | cont =>
    obtain ⟨_, _, _, q⟩ := hs
    exact False.elim q
noncomputable def markX (X : Cx) (e : Addr) : Cx := { X with A := X.A.mark (some (.ref e)), calm := false }
section
variable {X : Cx} {σ : St} {H : Hp} {s : Shared} {e : Addr}
theorem Inv.mark {pins : List (Addr × Obj)} (I : Inv X pins σ H s) (e : Addr) : Inv (markX X e) pins σ H s :=
  ⟨⟨I.ok.mod, I.ok.kind, I.ok.glob, I.ok.blt, I.ok.above, I.ok.inj, I.ok.has, I.ok.cab, fun z => (by cases z), I.ok.frames, I.ok.stk, I.ok.exf, I.ok.bs, I.ok.bsz, I.ok.noex, I.ok.exfs, I.ok.funs, I.ok.frf⟩,
    I.os, I.bare, I.base, I.loc, I.cell, I.free, I.freeC, I.pin, I.hok, I.len⟩
theorem Inv.unmark {pins : List (Addr × Obj)} (O : X.calm = true → X.A.handled = none) (I : Inv (markX X e) pins σ H s) : Inv X pins σ H s :=
  ⟨⟨I.ok.mod, I.ok.kind, I.ok.glob, I.ok.blt, I.ok.above, I.ok.inj, I.ok.has, I.ok.cab, O, I.ok.frames, I.ok.stk, I.ok.exf, I.ok.bs, I.ok.bsz, I.ok.noex, I.ok.exfs, I.ok.funs, I.ok.frf⟩,
    I.os, I.bare, I.base, I.loc, I.cell, I.free, I.freeC, I.pin, I.hok, I.len⟩
theorem Own.mark (O : Own X) (e : Addr) : Own (markX X e) := ⟨O.pn, O.ex, O.stk, O.fr⟩
theorem Inv.track {a : Addr} {o : HO} {ob : Obj} {vs : Array Value} (I : Inv X [] σ H s) (hpn : X.pn = []) (hn : H a = none) (h0 : X.s_0.heap.get? a = none) (ha : s.heap.get? a = some ob) (hd : ob.data = .fields vs) (new : ObjOk X.prog X.w (upd H a o) s.heap a o) : Inv X [] σ (upd H a o) s := by
  have nL : X.env.locals ≠ a := fun z => by
    obtain ⟨m, ⟨o, es, ep, ho, hdd, _⟩, _⟩ := I.loc
    rw [z, ha] at ho; cases ho; rw [hd] at hdd; cases hdd
  have nC : ∀ x c, X.env.cells.lookup x = some c → c ≠ a := fun x c e z => by
    obtain ⟨v, o, ho, hdd⟩ := I.cell x c e
    rw [z, ha] at ho; cases ho; rw [hd] at hdd; cases hdd
  refine ⟨I.ok, I.os, I.bare, ⟨I.base.keep, I.base.slot, fun b u q n hx => ?_, I.base.there, fun b xs q => ?_, fun b u xs q => ?_, fun b ps q => ?_⟩, I.loc, I.cell, ?_, fun x c q => ?_, fun p hp => ?_, I.hok.laidN (fun _ _ q => q) hn new, I.len⟩
  · rw [upd_ne (fun z => by rw [z, h0] at q; cases q)]
    exact I.base.free b u q n hx
  · have z := I.base.tups b xs q
    rw [upd_ne (ne_of_none z hn)]; exact z
  · have z := I.base.frzs b u xs q
    rw [upd_ne (ne_of_none z hn)]; exact z
  · obtain ⟨m, z⟩ := I.base.tbls b ps q
    exact ⟨m, by rw [upd_ne (ne_of_none z hn)]; exact z⟩
  · rw [upd_ne nL]; exact I.free
  · rw [upd_ne (nC x c q)]; exact I.freeC x c q
  · rw [hpn] at hp; cases hp
theorem Inv.renamed {h' : Heap} {m' : Str → Option Value} {t' : Nat} (I : Inv X [] σ H s) (hpn : X.pn = []) (hn : h'.Ns X.env.locals m') (sb : Heap.SameBut X.env.locals s.heap h') : Inv X [] (nones X) H { s with heap := h', toks := t' } := by
  have kp : ∀ b o, b ≠ X.env.locals → s.heap.get? b = some o → h'.get? b = some o := fun b o n q => (sb.2 b n).trans q
  have neL : ∀ b o, X.s_0.heap.get? b = some o → b ≠ X.env.locals := fun b o q => Nat.ne_of_lt (Nat.lt_of_lt_of_le (Heap.lt_size q) I.ok.above)
  refine ⟨I.ok, I.os, I.bare, ⟨fun b o q n hb hx => kp b o (neL b o q) (I.base.keep b o q n hb hx), fun b o q n hb hx => ?_, I.base.free, fun b o q hx => ?_, I.base.tups, I.base.frzs, I.base.tbls⟩, ⟨m', hn, fun i x v _ z _ => ?_⟩, fun x c q => ?_, I.free, I.freeC, fun p hp => ?_, fun b u q => ?_, List.length_replicate⟩
  · obtain ⟨sl, z⟩ := I.base.slot b o q n hb hx
    exact ⟨sl, kp b _ (neL b o q) z⟩
  · obtain ⟨o', z⟩ := I.base.there b o q hx
    exact ⟨o', kp b o' (neL b o q) z⟩
  · unfold nones at z
    rw [List.getElem?_replicate] at z
    split at z <;> cases z
  · obtain ⟨v, o, ho, hd⟩ := I.cell x c q
    exact ⟨v, o, kp c o (I.cne x c q) ho, hd⟩
  · rw [hpn] at hp; cases hp
  · refine (I.hok b u q).stay (fun c v hc z => kp c v (fun w => ?_) z) (fun _ z => z) fun _ _ z => z
    have := I.free
    rcases hc with r | r
    · rw [← w, r, q] at this; cases this
    · rw [← w, r] at this; cases this
end
noncomputable def tTry (C : Addr) (E : XK) (i : Nat) (X : Cx) (tb : TS) (th : Addr → TS) : TS := fun D σ H => tb D σ H ∧ ∀ e dx H', E (.ref C) (some dx) H' → H' e = none → th e { nx := fun _ _ => False, rt := D.rt } ((nones X).set i (some (.ref e))) (upd H' e (.ext (XGot e C dx)))
theorem ps_try {X : Cx} {body suite : List Stmt} {b0 : Stmt} {x n : Str} {np hpos pos : Pos} {i : Nat} {E : XK} {C fI : Addr} {tb : TS} {th : Addr → TS} (O : Own X) (hcm : X.calm = true) (c : XC X.K C fI) (hg : Gl X x) (hm : X.mg x = some (.ref C)) (hN : X.N.Nodup) (hi : X.N[i]? = some n)
    (hl : X.env.kindOf n = some .local) (hfn : X.fn n = true) (hE : ∀ cv d H', E cv d H' → cv = .ref C) (hb : PSs (X.wish (XS X E)) body tb) (hs : ∀ e, PSs (markX X e).nox (b0 :: suite) (th e)) (hdb : (x == ("__debug__" : Str)) = false := by decide) :
    PS01 X (.Try body [.ExceptHandler (some (.Name x np)) (some n) (b0 :: suite) hpos] [] [] pos) (tTry C E i X tb th) := by
  intro s σ H D I h
  obtain ⟨h1, h2⟩ := h
  refine wpAny_Try_except (wpAny_mono (hb [] s σ H D (I.wish _) h1) (fun f s1 q => ?_) (fun ev s1 q => ?_))
  · have q := q.unwish
    cases f with
    | next => exact wpAny_execs_nil q
    | brk => exact q
    | cont => exact q
    | ret u => exact q
  · obtain ⟨e, C', dx, ts, H', rfl, I1, x1, hn, hEE⟩ := q
    have ec := hE _ _ _ hEE
    cases ec
    refine xs_noted O I1 x1 hn fun h' T' I2 x2 hn2 => ?_
    refine xs_flight (fr := none) O I2 x2 hn2 fun h3 I3 x3 => ?_
    obtain ⟨nm, qn, N, bs, sn, sub, ab, col, dd, k0, k1, k2, k3, k5, hl0, _⟩ := c.cls
    obtain ⟨oe, vs, _, _, ho, hcl, _⟩ := id x3
    refine wpAny_handleBy_cons (codeAny_handlers_test (ld_glob (X := markX X e) (I3.mark e) hg hm ?_ hdb)) (by intro z; cases z)
    refine wpAny_excMatches_sub_self (I3.kIn _ _ hl0) ho hcl (by decide +kernel) (codeAny_handlers_suite_as ?_)
    refine xs_flight (X := markX X e) (fr := none) (O.mark e) (I3.mark e) x3 hn2 fun h4 I4 x4 => ?_
    obtain ⟨oe4, vs4, _, _, ho4, hcl4, hdx4, hd4, _⟩ := id x4
    have I5 : Inv (markX X e) [] (nones (markX X e)) (upd H' e (.ext (XGot e C dx))) _ := I4.track O.pn (hn2 e (by simp)).1 (hn2 e (by simp)).2 ho4 hd4 ⟨⟨oe4, vs4, ho4, hcl4, hdx4, hd4⟩, ⟨_, ho4⟩, fun g1 g2 ⟨o1, v1, a1, a2, a3, a4⟩ k2 => ⟨o1, v1, k2 _ a1, a2, a3, a4⟩⟩
    refine store_ok (X := markX X e) I5 hN hi (.inl hl) (v := .ref e) rfl (fun s6 I6 => ?_) (.inl hfn)
    refine wpAny_mono (hs e [] s6 _ _ _ (I6.wish _) (h2 e dx H' hEE (hn2 e (by simp)).1)) (fun f s7 q => ?_) fun _ _ z => z.elim
    have q := q.unwish
    cases f with
    | next => obtain ⟨_, _, _, z⟩ := q; exact z.elim
    | brk => obtain ⟨_, _, _, z⟩ := q; exact z.elim
    | cont => obtain ⟨_, _, _, z⟩ := q; exact z.elim
    | ret u =>
      obtain ⟨v, σ7, H7, I7, rv, q7⟩ := q
      obtain ⟨m7, hn7, _⟩ := I7.loc
      refine wpAny_nameGoes hl hn7 (by rw [show X.env.scope.kind = _ from I.ok.kind]; rfl) fun h8 m8 hn8 sb => ?_
      exact ⟨v, nones X, H7, (I7.renamed O.pn hn8 sb).unmark I.ok.hd, rv, q7⟩
theorem Fun.okT {P : Program} {w : World} {K : PySem.W.Frag} {mg : Str → Option Value} {base : Heap} {x qual : Str} {st : Stmt} {f : Addr} {fd : FuncData} {N ps : List Str} {k : Nat} {sp : Sp} (F : Fun K x qual st f fd) (S : FnScope N ps (defScope st)) (len : ∀ vs H Q E, sp vs H Q E → vs.length = ps.length)
    (hbody : ∀ (cdv : Value) (A : Around) (outer : List Env) (s : Shared) (H : Hp) (vs : List V) (Q : VK) (E : XK), Room k (A.deeper (envOfC qual (defScope st) s.heap.objs.size f cdv)) → sp vs H Q E →
      ∃ t, PS0 (cxOf (CXw P w) P w K mg base N qual (defScope st) f cdv A outer s H E).nox (defBody st) t ∧ t { nx := fun _ H' => Q .non H', rt := Q } (start N vs) H) : FnOk P w K mg base (CXw P w) (k + 1) f fd ps sp := by
  obtain ⟨oc, od, kV, doc, pm, an, cdv, ct, osl, rfl, lk, hcd⟩ := F.ex
  refine fn_of0 lk hcd S len fun A outer s H vs Q E hr hsp => ?_
  obtain ⟨t, h, q⟩ := hbody cdv A outer s H vs Q E hr hsp
  refine ⟨t, fun s1 σ H1 D I hw => ?_, q⟩
  exact wpAny_mono (h s1 σ H1 D (I.wish _) hw) (fun fl s2 z => z.unwish) fun ev s2 z => z.elim
end L2
set_option linter.all false
set_option maxRecDepth 100000
namespace L2
open PySem PySem.Spec PyProof.Rows
noncomputable def GI (mg : Str → Option Value) (x : Str) (n : Int) : Prop := ∃ t, mg x = some (.int n t)
noncomputable def GS (mg : Str → Option Value) (x y : Str) : Prop := ∃ t, mg x = some (.str y t)
section
variable {X : Cx}
theorem pe_gi {x : Str} {n : Int} {pos : Pos} (h : GI X.mg x n) (hg : Gl X x := by rfl) (hd : (x == ("__debug__" : Str)) = false := by decide) : PE X (.Name x pos) (tC (.int n)) := by
  obtain ⟨t, e⟩ := h
  exact pe_glob hg e ⟨t, rfl⟩ hd
theorem pe_gs {x y : Str} {pos : Pos} (h : GS X.mg x y) (hg : Gl X x := by rfl) (hd : (x == ("__debug__" : Str)) = false := by decide) : PE X (.Name x pos) (tC (.str y)) := by
  obtain ⟨t, e⟩ := h
  exact pe_glob hg e ⟨t, rfl⟩ hd
theorem pe_gr {x : Str} {a : Addr} {pos : Pos} (h : X.mg x = some (.ref a)) (hg : Gl X x := by rfl) (hd : (x == ("__debug__" : Str)) = false := by decide) : PE X (.Name x pos) (tC (.ref a)) := pe_glob hg h rfl hd
end
noncomputable def GFn (P : Program) (w : World) (K : PySem.W.Frag) (mg : Str → Option Value) (base : Heap) (x : Str) (k : Nat) (ps : List Str) (sp : Sp) : Prop :=
  ∃ f fd, mg x = some (.ref f) ∧ PySem.W.keepIn K (.ref f) = true ∧ FnOk P w K mg base (CXw P w) k f fd ps sp ∧ Binds K fd ps []
noncomputable def GMt (P : Program) (w : World) (K : PySem.W.Frag) (mg : Str → Option Value) (base : Heap) (C : Addr) (m : Str) (k : Nat) (ps : List Str) (sp : Sp) : Prop :=
  ∃ f fd, Cls K C ∧ Meth K C m f ∧ FnOk P w K mg base (CXw P w) k f fd ps sp ∧ Binds K fd ps []
noncomputable def GMk (P : Program) (w : World) (K : PySem.W.Frag) (mg : Str → Option Value) (base : Heap) (x : Str) (C : Addr) (k : Nat) (ps : List Str) (sp : Sp) : Prop :=
  ∃ f fd, Mk K C f ∧ mg x = some (.ref C) ∧ FnOk P w K mg base (CXw P w) k f fd ps sp ∧ Binds K fd ps []
noncomputable def GX (P : Program) (w : World) (K : PySem.W.Frag) (mg : Str → Option Value) (base : Heap) (x : Str) (C : Addr) (k : Nat) : Prop :=
  ∃ f fd, XC K C f ∧ mg x = some (.ref C) ∧ FnOk P w K mg base (CXw P w) k f fd ["self", "place"] (spX C) ∧ Binds K fd ["self", "place"] []
section
variable {X : Cx} {x m : Str} {C : Addr} {k : Nat} {ps : List Str} {sp : Sp} {E : XK} {p pos apos : Pos} {e o : Expr} {es : List Expr} {t : TA} {ta : TE}
theorem pe_fn (G : GFn X.prog X.w X.K X.mg X.base x k ps sp) (hr : Room k X.A) (hx : Passes (CXw X.prog X.w) X E) (ha : PA X (e :: es) t) (hg : Gl X x := by rfl) (hdb : (x == ("__debug__" : Str)) = false := by decide)
    (he : starEach (e :: es) X.env = (false, eval e X.env) :: starEach es X.env := by rfl) (hpl : (backTo pos (starEach es X.env)).any (·.1) = false := by rfl) : PE X (.Call (.Name x p) (e :: es) [] pos) (tCall sp [] E t) := by
  obtain ⟨f, fd, hm, hk, F, hb⟩ := G
  exact pe_call F hr hg hm hk hb .nil hx ha hdb he hpl
theorem pe_mt {pl : Sem Bool} (G : GMt X.prog X.w X.K X.mg X.base C m k ps sp) (hr : Room k X.A) (hx : Passes (CXw X.prog X.w) X E) (ho : PE X o ta) (ha : PA X (e :: es) t) (hst : starEach (e :: es) X.env = (false, eval e X.env) :: starEach es X.env := by rfl)
    (hpl : (backTo pos (starEach es X.env)).any (·.1) = false := by rfl)
    (ht : eval (.Call (.Attribute o m apos) (e :: es) [] pos) X.env = (do
      let ov ← eval o X.env
      standAt apos.atName
      let (f, first) ← holding [ov] (getMethod ov m pl)
      callWith pos f first (backTo pos (starEach (e :: es) X.env)) (backToKw pos (keywordEach [] X.env))) := by rfl) : PE X (.Call (.Attribute o m apos) (e :: es) [] pos) (tMeth C m sp [] E ta t) := by
  obtain ⟨f, fd, c, hm, F, hb⟩ := G
  exact pe_meth ho c hm F hr hb .nil hx ha hst hpl ht
theorem pe_mt0 {pl : Sem Bool} (G : GMt X.prog X.w X.K X.mg X.base C m k ps sp) (hr : Room k X.A) (hx : Passes (CXw X.prog X.w) X E) (ho : PE X o ta)
    (ht : eval (.Call (.Attribute o m apos) [] [] pos) X.env = (do
      let ov ← eval o X.env
      standAt apos.atName
      let (f, first) ← holding [ov] (getMethod ov m pl)
      callWith pos f first (backTo pos (starEach [] X.env)) (backToKw pos (keywordEach [] X.env))) := by rfl) : PE X (.Call (.Attribute o m apos) [] [] pos) (tMeth C m sp [] E ta tNil) := by
  obtain ⟨f, fd, c, hm, F, hb⟩ := G
  exact pe_meth0 ho c hm F hr hb .nil hx ht
theorem pe_mk (G : GMk X.prog X.w X.K X.mg X.base x C k ps sp) (hr : Room (k + 1) X.A) (hx : Passes (CXw X.prog X.w) X E) (ha : PA X (e :: es) t) (hg : Gl X x := by rfl) (hdb : (x == ("__debug__" : Str)) = false := by decide)
    (he : starEach (e :: es) X.env = (false, eval e X.env) :: starEach es X.env := by rfl) (hpl : (backTo pos (starEach es X.env)).any (·.1) = false := by rfl) : PE X (.Call (.Name x p) (e :: es) [] pos) (tMake C sp [] E t) := by
  obtain ⟨f, fd, M, hm, F, hb⟩ := G
  exact pe_make M F hr hg hm hb .nil hx ha hdb he hpl
theorem ps_rs {cpos np : Pos} (G : GX X.prog X.w X.K X.mg X.base x C k) (O : Own X) (hc : X.calm = true) (hr : Room (k + 1) X.A) (ha : PA (X.wish (XS X E)) [e] t) (hg : Gl X x := by rfl) (hdb : (x == ("__debug__" : Str)) = false := by decide)
    (he : starEach [e] X.env = (false, eval e X.env) :: starEach [] X.env := by rfl) (hpl : (backTo cpos (starEach [] X.env)).any (·.1) = false := by rfl) : PS (X.wish (XS X E)) (.Raise (some (.Call (.Name x np) [e] [] cpos)) none pos) (tRaise C E t) := by
  obtain ⟨f, fd, c, hm, F, hb⟩ := G
  exact ps_raise O hc c F hr hb hg hm ha hdb he hpl
end
structure DK (K : PySem.W.Frag) (P : Program) (w : World) (a : Addr) (kvs : List (Key × V)) : Prop where
  sys : (a == sysModules) = false
  ok : ∀ h : Heap, K.In h → ∃ vs, KV kvs vs ∧ h.DictOf (mixKind P w) a vs
noncomputable def tKIn (kvs : List (Key × V)) (ty : TE) : TE := fun σ H Q => ty σ H fun y H1 => ∃ k, y = kV k ∧ Q (.bl (valV kvs k).isSome) H1
noncomputable def tKGet (kvs : List (Key × V)) (ty : TE) : TE := fun σ H Q => ty σ H fun y H1 => ∃ k v, y = kV k ∧ valV kvs k = some v ∧ Q v H1
section
variable {X : Cx} {x : Str} {a : Addr} {kvs : List (Key × V)} {i : Expr} {ty : TE} {p pos : Pos}
theorem pc_kin (D : DK X.K X.prog X.w a kvs) (hm : X.mg x = some (.ref a)) (hi : PE X i ty) (hg : Gl X x := by rfl) (hd : (x == ("__debug__" : Str)) = false := by decide) : PC X .In i (.Name x p) (tKIn kvs ty) := by
  intro pins s σ H Q I h
  refine thn (hi pins s σ H _ I h) fun iv s1 ⟨y, H1, I1, ry, k, ey, q⟩ => ?_
  refine ld_glob I1 hg hm ?_ hd
  subst ey
  obtain ⟨vs, rel, dd⟩ := D.ok _ I1.kIn
  refine wpAny_in_of (kV_is ry) D.sys dd.mapOf ?_
  rw [← (rel.val k).isSome_eq]
  exact ⟨.bl (valV kvs k).isSome, H1, I1.tok _, rfl, q⟩
theorem pe_kget (D : DK X.K X.prog X.w a kvs) (hm : X.mg x = some (.ref a)) (hi : PE X i ty) (hs : NoSl i) (hg : Gl X x := by rfl) (hd : (x == ("__debug__" : Str)) = false := by decide) : PE X (.Subscript (.Name x p) i pos) (tKGet kvs ty) := by
  intro pins s σ H Q I h
  refine subD_of PySem.F.slot_dict_getitem.lookup hs (ld_glob I hg hm (thn (hi pins s σ H _ I h) fun iv s1 ⟨y, H1, I1, ry, k, v, ey, l, q⟩ => ?_) hd)
  subst ey
  obtain ⟨vs, rel, dd⟩ := D.ok _ I1.kIn
  obtain ⟨w', hw, rw'⟩ := RelO.some_of (v := v) (o := valueAt vs k) (by rw [← l]; exact rel.val k)
  exact ⟨dd.typeIs, wpAny_getItem_of (kV_is ry) dd.mapOf hw ⟨v, H1, I1.tok _, rw', q⟩⟩
end
end L2
set_option Elab.async false
set_option linter.all false
set_option maxRecDepth 100000
set_option maxHeartbeats 2000000
namespace L2
open PySem PySem.Spec PyProof.Rows
open PySem.W (WData Codec OpenSpec Well WellAll ReadsW ReadsAllW)
mutual
inductive Dw (K : PySem.W.Frag) (H : Hp) : V → WData → Prop
  | non : Dw K H .non .none
  | bl (b : Bool) : Dw K H (.bl b) (.bool b)
  | int (i : Int) : Dw K H (.int i) (.int i)
  | str (x : Str) : Dw K H (.str x) (.str x)
  | byt (b : Array UInt8) : Dw K H (.byt b) (.bytes b.toList)
  | lst {a : Addr} {xs : List V} {ds : List WData} : SqL K H a xs → DwAll K H xs ds → Dw K H (.ref a) (.list ds)
  | tup {a : Addr} {xs : List V} {ds : List WData} : SqT K H a xs → DwAll K H xs ds → Dw K H (.ref a) (.tuple ds)
inductive DwAll (K : PySem.W.Frag) (H : Hp) : List V → List WData → Prop
  | nil : DwAll K H [] []
  | cons {v : V} {vs : List V} {d : WData} {ds : List WData} : Dw K H v d → DwAll K H vs ds → DwAll K H (v :: vs) (d :: ds)
end
theorem dw_ints {K : PySem.W.Frag} {H : Hp} : ∀ ns : List Int, DwAll K H (ns.map V.int) (ns.map WData.int)
  | [] => .nil
  | n :: r => .cons (.int n) (dw_ints r)
theorem ints_dw {K : PySem.W.Frag} {H : Hp} : ∀ (ns : List Int) (xs : List V), DwAll K H xs (ns.map WData.int) → xs = ns.map V.int
  | [], xs, h => by
    cases h
    rfl
  | n :: r, xs, h => by
    cases h with
    | cons h1 h2 =>
      cases h1
      rw [ints_dw r _ h2] <;> rfl
section
variable {P : Program} {w : World} {K : PySem.W.Frag} {H : Hp} {h : Heap} {R : PySem.W.WRecords} {cl : Str → Option Addr}
theorem sqL_at {a : Addr} {xs : List V} (hok : HOk P w H h) (KX : K.In h) (q : SqL K H a xs) : ∃ (its : List Value) (o : Obj) (n : Nat), Vals xs its ∧ h.get? a = some o ∧ o.cls = .type "list" ∧ o.data = .seq its.toArray n := by
  rcases q with q | ⟨o, its, n, e, hc, _, hd, _, hv⟩
  · obtain ⟨_, its, n, hv, e⟩ := (show ObjOk P w H h a (.lst xs) from q.ok hok)
    exact ⟨its, _, n, hv, e, rfl, rfl⟩
  · exact ⟨its.toList, o, n, hv, KX _ _ e, hc, by simp [hd]⟩
theorem sqT_at {a : Addr} {xs : List V} (hok : HOk P w H h) (KX : K.In h) (q : SqT K H a xs) : ∃ (its : List Value) (o : Obj) (n : Nat), Vals xs its ∧ h.get? a = some o ∧ o.cls = .type "tuple" ∧ o.data = .seq its.toArray n := by
  rcases q with q | ⟨o, its, n, e, hc, hd, _, hv⟩
  · obtain ⟨_, its, hv, o, e, hc, n, hd⟩ := (show ObjOk P w H h a (.tup xs) from q.ok hok)
    exact ⟨its, o, n, hv, e, hc, hd⟩
  · exact ⟨its.toList, o, n, hv, KX _ _ e, hc, by simp [hd]⟩
mutual
theorem Dw.reads (hok : HOk P w H h) (KX : K.In h) : ∀ (d : WData) (v : V) (u : Value), Dw K H v d → RelV v u → ∃ as, ReadsW R cl h u d as
  | .none, _, _, x, r => by
    cases x
    cases r
    exact ⟨_, ReadsW.none⟩
  | .bool b, _, _, x, r => by
    cases x
    cases r
    exact ⟨_, ReadsW.bool b⟩
  | .int i, _, _, x, r => by
    cases x
    obtain ⟨t, rfl⟩ := r
    exact ⟨_, ReadsW.int i t⟩
  | .str s, _, _, x, r => by
    cases x
    obtain ⟨t, rfl⟩ := r
    exact ⟨_, ReadsW.str s t⟩
  | .bytes b, _, _, x, r => by
    cases x
    obtain ⟨t, rfl⟩ := r
    exact ⟨_, ReadsW.bytes _ t⟩
  | .list ds, _, _, x, r => by
    cases x with
    | lst hs ha =>
      cases r
      obtain ⟨its, o, n, rv, ho, hc, hd⟩ := sqL_at hok KX hs
      obtain ⟨as, hr⟩ := Dw.readsAll hok KX ds _ its ha rv
      exact ⟨_, ReadsW.list ho hc hd hr⟩
  | .tuple ds, _, _, x, r => by
    cases x with
    | tup hs ha =>
      cases r
      obtain ⟨its, o, n, rv, ho, hc, hd⟩ := sqT_at hok KX hs
      obtain ⟨as, hr⟩ := Dw.readsAll hok KX ds _ its ha rv
      exact ⟨_, ReadsW.tuple ho hc hd hr⟩
  | .float _, _, _, x, _ => by cases x
  | .dict _, _, _, x, _ => by cases x
  | .bytearray _, _, _, x, _ => by cases x
  | .set _, _, _, x, _ => by cases x
  | .frozenset _, _, _, x, _ => by cases x
  | .obj _ _, _, _, x, _ => by cases x
theorem Dw.readsAll (hok : HOk P w H h) (KX : K.In h) : ∀ (ds : List WData) (vs : List V) (us : List Value), DwAll K H vs ds → Vals vs us → ∃ as, ReadsAllW R cl h us ds as
  | [], _, _, x, r => by
    cases x
    cases r
    exact ⟨_, ReadsAllW.nil⟩
  | d :: ds, _, _, x, r => by
    cases x with
    | cons h1 h2 =>
      cases r with
      | cons r1 r2 =>
        obtain ⟨as, q1⟩ := Dw.reads hok KX d _ _ h1 r1
        obtain ⟨bs, q2⟩ := Dw.readsAll hok KX ds _ _ h2 r2
        exact ⟨_, ReadsAllW.cons q1 q2⟩
end
end
mutual
noncomputable def plW : WData → Bool
  | .none => true
  | .bool _ => true
  | .int _ => true
  | .str _ => true
  | .bytes _ => true
  | .list xs => plWs xs
  | .tuple xs => plWs xs
  | _ => false
noncomputable def plWs : List WData → Bool
  | [] => true
  | x :: r => plW x && plWs r
end
theorem plWs_map {α : Type} {f : α → WData} (h : ∀ a, plW (f a) = true) : ∀ l : List α, plWs (l.map f) = true
  | [] => rfl
  | x :: r => by
    show (plW (f x) && plWs (r.map f)) = true
    rw [h x, plWs_map h r] <;> rfl
theorem pl_enc : ∀ (c : Codec) (a : c.denote), plW (c.enc a) = true
  | .unit, _ => rfl
  | .bool, _ => rfl
  | .int _ _, _ => rfl
  | .nat _ _, _ => rfl
  | .u8, _ => rfl
  | .bytes _ _, _ => rfl
  | .text _ _ _ _, _ => rfl
  | .list _ _ c, a => plWs_map (fun x => pl_enc c x) a
  | .pair c d, a => by
    show (plW (c.enc a.1) && (plW (d.enc a.2) && true)) = true
    rw [pl_enc c a.1, pl_enc d a.2] <;> rfl
  | .triple c d e, a => by
    show (plW (c.enc a.1) && (plW (d.enc a.2.1) && (plW (e.enc a.2.2) && true))) = true
    rw [pl_enc c a.1, pl_enc d a.2.1, pl_enc e a.2.2] <;> rfl
  | .option c, none => rfl
  | .option c, some x => pl_enc c x
theorem pl_encAll : ∀ (cs : List Codec) (a : Codec.denoteAll cs), plWs (Codec.encAll cs a) = true
  | [], _ => rfl
  | c :: cs, a => by
    show (plW (c.enc a.1) && plWs (Codec.encAll cs a.2)) = true
    rw [pl_enc c a.1, pl_encAll cs a.2] <;> rfl
theorem weight_mem : ∀ {xs : List WData} {d : WData}, d ∈ xs → d.weight ≤ WData.weightAll xs
  | [], d, h => absurd h (by simp)
  | x :: r, d, h => by
    show d.weight ≤ x.weight + 1 + WData.weightAll r
    rcases List.mem_cons.mp h with e | m
    · rw [e]
      omega
    · have z := weight_mem m
      omega
noncomputable def toV : Value → V
  | .none => .non
  | .bool b => .bl b
  | .int i _ => .int i
  | .str x _ => .str x
  | .bytes b _ => .byt b
  | .ref a => .ref a
  | _ => .non
noncomputable def OkU (A : List Addr) : Value → Prop
  | .none => True
  | .bool _ => True
  | .int _ _ => True
  | .str _ _ => True
  | .bytes _ _ => True
  | .ref a => a ∈ A
  | _ => False
theorem OkU.mono {A B : List Addr} (h : ∀ a ∈ A, a ∈ B) : ∀ {u : Value}, OkU A u → OkU B u := fun {u} x => by
  cases u with
  | ref a => exact h a x
  | none => trivial
  | bool b => trivial
  | int i t => trivial
  | str s t => trivial
  | bytes b t => trivial
  | _ => exact False.elim x
theorem relV_toV {A : List Addr} {u : Value} (x : OkU A u) : RelV (toV u) u := by
  cases u with
  | ref a => rfl
  | none => rfl
  | bool b => rfl
  | int i t => exact ⟨t, rfl⟩
  | str s t => exact ⟨t, rfl⟩
  | bytes b t => exact ⟨t, rfl⟩
  | _ => exact False.elim x
theorem vals_toV {A : List Addr} : ∀ {vs : List Value}, (∀ u ∈ vs, OkU A u) → Vals (vs.map toV) vs
  | [], _ => .nil
  | u :: r, h => .cons (relV_toV (h u (List.mem_cons_self ..))) (vals_toV fun x hx => h x (List.mem_cons_of_mem _ hx))
noncomputable def ArgOb (h : Heap) (A : List Addr) (a : Addr) : Prop := ∃ vs : List Value, vs.length ≤ sizeLine ∧ (∀ u ∈ vs, OkU A u) ∧
  (h.get? a = some { cls := .type "list", data := .seq vs.toArray } ∨ h.get? a = some { cls := .type "tuple", data := .seq vs.toArray })
theorem ArgOb.mono {h : Heap} {A B : List Addr} {a : Addr} (k : ∀ a ∈ A, a ∈ B) (x : ArgOb h A a) : ArgOb h B a := by
  obtain ⟨vs, h1, h2, h3⟩ := x
  exact ⟨vs, h1, fun u hu => (h2 u hu).mono k, h3⟩
theorem wellAll_len {P : Params} {h : Heap} : ∀ {vs : List Value} {ds : List WData}, WellAll P h vs ds → vs.length = ds.length
  | _, _, .nil => rfl
  | _, _, .cons _ b => by
    show _ + 1 = _ + 1
    rw [wellAll_len b]
theorem well_list {P : Params} {h : Heap} {v : Value} {ds : List WData} (x : Well P h v (.list ds)) : ∃ (a : Addr) (vs : List Value), v = .ref a ∧ h.get? a = some { cls := .type "list", data := .seq vs.toArray } ∧ WellAll P h vs ds := by
  cases x with
  | list ho hall => exact ⟨_, _, rfl, ho, hall⟩
theorem well_tuple {P : Params} {h : Heap} {v : Value} {ds : List WData} (x : Well P h v (.tuple ds)) : ∃ (a : Addr) (vs : List Value), v = .ref a ∧ h.get? a = some { cls := .type "tuple", data := .seq vs.toArray } ∧ WellAll P h vs ds := by
  cases x with
  | tuple ho hall => exact ⟨_, _, rfl, ho, hall⟩
theorem well_cons {P : Params} {h : Heap} {us : List Value} {d : WData} {ds : List WData} (x : WellAll P h us (d :: ds)) : ∃ (v : Value) (vs : List Value), us = v :: vs ∧ Well P h v d ∧ WellAll P h vs ds := by
  cases x with
  | cons a b => exact ⟨_, _, rfl, a, b⟩
theorem line_of {n : Nat} (h : n ≤ 1048576) : n ≤ sizeLine := Nat.le_trans h (by decide)
section
variable {P : Params} {h : Heap}
mutual
theorem area_one : ∀ (d : WData) (v : Value), Well P h v d → plW d = true → d.weight ≤ 1048576 → ∃ A : List Addr, OkU A v ∧ ∀ a ∈ A, ArgOb h A a
  | .none, _, x, _, _ => by
    cases x
    exact ⟨[], trivial, fun a m => absurd m (by simp)⟩
  | .bool b, _, x, _, _ => by
    cases x
    exact ⟨[], trivial, fun a m => absurd m (by simp)⟩
  | .int i, _, x, _, _ => by
    cases x
    exact ⟨[], trivial, fun a m => absurd m (by simp)⟩
  | .str s, _, x, _, _ => by
    cases x
    exact ⟨[], trivial, fun a m => absurd m (by simp)⟩
  | .bytes b, _, x, _, _ => by
    cases x
    exact ⟨[], trivial, fun a m => absurd m (by simp)⟩
  | .list ds, _, x, p, z => by
    obtain ⟨a, vs, rfl, ho, hall⟩ := well_list x
    have z2 : WData.weightAll ds ≤ 1048576 := z
    obtain ⟨A, h1, h2⟩ := area_all ds _ hall p fun d hd => Nat.le_trans (weight_mem hd) z2
    have k : ∀ b ∈ A, b ∈ a :: A := fun b hb => List.mem_cons_of_mem _ hb
    refine ⟨a :: A, List.mem_cons_self .., fun b hb => ?_⟩
    rcases List.mem_cons.mp hb with e | m
    · rw [e]
      exact ⟨vs, line_of (by rw [wellAll_len hall]; exact Nat.le_trans (PySem.W.length_le_weightAllW ds) z2), fun u hu => (h1 u hu).mono k, .inl ho⟩
    · exact (h2 b m).mono k
  | .tuple ds, _, x, p, z => by
    obtain ⟨a, vs, rfl, ho, hall⟩ := well_tuple x
    have z2 : WData.weightAll ds ≤ 1048576 := z
    obtain ⟨A, h1, h2⟩ := area_all ds _ hall p fun d hd => Nat.le_trans (weight_mem hd) z2
    have k : ∀ b ∈ A, b ∈ a :: A := fun b hb => List.mem_cons_of_mem _ hb
    refine ⟨a :: A, List.mem_cons_self .., fun b hb => ?_⟩
    rcases List.mem_cons.mp hb with e | m
    · rw [e]
      exact ⟨vs, line_of (by rw [wellAll_len hall]; exact Nat.le_trans (PySem.W.length_le_weightAllW ds) z2), fun u hu => (h1 u hu).mono k, .inr ho⟩
    · exact (h2 b m).mono k
  | .float _, _, _, p, _ => Bool.noConfusion (show false = true from p)
  | .dict _, _, _, p, _ => Bool.noConfusion (show false = true from p)
  | .bytearray _, _, _, p, _ => Bool.noConfusion (show false = true from p)
  | .set _, _, _, p, _ => Bool.noConfusion (show false = true from p)
  | .frozenset _, _, _, p, _ => Bool.noConfusion (show false = true from p)
  | .obj _ _, _, _, p, _ => Bool.noConfusion (show false = true from p)
theorem area_all : ∀ (ds : List WData) (vs : List Value), WellAll P h vs ds → plWs ds = true → (∀ d ∈ ds, d.weight ≤ 1048576) → ∃ A : List Addr, (∀ u ∈ vs, OkU A u) ∧ ∀ a ∈ A, ArgOb h A a
  | [], _, x, _, _ => by
    cases x
    exact ⟨[], fun u m => absurd m (by simp), fun a m => absurd m (by simp)⟩
  | d :: ds, _, x, p, z => by
    obtain ⟨v, vs, rfl, x1, x2⟩ := well_cons x
    have q : plW d = true ∧ plWs ds = true := Bool.and_eq_true_iff.mp p
    obtain ⟨A, a1, a2⟩ := area_one d v x1 q.1 (z d (List.mem_cons_self ..))
    obtain ⟨B, b1, b2⟩ := area_all ds vs x2 q.2 fun e he => z e (List.mem_cons_of_mem _ he)
    have kA : ∀ b ∈ A, b ∈ A ++ B := fun b hb => List.mem_append.mpr (.inl hb)
    have kB : ∀ b ∈ B, b ∈ A ++ B := fun b hb => List.mem_append.mpr (.inr hb)
    refine ⟨A ++ B, fun u hu => ?_, fun b hb => ?_⟩
    · rcases List.mem_cons.mp hu with e | m
      · rw [e]
        exact a1.mono kA
      · exact (b1 u m).mono kB
    · rcases List.mem_append.mp hb with m | m
      · exact (a2 b m).mono kA
      · exact (b2 b m).mono kB
end
end
noncomputable def hoOf (o : Obj) : Option HO := match o.data with
  | .seq vs _ => if (o.cls == Value.type "list") = true then some (.frz o (.lst (vs.toList.map toV))) else some (.frz o (.tup (vs.toList.map toV)))
  | _ => none
noncomputable def argH (K : PySem.W.Frag) (h : Heap) (A : List Addr) : Hp := fun b => if b ∈ A then (if (K.lookup b).isNone = true then (h.get? b).bind hoOf else none) else none
noncomputable def OnlyF (H : Hp) : Prop := ∀ b, H b = none ∨ ∃ o u, H b = some (.frz o u)
theorem hoOf_lst (vs : List Value) : hoOf { cls := .type "list", data := .seq vs.toArray } = some (.frz { cls := .type "list", data := .seq vs.toArray } (.lst (vs.map toV))) := by
  show (if (Value.type "list" == Value.type "list") = true then some (HO.frz { cls := .type "list", data := .seq vs.toArray } (.lst (vs.toArray.toList.map toV))) else some (HO.frz { cls := .type "list", data := .seq vs.toArray } (.tup (vs.toArray.toList.map toV)))) = _
  rw [if_pos (beq_self_eq_true _)]
theorem hoOf_tup (vs : List Value) : hoOf { cls := .type "tuple", data := .seq vs.toArray } = some (.frz { cls := .type "tuple", data := .seq vs.toArray } (.tup (vs.map toV))) := by
  show (if (Value.type "tuple" == Value.type "list") = true then some (HO.frz { cls := .type "tuple", data := .seq vs.toArray } (.lst (vs.toArray.toList.map toV))) else some (HO.frz { cls := .type "tuple", data := .seq vs.toArray } (.tup (vs.toArray.toList.map toV)))) = _
  rw [if_neg (by decide)]
section
variable {P : Program} {w : World} {K : PySem.W.Frag} {h : Heap} {A : List Addr}
theorem argH_at {b : Addr} {o : Obj} (hb : b ∈ A) (hk : K.lookup b = none) (e : h.get? b = some o) : argH K h A b = hoOf o := by
  unfold argH
  rw [if_pos hb, hk, if_pos (show (none : Option Obj).isNone = true from rfl), e] <;> rfl
theorem of_argH {b : Addr} {u : HO} (q : argH K h A b = some u) : b ∈ A ∧ K.lookup b = none := by
  unfold argH at q
  by_cases hb : b ∈ A
  · rw [if_pos hb] at q
    cases hk : K.lookup b with
    | none => exact ⟨hb, rfl⟩
    | some o =>
      rw [hk, if_neg (by simp)] at q
      cases q
  · rw [if_neg hb] at q
    cases q
theorem argH_is (ar : ∀ a ∈ A, ArgOb h A a) {b : Addr} {u : HO} (q : argH K h A b = some u) : K.lookup b = none ∧ ∃ vs : List Value, vs.length ≤ sizeLine ∧ (∀ u ∈ vs, OkU A u) ∧
    ((h.get? b = some { cls := .type "list", data := .seq vs.toArray } ∧ u = .frz { cls := .type "list", data := .seq vs.toArray } (.lst (vs.map toV))) ∨
     (h.get? b = some { cls := .type "tuple", data := .seq vs.toArray } ∧ u = .frz { cls := .type "tuple", data := .seq vs.toArray } (.tup (vs.map toV)))) := by
  obtain ⟨hb, hk⟩ := of_argH q
  obtain ⟨vs, h1, h2, h3⟩ := ar b hb
  refine ⟨hk, vs, h1, h2, ?_⟩
  rcases h3 with e | e
  · rw [argH_at hb hk e, hoOf_lst] at q
    exact .inl ⟨e, (Option.some.inj q).symm⟩
  · rw [argH_at hb hk e, hoOf_tup] at q
    exact .inr ⟨e, (Option.some.inj q).symm⟩
theorem argH_only (ar : ∀ a ∈ A, ArgOb h A a) : OnlyF (argH K h A) := fun b => by
  cases q : argH K h A b with
  | none => exact .inl rfl
  | some u =>
    obtain ⟨_, vs, _, _, ⟨_, e⟩ | ⟨_, e⟩⟩ := argH_is ar q
    · exact .inr ⟨_, _, by rw [e]⟩
    · exact .inr ⟨_, _, by rw [e]⟩
theorem argH_ok (ar : ∀ a ∈ A, ArgOb h A a) : HOk P w (argH K h A) h := fun b u q => by
  obtain ⟨_, vs, h1, h2, ⟨e, rfl⟩ | ⟨e, rfl⟩⟩ := argH_is ar q
  · exact ⟨e, by rw [List.length_map]; exact h1, vs, _, vals_toV h2, e⟩
  · exact ⟨e, by rw [List.length_map]; exact h1, vs, vals_toV h2, _, e, rfl, _, rfl⟩
theorem seq_inj {c c' : Value} {vs us : List Value} (e : (some { cls := c, data := .seq vs.toArray } : Option Obj) = some { cls := c', data := .seq us.toArray }) : c = c' ∧ vs = us := by
  have e1 := Option.some.inj e
  have e2 : c = c' := congrArg Obj.cls e1
  have e3 : Data.seq vs.toArray = Data.seq us.toArray := congrArg Obj.data e1
  injection e3 with e4
  refine ⟨e2, ?_⟩
  have e5 := congrArg Array.toList e4
  simpa using e5
theorem argL (KX : K.In h) (ar : ∀ a ∈ A, ArgOb h A a) {a : Addr} {vs : List Value} (ha : a ∈ A) (e : h.get? a = some { cls := .type "list", data := .seq vs.toArray }) : (∀ u ∈ vs, OkU A u) ∧ SqL K (argH K h A) a (vs.map toV) := by
  obtain ⟨us, h1, h2, h3⟩ := ar a ha
  have hu : us = vs := by
    rcases h3 with q | q
    · rw [e] at q
      exact (seq_inj q).2.symm
    · rw [e] at q
      exact absurd (Value.type.inj (seq_inj q).1) (by decide)
  subst hu
  refine ⟨h2, ?_⟩
  cases hk : K.lookup a with
  | none => exact .inl (.inr ⟨_, by rw [argH_at ha hk e, hoOf_lst]⟩)
  | some o =>
    have e2 := KX a o hk
    rw [e] at e2
    obtain rfl := Option.some.inj e2
    exact .inr ⟨_, us.toArray, _, hk, rfl, rfl, rfl, by rw [List.size_toArray]; exact h1, by simpa using vals_toV h2⟩
theorem argT (KX : K.In h) (ar : ∀ a ∈ A, ArgOb h A a) {a : Addr} {vs : List Value} (ha : a ∈ A) (e : h.get? a = some { cls := .type "tuple", data := .seq vs.toArray }) : (∀ u ∈ vs, OkU A u) ∧ SqT K (argH K h A) a (vs.map toV) := by
  obtain ⟨us, h1, h2, h3⟩ := ar a ha
  have hu : us = vs := by
    rcases h3 with q | q
    · rw [e] at q
      exact absurd (Value.type.inj (seq_inj q).1) (by decide)
    · rw [e] at q
      exact (seq_inj q).2.symm
  subst hu
  refine ⟨h2, ?_⟩
  cases hk : K.lookup a with
  | none => exact .inl (.inr ⟨_, by rw [argH_at ha hk e, hoOf_tup]⟩)
  | some o =>
    have e2 := KX a o hk
    rw [e] at e2
    obtain rfl := Option.some.inj e2
    exact .inr ⟨_, us.toArray, _, hk, rfl, rfl, by rw [List.size_toArray]; exact h1, by simpa using vals_toV h2⟩
mutual
theorem dw_one {Pm : Params} (KX : K.In h) (ar : ∀ a ∈ A, ArgOb h A a) : ∀ (d : WData) (v : Value), Well Pm h v d → plW d = true → OkU A v → Dw K (argH K h A) (toV v) d
  | .none, _, x, _, _ => by
    cases x
    exact .non
  | .bool b, _, x, _, _ => by
    cases x
    exact .bl b
  | .int i, _, x, _, _ => by
    cases x
    exact .int i
  | .str s, _, x, _, _ => by
    cases x
    exact .str s
  | .bytes b, _, x, _, _ => by
    cases x
    have z := Dw.byt (K := K) (H := argH K h A) b.toArray
    exact z
  | .list ds, _, x, p, hu => by
    obtain ⟨a, vs, rfl, ho, hall⟩ := well_list x
    obtain ⟨h2, hs⟩ := argL KX ar hu ho
    exact .lst hs (dw_all KX ar ds _ hall p h2)
  | .tuple ds, _, x, p, hu => by
    obtain ⟨a, vs, rfl, ho, hall⟩ := well_tuple x
    obtain ⟨h2, hs⟩ := argT KX ar hu ho
    exact .tup hs (dw_all KX ar ds _ hall p h2)
  | .float _, _, _, p, _ => Bool.noConfusion (show false = true from p)
  | .dict _, _, _, p, _ => Bool.noConfusion (show false = true from p)
  | .bytearray _, _, _, p, _ => Bool.noConfusion (show false = true from p)
  | .set _, _, _, p, _ => Bool.noConfusion (show false = true from p)
  | .frozenset _, _, _, p, _ => Bool.noConfusion (show false = true from p)
  | .obj _ _, _, _, p, _ => Bool.noConfusion (show false = true from p)
theorem dw_all {Pm : Params} (KX : K.In h) (ar : ∀ a ∈ A, ArgOb h A a) : ∀ (ds : List WData) (vs : List Value), WellAll Pm h vs ds → plWs ds = true → (∀ u ∈ vs, OkU A u) → DwAll K (argH K h A) (vs.map toV) ds
  | [], _, x, _, _ => by
    cases x
    exact .nil
  | d :: ds, _, x, p, hu => by
    obtain ⟨v, vs, rfl, x1, x2⟩ := well_cons x
    have q : plW d = true ∧ plWs ds = true := Bool.and_eq_true_iff.mp p
    exact .cons (dw_one KX ar d v x1 q.1 (hu _ (List.mem_cons_self ..))) (dw_all KX ar ds vs x2 q.2 fun u m => hu u (List.mem_cons_of_mem _ m))
end
end
theorem layable_weight {ds : List WData} (h : WData.layableAll ds = true) : ∀ d ∈ ds, d.weight ≤ 1048576 := fun d hd =>
  (PySem.W.layableW_iff.mp (List.all_eq_true.mp h d hd)).2.2
theorem encAll_len : ∀ (cs : List Codec) (a : Codec.denoteAll cs), (Codec.encAll cs a).length = cs.length
  | [], _ => rfl
  | c :: cs, a => by
    show (Codec.encAll cs a.2).length + 1 = cs.length + 1
    rw [encAll_len cs a.2]
end L2
set_option linter.all false
set_option maxRecDepth 100000
set_option maxHeartbeats 2000000
namespace L2
open PySem PySem.Spec PyProof.Rows
open PySem.W (WData Codec OpenSpec Well WellAll ReadsW ReadsAllW)
end L2
set_option linter.all false
set_option maxRecDepth 100000
set_option maxHeartbeats 2000000
namespace L2
open PySem PySem.Spec PyProof.Rows
open PySem.W (tabObj CodeHd FnAt)
noncomputable def U0 : HO := .ext fun _ => True
noncomputable abbrev lamO (name qual : Str) (params : Arguments) (body : Expr) (scope : Scope) (pm : Value) (c : Addr) (ct : Value) : Obj := PySem.W.kla_obj name qual params body scope [] pm c ct
noncomputable def CodeO (qual : Str) (o : Obj) : Prop := ∃ vs t, o.data = .fields vs ∧ vs[1]? = some (.str qual t)
noncomputable def BB (mg : Str → Option Value) (base : Heap) : Prop := ∃ bm ob, mg "__builtins__" = some (.ref bm) ∧ bm ≠ builtinsNs ∧ base.get? bm = some ob ∧ ob.cls = .type "module" ∧ ob.dict = some builtinsNs ∧ ob.data = .plain
noncomputable def entry3 (pos : Pos) (c : Addr) : Array Value := #[rawInt pos.line, rawInt pos.col, .ref c]
section
variable {X : Cx} {pins : List (Addr × Obj)} {σ : St} {H : Hp} {s : Shared}
theorem u0_ok {P : Program} {w : World} {H : Hp} {h : Heap} {a : Addr} {o : Obj} (e : h.get? a = some o) : ObjOk P w H h a (.frz o U0) := ⟨e, trivial, ⟨o, e⟩, fun _ _ _ _ => trivial⟩
theorem BB.at (hb : BB X.mg X.base) (I : Inv X pins σ H s) {T : Addr} {ps : Array Value} (hT : H T = some (.tbl ps)) : s.heap.BuiltinsAt X.mg T := by
  obtain ⟨bm, ob, b1, b2, b3, b4, b5, b6⟩ := hb
  obtain ⟨e, n⟩ := I.bs _ _ b3
  refine ⟨bm, ob, b1, b2, fun z => ?_, fun z => ?_, e, b4, b5, b6⟩
  · obtain ⟨o, es, ep, e1, hd, _⟩ := I.mod.glob
    rw [z, e1] at b3; cases b3; rw [hd] at b6; cases b6
  · rw [z, hT] at n; cases n
theorem Inv.lam {T c : Addr} {ps more : Array Value} {oc of_ : Obj} {h' : Heap} {t' : Nat} (I : Inv X pins σ H s) (hT : H T = some (.tbl ps)) (hx : Heap.ExtBut T s.heap h') (hc1 : s.heap.objs.size ≤ c) (hc2 : c < h'.objs.size) (hc : h'.get? c = some oc) (ht : h'.get? T = some (tabObj (ps ++ more))) (hfr : of_.isFreed = false) :
    Inv X pins σ (upd (upd (upd H T (.tbl (ps ++ more))) c (.frz oc U0)) h'.objs.size (.frz of_ U0)) { s with heap := h'.push of_, toks := t' } := by
  have hTlt : T < s.heap.objs.size := I.hok.lt hT
  have nTc : T ≠ c := Nat.ne_of_lt (Nat.lt_of_lt_of_le hTlt hc1)
  have nTf : T ≠ h'.objs.size := Nat.ne_of_lt (Nat.lt_trans (Nat.lt_of_lt_of_le hTlt hc1) hc2)
  have ncf : c ≠ h'.objs.size := Nat.ne_of_lt hc2
  have old : ∀ b, b < s.heap.objs.size → b ≠ c ∧ b ≠ h'.objs.size := fun b hb => ⟨Nat.ne_of_lt (Nat.lt_of_lt_of_le hb hc1), Nat.ne_of_lt (Nat.lt_trans (Nat.lt_of_lt_of_le hb hc1) hc2)⟩
  have at_ : ∀ b, b < s.heap.objs.size → b ≠ T → upd (upd (upd H T (.tbl (ps ++ more))) c (.frz oc U0)) h'.objs.size (.frz of_ U0) b = H b := fun b hb n => by
    rw [upd_ne (old b hb).2, upd_ne (old b hb).1, upd_ne n]
  have kp : ∀ b o, b ≠ T → s.heap.get? b = some o → (h'.push of_).get? b = some o := fun b o n e => Heap.get?_push_of_some _ (hx b o n e)
  have nT : ∀ b o, H b = some o → (∀ q, o ≠ .tbl q) → b ≠ T := fun b o e n z => by rw [z, hT] at e; exact n _ (Option.some.inj e).symm
  have nT0 : ∀ b, H b = none → b ≠ T := fun b e z => by rw [z, hT] at e; cases e
  refine I.step (g' := s.gens) (d' := s.drawn) (ch := []) (fun _ z => nomatch z) (fun b o _ _ _ e n => kp b o (nT0 b n) e) (fun b o _ _ _ e n => ⟨o.slots, kp b o (nT0 b n) e⟩) (fun b o _ e n => ?_) (fun b o _ e => ?_) (fun b xs e => ?_) (fun b o u e => ?_) (fun b qs e => ?_) (fun m hm => ?_) (fun b u e => ?_) I.bare
  · rw [at_ b (Heap.lt_size e) (nT0 b n)]; exact n
  · by_cases z : b = T
    · rw [z]; exact ⟨_, Heap.get?_push_of_some _ ht⟩
    · exact ⟨o, kp b o z e⟩
  · rw [at_ b (I.hok.lt e) (nT b _ e fun q z => by cases z)]; exact e
  · rw [at_ b (I.hok.lt e) (nT b _ e fun q z => by cases z)]; exact e
  · by_cases z : b = T
    · subst z
      rw [hT] at e
      cases e
      exact ⟨more, by rw [upd_ne nTf, upd_ne nTc, upd_same]⟩
    · exact ⟨#[], by rw [at_ b (I.hok.lt e) z, e]; simp⟩
  · obtain ⟨o, es, ep, ho, r⟩ := hm
    exact ⟨o, es, ep, kp _ o (nT0 _ I.free) ho, r⟩
  · by_cases z1 : b = h'.objs.size
    · subst z1
      rw [upd_same] at e
      cases e
      exact u0_ok (Heap.get?_push_size _ hfr)
    · rw [upd_ne z1] at e
      by_cases z2 : b = c
      · subst z2
        rw [upd_same] at e
        cases e
        exact u0_ok (Heap.get?_push_of_some _ hc)
      · rw [upd_ne z2] at e
        by_cases z3 : b = T
        · subst z3
          rw [upd_same] at e
          cases e
          exact Heap.get?_push_of_some _ ht
        · rw [upd_ne z3] at e
          have hlt := I.hok.lt e
          refine (I.hok b u e).stay (fun d v hd q => ?_) (fun d q => ?_) fun d xs q => ?_
          · refine kp d v ?_ q
            rcases hd with y | y
            · rw [y]; exact z3
            · exact nT d _ y fun q z => by cases z
          · rw [at_ d (I.hok.lt q) (nT d _ q fun q z => by cases z)]; exact q
          · rw [at_ d (I.hok.lt q) (nT d _ q fun q z => by cases z)]; exact q
noncomputable def FnH (H : Hp) (f : Addr) : Prop := ∃ oc od fd sl u, H f = some (.frz ⟨oc, od, .func fd, sl⟩ u)
noncomputable def FnW (K : PySem.W.Frag) (H : Hp) (f : Addr) : Prop := FnH H f ∨ ∃ oc od fd sl, K.lookup f = some ⟨oc, od, .func fd, sl⟩
noncomputable def tCallV (K : PySem.W.Frag) (sp : Sp) (f : Addr) (E : XK) (i : Nat) (t : TA) : TE := fun σ H Q => σ[i]? = some (some (.ref f)) ∧ FnW K H f ∧ t σ H fun vs H1 => FnW K H1 f ∧ sp vs H1 Q E
theorem pe_callV {CX : CXT} {k : Nat} {f : Addr} {fd : FuncData} {ps : List Str} {sp : Sp} {E : XK} {i : Nat} {x : Str} {p pos : Pos} {e : Expr} {es : List Expr} {t : TA} (F : FnOk X.prog X.w X.K X.mg X.base CX k f fd ps sp) (hr : Room k X.A) (hb : Binds X.K fd ps []) (hx : Passes CX X E)
    (ha : PA X (e :: es) t) (hN : X.N[i]? = some x := by rfl) (hv : Vis X.env.scope x := by first | exact Or.inl rfl | exact Or.inr (Or.inl rfl) | exact Or.inr (Or.inr rfl)) (hd : (x == ("__debug__" : Str)) = false := by decide) (hcd : (x == ("__classdict__" : Str)) = false := by decide)
    (he : starEach (e :: es) X.env = (false, eval e X.env) :: starEach es X.env := by rfl) (hpl : (backTo pos (starEach es X.env)).any (·.1) = false := by rfl) :
    PE X (.Call (.Name x p) (e :: es) [] pos) (tCallV X.K sp f E i t) := by
  intro pins s σ H Q I h
  obtain ⟨h1, h2, h3⟩ := h
  refine wpAny_Call_Name_kw (thn (pe_var hN hv hd hcd pins s σ H (fun v H' => v = .ref f ∧ H' = H) I ⟨_, h1, rfl, rfl⟩) fun v s1 ⟨y, H1, I1, ry, e1, e2⟩ => ?_)
  subst e1
  subst e2
  cases ry
  have fa : ∀ {H' : Hp} {s' : Shared}, Inv X pins σ H' s' → FnW X.K H' f → FnAt f s'.heap := fun I' q => q.elim (fun ⟨oc, od, fd', sl, u, h'⟩ => ⟨oc, od, fd', sl, (I'.hok f _ h').1⟩) fun ⟨oc, od, fd', sl, h'⟩ => ⟨oc, od, fd', sl, I'.bk _ _ (I'.mod.kin _ _ h')⟩
  refine PySem.W.callWith_F (fa I1 h2) (thn (ha pos pins s1 σ H1 _ I1 h3) fun us s2 ⟨vs, H2, I2, r, q⟩ => ⟨fa I2 q.1, ?_⟩) he hpl
  exact run_fn F hr hb .nil hx I2 r (by rw [List.append_nil]; exact q.2)
end
end L2
set_option linter.all false
set_option maxRecDepth 100000
set_option maxHeartbeats 2000000
namespace L2
open PySem PySem.Spec PyProof.Rows
open PySem.W (tabObj CodeHd FnAt TabsAt)
open PySem.W (WData Codec OpenSpec Well WellAll ReadsW ReadsAllW)
noncomputable def LamH (H : Hp) (f : Addr) (fo : Obj) (c : Addr) (oc : Obj) : Prop := H f = some (.frz fo U0) ∧ H c = some (.frz oc U0)
theorem LamH.fn {H : Hp} {f c : Addr} {name qual : Str} {params : Arguments} {body : Expr} {scope : Scope} {pm ct : Value} {oc : Obj} (h : LamH H f (lamO name qual params body scope pm c ct) c oc) : FnH H f := ⟨_, _, _, _, _, h.1⟩
theorem Fun.okC {P : Program} {w : World} {K : PySem.W.Frag} {mg : Str → Option Value} {base : Heap} {x qual : Str} {st : Stmt} {f c : Addr} {fd : FuncData} {N ps : List Str} {k : Nat} {sp : Sp} (F : Fun K x qual st f fd) (hfd : fd.code = .ref c) (S : FnScope N ps (defScope st)) (len : ∀ vs H Q E, sp vs H Q E → vs.length = ps.length)
    (hbody : ∀ (A : Around) (outer : List Env) (s : Shared) (H : Hp) (vs : List V) (Q : VK) (E : XK), Room k (A.deeper (envOfC qual (defScope st) s.heap.objs.size f (.ref c))) → sp vs H Q E →
      ∃ t, PSs (cxOf (CXw P w) P w K mg base N qual (defScope st) f (.ref c) A outer s H E).nox (defBody st) t ∧ t { nx := fun _ H' => Q .non H', rt := Q } (start N vs) H) : FnOk P w K mg base (CXw P w) (k + 1) f fd ps sp := by
  obtain ⟨oc, od, kV, doc, pm, an, cdv, ct, osl, rfl, lk, hcd⟩ := F.ex
  have e : cdv = .ref c := hfd
  subst e
  refine fn_of lk hcd S len fun A outer s H vs Q E hr hsp => ?_
  obtain ⟨t, h, q⟩ := hbody A outer s H vs Q E hr hsp
  exact ⟨t, h.nox, q⟩
noncomputable def argT2 (K : PySem.W.Frag) (h : Heap) (A ts : List Addr) : Hp := fun b => if b ∈ ts then some (.tbl #[]) else argH K h A b
noncomputable def OnlyT (ts : List Addr) (H : Hp) : Prop := (∀ T ∈ ts, H T = some (.tbl #[])) ∧ ∀ b, b ∉ ts → H b = none ∨ ∃ o u, H b = some (.frz o u)
mutual
theorem Dw.same {K : PySem.W.Frag} {H H' : Hp} (s : ∀ b o, H b = some o → H' b = some o) : ∀ (d : WData) (v : V), Dw K H v d → Dw K H' v d
  | .none, _, x => by cases x; exact .non
  | .bool b, _, x => by cases x; exact .bl b
  | .int i, _, x => by cases x; exact .int i
  | .str y, _, x => by cases x; exact .str y
  | .bytes b, _, x => by cases x; exact Dw.byt _
  | .list ds, _, x => by
    cases x with
    | lst h1 h2 => exact .lst (Same.seq s h1) (DwAll.same s ds _ h2)
  | .tuple ds, _, x => by
    cases x with
    | tup h1 h2 =>
      refine .tup ?_ (DwAll.same s ds _ h2)
      rcases h1 with (h | ⟨o, h⟩) | h
      · exact .inl (.inl (s _ _ h))
      · exact .inl (.inr ⟨o, s _ _ h⟩)
      · exact .inr h
  | .float _, _, x => by cases x
  | .dict _, _, x => by cases x
  | .bytearray _, _, x => by cases x
  | .set _, _, x => by cases x
  | .frozenset _, _, x => by cases x
  | .obj _ _, _, x => by cases x
theorem DwAll.same {K : PySem.W.Frag} {H H' : Hp} (s : ∀ b o, H b = some o → H' b = some o) : ∀ (ds : List WData) (vs : List V), DwAll K H vs ds → DwAll K H' vs ds
  | [], _, x => by cases x; exact .nil
  | d :: ds, _, x => by
    cases x with
    | cons h1 h2 => exact .cons (Dw.same s d _ h1) (DwAll.same s ds _ h2)
end
theorem spec_callT {P : Program} {w : World} {K : PySem.W.Frag} {mg mb : Str → Option Value} {k : Nat} {fa : Addr} {fd : FuncData} {ps : List Str} {sp : Sp} {s₁ : Shared} {vals : List Value} {ds : List WData} {R : PySem.W.WRecords} {cl : Str → Option Addr} {d0 : WData} {tabs : List (Addr × Addr)}
    (KX : K.In s₁.heap) (hns : s₁.heap.Ns mainGlobals mg) (hb : s₁.heap.Ns builtinsNs mb) (hbb : ∀ x : Str, x ≠ "__name__" → mb x = bootBuiltins x) (hlim : s₁.heap.NoLimit) (hg : s₁.gens = #[])
    (hT : TabsAt tabs s₁.heap) (hnT : PySem.W.noTabs K = true) (hbm : BB mg s₁.heap)
    (hwl : WellAll w.params s₁.heap vals ds) (hpl : plWs ds = true) (hwt : ∀ d ∈ ds, d.weight ≤ 1048576) (hr : Room k callerA)
    (F : ∀ base : Heap, K.In base → base.Ns mainGlobals mg → BB mg base → (∀ q ∈ tabs, CodeHd base q.1 q.2) → FnOk P w K mg base (CXw P w) k fa fd ps sp) (hbind : ∀ (s : Shared) (us : List Value), us.length = ps.length → BindsTo s fd ⟨us, []⟩ (ps.zip us)) (hlen : ds.length = ps.length)
    (hsp : ∀ (H : Hp) (xs : List V), OnlyT (tabs.map (·.2)) H → DwAll K H xs ds → sp xs H (fun v H' => Dw K H' v d0) fun _ _ _ => False) :
    codeAny (model P w) callerA (.call (.ref fa) ⟨vals, []⟩) (fun r s' => ∃ u as, r = .ok (.ret u) ∧ ReadsW R cl s'.heap u d0 as ∧ OldK s₁.heap s'.heap ∧ s'.os = s₁.os ∧ AllBare s'.gens) s₁ := by
  obtain ⟨A, ho, ar⟩ := area_all ds vals hwl hpl hwt
  have tab : ∀ T ∈ tabs.map (·.2), s₁.heap.get? T = some (tabObj #[]) := fun T h => by
    obtain ⟨q, hq, rfl⟩ := List.mem_map.mp h
    exact (hT q hq).2
  have nA : ∀ b, argH K s₁.heap A b ≠ none → b ∉ tabs.map (·.2) := fun b h z => by
    cases q : argH K s₁.heap A b with
    | none => exact h q
    | some u =>
      have e := tab b z
      obtain ⟨_, vs, _, _, ⟨e2, _⟩ | ⟨e2, _⟩⟩ := argH_is ar q
      · rw [e2] at e; cases e
      · rw [e2] at e; cases e
  have inc : ∀ b u, argH K s₁.heap A b = some u → argT2 K s₁.heap A (tabs.map (·.2)) b = some u := fun b u e => by
    unfold argT2
    rw [if_neg (nA b (by rw [e]; simp))]
    exact e
  have hO : OnlyT (tabs.map (·.2)) (argT2 K s₁.heap A (tabs.map (·.2))) := by
    refine ⟨fun T h => by unfold argT2; rw [if_pos h], fun b h => ?_⟩
    unfold argT2
    rw [if_neg h]
    exact argH_only ar b
  have hok : HOk P w (argT2 K s₁.heap A (tabs.map (·.2))) s₁.heap := fun b u e => by
    by_cases z : b ∈ tabs.map (·.2)
    · unfold argT2 at e
      rw [if_pos z] at e
      cases e
      exact tab b z
    · have e' : argH K s₁.heap A b = some u := by
        unfold argT2 at e
        rw [if_neg z] at e
        exact e
      have nn : ∀ c o, argH K s₁.heap A c = some o → argT2 K s₁.heap A (tabs.map (·.2)) c = some o := inc
      exact (argH_ok (P := P) (w := w) ar b u e').stay (fun _ _ _ q => q) (fun c q => nn _ _ q) fun c xs q => nn _ _ q
  have hS := DwAll.same inc _ _ (dw_all KX ar ds vals hwl hpl ho)
  have hV := vals_toV ho
  have nK : ∀ b o, K.lookup b = some o → argT2 K s₁.heap A (tabs.map (·.2)) b = none := fun b o e => by
    unfold argT2
    by_cases z : b ∈ tabs.map (·.2)
    · have e2 := KX b o e
      rw [tab b z] at e2
      have e3 := Option.some.inj e2
      subst e3
      have h2 := List.all_eq_true.mp hnT (b, tabObj #[]) (PySem.W.mem_of_lookupK e)
      exact absurd (show false = true from h2) Bool.false_ne_true
    · rw [if_neg z]
      cases q : argH K s₁.heap A b with
      | none => rfl
      | some u => rw [(argH_is ar q).1] at e; cases e
  have noA : ∀ {b : Addr} {o : Obj}, s₁.heap.get? b = some o → (∀ vs n, o.data ≠ .seq vs n) → (∀ vs, o.data ≠ .fields vs) ∨ o.cls ≠ .none → argT2 K s₁.heap A (tabs.map (·.2)) b = none := fun {b o} e d1 d2 => by
    unfold argT2
    by_cases z : b ∈ tabs.map (·.2)
    · rw [tab b z] at e
      cases e
      rcases d2 with d2 | d2
      · exact absurd rfl (d2 _)
      · exact absurd rfl d2
    · rw [if_neg z]
      cases q : argH K s₁.heap A b with
      | none => rfl
      | some u =>
        obtain ⟨_, vs, _, _, ⟨e2, _⟩ | ⟨e2, _⟩⟩ := argH_is ar q
        · rw [e2] at e; cases e; exact absurd rfl (d1 _ _)
        · rw [e2] at e; cases e; exact absurd rfl (d1 _ _)
  generalize argT2 K s₁.heap A (tabs.map (·.2)) = H at hO hok hS nK noA
  have base_of : ∀ {b : Addr} {o : Obj}, s₁.heap.get? b = some o → H b = none → (hidT s₁.heap H).get? b = some o := fun e n => hidT_get e n
  have nsK : ∀ {b : Addr} {m : Str → Option Value}, s₁.heap.Ns b m → (hidT s₁.heap H).Ns b m := fun {b m} ⟨o, es, ep, e, d, r⟩ => ⟨o, es, ep, base_of e (noA e (fun vs n z => by rw [d] at z; cases z) (.inl fun vs z => by rw [d] at z; cases z)), d, r⟩
  have hKb : K.In (hidT s₁.heap H) := fun b o e => base_of (KX b o e) (nK b o e)
  have hM : Mod K mg (hidT s₁.heap H) := ⟨hKb, nsK hns, ⟨mb, nsK hb, hbb⟩, let ⟨mc, h1, h2⟩ := hlim; ⟨mc, nsK h1, h2⟩⟩
  have e0 : Env0 P w K mg (hidT s₁.heap H) callerA [] s₁ H := ⟨rfl, hM, fun b o e => of_hidT e, Nat.le_of_eq (hidT_size _ _), trivial, fun b hb => absurd (show b ∈ ([] : List Addr) from hb) (by simp), hok, .of_eq hg⟩
  have hBB : BB mg (hidT s₁.heap H) := by
    obtain ⟨bm, ob, b1, b2, b3, b4, b5, b6⟩ := hbm
    exact ⟨bm, ob, b1, b2, base_of b3 (noA b3 (fun vs n z => by rw [b6] at z; cases z) (.inl fun vs z => by rw [b6] at z; cases z)), b4, b5, b6⟩
  have hCd : ∀ q ∈ tabs, CodeHd (hidT s₁.heap H) q.1 q.2 := fun q hq => by
    obtain ⟨o, vs, file, tf, flags, tg, inF, text, tt, e1, r1, r2, r3⟩ := (hT q hq).1
    exact ⟨o, vs, file, tf, flags, tg, inF, text, tt, base_of e1 (noA e1 (fun us n z => by rw [r2] at z; cases z) (.inr (by rw [r1]; intro z; cases z))), r1, r2, r3⟩
  have hl : vals.length = ps.length := by rw [wellAll_len hwl]; exact hlen
  refine codeAny_mono ((F _ hKb (nsK hns) hBB hCd).run callerA [] s₁ H ⟨vals, []⟩ vals (vals.map toV) _ _ hr e0 (hbind s₁ vals hl) hV (hsp H _ hO hS)) fun r s' x => ?_
  cases r with
  | error e =>
    obtain ⟨_, _, _, _, _, _, _, _, _, _, _, _, y⟩ := x
    exact y.elim
  | ok fl =>
    cases fl with
    | next => exact False.elim x
    | brk => exact False.elim x
    | cont => exact False.elim x
    | ret u =>
      obtain ⟨v, H', os, bare, un, hok', r', q⟩ := x
      have old : ∀ b o, s₁.heap.get? b = some o → asItWas s₁.heap s'.heap b o := fun b o e => by
        by_cases z : b ∈ tabs.map (·.2)
        · obtain ⟨more, e2⟩ := un.tbls b #[] (hO.1 b z)
          have e3 : s'.heap.get? b = some (tabObj (#[] ++ more)) := hok' b _ e2
          rw [tab b z] at e
          cases e
          obtain ⟨qq, hq, rfl⟩ := List.mem_map.mp z
          exact .inr (.inl ⟨((hT qq hq).1.tab (hT qq hq).2).isCodeTable, rfl, #[], more, rfl, e3⟩)
        · refine .inl ?_
          rcases hO.2 b z with y | ⟨ob, u3, y⟩
          · exact un.keep b o e y (by intro z; exact absurd (show b ∈ ([] : List Addr) from z) (by simp)) (by simp)
          · have z2 := un.frzs b ob _ y
            obtain ⟨e1, _⟩ := hok b _ y
            obtain ⟨e2, _⟩ := hok' b _ z2
            rw [e] at e1
            cases e1
            exact e2
      have KX' : K.In s'.heap := fun b o e => un.keep b o (KX b o e) (nK b o e) (by intro z; exact absurd (show b ∈ ([] : List Addr) from z) (by simp)) (by simp)
      obtain ⟨as, hrd⟩ := Dw.reads (R := R) (cl := cl) hok' KX' d0 v u q r'
      refine ⟨u, as, rfl, hrd, ⟨old, fun b o e => ?_⟩, os, bare⟩
      exact un.there b o e (by simp)
theorem tabs_at {p : Program} {loose : List Str} {mean : ExcName → Option Value} {mg mb : Str → Option Value} {h : Heap} {K : PySem.W.Frag} (T : Top p loose mean mg mb h) (X : K.In h) : ∀ {xs : List Str} {tabs : List (Addr × Addr)}, xs.map (PySem.W.tabIn K) = tabs.map some → (xs.all fun x => (recsOf p).any fun e => e.name == x) = true → TabsAt tabs h
  | [], [], _, _ => fun q hq => by cases hq
  | [], _ :: _, e, _ => by cases e
  | _ :: _, [], e, _ => by cases e
  | x :: xs, t :: tabs, e, a => by
    rw [List.all_cons, Bool.and_eq_true] at a
    rw [List.map_cons, List.map_cons] at e
    injection e with e1 e2
    intro q hq
    rcases List.mem_cons.mp hq with z | z
    · rw [z]
      obtain ⟨d, hd, hn⟩ := List.any_eq_true.mp a.1
      cases hf : (recsOf p).find? (fun e => e.name == x) with
      | none =>
        have := List.find?_eq_none.mp hf d hd
        exact absurd hn this
      | some d' => exact PySem.W.tab_of T X hf e1
    · exact tabs_at T X e2 a.2 q z
theorem walk_specT {r : OpenSpec} {k : Nat} {q : Program} {loose : List Str} {XP : (Str → Option Value) → Heap → Prop} {YP : World → Heap → Prop} {d : DefRec} {K : Params → PySem.W.Frag} {ps : List Str} {sp : PySem.W.Frag → Sp} {xs : List Str} {tabs : List (Addr × Addr)}
    (hwell : r.wellSaid = true) (hdf : d.params.defaults = []) (hlen : r.args.length = ps.length) (hr : Room k callerA)
    (hY : ∀ (w : World) (h : Heap), YP w h → (K w.params).In h) (hnT : ∀ P, PySem.W.noTabs (K P) = true) (hxs : ∀ P, xs.map (PySem.W.tabIn (K P)) = tabs.map some) (hrec : (xs.all fun x => (recsOf q).any fun e => e.name == x) = true)
    (F : ∀ (w : World) (mg : Str → Option Value) (fa : Addr) (h : Heap), YP w h → (K w.params).In h → h.Ns mainGlobals mg → mg d.name = some (.ref fa) →
      ∃ fd : FuncData, (∀ (s : Shared) (us : List Value), us.length = ps.length → BindsTo s fd ⟨us, []⟩ (ps.zip us)) ∧
        ∀ base : Heap, (K w.params).In base → base.Ns mainGlobals mg → BB mg base → (∀ q ∈ tabs, CodeHd base q.1 q.2) → FnOk r.prog w (K w.params) mg base (CXw r.prog w) k fa fd ps (sp (K w.params)))
    (hsp : ∀ (P : Params) (H : Hp) (xs : List V) (a : Codec.denoteAll r.args), OnlyT (tabs.map (·.2)) H → Codec.withinAll r.args a = true → Codec.app r.args r.asked a = true → DwAll (K P) H xs (Codec.encAll r.args a) →
      sp (K P) xs H (fun v H' => Dw (K P) H' v (r.ret.enc (Codec.app r.args r.f a))) fun _ _ _ => False) :
    PySem.W.WalkOS q loose XP YP r d [] (fun f vs => PySem.call f vs) := by
  intro w s_0 s₁ mg mb G Y fa o pm cd doc dV kV ho hd hcd hD hmg hg args vals as hpre hlay hrd hwl hlo
  obtain ⟨a, e1, e2⟩ := PySem.W.os_pre_some hpre
  obtain ⟨e3, hwi⟩ := Codec.encAll_of_decAll r.args args a e1
  subst e3
  have KX := hY w _ Y
  obtain ⟨fd, hb, hF⟩ := F w mg fa _ Y KX G.T.g hmg
  have hbm : BB mg s₁.heap := by
    obtain ⟨bm, ob, b1, b2, b3, b4, b5, b6⟩ := G.T.bmain
    exact ⟨bm, ob, b1, b2, b3, b4, b5, b6⟩
  refine PySem.W.enter_call (codeAny_mono (spec_callT (R := []) (cl := classAt s_0.heap) (d0 := r.ret.enc (Codec.app r.args r.f a)) KX G.T.g G.T.b G.T.builtins G.T.nolimit hg (tabs_at G.T KX (hxs w.params) hrec) (hnT w.params) hbm hwl (pl_encAll _ _) (layable_weight hlay) hr hF hb (by rw [encAll_len]; exact hlen)
    (fun H xs hO hS => hsp w.params H xs a hO hwi e2 hS)) fun r' s' hq => ?_)
  obtain ⟨u, as', rfl, h1, h2, h3, h4⟩ := hq
  exact ⟨.inl ⟨u, _, as', rfl, fun _ => rfl, h1, (OpenSpec.post_iff hwell hwi _ _).mpr rfl, fun z => Bool.noConfusion (show false = true from z)⟩, h2, h3, h4⟩
end L2
set_option linter.all false
set_option maxRecDepth 100000
set_option maxHeartbeats 2000000
namespace L2
open PySem PySem.Spec PyProof.Rows
open PySem.W (tabObj CodeHd FnAt TabsAt envX)
noncomputable def del (H : Hp) (c : Addr) : Hp := fun b => if b = c then none else H b
theorem del_same {H : Hp} {c : Addr} : del H c c = none := by unfold del; rw [if_pos rfl]
theorem del_ne {H : Hp} {b c : Addr} (h : b ≠ c) : del H c b = H b := by unfold del; rw [if_neg h]
noncomputable def CellV (o : Obj) (v : V) : Prop := ∃ u, o.data = .cell (some u) ∧ RelV v u
section
variable {P : Program} {w : World} {K : PySem.W.Frag} {mg : Str → Option Value} {base : Heap} {H : Hp} {hp : Heap} {c : Addr} {o : Obj} {u : HO}
theorem HOk.del (h : HOk P w H hp) (hc : H c = some (.frz o u)) : HOk P w (del H c) hp := fun a x e => by
  have ne : a ≠ c := fun z => by rw [z, del_same] at e; cases e
  rw [del_ne ne] at e
  refine (h a x e).stay (fun _ _ _ q => q) (fun b q => ?_) fun b xs q => ?_
  · rw [del_ne (fun z => by rw [z, hc] at q; cases q)]; exact q
  · rw [del_ne (fun z => by rw [z, hc] at q; cases q)]; exact q
theorem HOk.frz (h : HOk P w H hp) (hn : H c = none) (e : hp.get? c = some o) : HOk P w (upd H c (.frz o U0)) hp := fun a x q => by
  by_cases z : a = c
  · subst z
    rw [upd_same] at q
    cases q
    exact u0_ok e
  · rw [upd_ne z] at q
    refine (h a x q).stay (fun _ _ _ q => q) (fun b q => ?_) fun b xs q => ?_
    · rw [upd_ne (fun z => by rw [z, hn] at q; cases q)]; exact q
    · rw [upd_ne (fun z => by rw [z, hn] at q; cases q)]; exact q
variable {A : Around} {outer : List Env} {s s' : Shared} {Q : VK} {ur : Value}
theorem Env0.frz (e0 : Env0 P w K mg base A outer s H) (hn : H c = none) (e : s.heap.get? c = some o) (hb : base.get? c = none) (hf : c ∉ frs outer) : Env0 P w K mg base A outer s (upd H c (.frz o U0)) :=
  ⟨e0.frames, e0.mod, fun b ob q => ⟨(e0.bs b ob q).1, by rw [upd_ne (fun z => by rw [z, hb] at q; cases q)]; exact (e0.bs b ob q).2⟩, e0.bsz, e0.funs, fun b q => by rw [upd_ne (fun z => hf (by rw [← z]; exact q))]; exact e0.frf b q, e0.hok.frz hn e, e0.bare⟩
theorem Env0.del (e0 : Env0 P w K mg base A outer s H) (hc : H c = some (.frz o u)) : Env0 P w K mg base A outer s (del H c) :=
  ⟨e0.frames, e0.mod, fun b ob q => ⟨(e0.bs b ob q).1, by rw [del_ne (fun z => by have := (e0.bs b ob q).2; rw [z, hc] at this; cases this)]; exact (e0.bs b ob q).2⟩, e0.bsz, e0.funs, fun b q => by rw [del_ne (fun z => by have := e0.frf b q; rw [z, hc] at this; cases this)]; exact e0.frf b q, e0.hok.del hc, e0.bare⟩
theorem CE.unfrz (hn : H c = none) (e : s.heap.get? c = some o) (h : CE outer P w (upd H c (.frz o U0)) s (fun v H' => H' c = some (.frz o U0) → Q v (L2.del H' c)) ur s') : CE outer P w H s Q ur s' := by
  obtain ⟨v, H', os, bare, un, hok, r, q⟩ := h
  have hc' : H' c = some (.frz o U0) := un.frzs _ _ _ upd_same
  have up : ∀ {b : Addr}, b ≠ c → upd H c (.frz o U0) b = H b := fun z => upd_ne z
  have ne : ∀ {b : Addr} {x : HO}, H b = some x → b ≠ c := fun q z => by rw [z, hn] at q; cases q
  refine ⟨v, L2.del H' c, os, bare, ⟨fun b ob hq n hf hx => ?_, fun b ob hq n hf hx => ?_, fun b ob q n hx => ?_, fun b ob q hx => un.there b ob q hx, fun b xs q => ?_, fun b ob x q => ?_, fun b ps q => ?_⟩, hok.del hc', r, q hc'⟩
  · by_cases z : b = c
    · rw [z] at hq ⊢
      rw [e] at hq
      cases hq
      exact (hok c _ hc').1
    · exact un.keep b ob hq (by rw [up z]; exact n) hf hx
  · by_cases z : b = c
    · rw [z] at hq ⊢
      rw [e] at hq
      cases hq
      exact ⟨o.slots, (hok c _ hc').1⟩
    · exact un.slot b ob hq (by rw [up z]; exact n) hf hx
  · by_cases z : b = c
    · rw [z]; exact del_same
    · rw [del_ne z]; exact un.free b ob q (by rw [up z]; exact n) hx
  · rw [del_ne (ne q)]; exact un.tups b xs (by rw [up (ne q)]; exact q)
  · rw [del_ne (ne q)]; exact un.frzs b ob x (by rw [up (ne q)]; exact q)
  · rw [del_ne (ne q)]; exact un.tbls b ps (by rw [up (ne q)]; exact q)
theorem CE.frz (hc : H c = some (.frz o U0)) (e : s.heap.get? c = some o) (hf : c ∉ frs outer) (h : CE outer P w (L2.del H c) s (fun v H' => H' c = none → Q v (upd H' c (.frz o U0))) ur s') : CE outer P w H s Q ur s' := by
  obtain ⟨v, H', os, bare, un, hok, r, q⟩ := h
  have hc' : H' c = none := un.free c o e del_same (by simp)
  have e' : s'.heap.get? c = some o := un.keep c o e del_same hf (by simp)
  have ne : ∀ {b : Addr}, H b = none → b ≠ c := fun q z => by rw [z, hc] at q; cases q
  refine ⟨v, upd H' c (.frz o U0), os, bare, ⟨fun b ob q n hf hx => un.keep b ob q (by rw [del_ne (ne n)]; exact n) hf hx, fun b ob q n hf hx => un.slot b ob q (by rw [del_ne (ne n)]; exact n) hf hx, fun b ob q n hx => ?_, fun b ob q hx => un.there b ob q hx, fun b xs q => ?_, fun b ob x hq => ?_, fun b ps q => ?_⟩, hok.frz hc' e', r, q hc'⟩
  · rw [upd_ne (ne n)]; exact un.free b ob q (by rw [del_ne (ne n)]; exact n) hx
  · have z : b ≠ c := fun z => by rw [z, hc] at q; cases q
    rw [upd_ne z]; exact un.tups b xs (by rw [del_ne z]; exact q)
  · by_cases z : b = c
    · rw [z] at hq ⊢
      rw [hc] at hq
      cases hq
      exact upd_same
    · rw [upd_ne z]; exact un.frzs b ob x (by rw [del_ne z]; exact hq)
  · have z : b ≠ c := fun z => by rw [z, hc] at q; cases q
    rw [upd_ne z]; exact un.tbls b ps (by rw [del_ne z]; exact q)
end
noncomputable abbrev lamOC (name qual : Str) (params : Arguments) (body : Expr) (scope : Scope) (cl : List (Str × Addr)) (pm : Value) (c : Addr) (ct : Value) : Obj := PySem.W.kla_obj name qual params body scope cl pm c ct
noncomputable abbrev lamFC (name qual : Str) (params : Arguments) (body : Expr) (scope : Scope) (cl : List (Str × Addr)) (pm : Value) (c : Addr) (ct : Value) : FuncData := PySem.W.kla_fn name qual params body scope cl pm (.ref c) ct
noncomputable def tLamC (name : Str) (T : Addr) (qual : Str) (params : Arguments) (body : Expr) (scope : Scope) (cl : List (Str × Addr)) (pos : Pos) : TE := fun σ H Q => ∃ ps, H T = some (.tbl ps) ∧ TriplesOk ps.toList ∧ codeAmong pos ps.toList = none ∧
  ∀ f c oc ct pm, H f = none → H c = none → f ≠ c → CodeO qual oc → Q (.ref f) (upd (upd (upd H T (.tbl (ps ++ entry3 pos c))) c (.frz oc U0)) f (.frz (lamOC name qual params body scope cl pm c ct) U0))
section
variable {X : Cx}
theorem pe_lamC {c T : Addr} {params : Arguments} {body : Expr} {scope : Scope} {cl : List (Str × Addr)} {pos : Pos} (hc : X.env.code = .ref c) (C : CodeHd X.base c T) (hb : BB X.mg X.base) (hcl : closureFor scope X.env = pure cl) (hdef : defaultsOf params X.env = ([], []) := by rfl) :
    PE X (.Lambda params body scope pos) (tLamC "<lambda>" T (X.env.qual ++ "<lambda>") params body scope cl pos) := by
  intro pins s σ H Q I h
  obtain ⟨ps, hT, ht, hn, q⟩ := h
  have hT' : s.heap.get? T = some (tabObj ps) := I.hok T _ hT
  have hg : s.heap.Ns mainGlobals X.mg := I.mod.glob.keeps I.bk
  have hgP : mainGlobals ≠ T := fun z => by
    obtain ⟨o, es, ep, e, hd, _⟩ := hg
    rw [z, hT'] at e; cases e; cases hd
  refine PySem.W.kla_eval hdef ?_
  refine PySem.W.kla_makeFunction (mg := X.mg) hcl I.ok.glob hg hc (C.keeps I.bk) hT' ht hn hgP (hb.at I hT) fun c' ctv h' tk hx hge hlt hrec htb => ?_
  obtain ⟨c2, oc, vs, t, e2, hoc, hd, hv⟩ := hrec
  cases e2
  have hf : H h'.objs.size = none := I.hok.fresh (Nat.le_of_lt (Nat.lt_of_le_of_lt hge hlt))
  exact ⟨.ref h'.objs.size, _, I.lam hT hx hge hlt hoc htb rfl, rfl, q _ c' oc ctv _ hf (I.hok.fresh hge) (Nat.ne_of_gt hlt) ⟨vs, t, hd, hv⟩⟩
noncomputable def tCallC (i : Nat) (c : Addr) (sp : Sp) (t : TA) : TE := fun σ H Q => t σ H fun vs H1 => ∃ v, σ[i]? = some (some v) ∧ ∀ o, H1 c = none → CellV o v → sp vs (upd H1 c (.frz o U0)) (fun y H' => H' c = some (.frz o U0) → Q y (del H' c)) E0
theorem pe_fnC {k i : Nat} {x y : Str} {c : Addr} {ps : List Str} {sp : Sp} {p pos : Pos} {e : Expr} {es : List Expr} {t : TA} (G : GFn X.prog X.w X.K X.mg X.base x k ps sp) (hr : Room k X.A) (hN : X.N[i]? = some y) (hy : X.env.kindOf y = some .cell) (hc : X.env.cells.lookup y = some c) (hfn : X.fn y = true) (hfr : X.stack = X.env :: X.outer) (hfl : X.env.frame = some X.env.locals) (ha : PA X (e :: es) t) (hg : Gl X x := by rfl) (hdb : (x == ("__debug__" : Str)) = false := by decide)
    (he : starEach (e :: es) X.env = (false, eval e X.env) :: starEach es X.env := by rfl) (hpl : (backTo pos (starEach es X.env)).any (·.1) = false := by rfl) : PE X (.Call (.Name x p) (e :: es) [] pos) (tCallC i c sp t) := by
  obtain ⟨f, fd, hm, hk, F, hb⟩ := G
  intro pins s σ H Q I h
  refine wpAny_Call_Name_kw (ld_glob I hg hm ?_ hdb)
  refine PySem.W.callWith_K (h₀ := X.base) I.ok.mod.kin hk (thn (ha pos pins s σ H _ I h) fun us s1 ⟨vs, H1, I1, r, q⟩ => ⟨I1.kIn, ?_⟩) he hpl
  obtain ⟨v, hv, q⟩ := q
  obtain ⟨m, hns, hl⟩ := id I1.loc
  obtain ⟨u, ru, lk⟩ := hl i y v hN hv (Or.inr (Or.inl hy))
  rcases lk with ⟨kk, _⟩ | ⟨_, c', hc', o, ho, hd⟩
  · rw [hy] at kk; cases kk
  · rw [hc] at hc'
    cases hc'
    have hn : H1 c = none := I1.freeC y c hc
    have hab := I1.ok.cab y c hfn hc
    have hbase : X.base.get? c = none := by
      cases z : X.base.get? c with
      | none => rfl
      | some o' =>
        have h1 := Heap.lt_size z
        have h2 := I1.ok.bsz
        exact absurd (Nat.lt_of_lt_of_le h1 (Nat.le_trans h2 hab)) (Nat.lt_irrefl _)
    have hf : c ∉ frs X.stack := fun z => by
      rw [hfr] at z
      unfold frs at z
      rw [List.filterMap_cons, hfl] at z
      rcases List.mem_cons.mp z with z | z
      · obtain ⟨oL, es', ep, eL, dL, _⟩ := hns
        rw [← z, ho] at eL
        cases eL
        rw [hd] at dL
        cases dL
      · obtain ⟨_, o', ho', _⟩ := I1.ok.funs.mem z
        have h1 := Heap.lt_size ho'
        exact absurd (Nat.lt_of_lt_of_le h1 hab) (Nat.lt_irrefl _)
    have hsp := q o hn ⟨u, hd, ru⟩
    have hlen : (us ++ []).length = ps.length := by rw [List.append_nil, ← r.length]; exact F.len _ _ _ _ hsp
    refine wpAny_call (codeAny_mono (F.run X.A X.stack s1 (upd H1 c (.frz o U0)) ⟨us, []⟩ (us ++ []) vs _ E0 hr (I1.env0.frz hn ho hbase hf) (hb s1 us I1.kIn hlen) (by rw [List.append_nil]; exact r) hsp) fun r s' hq => ?_)
    cases r with
    | error e =>
      obtain ⟨e, C, dx, T, H', rfl, os, bare, un, hok, x, hn, hE⟩ := hq
      exact hE.elim
    | ok fl =>
      cases fl with
      | ret u => exact I1.after (CE.unfrz hn ho hq)
      | next => exact False.elim hq
      | brk => exact False.elim hq
      | cont => exact False.elim hq
end
noncomputable def cxL (P : Program) (w : World) (K : PySem.W.Frag) (mg : Str → Option Value) (base : Heap) (N : List Str) (qual : Str) (scope : Scope) (f : Addr) (cd : Value) (cl : List (Str × Addr)) (A : Around) (outer : List Env) (s : Shared) (H : Hp) : Cx where
  prog := P
  w := w
  K := K
  mg := mg
  base := base
  A := A.deeper (envX qual scope s.heap.objs.size f cd cl)
  N := N
  s_0 := s
  H_0 := H
  env := envX qual scope s.heap.objs.size f cd cl
  outer := outer
  stack := envX qual scope s.heap.objs.size f cd cl :: outer
  ex := []
  calm := true
  fn := fun _ => false
  pn := []
  xe := fun _ _ => False
noncomputable def LamHC (H : Hp) (f : Addr) (fo : Obj) (c : Addr) (oc : Obj) (cc : Addr) (o : Obj) : Prop := H f = some (.frz fo U0) ∧ H c = some (.frz oc U0) ∧ H cc = some (.frz o U0)
theorem lam_okC {P : Program} {w : World} {K : PySem.W.Frag} {mg : Str → Option Value} {base : Heap} {k : Nat} {f c cc : Addr} {name qual : Str} {params : Arguments} {body : Expr} {scope : Scope} {pm ct : Value} {oc o : Obj} {p y : Str} {v : V} {sp : Sp}
    (ho : CodeO qual oc) (hv : CellV o v) (hkind : scope.kind = .function) (hco : scope.isCoroutine = false) (hgen : scope.isGenerator = false) (hcells : ∀ x ∈ scope.names, x.2 ≠ .cell) (hp : scope.names.lookup p = some .local) (hy : scope.names.lookup y = some .free) (hfree : ∀ x, scope.names.lookup x = some .free → x = y) (hpy : p ≠ y)
    (len : ∀ vs H Q E, sp vs H Q E → vs.length = 1)
    (hbody : ∀ (A : Around) (outer : List Env) (s : Shared) (H : Hp) (x : V) (Q : VK), Room k (A.deeper (envX qual scope s.heap.objs.size f (.ref c) [(y, cc)])) → sp [x] H Q E0 →
      ∃ t, PE (cxL P w K mg base [p, y] qual scope f (.ref c) [(y, cc)] A outer s H).nox body t ∧ t [some x, some v] H Q) :
    FnOk P w K mg base (CXw P w) (k + 1) f (lamFC name qual params body scope [(y, cc)] pm c ct) [p] (fun vs H Q E => LamHC H f (lamOC name qual params body scope [(y, cc)] pm c ct) c oc cc o ∧ sp vs (del H cc) (fun x H' => H' cc = none → Q x (upd H' cc (.frz o U0))) E0) := by
  refine ⟨fun vs H Q E h => len vs _ _ _ h.2, fun A outer s H args us vs Q E hr e0 hb r hsp => ?_⟩
  obtain ⟨⟨h1, h2, h3⟩, hsp⟩ := hsp
  have hl := len _ _ _ _ hsp
  obtain ⟨x, rfl⟩ : ∃ x, vs = [x] := by
    cases vs with
    | nil => cases hl
    | cons x q =>
      cases q with
      | nil => exact ⟨x, rfl⟩
      | cons _ _ => cases hl
  obtain ⟨ux, rfl, rx⟩ : ∃ ux, us = [ux] ∧ RelV x ux := by
    cases r with
    | cons r1 r2 =>
      cases r2
      exact ⟨_, rfl, r1⟩
  have hf : s.heap.get? f = some (lamOC name qual params body scope [(y, cc)] pm c ct) := (e0.hok f _ h1).1
  have hc : s.heap.get? c = some oc := (e0.hok c _ h2).1
  have hcc : s.heap.get? cc = some o := (e0.hok cc _ h3).1
  have hfr : cc ∉ frs outer := fun z => by have := e0.frf _ z; rw [h3] at this; cases this
  have hcd : s.heap.CodeRec (.ref c) qual := by
    obtain ⟨cv, t, hd, hv⟩ := ho
    exact ⟨c, oc, cv, t, rfl, hc, hd, hv⟩
  have lim : s.heap.NoLimit := e0.mod.nolimit.keeps fun b o e => (e0.bs b o e).1
  refine PySem.W.kla_callFunE hr.depth hf rfl hco hgen rfl hcd (hb _ _ _ _ ?_)
  refine wpAny_newFunctionEnv hcells (fun z hz => ?_) (fun h' hns hsb => ?_) hkind
  · have z1 : z = (p, ux) := by simpa using hz
    rw [z1]
    exact hp
  have hk : ∀ b ob, s.heap.get? b = some ob → h'.get? b = some ob := fun b ob e => hsb.extBut b ob (Nat.ne_of_lt (Heap.lt_size e)) (Heap.get?_push_of_some _ e)
  refine ⟨lim.keeps hk, ?_⟩
  show codeAny _ _ (.expr body (envX qual scope s.heap.objs.size f (.ref c) [(y, cc)])) _ _
  refine PySem.W.kla_codeExpr ?_
  obtain ⟨t, ht, hq⟩ := hbody A outer s (del H cc) x _ (hr.deeper _) hsp
  have e1 := e0.del h3
  have cl1 : ∀ z cz, ([(y, cc)] : List (Str × Addr)).lookup z = some cz → z = y ∧ cz = cc := fun z cz e => by
    have q := PySem.mem_of_lookup e
    have q : (z, cz) = (y, cc) := by simpa using q
    injection q with q1 q2
    exact ⟨q1, q2⟩
  have cl2 : ([(y, cc)] : List (Str × Addr)).lookup y = some cc := by simp
  obtain ⟨uv, hd, rv⟩ := hv
  have cellN : h'.IsCell cc (some uv) := ⟨o, hk _ _ hcc, hd⟩
  have I : Inv (cxL P w K mg base [p, y] qual scope f (.ref c) [(y, cc)] A outer s (del H cc)) [] [some x, some v] (del H cc) { s with heap := h', toks := s.toks + (([p] : List Str).zip [ux]).length } := by
    refine ⟨⟨e1.mod, hkind, rfl, rfl, Nat.le_refl _, fun a b cz q1 q2 => (cl1 a cz q1).1.trans (cl1 b cz q2).1.symm, fun a q => ?_, fun a cz q _ => (by cases q), fun _ => hr.hd, Around.frames_deeper e1.frames, .inr ⟨rfl, rfl⟩, fun b z => absurd (show b ∈ ([] : List Addr) from z) (by simp), e1.bs, e1.bsz, fun b _ _ z => absurd (show b ∈ ([] : List Addr) from z) (by simp), fun b z => absurd (show b ∈ ([] : List Addr) from z) (by simp), e1.funs, e1.frf⟩,
      rfl, e1.bare, Un.kept hk, ⟨_, hns, fun i z vv q1 q2 q3 => ?_⟩, fun z cz q => ?_, e1.hok.fresh (Nat.le_refl _), fun z cz q => ?_, fun q hq => absurd (show q ∈ ([] : List (Addr × Obj)) from hq) (by simp), e1.hok.kept hk, rfl⟩
    · have q : scope.names.lookup a = some .cell ∨ scope.names.lookup a = some .free := q
      rcases q with q | q
      · exact absurd rfl (hcells _ (PySem.mem_of_lookup q))
      · exact ⟨cc, by rw [hfree a q]; exact cl2⟩
    · match i, q1, q2 with
      | 0, q1, q2 =>
        have q1 : p = z := Option.some.inj q1
        have q2 : x = vv := Option.some.inj (Option.some.inj q2)
        subst q1
        subst q2
        exact ⟨ux, rx, .inl ⟨hp, by simp⟩⟩
      | 1, q1, q2 =>
        have q1 : y = z := Option.some.inj q1
        have q2 : v = vv := Option.some.inj (Option.some.inj q2)
        subst q1
        subst q2
        exact ⟨uv, rv, .inr ⟨.inr hy, cc, cl2, cellN⟩⟩
      | i + 2, q1, q2 => exact absurd q1 (by show ¬ ([] : List Str)[i]? = some z; simp)
    · rw [(cl1 z cz q).2]
      exact ⟨_, cellN⟩
    · rw [(cl1 z cz q).2]
      exact del_same
  refine wpAny_mono (ht.nox [] _ _ _ _ I hq) (fun u s' hs => ?_) fun e s' hs => hs.elim
  obtain ⟨vr, H', J, rv', q⟩ := hs
  exact CE.frz (P := P) (w := w) h3 hcc hfr ⟨vr, H', J.os, J.bare, J.base, J.hok, rv', q⟩
end L2
set_option linter.all false
namespace Mir
open Sg51
noncomputable abbrev Rd := Except Nat (List Node × Bytes)
noncomputable abbrev Rec := Nat → Option Nat → Bool → Bool → Bool → List Node → Bytes → Rd
noncomputable def bl (c : Nat) : Bool := c == 32 || c == 10
noncomputable def after (rec : Rec) (d : Nat) (close : Option Nat) (map : Bool) (l : List Node) (z : Bytes) : Rd :=
  match (blanks z).1 with
  | e :: y => if e = 44 then (if close.isNone = true then .error (y.length + 1) else rec d close map true true l y) else rec d close map false true l z
  | [] => rec d close map false true l z
noncomputable def valueP (rec : Rec) (d : Nat) (u : Bytes) : Except Nat (Node × Bytes) := match u with
  | [] => .error 0
  | o :: w => if o = 91 ∨ o = 123 then (if DEPTH ≤ d then .error u.length else match rec (d + 1) (some (o + 2)) (o == 123) true false [] w with
      | .error e => .error e
      | .ok (m, z) => .ok (.row (o == 123) m, z)) else match atom u with
    | .error e => .error e
    | .ok (a, z) => .ok (.atom a, z)
noncomputable def memberP (rec : Rec) (d : Nat) (close : Option Nat) (map : Bool) (l : List Node) (s : Bytes) : Rd :=
  match keyed map l s with
  | .error e => .error e
  | .ok (k, u) => match valueP rec d u with
    | .error e => .error e
    | .ok (v, z) => after rec d close map (l ++ [under k v]) z
noncomputable def stepP (rec : Rec) (d : Nat) (close : Option Nat) (map may near : Bool) (l : List Node) (s : Bytes) : Rd :=
  match (blanks s).1 with
  | [] => if close.isNone = true ∧ may = false then .ok (l, []) else .error 0
  | c :: r =>
    if c = 35 then
      if (r.drop (r.takeWhile plain).length).head?.getD 10 = 10 then rec d close map may false (l ++ [.note (trimmed (35 :: r.takeWhile plain)) (near && !(blanks s).2)]) (r.drop (r.takeWhile plain).length) else .error (r.drop (r.takeWhile plain).length).length
    else if close = some c then .ok (l, r)
    else if may = false then .error (r.length + 1)
    else memberP rec d close map l (c :: r)
theorem parts_succ (f d : Nat) (close : Option Nat) (map may near : Bool) (l : List Node) (s : Bytes) :
    parts (f + 1) d close map may near l s = stepP (parts f) d close map may near l s := by
  rw [parts]
  unfold stepP memberP valueP after
  cases hb : (blanks s).1 with
  | nil => rfl
  | cons c r =>
    simp only []
    split
    · rfl
    · split
      · rfl
      · split
        · rfl
        · cases hk : keyed map l (c :: r) with
          | error e => rfl
          | ok ku =>
            obtain ⟨k, u⟩ := ku
            cases u with
            | nil => rfl
            | cons o w => rfl
end Mir
set_option linter.all false
namespace Mir
open Sg51
theorem dropWhile_len {α : Type} (p : α → Bool) : ∀ l : List α, (l.dropWhile p).length ≤ l.length
  | [] => Nat.le_refl _
  | a :: r => by
    rw [List.dropWhile_cons]
    split
    · exact Nat.le_trans (dropWhile_len p r) (Nat.le_succ _)
    · exact Nat.le_refl _
theorem blanks_len (s : Bytes) : (blanks s).1.length ≤ s.length := dropWhile_len _ s
theorem string_len : ∀ (r a : Bytes) {b z : Bytes}, string r a = .ok (b, z) → z.length < r.length
  | [], a, b, z, h => by simp [string] at h
  | [c], a, b, z, h => by
    unfold string at h
    split at h
    · cases h; simp
    · split at h <;> cases h
  | c :: e :: r, a, b, z, h => by
    unfold string at h
    split at h
    · cases h; simp
    · split at h
      · split at h
        · have := string_len r _ h
          simp only [List.length_cons]; omega
        · cases h
      · split at h
        · have := string_len (e :: r) _ h
          simp only [List.length_cons] at this ⊢; omega
        · cases h
theorem atom_len {s a z : Bytes} (h : atom s = .ok (a, z)) : z.length < s.length := by
  unfold atom at h
  split at h
  · cases h
  · rename_i c r
    split at h
    · have := string_len _ _ h
      simp only [List.length_cons]; omega
    · split at h
      · rename_i hw
        cases h
        rw [List.dropWhile_cons, if_pos hw]
        have := dropWhile_len wordByte r
        simp only [List.length_cons]; omega
      · cases h
theorem keyed_len {map : Bool} {l : List Node} {s u : Bytes} {k : Option Bytes} (h : keyed map l s = .ok (k, u)) : u.length ≤ s.length := by
  unfold keyed at h
  split at h
  · cases h; exact Nat.le_refl _
  · split at h
    · cases h
    · rename_i b r ha
      have h1 := atom_len ha
      split at h
      · cases h
      · have h2 := blanks_len r
        split at h
        · rename_i c t hb
          rw [hb] at h2
          simp only [List.length_cons] at h2
          split at h
          · cases h
            have := blanks_len t
            omega
          · cases h
        · cases h
noncomputable def Agree (n : Nat) (r1 r2 : Rec) : Prop := ∀ d close map may near l s, s.length < n → r1 d close map may near l s = r2 d close map may near l s
noncomputable def Falls (n : Nat) (r1 : Rec) : Prop := ∀ d close map may near l s m z, s.length < n → r1 d close map may near l s = .ok (m, z) → z.length ≤ s.length
theorem after_agree {n : Nat} {r1 r2 : Rec} (h : Agree n r1 r2) {d : Nat} {close : Option Nat} {map : Bool} {l : List Node} {z : Bytes} (hz : z.length < n) : after r1 d close map l z = after r2 d close map l z := by
  unfold after
  have h2 := blanks_len z
  split
  · rename_i e y hb
    rw [hb] at h2
    simp only [List.length_cons] at h2
    split
    · split
      · rfl
      · exact h _ _ _ _ _ _ _ (by omega)
    · exact h _ _ _ _ _ _ _ hz
  · exact h _ _ _ _ _ _ _ hz
theorem after_falls {n : Nat} {r1 : Rec} (h : Falls n r1) {d : Nat} {close : Option Nat} {map : Bool} {l m : List Node} {z w : Bytes} (hz : z.length < n) (e : after r1 d close map l z = .ok (m, w)) : w.length ≤ z.length := by
  unfold after at e
  have h2 := blanks_len z
  split at e
  · rename_i e' y hb
    rw [hb] at h2
    simp only [List.length_cons] at h2
    split at e
    · split at e
      · cases e
      · have := h _ _ _ _ _ _ _ _ _ (by omega) e
        omega
    · exact h _ _ _ _ _ _ _ _ _ hz e
  · exact h _ _ _ _ _ _ _ _ _ hz e
theorem value_agree {r1 r2 : Rec} {d : Nat} {u : Bytes} (h : Agree u.length r1 r2) : valueP r1 d u = valueP r2 d u := by
  unfold valueP
  split
  · rfl
  · rename_i o w
    split
    · split
      · rfl
      · rw [h _ _ _ _ _ _ w (by simp)]
    · rfl
theorem value_falls {r1 : Rec} {d : Nat} {u z : Bytes} {v : Node} (h : Falls u.length r1) (e : valueP r1 d u = .ok (v, z)) : z.length < u.length := by
  unfold valueP at e
  split at e
  · cases e
  · rename_i o w
    split at e
    · split at e
      · cases e
      · split at e
        · cases e
        · rename_i m z' hm
          cases e
          have := h _ _ _ _ _ _ _ _ _ (by simp) hm
          simp only [List.length_cons]; omega
    · split at e
      · cases e
      · rename_i a z' ha
        cases e
        exact atom_len ha
theorem Agree.mono {n n' : Nat} {r1 r2 : Rec} (h : Agree n r1 r2) (hn : n' ≤ n) : Agree n' r1 r2 := fun _ _ _ _ _ _ _ q => h _ _ _ _ _ _ _ (by omega)
theorem Falls.mono {n n' : Nat} {r1 : Rec} (h : Falls n r1) (hn : n' ≤ n) : Falls n' r1 := fun _ _ _ _ _ _ _ _ _ q => h _ _ _ _ _ _ _ _ _ (by omega)
theorem member_agree {r1 r2 : Rec} {d : Nat} {close : Option Nat} {map : Bool} {l : List Node} {s : Bytes} (h : Agree s.length r1 r2) (hf : Falls s.length r2) : memberP r1 d close map l s = memberP r2 d close map l s := by
  unfold memberP
  split
  · rfl
  · rename_i k u hk
    have hu := keyed_len hk
    rw [value_agree (h.mono hu)]
    split
    · rfl
    · rename_i v z hv
      have := value_falls (hf.mono hu) hv
      exact after_agree h (by omega)
theorem member_falls {r1 : Rec} {d : Nat} {close : Option Nat} {map : Bool} {l m : List Node} {s w : Bytes} (h : Falls s.length r1) (e : memberP r1 d close map l s = .ok (m, w)) : w.length ≤ s.length := by
  unfold memberP at e
  split at e
  · cases e
  · rename_i k u hk
    have hu := keyed_len hk
    split at e
    · cases e
    · rename_i v z hv
      have h1 := value_falls (h.mono hu) hv
      have h2 := after_falls h (by omega) e
      omega
theorem step_agree {r1 r2 : Rec} {d : Nat} {close : Option Nat} {map may near : Bool} {l : List Node} {s : Bytes} (h : Agree s.length r1 r2) (hf : Falls s.length r2) : stepP r1 d close map may near l s = stepP r2 d close map may near l s := by
  have h2 := blanks_len s
  unfold stepP
  split
  · rfl
  · rename_i c r hb
    rw [hb] at h2
    simp only [List.length_cons] at h2
    split
    · split
      · exact h _ _ _ _ _ _ _ (by rw [List.length_drop]; omega)
      · rfl
    · split
      · rfl
      · split
        · rfl
        · exact member_agree (h.mono (by simpa using h2)) (hf.mono (by simpa using h2))
theorem step_falls {r1 : Rec} {d : Nat} {close : Option Nat} {map may near : Bool} {l m : List Node} {s w : Bytes} (h : Falls s.length r1) (e : stepP r1 d close map may near l s = .ok (m, w)) : w.length ≤ s.length := by
  have h2 := blanks_len s
  unfold stepP at e
  split at e
  · split at e
    · cases e; simp
    · cases e
  · rename_i c r hb
    rw [hb] at h2
    simp only [List.length_cons] at h2
    split at e
    · split at e
      · have := h _ _ _ _ _ _ _ _ _ (by rw [List.length_drop]; omega) e
        rw [List.length_drop] at this
        omega
      · cases e
    · split at e
      · cases e; omega
      · split at e
        · cases e
        · have := member_falls (h.mono (by simpa using h2)) e
          simp only [List.length_cons] at this
          omega
theorem parts_fuel : ∀ (n f f' : Nat), n ≤ f → n ≤ f' → Agree n (parts f) (parts f') ∧ Falls n (parts f)
  | 0, _, _, _, _ => ⟨fun _ _ _ _ _ _ _ h => absurd h (Nat.not_lt_zero _), fun _ _ _ _ _ _ _ _ _ h => absurd h (Nat.not_lt_zero _)⟩
  | n + 1, 0, _, h, _ => absurd h (Nat.not_succ_le_zero _)
  | n + 1, _, 0, _, h => absurd h (Nat.not_succ_le_zero _)
  | n + 1, f + 1, f' + 1, h, h' => by
    obtain ⟨a, b⟩ := parts_fuel n f f' (by omega) (by omega)
    have b' := (parts_fuel n f' f (by omega) (by omega)).2
    refine ⟨fun d close map may near l s hs => ?_, fun d close map may near l s m z hs e => ?_⟩
    · rw [parts_succ, parts_succ]
      exact step_agree (a.mono (by omega)) (b'.mono (by omega))
    · rw [parts_succ] at e
      exact step_falls (b.mono (by omega)) e
noncomputable def P : Rec := fun d close map may near l s => parts (s.length + 1) d close map may near l s
theorem P_eq (d : Nat) (close : Option Nat) (map may near : Bool) (l : List Node) (s : Bytes) : P d close map may near l s = stepP P d close map may near l s := by
  show parts (s.length + 1) d close map may near l s = _
  rw [parts_succ]
  refine step_agree (fun d close map may near l s' hs => ?_) (fun d close map may near l s' m z hs e => ?_)
  · exact (parts_fuel (s'.length + 1) s.length (s'.length + 1) (by omega) (by omega)).1 _ _ _ _ _ _ _ (by omega)
  · exact (parts_fuel (s'.length + 1) (s'.length + 1) (s'.length + 1) (by omega) (by omega)).2 _ _ _ _ _ _ _ _ _ (by omega) e
end Mir
set_option linter.all false
namespace Mir
open Sg51
noncomputable def at_ (t : Bytes) (p : Nat) : Nat := (t[p]?).getD 256
noncomputable def skipP (t : Bytes) (p : Nat) : Nat := p + ((t.drop p).takeWhile bl).length
noncomputable def skipB (t : Bytes) (p : Nat) : Bool := ((t.drop p).takeWhile bl).contains 10
noncomputable def wordP (t : Bytes) (p : Nat) : Nat := p + ((t.drop p).takeWhile wordByte).length
noncomputable def slice (t : Bytes) (p q : Nat) : Bytes := (t.drop p).take (q - p)
noncomputable def strE : Bytes → Nat → Except Nat Nat
  | [], p => .error p
  | [c], p => if c = 34 then .ok (p + 1) else if c = 92 then .error (p + 1) else if plain c = true then .error (p + 1) else .error p
  | c :: e :: r, p => if c = 34 then .ok (p + 1) else if c = 92 then (if e = 34 ∨ e = 92 ∨ e = 110 then strE r (p + 2) else .error (p + 1)) else if plain c = true then strE (e :: r) (p + 1) else .error p
noncomputable def comP (t : Bytes) (p : Nat) : Except Nat Nat :=
  if at_ t (p + ((t.drop p).takeWhile plain).length) = 10 ∨ t.length ≤ p + ((t.drop p).takeWhile plain).length then .ok (p + ((t.drop p).takeWhile plain).length) else .error (p + ((t.drop p).takeWhile plain).length)
noncomputable def plainP (t : Bytes) (p : Nat) : Except Nat Nat := if at_ t p = 34 then strE (t.drop (p + 1)) (p + 1) else if wordP t p = p then .error p else .ok (wordP t p)
noncomputable def keyP (t : Bytes) (p : Nat) (seen : List Bytes) : Except Nat (Bytes × Nat) := match plainP t p with
  | .error q => .error q
  | .ok q => if seen.contains (slice t p q) = true then .error p else
    if at_ t (skipP t q) = 58 then .ok (slice t p q, skipP t (skipP t q + 1)) else .error (skipP t q)
theorem drop_cons {t : Bytes} {p : Nat} (h : p < t.length) : t.drop p = at_ t p :: t.drop (p + 1) := by
  rw [List.drop_eq_getElem_cons h]
  congr 1
  unfold at_
  rw [List.getElem?_eq_getElem h]
  rfl
theorem at_end {t : Bytes} {p : Nat} (h : t.length ≤ p) : at_ t p = 256 := by
  unfold at_
  rw [List.getElem?_eq_none h]
  rfl
theorem at_cons {t r : Bytes} {p c : Nat} (h : t.drop p = c :: r) : at_ t p = c ∧ t.drop (p + 1) = r ∧ p < t.length := by
  have hp : p < t.length := by
    have := congrArg List.length h
    rw [List.length_drop, List.length_cons] at this
    omega
  rw [drop_cons hp] at h
  exact ⟨(List.cons.inj h).1, (List.cons.inj h).2, hp⟩
theorem tw_len (p : Nat → Bool) : ∀ l : Bytes, (l.takeWhile p).length ≤ l.length
  | [] => Nat.le_refl _
  | a :: r => by
    rw [List.takeWhile_cons]
    split
    · simp only [List.length_cons]; have := tw_len p r; omega
    · simp
theorem drop_tw (p : Nat → Bool) : ∀ l : Bytes, l.drop (l.takeWhile p).length = l.dropWhile p
  | [] => rfl
  | a :: r => by
    rw [List.takeWhile_cons, List.dropWhile_cons]
    split
    · simp only [List.length_cons, List.drop_succ_cons]; exact drop_tw p r
    · rfl
theorem take_tw (p : Nat → Bool) : ∀ l : Bytes, l.take (l.takeWhile p).length = l.takeWhile p
  | [] => rfl
  | a :: r => by
    rw [List.takeWhile_cons]
    split
    · simp only [List.length_cons, List.take_succ_cons, take_tw p r]
    · rfl
theorem skipP_le {t : Bytes} {p : Nat} (h : p ≤ t.length) : p ≤ skipP t p ∧ skipP t p ≤ t.length := by
  have := tw_len bl (t.drop p)
  rw [List.length_drop] at this
  unfold skipP
  omega
theorem blanks_drop (t : Bytes) (p : Nat) : blanks (t.drop p) = (t.drop (skipP t p), skipB t p) := by
  unfold blanks skipP skipB
  rw [← List.drop_drop]
  exact congrArg (fun x => (x, _)) (drop_tw _ _).symm
theorem wordP_le {t : Bytes} {p : Nat} (h : p ≤ t.length) : p ≤ wordP t p ∧ wordP t p ≤ t.length := by
  have := tw_len wordByte (t.drop p)
  rw [List.length_drop] at this
  unfold wordP
  omega
theorem strE_le : ∀ (r : Bytes) (p : Nat), match strE r p with
    | .error q => p ≤ q ∧ q ≤ p + r.length
    | .ok q => p < q ∧ q ≤ p + r.length
  | [], p => by simp [strE]
  | [c], p => by
    unfold strE
    simp only [List.length_cons, List.length_nil]
    by_cases h1 : c = 34
    · rw [if_pos h1]; simp only; omega
    · rw [if_neg h1]
      by_cases h2 : c = 92
      · rw [if_pos h2]; simp only; omega
      · rw [if_neg h2]
        by_cases h4 : plain c = true
        · rw [if_pos h4]; simp only; omega
        · rw [if_neg h4]; simp only; omega
  | c :: e :: r, p => by
    unfold strE
    by_cases h1 : c = 34
    · rw [if_pos h1]; simp only [List.length_cons]; omega
    · rw [if_neg h1]
      by_cases h2 : c = 92
      · rw [if_pos h2]
        by_cases h3 : e = 34 ∨ e = 92 ∨ e = 110
        · rw [if_pos h3]
          have := strE_le r (p + 2)
          cases hs : strE r (p + 2) <;> rw [hs] at this <;> simp only [List.length_cons] at this ⊢ <;> omega
        · rw [if_neg h3]; simp only [List.length_cons]; omega
      · rw [if_neg h2]
        by_cases h4 : plain c = true
        · rw [if_pos h4]
          have := strE_le (e :: r) (p + 1)
          cases hs : strE (e :: r) (p + 1) <;> rw [hs] at this <;> simp only [List.length_cons] at this ⊢ <;> omega
        · rw [if_neg h4]; simp only [List.length_cons]; omega
theorem string_strE : ∀ (r a : Bytes) (p n : Nat), p + r.length = n → string r a = match strE r p with
    | .error q => .error (n - q)
    | .ok q => .ok (a ++ r.take (q - p), r.drop (q - p))
  | [], a, p, n, h => by
    simp only [string, strE]
    congr 1
    simp only [List.length_nil] at h; omega
  | [c], a, p, n, h => by
    simp only [List.length_cons, List.length_nil] at h
    unfold string strE
    by_cases h1 : c = 34
    · rw [if_pos h1, if_pos h1, h1]
      simp
    · rw [if_neg h1, if_neg h1]
      by_cases h2 : c = 92
      · subst h2
        simp [plain]; omega
      · rw [if_neg h2]
        by_cases h4 : plain c = true
        · rw [if_pos h4, if_pos h4]; simp; omega
        · rw [if_neg h4, if_neg h4]; simp; omega
  | c :: e :: r, a, p, n, h => by
    simp only [List.length_cons] at h
    unfold string strE
    by_cases h1 : c = 34
    · rw [if_pos h1, if_pos h1, h1]
      simp
    · rw [if_neg h1, if_neg h1]
      by_cases h2 : c = 92
      · rw [if_pos h2, if_pos h2]
        by_cases h3 : e = 34 ∨ e = 92 ∨ e = 110
        · rw [if_pos h3, if_pos h3, string_strE r _ (p + 2) n (by omega)]
          have hle := strE_le r (p + 2)
          cases hs : strE r (p + 2) with
          | error q => rfl
          | ok q =>
            rw [hs] at hle
            simp only at hle ⊢
            obtain ⟨k, rfl⟩ : ∃ k, q = p + 2 + k := ⟨q - (p + 2), by omega⟩
            have e1 : p + 2 + k - (p + 2) = k := by omega
            have e2 : p + 2 + k - p = k + 2 := by omega
            rw [e1, e2, h2]
            simp
        · rw [if_neg h3, if_neg h3]; simp; omega
      · rw [if_neg h2, if_neg h2]
        by_cases h4 : plain c = true
        · rw [if_pos h4, if_pos h4, string_strE (e :: r) _ (p + 1) n (by simp only [List.length_cons]; omega)]
          have hle := strE_le (e :: r) (p + 1)
          cases hs : strE (e :: r) (p + 1) with
          | error q => rfl
          | ok q =>
            rw [hs] at hle
            simp only at hle ⊢
            obtain ⟨k, rfl⟩ : ∃ k, q = p + 1 + k := ⟨q - (p + 1), by omega⟩
            have e1 : p + 1 + k - (p + 1) = k := by omega
            have e2 : p + 1 + k - p = k + 1 := by omega
            rw [e1, e2]
            simp
        · rw [if_neg h4, if_neg h4]; simp; omega
theorem plainP_le {t : Bytes} {p : Nat} (h : p ≤ t.length) : match plainP t p with
    | .error q => p ≤ q ∧ q ≤ t.length
    | .ok q => p < q ∧ q ≤ t.length := by
  unfold plainP
  by_cases h1 : at_ t p = 34
  · rw [if_pos h1]
    have hp : p < t.length := by
      by_cases hp : p < t.length
      · exact hp
      · rw [at_end (by omega)] at h1; cases h1
    have := strE_le (t.drop (p + 1)) (p + 1)
    cases hs : strE (t.drop (p + 1)) (p + 1) <;> rw [hs] at this <;> simp only [List.length_drop] at this ⊢ <;> omega
  · rw [if_neg h1]
    have := wordP_le h
    by_cases h2 : wordP t p = p
    · rw [if_pos h2]; simp only; omega
    · rw [if_neg h2]; simp only; omega
theorem atom_plainP {t : Bytes} {p : Nat} (h : p ≤ t.length) : atom (t.drop p) = match plainP t p with
    | .error q => .error (t.length - q)
    | .ok q => .ok (slice t p q, t.drop q) := by
  unfold plainP
  by_cases hp : p < t.length
  · have hd := drop_cons hp
    by_cases h1 : at_ t p = 34
    · rw [if_pos h1]
      unfold atom
      rw [hd, h1]
      simp only [if_true]
      rw [string_strE (t.drop (p + 1)) [34] (p + 1) t.length (by rw [List.length_drop]; omega)]
      have hle := strE_le (t.drop (p + 1)) (p + 1)
      cases hs : strE (t.drop (p + 1)) (p + 1) with
      | error q => rfl
      | ok q =>
        rw [hs] at hle
        simp only at hle ⊢
        obtain ⟨k, rfl⟩ : ∃ k, q = p + 1 + k := ⟨q - (p + 1), by omega⟩
        have e1 : p + 1 + k - (p + 1) = k := by omega
        have e2 : p + 1 + k - p = k + 1 := by omega
        unfold slice
        rw [e1, e2, hd, h1, List.drop_drop]
        simp
    · rw [if_neg h1]
      unfold atom
      rw [hd]
      simp only
      rw [if_neg h1]
      by_cases h2 : wordByte (at_ t p) = true
      · have hne : ¬ wordP t p = p := by
          unfold wordP
          rw [hd, List.takeWhile_cons, if_pos h2, List.length_cons]
          omega
        rw [if_pos h2, if_neg hne, ← hd]
        have e1 : wordP t p - p = ((t.drop p).takeWhile wordByte).length := by unfold wordP; omega
        unfold slice
        simp only
        rw [e1, take_tw, ← drop_tw, List.drop_drop]
        rfl
      · have he : wordP t p = p := by
          unfold wordP
          rw [hd, List.takeWhile_cons, if_neg h2]
          rfl
        rw [if_neg h2, if_pos he]
        simp only [List.length_cons, List.length_drop]
        congr 1
        omega
  · have e : t.drop p = [] := List.drop_eq_nil_of_le (by omega)
    have h1 : ¬ at_ t p = 34 := by rw [at_end (by omega)]; decide
    have h2 : wordP t p = p := by unfold wordP; rw [e]; rfl
    rw [if_neg h1, if_pos h2, e]
    simp only [atom]
    congr 1
    omega
noncomputable def keysOf (l : List Node) : List Bytes := l.filterMap keyOf
theorem any_keys (k : Bytes) : ∀ l : List Node, (l.any fun x => keyOf x == some k) = (keysOf l).contains k
  | [] => rfl
  | x :: r => by
    unfold keysOf
    rw [List.any_cons, List.filterMap_cons, any_keys k r]
    cases hx : keyOf x with
    | none => simp [keysOf]
    | some k' =>
      simp only [List.contains_cons]
      congr 1
      by_cases e : k' = k
      · subst e; simp
      · have e' : ¬ k = k' := fun z => e z.symm
        simp only [Option.some_beq_some]
        exact Bool.beq_comm
theorem keyed_keyP {t : Bytes} {p : Nat} (h : p ≤ t.length) (l : List Node) : keyed true l (t.drop p) = match keyP t p (keysOf l) with
    | .error q => .error (t.length - q)
    | .ok (k, q) => .ok (some k, t.drop q) := by
  unfold keyed keyP
  rw [if_neg (by decide), atom_plainP h]
  have hle := plainP_le h
  cases hp : plainP t p with
  | error q => rfl
  | ok q =>
    rw [hp] at hle
    simp only at hle ⊢
    rw [any_keys]
    by_cases hs : (keysOf l).contains (slice t p q) = true
    · rw [if_pos hs, if_pos hs]
      simp [List.length_drop]
    · rw [if_neg hs, if_neg hs, blanks_drop]
      have hsk := skipP_le (t := t) (p := q) hle.2
      simp only
      by_cases hq : skipP t q < t.length
      · rw [drop_cons hq]
        simp only
        by_cases hc : at_ t (skipP t q) = 58
        · rw [if_pos hc, if_pos hc, blanks_drop]
        · rw [if_neg hc, if_neg hc]
          simp only [List.length_drop]
          congr 1
          omega
      · rw [List.drop_eq_nil_of_le (by omega), if_neg (by rw [at_end (by omega)]; decide)]
        simp only
        congr 1
        omega
theorem keyP_le {t : Bytes} {p : Nat} (h : p ≤ t.length) (seen : List Bytes) : match keyP t p seen with
    | .error q => p ≤ q ∧ q ≤ t.length
    | .ok (_, q) => p < q ∧ q ≤ t.length := by
  unfold keyP
  have hle := plainP_le h
  cases hp : plainP t p with
  | error q => rw [hp] at hle; exact hle
  | ok q =>
    rw [hp] at hle
    simp only at hle ⊢
    have hsk := skipP_le (t := t) (p := q) hle.2
    by_cases hs : seen.contains (slice t p q) = true
    · rw [if_pos hs]; simp only; omega
    · rw [if_neg hs]
      by_cases hc : at_ t (skipP t q) = 58
      · rw [if_pos hc]
        have hq : skipP t q < t.length := by
          by_cases hq : skipP t q < t.length
          · exact hq
          · rw [at_end (by omega)] at hc; cases hc
        have := skipP_le (t := t) (p := skipP t q + 1) hq
        simp only; omega
      · rw [if_neg hc]; simp only; omega
end Mir
set_option linter.all false
namespace Mir
open Sg51
inductive Kd where
  | plain | opening | closing | comment
  deriving DecidableEq
structure Pc where
  kind : Kd
  key : Bytes
  own : Bytes
  length : Nat
  comma : Bool
  filled : Bool
  noted : Bool
  behind : Bool
inductive S where
  | ready | filled | closed
  deriving DecidableEq
structure Lv where
  pi : Nat
  closer : Nat
  st : S
  seen : List Bytes
  last : Option Nat
structure M where
  place : Nat
  obs : List Pc
  lvs : List Lv
noncomputable def keyTold (k : Bytes) : Bytes := if k = [] then [] else k ++ [58, 32]
noncomputable def mk (kind : Kd) (key own : Bytes) : Pc := ⟨kind, key, own, (keyTold key).length + own.length, false, false, false, false⟩
noncomputable def lenOf (obs : List Pc) (i : Nat) : Nat := ((obs[i]?).map (·.length)).getD 0
noncomputable def notedOf (obs : List Pc) (i : Nat) : Bool := ((obs[i]?).map (·.noted)).getD false
noncomputable def addO (obs : List Pc) (pi : Nat) (last : Option Nat) (mi : Nat) : List Pc :=
  let o := match last with
    | some j => (obs.modify j fun w => { w with comma := true }).modify pi fun w => { w with length := w.length + 2 }
    | none => obs
  o.modify pi fun w => { w with length := w.length + lenOf o mi, filled := true, noted := w.noted || notedOf o mi }
noncomputable def readComment (t : Bytes) (m : M) (lv : Lv) (up : List Lv) (le : Bool) : Except Nat M := match comP t m.place with
  | .error q => .error q
  | .ok q => .ok ⟨q, m.obs.modify lv.pi (fun w => { w with noted := true }) ++ [{ mk .comment [] (trimmed (slice t m.place q)) with behind := lv.last.isSome && !le }],
      { lv with st := if lv.st = .filled then .closed else lv.st } :: up⟩
noncomputable def readComma (m : M) (lv : Lv) (up : List Lv) : Except Nat M := if up = [] ∨ lv.st ≠ .filled then .error m.place else .ok ⟨m.place + 1, m.obs, { lv with st := .ready } :: up⟩
noncomputable def readClosing (m : M) (lv : Lv) (up : List Lv) (c : Nat) : Except Nat M := if c ≠ lv.closer then .error m.place else match up with
  | [] => .error m.place
  | par :: rest => .ok ⟨m.place + 1, addO m.obs par.pi par.last lv.pi ++ [mk .closing [] [c]], { par with last := some lv.pi, st := .filled } :: rest⟩
noncomputable def readKey (t : Bytes) (p : Nat) (lv : Lv) : Except Nat (Bytes × Nat × Lv) := if lv.closer = 125 then match keyP t p lv.seen with
    | .error q => .error q
    | .ok (k, q) => .ok (k, q, { lv with seen := lv.seen ++ [k] })
  else .ok ([], p, lv)
noncomputable def readValue (t : Bytes) (obs : List Pc) (k : Bytes) (q : Nat) (lv : Lv) (up : List Lv) : Except Nat M :=
  if at_ t q = 91 ∨ at_ t q = 123 then
    if 40 < up.length + 1 then .error q else
      .ok ⟨q + 1, obs ++ [{ mk .opening k [at_ t q] with length := (keyTold k).length + 2 }], ⟨obs.length, at_ t q + 2, .ready, [], none⟩ :: lv :: up⟩
  else match plainP t q with
    | .error r => .error r
    | .ok r => .ok ⟨r, addO (obs ++ [mk .plain k (slice t q r)]) lv.pi lv.last obs.length, { lv with last := some obs.length, st := .filled } :: up⟩
noncomputable def readMember (t : Bytes) (m : M) (lv : Lv) (up : List Lv) : Except Nat M := if lv.st ≠ .ready then .error m.place else match readKey t m.place lv with
  | .error q => .error q
  | .ok (k, q, lv') => readValue t m.obs k q lv' up
noncomputable def readNext (t : Bytes) (m : M) (le : Bool) : Except Nat M := match m.lvs with
  | [] => .error m.place
  | lv :: up => if at_ t m.place = 35 then readComment t m lv up le else if at_ t m.place = 44 then readComma m lv up
    else if at_ t m.place = 93 ∨ at_ t m.place = 125 then readClosing m lv up (at_ t m.place) else readMember t m lv up
structure G where
  l : List Node
  key : Option Bytes
noncomputable def close (lv : Lv) : Option Nat := if lv.closer = 256 then none else some lv.closer
noncomputable def isMap (lv : Lv) : Bool := lv.closer == 125
noncomputable def outer : List Lv → List G → Bool → Rd → Except Nat (List Node)
  | lv :: up, g :: gs, mp, .ok (m, z) => outer up gs (isMap lv) (after P up.length (close lv) (isMap lv) (g.l ++ [under g.key (.row mp m)]) z)
  | _, _, _, .ok (m, _) => .ok m
  | _, _, _, .error e => .error e
noncomputable def here (t : Bytes) (p : Nat) (lv : Lv) (d : Nat) (l : List Node) (near : Bool) : Rd := match lv.st with
  | .ready => P d (close lv) (isMap lv) true near l (t.drop p)
  | .filled => after P d (close lv) (isMap lv) l (t.drop p)
  | .closed => P d (close lv) (isMap lv) false near l (t.drop p)
noncomputable def W (t : Bytes) : Except Nat (List Node) := outer [] [] false (P 0 none false true false [] t)
noncomputable def ClOk (x : Lv) (xs : List Lv) : Prop := (xs = [] → x.closer = 256) ∧ (xs ≠ [] → x.closer = 93 ∨ x.closer = 125)
noncomputable def KeyOk (x : Lv) (y : G) : Prop := (isMap x = true → ∃ k, y.key = some k ∧ x.seen = keysOf y.l ++ [k]) ∧ (isMap x = false → y.key = none)
noncomputable def Ups : List Lv → List G → Prop
  | [], [] => True
  | x :: xs, y :: ys => ClOk x xs ∧ KeyOk x y ∧ x.st = .ready ∧ Ups xs ys
  | _, _ => False
structure Rel (t : Bytes) (p : Nat) (lv : Lv) (up : List Lv) (g : List Node) (gs : List G) (near : Bool) : Prop where
  place : p ≤ t.length
  deep : up.length ≤ 40
  cl : ClOk lv up
  ups : Ups up gs
  seen : isMap lv = true → lv.seen = keysOf g
  nears : (near = true ∧ lv.last.isSome = true) ∨ (near = false ∧ (lv.last = none ∨ at_ t p = 10 ∨ p = t.length))
  fil : lv.st = .filled → near = true
  eq : outer up gs (isMap lv) (here t p lv up.length g near) = W t
theorem outer_error (up : List Lv) (gs : List G) (mp : Bool) (e : Nat) : outer up gs mp (.error e) = .error e := by
  cases up with
  | nil => rfl
  | cons x xs =>
    cases gs with
    | nil => rfl
    | cons y ys => rfl
theorem outer_ok {x : Lv} {xs : List Lv} {y : G} {ys : List G} {mp : Bool} {m : List Node} {z : Bytes} :
    outer (x :: xs) (y :: ys) mp (.ok (m, z)) = outer xs ys (isMap x) (after P xs.length (close x) (isMap x) (y.l ++ [under y.key (.row mp m)]) z) := rfl
theorem start_rel (t : Bytes) (pi : Nat) : Rel t 0 ⟨pi, 256, .ready, [], none⟩ [] [] [] false := by
  refine ⟨Nat.zero_le _, Nat.zero_le _, ⟨fun _ => rfl, fun h => absurd rfl h⟩, trivial, fun h => ?_, .inr ⟨rfl, .inl rfl⟩, fun h => ?_, ?_⟩
  · cases h
  · cases h
  · rfl
theorem here_shut {t : Bytes} {p : Nat} {lv : Lv} {d : Nat} {l : List Node} {near : Bool} (hs : lv.st ≠ .ready) (hf : lv.st = .filled → near = true) (h44 : at_ t (skipP t p) ≠ 44 ∨ lv.st = .closed) :
    here t p lv d l near = stepP P d (close lv) (isMap lv) false near l (t.drop p) := by
  rw [← P_eq]
  unfold here
  cases h : lv.st with
  | ready => exact absurd h hs
  | closed => rfl
  | filled =>
    simp only
    rw [hf h]
    unfold after
    rw [blanks_drop]
    simp only
    split
    · rename_i e y hb
      have := (at_cons hb).1
      rw [if_neg]
      intro z
      rcases h44 with q | q
      · exact q (this.trans z)
      · rw [h] at q; cases q
    · rfl
theorem here_ready {t : Bytes} {p : Nat} {lv : Lv} {d : Nat} {l : List Node} {near : Bool} (hs : lv.st = .ready) :
    here t p lv d l near = stepP P d (close lv) (isMap lv) true near l (t.drop p) := by
  rw [← P_eq]
  unfold here
  rw [hs]
theorem end_step {t : Bytes} {p : Nat} {lv : Lv} {up : List Lv} {g : List Node} {gs : List G} {near : Bool} (R : Rel t p lv up g gs near) (he : skipP t p = t.length) :
    (up ≠ [] → W t = .error 0) ∧ (up = [] → lv.st = .ready → W t = .error 0) ∧ (up = [] → lv.st ≠ .ready → W t = .ok g) := by
  have hb : (blanks (t.drop p)).1 = [] := by
    rw [blanks_drop]
    simp only
    rw [he]
    exact List.drop_length
  have step : ∀ may, stepP P up.length (close lv) (isMap lv) may near g (t.drop p) = if (close lv).isNone = true ∧ may = false then .ok (g, []) else .error 0 := fun may => by
    unfold stepP
    rw [hb]
  have hh : here t p lv up.length g near = if (close lv).isNone = true ∧ lv.st ≠ .ready then .ok (g, []) else .error 0 := by
    by_cases hr : lv.st = .ready
    · rw [here_ready hr, step]
      simp [hr]
    · rw [here_shut hr R.fil (.inl (by rw [he, at_end (Nat.le_refl _)]; decide)), step]
      simp [hr]
  have e := R.eq
  rw [hh] at e
  refine ⟨fun h => ?_, fun h hr => ?_, fun h hr => ?_⟩
  · have : ¬ (close lv).isNone = true := by
      unfold close
      rcases R.cl.2 h with q | q <;> rw [q] <;> decide
    rw [if_neg (fun z => this z.1), outer_error] at e
    exact e.symm
  · rw [if_neg (fun z => z.2 hr), outer_error] at e
    exact e.symm
  · have hn : (close lv).isNone = true := by
      unfold close
      rw [R.cl.1 h]
      rfl
    rw [if_pos ⟨hn, hr⟩] at e
    subst h
    cases gs with
    | nil => exact e.symm
    | cons y ys => exact e.symm
section
variable {t : Bytes} {p : Nat} {lv : Lv} {up : List Lv} {g : List Node} {gs : List G} {near : Bool}
theorem stepP_at {d : Nat} {cl : Option Nat} {mp may near : Bool} {l : List Node} (hq : skipP t p < t.length) : stepP P d cl mp may near l (t.drop p) =
    if at_ t (skipP t p) = 35 then
      if ((t.drop (skipP t p + 1)).drop ((t.drop (skipP t p + 1)).takeWhile plain).length).head?.getD 10 = 10 then
        P d cl mp may false (l ++ [.note (trimmed (35 :: (t.drop (skipP t p + 1)).takeWhile plain)) (near && !skipB t p)]) ((t.drop (skipP t p + 1)).drop ((t.drop (skipP t p + 1)).takeWhile plain).length)
      else .error ((t.drop (skipP t p + 1)).drop ((t.drop (skipP t p + 1)).takeWhile plain).length).length
    else if cl = some (at_ t (skipP t p)) then .ok (l, t.drop (skipP t p + 1))
    else if may = false then .error (t.length - skipP t p)
    else memberP P d cl mp l (t.drop (skipP t p)) := by
  unfold stepP
  rw [blanks_drop, drop_cons hq]
  simp only [List.length_drop]
  congr 3
  · congr 1; omega
theorem err_of {q : Nat} (R : Rel t p lv up g gs near) (h : here t p lv up.length g near = .error q) : W t = .error q := by
  rw [← R.eq, h, outer_error]
theorem close_ne {c : Nat} (R : ClOk lv up) (h1 : c ≠ 93) (h2 : c ≠ 125) : ¬ close lv = some c := by
  intro h
  unfold close at h
  split at h
  · cases h
  · have e := Option.some.inj h
    by_cases hu : up = []
    · rename_i h3
      exact h3 (R.1 hu)
    · rcases R.2 hu with q | q
      · exact h1 (e.symm.trans q)
      · exact h2 (e.symm.trans q)
theorem member_err {c : Nat} (hq : p < t.length) (hc : at_ t p = c) (h1 : c ≠ 34) (h2 : wordByte c = false) (h3 : c ≠ 91) (h4 : c ≠ 123) {d : Nat} {cl : Option Nat} {mp : Bool} {l : List Node} :
    memberP P d cl mp l (t.drop p) = .error (t.length - p) := by
  have ha : atom (t.drop p) = .error (t.length - p) := by
    unfold atom
    rw [drop_cons hq]
    simp only
    rw [hc, if_neg h1, h2, if_neg (by decide)]
    simp only [List.length_cons, List.length_drop]
    congr 1
    omega
  unfold memberP
  cases mp with
  | true =>
    unfold keyed
    rw [if_neg (by decide), ha]
  | false =>
    unfold keyed
    rw [if_pos rfl]
    simp only
    unfold valueP
    rw [drop_cons hq]
    simp only
    rw [hc, if_neg (fun z => z.elim h3 h4), ← hc, ← drop_cons hq, ha]
theorem comment_step (R : Rel t p lv up g gs near) (hq : skipP t p < t.length) (hc : at_ t (skipP t p) = 35) : match comP t (skipP t p) with
    | .error q => W t = .error (t.length - q) ∧ q ≤ t.length
    | .ok q => Rel t q { lv with st := if lv.st = .filled then .closed else lv.st } up (g ++ [.note (trimmed (slice t (skipP t p) q)) (lv.last.isSome && !skipB t p)]) gs false ∧ skipP t p < q := by
  have hd := drop_cons hq
  have hpl : plain 35 = true := by decide
  have htw : (t.drop (skipP t p)).takeWhile plain = 35 :: (t.drop (skipP t p + 1)).takeWhile plain := by
    rw [hd, hc, List.takeWhile_cons, if_pos hpl]
  have hlen := tw_len plain (t.drop (skipP t p + 1))
  rw [List.length_drop] at hlen
  have hpl2 : skipP t p + ((t.drop (skipP t p)).takeWhile plain).length = skipP t p + 1 + ((t.drop (skipP t p + 1)).takeWhile plain).length := by
    rw [htw, List.length_cons]; omega
  generalize hn : ((t.drop (skipP t p + 1)).takeWhile plain).length = n at hlen hpl2
  have hv : (t.drop (skipP t p + 1)).drop n = t.drop (skipP t p + 1 + n) := List.drop_drop
  have hhd : ((t.drop (skipP t p + 1 + n)).head?.getD 10 = 10) ↔ (at_ t (skipP t p + 1 + n) = 10 ∨ t.length ≤ skipP t p + 1 + n) := by
    by_cases hx : skipP t p + 1 + n < t.length
    · rw [drop_cons hx]
      simp only [List.head?_cons, Option.getD_some]
      omega
    · rw [List.drop_eq_nil_of_le (by omega)]
      simp only [List.head?_nil, Option.getD_none]
      constructor
      · intro _; right; omega
      · intro _; trivial
  -- what the specification does
  have hh : here t p lv up.length g near = stepP P up.length (close lv) (isMap lv) (decide (lv.st = .ready)) near g (t.drop p) := by
    by_cases hr : lv.st = .ready
    · rw [here_ready hr, decide_eq_true hr]
    · rw [here_shut hr R.fil (.inl (by rw [hc]; decide)), decide_eq_false hr]
  rw [stepP_at hq, if_pos hc, hn, hv] at hh
  unfold comP
  rw [hpl2]
  by_cases hok : at_ t (skipP t p + 1 + n) = 10 ∨ t.length ≤ skipP t p + 1 + n
  · rw [if_pos hok]
    rw [if_pos (hhd.mpr hok)] at hh
    simp only
    refine ⟨⟨by omega, R.deep, ⟨R.cl.1, R.cl.2⟩, R.ups, fun h => ?_, .inr ⟨rfl, .inr ?_⟩, fun h => ?_, ?_⟩, by omega⟩
    · rw [keysOf, List.filterMap_append]
      show _ = _ ++ _
      simp only [List.filterMap_cons, keyOf, List.filterMap_nil, List.append_nil]
      exact R.seen h
    · rcases hok with z | z
      · exact .inl z
      · exact .inr (by omega)
    · simp only at h
      split at h
      · cases h
      · rename_i hne
        exact absurd h hne
    · have hsl : slice t (skipP t p) (skipP t p + 1 + n) = 35 :: (t.drop (skipP t p + 1)).takeWhile plain := by
        unfold slice
        have e : skipP t p + 1 + n - skipP t p = ((t.drop (skipP t p)).takeWhile plain).length := by omega
        rw [e, take_tw, htw]
      have hbe : (near && !skipB t p) = (lv.last.isSome && !skipB t p) := by
        rcases R.nears with ⟨a, b⟩ | ⟨a, b⟩
        · rw [a, b]
        · rw [a]
          rcases b with b | b | b
          · rw [b]; rfl
          · have : skipB t p = true := by
              have hp : p < t.length := by
                by_cases hp : p < t.length
                · exact hp
                · rw [at_end (by omega)] at b; cases b
              unfold skipB
              rw [drop_cons hp, b, List.takeWhile_cons, if_pos (by decide)]
              simp
            rw [this]; simp
          · have := skipP_le (t := t) (p := p) R.place
            omega
      have hf : here t (skipP t p + 1 + n) { lv with st := if lv.st = .filled then .closed else lv.st } up.length (g ++ [.note (trimmed (slice t (skipP t p) (skipP t p + 1 + n))) (lv.last.isSome && !skipB t p)]) false
          = here t p lv up.length g near := by
        rw [hh, hsl, hbe]
        unfold here
        cases hst : lv.st with
        | ready => simp [hst]; rfl
        | filled => simp; rfl
        | closed => simp; rfl
      have e := R.eq
      rw [← hf] at e
      exact e
  · rw [if_neg hok]
    rw [if_neg (fun z => hok (hhd.mp z))] at hh
    simp only
    rw [List.length_drop] at hh
    exact ⟨err_of R hh, by omega⟩
theorem comma_step (R : Rel t p lv up g gs near) (hq : skipP t p < t.length) (hc : at_ t (skipP t p) = 44) :
    (up = [] ∨ lv.st ≠ .filled → W t = .error (t.length - skipP t p)) ∧ (up ≠ [] → lv.st = .filled → Rel t (skipP t p + 1) { lv with st := .ready } up g gs true) := by
  have hd := drop_cons hq
  have hcl : ¬ close lv = some 44 := close_ne R.cl (by decide) (by decide)
  have herr : lv.st ≠ .filled → W t = .error (t.length - skipP t p) := fun hf => by
    refine err_of R ?_
    by_cases hr : lv.st = .ready
    · rw [here_ready hr, stepP_at hq, hc, if_neg (by decide), if_neg hcl, if_neg (by decide)]
      exact member_err hq hc (by decide) (by decide) (by decide) (by decide)
    · have h3 : lv.st = .closed := by
        cases h : lv.st with
        | ready => exact absurd h hr
        | filled => exact absurd h hf
        | closed => rfl
      rw [here_shut hr R.fil (.inr h3), stepP_at hq, hc, if_neg (by decide), if_neg hcl, if_pos rfl]
  have haft : lv.st = .filled → here t p lv up.length g near = if (close lv).isNone = true then .error (t.length - skipP t p) else P up.length (close lv) (isMap lv) true true g (t.drop (skipP t p + 1)) := fun hf => by
    unfold here
    rw [hf]
    simp only
    unfold after
    rw [blanks_drop, hd]
    simp only
    rw [hc, if_pos rfl]
    simp only [List.length_drop]
    congr 2
    omega
  refine ⟨fun h => ?_, fun hu hf => ?_⟩
  · rcases h with hu | hf
    · by_cases hf : lv.st = .filled
      · refine err_of R ?_
        rw [haft hf, if_pos]
        unfold close
        rw [R.cl.1 hu]
        rfl
      · exact herr hf
    · exact herr hf
  · have hcn : ¬ (close lv).isNone = true := by
      unfold close
      rcases R.cl.2 hu with q | q <;> rw [q] <;> decide
    have e := haft hf
    rw [if_neg hcn] at e
    refine ⟨by omega, R.deep, R.cl, R.ups, R.seen, .inl ⟨rfl, ?_⟩, fun h => (by cases h), ?_⟩
    · rcases R.nears with ⟨_, b⟩ | ⟨a, _⟩
      · exact b
      · rw [R.fil hf] at a; cases a
    · have e2 := R.eq
      rw [e] at e2
      exact e2
theorem closing_step (R : Rel t p lv up g gs near) (hq : skipP t p < t.length) {c : Nat} (hc : at_ t (skipP t p) = c) (h9 : c = 93 ∨ c = 125) :
    (c ≠ lv.closer → W t = .error (t.length - skipP t p)) ∧ (c = lv.closer → ∃ par rest y ys, up = par :: rest ∧ gs = y :: ys ∧
      Rel t (skipP t p + 1) { par with last := some lv.pi, st := .filled } rest (y.l ++ [under y.key (.row (isMap lv) g)]) ys true) := by
  have hd := drop_cons hq
  have hh : here t p lv up.length g near = stepP P up.length (close lv) (isMap lv) (decide (lv.st = .ready)) near g (t.drop p) := by
    by_cases hr : lv.st = .ready
    · rw [here_ready hr, decide_eq_true hr]
    · rw [here_shut hr R.fil (.inl (by rw [hc]; rcases h9 with z | z <;> rw [z] <;> decide)), decide_eq_false hr]
  have h35 : ¬ c = 35 := by rcases h9 with z | z <;> rw [z] <;> decide
  rw [stepP_at hq, hc, if_neg h35] at hh
  refine ⟨fun hne => err_of R ?_, fun he => ?_⟩
  · have hcl : ¬ close lv = some c := by
      unfold close
      split
      · intro z; cases z
      · intro z; exact hne (Option.some.inj z).symm
    rw [hh, if_neg hcl]
    by_cases hr : lv.st = .ready
    · rw [if_neg (by simp [hr])]
      rcases h9 with z | z <;> subst z
      · exact member_err hq hc (by decide) (by decide) (by decide) (by decide)
      · exact member_err hq hc (by decide) (by decide) (by decide) (by decide)
    · rw [if_pos (by simp [hr])]
  · have hcl : close lv = some c := by
      unfold close
      rw [← he, if_neg (by rcases h9 with z | z <;> rw [z] <;> decide)]
    rw [if_pos hcl] at hh
    have hu : up ≠ [] := fun h => by
      have := R.cl.1 h
      rw [← he] at this
      rcases h9 with z | z <;> rw [z] at this <;> cases this
    cases hup : up with
    | nil => exact absurd hup hu
    | cons par rest =>
      cases hgs : gs with
      | nil =>
        have := R.ups
        rw [hup, hgs] at this
        exact this.elim
      | cons y ys =>
        have U := R.ups
        rw [hup, hgs] at U
        obtain ⟨u1, u2, u3, u4⟩ := U
        have dd := R.deep
        rw [hup, List.length_cons] at dd
        refine ⟨par, rest, y, ys, rfl, rfl, by omega, by omega, u1, u4, fun h => ?_, .inl ⟨rfl, rfl⟩, fun _ => rfl, ?_⟩
        · obtain ⟨k, e1, e2⟩ := u2.1 h
          show par.seen = _
          rw [e2, e1, keysOf, keysOf, List.filterMap_append]
          rfl
        · have e := R.eq
          rw [hh, hup, hgs, outer_ok] at e
          exact e
theorem key_step (R : Rel t p lv up g gs near) (hle : skipP t p ≤ t.length) : keyed (isMap lv) g (t.drop (skipP t p)) = match readKey t (skipP t p) lv with
    | .error q => .error (t.length - q)
    | .ok (k, q, _) => .ok (if isMap lv = true then some k else none, t.drop q) := by
  unfold readKey
  by_cases hm : lv.closer = 125
  · have hm' : isMap lv = true := by unfold isMap; rw [hm]; rfl
    rw [if_pos hm, hm', keyed_keyP hle, R.seen hm']
    cases keyP t (skipP t p) (keysOf g) with
    | error q => rfl
    | ok kq => rfl
  · have hm' : isMap lv = false := by unfold isMap; simp [hm]
    rw [if_neg hm, hm']
    rfl
theorem value_step {u : Nat} (hu : u ≤ t.length) (d : Nat) : valueP P d (t.drop u) =
    if at_ t u = 91 ∨ at_ t u = 123 then (if 40 ≤ d then .error (t.length - u) else match P (d + 1) (some (at_ t u + 2)) (at_ t u == 123) true false [] (t.drop (u + 1)) with
      | .error e => .error e
      | .ok (m, z) => .ok (.row (at_ t u == 123) m, z))
    else match plainP t u with
      | .error q => .error (t.length - q)
      | .ok q => .ok (.atom (slice t u q), t.drop q) := by
  have ha := atom_plainP hu
  unfold valueP
  by_cases hl : u < t.length
  · rw [drop_cons hl]
    simp only [List.length_cons, List.length_drop]
    rw [← drop_cons hl, ha]
    have e : t.length - (u + 1) + 1 = t.length - u := by omega
    rw [e]
    congr 1
    cases plainP t u <;> rfl
  · have e : t.drop u = [] := List.drop_eq_nil_of_le (by omega)
    have e2 : at_ t u = 256 := at_end (by omega)
    rw [e, e2, if_neg (by decide)]
    rw [e] at ha
    simp only [atom] at ha
    cases hp : plainP t u with
    | error q =>
      rw [hp] at ha
      simp only at ha ⊢
      exact congrArg Except.error (Except.error.inj ha)
    | ok q => rw [hp] at ha; cases ha
theorem member_step (R : Rel t p lv up g gs near) (hq : skipP t p < t.length) (h35 : at_ t (skipP t p) ≠ 35) (h44 : at_ t (skipP t p) ≠ 44) (h93 : at_ t (skipP t p) ≠ 93) (h125 : at_ t (skipP t p) ≠ 125) :
    (lv.st ≠ .ready → W t = .error (t.length - skipP t p)) ∧ (lv.st = .ready → match readKey t (skipP t p) lv with
      | .error q => W t = .error (t.length - q) ∧ q ≤ t.length
      | .ok (k, u, lv') => u ≤ t.length ∧ skipP t p ≤ u ∧ (if at_ t u = 91 ∨ at_ t u = 123 then
          (40 < up.length + 1 → W t = .error (t.length - u)) ∧
          (up.length + 1 ≤ 40 → ∀ pi, Rel t (u + 1) ⟨pi, at_ t u + 2, .ready, [], none⟩ (lv' :: up) [] (⟨g, if isMap lv = true then some k else none⟩ :: gs) false)
        else match plainP t u with
          | .error q => W t = .error (t.length - q) ∧ q ≤ t.length
          | .ok q => (∀ j, Rel t q { lv' with last := some j, st := .filled } up (g ++ [under (if isMap lv = true then some k else none) (.atom (slice t u q))]) gs true) ∧ u < q)) := by
  have hcl : ¬ close lv = some (at_ t (skipP t p)) := close_ne R.cl h93 h125
  refine ⟨fun hs => err_of R ?_, fun hs => ?_⟩
  · rw [here_shut hs R.fil (.inl h44), stepP_at hq, if_neg h35, if_neg hcl, if_pos rfl]
  · have hh := here_ready (t := t) (p := p) (lv := lv) (d := up.length) (l := g) (near := near) hs
    rw [stepP_at hq, if_neg h35, if_neg hcl, if_neg (by decide)] at hh
    unfold memberP at hh
    rw [key_step R (by omega)] at hh
    have hkl : match readKey t (skipP t p) lv with
        | .error q => q ≤ t.length
        | .ok (k, q, lv') => skipP t p ≤ q ∧ q ≤ t.length ∧ lv'.pi = lv.pi ∧ lv'.closer = lv.closer ∧ lv'.st = lv.st ∧ lv'.last = lv.last ∧ (isMap lv = true → lv'.seen = lv.seen ++ [k]) := by
      unfold readKey
      by_cases hm : lv.closer = 125
      · rw [if_pos hm]
        have := keyP_le (t := t) (p := skipP t p) (by omega) lv.seen
        cases hk : keyP t (skipP t p) lv.seen with
        | error q => rw [hk] at this; exact this.2
        | ok kq =>
          rw [hk] at this
          obtain ⟨k, q⟩ := kq
          have this : skipP t p < q ∧ q ≤ t.length := this
          exact ⟨Nat.le_of_lt this.1, this.2, rfl, rfl, rfl, rfl, fun _ => rfl⟩
      · rw [if_neg hm]
        exact ⟨Nat.le_refl _, by omega, rfl, rfl, rfl, rfl, fun h => by unfold isMap at h; simp [hm] at h⟩
    cases hk : readKey t (skipP t p) lv with
    | error q =>
      rw [hk] at hh hkl
      exact ⟨err_of R hh, hkl⟩
    | ok kq =>
      obtain ⟨k, u, lv'⟩ := kq
      rw [hk] at hh hkl
      simp only at hh hkl ⊢
      obtain ⟨k1, k2, e1, e2, e3, e4, e5⟩ := hkl
      have em : isMap lv' = isMap lv := by unfold isMap; rw [e2]
      have ec : close lv' = close lv := by unfold close; rw [e2]
      rw [value_step k2] at hh
      refine ⟨k2, k1, ?_⟩
      by_cases hb : at_ t u = 91 ∨ at_ t u = 123
      · rw [if_pos hb]
        rw [if_pos hb] at hh
        have hu : u < t.length := by
          by_cases hu : u < t.length
          · exact hu
          · rw [at_end (by omega)] at hb; rcases hb with z | z <;> cases z
        refine ⟨fun hd => ?_, fun hd pi => ?_⟩
        · rw [if_pos (by omega)] at hh
          exact err_of R hh
        · rw [if_neg (by omega)] at hh
          have hcl' : at_ t u + 2 = 93 ∨ at_ t u + 2 = 125 := by rcases hb with z | z <;> rw [z] <;> simp
          refine ⟨by omega, by simp only [List.length_cons]; omega, ⟨fun h => (by cases h), fun _ => hcl'⟩, ⟨⟨fun h => (by rw [e2]; exact R.cl.1 h), fun h => (by rw [e2]; exact R.cl.2 h)⟩, ⟨fun h => ?_, fun h => ?_⟩, e3.trans hs, R.ups⟩, fun _ => rfl, .inr ⟨rfl, .inl rfl⟩, fun h => (by cases h), ?_⟩
          · rw [em] at h
            exact ⟨k, by simp only; rw [if_pos h], by rw [e5 h, R.seen h]⟩
          · rw [em] at h
            simp only
            rw [h]
            rfl
          · have e := R.eq
            rw [hh] at e
            have en : isMap ⟨pi, at_ t u + 2, .ready, [], none⟩ = (at_ t u == 123) := by
              unfold isMap
              rcases hb with z | z <;> rw [z] <;> rfl
            have ecn : close ⟨pi, at_ t u + 2, .ready, [], none⟩ = some (at_ t u + 2) := by
              unfold close
              rcases hb with z | z <;> rw [z] <;> rfl
            have ehere : here t (u + 1) ⟨pi, at_ t u + 2, .ready, [], none⟩ (lv' :: up).length [] false = P (up.length + 1) (some (at_ t u + 2)) (at_ t u == 123) true false [] (t.drop (u + 1)) := by
              unfold here
              rw [en, ecn]
              rfl
            rw [ehere, en]
            cases hP : P (up.length + 1) (some (at_ t u + 2)) (at_ t u == 123) true false [] (t.drop (u + 1)) with
            | error x =>
              rw [hP] at e
              simp only at e
              rw [outer_error] at e ⊢
              exact e
            | ok mz =>
              obtain ⟨m, z⟩ := mz
              rw [hP] at e
              simp only at e
              rw [outer_ok, em, ec]
              exact e
      · rw [if_neg hb]
        rw [if_neg hb] at hh
        have hpl := plainP_le (t := t) (p := u) k2
        cases hp : plainP t u with
        | error q =>
          rw [hp] at hh hpl
          exact ⟨err_of R hh, hpl.2⟩
        | ok q =>
          rw [hp] at hh hpl
          simp only at hh hpl ⊢
          refine ⟨fun j => ⟨hpl.2, R.deep, ⟨fun h => (by rw [← R.cl.1 h]; exact e2), fun h => (by have := R.cl.2 h; rw [← e2] at this; exact this)⟩, R.ups, fun h => ?_, .inl ⟨rfl, rfl⟩, fun _ => rfl, ?_⟩, hpl.1⟩
          · have h' : isMap lv = true := by rw [← em]; exact h
            show lv'.seen = _
            rw [e5 h', R.seen h', if_pos h', keysOf, keysOf, List.filterMap_append]
            rfl
          · have e := R.eq
            rw [hh] at e
            have e7 : isMap { lv' with last := some j, st := .filled } = isMap lv := em
            have e8 : close { lv' with last := some j, st := .filled } = close lv := ec
            unfold here
            simp only [e7, e8]
            exact e
end
end Mir
set_option linter.all false
namespace Mir
open Sg51
theorem next_step {t : Bytes} {p : Nat} {lv : Lv} {up : List Lv} {g : List Node} {gs : List G} {near : Bool} (R : Rel t p lv up g gs near) (hq : skipP t p < t.length) (obs : List Pc) :
    match readNext t ⟨skipP t p, obs, lv :: up⟩ (skipB t p) with
    | .error e => W t = .error (t.length - e) ∧ e ≤ t.length
    | .ok m => ∃ lv' up' g' gs' near', m.lvs = lv' :: up' ∧ Rel t m.place lv' up' g' gs' near' ∧ skipP t p < m.place := by
  unfold readNext
  simp only
  by_cases h35 : at_ t (skipP t p) = 35
  · rw [if_pos h35]
    unfold readComment
    have c := comment_step R hq h35
    simp only
    cases hc : comP t (skipP t p) with
    | error e => rw [hc] at c; exact c
    | ok q => rw [hc] at c; exact ⟨_, _, _, _, _, rfl, c.1, c.2⟩
  · rw [if_neg h35]
    by_cases h44 : at_ t (skipP t p) = 44
    · rw [if_pos h44]
      unfold readComma
      have c := comma_step R hq h44
      by_cases hx : up = [] ∨ lv.st ≠ .filled
      · rw [if_pos hx]
        exact ⟨c.1 hx, by simp only; omega⟩
      · rw [if_neg hx]
        have h1 : up ≠ [] := fun z => hx (.inl z)
        have h2 : lv.st = .filled := Classical.byContradiction fun z => hx (.inr z)
        exact ⟨_, _, _, _, _, rfl, c.2 h1 h2, by simp only; omega⟩
    · rw [if_neg h44]
      by_cases h9 : at_ t (skipP t p) = 93 ∨ at_ t (skipP t p) = 125
      · rw [if_pos h9]
        unfold readClosing
        have c := closing_step R hq rfl h9
        by_cases hx : at_ t (skipP t p) ≠ lv.closer
        · rw [if_pos hx]
          exact ⟨c.1 hx, by simp only; omega⟩
        · rw [if_neg hx]
          obtain ⟨par, rest, y, ys, e1, e2, r⟩ := c.2 (Classical.byContradiction hx)
          rw [e1]
          exact ⟨_, _, _, _, _, rfl, r, by simp only; omega⟩
      · rw [if_neg h9]
        have c := member_step R hq h35 h44 (fun z => h9 (.inl z)) (fun z => h9 (.inr z))
        unfold readMember
        by_cases hr : lv.st ≠ .ready
        · rw [if_pos hr]
          exact ⟨c.1 hr, by simp only; omega⟩
        · rw [if_neg hr]
          have c := c.2 (Classical.byContradiction hr)
          simp only
          cases hk : readKey t (skipP t p) lv with
          | error e => rw [hk] at c; exact c
          | ok kq =>
            obtain ⟨k, u, lv'⟩ := kq
            rw [hk] at c
            simp only at c ⊢
            obtain ⟨c1, c2, c⟩ := c
            unfold readValue
            by_cases hb : at_ t u = 91 ∨ at_ t u = 123
            · rw [if_pos hb] at c ⊢
              by_cases hd : 40 < up.length + 1
              · rw [if_pos hd]
                exact ⟨c.1 hd, c1⟩
              · rw [if_neg hd]
                exact ⟨_, _, _, _, _, rfl, c.2 (by omega) obs.length, by simp only; omega⟩
            · rw [if_neg hb] at c ⊢
              cases hp : plainP t u with
              | error e => rw [hp] at c; exact c
              | ok q =>
                rw [hp] at c
                exact ⟨_, _, _, _, _, rfl, c.1 obs.length, by have := c.2; simp only; omega⟩
theorem read_W {t : Bytes} (h : t.length ≤ 65536) : Sg51.read t = match W t with
    | .ok l => .ok l
    | .error e => .error (t.length - e) := by
  unfold Sg51.read W
  rw [if_neg (by show ¬ 65536 < t.length; omega)]
  show (match P 0 none false true false [] t with
    | .ok (l, _) => Except.ok l
    | .error e => .error (t.length - e)) = _
  cases P 0 none false true false [] t with
  | error e => rfl
  | ok lz => rfl
theorem ups_ready : ∀ {up : List Lv} {gs : List G} {x : Lv}, Ups up gs → x ∈ up → x.st = .ready
  | [], _, _, _, h => by cases h
  | a :: r, [], _, h, _ => h.elim
  | a :: r, b :: s, x, h, m => by
    rcases List.mem_cons.mp m with e | e
    · rw [e]; exact h.2.2.1
    · exact ups_ready h.2.2.2 e
theorem end_read {t : Bytes} {p : Nat} {lv : Lv} {up : List Lv} {g : List Node} {gs : List G} {near : Bool} (R : Rel t p lv up g gs near) (ht : t.length ≤ 65536) (he : skipP t p = t.length) {x : Lv} (hx : (lv :: up).getLast? = some x) :
    (x.st = .ready → Sg51.read t = .error t.length) ∧ (x.st ≠ .ready → up = [] ∧ Sg51.read t = .ok g) := by
  have c := end_step R he
  rw [read_W ht]
  by_cases hu : up = []
  · subst hu
    have e : lv = x := Option.some.inj hx
    subst e
    refine ⟨fun h => by rw [c.2.1 rfl h]; rfl, fun h => ⟨rfl, by rw [c.2.2 rfl h]⟩⟩
  · have hm : x ∈ up := by
      cases up with
      | nil => exact absurd rfl hu
      | cons a r =>
        rw [List.getLast?_cons_cons] at hx
        exact List.mem_of_getLast? hx
    have hr := ups_ready R.ups hm
    refine ⟨fun _ => by rw [c.1 hu]; rfl, fun h => absurd hr h⟩
end Mir
set_option linter.all false
namespace Mir
open Sg51
noncomputable def start0 : M := ⟨0, [mk .opening [] []], [⟨0, 256, .ready, [], none⟩]⟩
inductive Reach (t : Bytes) : M → Prop
  | start : Reach t start0
  | step {m m' : M} : Reach t m → skipP t m.place < t.length → readNext t { m with place := skipP t m.place } (skipB t m.place) = .ok m' → Reach t m'
theorem reach_rel {t : Bytes} {m : M} (h : Reach t m) : ∃ lv up g gs near, m.lvs = lv :: up ∧ Rel t m.place lv up g gs near := by
  induction h with
  | start => exact ⟨_, _, _, _, _, rfl, start_rel t 0⟩
  | @step m m' _ hq e ih =>
    obtain ⟨lv, up, g, gs, near, e1, R⟩ := ih
    have n := next_step R hq m.obs
    have z : ({ m with place := skipP t m.place } : M) = ⟨skipP t m.place, m.obs, lv :: up⟩ := by rw [← e1]
    rw [← z, e] at n
    obtain ⟨lv', up', g', gs', near', a, b, _⟩ := n
    exact ⟨lv', up', g', gs', near', a, b⟩
theorem reach_next {t : Bytes} {m : M} (h : Reach t m) (ht : t.length ≤ 65536) (hq : skipP t m.place < t.length) : match readNext t { m with place := skipP t m.place } (skipB t m.place) with
    | .error e => Sg51.read t = .error e
    | .ok m' => Reach t m' ∧ skipP t m.place < m'.place ∧ m'.place ≤ t.length := by
  obtain ⟨lv, up, g, gs, near, e1, R⟩ := reach_rel h
  have n := next_step R hq m.obs
  have z : ({ m with place := skipP t m.place } : M) = ⟨skipP t m.place, m.obs, lv :: up⟩ := by rw [← e1]
  rw [← z] at n
  cases hr : readNext t { m with place := skipP t m.place } (skipB t m.place) with
  | error e =>
    rw [hr] at n
    simp only at n ⊢
    rw [read_W ht, n.1]
    simp only
    congr 1
    omega
  | ok m' =>
    rw [hr] at n
    obtain ⟨lv', up', g', gs', near', a, b, c⟩ := n
    exact ⟨.step h hq hr, c, b.place⟩
theorem reach_end {t : Bytes} {m : M} (h : Reach t m) (ht : t.length ≤ 65536) (he : skipP t m.place = t.length) {x : Lv} (hx : m.lvs.getLast? = some x) :
    (x.st = .ready → Sg51.read t = .error t.length) ∧ (x.st ≠ .ready → m.lvs.length = 1 ∧ ∃ g, Sg51.read t = .ok g) := by
  obtain ⟨lv, up, g, gs, near, e1, R⟩ := reach_rel h
  rw [e1] at hx
  have c := end_read R ht he hx
  refine ⟨c.1, fun z => ⟨?_, g, (c.2 z).2⟩⟩
  rw [e1, (c.2 z).1]
  rfl
theorem reach_closer {t : Bytes} {m : M} (h : Reach t m) : ∃ lv up, m.lvs = lv :: up ∧ m.place ≤ t.length ∧ (∀ c, c = 93 ∨ c = 125 → c = lv.closer → up ≠ []) := by
  obtain ⟨lv, up, g, gs, near, e1, R⟩ := reach_rel h
  refine ⟨lv, up, e1, R.place, fun c hc e z => ?_⟩
  have := R.cl.1 z
  rw [← e] at this
  rcases hc with y | y <;> rw [y] at this <;> cases this
end Mir
set_option linter.all false
namespace Mir
open Sg51
inductive T where
  | atom (k b : Bytes)
  | row (k : Bytes) (map : Bool) (l : List T)
  | note (b : Bytes) (near : Bool)
noncomputable def un (k : Bytes) (n : Node) : Node := under (if k = [] then none else some k) n
noncomputable def isV : T → Bool
  | .note _ _ => false
  | _ => true
mutual
noncomputable def T.node : T → Node
  | .atom k b => un k (.atom b)
  | .row k m l => un k (.row m (nodes l))
  | .note b h => .note b h
noncomputable def nodes : List T → List Node
  | [] => []
  | x :: r => x.node :: nodes r
end
mutual
noncomputable def T.len : T → Nat
  | .atom k b => (keyTold k).length + b.length
  | .row k _ l => (keyTold k).length + 2 + lens l
  | .note _ _ => 0
noncomputable def lens : List T → Nat
  | [] => 0
  | x :: r => x.len + (if isV x && r.any isV then 2 else 0) + lens r
end
mutual
noncomputable def T.noted : T → Bool
  | .atom _ _ => false
  | .row _ _ l => noteds l
  | .note _ _ => true
noncomputable def noteds : List T → Bool
  | [] => false
  | x :: r => x.noted || noteds r
end
mutual
noncomputable def T.ht : T → Nat
  | .atom _ _ => 0
  | .row _ _ l => hts l + 1
  | .note _ _ => 0
noncomputable def hts : List T → Nat
  | [] => 0
  | x :: r => max x.ht (hts r)
end
mutual
noncomputable def T.ok : T → Bool → Prop
  | .atom _ _, _ => True
  | .row _ _ l, _ => oks l false
  | .note _ h, s => h = true → s = true
noncomputable def oks : List T → Bool → Prop
  | [], _ => True
  | x :: r, s => x.ok s ∧ oks r (s || isV x)
end
noncomputable def hdP (k own : Bytes) (n : Nat) (ts : List T) (c : Bool) : Pc := ⟨.opening, k, own, n + lens ts, c, ts.any isV, noteds ts, false⟩
mutual
noncomputable def T.lin : T → Bool → List Pc
  | .atom k b, c => [⟨.plain, k, b, (keyTold k).length + b.length, c, false, false, false⟩]
  | .row k m l, c => hdP k (open_ m) ((keyTold k).length + 2) l c :: (lins l ++ [mk .closing [] (close_ m)])
  | .note b h, _ => [{ mk .comment [] b with behind := h }]
noncomputable def lins : List T → List Pc
  | [] => []
  | x :: r => x.lin (r.any isV) ++ lins r
end
noncomputable def T.size : T → Nat
  | .row _ _ l => (lins l).length + 2
  | _ => 1
theorem lin_size (x : T) (c : Bool) : (x.lin c).length = x.size := by
  cases x <;> simp [T.lin, T.size]
theorem lin_comma {x : T} (h : isV x = true) : ∃ p tl, x.lin false = p :: tl ∧ x.lin true = { p with comma := true } :: tl ∧ p.length = x.len ∧ p.noted = x.noted ∧ p.comma = false := by
  cases x with
  | atom k b => exact ⟨_, _, by rw [T.lin], by rw [T.lin], by simp [T.len], by simp [T.noted], rfl⟩
  | row k m l => exact ⟨_, _, by rw [T.lin], by rw [T.lin]; rfl, by simp [T.len, hdP], by simp [T.noted, hdP], rfl⟩
  | note b h' => cases h
noncomputable def lastI : Nat → List T → Option Nat
  | _, [] => none
  | i, x :: r => match lastI (i + x.size) r with
    | some j => some j
    | none => if isV x = true then some i else none
theorem lastI_none : ∀ {i : Nat} {ts : List T}, lastI i ts = none ↔ ts.any isV = false
  | _, [] => by simp [lastI]
  | i, x :: r => by
    have ih := lastI_none (i := i + x.size) (ts := r)
    rw [lastI, List.any_cons]
    cases h : lastI (i + x.size) r with
    | none =>
      rw [ih.mp h]
      cases isV x <;> simp
    | some j =>
      have : r.any isV = true := by
        cases hr : r.any isV with
        | true => rfl
        | false => rw [ih.mpr hr] at h; cases h
      rw [this]; simp
theorem nodes_snoc : ∀ (ts : List T) (x : T), nodes (ts ++ [x]) = nodes ts ++ [x.node]
  | [], x => by simp [nodes]
  | y :: r, x => by rw [List.cons_append, nodes, nodes, nodes_snoc r x, List.cons_append]
theorem lens_snoc : ∀ (ts : List T) (x : T), lens (ts ++ [x]) = lens ts + (if isV x && ts.any isV then 2 else 0) + x.len
  | [], x => by simp [lens]
  | y :: r, x => by
    rw [List.cons_append, lens, lens, lens_snoc r x, List.any_append]
    simp only [List.any_cons, List.any_nil, Bool.or_false]
    rcases Bool.eq_false_or_eq_true (isV x) with a | a <;> rcases Bool.eq_false_or_eq_true (isV y) with b | b <;> rcases Bool.eq_false_or_eq_true (r.any isV) with c | c <;> simp only [a, b, c, Bool.and_true, Bool.and_false, Bool.true_and, Bool.false_and, Bool.or_true, Bool.or_false, Bool.true_or, Bool.false_or, if_true, if_false, Bool.false_eq_true] <;> omega
theorem noteds_snoc : ∀ (ts : List T) (x : T), noteds (ts ++ [x]) = (noteds ts || x.noted)
  | [], x => by simp [noteds]
  | y :: r, x => by rw [List.cons_append, noteds, noteds, noteds_snoc r x, Bool.or_assoc]
theorem hts_snoc : ∀ (ts : List T) (x : T), hts (ts ++ [x]) = max (hts ts) x.ht
  | [], x => by simp [hts]
  | y :: r, x => by rw [List.cons_append, hts, hts, hts_snoc r x, Nat.max_assoc]
theorem oks_snoc : ∀ (ts : List T) (x : T) (s : Bool), oks ts s → x.ok (s || ts.any isV) → oks (ts ++ [x]) s
  | [], x, s, _, h => by
    simp only [List.any_nil, Bool.or_false] at h
    simp [oks, h]
  | y :: r, x, s, h, h2 => by
    rw [List.cons_append, oks]
    rw [oks] at h
    refine ⟨h.1, oks_snoc r x _ h.2 ?_⟩
    rw [List.any_cons, ← Bool.or_assoc] at h2
    exact h2
noncomputable def one : List T → Prop
  | [] => True
  | x :: r => (isV x = true → r.any isV = false) ∧ one r
theorem one_note : ∀ {ts : List T} {x : T}, one ts → isV x = false → one (ts ++ [x])
  | [], x, _, h => ⟨fun z => rfl, trivial⟩
  | y :: r, x, h, hx => ⟨fun z => by show (r ++ [x]).any isV = false; rw [List.any_append, h.1 z]; simp [hx], one_note h.2 hx⟩
theorem one_val : ∀ {ts : List T} {x : T}, ts.any isV = false → one (ts ++ [x])
  | [], x, h => ⟨fun z => rfl, trivial⟩
  | y :: r, x, h => by
    rw [List.any_cons, Bool.or_eq_false_iff] at h
    exact ⟨fun z => (by rw [h.1] at z; cases z), one_val h.2⟩
theorem lins_note : ∀ (ts : List T) (x : T), isV x = false → lins (ts ++ [x]) = lins ts ++ x.lin false
  | [], x, h => by simp [lins]
  | y :: r, x, h => by
    rw [List.cons_append, lins, lins, lins_note r x h, List.any_append]
    simp [h]
noncomputable def setC (o : Option Nat) (l : List Pc) : List Pc := match o with
  | none => l
  | some j => l.modify j fun w => { w with comma := true }
theorem modify_app {α : Type} (f : α → α) : ∀ (a b : List α) (i : Nat), (a ++ b).modify (a.length + i) f = a ++ b.modify i f
  | [], b, i => by simp
  | x :: a, b, i => by
    have := modify_app f a b i
    rw [List.length_cons, List.cons_append, show a.length + 1 + i = (a.length + i) + 1 by omega, List.modify_succ_cons, this]
    rfl
theorem lins_val : ∀ (ts : List T) (x : T) (A : List Pc), isV x = true → A ++ lins (ts ++ [x]) = setC (lastI A.length ts) (A ++ lins ts) ++ x.lin false
  | [], x, A, h => by simp [lins, lastI, setC]
  | y :: r, x, A, h => by
    rw [List.cons_append, lins, lins, List.any_append]
    have e1 : (r.any isV || [x].any isV) = true := by simp [h]
    rw [e1, lastI]
    have ih := lins_val r x (A ++ y.lin true) h
    rw [List.length_append, lin_size] at ih
    cases hl : lastI (A.length + y.size) r with
    | none =>
      have hn := lastI_none.mp hl
      rw [hl] at ih
      rw [← List.append_assoc, ih]
      simp only [hn]
      cases hy : isV y with
      | false =>
        have e : y.lin true = y.lin false := by
          cases y with
          | note b h' => rw [T.lin, T.lin]
          | atom => cases hy
          | row => cases hy
        rw [if_neg (by simp), e]
        simp only [setC, List.append_assoc]
      | true =>
        obtain ⟨p, tl, e2, e3, _⟩ := lin_comma hy
        rw [if_pos rfl, e2, e3]
        simp only [setC]
        rw [show A.length = A.length + 0 from rfl, modify_app]
        simp
    | some j =>
      have hn : r.any isV = true := by
        cases hr : r.any isV with
        | true => rfl
        | false => rw [lastI_none.mpr hr] at hl; cases hl
      rw [hl] at ih
      rw [← List.append_assoc, ih, hn, ← List.append_assoc]
theorem lastI_snoc : ∀ (i : Nat) (ts : List T) (x : T), lastI i (ts ++ [x]) = if isV x = true then some (i + (lins ts).length) else lastI i ts
  | i, [], x => by simp [lastI, lins]
  | i, y :: r, x => by
    rw [List.cons_append, lastI, lastI_snoc, lins, List.length_append, lin_size]
    by_cases h : isV x = true
    · rw [if_pos h, if_pos h]
      simp only
      rw [Nat.add_assoc]
    · rw [if_neg h, if_neg h, lastI]
structure Fr where
  key : Bytes
  ts : List T
noncomputable def hdL (lv : Lv) (f : Fr) : Pc := if lv.closer = 256 then hdP [] [] 0 f.ts false else hdP f.key (open_ (isMap lv)) ((keyTold f.key).length + 2) f.ts false
noncomputable def obsOf : List Lv → List Fr → List Pc
  | lv :: up, f :: fs => obsOf up fs ++ hdL lv f :: lins f.ts
  | _, _ => []
noncomputable def Lk : List Lv → List Fr → Prop
  | [], [] => True
  | lv :: up, f :: fs => (lv.pi = (obsOf up fs).length ∧ lv.last = lastI (lv.pi + 1) f.ts ∧ oks f.ts false ∧ hts f.ts + up.length ≤ 40 ∧ (up = [] → one f.ts ∧ (lv.st = .ready → f.ts.any isV = false))) ∧ Lk up fs
  | _, _ => False
noncomputable def Gk : Fr → List G → List Fr → Prop
  | f, y :: ys, f' :: fs => (y.l = nodes f'.ts ∧ ∀ v, under y.key v = un f.key v) ∧ Gk f' ys fs
  | _, [], [] => True
  | _, _, _ => False
noncomputable def wt (l : List Pc) : Nat := (l.map fun p => p.key.length + p.own.length).sum
structure Tk (t : Bytes) (m : M) (lv : Lv) (up : List Lv) (g : List Node) (gs : List G) (near : Bool) (f : Fr) (fs : List Fr) : Prop where
  lvs : m.lvs = lv :: up
  rel : Rel t m.place lv up g gs near
  obs : m.obs = obsOf (lv :: up) (f :: fs)
  lk : Lk (lv :: up) (f :: fs)
  g : g = nodes f.ts
  gk : Gk f gs fs
  wt : wt m.obs ≤ m.place
end Mir
set_option linter.all false
namespace Mir
open Sg51
theorem wt_modify (fn : Pc → Pc) (h : ∀ p, (fn p).key = p.key ∧ (fn p).own = p.own) : ∀ (l : List Pc) (i : Nat), wt (l.modify i fn) = wt l
  | [], i => by simp
  | p :: r, 0 => by
    unfold wt
    rw [List.modify_zero_cons, List.map_cons, List.map_cons, (h p).1, (h p).2]
  | p :: r, i + 1 => by
    have := wt_modify fn h r i
    unfold wt at this ⊢
    rw [List.modify_succ_cons, List.map_cons, List.map_cons, List.sum_cons, List.sum_cons, this]
theorem wt_app (a b : List Pc) : wt (a ++ b) = wt a + wt b := by
  unfold wt
  rw [List.map_append, List.sum_append]
theorem wt_addO (obs : List Pc) (pi : Nat) (last : Option Nat) (mi : Nat) : wt (addO obs pi last mi) = wt obs := by
  unfold addO
  cases last with
  | none =>
    simp only
    rw [wt_modify]
    exact fun p => ⟨rfl, rfl⟩
  | some j =>
    simp only
    rw [wt_modify, wt_modify, wt_modify]
    all_goals exact fun p => ⟨rfl, rfl⟩
theorem lastI_bound : ∀ {i j : Nat} {ts : List T}, lastI i ts = some j → i ≤ j ∧ j < i + (lins ts).length
  | i, j, [], h => by cases h
  | i, j, x :: r, h => by
    rw [lastI] at h
    rw [lins, List.length_append, lin_size]
    have sz : 0 < x.size := by cases x <;> simp [T.size]
    cases hl : lastI (i + x.size) r with
    | none =>
      rw [hl] at h
      simp only at h
      split at h
      · cases h; omega
      · cases h
    | some j' =>
      rw [hl] at h
      cases h
      have := lastI_bound hl
      omega
theorem lastI_some {i : Nat} {ts : List T} : (lastI i ts).isSome = ts.any isV := by
  cases h : lastI i ts with
  | none => rw [lastI_none.mp h]; rfl
  | some j =>
    cases hr : ts.any isV with
    | true => rfl
    | false => rw [lastI_none.mpr hr] at h; cases h
theorem at_mid {A B : List Pc} {p : Pc} : lenOf (A ++ p :: B) A.length = p.length ∧ notedOf (A ++ p :: B) A.length = p.noted := by
  unfold lenOf notedOf
  rw [List.getElem?_append_right (Nat.le_refl _), Nat.sub_self]
  exact ⟨rfl, rfl⟩
theorem mod_mid (fn : Pc → Pc) (A B : List Pc) (p : Pc) : (A ++ p :: B).modify A.length fn = A ++ fn p :: B := by
  have := modify_app fn A (p :: B) 0
  rw [Nat.add_zero, List.modify_zero_cons] at this
  exact this
theorem mod_left (fn : Pc → Pc) : ∀ (A B : List Pc) (i : Nat), i < A.length → (A ++ B).modify i fn = A.modify i fn ++ B
  | [], B, i, h => absurd h (Nat.not_lt_zero _)
  | a :: r, B, 0, h => by rw [List.cons_append, List.modify_zero_cons, List.modify_zero_cons, List.cons_append]
  | a :: r, B, i + 1, h => by
    rw [List.cons_append, List.modify_succ_cons, List.modify_succ_cons, List.cons_append, mod_left fn r B i (by simpa using h)]
theorem addO_T {A C : List Pc} {hd p : Pc} {ts : List T} {last : Option Nat} (hl : last = lastI (A.length + 1) ts) :
    addO ((A ++ hd :: lins ts) ++ p :: C) A.length last (A ++ hd :: lins ts).length =
      setC (lastI (A.length + 1) ts) ((A ++ [{ hd with length := hd.length + (if ts.any isV = true then 2 else 0) + p.length, filled := true, noted := hd.noted || p.noted }]) ++ lins ts) ++ p :: C := by
  subst hl
  unfold addO
  cases h : lastI (A.length + 1) ts with
  | none =>
    rw [lastI_none.mp h]
    simp only [setC]
    rw [at_mid.1, at_mid.2, List.append_assoc, List.cons_append, mod_mid]
    simp [List.append_assoc]
  | some j =>
    have hb := lastI_bound h
    have hs : ts.any isV = true := by rw [← lastI_some (i := A.length + 1), h]; rfl
    rw [hs]
    simp only [setC]
    have e1 : ∀ z : Pc, ((A ++ z :: lins ts) ++ p :: C).modify j (fun w => { w with comma := true }) = (A ++ z :: (lins ts).modify (j - (A.length + 1)) fun w => { w with comma := true }) ++ p :: C := fun z => by
      have q := modify_app (fun w : Pc => { w with comma := true }) (A ++ [z]) (lins ts ++ p :: C) (j - (A.length + 1))
      rw [List.length_append, List.length_singleton, show A.length + 1 + (j - (A.length + 1)) = j by omega] at q
      have e : (A ++ z :: lins ts) ++ p :: C = A ++ [z] ++ (lins ts ++ p :: C) := by simp
      rw [e, q, mod_left _ _ _ _ (by omega)]
      simp
    have e2 : ∀ z : Pc, ((A ++ [z]) ++ lins ts).modify j (fun w => { w with comma := true }) = A ++ z :: (lins ts).modify (j - (A.length + 1)) fun w => { w with comma := true } := fun z => by
      have q := modify_app (fun w : Pc => { w with comma := true }) (A ++ [z]) (lins ts) (j - (A.length + 1))
      rw [List.length_append, List.length_singleton, show A.length + 1 + (j - (A.length + 1)) = j by omega] at q
      rw [q]
      simp
    have e3 : ∀ (z : Pc) (fn : Pc → Pc) (B : List Pc), ((A ++ z :: B) ++ p :: C).modify A.length fn = (A ++ fn z :: B) ++ p :: C := fun z fn B => by
      rw [List.append_assoc, List.cons_append, mod_mid]
      simp
    have e4 : (A ++ hd :: lins ts).length = (A ++ { hd with length := hd.length + 2 } :: (lins ts).modify (j - (A.length + 1)) fun w => { w with comma := true }).length := by simp
    rw [e1, e3, e2, e4, at_mid.1, at_mid.2, e3]
    rfl
theorem keyP_key {t : Bytes} {p : Nat} {seen : List Bytes} {k : Bytes} {q : Nat} (hp : p ≤ t.length) (h : keyP t p seen = .ok (k, q)) : k ≠ [] ∧ k.length + p ≤ q := by
  unfold keyP at h
  have hle := plainP_le hp
  cases hpl : plainP t p with
  | error e => rw [hpl] at h; cases h
  | ok r =>
    rw [hpl] at h hle
    simp only at h hle
    have hsk := skipP_le (t := t) (p := r) hle.2
    split at h
    · cases h
    · split at h
      · rename_i h58
        cases h
        have hq : skipP t r < t.length := by
          by_cases hq : skipP t r < t.length
          · exact hq
          · rw [at_end (by omega)] at h58; cases h58
        have h3 := skipP_le (t := t) (p := skipP t r + 1) hq
        have e : (slice t p r).length = r - p := by
          unfold slice
          rw [List.length_take, List.length_drop]
          omega
        refine ⟨fun z => ?_, by omega⟩
        rw [z] at e
        simp only [List.length_nil] at e
        omega
      · cases h
theorem rk {t : Bytes} {p : Nat} {lv lv' : Lv} {k : Bytes} {u : Nat} (hp : p ≤ t.length) (h : readKey t p lv = .ok (k, u, lv')) :
    lv'.pi = lv.pi ∧ lv'.closer = lv.closer ∧ lv'.st = lv.st ∧ lv'.last = lv.last ∧ k.length + p ≤ u ∧ ∀ v, under (if isMap lv = true then some k else none) v = un k v := by
  unfold readKey at h
  by_cases hc : lv.closer = 125
  · rw [if_pos hc] at h
    cases hk : keyP t p lv.seen with
    | error e => rw [hk] at h; cases h
    | ok kq =>
      obtain ⟨k2, q2⟩ := kq
      rw [hk] at h
      cases h
      have c := keyP_key hp hk
      refine ⟨rfl, rfl, rfl, rfl, c.2, fun v => ?_⟩
      have e : isMap lv = true := by unfold isMap; rw [hc]; rfl
      unfold un
      rw [if_pos e, if_neg c.1]
  · rw [if_neg hc] at h
    cases h
    refine ⟨rfl, rfl, rfl, rfl, by simp, fun v => ?_⟩
    have e : isMap lv = false := by unfold isMap; exact beq_eq_false_iff_ne.mpr hc
    unfold un
    rw [if_neg (by rw [e]; simp), if_pos rfl]
theorem obsOf_cong {lv lv' : Lv} {up : List Lv} {f : Fr} {fs : List Fr} (h : lv'.closer = lv.closer) : obsOf (lv' :: up) (f :: fs) = obsOf (lv :: up) (f :: fs) := by
  simp only [obsOf, hdL, isMap, h]
theorem slice_len (t : Bytes) (p q : Nat) : (slice t p q).length ≤ q - p := by
  unfold slice
  rw [List.length_take]
  omega
theorem trimmed_len (b : Bytes) : (trimmed b).length ≤ b.length := by
  unfold trimmed
  rw [List.length_reverse]
  refine Nat.le_trans (dropWhile_len _ _) ?_
  rw [List.length_reverse]
  exact Nat.le_refl _
end Mir
set_option linter.all false
namespace Mir
open Sg51
theorem gk_key {f f' : Fr} {gs : List G} {fs : List Fr} (h : Gk f gs fs) (e : f'.key = f.key) : Gk f' gs fs := by
  cases gs with
  | nil =>
    cases fs with
    | nil => trivial
    | cons a b => exact h
  | cons y ys =>
    cases fs with
    | nil => exact h
    | cons a b => exact ⟨⟨h.1.1, fun v => by rw [e]; exact h.1.2 v⟩, h.2⟩
theorem hd_add {lv lv' : Lv} {f : Fr} {x : T} (hx : isV x = true) (hc : lv'.closer = lv.closer) :
    { hdL lv f with length := (hdL lv f).length + (if f.ts.any isV = true then 2 else 0) + x.len, filled := true, noted := (hdL lv f).noted || x.noted } = hdL lv' { f with ts := f.ts ++ [x] } := by
  unfold hdL isMap
  rw [hc]
  split
  · unfold hdP
    simp only [lens_snoc, noteds_snoc, List.any_append, hx, Bool.true_and, List.any_cons, List.any_nil, Bool.or_false, Bool.or_true, Pc.mk.injEq, true_and, and_true]
    omega
  · unfold hdP
    simp only [lens_snoc, noteds_snoc, List.any_append, hx, Bool.true_and, List.any_cons, List.any_nil, Bool.or_false, Bool.or_true, Pc.mk.injEq, true_and, and_true]
    omega
variable {t : Bytes} {m m' : M} {lv : Lv} {up : List Lv} {g : List Node} {gs : List G} {near : Bool} {f : Fr} {fs : List Fr}
theorem obs_add {A C : List Pc} {p : Pc} {lv lv' : Lv} {x : T} (hx : isV x = true) (hc : lv'.closer = lv.closer) (hA : A = obsOf up fs) (hl : lv.last = lastI (A.length + 1) f.ts) (hp : p.length = x.len ∧ p.noted = x.noted) {D : List Pc} (hD : p :: C ++ D = x.lin false) :
    addO ((A ++ hdL lv f :: lins f.ts) ++ p :: C) A.length lv.last (A ++ hdL lv f :: lins f.ts).length ++ D = obsOf (lv' :: up) ({ f with ts := f.ts ++ [x] } :: fs) := by
  rw [addO_T hl, hp.1, hp.2, hd_add hx hc, List.append_assoc, hD]
  have q := lins_val f.ts x (A ++ [hdL lv' { f with ts := f.ts ++ [x] }]) hx
  rw [List.length_append, List.length_singleton] at q
  rw [← q, hA]
  simp [obsOf]
noncomputable def TkE (t : Bytes) (m : M) : Prop := ∃ lv up g gs near f fs, Tk t m lv up g gs near f fs
theorem tk_comment (K : Tk t m lv up g gs near f fs) (hq : skipP t m.place < t.length) (hc : at_ t (skipP t m.place) = 35) (e : readComment t { m with place := skipP t m.place } lv up (skipB t m.place) = .ok m') : TkE t m' := by
  unfold readComment at e
  simp only at e
  have c := comment_step K.rel hq hc
  cases hp : comP t (skipP t m.place) with
  | error q => rw [hp] at e; cases e
  | ok q =>
    rw [hp] at e c
    cases e
    obtain ⟨c1, c2⟩ := c
    have hsk := skipP_le K.rel.place
    obtain ⟨⟨l1, l2, l3, l4, l5⟩, l6⟩ := K.lk
    refine ⟨_, _, _, _, _, { f with ts := f.ts ++ [.note (trimmed (slice t (skipP t m.place) q)) (lv.last.isSome && !skipB t m.place)] }, fs, rfl, c1, ?_, ⟨⟨l1, ?_, ?_, ?_, fun hu => ⟨one_note (l5 hu).1 rfl, fun hs => ?_⟩⟩, l6⟩, ?_, gk_key K.gk rfl, ?_⟩
    · simp only
      rw [K.obs, obsOf, l1, mod_mid, obsOf, List.append_assoc]
      congr 1
      rw [List.cons_append]
      congr 1
      · unfold hdL isMap
        simp only
        split
        · unfold hdP
          simp [lens_snoc, noteds_snoc, T.len, T.noted, isV]
        · unfold hdP
          simp [lens_snoc, noteds_snoc, T.len, T.noted, isV]
      · rw [lins_note _ _ rfl, T.lin]
    · simp only
      rw [lastI_snoc, if_neg (by simp [isV])]
      exact l2
    · refine oks_snoc _ _ _ l3 ?_
      rw [T.ok]
      intro z
      rw [Bool.and_eq_true] at z
      rw [l2, lastI_some] at z
      rw [z.1]; rfl
    · rw [hts_snoc, T.ht]
      omega
    · simp only at hs
      rw [List.any_append]
      split at hs
      · cases hs
      · rw [(l5 hu).2 hs]; rfl
    · simp only
      rw [nodes_snoc, K.g, T.node]
    · simp only
      rw [wt_app, wt_modify]
      · have w1 := K.wt
        have w2 := trimmed_len (slice t (skipP t m.place) q)
        have w3 := slice_len t (skipP t m.place) q
        simp only [wt, mk, List.map_cons, List.map_nil, List.sum_cons, List.sum_nil, List.length_nil]
        unfold wt at w1
        omega
      · exact fun p => ⟨rfl, rfl⟩
theorem tk_comma (K : Tk t m lv up g gs near f fs) (hq : skipP t m.place < t.length) (hc : at_ t (skipP t m.place) = 44) (e : readComma { m with place := skipP t m.place } lv up = .ok m') : TkE t m' := by
  unfold readComma at e
  simp only at e
  have c := comma_step K.rel hq hc
  by_cases hx : up = [] ∨ lv.st ≠ .filled
  · rw [if_pos hx] at e; cases e
  · rw [if_neg hx] at e
    cases e
    have h1 : up ≠ [] := fun z => hx (.inl z)
    have h2 : lv.st = .filled := Classical.byContradiction fun z => hx (.inr z)
    have hsk := skipP_le K.rel.place
    obtain ⟨⟨l1, l2, l3, l4, l5⟩, l6⟩ := K.lk
    refine ⟨_, _, _, _, _, f, fs, rfl, c.2 h1 h2, K.obs, ⟨⟨l1, l2, l3, l4, fun z => absurd z h1⟩, l6⟩, K.g, K.gk, ?_⟩
    have := K.wt
    simp only
    omega
theorem tk_closing (K : Tk t m lv up g gs near f fs) (hq : skipP t m.place < t.length) {c : Nat} (hc : at_ t (skipP t m.place) = c) (h9 : c = 93 ∨ c = 125) (e : readClosing { m with place := skipP t m.place } lv up c = .ok m') : TkE t m' := by
  unfold readClosing at e
  have cs := closing_step K.rel hq hc h9
  by_cases hx : c ≠ lv.closer
  · rw [if_pos hx] at e; cases e
  · rw [if_neg hx] at e
    have hx : c = lv.closer := Classical.byContradiction hx
    obtain ⟨par, rest, y, ys, e1, e2, R⟩ := cs.2 hx
    have hsk := skipP_le K.rel.place
    subst e1
    subst e2
    cases e
    obtain ⟨kl, kr, ko, kk, kg, kG, kw⟩ := K
    cases fs with
    | nil => exact kG.elim
    | cons f2 fs2 =>
      obtain ⟨⟨l1, l2, l3, l4, l5⟩, ⟨p1, p2, p3, p4, p5⟩, l6⟩ := kk
      obtain ⟨⟨g1, g2⟩, g3⟩ := kG
      have hv : isV (.row f.key (isMap lv) f.ts) = true := rfl
      have ho : m.obs = (obsOf rest fs2 ++ hdL par f2 :: lins f2.ts) ++ hdL lv f :: lins f.ts := ko
      have hh : hdL lv f = hdP f.key (open_ (isMap lv)) ((keyTold f.key).length + 2) f.ts false := by
        unfold hdL
        rw [if_neg (by rcases h9 with z | z <;> rw [← hx, z] <;> decide)]
      have hcl : [c] = close_ (isMap lv) := by
        unfold close_ isMap
        rw [← hx]
        rcases h9 with z | z <;> rw [z] <;> rfl
      refine ⟨_, _, _, _, _, { f2 with ts := f2.ts ++ [.row f.key (isMap lv) f.ts] }, fs2, rfl, R, ?_, ⟨⟨p1, ?_, ?_, ?_, fun hu => ?_⟩, l6⟩, ?_, gk_key g3 rfl, ?_⟩
      · simp only
        have q := obs_add (up := rest) (fs := fs2) (f := f2) (A := obsOf rest fs2) (C := lins f.ts) (p := hdL lv f) (lv := par) (lv' := { par with last := some lv.pi, st := .filled }) (x := .row f.key (isMap lv) f.ts) hv rfl rfl (by rw [← p1]; exact p2) ⟨by rw [hh]; simp [hdP, T.len], by rw [hh]; simp [hdP, T.noted]⟩ (D := [mk .closing [] [c]]) (by rw [T.lin, hh, hcl]; rfl)
        rw [← q, ho, p1, l1]
        rfl
      · simp only
        rw [lastI_snoc, if_pos hv, l1]
        simp only [obsOf, List.length_append, List.length_cons]
        rw [p1]
        congr 1
        omega
      · refine oks_snoc _ _ _ p3 ?_
        rw [T.ok]
        exact l3
      · rw [hts_snoc, T.ht]
        simp only [List.length_cons] at l4 p4 ⊢
        omega
      · have hs := ups_ready kr.ups (List.mem_cons_self)
        exact ⟨one_val ((p5 hu).2 hs), fun z => by cases z⟩
      · simp only
        rw [nodes_snoc, T.node, ← g2, g1, kg]
      · simp only
        rw [wt_app, wt_addO]
        have : wt [mk .closing [] [c]] = 1 := rfl
        omega
theorem tk_member (K : Tk t m lv up g gs near f fs) (hq : skipP t m.place < t.length) (h35 : at_ t (skipP t m.place) ≠ 35) (h44 : at_ t (skipP t m.place) ≠ 44) (h93 : at_ t (skipP t m.place) ≠ 93) (h125 : at_ t (skipP t m.place) ≠ 125)
    (e : readMember t { m with place := skipP t m.place } lv up = .ok m') : TkE t m' := by
  have cs := member_step K.rel hq h35 h44 h93 h125
  unfold readMember at e
  by_cases hr : lv.st ≠ .ready
  · rw [if_pos hr] at e; cases e
  · rw [if_neg hr] at e
    have hr : lv.st = .ready := Classical.byContradiction hr
    have c := cs.2 hr
    simp only at e
    have hsk := skipP_le K.rel.place
    cases hk : readKey t (skipP t m.place) lv with
    | error q => rw [hk] at e; cases e
    | ok kq =>
      obtain ⟨k, u, lv'⟩ := kq
      rw [hk] at c e
      simp only at c e
      obtain ⟨c1, c2, c⟩ := c
      obtain ⟨r1, r2, r3, r4, r5, r6⟩ := rk hsk.2 hk
      obtain ⟨kl, kr, ko, kk, kg, kG, kw⟩ := K
      obtain ⟨⟨l1, l2, l3, l4, l5⟩, l6⟩ := kk
      unfold readValue at e
      by_cases hb : at_ t u = 91 ∨ at_ t u = 123
      · rw [if_pos hb] at c e
        by_cases hd : 40 < up.length + 1
        · rw [if_pos hd] at e; cases e
        · rw [if_neg hd] at e
          cases e
          have R := c.2 (by omega) m.obs.length
          refine ⟨_, _, _, _, _, ⟨k, []⟩, f :: fs, rfl, R, ?_, ⟨⟨?_, rfl, trivial, ?_, fun z => by cases z⟩, ⟨r1.trans l1, ?_, l3, l4, fun hu => ⟨(l5 hu).1, fun _ => (l5 hu).2 hr⟩⟩, l6⟩, rfl, ⟨⟨kg, r6⟩, kG⟩, ?_⟩
          · simp only
            rw [obsOf, obsOf_cong r2, ko]
            congr 1
            have h256 : ¬ at_ t u + 2 = 256 := by rcases hb with z | z <;> rw [z] <;> decide
            unfold hdL
            rw [if_neg h256]
            unfold hdP isMap mk
            rcases hb with z | z <;> rw [z] <;> simp [lins, lens, noteds, open_]
          · simp only
            rw [ko, obsOf_cong r2]
          · simp only [hts, List.length_cons]
            omega
          · rw [r4, r1]; exact l2
          · simp only
            rw [wt_app]
            have q1 : ∀ n : Nat, wt [({ kind := Kd.opening, key := k, own := [at_ t u], length := n, comma := false, filled := false, noted := false, behind := false } : Pc)] = k.length + 1 := fun n => by simp [wt]
            have q2 := q1 ((keyTold k).length + 2)
            unfold mk
            simp only
            omega
      · rw [if_neg hb] at c e
        cases hp : plainP t u with
        | error q => rw [hp] at e; cases e
        | ok q =>
          rw [hp] at c e
          cases e
          have R := c.1 m.obs.length
          have hv : isV (.atom k (slice t u q)) = true := rfl
          refine ⟨_, _, _, _, _, { f with ts := f.ts ++ [.atom k (slice t u q)] }, fs, rfl, R, ?_, ⟨⟨r1.trans l1, ?_, ?_, ?_, fun hu => ⟨one_val ((l5 hu).2 hr), fun z => by cases z⟩⟩, l6⟩, ?_, gk_key kG rfl, ?_⟩
          · simp only
            have qq := obs_add (up := up) (fs := fs) (f := f) (A := obsOf up fs) (C := []) (p := mk .plain k (slice t u q)) (lv := lv) (lv' := { lv' with last := some m.obs.length, st := .filled }) (x := .atom k (slice t u q)) hv r2 rfl (by rw [← l1]; exact l2) ⟨by simp [mk, T.len], by simp [mk, T.noted]⟩ (D := []) (by rw [T.lin]; rfl)
            rw [List.append_nil] at qq
            rw [← qq, r1, r4, l1, ko]
            rfl
          · simp only
            rw [lastI_snoc, if_pos hv, ko, r1]
            simp only [obsOf, List.length_append, List.length_cons]
            rw [l1]
            congr 1
            omega
          · refine oks_snoc _ _ _ l3 ?_
            rw [T.ok]
            trivial
          · rw [hts_snoc, T.ht]
            omega
          · simp only
            rw [nodes_snoc, T.node, ← r6, kg]
          · simp only
            rw [wt_addO, wt_app]
            have w2 := slice_len t u q
            have : wt [mk .plain k (slice t u q)] = k.length + (slice t u q).length := by simp [wt, mk]
            omega
theorem tk_next (K : Tk t m lv up g gs near f fs) (hq : skipP t m.place < t.length) (e : readNext t { m with place := skipP t m.place } (skipB t m.place) = .ok m') : TkE t m' := by
  unfold readNext at e
  simp only [K.lvs] at e
  by_cases h35 : at_ t (skipP t m.place) = 35
  · rw [if_pos h35] at e
    exact tk_comment K hq h35 e
  · rw [if_neg h35] at e
    by_cases h44 : at_ t (skipP t m.place) = 44
    · rw [if_pos h44] at e
      exact tk_comma K hq h44 e
    · rw [if_neg h44] at e
      by_cases h9 : at_ t (skipP t m.place) = 93 ∨ at_ t (skipP t m.place) = 125
      · rw [if_pos h9] at e
        exact tk_closing K hq rfl h9 e
      · rw [if_neg h9] at e
        exact tk_member K hq h35 h44 (fun z => h9 (.inl z)) (fun z => h9 (.inr z)) e
theorem reach_tk (h : Reach t m) : TkE t m := by
  induction h with
  | start => exact ⟨_, _, _, _, _, ⟨[], []⟩, [], rfl, start_rel t 0, rfl, ⟨⟨rfl, rfl, trivial, by decide, fun _ => ⟨trivial, fun _ => rfl⟩⟩, trivial⟩, rfl, trivial, Nat.le_refl _⟩
  | step _ hq e ih =>
    obtain ⟨lv, up, g, gs, near, f, fs, K⟩ := ih
    exact tk_next K hq e
theorem reach_T (h : Reach t m) (ht : t.length ≤ 65536) (he : skipP t m.place = t.length) (ho : m.lvs.length = 1) (hg : ∃ g, Sg51.read t = .ok g) :
    ∃ r ts, m.obs = r :: lins ts ∧ Sg51.read t = .ok (nodes ts) ∧ oks ts false ∧ hts ts ≤ 40 ∧ one ts ∧ wt (lins ts) ≤ t.length := by
  obtain ⟨lv, up, g, gs, near, f, fs, K⟩ := reach_tk h
  have hu : up = [] := by
    rw [K.lvs] at ho
    exact List.length_eq_zero_iff.mp (by simpa using ho)
  subst hu
  have c := end_read K.rel ht he (x := lv) rfl
  have hs : lv.st ≠ .ready := fun z => by
    obtain ⟨g', e'⟩ := hg
    rw [c.1 z] at e'
    cases e'
  obtain ⟨⟨l1, l2, l3, l4, l5⟩, l6⟩ := K.lk
  cases fs with
  | cons a b => exact l6.elim
  | nil =>
    have hob : m.obs = hdL lv f :: lins f.ts := K.obs
    refine ⟨_, f.ts, hob, by rw [(c.2 hs).2, K.g], l3, l4, (l5 rfl).1, ?_⟩
    have w := K.wt
    have hp := K.rel.place
    have hw : wt (hdL lv f :: lins f.ts) = wt [hdL lv f] + wt (lins f.ts) := wt_app [hdL lv f] (lins f.ts)
    rw [hob, hw] at w
    omega
end Mir
set_option linter.all false
namespace Mir
open Sg51
structure Se where
  lines : List Bytes
  opened : List Pc
  broken : Nat
noncomputable def ext (ls : List Bytes) (b : Bytes) : List Bytes := match ls.reverse with
  | [] => []
  | x :: r => ((x ++ b) :: r).reverse
theorem ext_snoc (a : List Bytes) (x b : Bytes) : ext (a ++ [x]) b = a ++ [x ++ b] := by
  unfold ext
  rw [List.reverse_append]
  simp
theorem behind_snoc (a : List Bytes) (x b : Bytes) : Sg51.behind (a ++ [x]) b = a ++ [x ++ (32 :: b)] := by
  unfold Sg51.behind
  rw [List.reverse_append]
  simp
theorem behind_ext {ls : List Bytes} (h : ls ≠ []) (b : Bytes) : Sg51.behind ls b = ext ls (32 :: b) := by
  obtain ⟨a, x, rfl⟩ : ∃ a x, ls = a ++ [x] := ⟨_, _, (List.dropLast_concat_getLast h).symm⟩
  rw [behind_snoc, ext_snoc]
theorem ext_app {ls : List Bytes} (h : ls ≠ []) (L : List Bytes) (b : Bytes) : ext (L ++ ls) b = L ++ ext ls b := by
  obtain ⟨a, x, rfl⟩ : ∃ a x, ls = a ++ [x] := ⟨_, _, (List.dropLast_concat_getLast h).symm⟩
  rw [← List.append_assoc, ext_snoc, ext_snoc, List.append_assoc]
theorem ext_ne {ls : List Bytes} (h : ls ≠ []) (b : Bytes) : ext ls b ≠ [] := by
  obtain ⟨a, x, rfl⟩ : ∃ a x, ls = a ++ [x] := ⟨_, _, (List.dropLast_concat_getLast h).symm⟩
  rw [ext_snoc]; simp
noncomputable def flatS (s : Se) : Bool := decide (s.broken < s.opened.length)
noncomputable def putS (s : Se) (b : Bytes) : Se := if flatS s = true then { s with lines := ext s.lines b } else { s with lines := s.lines ++ [spaces (2 * s.broken) ++ b] }
noncomputable def commaS (s : Se) (c : Bool) : Se := if c = true then (if flatS s = true then { s with lines := ext s.lines [44, 32] } else { s with lines := ext s.lines [44] }) else s
noncomputable def mustB (w : Nat) (s : Se) (p : Pc) : Bool := p.noted || (p.filled && decide (w < 2 * s.broken + p.length + (if p.comma = true then 1 else 0)))
noncomputable def openS (w : Nat) (s : Se) (p : Pc) : Se := { (if (!flatS s && mustB w s p) = true then { s with broken := s.broken + 1 } else s) with opened := p :: s.opened }
noncomputable def closeS (s : Se) (wh : Pc) (o : List Pc) (b : Bytes) : Se :=
  commaS (if o.length < s.broken then putS ⟨s.lines, o, s.broken - 1⟩ b else ⟨ext s.lines b, o, s.broken⟩) wh.comma
noncomputable def tellS (w : Nat) (s : Se) (p : Pc) : Se := if p.behind = true then { s with lines := ext s.lines (32 :: p.own) } else match p.kind with
  | .closing => match s.opened with
    | [] => s
    | wh :: o => closeS s wh o p.own
  | .opening => openS w (putS s (keyTold p.key ++ p.own)) p
  | _ => commaS (putS s (keyTold p.key ++ p.own)) p.comma
noncomputable def runS (w : Nat) (s : Se) (l : List Pc) : Se := l.foldl (tellS w) s
theorem run_app (w : Nat) (s : Se) (a b : List Pc) : runS w s (a ++ b) = runS w (runS w s a) b := List.foldl_append
mutual
noncomputable def T.flat : T → Bytes
  | .atom k b => keyTold k ++ b
  | .row k m l => keyTold k ++ (open_ m ++ (flats l ++ close_ m))
  | .note b _ => b
noncomputable def flats : List T → Bytes
  | [] => []
  | x :: r => x.flat ++ ((if r.any isV = true then [44, 32] else []) ++ flats r)
end
theorem noted_val {x : T} (h : x.noted = false) : isV x = true := by
  cases x with
  | note b h' => rw [T.noted] at h; cases h
  | atom => rfl
  | row => rfl
mutual
theorem flat_run (w : Nat) : ∀ (x : T) (c : Bool) (a : List Bytes) (y : Bytes) (o : List Pc) (n : Nat), x.noted = false → n < o.length →
    runS w ⟨a ++ [y], o, n⟩ (x.lin c) = ⟨a ++ [y ++ (x.flat ++ (if c = true then [44, 32] else []))], o, n⟩
  | .atom k b, c, a, y, o, n, _, h => by
    rw [T.lin, T.flat]
    simp only [runS, List.foldl_cons, List.foldl_nil, tellS]
    rw [if_neg (by simp)]
    have f1 : flatS ⟨a ++ [y], o, n⟩ = true := decide_eq_true h
    have f2 : flatS ⟨a ++ [y ++ (keyTold k ++ b)], o, n⟩ = true := decide_eq_true h
    unfold putS
    rw [if_pos f1]
    simp only
    rw [ext_snoc]
    unfold commaS
    cases c with
    | true => rw [if_pos rfl, if_pos f2, if_pos rfl]; simp only; rw [ext_snoc, List.append_assoc]
    | false => rw [if_neg (by simp), if_neg (by simp), List.append_nil]
  | .row k m l, c, a, y, o, n, hn, h => by
    rw [T.noted] at hn
    rw [T.lin, T.flat]
    have f1 : flatS ⟨a ++ [y], o, n⟩ = true := decide_eq_true h
    have e1 : runS w ⟨a ++ [y], o, n⟩ [hdP k (open_ m) ((keyTold k).length + 2) l c] = ⟨a ++ [y ++ (keyTold k ++ open_ m)], hdP k (open_ m) ((keyTold k).length + 2) l c :: o, n⟩ := by
      simp only [runS, List.foldl_cons, List.foldl_nil, tellS, hdP]
      rw [if_neg (by simp)]
      unfold putS
      rw [if_pos f1]
      simp only
      rw [ext_snoc]
      unfold openS
      have f2 : flatS ⟨a ++ [y ++ (keyTold k ++ open_ m)], o, n⟩ = true := decide_eq_true h
      rw [f2]
      simp
    rw [show hdP k (open_ m) ((keyTold k).length + 2) l c :: (lins l ++ [mk .closing [] (close_ m)]) = [hdP k (open_ m) ((keyTold k).length + 2) l c] ++ (lins l ++ [mk .closing [] (close_ m)]) from rfl]
    rw [run_app, run_app, e1, flats_run w l _ _ _ n hn (by rw [List.length_cons]; omega)]
    simp only [runS, List.foldl_cons, List.foldl_nil, tellS, mk]
    rw [if_neg (by simp)]
    unfold closeS
    simp only
    rw [if_neg (by omega), ext_snoc]
    unfold commaS
    simp only [hdP]
    have f3 : ∀ z, flatS ⟨a ++ [z], o, n⟩ = true := fun z => decide_eq_true h
    cases c with
    | true => rw [if_pos rfl, f3, if_pos rfl, if_pos rfl, ext_snoc]; simp [List.append_assoc]
    | false => rw [if_neg (by simp), if_neg (by simp)]; simp [List.append_assoc]
  | .note b h', c, a, y, o, n, hn, h => by rw [T.noted] at hn; cases hn
theorem flats_run (w : Nat) : ∀ (l : List T) (a : List Bytes) (y : Bytes) (o : List Pc) (n : Nat), noteds l = false → n < o.length →
    runS w ⟨a ++ [y], o, n⟩ (lins l) = ⟨a ++ [y ++ flats l], o, n⟩
  | [], a, y, o, n, _, h => by rw [lins, flats, List.append_nil]; rfl
  | x :: r, a, y, o, n, hn, h => by
    rw [noteds, Bool.or_eq_false_iff] at hn
    rw [lins, run_app, flat_run w x _ a y o n hn.1 h, flats_run w r a _ o n hn.2 h, flats]
    simp only [List.append_assoc]
end
mutual
theorem flat_len : ∀ (x : T), x.noted = false → x.flat.length = x.len
  | .atom k b, _ => by rw [T.flat, T.len, List.length_append]
  | .row k m l, h => by
    rw [T.noted] at h
    have := flats_len l h
    have e1 : (open_ m).length = 1 := by cases m <;> rfl
    have e2 : (close_ m).length = 1 := by cases m <;> rfl
    rw [T.flat, T.len, List.length_append, List.length_append, List.length_append, this, e1, e2]
    omega
  | .note b h', h => by rw [T.noted] at h; cases h
theorem flats_len : ∀ (l : List T), noteds l = false → (flats l).length = lens l
  | [], _ => by rw [flats, lens]; rfl
  | x :: r, h => by
    rw [noteds, Bool.or_eq_false_iff] at h
    rw [flats, lens, List.length_append, List.length_append, flat_len x h.1, flats_len r h.2, noted_val h.1, Bool.true_and]
    split <;> simp <;> omega
end
noncomputable def tailT (c : Bool) : Bytes := if c = true then [44] else []
noncomputable def breaks (w ind : Nat) (x : T) (c : Bool) (l : List T) : Bool := noteds l || (l.any isV && decide (w < ind + x.len + (tailT c).length))
mutual
noncomputable def T.lay (w : Nat) : T → Nat → Bool → List Bytes
  | .atom k b, ind, c => [spaces ind ++ (keyTold k ++ (b ++ tailT c))]
  | .row k m l, ind, c => if breaks w ind (.row k m l) c l = true then (spaces ind ++ (keyTold k ++ open_ m)) :: (lays w l (ind + 2) [] ++ [spaces ind ++ (close_ m ++ tailT c)])
      else [spaces ind ++ ((T.row k m l).flat ++ tailT c)]
  | .note b _, ind, _ => [spaces ind ++ b]
noncomputable def lays (w : Nat) : List T → Nat → List Bytes → List Bytes
  | [], _, acc => acc
  | x :: r, ind, acc => match x with
    | .note b h => lays w r ind (if h = true then ext acc (32 :: b) else acc ++ [spaces ind ++ b])
    | .atom k b => lays w r ind (acc ++ T.lay w (.atom k b) ind (r.any isV))
    | .row k m l => lays w r ind (acc ++ T.lay w (.row k m l) ind (r.any isV))
end
theorem lay_ne (w : Nat) (x : T) (ind : Nat) (c : Bool) : x.lay w ind c ≠ [] := by
  cases x with
  | atom k b => rw [T.lay]; simp
  | row k m l => rw [T.lay]; split <;> simp
  | note b h => rw [T.lay]; simp
theorem lays_val (w : Nat) {x : T} (h : isV x = true) (r : List T) (ind : Nat) (acc : List Bytes) : lays w (x :: r) ind acc = lays w r ind (acc ++ x.lay w ind (r.any isV)) := by
  cases x with
  | atom k b => rw [lays]
  | row k m l => rw [lays]
  | note b h' => cases h
mutual
theorem lay_run (w : Nat) : ∀ (x : T) (c : Bool) (L : List Bytes) (o : List Pc) (n : Nat), isV x = true → x.ok false → o.length = n →
    runS w ⟨L, o, n⟩ (x.lin c) = ⟨L ++ x.lay w (2 * n) c, o, n⟩
  | .atom k b, c, L, o, n, _, _, h => by
    rw [T.lin, T.lay]
    simp only [runS, List.foldl_cons, List.foldl_nil, tellS]
    rw [if_neg (by simp)]
    have f1 : ∀ L, flatS ⟨L, o, n⟩ = false := fun L => decide_eq_false (by simp only; omega)
    unfold putS
    rw [f1, if_neg (by simp)]
    unfold commaS tailT
    cases c with
    | true => rw [if_pos rfl, f1, if_neg (by simp), if_pos rfl]; simp only; rw [ext_snoc]; simp [List.append_assoc]
    | false => rw [if_neg (by simp), if_neg (by simp)]; simp [List.append_assoc]
  | .row k m l, c, L, o, n, _, ho, h => by
    rw [T.ok] at ho
    rw [T.lin, T.lay]
    have f1 : ∀ L, flatS ⟨L, o, n⟩ = false := fun L => decide_eq_false (by simp only; omega)
    have hb : ∀ L, mustB w ⟨L, o, n⟩ (hdP k (open_ m) ((keyTold k).length + 2) l c) = breaks w (2 * n) (.row k m l) c l := fun L => by
      unfold mustB breaks hdP tailT
      simp only [T.len]
      cases c <;> rfl
    rw [show hdP k (open_ m) ((keyTold k).length + 2) l c :: (lins l ++ [mk .closing [] (close_ m)]) = [hdP k (open_ m) ((keyTold k).length + 2) l c] ++ (lins l ++ [mk .closing [] (close_ m)]) from rfl]
    have e1 : runS w ⟨L, o, n⟩ [hdP k (open_ m) ((keyTold k).length + 2) l c] = openS w ⟨L ++ [spaces (2 * n) ++ (keyTold k ++ open_ m)], o, n⟩ (hdP k (open_ m) ((keyTold k).length + 2) l c) := by
      simp only [runS, List.foldl_cons, List.foldl_nil, tellS]
      rw [if_neg (by simp [hdP])]
      unfold putS
      rw [f1, if_neg (by simp)]
      rfl
    rw [run_app, run_app, e1]
    unfold openS
    rw [f1, hb, Bool.not_false, Bool.true_and]
    by_cases hB : breaks w (2 * n) (.row k m l) c l = true
    · rw [if_pos hB, if_pos hB]
      simp only
      have q := lays_run w l (L ++ [spaces (2 * n) ++ (keyTold k ++ open_ m)]) [] (hdP k (open_ m) ((keyTold k).length + 2) l c :: o) (n + 1) false ho (fun z => by cases z) (by rw [List.length_cons, h])
      rw [List.append_nil] at q
      rw [q]
      simp only [runS, List.foldl_cons, List.foldl_nil, tellS, mk]
      rw [if_neg (by simp)]
      unfold closeS
      simp only
      rw [if_pos (by omega), Nat.add_sub_cancel]
      unfold putS
      rw [f1, if_neg (by simp)]
      unfold commaS tailT
      simp only [hdP]
      cases c with
      | true => rw [if_pos rfl, f1, if_neg (by simp), if_pos rfl, ext_snoc]; simp [List.append_assoc, Nat.mul_add]
      | false => rw [if_neg (by simp), if_neg (by simp)]; simp [List.append_assoc, Nat.mul_add]
    · rw [if_neg hB, if_neg hB]
      have hn : noteds l = false := by
        unfold breaks at hB
        cases hx : noteds l with
        | false => rfl
        | true => rw [hx] at hB; exact absurd rfl hB
      simp only
      rw [flats_run w l _ _ _ n hn (by rw [List.length_cons]; omega)]
      simp only [runS, List.foldl_cons, List.foldl_nil, tellS, mk]
      rw [if_neg (by simp)]
      unfold closeS
      simp only
      rw [if_neg (by omega), ext_snoc]
      unfold commaS tailT
      simp only [hdP]
      rw [T.flat]
      cases c with
      | true => rw [if_pos rfl, f1, if_neg (by simp), if_pos rfl, ext_snoc]; simp [List.append_assoc]
      | false => rw [if_neg (by simp), if_neg (by simp)]; simp [List.append_assoc]
  | .note b h', c, L, o, n, hv, _, h => by cases hv
theorem lays_run (w : Nat) : ∀ (l : List T) (L acc : List Bytes) (o : List Pc) (n : Nat) (s : Bool), oks l s → (s = true → acc ≠ []) → o.length = n →
    runS w ⟨L ++ acc, o, n⟩ (lins l) = ⟨L ++ lays w l (2 * n) acc, o, n⟩
  | [], L, acc, o, n, s, _, _, h => by rw [lins, lays]; rfl
  | x :: r, L, acc, o, n, s, ho, hs, h => by
    rw [oks] at ho
    rw [lins, run_app]
    by_cases hv : isV x = true
    · have hok : x.ok false := by
        cases x with
        | note b h' => cases hv
        | atom => trivial
        | row => have := ho.1; rw [T.ok] at this ⊢; exact this
      rw [lay_run w x _ (L ++ acc) o n hv hok h, List.append_assoc, lays_run w r L _ o n (s || isV x) ho.2 (fun _ => by simp [lay_ne]) h, lays_val w hv]
    · cases x with
      | atom => exact absurd rfl hv
      | row => exact absurd rfl hv
      | note b h' =>
        have f1 : ∀ L, flatS ⟨L, o, n⟩ = false := fun L => decide_eq_false (by simp only; omega)
        have h1 := ho.1
        rw [T.ok] at h1
        have e : runS w ⟨L ++ acc, o, n⟩ (T.lin (.note b h') (r.any isV)) = ⟨L ++ (if h' = true then ext acc (32 :: b) else acc ++ [spaces (2 * n) ++ b]), o, n⟩ := by
          rw [T.lin]
          simp only [runS, List.foldl_cons, List.foldl_nil, tellS, mk]
          cases h' with
          | true => rw [if_pos rfl, if_pos rfl, ext_app (hs (h1 rfl))]
          | false =>
            rw [if_neg (by simp), if_neg (by simp)]
            unfold putS
            rw [f1, if_neg (by simp)]
            unfold commaS
            rw [if_neg (by simp)]
            simp [keyTold, List.append_assoc]
        rw [e, lays_run w r L _ o n (s || isV (.note b h')) ho.2 (fun z => ?_) h, lays]
        cases h' with
        | true => rw [if_pos rfl]; exact ext_ne (hs (h1 rfl)) _
        | false => rw [if_neg (by simp)]; simp
end
end Mir
set_option linter.all false
namespace Mir
open Sg51
theorem un_nil (n : Node) : un [] n = n := rfl
theorem un_key {k : Bytes} (h : k ≠ []) (n : Node) : un k n = .entry k n := by
  unfold un
  rw [if_neg h]
  rfl
theorem kt_nil : keyTold [] = [] := rfl
theorem kt_key {k : Bytes} (h : k ≠ []) : keyTold k = k ++ [58, 32] := by
  unfold keyTold
  rw [if_neg h]
theorem any_nodes : ∀ (l : List T), (nodes l).all isNote = !(l.any isV)
  | [] => by simp [nodes]
  | x :: r => by
    rw [nodes, List.all_cons, any_nodes r, List.any_cons, Bool.not_or]
    congr 1
    cases x with
    | note b h => rfl
    | atom k b =>
      rw [T.node]
      by_cases hk : k = []
      · subst hk; rfl
      · rw [un_key hk]; rfl
    | row k m l =>
      rw [T.node]
      by_cases hk : k = []
      · subst hk; rfl
      · rw [un_key hk]; rfl
mutual
theorem noted_node : ∀ (x : T) (f : Nat), 2 * x.ht + 2 ≤ f → Sg51.noted f x.node = x.noted
  | .atom k b, f, h => by
    obtain ⟨f, rfl⟩ : ∃ g, f = g + 2 := ⟨f - 2, by omega⟩
    rw [T.node, T.noted]
    by_cases hk : k = []
    · subst hk; rfl
    · rw [un_key hk]; rfl
  | .row k m l, f, h => by
    rw [T.ht] at h
    rw [T.node, T.noted]
    by_cases hk : k = []
    · subst hk
      obtain ⟨f, rfl⟩ : ∃ g, f = g + 1 := ⟨f - 1, by omega⟩
      rw [un_nil, Sg51.noted]
      exact noted_nodes l f (by omega)
    · obtain ⟨f, rfl⟩ : ∃ g, f = g + 2 := ⟨f - 2, by omega⟩
      rw [un_key hk, Sg51.noted, Sg51.noted]
      exact noted_nodes l f (by omega)
  | .note b h', f, h => by
    obtain ⟨f, rfl⟩ : ∃ g, f = g + 1 := ⟨f - 1, by omega⟩
    rw [T.node, T.noted]
    rfl
theorem noted_nodes : ∀ (l : List T) (f : Nat), 2 * hts l + 2 ≤ f → (nodes l).any (Sg51.noted f) = noteds l
  | [], f, h => by rw [nodes, noteds]; rfl
  | x :: r, f, h => by
    rw [hts] at h
    rw [nodes, noteds, List.any_cons, noted_node x f (by omega), noted_nodes r f (by omega)]
end
mutual
theorem flat_node : ∀ (x : T) (f : Nat), x.noted = false → 2 * x.ht + 2 ≤ f → Sg51.flat f x.node = x.flat
  | .atom k b, f, _, h => by
    obtain ⟨f, rfl⟩ : ∃ g, f = g + 2 := ⟨f - 2, by omega⟩
    rw [T.node, T.flat]
    by_cases hk : k = []
    · subst hk; rfl
    · rw [un_key hk, kt_key hk, Sg51.flat, Sg51.flat]; simp
  | .row k m l, f, hn, h => by
    rw [T.ht] at h
    rw [T.noted] at hn
    rw [T.node, T.flat]
    by_cases hk : k = []
    · subst hk
      obtain ⟨f, rfl⟩ : ∃ g, f = g + 1 := ⟨f - 1, by omega⟩
      rw [un_nil, Sg51.flat, flat_nodes l f hn (by omega), kt_nil]
      rfl
    · obtain ⟨f, rfl⟩ : ∃ g, f = g + 2 := ⟨f - 2, by omega⟩
      rw [un_key hk, kt_key hk, Sg51.flat, Sg51.flat, flat_nodes l f hn (by omega)]
      simp
  | .note b h', f, hn, h => by rw [T.noted] at hn; cases hn
theorem flat_nodes : ∀ (l : List T) (f : Nat), noteds l = false → 2 * hts l + 2 ≤ f → joined [44, 32] ((nodes l).map (Sg51.flat f)) = flats l
  | [], f, _, h => by rw [nodes, flats]; rfl
  | [x], f, hn, h => by
    rw [noteds, Bool.or_eq_false_iff] at hn
    rw [hts] at h
    rw [nodes, nodes, flats, flats, List.map_cons, List.map_nil, joined, flat_node x f hn.1 (by omega)]
    simp
  | x :: y :: r, f, hn, h => by
    rw [noteds, Bool.or_eq_false_iff] at hn
    rw [hts] at h
    have ih := flat_nodes (y :: r) f hn.2 (by omega)
    have hy : (y :: r).any isV = true := by
      have := hn.2
      rw [noteds, Bool.or_eq_false_iff] at this
      rw [List.any_cons, noted_val this.1]; rfl
    rw [nodes, flats, List.map_cons, flat_node x f hn.1 (by omega), ← ih, if_pos hy]
    rw [nodes, List.map_cons, joined]
    simp
end
noncomputable def stepF (f w ind : Nat) (l : List Node) (lines : List Bytes) (x : Node × Nat) : List Bytes := match x.1 with
  | .note b near => if near = true ∧ x.2 ≠ 0 then Sg51.behind lines b else lines ++ [spaces (ind + 2) ++ b]
  | v => lines ++ Sg51.lay f w (ind + 2) (spaces (ind + 2)) v (if ((l.drop (x.2 + 1)).all isNote) = true then [] else [44])
theorem stepF_val {f w ind : Nat} {l : List Node} {lines : List Bytes} {x : T} {i : Nat} (hv : isV x = true) : stepF f w ind l lines (x.node, i) = lines ++ Sg51.lay f w (ind + 2) (spaces (ind + 2)) x.node (if ((l.drop (i + 1)).all isNote) = true then [] else [44]) := by
  cases x with
  | note b h => cases hv
  | atom k b =>
    rw [T.node]
    by_cases hk : k = []
    · subst hk; rfl
    · rw [un_key hk]; rfl
  | row k m l =>
    rw [T.node]
    by_cases hk : k = []
    · subst hk; rfl
    · rw [un_key hk]; rfl
theorem lay_row (f w ind : Nat) (head : Bytes) (m : Bool) (l : List Node) (tail : Bytes) : Sg51.lay (f + 1) w ind head (.row m l) tail =
    if l.isEmpty = true ∨ (Sg51.noted (f + 1) (.row m l) = false ∧ (head ++ (Sg51.flat (f + 1) (.row m l) ++ tail)).length ≤ w) then [head ++ (Sg51.flat (f + 1) (.row m l) ++ tail)] else
      (head ++ open_ m) :: (l.zipIdx.foldl (stepF f w ind l) []) ++ [spaces ind ++ (close_ m ++ tail)] := by
  rw [Sg51.lay]
  rfl
theorem nodes_empty (l : List T) : (nodes l).isEmpty = l.isEmpty := by
  cases l with
  | nil => rw [nodes]; rfl
  | cons x r => rw [nodes]; rfl
theorem breaks_iff {w ind : Nat} {k : Bytes} {m c : Bool} {l : List T} : ¬ breaks w ind (.row k m l) c l = true ↔ l.isEmpty = true ∨ (noteds l = false ∧ ind + (T.row k m l).len + (tailT c).length ≤ w) := by
  unfold breaks
  cases l with
  | nil => simp [noteds]
  | cons x r =>
    simp only [List.isEmpty_cons, Bool.false_eq_true, false_or, Bool.or_eq_true, Bool.and_eq_true, decide_eq_true_eq, not_or, not_and, Bool.not_eq_true]
    constructor
    · rintro ⟨h1, h2⟩
      refine ⟨h1, ?_⟩
      have hv : (x :: r).any isV = true := by
        have := h1
        rw [noteds, Bool.or_eq_false_iff] at this
        rw [List.any_cons, noted_val this.1]; rfl
      have := h2 hv
      omega
    · rintro ⟨h1, h2⟩
      exact ⟨h1, fun _ => by omega⟩
mutual
theorem lay_node (w : Nat) : ∀ (x : T) (f ind : Nat) (c : Bool), isV x = true → x.ok false → 2 * x.ht + 2 ≤ f → Sg51.lay f w ind (spaces ind) x.node (tailT c) = x.lay w ind c
  | .atom k b, f, ind, c, _, _, h => by
    obtain ⟨f, rfl⟩ : ∃ g, f = g + 2 := ⟨f - 2, by omega⟩
    rw [T.node, T.lay]
    by_cases hk : k = []
    · subst hk
      rw [un_nil, kt_nil, Sg51.lay]
      rfl
    · rw [un_key hk, kt_key hk, Sg51.lay, Sg51.lay]
      simp
  | .row k m l, f, ind, c, _, ho, h => by
    rw [T.ht] at h
    rw [T.ok] at ho
    rw [T.node, T.lay]
    have main : ∀ g, 2 * hts l + 2 ≤ g → Sg51.lay (g + 1) w ind (spaces ind ++ keyTold k) (.row m (nodes l)) (tailT c) =
        if breaks w ind (.row k m l) c l = true then (spaces ind ++ (keyTold k ++ open_ m)) :: (lays w l (ind + 2) [] ++ [spaces ind ++ (close_ m ++ tailT c)])
        else [spaces ind ++ ((T.row k m l).flat ++ tailT c)] := fun g hg => by
      rw [lay_row, nodes_empty, Sg51.noted, noted_nodes l g hg]
      have fl : noteds l = false → Sg51.flat (g + 1) (.row m (nodes l)) = open_ m ++ (flats l ++ close_ m) := fun hn => by
        rw [Sg51.flat, flat_nodes l g hn hg]
      have hlen : noteds l = false → ((spaces ind ++ keyTold k) ++ (Sg51.flat (g + 1) (.row m (nodes l)) ++ tailT c)).length = ind + (T.row k m l).len + (tailT c).length := fun hn => by
        have q := flat_len (.row k m l) (by rw [T.noted]; exact hn)
        rw [T.flat] at q
        rw [fl hn, ← q]
        simp only [List.length_append, spaces, List.length_replicate]
        omega
      by_cases hB : breaks w ind (.row k m l) c l = true
      · have hn : ¬ (l.isEmpty = true ∨ (noteds l = false ∧ ((spaces ind ++ keyTold k) ++ (Sg51.flat (g + 1) (.row m (nodes l)) ++ tailT c)).length ≤ w)) := fun z => by
          refine absurd hB (breaks_iff.mpr ?_)
          rcases z with z | ⟨z1, z2⟩
          · exact .inl z
          · rw [hlen z1] at z2
            exact .inr ⟨z1, z2⟩
        rw [if_neg hn, if_pos hB]
        have q := lays_node w l g ind (nodes l) [] [] false ho (by simp) hg (fun z => by cases z)
        rw [List.length_nil] at q
        rw [q]
        simp
      · have hy := breaks_iff.mp hB
        have hn : noteds l = false := by
          rcases hy with z | z
          · cases l with
            | nil => rw [noteds]
            | cons a b => cases z
          · exact z.1
        rw [if_neg hB, if_pos (hy.imp id fun z => ⟨z.1, by rw [hlen hn]; exact z.2⟩), fl hn, T.flat]
        simp
    by_cases hk : k = []
    · subst hk
      obtain ⟨f, rfl⟩ : ∃ g, f = g + 1 := ⟨f - 1, by omega⟩
      have := main f (by omega)
      rw [kt_nil, List.append_nil] at this
      rw [un_nil, this, kt_nil]
    · obtain ⟨f, rfl⟩ : ∃ g, f = g + 2 := ⟨f - 2, by omega⟩
      have := main f (by omega)
      rw [un_key hk, Sg51.lay, ← kt_key hk, this]
  | .note b h', f, ind, c, hv, _, h => by cases hv
theorem lays_node (w : Nat) : ∀ (ts : List T) (f ind : Nat) (l pre : List Node) (acc : List Bytes) (s : Bool), oks ts s → l = pre ++ nodes ts → 2 * hts ts + 2 ≤ f → (s = true → acc ≠ [] ∧ pre ≠ []) →
    ((nodes ts).zipIdx pre.length).foldl (stepF f w ind l) acc = lays w ts (ind + 2) acc
  | [], f, ind, l, pre, acc, s, _, _, h, _ => by rw [nodes, lays]; rfl
  | x :: r, f, ind, l, pre, acc, s, ho, hl, h, hs => by
    rw [oks] at ho
    rw [hts] at h
    rw [nodes] at hl ⊢
    rw [List.zipIdx_cons, List.foldl_cons]
    have hl2 : l = (pre ++ [x.node]) ++ nodes r := by rw [hl]; simp
    by_cases hv : isV x = true
    · have hok : x.ok false := by
        cases x with
        | note b h' => cases hv
        | atom => trivial
        | row => have := ho.1; rw [T.ok] at this ⊢; exact this
      have ed : l.drop (pre.length + 1) = nodes r := by
        rw [hl2, List.drop_left' (by simp)]
      have et : (if ((l.drop (pre.length + 1)).all isNote) = true then ([] : Bytes) else [44]) = tailT (r.any isV) := by
        rw [ed, any_nodes]
        unfold tailT
        cases r.any isV <;> rfl
      rw [stepF_val hv, et, lay_node w x f (ind + 2) (r.any isV) hv hok (by omega), lays_val w hv]
      have q := lays_node w r f ind l (pre ++ [x.node]) (acc ++ x.lay w (ind + 2) (r.any isV)) (s || isV x) ho.2 hl2 (by omega) (fun _ => ⟨by simp [lay_ne], by simp⟩)
      rw [List.length_append, List.length_singleton] at q
      exact q
    · cases x with
      | atom => exact absurd rfl hv
      | row => exact absurd rfl hv
      | note b h' =>
        have h1 := ho.1
        rw [T.ok] at h1
        have e : stepF f w ind l acc (T.node (.note b h'), pre.length) = if h' = true then ext acc (32 :: b) else acc ++ [spaces (ind + 2) ++ b] := by
          rw [T.node]
          unfold stepF
          simp only
          cases h' with
          | true =>
            have z := hs (h1 rfl)
            rw [if_pos ⟨rfl, fun y => z.2 (List.length_eq_zero_iff.mp y)⟩, if_pos rfl, behind_ext z.1]
          | false => rw [if_neg (fun y => by cases y.1), if_neg (by simp)]
        rw [e, lays]
        have q := lays_node w r f ind l (pre ++ [T.node (.note b h')]) (if h' = true then ext acc (32 :: b) else acc ++ [spaces (ind + 2) ++ b]) (s || isV (.note b h')) ho.2 hl2 (by omega) (fun z => ⟨?_, by simp⟩)
        · rw [List.length_append, List.length_singleton] at q
          exact q
        · cases h' with
          | true => rw [if_pos rfl]; exact ext_ne (hs (h1 rfl)).1 _
          | false => rw [if_neg (by simp)]; simp
end
noncomputable def stepL (w : Nat) (r : List Bytes) (n : Node) : List Bytes := match n with
  | .note b near => if near = true then Sg51.behind r b else r ++ [b]
  | v => r ++ Sg51.lay FUEL w 0 [] v []
theorem stepL_val {w : Nat} {lines : List Bytes} {x : T} (hv : isV x = true) : stepL w lines x.node = lines ++ Sg51.lay FUEL w 0 [] x.node [] := by
  cases x with
  | note b h => cases hv
  | atom k b =>
    rw [T.node]
    by_cases hk : k = []
    · subst hk; rfl
    · rw [un_key hk]; rfl
  | row k m l =>
    rw [T.node]
    by_cases hk : k = []
    · subst hk; rfl
    · rw [un_key hk]; rfl
theorem lines_nodes (w : Nat) : ∀ (ts : List T) (acc : List Bytes) (s : Bool), oks ts s → one ts → hts ts ≤ 40 → (s = true → acc ≠ []) → (nodes ts).foldl (stepL w) acc = lays w ts 0 acc
  | [], acc, s, _, _, _, _ => by rw [nodes, lays]; rfl
  | x :: r, acc, s, ho, h1, hh, hs => by
    rw [oks] at ho
    rw [hts] at hh
    rw [nodes, List.foldl_cons]
    by_cases hv : isV x = true
    · have hok : x.ok false := by
        cases x with
        | note b h' => cases hv
        | atom => trivial
        | row => have := ho.1; rw [T.ok] at this ⊢; exact this
      have q := lay_node w x FUEL 0 false hv hok (by show 2 * x.ht + 2 ≤ 100; omega)
      have q : Sg51.lay FUEL w 0 [] x.node [] = x.lay w 0 false := q
      rw [stepL_val hv, q, lays_val w hv, h1.1 hv]
      exact lines_nodes w r _ (s || isV x) ho.2 h1.2 (by omega) (fun _ => by simp [lay_ne])
    · cases x with
      | atom => exact absurd rfl hv
      | row => exact absurd rfl hv
      | note b h' =>
        have h2 := ho.1
        rw [T.ok] at h2
        have e : stepL w acc (T.node (.note b h')) = if h' = true then ext acc (32 :: b) else acc ++ [spaces 0 ++ b] := by
          rw [T.node]
          unfold stepL
          simp only
          cases h' with
          | true => rw [if_pos rfl, if_pos rfl, behind_ext (hs (h2 rfl))]
          | false => rw [if_neg (by simp), if_neg (by simp)]; rfl
        rw [e, lays]
        refine lines_nodes w r _ (s || isV (.note b h')) ho.2 h1.2 (by omega) (fun z => ?_)
        cases h' with
        | true => rw [if_pos rfl]; exact ext_ne (hs (h2 rfl)) _
        | false => rw [if_neg (by simp)]; simp
theorem set_lines (w : Nat) {ts : List T} (ho : oks ts false) (h1 : one ts) (hh : hts ts ≤ 40) : (runS w ⟨[], [], 0⟩ (lins ts)).lines = Sg51.lines w (nodes ts) := by
  have q := lays_run w ts [] [] [] 0 false ho (fun z => by cases z) rfl
  rw [List.append_nil] at q
  rw [q]
  have e : Sg51.lines w (nodes ts) = (nodes ts).foldl (stepL w) [] := rfl
  rw [e, lines_nodes w ts [] false ho h1 hh (fun z => by cases z)]
  rfl
end Mir
set_option linter.all false
namespace Mir
open Sg51
noncomputable def dep : List Pc → Nat → Bool → Prop
  | [], _, _ => True
  | p :: r, d, s => if p.behind = true then s = true ∧ dep r d s else match p.kind with
    | .opening => d < 40 ∧ dep r (d + 1) true
    | .closing => 0 < d ∧ dep r (d - 1) true
    | _ => dep r d true
theorem dep_mono : ∀ {r : List Pc} {d : Nat}, dep r d false → dep r d true
  | [], _, _ => trivial
  | p :: r, d, h => by
    unfold dep at h ⊢
    split
    · rename_i hb
      rw [if_pos hb] at h
      cases h.1
    · rename_i hb
      rw [if_neg hb] at h
      exact h
theorem dep_up {r : List Pc} {d : Nat} {s : Bool} (h : dep r d s) : dep r d true := by
  cases s with
  | true => exact h
  | false => exact dep_mono h
mutual
theorem dep_lin : ∀ (x : T) (c : Bool) (d : Nat) (s : Bool) (rest : List Pc), isV x = true → x.ok false → d + x.ht ≤ 40 → dep rest d true → dep (x.lin c ++ rest) d s
  | .atom k b, c, d, s, rest, _, _, _, h => by
    rw [T.lin]
    show dep (_ :: rest) d s
    unfold dep
    rw [if_neg (by simp)]
    exact h
  | .row k m l, c, d, s, rest, _, ho, hd, h => by
    rw [T.ok] at ho
    rw [T.ht] at hd
    rw [T.lin]
    show dep (hdP k (open_ m) ((keyTold k).length + 2) l c :: (lins l ++ [mk .closing [] (close_ m)] ++ rest)) d s
    unfold dep
    rw [if_neg (by simp [hdP])]
    simp only [hdP]
    refine ⟨by omega, ?_⟩
    rw [List.append_assoc]
    refine dep_lins l (d + 1) true false _ ho (fun z => by cases z) (by omega) ?_
    show dep (mk .closing [] (close_ m) :: rest) (d + 1) true
    unfold dep
    rw [if_neg (by simp [mk])]
    simp only [mk]
    exact ⟨by omega, h⟩
  | .note b h', c, d, s, rest, hv, _, _, _ => by cases hv
theorem dep_lins : ∀ (l : List T) (d : Nat) (n s : Bool) (rest : List Pc), oks l s → (s = true → n = true) → d + hts l ≤ 40 → dep rest d n → dep (lins l ++ rest) d n
  | [], d, n, s, rest, _, _, _, h => by rw [lins]; exact h
  | x :: r, d, n, s, rest, ho, hs, hd, h => by
    rw [oks] at ho
    rw [hts] at hd
    rw [lins, List.append_assoc]
    by_cases hv : isV x = true
    · have hok : x.ok false := by
        cases x with
        | note b h' => cases hv
        | atom => trivial
        | row => have := ho.1; rw [T.ok] at this ⊢; exact this
      exact dep_lin x _ d n _ hv hok (by omega) (dep_lins r d true (s || isV x) rest ho.2 (fun _ => rfl) (by omega) (dep_up h))
    · cases x with
      | atom => exact absurd rfl hv
      | row => exact absurd rfl hv
      | note b h' =>
        have h1 := ho.1
        rw [T.ok] at h1
        rw [T.lin]
        show dep ({ mk .comment [] b with behind := h' } :: (lins r ++ rest)) d n
        unfold dep
        cases h' with
        | true =>
          rw [if_pos rfl]
          refine ⟨hs (h1 rfl), dep_lins r d n (s || isV (.note b true)) rest ho.2 (fun z => hs (h1 rfl)) (by omega) h⟩
        | false =>
          rw [if_neg (by simp)]
          exact dep_lins r d true (s || isV (.note b false)) rest ho.2 (fun _ => rfl) (by omega) (dep_up h)
end
noncomputable def tot (ls : List Bytes) : Nat := (ls.map List.length).sum
theorem tot_app (a b : List Bytes) : tot (a ++ b) = tot a + tot b := by
  unfold tot
  rw [List.map_append, List.sum_append]
theorem tot_one (b : Bytes) : tot [b] = b.length := by simp [tot]
theorem tot_ext (ls : List Bytes) (b : Bytes) : tot (ext ls b) ≤ tot ls + b.length := by
  rcases List.eq_nil_or_concat ls with h | ⟨a, x, h⟩
  · rw [h]; simp [ext, tot]
  · rw [h, List.concat_eq_append, ext_snoc, tot_app, tot_app, tot_one, tot_one, List.length_append]
    omega
theorem ext_len (ls : List Bytes) (b : Bytes) : (ext ls b).length = ls.length := by
  rcases List.eq_nil_or_concat ls with h | ⟨a, x, h⟩
  · rw [h]; rfl
  · rw [h, List.concat_eq_append, ext_snoc]; simp
theorem kt_len (k : Bytes) : (keyTold k).length ≤ k.length + 2 := by
  unfold keyTold
  split <;> simp
structure SI (s : Se) (rest : List Pc) : Prop where
  br : s.broken ≤ s.opened.length
  ne : s.opened ≠ [] → s.lines ≠ []
  dp : dep rest s.opened.length (!s.lines.isEmpty)
  tt : tot s.lines + 90 * rest.length + wt rest ≤ 2000000
  cn : s.lines.length + rest.length ≤ 20001
  op : s.opened.length ≤ 40
theorem isE {ls : List Bytes} : (!ls.isEmpty) = true ↔ ls ≠ [] := by cases ls <;> simp
theorem putS_facts (s : Se) (b : Bytes) (h : s.broken ≤ 40) (hn : s.opened ≠ [] → s.lines ≠ []) : tot (putS s b).lines ≤ tot s.lines + b.length + 80 ∧ (putS s b).lines.length ≤ s.lines.length + 1 ∧ (putS s b).opened = s.opened ∧ (putS s b).broken = s.broken ∧ (putS s b).lines ≠ [] := by
  unfold putS
  split
  · rename_i hf
    have hf : s.broken < s.opened.length := of_decide_eq_true hf
    have hne : s.lines ≠ [] := hn (fun z => by rw [z] at hf; simp at hf)
    have := tot_ext s.lines b
    refine ⟨by simp only; omega, by simp only [ext_len]; omega, rfl, rfl, ext_ne hne b⟩
  · refine ⟨?_, by simp, rfl, rfl, by simp⟩
    simp only
    rw [tot_app, tot_one, List.length_append, spaces, List.length_replicate]
    omega
theorem commaS_facts (s : Se) (c : Bool) (hn : s.lines ≠ []) : tot (commaS s c).lines ≤ tot s.lines + 2 ∧ (commaS s c).lines.length = s.lines.length ∧ (commaS s c).opened = s.opened ∧ (commaS s c).broken = s.broken ∧ (commaS s c).lines ≠ [] := by
  unfold commaS
  split
  · split
    · have := tot_ext s.lines [44, 32]
      exact ⟨by simpa using this, by simp only [ext_len], rfl, rfl, ext_ne hn _⟩
    · have := tot_ext s.lines [44]
      refine ⟨?_, by simp only [ext_len], rfl, rfl, ext_ne hn _⟩
      simp only [List.length_singleton] at this ⊢
      omega
  · exact ⟨by omega, rfl, rfl, rfl, hn⟩
theorem wt_cons (p : Pc) (r : List Pc) : wt (p :: r) = p.key.length + p.own.length + wt r := by simp [wt]
theorem SI.step {w : Nat} {s : Se} {p : Pc} {rest : List Pc} (I : SI s (p :: rest)) : SI (tellS w s p) rest := by
  obtain ⟨i1, i2, i3, i4, i5, i6⟩ := I
  rw [wt_cons] at i4
  simp only [List.length_cons] at i4 i5
  unfold dep at i3
  have hk := kt_len p.key
  have hkl : (keyTold p.key ++ p.own).length ≤ p.key.length + 2 + p.own.length := by rw [List.length_append]; omega
  unfold tellS
  by_cases hb : p.behind = true
  · rw [if_pos hb] at i3 ⊢
    have hne := isE.mp i3.1
    have := tot_ext s.lines (32 :: p.own)
    simp only [List.length_cons] at this
    refine ⟨i1, fun z => ext_ne hne _, ?_, by simp only; omega, by simp only [ext_len]; omega, i6⟩
    have e : (!(ext s.lines (32 :: p.own)).isEmpty) = true := isE.mpr (ext_ne hne _)
    simp only
    rw [e]
    exact dep_up i3.2
  · rw [if_neg hb] at i3 ⊢
    have pf := putS_facts s (keyTold p.key ++ p.own) (by omega) i2
    have plain : ∀ (hd : dep rest s.opened.length true), SI (commaS (putS s (keyTold p.key ++ p.own)) p.comma) rest := fun hd => by
      obtain ⟨p1, p2, p3, p4, p5⟩ := pf
      obtain ⟨c1, c2, c3, c4, c5⟩ := commaS_facts (putS s (keyTold p.key ++ p.own)) p.comma p5
      refine ⟨by rw [c3, c4, p3, p4]; exact i1, fun _ => c5, ?_, by omega, by omega, by rw [c3, p3]; exact i6⟩
      rw [isE.mpr c5, c3, p3]
      exact hd
    cases hkd : p.kind with
    | plain => rw [hkd] at i3; exact plain i3
    | comment => rw [hkd] at i3; exact plain i3
    | opening =>
      rw [hkd] at i3
      simp only at i3 ⊢
      obtain ⟨p1, p2, p3, p4, p5⟩ := pf
      unfold openS
      split
      · refine ⟨?_, fun _ => p5, ?_, by simp only; omega, by simp only; omega, ?_⟩
        · simp only [List.length_cons]
          rw [p4, p3]; omega
        · simp only [List.length_cons]
          rw [isE.mpr p5, p3]
          exact i3.2
        · simp only [List.length_cons]
          rw [p3]; omega
      · refine ⟨?_, fun _ => p5, ?_, by simp only; omega, by simp only; omega, ?_⟩
        · simp only [List.length_cons]
          rw [p4, p3]; omega
        · simp only [List.length_cons]
          rw [isE.mpr p5, p3]
          exact i3.2
        · simp only [List.length_cons]
          rw [p3]; omega
    | closing =>
      rw [hkd] at i3
      simp only at i3 ⊢
      cases ho : s.opened with
      | nil => rw [ho] at i3; exact absurd i3.1 (by simp)
      | cons wh o =>
        rw [ho] at i3 i6 i1
        simp only [List.length_cons, Nat.add_sub_cancel] at i3 i6 i1
        have hne : s.lines ≠ [] := i2 (by rw [ho]; simp)
        simp only
        unfold closeS
        have key : ∀ s2 : Se, s2.opened = o → s2.broken ≤ o.length → s2.lines ≠ [] → tot s2.lines ≤ tot s.lines + p.own.length + 80 → s2.lines.length ≤ s.lines.length + 1 → SI (commaS s2 wh.comma) rest := fun s2 e1 e2 e3 e4 e5 => by
          obtain ⟨c1, c2, c3, c4, c5⟩ := commaS_facts s2 wh.comma e3
          refine ⟨by rw [c3, c4, e1]; exact e2, fun _ => c5, ?_, by omega, by omega, by rw [c3, e1]; omega⟩
          rw [isE.mpr c5, c3, e1]
          exact i3.2
        split
        · rename_i hlt
          have pf := putS_facts ⟨s.lines, o, s.broken - 1⟩ p.own (by simp only; omega) (fun _ => hne)
          obtain ⟨p1, p2, p3, p4, p5⟩ := pf
          refine key _ p3 ?_ p5 p1 p2
          rw [p4]
          simp only
          omega
        · have := tot_ext s.lines p.own
          refine key _ rfl ?_ (ext_ne hne _) ?_ ?_
          · simp only; omega
          · simp only; omega
          · simp only [ext_len]; omega
theorem SI.start {ts : List T} (ho : oks ts false) (hh : hts ts ≤ 40) (hw : wt (lins ts) ≤ 20000) (hl : (lins ts).length ≤ 20001) : SI ⟨[], [], 0⟩ (lins ts) := by
  have d := dep_lins ts 0 false false [] ho (fun z => by cases z) (by omega) trivial
  rw [List.append_nil] at d
  exact ⟨Nat.le_refl _, fun z => absurd rfl z, d, by simp [tot]; omega, by simp; omega, by decide⟩
end Mir
set_option linter.all false
namespace Mir
open Sg51
noncomputable def nl (b : Bytes) : Prop := ∀ x ∈ b, x ≠ 10
theorem nl_nil : nl [] := fun x h => by cases h
theorem nl_app {a b : Bytes} (ha : nl a) (hb : nl b) : nl (a ++ b) := fun x h => (List.mem_append.mp h).elim (ha x) (hb x)
theorem nl_cons {c : Nat} {b : Bytes} (hc : c ≠ 10) (hb : nl b) : nl (c :: b) := fun x h => (List.mem_cons.mp h).elim (fun e => by rw [e]; exact hc) (hb x)
theorem nl_rep (n : Nat) : nl (spaces n) := fun x h => by
  unfold spaces at h
  rw [(List.mem_replicate.mp h).2]
  decide
theorem plain_nl {c : Nat} (h : plain c = true) : c ≠ 10 := fun z => by rw [z] at h; exact absurd h (by decide)
theorem word_nl {c : Nat} (h : wordByte c = true) : c ≠ 10 := fun z => by rw [z] at h; exact absurd h (by decide)
theorem string_nl : ∀ (s a : Bytes) {b r : Bytes}, Sg51.string s a = .ok (b, r) → nl a → nl b
  | [], a, b, r, h, _ => by cases h
  | [c], a, b, r, h, ha => by
    rw [Sg51.string] at h
    split at h
    · cases h; exact nl_app ha (nl_cons (by decide) nl_nil)
    · split at h <;> cases h
  | c :: e :: s, a, b, r, h, ha => by
    rw [Sg51.string] at h
    split at h
    · cases h; exact nl_app ha (nl_cons (by decide) nl_nil)
    · split at h
      · split at h
        · rename_i he
          refine string_nl s _ h (nl_app ha (nl_cons (by decide) (nl_cons ?_ nl_nil)))
          rcases he with z | z | z <;> (rw [z]; decide)
        · cases h
      · split at h
        · rename_i hp
          exact string_nl (e :: s) _ h (nl_app ha (nl_cons (plain_nl hp) nl_nil))
        · cases h
theorem tw_nl {p : Nat → Bool} (hp : ∀ c, p c = true → c ≠ 10) : ∀ (s : Bytes), nl (s.takeWhile p)
  | [] => nl_nil
  | c :: s => by
    rw [List.takeWhile_cons]
    split
    · rename_i h
      exact nl_cons (hp c h) (tw_nl hp s)
    · exact nl_nil
theorem atom_nl {s b r : Bytes} (h : Sg51.atom s = .ok (b, r)) : nl b := by
  unfold Sg51.atom at h
  cases s with
  | nil => cases h
  | cons c s =>
    simp only at h
    split at h
    · exact string_nl _ _ h (nl_cons (by decide) nl_nil)
    · split at h
      · cases h
        exact tw_nl (fun c hc => word_nl hc) _
      · cases h
theorem trim_nl {b : Bytes} (h : nl b) : nl (trimmed b) := fun x hx => by
  unfold trimmed at hx
  rw [List.mem_reverse] at hx
  have := (List.dropWhile_sublist _).subset hx
  rw [List.mem_reverse] at this
  exact h x this
mutual
noncomputable def nlN : Node → Prop
  | .atom b => nl b
  | .row _ l => nlNs l
  | .note b _ => nl b
  | .entry k v => nl k ∧ nlN v
noncomputable def nlNs : List Node → Prop
  | [] => True
  | x :: r => nlN x ∧ nlNs r
end
theorem nlNs_snoc : ∀ {l : List Node} {x : Node}, nlNs l → nlN x → nlNs (l ++ [x])
  | [], x, _, h => ⟨h, trivial⟩
  | y :: r, x, h, hx => by
    rw [nlNs] at h
    rw [List.cons_append, nlNs]
    exact ⟨h.1, nlNs_snoc h.2 hx⟩
theorem keyed_nl {m : Bool} {l : List Node} {s : Bytes} {k : Bytes} {u : Bytes} (h : keyed m l s = .ok (some k, u)) : nl k := by
  unfold keyed at h
  split at h
  · cases h
  · split at h
    · cases h
    · rename_i b r ha
      split at h
      · cases h
      · split at h
        · split at h
          · cases h
            exact atom_nl ha
          · cases h
        · cases h
theorem under_nl {m : Bool} {l : List Node} {s : Bytes} {k : Option Bytes} {u : Bytes} {v : Node} (h : keyed m l s = .ok (k, u)) (hv : nlN v) (he : keyOf v = none) : nlN (under k v) ∧ (m = false → keyOf (under k v) = none) := by
  cases k with
  | none => exact ⟨hv, fun _ => he⟩
  | some b =>
    refine ⟨?_, fun hm => ?_⟩
    · show nlN (.entry b v)
      rw [nlN]
      exact ⟨keyed_nl h, hv⟩
    · rw [hm] at h
      unfold keyed at h
      rw [if_pos rfl] at h
      cases h
noncomputable def Rq (m : Bool) (l : List Node) : Prop := nlNs l ∧ (m = false → ∀ x ∈ l, keyOf x = none)
theorem Rq.snoc {m : Bool} {l : List Node} {x : Node} (h : Rq m l) (hx : nlN x ∧ (m = false → keyOf x = none)) : Rq m (l ++ [x]) :=
  ⟨nlNs_snoc h.1 hx.1, fun hm y hy => (List.mem_append.mp hy).elim (h.2 hm y) fun e => by rw [List.mem_singleton.mp e]; exact hx.2 hm⟩
theorem parts_rq : ∀ (f d : Nat) (close : Option Nat) (map may near : Bool) (l : List Node) (s : Bytes) {l' : List Node} {r' : Bytes}, parts f d close map may near l s = .ok (l', r') → Rq map l → Rq map l' ∧ (close = none → may = true ∨ l ≠ [] → l' ≠ [])
  | 0, d, close, map, may, near, l, s, l', r', h, _ => by rw [parts] at h; cases h
  | f + 1, d, close, map, may, near, l, s, l', r', h, hl => by
    have nx : ∀ {l1 : List Node} {x : Node} {m1 n1 : Bool} {s1 : Bytes}, parts f d close map m1 n1 (l1 ++ [x]) s1 = .ok (l', r') → Rq map (l1 ++ [x]) → Rq map l' ∧ (close = none → may = true ∨ l ≠ [] → l' ≠ []) := fun h1 h2 =>
      let q := parts_rq f d close map _ _ _ _ h1 h2
      ⟨q.1, fun hc _ => q.2 hc (.inr (by simp))⟩
    rw [parts] at h
    simp only at h
    cases hb : (blanks s).1 with
    | nil =>
      rw [hb] at h
      simp only at h
      split at h
      · rename_i hc
        cases h
        exact ⟨hl, fun _ z => z.elim (fun z => by rw [z] at hc; cases hc.2) id⟩
      · cases h
    | cons c r =>
      rw [hb] at h
      simp only at h
      split at h
      · split at h
        · exact nx h (hl.snoc ⟨by rw [nlN]; exact trim_nl (nl_cons (by decide) (tw_nl (fun c hc => plain_nl hc) _)), fun _ => rfl⟩)
        · cases h
      · split at h
        · rename_i hc
          cases h
          exact ⟨hl, fun z => by rw [z] at hc; cases hc⟩
        · split at h
          · cases h
          · cases hk : keyed map l (c :: r) with
            | error e => rw [hk] at h; cases h
            | ok ku =>
              obtain ⟨k, u⟩ := ku
              rw [hk] at h
              simp only at h
              split at h
              · cases h
              · rename_i v z hv
                have gv : nlN v ∧ keyOf v = none := by
                  cases u with
                  | nil => cases hv
                  | cons o w =>
                    simp only at hv
                    split at hv
                    · split at hv
                      · cases hv
                      · split at hv
                        · cases hv
                        · rename_i m z' hp
                          cases hv
                          rw [nlN]
                          exact ⟨(parts_rq f (d + 1) (some (o + 2)) (o == 123) true false [] w hp ⟨by rw [nlNs]; trivial, fun _ x hx => by cases hx⟩).1.1, rfl⟩
                    · split at hv
                      · cases hv
                      · rename_i a z' ha
                        cases hv
                        rw [nlN]
                        exact ⟨atom_nl ha, rfl⟩
                have g2 := hl.snoc (under_nl hk gv.1 gv.2)
                split at h
                · split at h
                  · split at h
                    · cases h
                    · exact nx h g2
                  · exact nx h g2
                · exact nx h g2
theorem read_rq {s : Bytes} {l : List Node} (h : Sg51.read s = .ok l) : Rq false l ∧ l ≠ [] := by
  unfold Sg51.read at h
  split at h
  · cases h
  · split at h
    · rename_i l2 r2 hp
      cases h
      have q := parts_rq _ _ _ _ _ _ _ _ hp ⟨by rw [nlNs]; trivial, fun _ x hx => by cases hx⟩
      exact ⟨q.1, q.2 rfl (.inl rfl)⟩
    · cases h
theorem read_nl {s : Bytes} {l : List Node} (h : Sg51.read s = .ok l) : nlNs l := (read_rq h).1.1
theorem nl_open (m : Bool) : nl (open_ m) := by cases m <;> exact nl_cons (by decide) nl_nil
theorem nl_close (m : Bool) : nl (close_ m) := by cases m <;> exact nl_cons (by decide) nl_nil
noncomputable def nlL (ls : List Bytes) : Prop := ∀ b ∈ ls, nl b
theorem nlL_snoc {ls : List Bytes} {b : Bytes} (h : nlL ls) (hb : nl b) : nlL (ls ++ [b]) := fun x hx => (List.mem_append.mp hx).elim (h x) fun e => by rw [List.mem_singleton.mp e]; exact hb
theorem nlL_ext {ls : List Bytes} {b : Bytes} (h : nlL ls) (hb : nl b) : nlL (ext ls b) := by
  by_cases hn : ls = []
  · subst hn; exact h
  · obtain ⟨a, x, rfl⟩ : ∃ a x, ls = a ++ [x] := ⟨_, _, (List.dropLast_concat_getLast hn).symm⟩
    rw [ext_snoc]
    exact nlL_snoc (fun y hy => h y (by simp [hy])) (nl_app (h x (by simp)) hb)
theorem nlNs_mem : ∀ {l : List Node}, nlNs l → ∀ x ∈ l, nlN x
  | [], _, x, h => by cases h
  | y :: r, h, x, hx => by
    rw [nlNs] at h
    rcases List.mem_cons.mp hx with e | e
    · rw [e]; exact h.1
    · exact nlNs_mem h.2 x e
theorem joined_nl {s : Bytes} (hs : nl s) : ∀ {l : List Bytes}, (∀ b ∈ l, nl b) → nl (joined s l)
  | [], _ => nl_nil
  | [b], h => h b List.mem_cons_self
  | b :: c :: r, h => by
    show nl (b ++ (s ++ joined s (c :: r)))
    exact nl_app (h b List.mem_cons_self) (nl_app hs (joined_nl hs fun x hx => h x (List.mem_cons_of_mem _ hx)))
theorem flat_nl : ∀ (f : Nat) (n : Node), nlN n → nl (Sg51.flat f n)
  | 0, _, _ => nl_nil
  | f + 1, n, h => by
    cases n with
    | atom b => rw [nlN] at h; exact h
    | note b h' => rw [nlN] at h; exact h
    | entry k v =>
      rw [nlN] at h
      exact nl_app h.1 (nl_cons (by decide) (nl_cons (by decide) (flat_nl f v h.2)))
    | row m l =>
      rw [nlN] at h
      refine nl_app (nl_open m) (nl_app (joined_nl (nl_cons (by decide) (nl_cons (by decide) nl_nil)) fun b hb => ?_) (nl_close m))
      obtain ⟨x, hx, rfl⟩ := List.mem_map.mp hb
      exact flat_nl f x (nlNs_mem h x hx)
theorem behind_nl {ls : List Bytes} {b : Bytes} (h : nlL ls) (hb : nl b) : nlL (Sg51.behind ls b) := by
  by_cases hn : ls = []
  · subst hn
    intro x hx
    have hx : x ∈ [b] := hx
    rw [List.mem_singleton.mp hx]
    exact hb
  · rw [behind_ext hn]
    exact nlL_ext h (nl_cons (by decide) hb)
theorem nlL_app {a b : List Bytes} (ha : nlL a) (hb : nlL b) : nlL (a ++ b) := fun x h => (List.mem_append.mp h).elim (ha x) (hb x)
theorem nlL_one {b : Bytes} (h : nl b) : nlL [b] := fun x hx => by rw [List.mem_singleton.mp hx]; exact h
theorem fold_inv {α β : Type} (P : β → Prop) (f : β → α → β) : ∀ (l : List α) (b : β), P b → (∀ b, P b → ∀ x ∈ l, P (f b x)) → P (l.foldl f b)
  | [], b, h, _ => h
  | x :: r, b, h, hf => fold_inv P f r (f b x) (hf b h x List.mem_cons_self) fun b' h' y hy => hf b' h' y (List.mem_cons_of_mem _ hy)
theorem lay_nl : ∀ (f w ind : Nat) (head : Bytes) (n : Node) (tail : Bytes), nl head → nlN n → nl tail → nlL (Sg51.lay f w ind head n tail)
  | 0, _, _, _, _, _, _, _, _ => fun x hx => by cases hx
  | f + 1, w, ind, head, n, tail, hh, h, ht => by
    cases n with
    | atom b => rw [nlN] at h; exact nlL_one (nl_app hh (nl_app h ht))
    | note b h' => rw [nlN] at h; exact nlL_one (nl_app hh h)
    | entry k v =>
      rw [nlN] at h
      exact lay_nl f w ind _ v tail (nl_app hh (nl_app h.1 (nl_cons (by decide) (nl_cons (by decide) nl_nil)))) h.2 ht
    | row m l =>
      rw [lay_row]
      split
      · exact nlL_one (nl_app hh (nl_app (flat_nl (f + 1) _ h) ht))
      · rw [nlN] at h
        refine fun x hx => ?_
        rcases List.mem_cons.mp hx with e | e
        · rw [e]; exact nl_app hh (nl_open m)
        · refine nlL_app ?_ (nlL_one (nl_app (nl_rep _) (nl_app (nl_close m) ht))) x e
          refine fold_inv nlL _ _ _ (fun x hx => by cases hx) fun ls hls y hy => ?_
          have hy1 : nlN y.1 := nlNs_mem h y.1 (by
            obtain ⟨z, i⟩ := y
            exact (List.mem_zipIdx' hy).2 ▸ List.getElem_mem _)
          unfold stepF
          split
          · rename_i b near e
            rw [e, nlN] at hy1
            split
            · exact behind_nl hls hy1
            · exact nlL_snoc hls (nl_app (nl_rep _) hy1)
          · refine nlL_app hls (lay_nl f w _ _ _ _ (nl_rep _) hy1 ?_)
            split
            · exact nl_nil
            · exact nl_cons (by decide) nl_nil
theorem lines_nl (w : Nat) {l : List Node} (h : nlNs l) : nlL (Sg51.lines w l) := by
  have e : Sg51.lines w l = l.foldl (stepL w) [] := rfl
  rw [e]
  refine fold_inv nlL _ _ _ (fun x hx => by cases hx) fun ls hls y hy => ?_
  have hy1 := nlNs_mem h y hy
  unfold stepL
  split
  · rename_i b near
    rw [nlN] at hy1
    split
    · exact behind_nl hls hy1
    · exact nlL_snoc hls hy1
  · exact nlL_app hls (lay_nl _ _ _ _ _ _ nl_nil hy1 nl_nil)
theorem behind_ne (ls : List Bytes) (b : Bytes) : Sg51.behind ls b ≠ [] := by
  by_cases hn : ls = []
  · subst hn; simp [Sg51.behind]
  · rw [behind_ext hn]; exact ext_ne hn _
theorem stepL_ne {w : Nat} {ls : List Bytes} {x : Node} (h : keyOf x = none) : stepL w ls x ≠ [] := by
  cases x with
  | note b near =>
    unfold stepL
    simp only
    split
    · exact behind_ne ls b
    · simp
  | atom b => show ls ++ _ ≠ []; simp [Sg51.lay, FUEL]
  | row m l =>
    show ls ++ Sg51.lay (99 + 1) w 0 [] (.row m l) [] ≠ []
    rw [lay_row]
    split <;> simp
  | entry k v => cases h
theorem lines_ne (w : Nat) {s : Bytes} {l : List Node} (h : Sg51.read s = .ok l) : Sg51.lines w l ≠ [] := by
  obtain ⟨⟨_, hg⟩, hne⟩ := read_rq h
  have hg := hg rfl
  have e : Sg51.lines w l = l.foldl (stepL w) [] := rfl
  rw [e]
  cases l with
  | nil => exact absurd rfl hne
  | cons x r =>
    rw [List.foldl_cons]
    exact fold_inv (fun ls => ls ≠ []) _ _ _ (stepL_ne (hg x List.mem_cons_self)) fun ls _ y hy => stepL_ne (hg y (List.mem_cons_of_mem _ hy))
noncomputable def plc : Nat → Bytes → List Nat
  | _, [] => []
  | p, x :: r => if x = 10 then (p + 1) :: plc (p + 1) r else plc (p + 1) r
noncomputable def endsOf : Nat → List Bytes → List Nat
  | _, [] => []
  | p, b :: r => (p + b.length + 1) :: endsOf (p + b.length + 1) r
theorem plc_line : ∀ (b : Bytes) (p : Nat) (r : Bytes), nl b → plc p (b ++ (10 :: r)) = (p + b.length + 1) :: plc (p + b.length + 1) r
  | [], p, r, _ => by rw [List.nil_append, plc, if_pos rfl]; rfl
  | c :: b, p, r, h => by
    rw [List.cons_append, plc, if_neg (h c List.mem_cons_self), plc_line b (p + 1) r (fun x hx => h x (List.mem_cons_of_mem _ hx)), List.length_cons]
    congr 1
    · omega
    · congr 1
      omega
theorem plc_ends : ∀ (ls : List Bytes) (p : Nat), nlL ls → plc p (ls.flatMap fun b => b ++ [10]) = endsOf p ls
  | [], p, _ => rfl
  | b :: r, p, h => by
    have e : ((b :: r).flatMap fun b => b ++ [10]) = b ++ (10 :: (r.flatMap fun b => b ++ [10])) := by simp
    rw [e, plc_line b p _ (h b List.mem_cons_self), plc_ends r _ (fun x hx => h x (List.mem_cons_of_mem _ hx)), endsOf]
theorem plc_snoc : ∀ (a : Bytes) (p x : Nat), plc p (a ++ [x]) = plc p a ++ (if x = 10 then [p + a.length + 1] else [])
  | [], p, x => by
    rw [List.nil_append, plc, plc]
    split <;> rfl
  | c :: a, p, x => by
    rw [List.cons_append, plc, plc, plc_snoc a (p + 1) x, List.length_cons]
    have e : p + 1 + a.length + 1 = p + (a.length + 1) + 1 := by omega
    rw [e]
    split
    · rfl
    · rfl
theorem ends_len : ∀ (ls : List Bytes) (p : Nat), (endsOf p ls).length = ls.length
  | [], _ => rfl
  | b :: r, p => by rw [endsOf, List.length_cons, ends_len r, List.length_cons]
theorem ends_at : ∀ (ls : List Bytes) (p i : Nat) {b : Bytes}, ls[i]? = some b → ∃ u v, (p :: endsOf p ls)[i]? = some u ∧ (endsOf p ls)[i]? = some v ∧ v = u + b.length + 1
  | [], p, i, b, h => by simp at h
  | c :: r, p, 0, b, h => by
    have h : c = b := by simpa using h
    subst h
    exact ⟨p, p + c.length + 1, rfl, rfl, rfl⟩
  | c :: r, p, i + 1, b, h => by
    obtain ⟨u, v, h1, h2, h3⟩ := ends_at r (p + c.length + 1) i (b := b) (by simpa using h)
    exact ⟨u, v, by rw [endsOf]; simpa using h1, by rw [endsOf]; simpa using h2, h3⟩
theorem max_le : ∀ (ls : List Bytes) (m : Nat), m ≤ ls.foldl (fun (m : Nat) (b : Bytes) => max m b.length) m ∧ ∀ b ∈ ls, b.length ≤ ls.foldl (fun (m : Nat) (b : Bytes) => max m b.length) m
  | [], m => ⟨Nat.le_refl _, fun b h => by cases h⟩
  | c :: r, m => by
    obtain ⟨h1, h2⟩ := max_le r (max m c.length)
    rw [List.foldl_cons]
    refine ⟨Nat.le_trans (Nat.le_max_left _ _) h1, fun b hb => ?_⟩
    rcases List.mem_cons.mp hb with e | e
    · rw [e]; exact Nat.le_trans (Nat.le_max_right _ _) h1
    · exact h2 b e
theorem max_mem : ∀ (ls : List Bytes) (m : Nat), ls.foldl (fun (m : Nat) (b : Bytes) => max m b.length) m = m ∨ ∃ b ∈ ls, b.length = ls.foldl (fun (m : Nat) (b : Bytes) => max m b.length) m
  | [], m => .inl rfl
  | c :: r, m => by
    rw [List.foldl_cons]
    rcases max_mem r (max m c.length) with h | ⟨b, hb, h⟩
    · rw [h]
      rcases Nat.le_total m c.length with z | z
      · exact .inr ⟨c, List.mem_cons_self, (Nat.max_eq_right z).symm⟩
      · exact .inl (Nat.max_eq_left z)
    · exact .inr ⟨b, List.mem_cons_of_mem _ hb, h⟩
noncomputable def mx (ls : List Bytes) : Nat := ls.foldl (fun (m : Nat) (b : Bytes) => max m b.length) 0
theorem mx_is {ls : List Bytes} (h : ls ≠ []) {m : Int} (h1 : m ∈ ls.map fun b => (b.length : Int)) (h2 : ∀ y ∈ ls.map (fun b => (b.length : Int)), y ≤ m) : m = (mx ls : Nat) := by
  obtain ⟨b, hb, rfl⟩ := List.mem_map.mp h1
  have a1 := (max_le ls 0).2 b hb
  have a2 : mx ls ≤ b.length := by
    rcases max_mem ls 0 with z | ⟨c, hc, z⟩
    · unfold mx; rw [z]; exact Nat.zero_le _
    · have := h2 _ (List.mem_map_of_mem hc)
      unfold mx
      omega
  have a1 : b.length ≤ mx ls := a1
  omega
end Mir
set_option linter.all false
set_option maxRecDepth 100000
set_option maxHeartbeats 4000000
namespace Prg
open PySem PySem.Spec PyProof.Rows L2
noncomputable abbrev St := L2.St
noncomputable def top (i : Nat) : Stmt := PySem.Challenge.pw_setlines_s06_measure.main.body.getD i (.Pass ⟨0, 0, 0, 0⟩)
noncomputable abbrev sWInit : Stmt := inClass (top 24) 0
noncomputable abbrev sPInit : Stmt := inClass (top 25) 0
noncomputable abbrev sLInit : Stmt := inClass (top 26) 0
noncomputable abbrev sLAdd : Stmt := inClass (top 26) 1
noncomputable abbrev sRInit : Stmt := inClass (top 27) 0
noncomputable abbrev sRead : Stmt := inClass (top 27) 1
noncomputable abbrev sSkip : Stmt := inClass (top 27) 2
noncomputable abbrev sNext : Stmt := inClass (top 27) 3
noncomputable abbrev sComment : Stmt := inClass (top 27) 4
noncomputable abbrev sComma : Stmt := inClass (top 27) 5
noncomputable abbrev sClosing : Stmt := inClass (top 27) 6
noncomputable abbrev sMember : Stmt := inClass (top 27) 7
noncomputable abbrev sKey : Stmt := inClass (top 27) 8
noncomputable abbrev sOpening : Stmt := inClass (top 27) 9
noncomputable abbrev sPlain : Stmt := inClass (top 27) 10
noncomputable abbrev sSInit : Stmt := inClass (top 28) 0
noncomputable abbrev sFlat : Stmt := inClass (top 28) 2
noncomputable abbrev sSetLines : Stmt := inClass (top 28) 1
noncomputable abbrev sTell : Stmt := inClass (top 28) 3
noncomputable abbrev sGoInto : Stmt := inClass (top 28) 4
noncomputable abbrev sTellClose : Stmt := inClass (top 28) 5
noncomputable abbrev sPut : Stmt := inClass (top 28) 6
noncomputable abbrev sPutComma : Stmt := inClass (top 28) 7
noncomputable abbrev sIsWord : Stmt := top 29
noncomputable abbrev sIsPrinted : Stmt := top 30
noncomputable abbrev sWordEnd : Stmt := top 31
noncomputable abbrev sStringEnd : Stmt := top 32
noncomputable abbrev sKeyTold : Stmt := top 33
noncomputable abbrev sAnswer : Stmt := top 34
noncomputable abbrev sMeasure : Stmt := top 36
noncomputable abbrev sFormat : Stmt := top 35
noncomputable def vi (n : Nat) : V := .int n
noncomputable def Kp (S : List Addr) (H H' : Hp) : Prop := ∀ b o, H b = some o → b ∉ S → H' b = some o
theorem Kp.refl {S : List Addr} {H : Hp} : Kp S H H := fun _ _ h _ => h
theorem Kp.trans {S : List Addr} {H H1 H2 : Hp} (a : Kp S H H1) (b : Kp S H1 H2) : Kp S H H2 := fun c o h n => b c o (a c o h n) n
theorem Kp.mono {S S' : List Addr} {H H' : Hp} (a : Kp S H H') (h : ∀ b, b ∈ S → b ∈ S') : Kp S' H H' := fun c o q n => a c o q fun z => n (h c z)
theorem Kp.of {S : List Addr} {H H' : Hp} (a : Same H H') : Kp S H H' := fun c o q _ => a c o q
theorem Kp.same {H H' : Hp} (a : Kp [] H H') : Same H H' := fun c o q => a c o q (by simp)
theorem Kp.new {S : List Addr} {H : Hp} {p : Addr} {o : HO} (h : H p = none) : Kp S H (upd H p o) := fun b u q _ => by rw [upd_ne (ne_of_none q h)]; exact q
theorem Kp.upd {S : List Addr} {H : Hp} {p : Addr} {o : HO} (h : p ∈ S) : Kp S H (upd H p o) := fun b u q n => by rw [upd_ne (fun z => n (by rw [z]; exact h))]; exact q
theorem same_new {H : Hp} {p : Addr} {o : HO} (h : H p = none) : Same H (upd H p o) := (Kp.new (S := []) h).same
theorem vi_at {t : List Nat} {p : Nat} (h : p < t.length) : (t.map vi)[p]? = some (vi (Mir.at_ t p)) := by
  unfold Mir.at_
  rw [List.getElem?_map, List.getElem?_eq_getElem h]
  rfl
noncomputable def tx (t : List Nat) : List V := (t ++ [256]).map vi
theorem tx_at {t : List Nat} {p : Nat} (h : p ≤ t.length) : (tx t)[p]? = some (vi (Mir.at_ t p)) := by
  unfold tx
  by_cases hp : p < t.length
  · rw [List.getElem?_map, List.getElem?_append_left hp, ← List.getElem?_map]
    exact vi_at hp
  · have : p = t.length := by omega
    subst this
    rw [Mir.at_end (Nat.le_refl _), List.getElem?_map, List.getElem?_append_right (Nat.le_refl _), Nat.sub_self]
    rfl
noncomputable def B8 (t : List Nat) : Prop := ∀ x ∈ t, x < 256
theorem byte_lt {t : List Nat} {p : Nat} (h : B8 t) (hp : p < t.length) : ¬ Mir.at_ t p = 256 := fun z => by
  unfold Mir.at_ at z
  rw [List.getElem?_eq_getElem hp] at z
  have := h _ (List.getElem_mem hp)
  simp only [Option.getD_some] at z
  omega
theorem tx_len (t : List Nat) : (tx t).length = t.length + 1 := by simp [tx]
theorem rd_chain {i : Nat} {lo hi n : Int} {Q : VK} {σ : St} {H : Hp} (hn : σ[i]? = some (some (.int n))) (q : Q (.bl (decide (lo ≤ n) && decide (n ≤ hi))) H) :
    tChain (rI0 fun i j => .bl (decide (i ≤ j))) (rI0 fun i j => .bl (decide (i ≤ j))) (tC (.int lo)) (tVar i) (tC (.int hi)) σ H Q := by
  refine ⟨_, hn, _, _, rfl, rfl, _, rfl, ite2 (fun h => ⟨_, _, rfl, rfl, ?_⟩) fun h => ?_⟩
  · rw [of_decide_eq_true h |> decide_eq_true] at q
    rw [Bool.true_and] at q
    exact q
  · have h' : decide (lo ≤ n) = false := by simpa using h
    rw [h', Bool.false_and] at q
    exact q
theorem while_in {c : TT} {tb : TS} {D : Ends} {σ : St} {H : Hp} (Pv : St → Hp → Prop) (μ : St → Hp → Nat) (h0 : Pv σ H)
    (hs : ∀ σ H, Pv σ H → c σ H fun b H1 => if b = true then ∃ N : St → Hp → Prop, (∀ σ' H', N σ' H' → ∃ m', m' < μ σ H ∧ m' = μ σ' H' ∧ Pv σ' H') ∧ tb { D with nx := N, ct := N, bk := D.nx } σ H1 else D.nx σ H1) : tWhile c tb D σ H :=
  ⟨fun m σ H => m = μ σ H ∧ Pv σ H, ⟨_, rfl, h0⟩, by rintro m σ H ⟨rfl, p⟩; exact hs σ H p⟩
structure Txt (K : PySem.W.Frag) (mg : Str → Option Value) : Prop where
  lineEnd : GI mg "LINE_END" 10
  blank : GI mg "BLANK" 32
  quote : GI mg "QUOTE" 34
  hash : GI mg "HASH_SIGN" 35
  comma : GI mg "COMMA" 44
  colon : GI mg "COLON" 58
  back : GI mg "BACKSLASH" 92
  rowEnd : GI mg "ROW_END" 93
  mapEnd : GI mg "MAP_END" 125
  noByte : GI mg "NO_BYTE" 256
  mostBytes : GI mg "MOST_BYTES" 65536
  mostDeep : GI mg "MOST_DEEP" 40
  kPlain : GS mg "PLAIN" "plain"
  kOpening : GS mg "OPENING" "opening"
  kClosing : GS mg "CLOSING" "closing"
  kComment : GS mg "COMMENT" "comment"
  ready : GS mg "READY" "ready"
  filled : GS mg "FILLED" "filled"
  closed : GS mg "CLOSED" "closed"
  escaped : ∃ a, mg "ESCAPED" = some (.ref a) ∧ ∀ H : Hp, SqT K H a [.int 34, .int 92, .int 110]
  len : mg "len" = none
  min : mg "min" = none
  tuple : mg "tuple" = none
section
variable {P : Program} {w : World} {K : PySem.W.Frag} {mg : Str → Option Value} {base : Heap}
inductive SpIsWordP (vs : List V) (H : Hp) (Q : VK) (E_ : XK) : Prop
  | mk : ∀ n : Nat, vs = [.int n] → (∀ H', Same H H' → Q (.bl (Sg51.wordByte n)) H') → SpIsWordP vs H Q E_
noncomputable def spIsWord : Sp := SpIsWordP
theorem scIsWord : FnScope ["byte", "is_letter"] ["byte"] (defScope sIsWord) := ⟨rfl, rfl, rfl, by decide +kernel, rfl, by decide +kernel, by decide +kernel⟩
theorem ok_isWord {f : Addr} {fd : FuncData} (F : Fun K "is_word_byte" "is_word_byte" sIsWord f fd) (T : Txt K mg) : FnOk P w K mg base (CXw P w) 1 f fd ["byte"] spIsWord := by
  refine F.okN scIsWord (fun vs H Q E h => ?_) (fun cdv A outer s H vs Q E hr h => ?_)
  · obtain ⟨n, rfl, _⟩ := h
    rfl
  · obtain ⟨n, rfl, q⟩ := h
    refine ⟨_, pss_cons (ps_set (i := 1) scIsWord.nd rfl (Or.inl rfl) (pe_or (pe_chain op_le op_le pe_int (pv 0) pe_int) (pe_one (pe_chain op_le op_le pe_int (pv 0) pe_int))))
      (pss_one (ps_ret (pe_or (pv 1) (pe_or (pe_chain op_le op_le pe_int (pv 0) pe_int) (pe_one (pe_cmpR op_in_seq (pv 0) (pe_tup (pa_cons pe_int (pa_cons pe_int pa_nil))) (by with_unfolding_all rfl))))))), ?_⟩
    have fin : ∀ (b : Bool) H', Same H H' → (Sg51.wordByte n = b) → Q (.bl b) H' := fun b H' hs e => by rw [← e]; exact q H' hs
    refine rd_chain rfl ⟨_, rfl, ite2 (fun h => ?_) fun h1 => rd_chain rfl ?_⟩
    · refine ⟨_, rfl, _, rfl, iteT (fin true H (Same.refl _) ?_)⟩
      simp only [Bool.and_eq_true, decide_eq_true_eq] at h
      unfold Sg51.wordByte
      simp only [Bool.or_eq_true, Bool.and_eq_true, decide_eq_true_eq]
      omega
    · refine ⟨_, rfl, _, rfl, ite2 (fun h => ?_) fun h2 => rd_chain rfl ⟨_, rfl, ite2 (fun h => ?_) fun h3 => ?_⟩⟩
      · refine fin true H (Same.refl _) ?_
        simp only [Bool.and_eq_true, decide_eq_true_eq] at h
        unfold Sg51.wordByte
        simp only [Bool.or_eq_true, Bool.and_eq_true, decide_eq_true_eq]
        omega
      · refine fin true H (Same.refl _) ?_
        simp only [Bool.and_eq_true, decide_eq_true_eq] at h
        unfold Sg51.wordByte
        simp only [Bool.or_eq_true, Bool.and_eq_true, decide_eq_true_eq, beq_iff_eq]
        omega
      · refine ⟨_, rfl, (by show 2 ≤ sizeLine; decide), fun p hp => ⟨p, _, rfl, .inr (SqT.of upd_same), rfl, rfl, fin _ _ (same_new hp) ?_⟩⟩
        simp only [Bool.and_eq_true, decide_eq_true_eq] at h1 h2 h3
        show Sg51.wordByte n = (((43 : Int) == (n : Int)) || (((95 : Int) == (n : Int)) || false))
        rw [Bool.eq_iff_iff]
        unfold Sg51.wordByte
        simp only [Bool.or_eq_true, Bool.and_eq_true, decide_eq_true_eq, beq_iff_eq, Bool.or_false]
        omega
inductive SpIsPrintedP (vs : List V) (H : Hp) (Q : VK) (E_ : XK) : Prop
  | mk : ∀ n : Nat, vs = [.int n] → Q (.bl (Sg51.plain n)) H → SpIsPrintedP vs H Q E_
noncomputable def spIsPrinted : Sp := SpIsPrintedP
theorem scIsPrinted : FnScope ["byte"] ["byte"] (defScope sIsPrinted) := ⟨rfl, rfl, rfl, by decide +kernel, rfl, by decide +kernel, by decide +kernel⟩
theorem ok_isPrinted {f : Addr} {fd : FuncData} (F : Fun K "is_printed" "is_printed" sIsPrinted f fd) (T : Txt K mg) : FnOk P w K mg base (CXw P w) 1 f fd ["byte"] spIsPrinted := by
  refine F.okN scIsPrinted (fun vs H Q E h => ?_) (fun cdv A outer s H vs Q E hr h => ?_)
  · obtain ⟨n, rfl, _⟩ := h
    rfl
  · obtain ⟨n, rfl, q⟩ := h
    refine ⟨_, pss_one (ps_ret (pe_chain op_le op_le pe_int (pv 0) pe_int)), ?_⟩
    refine rd_chain rfl ?_
    have e : (decide ((32 : Int) ≤ (n : Int)) && decide ((n : Int) ≤ 126)) = Sg51.plain n := by
      rw [Bool.eq_iff_iff]
      unfold Sg51.plain
      simp only [Bool.and_eq_true, decide_eq_true_eq]
      omega
    rw [e]
    exact q
noncomputable abbrev FIsWord (P : Program) (w : World) (K : PySem.W.Frag) (mg : Str → Option Value) (base : Heap) : Prop := GFn P w K mg base "is_word_byte" 1 ["byte"] spIsWord
noncomputable abbrev FIsPrinted (P : Program) (w : World) (K : PySem.W.Frag) (mg : Str → Option Value) (base : Heap) : Prop := GFn P w K mg base "is_printed" 1 ["byte"] spIsPrinted
inductive SpWordEndP (K : PySem.W.Frag) (vs : List V) (H : Hp) (Q : VK) (E_ : XK) : Prop
  | mk : ∀ (a : Addr) (t : List Nat) (p : Nat), vs = [.ref a, .int p] → SqL K H a (tx t) → p ≤ t.length → (∀ H', Same H H' → Q (vi (Mir.wordP t p)) H') → SpWordEndP K vs H Q E_
noncomputable def spWordEnd (K : PySem.W.Frag) : Sp := SpWordEndP K
theorem scWordEnd : FnScope ["text", "place"] ["text", "place"] (defScope sWordEnd) := ⟨rfl, rfl, rfl, by decide +kernel, rfl, by decide +kernel, by decide +kernel⟩
theorem wordP_step {t : List Nat} {p : Nat} (h : Sg51.wordByte (Mir.at_ t p) = true) : p < t.length ∧ Mir.wordP t (p + 1) = Mir.wordP t p := by
  have hp : p < t.length := by
    by_cases hp : p < t.length
    · exact hp
    · rw [Mir.at_end (by omega)] at h
      exact absurd h (by decide)
  refine ⟨hp, ?_⟩
  unfold Mir.wordP
  rw [Mir.drop_cons hp, List.takeWhile_cons, if_pos h, List.length_cons]
  omega
theorem wordP_stop {t : List Nat} {p : Nat} (h : ¬ Sg51.wordByte (Mir.at_ t p) = true) : Mir.wordP t p = p := by
  unfold Mir.wordP
  by_cases hp : p < t.length
  · rw [Mir.drop_cons hp, List.takeWhile_cons, if_neg h]; rfl
  · rw [List.drop_eq_nil_of_le (by omega)]; rfl
theorem ok_wordEnd {f : Addr} {fd : FuncData} (F : Fun K "word_end" "word_end" sWordEnd f fd) (T : Txt K mg) (G2 : FIsWord P w K mg base) : FnOk P w K mg base (CXw P w) 2 f fd ["text", "place"] (spWordEnd K) := by
  refine F.okN scWordEnd (fun vs H Q E h => ?_) (fun cdv A outer s H vs Q E hr h => ?_)
  · obtain ⟨a, t, p, rfl, _⟩ := h
    rfl
  · obtain ⟨a, t, p, rfl, hS, hp, q⟩ := h
    refine ⟨_, pss_cons (ps_while PassesOwn.never (pt_val (pe_fn G2 hr passN (pa_cons (pe_ix ix_list (pv 0) (pv 1) (fun _ _ => rfl)) pa_nil))) (pss_one (ps_aug (i := 1) scWordEnd.nd rfl (Or.inl rfl) pe_int ip_add)))
      (pss_one (ps_ret (pv 1))), ?_⟩
    refine while_in (fun σ H' => ∃ p' : Nat, σ = [some (.ref a), some (.int p')] ∧ Same H H' ∧ p' ≤ t.length ∧ Mir.wordP t p' = Mir.wordP t p) (fun σ H' => match σ with | [_, some (.int i)] => t.length - i.toNat | _ => 0) ⟨p, rfl, Same.refl _, hp, rfl⟩ ?_
    rintro σ H1 ⟨p', rfl, s1, hp', e⟩
    refine ⟨_, rfl, _, rfl, a, _, _, _, rfl, rfl, s1.seq hS, atI_nat (tx_at hp'), Mir.at_ t p', rfl, fun H2 s2 => ⟨_, rfl, ite2 (fun h => ?_) fun h => ?_⟩⟩
    · obtain ⟨h1, h2⟩ := wordP_step h
      refine ⟨fun σ' H' => (∃ p2 : Nat, σ' = [some (.ref a), some (.int p2)] ∧ Same H H' ∧ p2 ≤ t.length ∧ Mir.wordP t p2 = Mir.wordP t p) ∧ (match σ' with | [_, some (.int i)] => t.length - i.toNat | _ => 0) < t.length - p', fun σ' H' z => ⟨_, z.2, rfl, z.1⟩, _, rfl, _, _, rfl, rfl, ⟨p' + 1, rfl, s1.trans s2, h1, h2.trans e⟩, ?_⟩
      show t.length - ((p' : Int) + 1).toNat < t.length - p'
      omega
    · refine ⟨_, rfl, ?_⟩
      have e2 := wordP_stop h
      rw [← e, e2] at q
      exact q H2 (s1.trans s2)
end
end Prg
set_option linter.all false
set_option maxRecDepth 100000
set_option maxHeartbeats 4000000
namespace Prg
open PySem PySem.Spec PyProof.Rows L2
noncomputable def Errs (E : XK) (C : Addr) (tb : List (Addr × HO)) (q : Nat) : Prop := ∀ H' dx, (∀ g ∈ tb, H' g.1 = some g.2) → H' dx = some (.xd (pl1 (.int q))) → E (.ref C) (some dx) H'
theorem Errs.rd {E : XK} {C : Addr} {tb : List (Addr × HO)} {q : Nat} {H : Hp} (e : Errs E C tb q) (hs : ∀ g ∈ tb, H g.1 = some g.2) (hq : q ≤ 65536) : ∀ dx, H dx = none → E (.ref C) (some dx) (upd H dx (.xd (pl1 (.int (if (65536 : Int) < (q : Int) then 65536 else (q : Int)))))) := fun dx hn => by
  rw [if_neg (by omega)]
  exact e _ dx (fun g hg => by rw [upd_ne (ne_of_none (hs g hg) hn)]; exact hs g hg) upd_same
noncomputable def ErrS (E : XK) (C : Addr) (H : Hp) (q : Nat) : Prop := ∀ H' dx, Same H H' → H' dx = some (.xd (pl1 (.int q))) → E (.ref C) (some dx) H'
theorem ErrS.rd {E : XK} {C : Addr} {q : Nat} {H H1 : Hp} (e : ErrS E C H q) (s1 : Same H H1) (hq : q ≤ 65536) : ∀ dx, H1 dx = none → E (.ref C) (some dx) (upd H1 dx (.xd (pl1 (.int (if (65536 : Int) < (q : Int) then 65536 else (q : Int)))))) := fun dx hn => by
  rw [if_neg (by omega)]
  exact e _ dx (s1.trans (same_new hn)) upd_same
theorem ErrS.to {E : XK} {C : Addr} {tb : List (Addr × HO)} {q : Nat} {H : Hp} (e : Errs E C tb q) (hs : ∀ g ∈ tb, H g.1 = some g.2) : ErrS E C H q := fun H' dx s z => e H' dx (fun g hg => s _ _ (hs g hg)) z
theorem strE_at (t : List Nat) (p : Nat) : Mir.strE (t.drop p) p = if Mir.at_ t p = 34 then .ok (p + 1) else if Mir.at_ t p = 92 then (if Mir.at_ t (p + 1) = 34 ∨ Mir.at_ t (p + 1) = 92 ∨ Mir.at_ t (p + 1) = 110 then Mir.strE (t.drop (p + 2)) (p + 2) else .error (p + 1))
    else if Sg51.plain (Mir.at_ t p) = true then Mir.strE (t.drop (p + 1)) (p + 1) else .error p := by
  by_cases hp : p < t.length
  · by_cases hq : p + 1 < t.length
    · rw [Mir.drop_cons hp, Mir.drop_cons hq, Mir.strE]
    · rw [Mir.drop_cons hp, List.drop_eq_nil_of_le (by omega : t.length ≤ p + 1), Mir.at_end (by omega : t.length ≤ p + 1)]
      unfold Mir.strE
      simp
  · rw [List.drop_eq_nil_of_le (by omega : t.length ≤ p), Mir.at_end (by omega : t.length ≤ p)]
    rfl
section
variable {P : Program} {w : World} {K : PySem.W.Frag} {mg : Str → Option Value} {base : Heap}
theorem scWInit : FnScope ["self", "place"] ["self", "place"] (defScope sWInit) := ⟨rfl, rfl, rfl, by decide +kernel, rfl, by decide +kernel, by decide +kernel⟩
theorem ok_wInit {f C : Addr} {fd : FuncData} (F : Fun K "__init__" "Wrong.__init__" sWInit f fd) (T : Txt K mg) (c : XC K C f) : FnOk P w K mg base (CXw P w) 1 f fd ["self", "place"] (spX C) := by
  refine F.okN scWInit (fun vs H Q E h => ?_) (fun cdv A outer s H vs Q E hr h => ?_)
  · obtain ⟨e, i, rfl, _⟩ := h
    rfl
  · obtain ⟨e, i, rfl, he, q⟩ := h
    refine ⟨_, pss_one (ps_xset c (pv 0) (pe_callB (call_min2 rfl) (by rfl) T.min (by decide +kernel) (pa_cons (pv 1) (pa_cons (pe_gi T.mostBytes) pa_nil))) rfl), ?_⟩
    exact ⟨_, rfl, _, _, rfl, _, rfl, e, rfl, he, fun dx h1 h2 => q dx h1 h2⟩
noncomputable abbrev FX (P : Program) (w : World) (K : PySem.W.Frag) (mg : Str → Option Value) (base : Heap) (C : Addr) : Prop := GX P w K mg base "Wrong" C 1
noncomputable def Ans (E : XK) (C : Addr) (H : Hp) (Q : VK) (r : Except Nat Nat) : Prop := match r with
  | .ok q => ∀ H', Same H H' → Q (vi q) H'
  | .error q => ErrS E C H q
inductive SpStringEndP (K : PySem.W.Frag) (C : Addr) (vs : List V) (H : Hp) (Q : VK) (E : XK) : Prop
  | mk : ∀ (a : Addr) (t : List Nat) (p : Nat), vs = [.ref a, .int p] → SqL K H a (tx t) → t.length ≤ 20000 → p < t.length → Ans E C H Q (Mir.strE (t.drop (p + 1)) (p + 1)) → SpStringEndP K C vs H Q E
noncomputable def spStringEnd (K : PySem.W.Frag) (C : Addr) : Sp := SpStringEndP K C
theorem scStringEnd : FnScope ["text", "place"] ["text", "place"] (defScope sStringEnd) := ⟨rfl, rfl, rfl, by decide +kernel, rfl, by decide +kernel, by decide +kernel⟩
theorem ok_stringEnd {f C : Addr} {fd : FuncData} (F : Fun K "string_end" "string_end" sStringEnd f fd) (T : Txt K mg) (G2 : FIsPrinted P w K mg base) (GW : FX P w K mg base C) : FnOk P w K mg base (CXw P w) 3 f fd ["text", "place"] (spStringEnd K C) := by
  refine F.okW scStringEnd (fun vs H Q E h => ?_) (fun cdv A outer s H vs Q E X eX O hr h => ?_)
  · obtain ⟨a, t, p, rfl, _⟩ := h
    rfl
  · obtain ⟨a, t, p, rfl, hS, ht, hp, q⟩ := h
    obtain ⟨ea, hea, sea⟩ := T.escaped
    have hr1 := hr.mono (by decide : 1 ≤ 2)
    refine ⟨_, pss_cons (ps_aug (i := 1) scStringEnd.nd rfl (Or.inl rfl) pe_int ip_add)
      (pss_cons (ps_while (ownW own_cx) (pt_cmpR op_ne (pe_ix ix_list (pv 0) (pv 1) (fun _ _ => rfl)) (pe_gi T.quote) (nomark _))
        (pss_cons (ps_if (pt_cmpR op_eq (pe_ix ix_list (pv 0) (pv 1) (fun _ _ => rfl)) (pe_gi T.back) (nomark _))
          (pss_cons (ps_aug (i := 1) scStringEnd.nd rfl (Or.inl rfl) pe_int ip_add)
            (pss_one (ps_if (pt_cmpR op_notIn_seq (pe_ix ix_list (pv 0) (pv 1) (fun _ _ => rfl)) (pe_gr hea) (by with_unfolding_all rfl)) (pss_one (ps_rs GW own_cx rfl hr (pa_cons (pv 1) pa_nil))) pss_nil)))
          (pss_one (ps_if (pt_not (pt_val (pe_fn G2 hr1 (passW own_cx) (pa_cons (pe_ix ix_list (pv 0) (pv 1) (fun _ _ => rfl)) pa_nil)))) (pss_one (ps_rs GW own_cx rfl hr (pa_cons (pv 1) pa_nil))) pss_nil)))
        (pss_one (ps_aug (i := 1) scStringEnd.nd rfl (Or.inl rfl) pe_int ip_add))))
      (pss_one (ps_ret (pe_op op_add (pv 1) pe_int)))), ?_⟩
    refine ⟨_, rfl, _, _, rfl, rfl, ?_⟩
    refine while_in (fun σ H' => ∃ p' : Nat, σ = [some (.ref a), some (.int p')] ∧ Same H H' ∧ p' ≤ t.length ∧ Mir.strE (t.drop p') p' = Mir.strE (t.drop (p + 1)) (p + 1)) (fun σ H' => match σ with | [_, some (.int i)] => t.length + 2 - i.toNat | _ => 0) ⟨p + 1, rfl, Same.refl _, by omega, rfl⟩ ?_
    rintro σ H1 ⟨p', rfl, s1, hp', e⟩
    refine ⟨_, rfl, _, rfl, a, _, _, _, rfl, rfl, s1.seq hS, atI_nat (tx_at hp'), rfl, _, rfl, ite2 (fun h => ?_) fun h => ?_⟩
    · have h34 : ¬ Mir.at_ t p' = 34 := fun z => by
        rw [z] at h
        exact absurd h (by decide)
      have est := strE_at t p'
      rw [if_neg h34] at est
      refine ⟨fun σ' H' => (∃ p2 : Nat, σ' = [some (.ref a), some (.int p2)] ∧ Same H H' ∧ p2 ≤ t.length ∧ Mir.strE (t.drop p2) p2 = Mir.strE (t.drop (p + 1)) (p + 1)) ∧ (match σ' with | [_, some (.int i)] => t.length + 2 - i.toNat | _ => 0) < t.length + 2 - p', fun σ' H' z => ⟨_, z.2, rfl, z.1⟩, ?_⟩
      refine ⟨_, rfl, _, rfl, a, _, _, _, rfl, rfl, s1.seq hS, atI_nat (tx_at hp'), rfl, _, rfl, ite2 (fun h2 => ?_) fun h2 => ?_⟩
      · have h92 : Mir.at_ t p' = 92 := by
          have z : V.int (Mir.at_ t p') = V.int 92 := of_decide_eq_true h2
          injection z with z
          omega
        rw [if_pos h92] at est
        have hl : p' < t.length := by
          by_cases hl : p' < t.length
          · exact hl
          · rw [Mir.at_end (by omega)] at h92; cases h92
        refine ⟨_, rfl, _, _, rfl, rfl, _, rfl, _, rfl, a, _, _, _, rfl, rfl, s1.seq hS, atI_nat (j := p' + 1) (tx_at hl), ea, _, rfl, .inr (sea _), rfl, rfl, _, rfl, ite2 (fun h3 => ?_) fun h3 => ?_⟩
        · have hne : ¬ (Mir.at_ t (p' + 1) = 34 ∨ Mir.at_ t (p' + 1) = 92 ∨ Mir.at_ t (p' + 1) = 110) := fun z => by
            rcases z with z | z | z <;> (rw [z] at h3; exact absurd h3 (by decide))
          rw [if_neg hne, e] at est
          rw [est] at q
          refine ⟨_, rfl, _, rfl, ?_⟩
          exact ErrS.rd (q := p' + 1) q s1 (by omega)
        · have hin : Mir.at_ t (p' + 1) = 34 ∨ Mir.at_ t (p' + 1) = 92 ∨ Mir.at_ t (p' + 1) = 110 := by
            have z : inV (vi (Mir.at_ t (p' + 1))) [.int 34, .int 92, .int 110] = true := by simpa using h3
            have z : (((34 : Int) == (Mir.at_ t (p' + 1) : Int)) || (((92 : Int) == (Mir.at_ t (p' + 1) : Int)) || (((110 : Int) == (Mir.at_ t (p' + 1) : Int)) || false))) = true := z
            simp only [Bool.or_eq_true, beq_iff_eq, Bool.or_false] at z
            omega
          rw [if_pos hin] at est
          have hl2 : p' + 1 < t.length := by
            by_cases hl : p' + 1 < t.length
            · exact hl
            · rw [Mir.at_end (by omega)] at hin; rcases hin with z | z | z <;> cases z
          refine ⟨_, rfl, _, _, rfl, rfl, ⟨p' + 2, rfl, s1, by omega, est.symm.trans e⟩, ?_⟩
          show t.length + 2 - ((p' : Int) + 1 + 1).toNat < t.length + 2 - p'
          omega
      · have h92 : ¬ Mir.at_ t p' = 92 := fun z => by
          rw [z] at h2
          exact absurd h2 (by decide)
        rw [if_neg h92] at est
        refine ⟨_, rfl, _, rfl, a, _, _, _, rfl, rfl, s1.seq hS, atI_nat (tx_at hp'), Mir.at_ t p', rfl, _, rfl, ite2 (fun h3 => ?_) fun h3 => ?_⟩
        · have hnp : ¬ Sg51.plain (Mir.at_ t p') = true := by simpa using h3
          rw [if_neg hnp, e] at est
          rw [est] at q
          refine ⟨_, rfl, _, rfl, ?_⟩
          exact ErrS.rd (q := p') q s1 (by omega)
        · have hnp : Sg51.plain (Mir.at_ t p') = true := by simpa using h3
          rw [if_pos hnp] at est
          have hl : p' < t.length := by
            by_cases hl : p' < t.length
            · exact hl
            · rw [Mir.at_end (by omega)] at hnp; exact absurd hnp (by decide)
          refine ⟨_, rfl, _, _, rfl, rfl, ⟨p' + 1, rfl, s1, by omega, est.symm.trans e⟩, ?_⟩
          show t.length + 2 - ((p' : Int) + 1).toNat < t.length + 2 - p'
          omega
    · have h34 : Mir.at_ t p' = 34 := by
        have z : decide (vi (Mir.at_ t p') = V.int 34) = true := by simpa using h
        have z : V.int (Mir.at_ t p') = V.int 34 := of_decide_eq_true z
        injection z with z
        omega
      have est := strE_at t p'
      rw [if_pos h34, e] at est
      rw [est] at q
      exact ⟨_, rfl, _, _, rfl, rfl, q H1 s1⟩
end
end Prg
set_option linter.all false
set_option maxRecDepth 100000
set_option maxHeartbeats 4000000
namespace Prg
open PySem PySem.Spec PyProof.Rows L2
theorem comP_at (t : List Nat) (p : Nat) : Mir.comP t p = if p < t.length ∧ Mir.at_ t p ≠ 10 then (if Sg51.plain (Mir.at_ t p) = true then Mir.comP t (p + 1) else .error p) else .ok p := by
  by_cases hp : p < t.length
  · by_cases hpl : Sg51.plain (Mir.at_ t p) = true
    · have hne : Mir.at_ t p ≠ 10 := fun z => by rw [z] at hpl; exact absurd hpl (by decide)
      rw [if_pos ⟨hp, hne⟩, if_pos hpl]
      unfold Mir.comP
      rw [Mir.drop_cons hp, List.takeWhile_cons, if_pos hpl, List.length_cons]
      have e : p + (((t.drop (p + 1)).takeWhile Sg51.plain).length + 1) = p + 1 + ((t.drop (p + 1)).takeWhile Sg51.plain).length := by omega
      rw [e]
    · have e : Mir.comP t p = if Mir.at_ t p = 10 ∨ t.length ≤ p then .ok p else .error p := by
        unfold Mir.comP
        rw [Mir.drop_cons hp, List.takeWhile_cons, if_neg hpl]
        rfl
      rw [e]
      by_cases h10 : Mir.at_ t p = 10
      · rw [if_pos (.inl h10), if_neg (fun z => z.2 h10)]
      · rw [if_neg (fun z => z.elim h10 (fun y => by omega)), if_pos ⟨hp, h10⟩, if_neg hpl]
  · rw [if_neg (fun z => hp z.1)]
    have e : Mir.comP t p = if Mir.at_ t p = 10 ∨ t.length ≤ p then .ok p else .error p := by
      unfold Mir.comP
      rw [List.drop_eq_nil_of_le (by omega)]
      rfl
    rw [e, if_pos (Or.inr (by omega))]
theorem trim_snoc (b : List Nat) (c : Nat) : Sg51.trimmed (b ++ [c]) = if c = 32 then Sg51.trimmed b else b ++ [c] := by
  unfold Sg51.trimmed
  rw [List.reverse_append, List.reverse_cons, List.reverse_nil, List.nil_append, List.singleton_append, List.dropWhile_cons]
  by_cases h : c = 32
  · rw [if_pos h, if_pos (by simp [h])]
  · rw [if_neg h, if_neg (by simp [h])]
    simp
theorem take_last {b : List Nat} {e : Nat} (h : e < b.length) : b.take (e + 1) = b.take e ++ [Mir.at_ b e] := by
  rw [List.take_succ_eq_append_getElem h]
  congr 2
  unfold Mir.at_
  rw [List.getElem?_eq_getElem h]
  rfl
section
variable {P : Program} {w : World} {K : PySem.W.Frag} {mg : Str → Option Value} {base : Heap}
inductive SpKeyToldP (vs : List V) (H : Hp) (Q : VK) (E_ : XK) : Prop
  | mk : ∀ (a : Addr) (b : List Nat), vs = [.ref a] → H a = some (.lst (b.map vi)) → b.length ≤ 20000 → (∀ H' p, Same H H' → H p = none → H' p = some (.lst ((Mir.keyTold b).map vi)) → Q (.ref p) H') → SpKeyToldP vs H Q E_
noncomputable def spKeyTold : Sp := SpKeyToldP
theorem scKeyTold : FnScope ["key"] ["key"] (defScope sKeyTold) := ⟨rfl, rfl, rfl, by decide +kernel, rfl, by decide +kernel, by decide +kernel⟩
theorem ok_keyTold {f : Addr} {fd : FuncData} (F : Fun K "key_told" "key_told" sKeyTold f fd) (T : Txt K mg) : FnOk P w K mg base (CXw P w) 1 f fd ["key"] spKeyTold := by
  refine F.okN scKeyTold (fun vs H Q E h => ?_) (fun cdv A outer s H vs Q E hr h => ?_)
  · obtain ⟨a, b, rfl, _⟩ := h
    rfl
  · obtain ⟨a, b, rfl, ha, hb, q⟩ := h
    refine ⟨_, pss_one (ps_ret (pe_ifExp (pt_truth (pv 0) (fun _ => rfl)) (pe_op op_cat (pv 0) (pe_lst (pa_cons (pe_gi T.colon) (pa_cons (pe_gi T.blank) pa_nil)))) (pe_lst pa_nil))), ?_⟩
    refine ⟨_, rfl, _, .inl ⟨_, SqL.of ha, rfl⟩, ite2 (fun h => ?_) fun h => ?_⟩
    · have hne : ¬ b = [] := fun z => by subst z; exact absurd h (by decide)
      refine ⟨_, rfl, (by show 2 ≤ sizeLine; decide), fun p hp => ?_⟩
      have hap : a ≠ p := ne_of_none ha hp
      refine ⟨a, p, _, _, rfl, rfl, (by rw [upd_ne hap]; exact ha), upd_same, ?_, fun p2 hp2 => ?_⟩
      · rw [List.length_map, sizeLine_eq]
        show b.length + 2 ≤ 16777216
        omega
      · have n2 : p2 ≠ p := fun z => by rw [z, upd_same] at hp2; cases hp2
        rw [upd_ne n2] at hp2
        refine q _ p2 (fun c o e => ?_) hp2 ?_
        · rw [upd_ne (ne_of_none e hp2), upd_ne (ne_of_none e hp)]; exact e
        · rw [upd_same]
          unfold Mir.keyTold
          rw [if_neg hne, List.map_append]
          rfl
    · have hne : b = [] := by
        cases b with
        | nil => rfl
        | cons c r => exact absurd rfl h
      subst hne
      exact ⟨Nat.zero_le _, fun p hp => q _ p (same_new hp) hp upd_same⟩
end
end Prg
set_option linter.all false
set_option maxRecDepth 100000
set_option maxHeartbeats 4000000
namespace Prg
open PySem PySem.Spec PyProof.Rows L2
noncomputable abbrev FL := List (Str × V)
theorem few {n : Nat} (h : Nat.blt n 1000 = true) : n < 1000 := Nat.le_of_ble_eq_true h
noncomputable abbrev pf (k : Str) (ka oa : Addr) (n : Int) (c f nt b : Bool) : FL := [("kind", .str k), ("key", .ref ka), ("own", .ref oa), ("length", .int n), ("comma", .bl c), ("filled", .bl f), ("noted", .bl nt), ("behind", .bl b)]
noncomputable abbrev lf (pa : Addr) (c : Int) (st : Str) (sa : Addr) (la : V) : FL := [("piece", .ref pa), ("closer", .int c), ("state", .str st), ("seen", .ref sa), ("last", la)]
noncomputable abbrev rf (ta : Addr) (p : Int) (pa la : Addr) : FL := [("text", .ref ta), ("place", .int p), ("pieces", .ref pa), ("levels", .ref la)]
noncomputable def kdS : Mir.Kd → Str
  | .plain => "plain"
  | .opening => "opening"
  | .closing => "closing"
  | .comment => "comment"
noncomputable def stS : Mir.S → Str
  | .ready => "ready"
  | .filled => "filled"
  | .closed => "closed"
noncomputable def stays : HO → Bool
  | .tbl _ => true
  | .frz _ _ => true
  | .ext _ => true
  | _ => false
theorem stay_kp {tb : List (Addr × HO)} {S : List Addr} {H H' : Hp} (hs : ∀ g ∈ tb, H g.1 = some g.2) (hk : ∀ g ∈ tb, stays g.2 = true) (k : Kp S H H') (hS : ∀ b ∈ S, ∃ o, H b = some o ∧ stays o = false) : ∀ g ∈ tb, H' g.1 = some g.2 := fun g hg =>
  k _ _ (hs g hg) fun z => by
    obtain ⟨o, e, n⟩ := hS _ z
    rw [hs g hg] at e
    cases e
    rw [hk g hg] at n
    cases n
structure Nm where
  cW : Addr
  cP : Addr
  cL : Addr
  cR : Addr
  cl : Addr
  tb : List (Addr × HO)
structure Cs (K : PySem.W.Frag) (mg : Str → Option Value) (N : Nm) : Prop where
  p : Cls K N.cP
  l : Cls K N.cL
  r : Cls K N.cR
  pn : ∀ f ∈ (["kind", "key", "own", "length", "comma", "filled", "noted", "behind"] : List Str), NoAttr K N.cP f
  ln : ∀ f ∈ (["piece", "closer", "state", "seen", "last"] : List Str), NoAttr K N.cL f
  rn : ∀ f ∈ (["text", "place", "pieces", "levels"] : List Str), NoAttr K N.cR f
  pl : N.cP ≠ N.cL
  pr : N.cP ≠ N.cR
  lr : N.cL ≠ N.cR
  st : ∀ g ∈ N.tb, stays g.2 = true
inductive PieceAtP (C : Addr) (B : List Addr) (H : Hp) (a : Addr) (pc : Mir.Pc) : Prop
  | mk : ∀ dx ka oa, (H a = some (.ins C dx (pf (kdS pc.kind) ka oa pc.length pc.comma pc.filled pc.noted pc.behind))) → (H ka = some (.lst (pc.key.map vi))) → (H oa = some (.lst (pc.own.map vi))) → (ka ∉ B) → (oa ∉ B) → PieceAtP C B H a pc
noncomputable def PieceAt (C : Addr) (B : List Addr) (H : Hp) (a : Addr) (pc : Mir.Pc) : Prop := PieceAtP C B H a pc
structure Pcs (C : Addr) (B : List Addr) (H : Hp) (as : List Addr) (obs : List Mir.Pc) : Prop where
  nd : as.Nodup
  len : as.length = obs.length
  at_ : ∀ (i : Nat) (pc : Mir.Pc), obs[i]? = some pc → ∃ a, as[i]? = some a ∧ PieceAt C B H a pc
theorem PieceAt.kp {C : Addr} {B S : List Addr} {H H' : Hp} {a : Addr} {pc : Mir.Pc} (h : PieceAt C B H a pc) (k : Kp S H H') (hS : ∀ b ∈ S, (∀ dx fs, H b ≠ some (.ins C dx fs)) ∧ (b ∈ B ∨ ∀ xs, H b ≠ some (.lst xs))) : PieceAt C B H' a pc := by
  obtain ⟨dx, ka, oa, h1, h2, h3, h4, h5⟩ := h
  refine ⟨dx, ka, oa, k _ _ h1 fun z => (hS _ z).1 _ _ h1, k _ _ h2 fun z => ?_, k _ _ h3 fun z => ?_, h4, h5⟩
  · rcases (hS _ z).2 with w | w
    · exact h4 w
    · exact w _ h2
  · rcases (hS _ z).2 with w | w
    · exact h5 w
    · exact w _ h3
theorem Pcs.kp {C : Addr} {B S : List Addr} {H H' : Hp} {as : List Addr} {obs : List Mir.Pc} (h : Pcs C B H as obs) (k : Kp S H H') (hS : ∀ b ∈ S, (∀ dx fs, H b ≠ some (.ins C dx fs)) ∧ (b ∈ B ∨ ∀ xs, H b ≠ some (.lst xs))) : Pcs C B H' as obs :=
  ⟨h.nd, h.len, fun i pc e => let ⟨a, e1, e2⟩ := h.at_ i pc e; ⟨a, e1, e2.kp k hS⟩⟩
theorem Pcs.same {C : Addr} {B : List Addr} {H H' : Hp} {as : List Addr} {obs : List Mir.Pc} (h : Pcs C B H as obs) (k : Same H H') : Pcs C B H' as obs := h.kp (S := []) (fun b o e _ => k b o e) fun b z => by cases z
theorem Pcs.set {C : Addr} {B : List Addr} {H : Hp} {as : List Addr} {obs : List Mir.Pc} (h : Pcs C B H as obs) {i : Nat} {a dx ka oa : Addr} {pc pc' : Mir.Pc} (hi : obs[i]? = some pc) (ha : as[i]? = some a)
    (h1 : H a = some (.ins C dx (pf (kdS pc.kind) ka oa pc.length pc.comma pc.filled pc.noted pc.behind))) (h2 : H ka = some (.lst (pc.key.map vi))) (h3 : H oa = some (.lst (pc.own.map vi))) (h4 : ka ∉ B) (h5 : oa ∉ B) (ek : pc'.kind = pc.kind) (ey : pc'.key = pc.key) (eo : pc'.own = pc.own) :
    Pcs C B (upd H a (.ins C dx (pf (kdS pc'.kind) ka oa pc'.length pc'.comma pc'.filled pc'.noted pc'.behind))) as (obs.set i pc') := by
  have nl : ∀ b xs, H b = some (.lst xs) → b ≠ a := fun b xs e => ne_of e h1 (by intro z; cases z)
  refine ⟨h.nd, by rw [List.length_set]; exact h.len, fun j q e => ?_⟩
  by_cases hj : j = i
  · subst hj
    have hl : j < obs.length := (List.getElem?_eq_some_iff.mp hi).1
    rw [List.getElem?_set_self hl] at e
    cases e
    exact ⟨a, ha, dx, ka, oa, upd_same, by rw [upd_ne (nl _ _ h2), ey]; exact h2, by rw [upd_ne (nl _ _ h3), eo]; exact h3, h4, h5⟩
  · rw [List.getElem?_set_ne (fun z => hj z.symm)] at e
    obtain ⟨b, e1, dx', ka', oa', g1, g2, g3, g4, g5⟩ := h.at_ j q e
    have nb : b ≠ a := fun z => hj (nd_ix h.nd e1 (by rw [z]; exact ha))
    exact ⟨b, e1, dx', ka', oa', by rw [upd_ne nb]; exact g1, by rw [upd_ne (nl _ _ g2)]; exact g2, by rw [upd_ne (nl _ _ g3)]; exact g3, g4, g5⟩
theorem Pcs.snoc {C : Addr} {B : List Addr} {H : Hp} {as : List Addr} {obs : List Mir.Pc} (h : Pcs C B H as obs) {a : Addr} {pc : Mir.Pc} (hp : PieceAt C B H a pc) (hn : a ∉ as) : Pcs C B H (as ++ [a]) (obs ++ [pc]) := by
  refine ⟨?_, by rw [List.length_append, List.length_append, h.len]; rfl, fun i q e => ?_⟩
  · exact nd_snoc h.nd hn
  · by_cases hi : i < obs.length
    · rw [List.getElem?_append_left hi] at e
      obtain ⟨b, e1, e2⟩ := h.at_ i q e
      exact ⟨b, by rw [List.getElem?_append_left (by rw [h.len]; exact hi)]; exact e1, e2⟩
    · rw [List.getElem?_append_right (by omega)] at e
      have z : i = obs.length := by
        by_cases z : i - obs.length = 0
        · omega
        · obtain ⟨k, hk⟩ : ∃ k, i - obs.length = k + 1 := ⟨i - obs.length - 1, by omega⟩
          rw [hk] at e; simp at e
      subst z
      rw [Nat.sub_self] at e
      have e : pc = q := Option.some.inj e
      subst e
      exact ⟨a, by rw [← h.len, List.getElem?_append_right (Nat.le_refl _), Nat.sub_self]; rfl, hp⟩
theorem Pcs.mem {C : Addr} {B : List Addr} {H : Hp} {as : List Addr} {obs : List Mir.Pc} (h : Pcs C B H as obs) {a : Addr} (ha : a ∈ as) : ∃ dx fs, H a = some (.ins C dx fs) := by
  obtain ⟨i, hi, e⟩ := List.mem_iff_getElem.mp ha
  obtain ⟨pc, hp⟩ : ∃ pc, obs[i]? = some pc := ⟨_, List.getElem?_eq_getElem (by rw [← h.len]; exact hi)⟩
  obtain ⟨b, e1, dx, ka, oa, g1, _⟩ := h.at_ i pc hp
  have : b = a := by
    rw [List.getElem?_eq_getElem hi, e] at e1
    exact (Option.some.inj e1).symm
  subst this
  exact ⟨dx, _, g1⟩
section
variable {P : Program} {w : World} {K : PySem.W.Frag} {mg : Str → Option Value} {base : Heap} {N : Nm}
noncomputable abbrev FKeyTold (P : Program) (w : World) (K : PySem.W.Frag) (mg : Str → Option Value) (base : Heap) : Prop := GFn P w K mg base "key_told" 1 ["key"] spKeyTold
inductive SpPInitP (N : Nm) (vs : List V) (H : Hp) (Q : VK) (E_ : XK) : Prop
  | mk : ∀ (p dx ka oa : Addr) (k : Str) (key own : List Nat), vs = [.ref p, .str k, .ref ka, .ref oa] → H p = some (.ins N.cP dx []) → H ka = some (.lst (key.map vi)) → H oa = some (.lst (own.map vi)) → key.length ≤ 20000 → own.length ≤ 20000 → (∀ H', H' p = some (.ins N.cP dx (pf k ka oa (((Mir.keyTold key).length + own.length : Nat) : Int) false false false false)) → Kp [p] H H' → Q .non H') → SpPInitP N vs H Q E_
noncomputable def spPInit (N : Nm) : Sp := SpPInitP N
theorem scPInit : FnScope ["self", "kind", "key", "own"] ["self", "kind", "key", "own"] (defScope sPInit) := ⟨rfl, rfl, rfl, by decide +kernel, rfl, by decide +kernel, by decide +kernel⟩
theorem ok_pInit {f : Addr} {fd : FuncData} (F : Fun K "__init__" "Piece.__init__" sPInit f fd) (T : Txt K mg) (c : Cs K mg N) (G : FKeyTold P w K mg base) : FnOk P w K mg base (CXw P w) 2 f fd ["self", "kind", "key", "own"] (spPInit N) := by
  refine F.okN scPInit (fun vs H Q E h => ?_) (fun cdv A outer s H vs Q E hr h => ?_)
  · obtain ⟨p, dx, ka, oa, k, key, own, rfl, _⟩ := h
    rfl
  · obtain ⟨p, dx, ka, oa, k, key, own, rfl, hp, hka, hoa, lk, lo, q⟩ := h
    have na : ∀ b xs, H b = some (.lst xs) → b ≠ p := fun b xs e => ne_of e hp (by intro z; cases z)
    refine ⟨_, pss_cons (ps_fld (pv 0) (pv 1) rfl) (pss_cons (ps_fld (pv 0) (pv 2) rfl) (pss_cons (ps_fld (pv 0) (pv 3) rfl)
      (pss_cons (ps_fld (pv 0) (pe_op op_add (pe_callB call_len_seq (by rfl) T.len PySem.boot_len (pa_cons (pe_fn G hr passN (pa_cons (pv 2) pa_nil)) pa_nil)) (pe_callB call_len_seq (by rfl) T.len PySem.boot_len (pa_cons (pv 3) pa_nil))) rfl)
      (pss_cons (ps_fld (pv 0) pe_bl rfl) (pss_cons (ps_fld (pv 0) pe_bl rfl) (pss_cons (ps_fld (pv 0) pe_bl rfl) (pss_one (ps_fld (pv 0) pe_bl rfl)))))))), ?_⟩
    refine ⟨_, rfl, _, rfl, p, N.cP, dx, _, rfl, hp, c.p, c.pn _ (by simp), few rfl, ?_⟩
    refine ⟨_, rfl, _, rfl, p, N.cP, dx, _, rfl, upd_same, c.p, c.pn _ (by simp), few rfl, ?_⟩
    refine ⟨_, rfl, _, rfl, p, N.cP, dx, _, rfl, upd_same, c.p, c.pn _ (by simp), few rfl, ?_⟩
    refine ⟨_, rfl, ka, key, rfl, (by rw [upd_ne (na _ _ hka), upd_ne (na _ _ hka), upd_ne (na _ _ hka)]; exact hka), lk, fun H1 pk s1 _ hpk => ?_⟩
    refine ⟨pk, _, rfl, .inl (SqL.of hpk), _, rfl, oa, _, rfl, .inl (SqL.of (s1 _ _ (by rw [upd_ne (na _ _ hoa), upd_ne (na _ _ hoa), upd_ne (na _ _ hoa)]; exact hoa))), _, _, rfl, rfl, _, rfl, p, N.cP, dx, _, rfl, s1 _ _ upd_same, c.p, c.pn _ (by simp), few rfl, ?_⟩
    refine ⟨_, rfl, p, N.cP, dx, _, rfl, upd_same, c.p, c.pn _ (by simp), few rfl, ?_⟩
    refine ⟨_, rfl, p, N.cP, dx, _, rfl, upd_same, c.p, c.pn _ (by simp), few rfl, ?_⟩
    refine ⟨_, rfl, p, N.cP, dx, _, rfl, upd_same, c.p, c.pn _ (by simp), few rfl, ?_⟩
    refine ⟨_, rfl, p, N.cP, dx, _, rfl, upd_same, c.p, c.pn _ (by simp), few rfl, ?_⟩
    refine q _ ?_ fun b o e n => ?_
    · rw [upd_same, List.length_map, List.length_map, Int.natCast_add]
      rfl
    · have nb : b ≠ p := fun z => n (by simp [z])
      rw [upd_ne nb, upd_ne nb, upd_ne nb, upd_ne nb, upd_ne nb]
      exact s1 _ _ (by rw [upd_ne nb, upd_ne nb, upd_ne nb]; exact e)
inductive SpLInitP (N : Nm) (vs : List V) (H : Hp) (Q : VK) (E_ : XK) : Prop
  | mk : ∀ (l dx pa : Addr) (c : Int), vs = [.ref l, .ref pa, .int c] → H l = some (.ins N.cL dx []) → (∀ H' sa, H' l = some (.ins N.cL dx (lf pa c "ready" sa .non)) → H' sa = some (.dT []) → H sa = none → Kp [l] H H' → Q .non H') → SpLInitP N vs H Q E_
noncomputable def spLInit (N : Nm) : Sp := SpLInitP N
theorem scLInit : FnScope ["self", "piece", "closer"] ["self", "piece", "closer"] (defScope sLInit) := ⟨rfl, rfl, rfl, by decide +kernel, rfl, by decide +kernel, by decide +kernel⟩
theorem ok_lInit {f : Addr} {fd : FuncData} (F : Fun K "__init__" "Level.__init__" sLInit f fd) (T : Txt K mg) (c : Cs K mg N) : FnOk P w K mg base (CXw P w) 1 f fd ["self", "piece", "closer"] (spLInit N) := by
  refine F.okN scLInit (fun vs H Q E h => ?_) (fun cdv A outer s H vs Q E hr h => ?_)
  · obtain ⟨l, dx, pa, cc, rfl, _⟩ := h
    rfl
  · obtain ⟨l, dx, pa, cc, rfl, hl, q⟩ := h
    refine ⟨_, pss_cons (ps_fld (pv 0) (pv 1) rfl) (pss_cons (ps_fld (pv 0) (pv 2) rfl) (pss_cons (ps_fld (pv 0) (pe_gs T.ready) rfl) (pss_cons (ps_fld (pv 0) pe_dnewT rfl) (pss_one (ps_fld (pv 0) pe_non rfl))))), ?_⟩
    refine ⟨_, rfl, _, rfl, l, N.cL, dx, _, rfl, hl, c.l, c.ln _ (by simp), few rfl, ?_⟩
    refine ⟨_, rfl, _, rfl, l, N.cL, dx, _, rfl, upd_same, c.l, c.ln _ (by simp), few rfl, ?_⟩
    refine ⟨_, rfl, l, N.cL, dx, _, rfl, upd_same, c.l, c.ln _ (by simp), few rfl, ?_⟩
    intro sa hsa
    have nl : l ≠ sa := fun z => by rw [← z, upd_same] at hsa; cases hsa
    refine ⟨_, rfl, l, N.cL, dx, _, rfl, (by rw [upd_ne nl]; exact upd_same), c.l, c.ln _ (by simp), few rfl, ?_⟩
    refine ⟨_, rfl, l, N.cL, dx, _, rfl, upd_same, c.l, c.ln _ (by simp), few rfl, ?_⟩
    rw [upd_ne (Ne.symm nl), upd_ne (Ne.symm nl), upd_ne (Ne.symm nl)] at hsa
    refine q _ sa ?_ ?_ hsa fun b o e n => ?_
    · rw [upd_same]; rfl
    · rw [upd_ne (Ne.symm nl), upd_ne (Ne.symm nl), upd_same]
    · have nb : b ≠ l := fun z => n (by simp [z])
      rw [upd_ne nb, upd_ne nb, upd_ne (ne_of_none e hsa), upd_ne nb, upd_ne nb, upd_ne nb]
      exact e
end
end Prg
set_option linter.all false
set_option maxRecDepth 100000
set_option maxHeartbeats 4000000
namespace Prg
open PySem PySem.Spec PyProof.Rows L2
theorem seq_via {t rest : TS} {D : Ends} {σ : St} {H : Hp} (R : St → Hp → Prop) (hr : ∀ σ' H', R σ' H' → rest D σ' H') (h : (∀ σ' H', R σ' H' → rest D σ' H') → tSeq t rest D σ H) : tSeq t rest D σ H := h hr
theorem modify_set {α : Type} {l : List α} {i : Nat} {x : α} (f : α → α) (h : l[i]? = some x) : l.modify i f = l.set i (f x) := by
  apply List.ext_getElem?
  intro j
  rw [List.getElem?_modify]
  by_cases hj : i = j
  · subst hj
    rw [h, List.getElem?_set_self (List.getElem?_eq_some_iff.mp h).1]
    simp
  · rw [List.getElem?_set_ne hj]
    simp [hj]
inductive GetP (C : Addr) (B : List Addr) (H : Hp) (obs : List Mir.Pc) (i : Nat) (a : Addr) : Prop
  | mk : ∀ pc dx ka oa, (obs[i]? = some pc) → (H a = some (.ins C dx (pf (kdS pc.kind) ka oa pc.length pc.comma pc.filled pc.noted pc.behind))) → (H ka = some (.lst (pc.key.map vi))) → (H oa = some (.lst (pc.own.map vi))) → (ka ∉ B) → (oa ∉ B) → GetP C B H obs i a
theorem Pcs.get {C : Addr} {B : List Addr} {H : Hp} {as : List Addr} {obs : List Mir.Pc} (h : Pcs C B H as obs) {i : Nat} {a : Addr} (ha : as[i]? = some a) : GetP C B H obs i a := by
  have hi : i < obs.length := by rw [← h.len]; exact (List.getElem?_eq_some_iff.mp ha).1
  obtain ⟨b, e1, dx, ka, oa, g1, g2, g3, g4, g5⟩ := h.at_ i _ (List.getElem?_eq_getElem hi)
  have : b = a := Option.some.inj (e1.symm.trans ha)
  subst this
  exact ⟨_, dx, ka, oa, List.getElem?_eq_getElem hi, g1, g2, g3, g4, g5⟩
noncomputable def lastV (as : List Addr) : Option Nat → V
  | none => .non
  | some j => match as[j]? with
    | some a => .ref a
    | none => .non
noncomputable def pre2 (obs : List Mir.Pc) (pi : Nat) : Option Nat → List Mir.Pc
  | some j => (obs.modify j fun w => { w with comma := true }).modify pi fun w => { w with length := w.length + 2 }
  | none => obs
theorem lastV_some {as : List Addr} {j : Nat} {a : Addr} (h : as[j]? = some a) : lastV as (some j) = .ref a := by
  show (match as[j]? with | some a => V.ref a | none => .non) = _
  rw [h]
theorem addO_eq {obs : List Mir.Pc} {pi mi : Nat} {last : Option Nat} {o2 : List Mir.Pc} (h2 : o2 = pre2 obs pi last) {pw pm : Mir.Pc} (hw : o2[pi]? = some pw) (hm : o2[mi]? = some pm) :
    Mir.addO obs pi last mi = o2.set pi { pw with length := pw.length + pm.length, filled := true, noted := pw.noted || pm.noted } := by
  unfold Mir.addO
  cases last with
  | none =>
    simp only [pre2] at h2 ⊢
    rw [← h2, modify_set _ hw]
    unfold Mir.lenOf Mir.notedOf
    rw [hm]
    rfl
  | some j =>
    simp only [pre2] at h2 ⊢
    rw [← h2, modify_set _ hw]
    unfold Mir.lenOf Mir.notedOf
    rw [hm]
    rfl
section
variable {P : Program} {w : World} {K : PySem.W.Frag} {mg : Str → Option Value} {base : Heap} {N : Nm}
inductive SpAddP (N : Nm) (vs : List V) (H : Hp) (Q : VK) (E_ : XK) : Prop
  | mk : ∀ (l dl pa ma sa : Addr) (c : Int) (st : Str) (B as : List Addr) (obs : List Mir.Pc) (pi mi : Nat) (last : Option Nat), vs = [.ref l, .ref ma] → H l = some (.ins N.cL dl (lf pa c st sa (lastV as last))) → as[pi]? = some pa → as[mi]? = some ma → (∀ j, last = some j → j < as.length) → Pcs N.cP B H as obs → (∀ H', H' l = some (.ins N.cL dl (lf pa c "filled" sa (.ref ma))) → Pcs N.cP B H' as (Mir.addO obs pi last mi) → Kp (l :: as) H H' → Q .non H') → SpAddP N vs H Q E_
noncomputable def spAdd (N : Nm) : Sp := SpAddP N
theorem scAdd : FnScope ["self", "member", "whole", "last"] ["self", "member"] (defScope sLAdd) := ⟨rfl, rfl, rfl, by decide +kernel, rfl, by decide +kernel, by decide +kernel⟩
theorem ok_add {f : Addr} {fd : FuncData} (F : Fun K "add" "Level.add" sLAdd f fd) (T : Txt K mg) (c : Cs K mg N) : FnOk P w K mg base (CXw P w) 1 f fd ["self", "member"] (spAdd N) := by
  refine F.okN scAdd (fun vs H Q E h => ?_) (fun cdv A outer s H vs Q E hr h => ?_)
  · obtain ⟨l, dl, pa, ma, sa, cc, st, B, as, obs, pi, mi, last, rfl, _⟩ := h
    rfl
  · obtain ⟨l, dl, pa, ma, sa, cc, st, B, as, obs, pi, mi, last, rfl, hl, hpi, hmi, hj, PP, q⟩ := h
    have nP : ∀ {H' : Hp} {b : Addr} {dx fs}, H' l = some (.ins N.cL dl (lf pa cc st sa (lastV as last))) → H' b = some (.ins N.cP dx fs) → b ≠ l := fun h1 h2 => ne_of h2 h1 (by intro z; injection z with z _ _; exact c.pl z)
    refine ⟨_, pss_cons (ps_set (i := 2) scAdd.nd rfl (Or.inl rfl) (pe_fld (pv 0) rfl)) (pss_cons (ps_set (i := 3) scAdd.nd rfl (Or.inl rfl) (pe_fld (pv 0) rfl))
      (pss_cons (ps_if (pt_cmpR op_notN (pv 3) pe_non (nomark _)) (pss_cons (ps_fld (pv 3) pe_bl rfl) (pss_one (ps_fldaug (pv 2) pe_int in_add))) pss_nil)
      (pss_cons (ps_fldaug (pv 2) (pe_fld (pv 1) rfl) in_add) (pss_cons (ps_fld (pv 2) pe_bl rfl)
      (pss_cons (ps_fld (pv 2) (pe_or (pe_fld (pv 2) rfl) (pe_one (pe_fld (pv 1) rfl))) rfl) (pss_cons (ps_fld (pv 0) (pv 1) rfl) (pss_one (ps_fld (pv 0) (pe_gs T.filled) rfl)))))))), ?_⟩
    refine ⟨_, rfl, l, N.cL, dl, _, _, rfl, hl, c.l, c.ln _ (by simp), rfl, ?_⟩
    refine ⟨_, rfl, l, N.cL, dl, _, _, rfl, hl, c.l, c.ln _ (by simp), rfl, ?_⟩
    dsimp only [gName]
    refine seq_via (t := tIfS _ _ _) (fun σ' H' => σ' = [some (.ref l), some (.ref ma), some (.ref pa), some (lastV as last)] ∧ H' l = some (.ins N.cL dl (lf pa cc st sa (lastV as last))) ∧ Kp (l :: as) H H' ∧ ∃ o2, Pcs N.cP B H' as o2 ∧ o2 = pre2 obs pi last) ?_ fun rest => ?_
    · rintro σ' H2 ⟨rfl, hl2, k2, o2, P2, e2⟩
      obtain ⟨pw, dw, kw, ow, w0, w1, w2, w3, w4, w5⟩ := P2.get hpi
      obtain ⟨pm, dm, km, om, m0, m1, m2, m3, m4, m5⟩ := P2.get hmi
      have eA := addO_eq e2 w0 m0
      -- whole.length += member.length
      refine ⟨_, rfl, pa, N.cP, dw, _, _, rfl, w1, c.p, c.pn _ (by simp), rfl, _, rfl, ma, N.cP, dm, _, _, rfl, m1, c.p, c.pn _ (by simp), rfl, _, _, rfl, rfl, dw, _, w1, few rfl, ?_⟩
      -- whole.filled = True
      refine ⟨_, rfl, pa, N.cP, dw, _, rfl, upd_same, c.p, c.pn _ (by simp), few rfl, ?_⟩
      -- whole.noted = whole.noted or member.noted
      have fin : ∀ (b : Bool), b = (pw.noted || pm.noted) → ∀ H3 : Hp, H3 = upd (upd H2 pa (.ins N.cP dw (pf (kdS pw.kind) kw ow (pw.length + pm.length) pw.comma pw.filled pw.noted pw.behind))) pa (.ins N.cP dw (pf (kdS pw.kind) kw ow (pw.length + pm.length) pw.comma true pw.noted pw.behind)) →
          Q .non (upd (upd (upd H3 pa (.ins N.cP dw (pf (kdS pw.kind) kw ow (pw.length + pm.length) pw.comma true b pw.behind))) l (.ins N.cL dl (lf pa cc st sa (.ref ma)))) l (.ins N.cL dl (lf pa cc "filled" sa (.ref ma)))) := by
        intro b hb H3 e3
        have P3 : Pcs N.cP B (upd H2 pa (.ins N.cP dw (pf (kdS pw.kind) kw ow ((pw.length + pm.length : Nat) : Int) pw.comma true (pw.noted || pm.noted) pw.behind))) as (Mir.addO obs pi last mi) := by
          rw [eA]
          exact P2.set (pc' := { pw with length := pw.length + pm.length, filled := true, noted := pw.noted || pm.noted }) w0 hpi w1 w2 w3 w4 w5 rfl rfl rfl
        have eH : upd H3 pa (.ins N.cP dw (pf (kdS pw.kind) kw ow (pw.length + pm.length) pw.comma true b pw.behind)) = upd H2 pa (.ins N.cP dw (pf (kdS pw.kind) kw ow ((pw.length + pm.length : Nat) : Int) pw.comma true (pw.noted || pm.noted) pw.behind)) := by
          rw [e3, upd_upd, upd_upd, hb, Int.natCast_add]
        rw [eH, upd_upd]
        refine q _ upd_same (P3.kp (S := [l]) (Kp.upd (by simp)) fun b' hb' => ?_) ?_
        · have z : b' = l := by simpa using hb'
          rw [z, upd_ne (Ne.symm (nP hl2 w1)), hl2]
          exact ⟨fun dx fs z => by injection z with z; injection z with z _ _; exact c.pl z.symm, .inr fun xs z => by cases z⟩
        · refine k2.trans fun b' o' e' n' => ?_
          rw [upd_ne (fun z => n' (by simp [z])), upd_ne (fun z => n' (by rw [z]; exact List.mem_cons_of_mem _ (List.mem_of_getElem? hpi)))]
          exact e'
      have hm3 : ∃ nm, ∀ H3 : Hp, H3 = upd (upd H2 pa (.ins N.cP dw (pf (kdS pw.kind) kw ow (pw.length + pm.length) pw.comma pw.filled pw.noted pw.behind))) pa (.ins N.cP dw (pf (kdS pw.kind) kw ow (pw.length + pm.length) pw.comma true pw.noted pw.behind)) → ∃ dx fs, H3 ma = some (.ins N.cP dx fs) ∧ fs.lookup ("noted" : Str) = some (.bl nm) ∧ nm = pm.noted := by
        by_cases hp : ma = pa
        · subst hp
          refine ⟨pw.noted, fun H3 e3 => ?_⟩
          subst e3
          refine ⟨dw, _, upd_same, rfl, ?_⟩
          rw [w1] at m1
          injection m1 with m1
          injection m1 with _ _ m1
          injection m1 with _ m1
          injection m1 with _ m1
          injection m1 with _ m1
          injection m1 with _ m1
          injection m1 with _ m1
          injection m1 with _ m1
          injection m1 with m1 _
          injection m1 with _ m1
          injection m1
        · refine ⟨pm.noted, fun H3 e3 => ?_⟩
          subst e3
          exact ⟨dm, _, (by rw [upd_ne hp, upd_ne hp]; exact m1), rfl, rfl⟩
      obtain ⟨nm, hm3⟩ := hm3
      obtain ⟨dm3, fm3, g1, g2, g3⟩ := hm3 _ rfl
      have lne : pa ≠ l := nP hl2 w1
      refine ⟨_, rfl, pa, N.cP, dw, _, _, rfl, upd_same, c.p, c.pn _ (by simp), rfl, _, rfl, ite2 (fun h => ?_) fun h => ⟨_, rfl, ma, N.cP, dm3, fm3, _, rfl, g1, c.p, c.pn _ (by simp), g2, ?_⟩⟩
      · refine ⟨_, rfl, pa, N.cP, dw, _, rfl, upd_same, c.p, c.pn _ (by simp), few rfl, ?_⟩
        refine ⟨_, rfl, _, rfl, l, N.cL, dl, _, rfl, (by rw [upd_ne (Ne.symm lne), upd_ne (Ne.symm lne), upd_ne (Ne.symm lne)]; exact hl2), c.l, c.ln _ (by simp), few rfl, ?_⟩
        refine ⟨_, rfl, l, N.cL, dl, _, rfl, upd_same, c.l, c.ln _ (by simp), few rfl, ?_⟩
        exact fin true (by rw [h]; rfl) _ rfl
      · refine ⟨_, rfl, pa, N.cP, dw, _, rfl, upd_same, c.p, c.pn _ (by simp), few rfl, ?_⟩
        refine ⟨_, rfl, _, rfl, l, N.cL, dl, _, rfl, (by rw [upd_ne (Ne.symm lne), upd_ne (Ne.symm lne), upd_ne (Ne.symm lne)]; exact hl2), c.l, c.ln _ (by simp), few rfl, ?_⟩
        refine ⟨_, rfl, l, N.cL, dl, _, rfl, upd_same, c.l, c.ln _ (by simp), few rfl, ?_⟩
        refine fin nm ?_ _ rfl
        have h' : pw.noted = false := by simpa using h
        rw [g3, h', Bool.false_or]
    · refine ⟨_, rfl, rfl, _, rfl, ite2 (fun h => ?_) fun h => ?_⟩
      · rcases (show last = none ∨ ∃ j, last = some j by cases last <;> simp) with hlast | ⟨j, hlast⟩
        · rw [hlast] at h
          exact absurd h (show ¬ (!decide (V.non = V.non)) = true by decide)
        · obtain ⟨aj, haj⟩ : ∃ aj, as[j]? = some aj := ⟨_, List.getElem?_eq_getElem (hj j hlast)⟩
          have ev : lastV as (some j) = .ref aj := lastV_some haj
          obtain ⟨pj, dj, kj, oj, j0, j1, j2, j3, j4, j5⟩ := PP.get haj
          have P1 := PP.set (pc' := { pj with comma := true }) j0 haj j1 j2 j3 j4 j5 rfl rfl rfl
          obtain ⟨pw, dw, kw, ow, w0, w1, w2, w3, w4, w5⟩ := P1.get hpi
          have P2 := P1.set (pc' := { pw with length := pw.length + 2 }) w0 hpi w1 w2 w3 w4 w5 rfl rfl rfl
          have hl1 := hl
          refine ⟨_, by show some (some (lastV as last)) = _; rw [hlast, ev], aj, N.cP, dj, _, rfl, j1, c.p, c.pn _ (by simp), few rfl, ?_⟩
          refine ⟨_, rfl, pa, N.cP, dw, _, _, rfl, w1, c.p, c.pn _ (by simp), rfl, _, _, rfl, rfl, dw, _, w1, few rfl, ?_⟩
          refine rest _ _ ⟨rfl, ?_, fun b o e n => ?_, _, P2, ?_⟩
          · have n1 : pa ≠ l := by
              by_cases z : pa = aj
              · rw [z]; exact nP hl j1
              · rw [upd_ne z] at w1; exact nP hl w1
            rw [upd_ne (Ne.symm n1), upd_ne (Ne.symm (nP hl j1))]; exact hl
          · rw [upd_ne (fun z => n (by rw [z]; exact List.mem_cons_of_mem _ (List.mem_of_getElem? hpi))), upd_ne (fun z => n (by rw [z]; exact List.mem_cons_of_mem _ (List.mem_of_getElem? haj)))]; exact e
          · rw [hlast]
            show _ = (obs.modify j fun w => { w with comma := true }).modify pi fun w => { w with length := w.length + 2 }
            rw [modify_set (fun w : Mir.Pc => { w with comma := true }) j0, modify_set (fun w : Mir.Pc => { w with length := w.length + 2 }) w0]
      · rcases (show last = none ∨ ∃ j, last = some j by cases last <;> simp) with hlast | ⟨j, hlast⟩
        rotate_left
        · obtain ⟨aj, haj⟩ : ∃ aj, as[j]? = some aj := ⟨_, List.getElem?_eq_getElem (hj j hlast)⟩
          have ev : lastV as last = .ref aj := by rw [hlast]; exact lastV_some haj
          rw [ev] at h
          exact absurd rfl h
        · exact rest _ _ ⟨rfl, hl, Kp.refl, obs, PP, by rw [hlast]; rfl⟩
end
end Prg
set_option linter.all false
set_option maxRecDepth 100000
set_option maxHeartbeats 4000000
namespace Prg
open PySem PySem.Spec PyProof.Rows L2
structure Ad where
  r : Addr
  dr : Addr
  ta : Addr
  pa : Addr
  la : Addr
  as : List Addr
  ls : List Addr
  ss : List Addr
noncomputable def seenK (k : List Nat) : List Key := k.map fun (n : Nat) => (Sum.inl (n : Int) : Key)
noncomputable def seenKvs (seen : List (List Nat)) : List (List Key × V) := seen.map fun k => (seenK k, V.bl true)
inductive LevelAtP (N : Nm) (H : Hp) (as : List Addr) (l sa : Addr) (lv : Mir.Lv) : Prop
  | mk : ∀ dx pa, (H l = some (.ins N.cL dx (lf pa lv.closer (stS lv.st) sa (lastV as lv.last)))) → (as[lv.pi]? = some pa) → ((∀ j, lv.last = some j → j < as.length)) → (H sa = some (.dT (seenKvs lv.seen))) → LevelAtP N H as l sa lv
noncomputable def LevelAt (N : Nm) (H : Hp) (as : List Addr) (l sa : Addr) (lv : Mir.Lv) : Prop := LevelAtP N H as l sa lv
structure Lvls (N : Nm) (H : Hp) (as ls ss : List Addr) (lvs : List Mir.Lv) : Prop where
  nd : ls.Nodup
  snd : ss.Nodup
  len : ls.length = lvs.length
  slen : ss.length = lvs.length
  at_ : ∀ (i : Nat) (lv : Mir.Lv), lvs[i]? = some lv → ∃ l sa, ls[i]? = some l ∧ ss[i]? = some sa ∧ LevelAt N H as l sa lv
noncomputable def KL (K : PySem.W.Frag) (a : Addr) (xs : List V) : Prop := ∃ (o : Obj) (its : Array Value) (n : Nat), K.lookup a = some o ∧ o.cls = .type "list" ∧ o.dict = none ∧ o.data = .seq its n ∧ its.size ≤ sizeLine ∧ Vals xs its.toList
structure Rep (K : PySem.W.Frag) (N : Nm) (H : Hp) (A : Ad) (t : List Nat) (m : Mir.M) : Prop where
  r : H A.r = some (.ins N.cR A.dr (rf A.ta m.place A.pa A.la))
  text : SqL K H A.ta (tx t)
  sep : (A.ta ≠ A.pa ∧ A.ta ≠ A.la) ∨ KL K A.ta (tx t)
  short : t.length ≤ 20000
  byt : B8 t
  place : m.place ≤ t.length
  pieces : H A.pa = some (.lst (A.as.tail.map V.ref))
  levels : H A.la = some (.lst (A.ls.reverse.map V.ref))
  ne : A.pa ≠ A.la
  pcs : Pcs N.cP [A.pa, A.la] H A.as m.obs
  lvs : Lvls N H A.as A.ls A.ss m.lvs
  few : m.obs.length ≤ m.place + 1
  deep : m.lvs.length ≤ 41
  sfew : ∀ lv ∈ m.lvs, lv.seen.length ≤ m.place
  stay : ∀ g ∈ N.tb, H g.1 = some g.2
theorem LevelAt.kp {N : Nm} {S : List Addr} {H H' : Hp} {as : List Addr} {l sa : Addr} {lv : Mir.Lv} (h : LevelAt N H as l sa lv) (k : Kp S H H') (hS : ∀ b ∈ S, (∀ dx fs, H b ≠ some (.ins N.cL dx fs)) ∧ ∀ kvs, H b ≠ some (.dT kvs)) : LevelAt N H' as l sa lv := by
  obtain ⟨dx, pa, h1, h2, h3, h4⟩ := h
  exact ⟨dx, pa, k _ _ h1 fun z => (hS _ z).1 _ _ h1, h2, h3, k _ _ h4 fun z => (hS _ z).2 _ h4⟩
theorem Lvls.kp {N : Nm} {S : List Addr} {H H' : Hp} {as ls ss : List Addr} {lvs : List Mir.Lv} (h : Lvls N H as ls ss lvs) (k : Kp S H H') (hS : ∀ b ∈ S, (∀ dx fs, H b ≠ some (.ins N.cL dx fs)) ∧ ∀ kvs, H b ≠ some (.dT kvs)) : Lvls N H' as ls ss lvs :=
  ⟨h.nd, h.snd, h.len, h.slen, fun i lv e => let ⟨l, sa, e1, e2, e3⟩ := h.at_ i lv e; ⟨l, sa, e1, e2, e3.kp k hS⟩⟩
section
variable {K : PySem.W.Frag} {mg : Str → Option Value} {N : Nm} {H H' : Hp} {A : Ad} {t : List Nat} {m : Mir.M}
theorem Rep.move (c : Cs K mg N) (R : Rep K N H A t m) {p : Nat} (k : Kp [A.r] H H') (hr : H' A.r = some (.ins N.cR A.dr (rf A.ta p A.pa A.la))) (h1 : m.place ≤ p) (h2 : p ≤ t.length) : Rep K N H' A t { m with place := p } := by
  have nr : ∀ b xs, H b = some (.lst xs) → b ∉ [A.r] := fun b xs e z => by
    have z : b = A.r := by simpa using z
    rw [z, R.r] at e; cases e
  refine ⟨hr, ?_, R.sep, R.short, R.byt, h2, k _ _ R.pieces (nr _ _ R.pieces), k _ _ R.levels (nr _ _ R.levels), R.ne, R.pcs.kp k fun b z => ?_, R.lvs.kp k fun b z => ?_, Nat.le_trans R.few (by simp only; omega), R.deep, fun lv hlv => Nat.le_trans (R.sfew lv hlv) h1, stay_kp R.stay c.st k fun b z => ⟨_, ((List.mem_singleton.mp z) ▸ R.r), rfl⟩⟩
  · rcases R.text with (h | ⟨o, h⟩) | h
    · exact .inl (.inl (k _ _ h (nr _ _ h)))
    · refine .inl (.inr ⟨o, k _ _ h fun z => ?_⟩)
      have z : A.ta = A.r := by simpa using z
      rw [z, R.r] at h; cases h
    · exact .inr h
  · have z : b = A.r := by simpa using z
    rw [z, R.r]
    exact ⟨fun dx fs w => by injection w with w; injection w with w _ _; exact c.pr w.symm, .inr fun xs w => by cases w⟩
  · have z : b = A.r := by simpa using z
    rw [z, R.r]
    exact ⟨fun dx fs w => by injection w with w; injection w with w _ _; exact c.lr w.symm, fun kvs w => by cases w⟩
theorem Rep.same (c : Cs K mg N) (R : Rep K N H A t m) (s : Same H H') : Rep K N H' A t m := R.move c (p := m.place) (Kp.of s) (s _ _ R.r) (Nat.le_refl _) R.place
theorem Rep.put (c : Cs K mg N) (R : Rep K N H A t m) {p : Nat} (h1 : m.place ≤ p) (h2 : p ≤ t.length) : Rep K N (upd H A.r (.ins N.cR A.dr (rf A.ta p A.pa A.la))) A t { m with place := p } :=
  R.move c (Kp.upd (by simp)) upd_same h1 h2
end
theorem skip_step {t : List Nat} {p : Nat} (h : Mir.bl (Mir.at_ t p) = true) : p < t.length ∧ Mir.skipP t (p + 1) = Mir.skipP t p ∧ Mir.skipB t p = ((Mir.at_ t p == 10) || Mir.skipB t (p + 1)) := by
  have hp : p < t.length := by
    by_cases hp : p < t.length
    · exact hp
    · rw [Mir.at_end (by omega)] at h
      exact absurd h (by decide)
  refine ⟨hp, ?_, ?_⟩
  · unfold Mir.skipP
    rw [Mir.drop_cons hp, List.takeWhile_cons, if_pos h, List.length_cons]
    omega
  · unfold Mir.skipB
    rw [Mir.drop_cons hp, List.takeWhile_cons, if_pos h, List.contains_cons]
    congr 1
    exact Bool.beq_comm
theorem skip_stop {t : List Nat} {p : Nat} (h : ¬ Mir.bl (Mir.at_ t p) = true) : Mir.skipP t p = p ∧ Mir.skipB t p = false := by
  unfold Mir.skipP Mir.skipB
  by_cases hp : p < t.length
  · rw [Mir.drop_cons hp, List.takeWhile_cons, if_neg h]; exact ⟨rfl, rfl⟩
  · rw [List.drop_eq_nil_of_le (by omega)]; exact ⟨rfl, rfl⟩
section
variable {P : Program} {w : World} {K : PySem.W.Frag} {mg : Str → Option Value} {base : Heap} {N : Nm}
inductive SpSkipP (K : PySem.W.Frag) (N : Nm) (vs : List V) (H : Hp) (Q : VK) (E_ : XK) : Prop
  | mk : ∀ (A : Ad) (t : List Nat) (m : Mir.M), vs = [.ref A.r] → Rep K N H A t m → (∀ H', Rep K N H' A t { m with place := Mir.skipP t m.place } → Kp [A.r] H H' → Q (.bl (Mir.skipB t m.place)) H') → SpSkipP K N vs H Q E_
noncomputable def spSkip (K : PySem.W.Frag) (N : Nm) : Sp := SpSkipP K N
theorem scSkip : FnScope ["self", "begin"] ["self"] (defScope sSkip) := ⟨rfl, rfl, rfl, by decide +kernel, rfl, by decide +kernel, by decide +kernel⟩
theorem cut_slice {t : List Nat} {p q : Nat} (h1 : p ≤ q) (h2 : q ≤ t.length) : cutV (tx t) (some (p : Int)) (some (q : Int)) = (Mir.slice t p q).map vi := by
  unfold cutV Mir.slice
  rw [HT.sIx_nat, HT.sIx_nat, tx_len, Nat.min_eq_left (by omega), Nat.min_eq_left (by omega)]
  unfold tx
  rw [← List.map_drop, ← List.map_take, List.drop_append_of_le_length (by omega), List.take_append_of_le_length (by rw [List.length_drop]; omega)]
theorem inV_vi (l : List Nat) (n : Nat) : inV (.int (n : Int)) (l.map vi) = l.contains n := by
  unfold inV
  rw [List.any_map, List.contains_eq_any_beq]
  congr 1
  funext x
  show ((x : Int) == (n : Int)) = (n == x)
  rw [Bool.eq_iff_iff, beq_iff_eq, beq_iff_eq]
  omega
theorem all_vi (l : List Nat) : (l.map vi).all flatV = true := by
  rw [List.all_map, List.all_eq_true]
  exact fun x _ => rfl
theorem skip_in {t : List Nat} {p : Nat} (hp : p ≤ t.length) : inV (.int 10) ((Mir.slice t p (Mir.skipP t p)).map vi) = Mir.skipB t p := by
  have e : Mir.slice t p (Mir.skipP t p) = (t.drop p).takeWhile Mir.bl := by
    unfold Mir.slice Mir.skipP
    rw [Nat.add_sub_cancel_left]
    exact (List.prefix_iff_eq_take.mp (List.takeWhile_prefix _)).symm
  rw [e]
  unfold Mir.skipB
  exact inV_vi _ 10
theorem ok_skip {f : Addr} {fd : FuncData} (F : Fun K "skip_space" "Reader.skip_space" sSkip f fd) (T : Txt K mg) (c : Cs K mg N) : FnOk P w K mg base (CXw P w) 2 f fd ["self"] (spSkip K N) := by
  refine F.okN scSkip (fun vs H Q E h => ?_) (fun cdv A outer s H vs Q E hr h => ?_)
  · obtain ⟨A, t, m, rfl, _⟩ := h
    rfl
  · obtain ⟨A', t, m, rfl, R, q⟩ := h
    refine ⟨_, pss_cons (ps_set (i := 1) scSkip.nd rfl (Or.inl rfl) (pe_fld (pv 0) rfl))
      (pss_cons (ps_while PassesOwn.never (pt_cmpR op_in_seq (pe_ix ix_list (pe_fld (pv 0) rfl) (pe_fld (pv 0) rfl) (fun _ _ => rfl)) (pe_tup (pa_cons (pe_gi T.blank) (pa_cons (pe_gi T.lineEnd) pa_nil))) (by with_unfolding_all rfl))
        (pss_one (ps_fldaug (pv 0) pe_int in_add)))
      (pss_one (ps_ret (pe_cmpR op_in_seq (pe_gi T.lineEnd) (pe_slice sl_list (pe_fld (pv 0) rfl) (po_some (pv 1)) (po_some (pe_fld (pv 0) rfl))) (by with_unfolding_all rfl))))), ?_⟩
    refine ⟨_, rfl, A'.r, N.cR, A'.dr, _, _, rfl, R.r, c.r, c.rn _ (by simp), rfl, ?_⟩
    refine while_in (fun σ H' => ∃ p : Nat, σ = [some (.ref A'.r), some (.int m.place)] ∧ Rep K N H' A' t { m with place := p } ∧ m.place ≤ p ∧ Kp [A'.r] H H' ∧ Mir.skipP t p = Mir.skipP t m.place)
      (fun σ H' => match H' A'.r with | some (.ins _ _ [_, (_, .int i), _, _]) => t.length - i.toNat | _ => 0) ⟨m.place, rfl, R, Nat.le_refl _, Kp.refl, rfl⟩ ?_
    rintro σ H1 ⟨p, rfl, R1, hle, k1, e1⟩
    refine ⟨_, rfl, A'.r, N.cR, A'.dr, _, _, rfl, R1.r, c.r, c.rn _ (by simp), rfl, _, rfl, A'.r, N.cR, A'.dr, _, _, rfl, R1.r, c.r, c.rn _ (by simp), rfl, A'.ta, _, _, _, rfl, rfl, R1.text, atI_nat (tx_at R1.place), ?_⟩
    refine ⟨(by show 2 ≤ sizeLine; decide), fun tp htp => ⟨tp, _, rfl, .inr (SqT.of upd_same), rfl, rfl, _, rfl, ite2 (fun h => ?_) fun h => ?_⟩⟩
    · have hb : Mir.bl (Mir.at_ t p) = true := by
        have z : (((32 : Int) == (Mir.at_ t p : Int)) || (((10 : Int) == (Mir.at_ t p : Int)) || false)) = true := h
        unfold Mir.bl
        simp only [Bool.or_eq_true, beq_iff_eq, Bool.or_false] at z ⊢
        omega
      obtain ⟨hp, s1, s2⟩ := skip_step hb
      have R2 := R1.same c (same_new (o := .tup [.int 32, .int 10]) htp)
      refine ⟨fun σ' H' => (∃ p : Nat, σ' = [some (.ref A'.r), some (.int m.place)] ∧ Rep K N H' A' t { m with place := p } ∧ m.place ≤ p ∧ Kp [A'.r] H H' ∧ Mir.skipP t p = Mir.skipP t m.place) ∧ (match H' A'.r with | some (.ins _ _ [_, (_, .int i), _, _]) => t.length - i.toNat | _ => 0) < t.length - p, fun σ' H' z => ⟨_, by rw [R1.r]; exact z.2, rfl, z.1⟩, ?_⟩
      refine ⟨_, rfl, A'.r, N.cR, A'.dr, _, _, rfl, R2.r, c.r, c.rn _ (by simp), rfl, _, _, rfl, rfl, A'.dr, _, R2.r, few rfl, ⟨p + 1, rfl, R2.put c (p := p + 1) (by simp only; omega) (by omega), by omega, (k1.trans (Kp.new htp)).trans (Kp.upd (by simp)), s1.trans e1⟩, ?_⟩
      rw [upd_same]
      show t.length - ((p : Int) + 1).toNat < t.length - p
      omega
    · have hb : ¬ Mir.bl (Mir.at_ t p) = true := fun z => h (by
        show (((32 : Int) == (Mir.at_ t p : Int)) || (((10 : Int) == (Mir.at_ t p : Int)) || false)) = true
        unfold Mir.bl at z
        simp only [Bool.or_eq_true, beq_iff_eq, Bool.or_false] at z ⊢
        omega)
      obtain ⟨s1, s2⟩ := skip_stop hb
      rw [s1] at e1
      have R2 := R1.same c (same_new (o := .tup [.int 32, .int 10]) htp)
      refine ⟨_, rfl, A'.r, N.cR, A'.dr, _, _, rfl, R2.r, c.r, c.rn _ (by simp), rfl, _, rfl, _, rfl, _, rfl, A'.r, N.cR, A'.dr, _, _, rfl, R2.r, c.r, c.rn _ (by simp), rfl, _, rfl, A'.ta, _, rfl, R2.text, fun lp hlp => ?_⟩
      rw [cut_slice hle R1.place]
      refine ⟨lp, _, rfl, .inl (SqL.of upd_same), rfl, all_vi _, ?_⟩
      have R3 := R2.same c (same_new (o := .lst ((Mir.slice t m.place p).map vi)) hlp)
      rw [e1] at R3 ⊢
      rw [skip_in R.place]
      exact q _ R3 ((k1.trans (Kp.new htp)).trans (Kp.new hlp))
end
end Prg
set_option linter.all false
set_option maxRecDepth 100000
set_option maxHeartbeats 4000000
namespace Prg
open PySem PySem.Spec PyProof.Rows L2
theorem seenK_kV (k : List Nat) : (seenK k).map kV = k.map vi := by
  unfold seenK
  rw [List.map_map]
  rfl
theorem seenK_inj {k k' : List Nat} (h : seenK k = seenK k') : k = k' := by
  have z := congrArg (List.map kV) h
  rw [seenK_kV, seenK_kV] at z
  exact List.map_inj_right (fun a b e => by injection e with e; omega) |>.mp z
theorem seen_val : ∀ (seen : List (List Nat)) (k : List Nat), (valV (seenKvs seen) (seenK k)).isSome = seen.contains k := by
  intro seen k
  have h : (seenKvs seen).any (fun kv => decide (kv.1 = seenK k)) = seen.contains k := by
    unfold seenKvs
    rw [List.any_map, List.contains_eq_any_beq]
    congr 1
    funext x
    show decide (seenK x = seenK k) = (k == x)
    by_cases e : x = k
    · subst e; simp
    · have e2 : ¬ seenK x = seenK k := fun z => e (seenK_inj z)
      rw [decide_eq_false e2]
      exact (beq_eq_false_iff_ne.mpr fun z => e z.symm).symm
  rw [← h, valV_any]
section
variable {P : Program} {w : World} {K : PySem.W.Frag} {mg : Str → Option Value} {base : Heap} {N : Nm}
noncomputable abbrev FWordEnd (P : Program) (w : World) (K : PySem.W.Frag) (mg : Str → Option Value) (base : Heap) : Prop := GFn P w K mg base "word_end" 2 ["text", "place"] (spWordEnd K)
noncomputable abbrev FStringEnd (P : Program) (w : World) (K : PySem.W.Frag) (mg : Str → Option Value) (base : Heap) (N : Nm) : Prop := GFn P w K mg base "string_end" 3 ["text", "place"] (spStringEnd K N.cW)
noncomputable abbrev MSkip (P : Program) (w : World) (K : PySem.W.Frag) (mg : Str → Option Value) (base : Heap) (N : Nm) : Prop := GMt P w K mg base N.cR "skip_space" 2 ["self"] (spSkip K N)
inductive SpPlainP (K : PySem.W.Frag) (N : Nm) (vs : List V) (H : Hp) (Q : VK) (E : XK) : Prop
  | mk : ∀ (A : Ad) (t : List Nat) (m : Mir.M), vs = [.ref A.r] → Rep K N H A t m → (match Mir.plainP t m.place with | .error q => Errs E N.cW N.tb q | .ok q => ∀ H' p, Rep K N H' A t { m with place := q } → H p = none → H' p = some (.lst ((Mir.slice t m.place q).map vi)) → Kp [A.r] H H' → Q (.ref p) H') → SpPlainP K N vs H Q E
noncomputable def spPlain (K : PySem.W.Frag) (N : Nm) : Sp := SpPlainP K N
theorem scPlain : FnScope ["self", "begin", "is_string"] ["self"] (defScope sPlain) := ⟨rfl, rfl, rfl, by decide +kernel, rfl, by decide +kernel, by decide +kernel⟩
theorem ok_plain {f : Addr} {fd : FuncData} (F : Fun K "read_plain" "Reader.read_plain" sPlain f fd) (T : Txt K mg) (c : Cs K mg N) (G2 : FWordEnd P w K mg base) (G3 : FStringEnd P w K mg base N) (GW : FX P w K mg base N.cW) : FnOk P w K mg base (CXw P w) 4 f fd ["self"] (spPlain K N) := by
  refine F.okW scPlain (fun vs H Q E h => ?_) (fun cdv A outer s H vs Q E X eX O hr h => ?_)
  · obtain ⟨A, t, m, rfl, _⟩ := h
    rfl
  · obtain ⟨A', t, m, rfl, R, q⟩ := h
    have hr1 := hr.mono (by decide : 1 ≤ 3)
    have hr2 := hr.mono (by decide : 2 ≤ 3)
    refine ⟨_, pss_cons (ps_set (i := 1) scPlain.nd rfl (Or.inl rfl) (pe_fld (pv 0) rfl))
      (pss_cons (ps_set (i := 2) scPlain.nd rfl (Or.inl rfl) (pe_cmpR op_eq (pe_ix ix_list (pe_fld (pv 0) rfl) (pv 1) (fun _ _ => rfl)) (pe_gi T.quote) (nomark _)))
      (pss_cons (ps_fld (pv 0) (pe_ifExp (pt_val (pv 2)) (pe_fn G3 hr (passW own_cx) (pa_cons (pe_fld (pv 0) rfl) (pa_cons (pv 1) pa_nil))) (pe_fn G2 hr2 (passW own_cx) (pa_cons (pe_fld (pv 0) rfl) (pa_cons (pv 1) pa_nil)))) rfl)
      (pss_cons (ps_if (pt_cmpR op_eq (pe_fld (pv 0) rfl) (pv 1) (nomark _)) (pss_one (ps_rs GW own_cx rfl hr2 (pa_cons (pv 1) pa_nil))) pss_nil)
      (pss_one (ps_ret (pe_slice sl_list (pe_fld (pv 0) rfl) (po_some (pv 1)) (po_some (pe_fld (pv 0) rfl)))))))), ?_⟩
    refine ⟨_, rfl, A'.r, N.cR, A'.dr, _, _, rfl, R.r, c.r, c.rn _ (by simp), rfl, ?_⟩
    refine ⟨_, rfl, A'.r, N.cR, A'.dr, _, _, rfl, R.r, c.r, c.rn _ (by simp), rfl, _, rfl, A'.ta, _, _, _, rfl, rfl, R.text, atI_nat (tx_at R.place), rfl, ?_⟩
    dsimp only [gName]
    refine seq_via (t := sFld _ _ _ _) (fun σ' H' => ∃ u : Nat, ∃ z, σ' = [some (.ref A'.r), some (.int m.place), z] ∧ Rep K N H' A' t { m with place := u } ∧ Kp [A'.r] H H' ∧ m.place ≤ u ∧ (u = m.place → Mir.plainP t m.place = .error m.place) ∧ (u ≠ m.place → Mir.plainP t m.place = .ok u)) ?_ fun rest => ?_
    · rintro σ' H1 ⟨u, z0, rfl, R1, k1, hu, e1, e2⟩
      refine ⟨_, rfl, A'.r, N.cR, A'.dr, _, _, rfl, R1.r, c.r, c.rn _ (by simp), rfl, _, rfl, rfl, _, rfl, ite2 (fun h => ?_) fun h => ?_⟩
      · have h : u = m.place := by
          have z : V.int u = V.int m.place := of_decide_eq_true h
          injection z with z
          omega
        rw [e1 h] at q
        refine ⟨_, rfl, _, rfl, Errs.rd (q := m.place) q R1.stay (Nat.le_trans R.place (Nat.le_trans R.short (by decide)))⟩
      · have h : u ≠ m.place := fun z => by
          rw [z] at h
          exact h (decide_eq_true rfl)
        rw [e2 h] at q
        refine ⟨_, rfl, A'.r, N.cR, A'.dr, _, _, rfl, R1.r, c.r, c.rn _ (by simp), rfl, _, rfl, _, rfl, _, rfl, A'.r, N.cR, A'.dr, _, _, rfl, R1.r, c.r, c.rn _ (by simp), rfl, _, rfl, A'.ta, _, rfl, R1.text, fun p hp => ?_⟩
        rw [cut_slice hu R1.place]
        have hp0 : H p = none := by
          cases z : H p with
          | none => rfl
          | some o =>
            by_cases zr : p = A'.r
            · rw [zr, R1.r] at hp; cases hp
            · have := k1 p o z (by simpa using zr)
              rw [hp] at this; cases this
        exact q _ p (R1.same c (same_new hp)) hp0 upd_same (k1.trans (Kp.new hp))
    · refine ⟨_, rfl, _, rfl, ite2 (fun h => ?_) fun h => ?_⟩
      · have h34 : Mir.at_ t m.place = 34 := by
          have z : V.int (Mir.at_ t m.place) = V.int 34 := of_decide_eq_true h
          injection z with z
          omega
        have hl : m.place < t.length := by
          by_cases hl : m.place < t.length
          · exact hl
          · rw [Mir.at_end (by omega)] at h34; cases h34
        have ep : Mir.plainP t m.place = Mir.strE (t.drop (m.place + 1)) (m.place + 1) := by unfold Mir.plainP; rw [if_pos h34]
        have sl := Mir.strE_le (t.drop (m.place + 1)) (m.place + 1)
        refine ⟨_, rfl, A'.r, N.cR, A'.dr, _, _, rfl, R.r, c.r, c.rn _ (by simp), rfl, _, rfl, A'.ta, t, m.place, rfl, R.text, R.short, hl, ?_⟩
        rw [ep] at q
        cases hs : Mir.strE (t.drop (m.place + 1)) (m.place + 1) with
        | error e => rw [hs] at q; exact ErrS.to q R.stay
        | ok u =>
          rw [hs] at sl ep
          simp only [List.length_drop] at sl
          intro H1 s1
          have R1 := R.same c s1
          refine ⟨_, rfl, A'.r, N.cR, A'.dr, _, rfl, R1.r, c.r, c.rn _ (by simp), few rfl, ?_⟩
          refine rest _ _ ⟨u, _, rfl, R1.put c (p := u) (by omega) (by omega), (Kp.of s1).trans (Kp.upd (by simp)), by omega, fun z => by omega, fun _ => ep⟩
      · have h34 : ¬ Mir.at_ t m.place = 34 := fun z => by
          rw [z] at h
          exact h (by decide)
        have wl := Mir.wordP_le (t := t) (p := m.place) R.place
        refine ⟨_, rfl, A'.r, N.cR, A'.dr, _, _, rfl, R.r, c.r, c.rn _ (by simp), rfl, _, rfl, A'.ta, t, m.place, rfl, R.text, R.place, fun H1 s1 => ?_⟩
        have R1 := R.same c s1
        refine ⟨_, rfl, A'.r, N.cR, A'.dr, _, rfl, R1.r, c.r, c.rn _ (by simp), few rfl, ?_⟩
        refine rest _ _ ⟨Mir.wordP t m.place, _, rfl, R1.put c wl.1 wl.2, (Kp.of s1).trans (Kp.upd (by simp)), wl.1, fun z => ?_, fun z => ?_⟩
        · unfold Mir.plainP; rw [if_neg h34, if_pos z]
        · unfold Mir.plainP; rw [if_neg h34, if_neg z]
end
end Prg
set_option linter.all false
set_option maxRecDepth 100000
set_option maxHeartbeats 4000000
namespace Prg
open PySem PySem.Spec PyProof.Rows L2
section
variable {K : PySem.W.Frag} {mg : Str → Option Value} {N : Nm} {H H' : Hp} {A : Ad} {t : List Nat} {m : Mir.M}
inductive HeadP (N : Nm) (H : Hp) (A : Ad) (lv : Mir.Lv) : Prop
  | mk : ∀ l ls sa ss, (A.ls = l :: ls) → (A.ss = sa :: ss) → (LevelAt N H A.as l sa lv) → (atI (A.ls.reverse.map V.ref) (-1) = some (.ref l)) → HeadP N H A lv
theorem Rep.head (R : Rep K N H A t m) {lv : Mir.Lv} {up : List Mir.Lv} (e : m.lvs = lv :: up) : HeadP N H A lv := by
  have h0 : m.lvs[0]? = some lv := by rw [e]; rfl
  obtain ⟨l, sa, e1, e2, L⟩ := R.lvs.at_ 0 lv h0
  cases hl : A.ls with
  | nil => rw [hl] at e1; cases e1
  | cons l' ls =>
    cases hs : A.ss with
    | nil => rw [hs] at e2; cases e2
    | cons sa' ss =>
      rw [hl] at e1
      rw [hs] at e2
      cases e1
      cases e2
      refine ⟨l, ls, sa, ss, hl, hs, L, ?_⟩
      rw [hl, List.reverse_cons, List.map_append]
      exact atI_last _ _
theorem Lvls.set {as ls ss : List Addr} {l sa : Addr} {lv lv' : Mir.Lv} {up : List Mir.Lv} (h : Lvls N H as (l :: ls) (sa :: ss) (lv :: up)) (hl : ∃ dx fs, H l = some (.ins N.cL dx fs)) (hsa : ∃ kvs, H sa = some (.dT kvs)) (k : Kp [l, sa] H H') (L : LevelAt N H' as l sa lv') : Lvls N H' as (l :: ls) (sa :: ss) (lv' :: up) := by
  obtain ⟨dl, fl, hl⟩ := hl
  obtain ⟨kv, hsa⟩ := hsa
  refine ⟨h.nd, h.snd, h.len, h.slen, fun i x e => ?_⟩
  cases i with
  | zero =>
    cases e
    exact ⟨l, sa, rfl, rfl, L⟩
  | succ i =>
    obtain ⟨l', sa', e1, e2, dx, pa, g1, g2, g3, g4⟩ := h.at_ (i + 1) x e
    have n1 : l' ≠ l := fun z => absurd (nd_ix h.nd e1 (j := 0) (by rw [z]; rfl)) (by omega)
    have n2 : sa' ≠ sa := fun z => absurd (nd_ix h.snd e2 (j := 0) (by rw [z]; rfl)) (by omega)
    have n3 : l' ≠ sa := ne_of g1 hsa (by intro z; cases z)
    have n4 : sa' ≠ l := ne_of g4 hl (by intro z; cases z)
    exact ⟨l', sa', e1, e2, dx, pa, k _ _ g1 (by simp [n1, n3]), g2, g3, k _ _ g4 (by simp [n2, n4])⟩
theorem Rep.top (c : Cs K mg N) (R : Rep K N H A t m) {lv lv' : Mir.Lv} {up : List Mir.Lv} (e : m.lvs = lv :: up) {l sa : Addr} {ls ss : List Addr} (el : A.ls = l :: ls) (es : A.ss = sa :: ss) (k : Kp [l, sa] H H') (L : LevelAt N H' A.as l sa lv') (hs : lv'.seen.length ≤ m.place) :
    Rep K N H' A t { m with lvs := lv' :: up } := by
  have hL := R.lvs
  rw [e, el, es] at hL
  obtain ⟨l0, sa0, q1, q2, dx, pa, g1, g2, g3, g4⟩ := hL.at_ 0 lv rfl
  cases q1
  cases q2
  have nl : ∀ b xs, H b = some (.lst xs) → b ∉ [l, sa] := fun b xs z w => by
    rcases List.mem_cons.mp w with y | y
    · rw [y, g1] at z; cases z
    · have y : b = sa := by simpa using y
      rw [y, g4] at z; cases z
  have hb : ∀ b ∈ [l, sa], (∀ dx fs, H b ≠ some (.ins N.cP dx fs)) ∧ ∀ xs, H b ≠ some (.lst xs) := fun b w => by
    refine ⟨fun dx fs z => ?_, fun xs z => nl b xs z w⟩
    rcases List.mem_cons.mp w with y | y
    · rw [y, g1] at z; injection z with z; injection z with z _ _; exact c.pl z.symm
    · have y : b = sa := by simpa using y
      rw [y, g4] at z; cases z
  refine ⟨k _ _ R.r fun w => ?_, ?_, R.sep, R.short, R.byt, R.place, k _ _ R.pieces (nl _ _ R.pieces), k _ _ R.levels (nl _ _ R.levels), R.ne, R.pcs.kp k fun b w => ⟨(hb b w).1, .inr (hb b w).2⟩, ?_, R.few, ?_, ?_, stay_kp R.stay c.st k fun b w => ?_⟩
  · rcases List.mem_cons.mp w with y | y
    · have z := R.r
      rw [y, g1] at z; injection z with z; injection z with z _ _; exact c.lr z
    · have y : A.r = sa := by simpa using y
      have z := R.r
      rw [y, g4] at z; cases z
  · rcases R.text with (h | ⟨o, h⟩) | h
    · exact .inl (.inl (k _ _ h (nl _ _ h)))
    · refine .inl (.inr ⟨o, k _ _ h fun w => ?_⟩)
      rcases List.mem_cons.mp w with y | y
      · rw [y, g1] at h; cases h
      · have y : A.ta = sa := by simpa using y
        rw [y, g4] at h; cases h
    · exact .inr h
  · rw [el, es]
    exact hL.set ⟨_, _, g1⟩ ⟨_, g4⟩ k L
  · have d := R.deep
    rw [e] at d
    exact d
  · intro x hx
    rcases List.mem_cons.mp hx with y | y
    · rw [y]; exact hs
    · exact R.sfew x (by rw [e]; exact List.mem_cons_of_mem _ y)
  · rcases List.mem_cons.mp w with y | y
    · exact ⟨_, by rw [y]; exact g1, rfl⟩
    · have y : b = sa := by simpa using y
      exact ⟨_, by rw [y]; exact g4, rfl⟩
end
noncomputable def Ret (K : PySem.W.Frag) (N : Nm) (t : List Nat) (E : XK) (Q : VK) (r : Addr) (x : Except Nat Mir.M) : Prop := match x with
  | .error q => Errs E N.cW N.tb q
  | .ok m' => ∀ H' A', A'.r = r → Rep K N H' A' t m' → Q .non H'
section
variable {P : Program} {w : World} {K : PySem.W.Frag} {mg : Str → Option Value} {base : Heap} {N : Nm}
inductive SpCommaP (K : PySem.W.Frag) (N : Nm) (vs : List V) (H : Hp) (Q : VK) (E : XK) : Prop
  | mk : ∀ (A : Ad) (t : List Nat) (m : Mir.M) (lv : Mir.Lv) (up : List Mir.Lv), vs = [.ref A.r] → Rep K N H A t m → m.lvs = lv :: up → m.place < t.length → Ret K N t E Q A.r (Mir.readComma m lv up) → SpCommaP K N vs H Q E
noncomputable def spComma (K : PySem.W.Frag) (N : Nm) : Sp := SpCommaP K N
theorem scComma : FnScope ["self", "level"] ["self"] (defScope sComma) := ⟨rfl, rfl, rfl, by decide +kernel, rfl, by decide +kernel, by decide +kernel⟩
theorem ok_comma {f : Addr} {fd : FuncData} (F : Fun K "read_comma" "Reader.read_comma" sComma f fd) (T : Txt K mg) (c : Cs K mg N) (GW : FX P w K mg base N.cW) : FnOk P w K mg base (CXw P w) 3 f fd ["self"] (spComma K N) := by
  refine F.okW scComma (fun vs H Q E h => ?_) (fun cdv A outer s H vs Q E X eX O hr h => ?_)
  · obtain ⟨A, t, m, lv, up, rfl, _⟩ := h
    rfl
  · obtain ⟨A', t, m, lv, up, rfl, R, em, hp, q⟩ := h
    obtain ⟨l, ls, sa, ss, el, es, L, hat⟩ := R.head em
    obtain ⟨dx, pa, g1, g2, g3, g4⟩ := id L
    refine ⟨_, pss_cons (ps_set (i := 1) scComma.nd rfl (Or.inl rfl) (pe_ix ix_list (pe_fld (pv 0) rfl) (pe_un un_neg pe_int) (fun _ _ => rfl)))
      (pss_cons (ps_if (pw_or (pt_cmpR op_eq (pe_callB call_len_seq (by rfl) T.len PySem.boot_len (pa_cons (pe_fld (pv 0) rfl) pa_nil)) pe_int (nomark _)) (pw_or1 (pt_cmpR op_ne (pe_fld (pv 1) rfl) (pe_gs T.filled) (nomark _)))).pt (pss_one (ps_rs GW own_cx rfl hr (pa_cons (pe_fld (pv 0) rfl) pa_nil))) pss_nil)
      (pss_cons (ps_fld (pv 1) (pe_gs T.ready) rfl) (pss_one (ps_fldaug (pv 0) pe_int in_add)))), ?_⟩
    refine ⟨_, rfl, A'.r, N.cR, A'.dr, _, _, rfl, R.r, c.r, c.rn _ (by simp), rfl, _, rfl, A'.la, _, _, _, rfl, rfl, SqL.of R.levels, hat, ?_⟩
    have hlen : (A'.ls.reverse.map V.ref).length = up.length + 1 := by
      rw [List.length_map, List.length_reverse, R.lvs.len, em]; rfl
    have hpl : m.place ≤ 65536 := Nat.le_trans R.place (Nat.le_trans R.short (by decide))
    refine ⟨_, rfl, A'.r, N.cR, A'.dr, _, _, rfl, R.r, c.r, c.rn _ (by simp), rfl, A'.la, _, rfl, .inl (SqL.of R.levels), rfl, _, rfl, ite2 (fun h => ?_) fun h => ?_⟩
    · have h1 : up = [] := by
        have z : V.int ((A'.ls.reverse.map V.ref).length : Int) = V.int 1 := of_decide_eq_true h
        rw [hlen] at z
        injection z with z
        exact List.length_eq_zero_iff.mp (by omega)
      unfold Mir.readComma at q
      rw [if_pos (.inl h1)] at q
      exact ⟨_, rfl, A'.r, N.cR, A'.dr, _, _, rfl, R.r, c.r, c.rn _ (by simp), rfl, _, rfl, Errs.rd (q := m.place) q R.stay hpl⟩
    · refine ⟨_, rfl, l, N.cL, dx, _, _, rfl, g1, c.l, c.ln _ (by simp), rfl, rfl, _, rfl, ite2 (fun h2 => ?_) fun h2 => ?_⟩
      · have hf : lv.st ≠ .filled := fun z => by
          rw [z] at h2
          exact absurd h2 (by decide +kernel)
        unfold Mir.readComma at q
        rw [if_pos (.inr hf)] at q
        exact ⟨_, rfl, A'.r, N.cR, A'.dr, _, _, rfl, R.r, c.r, c.rn _ (by simp), rfl, _, rfl, Errs.rd (q := m.place) q R.stay hpl⟩
      · have hf : lv.st = .filled := by
          cases z : lv.st with
          | filled => rfl
          | ready => rw [z] at h2; exact absurd (by decide +kernel) h2
          | closed => rw [z] at h2; exact absurd (by decide +kernel) h2
        have hu : ¬ up = [] := fun z => h (by
          rw [z] at hlen
          rw [hlen]
          exact decide_eq_true rfl)
        unfold Mir.readComma at q
        rw [if_neg (fun z => z.elim hu (fun y => y hf))] at q
        refine ⟨_, rfl, l, N.cL, dx, _, rfl, g1, c.l, c.ln _ (by simp), few rfl, ?_⟩
        have R2 : Rep K N (upd H l (.ins N.cL dx (lf pa lv.closer "ready" sa (lastV A'.as lv.last)))) A' t { m with lvs := { lv with st := .ready } :: up } :=
          R.top c em el es (Kp.upd (by simp)) ⟨dx, pa, upd_same, g2, g3, by rw [upd_ne (ne_of g4 g1 (by intro z; cases z))]; exact g4⟩ (R.sfew lv (by rw [em]; simp))
        refine ⟨_, rfl, A'.r, N.cR, A'.dr, _, _, rfl, R2.r, c.r, c.rn _ (by simp), rfl, _, _, rfl, rfl, A'.dr, _, R2.r, few rfl, ?_⟩
        exact q _ A' rfl (R2.put c (p := m.place + 1) (Nat.le_succ _) hp)
noncomputable abbrev MPlain (P : Program) (w : World) (K : PySem.W.Frag) (mg : Str → Option Value) (base : Heap) (N : Nm) : Prop := GMt P w K mg base N.cR "read_plain" 4 ["self"] (spPlain K N)
inductive SpKeyP (K : PySem.W.Frag) (N : Nm) (vs : List V) (H : Hp) (Q : VK) (E : XK) : Prop
  | mk : ∀ (A : Ad) (t : List Nat) (m : Mir.M) (lv : Mir.Lv) (up : List Mir.Lv) (l sa : Addr) (ls ss : List Addr), vs = [.ref A.r, .ref sa] → Rep K N H A t m → m.lvs = lv :: up → A.ls = l :: ls → A.ss = sa :: ss → (match Mir.keyP t m.place lv.seen with | .error q => Errs E N.cW N.tb q | .ok (k, q) => ∀ H' p, Rep K N H' A t { m with place := q, lvs := { lv with seen := lv.seen ++ [k] } :: up } → H p = none → H' p = some (.lst (k.map vi)) → k.length ≤ 20000 → Q (.ref p) H') → SpKeyP K N vs H Q E
noncomputable def spKey (K : PySem.W.Frag) (N : Nm) : Sp := SpKeyP K N
theorem scKey : FnScope ["self", "seen", "begin", "key"] ["self", "seen"] (defScope sKey) := ⟨rfl, rfl, rfl, by decide +kernel, rfl, by decide +kernel, by decide +kernel⟩
theorem Kp.back {S : List Addr} {H H' : Hp} {p : Addr} (k : Kp S H H') (hS : ∀ b ∈ S, ∃ o, H' b = some o) (h : H' p = none) : H p = none := by
  cases z : H p with
  | none => rfl
  | some o =>
    by_cases w : p ∈ S
    · obtain ⟨o', e⟩ := hS p w
      rw [h] at e; cases e
    · have := k p o z w
      rw [h] at this; cases this
theorem ok_key {f : Addr} {fd : FuncData} (F : Fun K "read_key" "Reader.read_key" sKey f fd) (T : Txt K mg) (c : Cs K mg N) (G2 : MPlain P w K mg base N) (G3 : MSkip P w K mg base N) (GW : FX P w K mg base N.cW) : FnOk P w K mg base (CXw P w) 5 f fd ["self", "seen"] (spKey K N) := by
  refine F.okW scKey (fun vs H Q E h => ?_) (fun cdv A outer s H vs Q E X eX O hr h => ?_)
  · obtain ⟨A, t, m, lv, up, l, sa, ls, ss, rfl, _⟩ := h
    rfl
  · obtain ⟨A', t, m, lv, up, l, sa, ls, ss, rfl, R, em, el, es, q⟩ := h
    have hr1 := hr.mono (by decide : 1 ≤ 4)
    have hr2 := hr.mono (by decide : 2 ≤ 4)
    have hu := hu_of hr
    have hpl : m.place ≤ 65536 := Nat.le_trans R.place (Nat.le_trans R.short (by decide))
    refine ⟨_, pss_cons (ps_set (i := 2) scKey.nd rfl (Or.inl rfl) (pe_fld (pv 0) rfl)) (pss_cons (ps_set (i := 3) scKey.nd rfl (Or.inl rfl) (pe_mt0 G2 hr (passW own_cx) (pv 0)))
      (pss_cons (ps_if (pt_cmp (pc_din hu (pe_callTy call_tuple_of (by rfl) T.tuple (by decide +kernel) (pa_cons (pv 3) pa_nil)) (pv 1))) (pss_one (ps_rs GW own_cx rfl hr2 (pa_cons (pv 2) pa_nil))) pss_nil)
      (pss_cons (ps_dput hu (pv 1) (pe_callTy call_tuple_of (by rfl) T.tuple (by decide +kernel) (pa_cons (pv 3) pa_nil)) pe_bl rfl)
      (pss_cons (ps_expr (pe_mt0 G3 hr2 (passW own_cx) (pv 0)))
      (pss_cons (ps_if (pt_cmpR op_ne (pe_ix ix_list (pe_fld (pv 0) rfl) (pe_fld (pv 0) rfl) (fun _ _ => rfl)) (pe_gi T.colon) (nomark _)) (pss_one (ps_rs GW own_cx rfl hr2 (pa_cons (pe_fld (pv 0) rfl) pa_nil))) pss_nil)
      (pss_cons (ps_fldaug (pv 0) pe_int in_add) (pss_cons (ps_expr (pe_mt0 G3 hr2 (passW own_cx) (pv 0))) (pss_one (ps_ret (pv 3)))))))))), ?_⟩
    refine ⟨_, rfl, A'.r, N.cR, A'.dr, _, _, rfl, R.r, c.r, c.rn _ (by simp), rfl, ?_⟩
    refine ⟨_, rfl, A'.r, A'.dr, _, rfl, R.r, rfl, A', t, m, rfl, R, ?_⟩
    have pl := Mir.plainP_le (t := t) (p := m.place) R.place
    unfold Mir.keyP at q
    cases hpp : Mir.plainP t m.place with
    | error e => rw [hpp] at q; exact q
    | ok u =>
      rw [hpp] at q pl
      simp only at q pl
      intro H1 kp R1 hkn hkp k1
      have lk : (Mir.slice t m.place u).length ≤ 20000 := by
        unfold Mir.slice
        rw [List.length_take, List.length_drop]
        have := R.short
        omega
      generalize hk : Mir.slice t m.place u = k at q hkp lk
      have hL1 := R1.lvs
      have em1 : ({ m with place := u } : Mir.M).lvs = lv :: up := em
      rw [em1, el, es] at hL1
      obtain ⟨l0, sa0, q1, q2, dx, pa, g1, g2, g3, g4⟩ := hL1.at_ 0 lv rfl
      cases q1
      cases q2
      have sv := seen_val lv.seen k
      have nsk : sa ≠ kp := ne_of g4 hkp (by intro z; cases z)
      -- if tuple(key) in seen
      refine ⟨_, rfl, kp, _, rfl, .inl ⟨SqL.of hkp, fun tp htp => ?_⟩⟩
      have ets : (seenK k).map kV = k.map vi := seenK_kV k
      refine ⟨_, rfl, sa, _, rfl, DGet.t (kvs := seenKvs lv.seen) (k := seenK k) (by rw [upd_ne (ne_of_none g4 htp)]; exact g4) (by rw [ets]; exact upd_same), _, rfl, ite2 (fun h => ?_) fun h => ?_⟩
      · rw [sv] at h
        rw [if_pos h] at q
        exact ⟨_, rfl, _, rfl, Errs.rd (q := m.place) q (R1.same c (same_new (o := .tup (k.map vi)) htp)).stay hpl⟩
      · rw [sv] at h
        rw [if_neg h] at q
        have R2 := R1.same c (same_new (o := .tup (k.map vi)) htp)
        -- seen[tuple(key)] = True
        refine ⟨_, rfl, _, rfl, kp, _, rfl, .inl ⟨SqL.of (by rw [upd_ne (ne_of_none hkp htp)]; exact hkp), fun tp2 htp2 => ?_⟩⟩
        have R3 := R2.same c (same_new (o := .tup (k.map vi)) htp2)
        have g4' : upd (upd H1 tp (.tup (k.map vi))) tp2 (.tup (k.map vi)) sa = some (.dT (seenKvs lv.seen)) := by
          have z : upd H1 tp (.tup (k.map vi)) sa = some (.dT (seenKvs lv.seen)) := by rw [upd_ne (ne_of_none g4 htp)]; exact g4
          rw [upd_ne (ne_of_none z htp2)]; exact z
        have sl : lv.seen.length ≤ m.place := R.sfew lv (by rw [em]; simp)
        refine ⟨sa, _, rfl, DPut.t (kvs := seenKvs lv.seen) (k := seenK k) g4' (by rw [ets]; exact upd_same) ?_, ?_⟩
        · unfold seenKvs
          rw [List.length_map, sizeLine_eq]
          have := R.short
          have := R.place
          omega
        have en : putK (seenKvs lv.seen) (seenK k) (V.bl true) = seenKvs (lv.seen ++ [k]) := by
          rw [putK_new _ (by
            cases z : valV (seenKvs lv.seen) (seenK k) with
            | none => rfl
            | some v => rw [z] at sv; exact absurd sv.symm h)]
          unfold seenKvs
          rw [List.map_append]
          rfl
        rw [en]
        have g1' : upd (upd H1 tp (.tup (k.map vi))) tp2 (.tup (k.map vi)) l = some (.ins N.cL dx (lf pa lv.closer (stS lv.st) sa (lastV A'.as lv.last))) := by
          have z : upd H1 tp (.tup (k.map vi)) l = some (.ins N.cL dx (lf pa lv.closer (stS lv.st) sa (lastV A'.as lv.last))) := by rw [upd_ne (ne_of_none g1 htp)]; exact g1
          rw [upd_ne (ne_of_none z htp2)]; exact z
        have R4 : Rep K N (upd (upd (upd H1 tp (.tup (k.map vi))) tp2 (.tup (k.map vi))) sa (.dT (seenKvs (lv.seen ++ [k])))) A' t { m with place := u, lvs := { lv with seen := lv.seen ++ [k] } :: up } :=
          R3.top c em1 el es (Kp.upd (by simp)) ⟨dx, pa, by rw [upd_ne (ne_of g1' g4' (by intro z; cases z))]; exact g1', g2, g3, upd_same⟩ (by rw [List.length_append]; simp only [List.length_cons, List.length_nil]; omega)
        have kk : upd (upd (upd H1 tp (.tup (k.map vi))) tp2 (.tup (k.map vi))) sa (.dT (seenKvs (lv.seen ++ [k]))) kp = some (.lst (k.map vi)) := by
          have z : upd H1 tp (.tup (k.map vi)) kp = some (.lst (k.map vi)) := by rw [upd_ne (ne_of_none hkp htp)]; exact hkp
          rw [upd_ne (Ne.symm nsk), upd_ne (ne_of_none z htp2)]; exact z
        -- self.skip_space()
        refine ⟨_, rfl, A'.r, A'.dr, _, rfl, R4.r, rfl, A', t, _, rfl, R4, fun H5 R5 k5 => ?_⟩
        have kk5 := k5 _ _ kk (by
          intro z
          have z : kp = A'.r := by simpa using z
          rw [z, R4.r] at kk; cases kk)
        have sp := Mir.skipP_le (t := t) (p := u) pl.2
        -- if byte_at(..) != COLON
        refine ⟨_, rfl, A'.r, N.cR, A'.dr, _, _, rfl, R5.r, c.r, c.rn _ (by simp), rfl, _, rfl, A'.r, N.cR, A'.dr, _, _, rfl, R5.r, c.r, c.rn _ (by simp), rfl, A'.ta, _, _, _, rfl, rfl, R5.text, atI_nat (tx_at sp.2), rfl, _, rfl, ite2 (fun h3 => ?_) fun h3 => ?_⟩
        · have h58 : ¬ Mir.at_ t (Mir.skipP t u) = 58 := fun z => by
            rw [z] at h3
            exact absurd h3 (by decide)
          rw [if_neg h58] at q
          exact ⟨_, rfl, A'.r, N.cR, A'.dr, _, _, rfl, R5.r, c.r, c.rn _ (by simp), rfl, _, rfl, Errs.rd (q := Mir.skipP t u) q R5.stay (Nat.le_trans sp.2 (Nat.le_trans R.short (by decide)))⟩
        · have h58 : Mir.at_ t (Mir.skipP t u) = 58 := by
            have z : decide (vi (Mir.at_ t (Mir.skipP t u)) = V.int 58) = true := by simpa using h3
            have z : V.int (Mir.at_ t (Mir.skipP t u)) = V.int 58 := of_decide_eq_true z
            injection z with z
            omega
          rw [if_pos h58] at q
          have hl : Mir.skipP t u < t.length := by
            by_cases hl : Mir.skipP t u < t.length
            · exact hl
            · rw [Mir.at_end (by omega)] at h58; cases h58
          refine ⟨_, rfl, A'.r, N.cR, A'.dr, _, _, rfl, R5.r, c.r, c.rn _ (by simp), rfl, _, _, rfl, rfl, A'.dr, _, R5.r, few rfl, ?_⟩
          have R6 := R5.put c (p := Mir.skipP t u + 1) (Nat.le_succ _) hl
          refine ⟨_, rfl, A'.r, A'.dr, _, rfl, R6.r, rfl, A', t, _, rfl, R6, fun H7 R7 k7 => ⟨_, rfl, ?_⟩⟩
          have n6 : kp ≠ A'.r := fun z => by rw [z, R5.r] at kk5; cases kk5
          refine q H7 kp R7 hkn (k7 _ _ ?_ (by simpa using n6)) lk
          rw [upd_ne n6]; exact kk5
end
end Prg
set_option linter.all false
set_option maxRecDepth 100000
set_option maxHeartbeats 4000000
namespace Prg
open PySem PySem.Spec PyProof.Rows L2
theorem lastV_app {as : List Addr} {x : Addr} {o : Option Nat} (h : ∀ j, o = some j → j < as.length) : lastV (as ++ [x]) o = lastV as o := by
  cases o with
  | none => rfl
  | some j =>
    show (match (as ++ [x])[j]? with | some a => V.ref a | none => .non) = match as[j]? with | some a => V.ref a | none => .non
    rw [List.getElem?_append_left (h j rfl)]
section
variable {K : PySem.W.Frag} {mg : Str → Option Value} {N : Nm} {H H' : Hp} {A : Ad} {t : List Nat} {m : Mir.M}
theorem LevelAt.snoc {as : List Addr} {l sa x : Addr} {lv : Mir.Lv} (h : LevelAt N H as l sa lv) : LevelAt N H (as ++ [x]) l sa lv := by
  obtain ⟨dx, pa, h1, h2, h3, h4⟩ := h
  refine ⟨dx, pa, by rw [lastV_app h3]; exact h1, ?_, fun j e => ?_, h4⟩
  · rw [List.getElem?_append_left (List.getElem?_eq_some_iff.mp h2).1]; exact h2
  · rw [List.length_append]; exact Nat.lt_of_lt_of_le (h3 j e) (Nat.le_add_right _ _)
theorem Lvls.snoc {as ls ss : List Addr} {lvs : List Mir.Lv} (h : Lvls N H as ls ss lvs) (x : Addr) : Lvls N H (as ++ [x]) ls ss lvs :=
  ⟨h.nd, h.snd, h.len, h.slen, fun i lv e => let ⟨l, sa, e1, e2, e3⟩ := h.at_ i lv e; ⟨l, sa, e1, e2, e3.snoc⟩⟩
theorem Lvls.mem {as ls ss : List Addr} {lvs : List Mir.Lv} (h : Lvls N H as ls ss lvs) {l : Addr} (hl : l ∈ ls) : ∃ dx fs, H l = some (.ins N.cL dx fs) := by
  obtain ⟨i, hi, e⟩ := List.mem_iff_getElem.mp hl
  obtain ⟨lv, hv⟩ : ∃ lv, lvs[i]? = some lv := ⟨_, List.getElem?_eq_getElem (by rw [← h.len]; exact hi)⟩
  obtain ⟨l', sa, e1, e2, dx, pa, g1, _⟩ := h.at_ i lv hv
  have : l' = l := by
    rw [List.getElem?_eq_getElem hi, e] at e1
    exact (Option.some.inj e1).symm
  subst this
  exact ⟨dx, _, g1⟩
theorem Lvls.smem {as ls ss : List Addr} {lvs : List Mir.Lv} (h : Lvls N H as ls ss lvs) {sa : Addr} (hs : sa ∈ ss) : ∃ kvs, H sa = some (.dT kvs) := by
  obtain ⟨i, hi, e⟩ := List.mem_iff_getElem.mp hs
  obtain ⟨lv, hv⟩ : ∃ lv, lvs[i]? = some lv := ⟨_, List.getElem?_eq_getElem (by rw [← h.slen]; exact hi)⟩
  obtain ⟨l', sa', e1, e2, dx, pa, g1, g2, g3, g4⟩ := h.at_ i lv hv
  have : sa' = sa := by
    rw [List.getElem?_eq_getElem hi, e] at e2
    exact (Option.some.inj e2).symm
  subst this
  exact ⟨_, g4⟩
theorem Lvls.push {as ls ss : List Addr} {l sa : Addr} {lv : Mir.Lv} {lvs : List Mir.Lv} (h : Lvls N H as ls ss lvs) (L : LevelAt N H as l sa lv) (hl : l ∉ ls) (hs : sa ∉ ss) : Lvls N H as (l :: ls) (sa :: ss) (lv :: lvs) := by
  refine ⟨List.nodup_cons.mpr ⟨hl, h.nd⟩, List.nodup_cons.mpr ⟨hs, h.snd⟩, by rw [List.length_cons, List.length_cons, h.len], by rw [List.length_cons, List.length_cons, h.slen], fun i x e => ?_⟩
  cases i with
  | zero => cases e; exact ⟨l, sa, rfl, rfl, L⟩
  | succ i => exact h.at_ i x e
theorem Lvls.tail {as ls ss : List Addr} {l sa : Addr} {lv : Mir.Lv} {lvs : List Mir.Lv} (h : Lvls N H as (l :: ls) (sa :: ss) (lv :: lvs)) : Lvls N H as ls ss lvs :=
  ⟨(List.nodup_cons.mp h.nd).2, (List.nodup_cons.mp h.snd).2, by have := h.len; simpa using this, by have := h.slen; simpa using this, fun i x e => h.at_ (i + 1) x e⟩
theorem Rep.text3 (R : Rep K N H A t m) (k : Kp [A.r, A.pa, A.la] H H') : SqL K H' A.ta (tx t) := by
  rcases R.sep with sp | sp
  rotate_left
  · exact .inr sp
  have nr : ∀ o, H A.ta = some o → (∀ C dx fs, o ≠ .ins C dx fs) → A.ta ∉ [A.r, A.pa, A.la] := fun o h n z => by
    rcases List.mem_cons.mp z with y | y
    · rw [y, R.r] at h; exact n _ _ _ (Option.some.inj h).symm
    · rcases List.mem_cons.mp y with y | y
      · exact sp.1 y
      · exact sp.2 (by simpa using y)
  rcases R.text with (h | ⟨o, h⟩) | h
  · exact .inl (.inl (k _ _ h (nr _ h fun C dx fs z => by cases z)))
  · exact .inl (.inr ⟨o, k _ _ h (nr _ h fun C dx fs z => by cases z)⟩)
  · exact .inr h
theorem Rep.stay3 (c : Cs K mg N) (R : Rep K N H A t m) (k : Kp [A.r, A.pa, A.la] H H') : ∀ g ∈ N.tb, H' g.1 = some g.2 := stay_kp R.stay c.st k fun b z => by
  have z : b = A.r ∨ b = A.pa ∨ b = A.la := by simpa using z
  rcases z with z | z | z
  · exact ⟨_, by rw [z]; exact R.r, rfl⟩
  · exact ⟨_, by rw [z]; exact R.pieces, rfl⟩
  · exact ⟨_, by rw [z]; exact R.levels, rfl⟩
theorem Rep.asne (R : Rep K N H A t m) (h : m.lvs ≠ []) : A.as ≠ [] := by
  cases e : m.lvs with
  | nil => exact absurd e h
  | cons lv up =>
    obtain ⟨l, sa, e1, e2, dx, pa, g1, g2, _⟩ := R.lvs.at_ 0 lv (by rw [e]; rfl)
    intro z
    rw [z] at g2
    cases g2
theorem tail_app {as : List Addr} (h : as ≠ []) (x : Addr) : (as ++ [x]).tail = as.tail ++ [x] := by
  cases as with
  | nil => exact absurd rfl h
  | cons a r => rfl
theorem Rep.kp3 (c : Cs K mg N) (R : Rep K N H A t m) (k : Kp [A.r, A.pa, A.la] H H') : Pcs N.cP [A.pa, A.la] H' A.as m.obs ∧ Lvls N H' A.as A.ls A.ss m.lvs := by
  have hb : ∀ b ∈ [A.r, A.pa, A.la], b = A.r ∨ b = A.pa ∨ b = A.la := fun b z => by simpa using z
  refine ⟨R.pcs.kp k fun b z => ?_, R.lvs.kp k fun b z => ?_⟩
  · rcases hb b z with y | y | y
    · rw [y, R.r]
      exact ⟨fun dx fs w => by injection w with w; injection w with w _ _; exact c.pr w.symm, .inr fun xs w => by cases w⟩
    · rw [y, R.pieces]
      exact ⟨fun dx fs w => (by cases w), .inl (by simp)⟩
    · rw [y, R.levels]
      exact ⟨fun dx fs w => (by cases w), .inl (by simp)⟩
  · rcases hb b z with y | y | y
    · rw [y, R.r]
      exact ⟨fun dx fs w => by injection w with w; injection w with w _ _; exact c.lr w.symm, fun kvs w => by cases w⟩
    · rw [y, R.pieces]
      exact ⟨fun dx fs w => (by cases w), fun kvs w => (by cases w)⟩
    · rw [y, R.levels]
      exact ⟨fun dx fs w => (by cases w), fun kvs w => (by cases w)⟩
inductive FreshP (A : Ad) (x : Addr) : Prop
  | mk : (x ∉ A.as) → (x ∉ A.ls) → (x ∉ A.ss) → (x ≠ A.r) → (x ≠ A.pa) → (x ≠ A.la) → FreshP A x
theorem Rep.fresh {x : Addr} (R : Rep K N H A t m) (h : H x = none) : FreshP A x := by
  refine ⟨fun z => ?_, fun z => ?_, fun z => ?_, fun z => ?_, fun z => ?_, fun z => ?_⟩
  · obtain ⟨dx, fs, e⟩ := R.pcs.mem z
    rw [h] at e; cases e
  · obtain ⟨dx, fs, e⟩ := R.lvs.mem z
    rw [h] at e; cases e
  · obtain ⟨kvs, e⟩ := R.lvs.smem z
    rw [h] at e; cases e
  · have e := R.r
    rw [← z, h] at e; cases e
  · have e := R.pieces
    rw [← z, h] at e; cases e
  · have e := R.levels
    rw [← z, h] at e; cases e
end
theorem isL {K : PySem.W.Frag} {H : Hp} {a : Addr} {xs : List V} (h : H a = some (.lst xs)) : tyV K "list" (.ref a) H := Or.inl ⟨rfl, _, SqL.of h⟩
theorem made_piece {N : Nm} {H1 : Hp} {k : Str} {ka oa : Addr} {key own : List Nat} {Q : Addr → Hp → Prop} {E : XK} (hka : H1 ka = some (.lst (key.map vi))) (hoa : H1 oa = some (.lst (own.map vi))) (lk : key.length ≤ 20000) (lo : own.length ≤ 20000)
    (q : ∀ x H2, H1 x = none → Same H1 H2 → (∃ dx, H2 x = some (.ins N.cP dx (pf k ka oa (((Mir.keyTold key).length + own.length : Nat) : Int) false false false false))) → Q x H2) :
    ∀ x dx, H1 x = none → H1 dx = none → dx ≠ x → spPInit N (.ref x :: ([.str k, .ref ka, .ref oa] ++ [])) (upd (upd H1 dx (.own x)) x (.ins N.cP dx [])) (fun v H2 => v = .non ∧ Q x H2) E := by
  intro x dx hx hdx hne
  have sm : Same H1 (upd (upd H1 dx (.own x)) x (.ins N.cP dx [])) := fun b o e => by rw [upd_ne (ne_of_none e hx), upd_ne (ne_of_none e hdx)]; exact e
  refine ⟨x, dx, ka, oa, k, key, own, rfl, upd_same, sm _ _ hka, sm _ _ hoa, lk, lo, fun H2 h2 k2 => ⟨rfl, q x H2 hx (fun b o e => ?_) ⟨dx, h2⟩⟩⟩
  exact k2 b o (sm b o e) (fun z => by
    have z : b = x := by simpa using z
    rw [z, hx] at e; cases e)
theorem made_level {N : Nm} {H1 : Hp} {pa : Addr} {c : Int} {Q : Addr → Hp → Prop} {E : XK} (q : ∀ l sa H2, H1 l = none → H1 sa = none → l ≠ sa → Same H1 H2 → (∃ dx, H2 l = some (.ins N.cL dx (lf pa c "ready" sa .non))) → H2 sa = some (.dT []) → Q l H2) :
    ∀ x dx, H1 x = none → H1 dx = none → dx ≠ x → spLInit N (.ref x :: ([.ref pa, .int c] ++ [])) (upd (upd H1 dx (.own x)) x (.ins N.cL dx [])) (fun v H2 => v = .non ∧ Q x H2) E := by
  intro x dx hx hdx hne
  have sm : Same H1 (upd (upd H1 dx (.own x)) x (.ins N.cL dx [])) := fun b o e => by rw [upd_ne (ne_of_none e hx), upd_ne (ne_of_none e hdx)]; exact e
  refine ⟨x, dx, pa, c, rfl, upd_same, fun H2 sa h2 h3 h4 k2 => ⟨rfl, q x sa H2 hx (sm.free h4) (fun z => ?_) (fun b o e => ?_) ⟨dx, h2⟩ h3⟩⟩
  · rw [← z, upd_same] at h4; cases h4
  · exact k2 b o (sm b o e) (fun z => by
      have z : b = x := by simpa using z
      rw [z, hx] at e; cases e)
noncomputable def closersKvs : List (Key × V) := [(Sum.inl 91, .int 93), (Sum.inl 123, .int 125)]
noncomputable def openM (m : Mir.M) (k : List Nat) (b : Nat) : Except Nat Mir.M := if 40 < m.lvs.length then .error m.place else
  .ok ⟨m.place + 1, m.obs ++ [{ Mir.mk .opening k [b] with length := (Mir.keyTold k).length + 2 }], ⟨m.obs.length, b + 2, .ready, [], none⟩ :: m.lvs⟩
section
variable {P : Program} {w : World} {K : PySem.W.Frag} {mg : Str → Option Value} {base : Heap} {N : Nm}
noncomputable abbrev FClosers (P : Program) (w : World) (K : PySem.W.Frag) (mg : Str → Option Value) : Prop := ∃ a, mg "CLOSERS" = some (.ref a) ∧ DK K P w a closersKvs
noncomputable abbrev KPiece (P : Program) (w : World) (K : PySem.W.Frag) (mg : Str → Option Value) (base : Heap) (N : Nm) : Prop := GMk P w K mg base "Piece" N.cP 2 ["self", "kind", "key", "own"] (spPInit N)
noncomputable abbrev KLevel (P : Program) (w : World) (K : PySem.W.Frag) (mg : Str → Option Value) (base : Heap) (N : Nm) : Prop := GMk P w K mg base "Level" N.cL 1 ["self", "piece", "closer"] (spLInit N)
inductive SpOpeningP (K : PySem.W.Frag) (N : Nm) (vs : List V) (H : Hp) (Q : VK) (E : XK) : Prop
  | mk : ∀ (A : Ad) (t : List Nat) (m : Mir.M) (ka : Addr) (k : List Nat) (b : Nat), vs = [.ref A.r, .ref ka, .int b] → Rep K N H A t m → m.lvs ≠ [] → m.place < t.length → H ka = some (.lst (k.map vi)) → ka ∉ [A.pa, A.la] → k.length ≤ 20000 → (b = 91 ∨ b = 123) → Ret K N t E Q A.r (openM m k b) → SpOpeningP K N vs H Q E
noncomputable def spOpening (K : PySem.W.Frag) (N : Nm) : Sp := SpOpeningP K N
theorem scOpening : FnScope ["self", "key", "byte", "piece"] ["self", "key", "byte"] (defScope sOpening) := ⟨rfl, rfl, rfl, by decide +kernel, rfl, by decide +kernel, by decide +kernel⟩
theorem ok_opening {f : Addr} {fd : FuncData} (F : Fun K "read_opening" "Reader.read_opening" sOpening f fd) (T : Txt K mg) (c : Cs K mg N) (GC : FClosers P w K mg) (GP : KPiece P w K mg base N) (GL : KLevel P w K mg base N) (GW : FX P w K mg base N.cW) : FnOk P w K mg base (CXw P w) 4 f fd ["self", "key", "byte"] (spOpening K N) := by
  refine F.okW scOpening (fun vs H Q E h => ?_) (fun cdv A outer s H vs Q E X eX O hr h => ?_)
  · obtain ⟨A, t, m, ka, k, b, rfl, _⟩ := h
    rfl
  · obtain ⟨A', t, m, ka, k, b, rfl, R, hne, hp, hka, nka, lk, hb, q⟩ := h
    obtain ⟨ca, hca, DC⟩ := GC
    have hr2 := hr.mono (by decide : 2 ≤ 3)
    refine ⟨_, pss_cons (ps_if (pt_cmpR op_gt (pe_callB call_len_seq (by rfl) T.len PySem.boot_len (pa_cons (pe_fld (pv 0) rfl) pa_nil)) (pe_gi T.mostDeep) (nomark _)) (pss_one (ps_rs GW own_cx rfl hr2 (pa_cons (pe_fld (pv 0) rfl) pa_nil))) pss_nil)
      (pss_cons (ps_set (i := 3) scOpening.nd rfl (Or.inl rfl) (pe_mk GP hr (passW own_cx) (pa_cons (pe_gs T.kOpening) (pa_cons (pv 1) (pa_cons (pe_lst (pa_cons (pv 2) pa_nil)) pa_nil)))))
      (pss_cons (ps_fldaug (pv 3) pe_int in_add)
      (pss_cons (ps_expr (pe_bm PySem.F.plainAttrs_list PySem.F.slot_list_append PySem.F.type_list_append mt_append (pe_fld (pv 0) rfl) (pa_cons (pe_mk GL hr2 (passW own_cx) (pa_cons (pv 3) (pa_cons (pe_kget DC hca (pv 2) (fun _ _ => rfl)) pa_nil))) pa_nil)))
      (pss_cons (ps_expr (pe_bm PySem.F.plainAttrs_list PySem.F.slot_list_append PySem.F.type_list_append mt_append (pe_fld (pv 0) rfl) (pa_cons (pv 3) pa_nil)))
      (pss_one (ps_fldaug (pv 0) pe_int in_add)))))), ?_⟩
    have hlen : (A'.ls.reverse.map V.ref).length = m.lvs.length := by rw [List.length_map, List.length_reverse, R.lvs.len]
    refine ⟨_, rfl, A'.r, N.cR, A'.dr, _, _, rfl, R.r, c.r, c.rn _ (by simp), rfl, A'.la, _, rfl, .inl (SqL.of R.levels), _, _, rfl, rfl, _, rfl, ite2 (fun h => ?_) fun h => ?_⟩
    · have h : (40 : Int) < ((A'.ls.reverse.map V.ref).length : Int) := of_decide_eq_true h
      rw [hlen] at h
      unfold openM at q
      rw [if_pos (by omega)] at q
      exact ⟨_, rfl, A'.r, N.cR, A'.dr, _, _, rfl, R.r, c.r, c.rn _ (by simp), rfl, _, rfl, Errs.rd (q := m.place) q R.stay (Nat.le_trans R.place (Nat.le_trans R.short (by decide)))⟩
    · have h : ¬ (40 : Int) < ((A'.ls.reverse.map V.ref).length : Int) := fun z => h (decide_eq_true z)
      rw [hlen] at h
      have hd : m.lvs.length ≤ 40 := by omega
      unfold openM at q
      rw [if_neg (by omega)] at q
      refine ⟨_, rfl, _, rfl, (by show 1 ≤ sizeLine; decide), fun oa hoa => ?_⟩
      have s1 : Same H (upd H oa (.lst [.int b])) := same_new hoa
      refine made_piece (N := N) (k := "opening") (key := k) (own := [b]) (s1 _ _ hka) upd_same lk (by simp) fun x H2 hx s2 ⟨dx, hx2⟩ => ?_
      have R2 := R.same c (s1.trans s2)
      have hx0 : H x = none := s1.free hx
      obtain ⟨f1, f2, f3, f4, f5, f6⟩ := R.fresh hx0
      obtain ⟨o1, o2, o3, o4, o5, o6⟩ := R.fresh hoa
      -- piece.length += 1
      refine ⟨_, rfl, x, N.cP, dx, _, _, rfl, hx2, c.p, c.pn _ (by simp), rfl, _, _, rfl, rfl, dx, _, hx2, few rfl, ?_⟩
      have k3 : Kp [x] H2 (upd H2 x (.ins N.cP dx (pf "opening" ka oa ((((Mir.keyTold k).length + [b].length : Nat) : Int) + 1) false false false false))) := Kp.upd (by simp)
      have n3 : ∀ b', b' ≠ x → upd H2 x (.ins N.cP dx (pf "opening" ka oa ((((Mir.keyTold k).length + [b].length : Nat) : Int) + 1) false false false false)) b' = H2 b' := fun b' n => upd_ne n
      refine ⟨_, rfl, A'.r, N.cR, A'.dr, _, _, rfl, (by rw [upd_ne (Ne.symm f4)]; exact R2.r), c.r, c.rn _ (by simp), rfl, isL (show _ = some (HO.lst (A'.ls.reverse.map V.ref)) by rw [upd_ne (Ne.symm f6)]; exact R2.levels), _, rfl, _, rfl, Sum.inl (b : Int), .int ((b : Int) + 2), rfl, ?_, ?_⟩
      · rcases hb with z | z <;> subst z <;> rfl
      refine made_level (N := N) fun l sa H4 hl hsa hls s4 ⟨dl, hl4⟩ hsa4 => ?_
      have hl2 : H2 l = none := by
        by_cases z : l = x
        · rw [z, upd_same] at hl; cases hl
        · rw [upd_ne z] at hl; exact hl
      have hsa2 : H2 sa = none := by
        by_cases z : sa = x
        · rw [z, upd_same] at hsa; cases hsa
        · rw [upd_ne z] at hsa; exact hsa
      obtain ⟨l1, l2, l3, l4, l5, l6⟩ := R2.fresh hl2
      obtain ⟨a1, a2, a3, a4, a5, a6⟩ := R2.fresh hsa2
      have hla4 := s4 _ _ (show upd H2 x _ A'.la = _ by rw [upd_ne (Ne.symm f6)]; exact R2.levels)
      have hpa4 := s4 _ _ (show upd H2 x _ A'.pa = _ by rw [upd_ne (Ne.symm f5)]; exact R2.pieces)
      have hr4 := s4 _ _ (show upd H2 x _ A'.r = _ by rw [upd_ne (Ne.symm f4)]; exact R2.r)
      have hx4 := s4 _ _ (show upd H2 x _ x = _ from upd_same)
      have hka4 := s4 _ _ (show upd H2 x _ ka = some (.lst (k.map vi)) by rw [upd_ne (ne_of (s2 _ _ (s1 _ _ hka)) hx2 (by intro z; cases z))]; exact s2 _ _ (s1 _ _ hka))
      have hoa4 := s4 _ _ (show upd H2 x _ oa = some (.lst [.int b]) by rw [upd_ne (ne_of (s2 _ _ upd_same) hx2 (by intro z; cases z))]; exact s2 _ _ upd_same)
      refine ⟨A'.la, _, _, rfl, rfl, hla4, ?_, ?_⟩
      · rw [hlen, sizeLine_eq]; omega
      -- self.pieces.append(piece)
      refine ⟨_, rfl, A'.r, N.cR, A'.dr, _, _, rfl, (by rw [upd_ne (ne_of hr4 hla4 (by intro z; cases z))]; exact hr4), c.r, c.rn _ (by simp), rfl, isL (show _ = some (HO.lst (A'.as.tail.map V.ref)) by rw [upd_ne R.ne]; exact hpa4), _, rfl, A'.pa, _, _, rfl, rfl, (by rw [upd_ne R.ne]; exact hpa4), ?_, ?_⟩
      · rw [List.length_map, List.length_tail, R.pcs.len, sizeLine_eq]
        have := R.few
        have := R.short
        have := R.place
        omega
      -- self.place += 1
      have nrp : A'.r ≠ A'.pa := ne_of hr4 hpa4 (by intro z; cases z)
      have nrl : A'.r ≠ A'.la := ne_of hr4 hla4 (by intro z; cases z)
      have hr6 : upd (upd H4 A'.la (.lst (A'.ls.reverse.map V.ref ++ [.ref l]))) A'.pa (.lst (A'.as.tail.map V.ref ++ [.ref x])) A'.r = some (.ins N.cR A'.dr (rf A'.ta m.place A'.pa A'.la)) := by rw [upd_ne nrp, upd_ne nrl]; exact hr4
      refine ⟨_, rfl, A'.r, N.cR, A'.dr, _, _, rfl, hr6, c.r, c.rn _ (by simp), rfl, _, _, rfl, rfl, A'.dr, _, hr6, few rfl, ?_⟩
      -- all together
      have kA : Kp [A'.r, A'.pa, A'.la] H4 (upd (upd (upd H4 A'.la (.lst (A'.ls.reverse.map V.ref ++ [.ref l]))) A'.pa (.lst (A'.as.tail.map V.ref ++ [.ref x]))) A'.r (.ins N.cR A'.dr (rf A'.ta (m.place + 1) A'.pa A'.la))) :=
        ((Kp.upd (by simp)).trans (Kp.upd (by simp))).trans (Kp.upd (by simp))
      have sH4 : Same H H4 := fun b' o e => s4 _ _ (by rw [upd_ne (ne_of_none e hx0)]; exact s2 _ _ (s1 _ _ e))
      have R4 := R.same c sH4
      have kH := kA
      obtain ⟨P5, L5⟩ := R4.kp3 c kA
      have nx : x ∉ [A'.r, A'.pa, A'.la] := by simp [f4, f5, f6]
      have nl : l ∉ [A'.r, A'.pa, A'.la] := by simp [l4, l5, l6]
      have nsa : sa ∉ [A'.r, A'.pa, A'.la] := by simp [a4, a5, a6]
      have nka3 : ka ∉ [A'.r, A'.pa, A'.la] := fun z => by
        rcases List.mem_cons.mp z with y | y
        · rw [y, hr4] at hka4; cases hka4
        · exact nka y
      have noa3 : oa ∉ [A'.r, A'.pa, A'.la] := by simp [o4, o5, o6]
      have PA : PieceAt N.cP [A'.pa, A'.la] _ x { Mir.mk .opening k [b] with length := (Mir.keyTold k).length + 2 } := ⟨dx, ka, oa, kA _ _ (by
        rw [hx4]
        have z : ((((Mir.keyTold k).length + [b].length : Nat) : Int) + 1) = (((Mir.keyTold k).length + 2 : Nat) : Int) := by simp only [List.length_cons, List.length_nil]; omega
        rw [z]
        rfl) nx, kA _ _ hka4 nka3, kA _ _ hoa4 noa3, nka, by simp [o5, o6]⟩
      have P6 := P5.snoc PA f1
      have LA : LevelAt N _ (A'.as ++ [x]) l sa ⟨m.obs.length, b + 2, .ready, [], none⟩ := ⟨dl, x, kA _ _ (by
        rw [hl4]
        have z : ((b : Int) + 2) = ((b + 2 : Nat) : Int) := by omega
        rw [z]
        rfl) nl, by rw [← R.pcs.len, List.getElem?_append_right (Nat.le_refl _), Nat.sub_self]; rfl, fun j e => (by cases e), kA _ _ hsa4 nsa⟩
      have L6 := (L5.snoc x).push LA l2 a3
      refine q _ { A' with as := A'.as ++ [x], ls := l :: A'.ls, ss := sa :: A'.ss } rfl ⟨?_, R4.text3 kA, R.sep, R.short, R.byt, hp, ?_, ?_, R.ne, P6, L6, ?_, ?_, fun lv hlv => ?_, R4.stay3 c kA⟩
      · rw [upd_same]
        have z : ((m.place : Int) + 1) = ((m.place + 1 : Nat) : Int) := by omega
        show some (HO.ins N.cR A'.dr (rf A'.ta ((m.place : Int) + 1) A'.pa A'.la)) = _
        rw [z]
      · show _ = some (HO.lst ((A'.as ++ [x]).tail.map V.ref))
        rw [upd_ne (Ne.symm nrp), upd_same, tail_app (R.asne hne), List.map_append]
        rfl
      · show _ = some (HO.lst ((l :: A'.ls).reverse.map V.ref))
        rw [upd_ne (Ne.symm nrl), upd_ne (Ne.symm R.ne), upd_same, List.reverse_cons, List.map_append]
        rfl
      · have := R.few
        simp only [List.length_append, List.length_cons, List.length_nil]
        omega
      · simp only [List.length_cons]; omega
      · rcases List.mem_cons.mp hlv with z | z
        · rw [z]; exact Nat.zero_le _
        · exact Nat.le_succ_of_le (R.sfew lv z)
end
end Prg
set_option linter.all false
set_option maxRecDepth 100000
set_option maxHeartbeats 4000000
namespace Prg
open PySem PySem.Spec PyProof.Rows L2
theorem Rep.addPiece {K : PySem.W.Frag} {mg : Str → Option Value} {N : Nm} {H H' : Hp} {A : Ad} {t : List Nat} {m : Mir.M} (c : Cs K mg N) (R : Rep K N H A t m) (hne : m.lvs ≠ []) {x : Addr} {pc : Mir.Pc} {p : Nat} (hx : x ∉ A.as) (k : Kp [A.r, A.pa, A.la] H H')
    (hr : H' A.r = some (.ins N.cR A.dr (rf A.ta p A.pa A.la))) (hpa : H' A.pa = some (.lst (A.as.tail.map V.ref ++ [.ref x]))) (hla : H' A.la = some (.lst (A.ls.reverse.map V.ref))) (PA : PieceAt N.cP [A.pa, A.la] H' x pc) (hp : m.place ≤ p) (hp2 : p ≤ t.length) (hf : m.obs.length ≤ p) :
    Rep K N H' { A with as := A.as ++ [x] } t { m with obs := m.obs ++ [pc], place := p } := by
  obtain ⟨P5, L5⟩ := R.kp3 c k
  refine ⟨hr, R.text3 k, R.sep, R.short, R.byt, hp2, ?_, hla, R.ne, P5.snoc PA hx, L5.snoc x, ?_, R.deep, fun lv hlv => Nat.le_trans (R.sfew lv hlv) hp, R.stay3 c k⟩
  · show _ = some (HO.lst ((A.as ++ [x]).tail.map V.ref))
    rw [hpa, tail_app (R.asne hne), List.map_append]
    rfl
  · simp only [List.length_append, List.length_cons, List.length_nil]; omega
section
variable {P : Program} {w : World} {K : PySem.W.Frag} {mg : Str → Option Value} {base : Heap} {N : Nm}
noncomputable abbrev MAdd (P : Program) (w : World) (K : PySem.W.Frag) (mg : Str → Option Value) (base : Heap) (N : Nm) : Prop := GMt P w K mg base N.cL "add" 1 ["self", "member"] (spAdd N)
theorem addO_len (obs : List Mir.Pc) (pi mi : Nat) (last : Option Nat) : (Mir.addO obs pi last mi).length = obs.length := by
  unfold Mir.addO
  cases last <;> simp
inductive SpClosingP (K : PySem.W.Frag) (N : Nm) (vs : List V) (H : Hp) (Q : VK) (E : XK) : Prop
  | mk : ∀ (A : Ad) (t : List Nat) (m : Mir.M) (lv : Mir.Lv) (up : List Mir.Lv) (b : Nat), vs = [.ref A.r, .int b] → Rep K N H A t m → m.lvs = lv :: up → m.place < t.length → (b = lv.closer → up ≠ []) → Ret K N t E Q A.r (Mir.readClosing m lv up b) → SpClosingP K N vs H Q E
noncomputable def spClosing (K : PySem.W.Frag) (N : Nm) : Sp := SpClosingP K N
theorem scClosing : FnScope ["self", "byte", "level"] ["self", "byte"] (defScope sClosing) := ⟨rfl, rfl, rfl, by decide +kernel, rfl, by decide +kernel, by decide +kernel⟩
theorem ok_closing {f : Addr} {fd : FuncData} (F : Fun K "read_closing" "Reader.read_closing" sClosing f fd) (T : Txt K mg) (c : Cs K mg N) (GP : KPiece P w K mg base N) (GA : MAdd P w K mg base N) (GW : FX P w K mg base N.cW) : FnOk P w K mg base (CXw P w) 4 f fd ["self", "byte"] (spClosing K N) := by
  refine F.okW scClosing (fun vs H Q E h => ?_) (fun cdv A outer s H vs Q E X eX O hr h => ?_)
  · obtain ⟨A, t, m, lv, up, b, rfl, _⟩ := h
    rfl
  · obtain ⟨A', t, m, lv, up, b, rfl, R, em, hp, hup, q⟩ := h
    obtain ⟨l, ls, sa, ss, el, es, L, hat⟩ := R.head em
    obtain ⟨dx, pa, g1, g2, g3, g4⟩ := id L
    have hr1 := hr.mono (by decide : 1 ≤ 3)
    have hr2 := hr.mono (by decide : 2 ≤ 3)
    have hpl : m.place ≤ 65536 := Nat.le_trans R.place (Nat.le_trans R.short (by decide))
    refine ⟨_, pss_cons (ps_set (i := 2) scClosing.nd rfl (Or.inl rfl) (pe_ix ix_list (pe_fld (pv 0) rfl) (pe_un un_neg pe_int) (fun _ _ => rfl)))
      (pss_cons (ps_if (pt_cmpR op_ne (pv 1) (pe_fld (pv 2) rfl) (nomark _)) (pss_one (ps_rs GW own_cx rfl hr2 (pa_cons (pe_fld (pv 0) rfl) pa_nil))) pss_nil)
      (pss_cons (ps_expr (pe_bm0 PySem.F.plainAttrs_list PySem.F.slot_list_pop PySem.F.type_list_pop mt_pop (pe_fld (pv 0) rfl)))
      (pss_cons (ps_expr (pe_mt GA hr1 (passW own_cx) (pe_ix ix_list (pe_fld (pv 0) rfl) (pe_un un_neg pe_int) (fun _ _ => rfl)) (pa_cons (pe_fld (pv 2) rfl) pa_nil)))
      (pss_cons (ps_expr (pe_bm PySem.F.plainAttrs_list PySem.F.slot_list_append PySem.F.type_list_append mt_append (pe_fld (pv 0) rfl) (pa_cons (pe_mk GP hr (passW own_cx) (pa_cons (pe_gs T.kClosing) (pa_cons (pe_lst pa_nil) (pa_cons (pe_lst (pa_cons (pv 1) pa_nil)) pa_nil)))) pa_nil)))
      (pss_one (ps_fldaug (pv 0) pe_int in_add)))))), ?_⟩
    refine ⟨_, rfl, A'.r, N.cR, A'.dr, _, _, rfl, R.r, c.r, c.rn _ (by simp), rfl, _, rfl, A'.la, _, _, _, rfl, rfl, SqL.of R.levels, hat, ?_⟩
    refine ⟨_, rfl, _, rfl, l, N.cL, dx, _, _, rfl, g1, c.l, c.ln _ (by simp), rfl, rfl, _, rfl, ite2 (fun h => ?_) fun h => ?_⟩
    · have hne : b ≠ lv.closer := fun z => by
        rw [z] at h
        have : decide (V.int (lv.closer : Int) = V.int (lv.closer : Int)) = true := decide_eq_true rfl
        rw [this] at h
        exact absurd h (by decide)
      unfold Mir.readClosing at q
      rw [if_pos hne] at q
      exact ⟨_, rfl, A'.r, N.cR, A'.dr, _, _, rfl, R.r, c.r, c.rn _ (by simp), rfl, _, rfl, Errs.rd (q := m.place) q R.stay hpl⟩
    · have heq : b = lv.closer := by
        have z : decide (V.int (b : Int) = V.int (lv.closer : Int)) = true := by simpa using h
        have z : V.int (b : Int) = V.int (lv.closer : Int) := of_decide_eq_true z
        injection z with z
        omega
      unfold Mir.readClosing at q
      rw [if_neg (fun z => z heq)] at q
      cases hu : up with
      | nil => exact absurd hu (hup heq)
      | cons par rest =>
        rw [hu] at q em
        simp only at q
        have exs : A'.ls.reverse.map V.ref = ls.reverse.map V.ref ++ [V.ref l] := by rw [el, List.reverse_cons, List.map_append]; rfl
        -- self.levels.pop()
        refine ⟨_, rfl, A'.r, N.cR, A'.dr, _, _, rfl, R.r, c.r, c.rn _ (by simp), rfl, isL R.levels, A'.la, _, .ref l, rfl, rfl, R.levels, ?_, ?_⟩
        · rw [exs, List.length_append]
          simp
        rw [exs, List.dropLast_concat]
        have hL := R.lvs
        rw [em, el, es] at hL
        have hLt := hL.tail
        obtain ⟨l2, sa2, q1, q2, dx2, pa2, p1, p2, p3, p4⟩ := hLt.at_ 0 par rfl
        cases hls : ls with
        | nil => rw [hls] at q1; cases q1
        | cons l2' ls2 =>
          cases hss : ss with
          | nil => rw [hss] at q2; cases q2
          | cons sa2' ss2 =>
            rw [hls] at q1
            rw [hss] at q2
            cases q1
            cases q2
            rw [hls, hss] at hLt
            have nla : ∀ (bb : Addr) (o : HO), H bb = some o → (∀ xs, o ≠ .lst xs) → bb ≠ A'.la := fun bb o e n z => by rw [z, R.levels] at e; exact n _ (Option.some.inj e).symm
            have nr : A'.r ≠ A'.la := nla _ _ R.r fun xs z => by cases z
            have hat2 : atI ((l2 :: ls2).reverse.map V.ref) (-1) = some (.ref l2) := by
              rw [List.reverse_cons, List.map_append]
              exact atI_last _ _
            have k1 : Kp [A'.r, A'.pa, A'.la] H (upd H A'.la (.lst ((l2 :: ls2).reverse.map V.ref))) := Kp.upd (by simp)
            obtain ⟨P1, L1⟩ := R.kp3 c k1
            rw [em, el, es, hls, hss] at L1
            have p1' : upd H A'.la (.lst ((l2 :: ls2).reverse.map V.ref)) l2 = _ := (upd_ne (nla _ _ p1 fun xs z => by cases z)).trans p1
            have g1' : upd H A'.la (.lst ((l2 :: ls2).reverse.map V.ref)) l = _ := (upd_ne (nla _ _ g1 fun xs z => by cases z)).trans g1
            -- self.levels[-1].add(level.piece)
            refine ⟨_, rfl, A'.r, N.cR, A'.dr, _, _, rfl, (by rw [upd_ne nr]; exact R.r), c.r, c.rn _ (by simp), rfl, _, rfl, A'.la, _, _, _, rfl, rfl, SqL.of upd_same, hat2, l2, dx2, _, rfl, p1', rfl, _, rfl, l, N.cL, dx, _, _, rfl, g1', c.l, c.ln _ (by simp), rfl, ?_⟩
            refine ⟨l2, dx2, pa2, pa, sa2, par.closer, stS par.st, [A'.pa, A'.la], A'.as, m.obs, par.pi, lv.pi, par.last, rfl, p1', p2, g2, p3, P1, fun H2 h2 P2 k2 => ?_⟩
            -- what add has left
            have n2 : ∀ (bb : Addr) (o : HO), upd H A'.la (.lst ((l2 :: ls2).reverse.map V.ref)) bb = some o → (∀ dx fs, o ≠ .ins N.cP dx fs) → bb ≠ l2 → H2 bb = some o := fun bb o e n nl2 => k2 bb o e fun z => by
              rcases List.mem_cons.mp z with y | y
              · exact nl2 y
              · obtain ⟨dd, ff, y⟩ := P1.mem y
                rw [e] at y; exact n _ _ (Option.some.inj y)
            have hr2' : H2 A'.r = some (.ins N.cR A'.dr (rf A'.ta m.place A'.pa A'.la)) := n2 _ _ (by rw [upd_ne nr]; exact R.r) (fun dd ff z => by injection z with z _ _; exact c.pr z.symm) (fun z => by
              have := R.r
              rw [z, p1] at this; injection this with this; injection this with this _ _; exact c.lr this)
            have hpa2 : H2 A'.pa = some (.lst (A'.as.tail.map V.ref)) := n2 _ _ (by rw [upd_ne R.ne]; exact R.pieces) (fun dd ff z => by cases z) (fun z => by
              have := R.pieces
              rw [z, p1] at this; cases this)
            have hla2 : H2 A'.la = some (.lst ((l2 :: ls2).reverse.map V.ref)) := n2 _ _ upd_same (fun dd ff z => by cases z) (fun z => by
              have := R.levels
              rw [z, p1] at this; cases this)
            have tx2 : SqL K H2 A'.ta (tx t) := by
              have t1 := R.text3 k1
              rcases t1 with (h | ⟨o, h⟩) | h
              · exact .inl (.inl (n2 _ _ h (fun dd ff z => by cases z) (fun z => by rw [z, p1'] at h; cases h)))
              · exact .inl (.inr ⟨o, n2 _ _ h (fun dd ff z => by cases z) (fun z => by rw [z, p1'] at h; cases h)⟩)
              · exact .inr h
            have hp4 : H2 sa2 = some (.dT (seenKvs par.seen)) := n2 _ _ (by rw [upd_ne (nla _ _ p4 fun xs z => by cases z)]; exact p4) (fun dd ff z => by cases z) (ne_of p4 p1 (by intro z; cases z))
            have L2' : Lvls N H2 A'.as (l2 :: ls2) (sa2 :: ss2) ({ par with last := some lv.pi, st := .filled } :: rest) := by
              have LT := L1.tail
              refine ⟨LT.nd, LT.snd, LT.len, LT.slen, fun i x e => ?_⟩
              cases i with
              | zero =>
                cases e
                refine ⟨l2, sa2, rfl, rfl, dx2, pa2, ?_, p2, fun j ej => ?_, hp4⟩
                · rw [h2]
                  show _ = some (HO.ins N.cL dx2 (lf pa2 par.closer "filled" sa2 (lastV A'.as (some lv.pi))))
                  rw [lastV_some g2]
                · cases ej
                  exact (List.getElem?_eq_some_iff.mp g2).1
              | succ i =>
                obtain ⟨l', sa', e1, e2, dx', pa', g1x, g2x, g3x, g4x⟩ := LT.at_ (i + 1) x e
                have nl2 : l' ≠ l2 := fun z => absurd (nd_ix LT.nd e1 (j := 0) (by rw [z]; rfl)) (by omega)
                refine ⟨l', sa', e1, e2, dx', pa', n2 _ _ g1x (fun dd ff z => by injection z with z _ _; exact c.pl z.symm) nl2, g2x, g3x, n2 _ _ g4x (fun dd ff z => by cases z) (fun z => by rw [z, p1'] at g4x; cases g4x)⟩
            have RR : Rep K N H2 { A' with ls := l2 :: ls2, ss := sa2 :: ss2 } t { m with obs := Mir.addO m.obs par.pi par.last lv.pi, lvs := { par with last := some lv.pi, st := .filled } :: rest } := by
              refine ⟨hr2', tx2, R.sep, R.short, R.byt, R.place, hpa2, hla2, R.ne, P2, L2', ?_, ?_, fun x hx => ?_, stay_kp (R.stay3 c k1) c.st k2 fun b' z => ?_⟩
              · simp only [addO_len]; exact R.few
              · have := R.deep
                rw [em] at this
                simp only [List.length_cons] at this ⊢
                omega
              · rcases List.mem_cons.mp hx with y | y
                · rw [y]; exact R.sfew par (by rw [em]; simp)
                · exact R.sfew x (by rw [em]; simp [y])
              · rcases List.mem_cons.mp z with y | y
                · exact ⟨_, by rw [y]; exact p1', rfl⟩
                · obtain ⟨dd, ff, y⟩ := P1.mem y
                  exact ⟨_, y, rfl⟩
            -- self.pieces.append(Piece(CLOSING, [], [byte]))
            refine ⟨_, rfl, A'.r, N.cR, A'.dr, _, _, rfl, hr2', c.r, c.rn _ (by simp), rfl, isL hpa2, ?_⟩
            refine ⟨Nat.zero_le _, fun ka hka => ⟨_, rfl, (by show 1 ≤ sizeLine; decide), fun oa hoa => ?_⟩⟩
            have s1 : Same H2 (upd H2 ka (.lst [])) := same_new hka
            have s2 : Same H2 (upd (upd H2 ka (.lst [])) oa (.lst [.int b])) := s1.trans (same_new hoa)
            have nko : ka ≠ oa := fun z => by rw [← z, upd_same] at hoa; cases hoa
            refine made_piece (N := N) (k := "closing") (key := []) (own := [b]) (by rw [upd_ne nko]; exact upd_same) upd_same (by simp) (by simp) fun x H3 hx s3 ⟨dx3, hx3⟩ => ?_
            have hoa2 : H2 oa = none := s1.free hoa
            have hx2 : H2 x = none := s2.free hx
            obtain ⟨f1, f2, f3, f4, f5, f6⟩ := RR.fresh hx2
            obtain ⟨_, _, _, o4, o5, o6⟩ := RR.fresh hoa2
            obtain ⟨_, _, _, e4, e5, e6⟩ := RR.fresh hka
            have sH3 : Same H2 H3 := s2.trans s3
            have PA3 : PieceAt N.cP [A'.pa, A'.la] H3 x (Mir.mk .closing [] [b]) := ⟨dx3, ka, oa, hx3, s3 _ _ (by rw [upd_ne nko]; exact upd_same), s3 _ _ upd_same, by simp [e5, e6], by simp [o5, o6]⟩
            refine ⟨A'.pa, _, _, rfl, rfl, sH3 _ _ hpa2, ?_, ?_⟩
            · rw [List.length_map, List.length_tail, R.pcs.len, sizeLine_eq]
              have := R.few
              have := R.short
              have := R.place
              omega
            have nrp : A'.r ≠ A'.pa := ne_of hr2' hpa2 (by intro z; cases z)
            have nlp : A'.la ≠ A'.pa := Ne.symm R.ne
            have hr4 : upd H3 A'.pa (.lst (A'.as.tail.map V.ref ++ [.ref x])) A'.r = some (.ins N.cR A'.dr (rf A'.ta m.place A'.pa A'.la)) := by rw [upd_ne nrp]; exact sH3 _ _ hr2'
            refine ⟨_, rfl, A'.r, N.cR, A'.dr, _, _, rfl, hr4, c.r, c.rn _ (by simp), rfl, _, _, rfl, rfl, A'.dr, _, hr4, few rfl, ?_⟩
            have k5 : Kp [A'.r, A'.pa, A'.la] H3 (upd (upd H3 A'.pa (.lst (A'.as.tail.map V.ref ++ [.ref x]))) A'.r (.ins N.cR A'.dr (rf A'.ta ((m.place : Int) + 1) A'.pa A'.la))) := (Kp.upd (by simp)).trans (Kp.upd (by simp))
            have R3 := RR.same c sH3
            refine q _ { A' with as := A'.as ++ [x], ls := l2 :: ls2, ss := sa2 :: ss2 } rfl (R3.addPiece c (p := m.place + 1) (List.cons_ne_nil _ _) f1 k5 ?_ ?_ ?_ (PA3.kp k5 fun b' hb' => ?_) (Nat.le_succ _) hp ?_)
            · rw [upd_same]; rfl
            · rw [upd_ne (Ne.symm nrp), upd_same]
            · rw [upd_ne (Ne.symm nr), upd_ne nlp]; exact sH3 _ _ hla2
            · have hb' : b' = A'.r ∨ b' = A'.pa ∨ b' = A'.la := by simpa using hb'
              rcases hb' with y | y | y
              · rw [y, sH3 _ _ hr2']
                exact ⟨fun dd ff z => (by injection z with z; injection z with z _ _; exact c.pr z.symm), .inr fun xs z => (by cases z)⟩
              · rw [y, sH3 _ _ hpa2]
                exact ⟨fun dd ff z => (by cases z), .inl (by simp)⟩
              · rw [y, sH3 _ _ hla2]
                exact ⟨fun dd ff z => (by cases z), .inl (by simp)⟩
            · simp only [addO_len]; exact R.few
end
end Prg
set_option linter.all false
set_option maxRecDepth 100000
set_option maxHeartbeats 4000000
namespace Prg
open PySem PySem.Spec PyProof.Rows L2
theorem Rep.setPiece {K : PySem.W.Frag} {mg : Str → Option Value} {N : Nm} {H : Hp} {A : Ad} {t : List Nat} {m : Mir.M} (c : Cs K mg N) (R : Rep K N H A t m) {i : Nat} {a dx ka oa : Addr} {pc pc' : Mir.Pc} (hi : m.obs[i]? = some pc) (ha : A.as[i]? = some a)
    (h1 : H a = some (.ins N.cP dx (pf (kdS pc.kind) ka oa pc.length pc.comma pc.filled pc.noted pc.behind))) (h2 : H ka = some (.lst (pc.key.map vi))) (h3 : H oa = some (.lst (pc.own.map vi))) (h4 : ka ∉ [A.pa, A.la]) (h5 : oa ∉ [A.pa, A.la]) (ek : pc'.kind = pc.kind) (ey : pc'.key = pc.key) (eo : pc'.own = pc.own) :
    Rep K N (upd H a (.ins N.cP dx (pf (kdS pc'.kind) ka oa pc'.length pc'.comma pc'.filled pc'.noted pc'.behind))) A t { m with obs := m.obs.set i pc' } := by
  have nl : ∀ b o, H b = some o → (∀ dx fs, o ≠ .ins N.cP dx fs) → b ≠ a := fun b o e n z => by rw [z, h1] at e; exact n _ _ (Option.some.inj e).symm
  have k : Kp [a] H (upd H a (.ins N.cP dx (pf (kdS pc'.kind) ka oa pc'.length pc'.comma pc'.filled pc'.noted pc'.behind))) := Kp.upd (by simp)
  refine ⟨?_, ?_, R.sep, R.short, R.byt, R.place, ?_, ?_, R.ne, R.pcs.set hi ha h1 h2 h3 h4 h5 ek ey eo, R.lvs.kp k fun b z => ?_, by simp only [List.length_set]; exact R.few, R.deep, R.sfew, stay_kp R.stay c.st k fun b z => ?_⟩
  · rw [upd_ne (nl _ _ R.r fun dx fs z => by injection z with z _ _; exact c.pr z.symm)]; exact R.r
  · rcases R.text with (h | ⟨o, h⟩) | h
    · exact .inl (.inl (by rw [upd_ne (nl _ _ h fun dx fs z => by cases z)]; exact h))
    · exact .inl (.inr ⟨o, by rw [upd_ne (nl _ _ h fun dx fs z => by cases z)]; exact h⟩)
    · exact .inr h
  · rw [upd_ne (nl _ _ R.pieces fun dx fs z => by cases z)]; exact R.pieces
  · rw [upd_ne (nl _ _ R.levels fun dx fs z => by cases z)]; exact R.levels
  · have z : b = a := by simpa using z
    rw [z, h1]
    exact ⟨fun dx fs w => (by injection w with w; injection w with w _ _; exact c.pl w), fun kvs w => (by cases w)⟩
  · have z : b = a := by simpa using z
    exact ⟨_, by rw [z]; exact h1, rfl⟩
section
variable {P : Program} {w : World} {K : PySem.W.Frag} {mg : Str → Option Value} {base : Heap} {N : Nm}
inductive SpCommentP (K : PySem.W.Frag) (N : Nm) (vs : List V) (H : Hp) (Q : VK) (E : XK) : Prop
  | mk : ∀ (A : Ad) (t : List Nat) (m : Mir.M) (lv : Mir.Lv) (up : List Mir.Lv) (le : Bool), vs = [.ref A.r, .bl le] → Rep K N H A t m → m.lvs = lv :: up → m.place < t.length → Mir.at_ t m.place = 35 → Ret K N t E Q A.r (Mir.readComment t m lv up le) → SpCommentP K N vs H Q E
noncomputable def spComment (K : PySem.W.Frag) (N : Nm) : Sp := SpCommentP K N
theorem comP_go {t : List Nat} {p : Nat} (h : Sg51.plain (Mir.at_ t p) = true) : p < t.length ∧ Mir.comP t (p + 1) = Mir.comP t p := by
  have hp : p < t.length := by
    by_cases hp : p < t.length
    · exact hp
    · rw [Mir.at_end (by omega)] at h
      exact absurd h (by decide)
  refine ⟨hp, ?_⟩
  have hne : Mir.at_ t p ≠ 10 := fun z => by rw [z] at h; exact absurd h (by decide)
  rw [comP_at t p, if_pos ⟨hp, hne⟩, if_pos h]
theorem comP_stop {t : List Nat} {p : Nat} (h : ¬ Sg51.plain (Mir.at_ t p) = true) (h8 : B8 t) : Mir.comP t p = if Mir.at_ t p = 10 ∨ Mir.at_ t p = 256 then .ok p else .error p := by
  rw [comP_at t p]
  by_cases hp : p < t.length
  · by_cases h10 : Mir.at_ t p = 10
    · rw [if_neg (fun z => z.2 h10), if_pos (.inl h10)]
    · rw [if_pos ⟨hp, h10⟩, if_neg h, if_neg (fun z => z.elim h10 (byte_lt h8 hp))]
  · rw [if_neg (fun z => hp z.1), if_pos (.inr (Mir.at_end (by omega)))]
theorem slice_last {t : List Nat} {b e : Nat} (h1 : b ≤ e) (h2 : e < t.length) : Mir.slice t b (e + 1) = Mir.slice t b e ++ [Mir.at_ t e] := by
  unfold Mir.slice
  have e1 : e + 1 - b = (e - b) + 1 := by omega
  rw [e1, take_last (by rw [List.length_drop]; omega)]
  congr 2
  unfold Mir.at_
  rw [List.getElem?_drop]
  congr 2
  omega
theorem scComment : FnScope ["self", "line_ended", "level", "begin", "end", "piece", "whole"] ["self", "line_ended"] (defScope sComment) := ⟨rfl, rfl, rfl, by decide +kernel, rfl, by decide +kernel, by decide +kernel⟩
noncomputable def tailC : List Stmt := (defBody sComment).drop 6
theorem tail_comment {f : Addr} {cdv : Value} {A : Around} {outer : List Env} {s : Shared} {H0 : Hp} {E : XK} (T : Txt K mg) (c : Cs K mg N) (GP : KPiece P w K mg base N) (hr : Room 3 (A.deeper (envOfC "Reader.read_comment" (defScope sComment) s.heap.objs.size f cdv))) :
    ∃ tt, PSs ((cxOf (CXw P w) P w K mg base ["self", "line_ended", "level", "begin", "end", "piece", "whole"] "Reader.read_comment" (defScope sComment) f cdv A outer s H0 E).wish (XS (cxOf (CXw P w) P w K mg base ["self", "line_ended", "level", "begin", "end", "piece", "whole"] "Reader.read_comment" (defScope sComment) f cdv A outer s H0 E) E)) tailC tt ∧ ∀ (D : Ends) (H1' : Hp) (A' : Ad) (t : List Nat) (m : Mir.M) (lv : Mir.Lv) (up : List Mir.Lv) (le : Bool) (l sa pa : Addr) (ls ss : List Addr) (p e' : Nat), Rep K N H1' A' t { m with place := p } → m.lvs = lv :: up → A'.ls = l :: ls → A'.ss = sa :: ss → A'.as[lv.pi]? = some pa → (∀ j, lv.last = some j → j < A'.as.length) →
      m.obs.length ≤ m.place + 1 → (m.place + 1 ≤ p ∧ p ≤ t.length) → m.place + 1 ≤ e' + 1 → e' + 1 ≤ p → Sg51.trimmed (Mir.slice t m.place p) = Mir.slice t m.place (e' + 1) →
      (∀ σ' H' A2, A2.r = A'.r → Rep K N H' A2 t { m with place := p, obs := (m.obs.modify lv.pi fun w => { w with noted := true }) ++ [{ Mir.mk .comment [] (Sg51.trimmed (Mir.slice t m.place p)) with behind := lv.last.isSome && !le }], lvs := { lv with st := if lv.st = .filled then .closed else lv.st } :: up } → D.nx σ' H') →
      tt D [some (.ref A'.r), some (.bl le), some (.ref l), some (.int m.place), some (.int ((e' + 1 : Nat) : Int)), none, none] H1' := by
  refine ⟨_, (pss_cons (ps_set (i := 5) scComment.nd rfl (Or.inl rfl) (pe_mk GP hr (passW own_cx) (pa_cons (pe_gs T.kComment) (pa_cons (pe_lst pa_nil) (pa_cons (pe_slice sl_list (pe_fld (pv 0) rfl) (po_some (pv 3)) (po_some (pv 4))) pa_nil)))))
      (pss_cons (ps_fld (pv 5) (pe_and (pe_cmpR op_notN (pe_fld (pv 2) rfl) pe_non (nomark _)) (pe_one (pe_not (pv 1)))) rfl)
      (pss_cons (ps_set (i := 6) scComment.nd rfl (Or.inl rfl) (pe_fld (pv 2) rfl))
      (pss_cons (ps_fld (pv 6) pe_bl rfl)
      (pss_cons (ps_if (pt_cmpR op_eq (pe_fld (pv 2) rfl) (pe_gs T.filled) (nomark _)) (pss_one (ps_fld (pv 2) (pe_gs T.closed) rfl)) pss_nil)
      (pss_one (ps_expr (pe_bm PySem.F.plainAttrs_list PySem.F.slot_list_append PySem.F.type_list_append mt_append (pe_fld (pv 0) rfl) (pa_cons (pv 5) pa_nil))))))))), ?_⟩
  intro D H1' A' t m lv up le l sa pa ls ss p e' Rx em el es g2 g3 hfew cl he1 he2 etr q
  have eM : ({ m with place := p } : Mir.M).lvs = lv :: up := em
  -- piece = Piece(COMMENT, [], self.text[begin:end])
  refine ⟨Nat.zero_le _, fun ka hka => ?_⟩
  have s2 : Same H1' (upd H1' ka (.lst [])) := same_new hka
  have R2 := Rx.same c s2
  refine ⟨_, rfl, A'.r, N.cR, A'.dr, _, _, rfl, R2.r, c.r, c.rn _ (by simp), rfl, _, rfl, _, rfl, _, rfl, _, rfl, A'.ta, _, rfl, R2.text, fun oa hoa => ?_⟩
  rw [cut_slice (by omega) (by omega), ← etr]
  have s4 : Same (upd H1' ka (.lst [])) (upd (upd H1' ka (.lst [])) oa (.lst ((Sg51.trimmed (Mir.slice t m.place p)).map vi))) := same_new hoa
  have ltr : (Sg51.trimmed (Mir.slice t m.place p)).length ≤ 20000 := by
    rw [etr]
    unfold Mir.slice
    rw [List.length_take, List.length_drop]
    have := Rx.short
    omega
  refine made_piece (N := N) (k := "comment") (key := []) (own := Sg51.trimmed (Mir.slice t m.place p)) (s4 _ _ upd_same) upd_same (by simp) ltr fun x H5 hx s5 ⟨dx5, hx5⟩ => ?_
  have sA : Same H1' H5 := (s2.trans s4).trans s5
  have hka0 : H1' ka = none := hka
  have hoa0 : H1' oa = none := s2.free hoa
  have hx0 : H1' x = none := (s2.trans s4).free hx
  obtain ⟨f1, f2, f3, f4, f5, f6⟩ := Rx.fresh hx0
  obtain ⟨_, _, _, e4, e5, e6⟩ := Rx.fresh hka0
  obtain ⟨_, _, _, o4, o5, o6⟩ := Rx.fresh hoa0
  have R5 := Rx.same c sA
  have nxl : x ≠ l := fun z => f2 (by rw [z, el]; simp)
  -- piece.behind = level.last is not None and not line_ended
  have rest2 : ∀ b : Bool, b = (lv.last.isSome && !le) → ∀ H6 : Hp, H6 = upd H5 x (.ins N.cP dx5 (pf "comment" ka oa (((Mir.keyTold []).length + (Sg51.trimmed (Mir.slice t m.place p)).length : Nat) : Int) false false false b)) →
      Rep K N H6 A' t { m with place := p } ∧ PieceAt N.cP [A'.pa, A'.la] H6 x { Mir.mk .comment [] (Sg51.trimmed (Mir.slice t m.place p)) with behind := lv.last.isSome && !le } := by
    intro b hb H6 e6'
    subst e6'
    have sB : Same H1' (upd H5 x (.ins N.cP dx5 (pf "comment" ka oa (((Mir.keyTold []).length + (Sg51.trimmed (Mir.slice t m.place p)).length : Nat) : Int) false false false b))) := fun b' o e => by
      rw [upd_ne (ne_of_none e hx0)]; exact sA _ _ e
    have nk : ka ≠ x := ne_of (s5 _ _ (s4 _ _ upd_same)) hx5 (by intro z; cases z)
    have no : oa ≠ x := ne_of (s5 _ _ upd_same) hx5 (by intro z; cases z)
    refine ⟨Rx.same c sB, dx5, ka, oa, ?_, ?_, ?_, by simp [e5, e6], by simp [o5, o6]⟩
    · rw [upd_same, hb]; rfl
    · rw [upd_ne nk]; exact s5 _ _ (s4 _ _ upd_same)
    · rw [upd_ne no]; exact s5 _ _ upd_same
  -- the rest
  have tail : ∀ H6 : Hp, Rep K N H6 A' t { m with place := p } → PieceAt N.cP [A'.pa, A'.la] H6 x { Mir.mk .comment [] (Sg51.trimmed (Mir.slice t m.place p)) with behind := lv.last.isSome && !le } →
      ∃ dw kw ow pw, m.obs[lv.pi]? = some pw ∧ H6 pa = some (.ins N.cP dw (pf (kdS pw.kind) kw ow pw.length pw.comma pw.filled pw.noted pw.behind)) ∧ Rep K N (upd H6 pa (.ins N.cP dw (pf (kdS pw.kind) kw ow pw.length pw.comma pw.filled true pw.behind))) A' t { m with place := p, obs := m.obs.modify lv.pi fun w => { w with noted := true } } ∧
        PieceAt N.cP [A'.pa, A'.la] (upd H6 pa (.ins N.cP dw (pf (kdS pw.kind) kw ow pw.length pw.comma pw.filled true pw.behind))) x { Mir.mk .comment [] (Sg51.trimmed (Mir.slice t m.place p)) with behind := lv.last.isSome && !le } := by
    intro H6 R6 PA6
    obtain ⟨pw, dw, kw, ow, w0, w1, w2, w3, w4, w5⟩ := R6.pcs.get g2
    refine ⟨dw, kw, ow, pw, w0, w1, ?_, ?_⟩
    · have z := R6.setPiece c (pc' := { pw with noted := true }) w0 g2 w1 w2 w3 w4 w5 rfl rfl rfl
      rw [modify_set _ w0]
      exact z
    · have nx : x ≠ pa := fun z => f1 (by rw [z]; exact List.mem_of_getElem? g2)
      obtain ⟨d6, k6, o6', z1, z2, z3, z4, z5⟩ := PA6
      exact ⟨d6, k6, o6', by rw [upd_ne nx]; exact z1, by rw [upd_ne (ne_of z2 w1 (by intro z; cases z))]; exact z2, by rw [upd_ne (ne_of z3 w1 (by intro z; cases z))]; exact z3, z4, z5⟩
  have lev : ∀ (H6 : Hp) (m6 : Mir.M) (lv6 : Mir.Lv), Rep K N H6 A' t m6 → m6.lvs = lv6 :: up → lv6.pi = lv.pi → ∃ d6, H6 l = some (.ins N.cL d6 (lf pa lv6.closer (stS lv6.st) sa (lastV A'.as lv6.last))) ∧ (∀ j, lv6.last = some j → j < A'.as.length) ∧ H6 sa = some (.dT (seenKvs lv6.seen)) := by
    intro H6 m6 lv6 R6 em6 ep
    obtain ⟨l', ls', sa', ss', el', es', ⟨d6, pa6, z1, z2, z3, z4⟩, _⟩ := R6.head em6
    rw [el] at el'
    rw [es] at es'
    injection el' with e1 _
    injection es' with e2 _
    subst e1 e2
    rw [ep, g2] at z2
    have e3 : pa = pa6 := Option.some.inj z2
    subst e3
    exact ⟨d6, z1, z3, z4⟩
  dsimp only [gName]
  refine seq_via (t := sFld _ _ _ _) (fun σ' H6 => σ' = [some (.ref A'.r), some (.bl le), some (.ref l), some (.int m.place), some (.int ((e' + 1 : Nat) : Int)), some (.ref x), none] ∧ Rep K N H6 A' t { m with place := p } ∧ PieceAt N.cP [A'.pa, A'.la] H6 x { Mir.mk .comment [] (Sg51.trimmed (Mir.slice t m.place p)) with behind := lv.last.isSome && !le }) ?_ fun rest => ?_
  · rintro σ' H6 ⟨rfl, R6, PA6⟩
    obtain ⟨d6, l1, l2, l3⟩ := lev H6 _ lv R6 eM rfl
    obtain ⟨dw, kw, ow, pw, w0, w1, R7, PA7⟩ := tail H6 R6 PA6
    refine ⟨_, rfl, l, N.cL, d6, _, _, rfl, l1, c.l, c.ln _ (by simp), rfl, ?_⟩
    refine ⟨_, rfl, pa, N.cP, dw, _, rfl, w1, c.p, c.pn _ (by simp), few rfl, ?_⟩
    obtain ⟨d7, l1', l2', l3'⟩ := lev _ _ lv R7 eM rfl
    dsimp only
    refine seq_via (t := tIfS _ _ _) (fun σ' H8 => σ' = [some (.ref A'.r), some (.bl le), some (.ref l), some (.int m.place), some (.int ((e' + 1 : Nat) : Int)), some (.ref x), some (.ref pa)] ∧ Rep K N H8 A' t { m with place := p, obs := m.obs.modify lv.pi (fun w => { w with noted := true }), lvs := { lv with st := if lv.st = .filled then .closed else lv.st } :: up } ∧ PieceAt N.cP [A'.pa, A'.la] H8 x { Mir.mk .comment [] (Sg51.trimmed (Mir.slice t m.place p)) with behind := lv.last.isSome && !le }) ?_ fun rest3 => ?_
    · rintro σ' H8 ⟨rfl, R8, PA8⟩
      -- self.pieces.append(piece)
      refine ⟨_, rfl, A'.r, N.cR, A'.dr, _, _, rfl, R8.r, c.r, c.rn _ (by simp), rfl, isL R8.pieces, _, rfl, A'.pa, _, _, rfl, rfl, R8.pieces, ?_, ?_⟩
      · rw [List.length_map, List.length_tail, Rx.pcs.len, sizeLine_eq]
        show m.obs.length - 1 < 16777216
        have := hfew
        have := Rx.short
        have := cl.2
        omega
      have nrp : A'.r ≠ A'.pa := ne_of R8.r R8.pieces (by intro z; cases z)
      have nrl : A'.r ≠ A'.la := ne_of R8.r R8.levels (by intro z; cases z)
      have k9 : Kp [A'.r, A'.pa, A'.la] H8 (upd H8 A'.pa (.lst (A'.as.tail.map V.ref ++ [.ref x]))) := Kp.upd (by simp)
      refine q _ _ { A' with as := A'.as ++ [x] } rfl (R8.addPiece c (p := p) (List.cons_ne_nil _ _) f1 k9 (by rw [upd_ne nrp]; exact R8.r) upd_same ?_ (PA8.kp k9 fun b' hb' => ?_) (Nat.le_refl _) cl.2 ?_)
      · rw [upd_ne (Ne.symm Rx.ne)]; exact R8.levels
      · have hb' : b' = A'.r ∨ b' = A'.pa ∨ b' = A'.la := by simpa using hb'
        rcases hb' with y | y | y
        · rw [y, R8.r]
          exact ⟨fun dd ff z => (by injection z with z; injection z with z _ _; exact c.pr z.symm), .inr fun xs z => (by cases z)⟩
        · rw [y, R8.pieces]
          exact ⟨fun dd ff z => (by cases z), .inl (by simp)⟩
        · rw [y, R8.levels]
          exact ⟨fun dd ff z => (by cases z), .inl (by simp)⟩
      · have := hfew
        simp only [List.length_modify]
        omega
    · refine ⟨_, rfl, l, N.cL, d7, _, _, rfl, l1', c.l, c.ln _ (by simp), rfl, rfl, _, rfl, ite2 (fun h => ?_) fun h => ?_⟩
      · have hf : lv.st = .filled := by
          cases z : lv.st with
          | filled => rfl
          | ready => rw [z] at h; exact absurd h (by decide +kernel)
          | closed => rw [z] at h; exact absurd h (by decide +kernel)
        refine ⟨_, rfl, l, N.cL, d7, _, rfl, l1', c.l, c.ln _ (by simp), few rfl, ?_⟩
        refine rest3 _ _ ⟨rfl, ?_, ?_⟩
        · have z := R7.top c eM el es (lv' := { lv with st := .closed }) (H' := upd (upd H6 pa (.ins N.cP dw (pf (kdS pw.kind) kw ow pw.length pw.comma pw.filled true pw.behind))) l (.ins N.cL d7 (lf pa lv.closer "closed" sa (lastV A'.as lv.last)))) (Kp.upd (by simp)) ⟨d7, pa, upd_same, g2, g3, by rw [upd_ne (ne_of l3' l1' (by intro z; cases z))]; exact l3'⟩ (Rx.sfew lv (by rw [eM]; simp))
          rw [if_pos hf]
          exact z
        · obtain ⟨dP, kP, oP, z1, z2, z3, z4, z5⟩ := PA7
          exact ⟨dP, kP, oP, by rw [upd_ne nxl]; exact z1, by rw [upd_ne (ne_of z2 l1' (by intro z; cases z))]; exact z2, by rw [upd_ne (ne_of z3 l1' (by intro z; cases z))]; exact z3, z4, z5⟩
      · have hf : ¬ lv.st = .filled := fun z => by
          rw [z] at h
          exact h (by decide +kernel)
        refine rest3 _ _ ⟨rfl, ?_, PA7⟩
        rw [if_neg hf]
        have z : ({ m with place := p, obs := m.obs.modify lv.pi (fun w => { w with noted := true }), lvs := { lv with st := lv.st } :: up } : Mir.M) = { m with place := p, obs := m.obs.modify lv.pi (fun w => { w with noted := true }) } := by
          rw [show ({ lv with st := lv.st } : Mir.Lv) = lv from rfl, ← em]
        rw [z]
        exact R7
  · obtain ⟨d5, l1, l2, l3⟩ := lev H5 _ lv R5 eM rfl
    refine ⟨_, rfl, l, N.cL, d5, _, _, rfl, l1, c.l, c.ln _ (by simp), rfl, rfl, _, rfl, ite2 (fun h => ?_) fun h => ?_⟩
    · refine ⟨_, rfl, _, rfl, _, rfl, x, N.cP, dx5, _, rfl, hx5, c.p, c.pn _ (by simp), few rfl, ?_⟩
      have hs : lv.last.isSome = true := by
        cases z : lv.last with
        | none => rw [z] at h; exact absurd h (show ¬ (!decide (V.non = V.non)) = true by decide)
        | some j => rfl
      obtain ⟨y1, y2⟩ := rest2 (!le) (by rw [hs]; rfl) _ rfl
      exact rest _ _ ⟨rfl, y1, y2⟩
    · refine ⟨_, rfl, x, N.cP, dx5, _, rfl, hx5, c.p, c.pn _ (by simp), few rfl, ?_⟩
      have hs : lv.last.isSome = false := by
        cases z : lv.last with
        | none => rfl
        | some j =>
          obtain ⟨aj, haj⟩ : ∃ aj, A'.as[j]? = some aj := ⟨_, List.getElem?_eq_getElem (g3 j z)⟩
          rw [z, lastV_some haj] at h
          exact absurd rfl h
      obtain ⟨y1, y2⟩ := rest2 false (by rw [hs]; rfl) _ rfl
      exact rest _ _ ⟨rfl, y1, y2⟩
theorem ok_comment {f : Addr} {fd : FuncData} (F : Fun K "read_comment" "Reader.read_comment" sComment f fd) (T : Txt K mg) (c : Cs K mg N) (G1 : FIsPrinted P w K mg base) (GP : KPiece P w K mg base N) (GW : FX P w K mg base N.cW) : FnOk P w K mg base (CXw P w) 4 f fd ["self", "line_ended"] (spComment K N) := by
  refine F.okW scComment (fun vs H Q E h => ?_) (fun cdv A outer s H vs Q E X eX O hr h => ?_)
  · obtain ⟨A, t, m, lv, up, le, rfl, _⟩ := h
    rfl
  · obtain ⟨A', t, m, lv, up, le, rfl, R, em, hp, h35, q⟩ := h
    obtain ⟨l, ls, sa, ss, el, es, L, hat⟩ := R.head em
    obtain ⟨dx, pa, g1, g2, g3, g4⟩ := id L
    have hr1 := hr.mono (by decide : 1 ≤ 3)
    have hr2 := hr.mono (by decide : 2 ≤ 3)
    obtain ⟨tt, ptt, htt⟩ := tail_comment (P := P) (w := w) (base := base) (f := f) (cdv := cdv) (A := A) (outer := outer) (s := s) (H0 := H) (E := E) T c GP hr
    refine ⟨_, pss_cons (ps_set (i := 2) scComment.nd rfl (Or.inl rfl) (pe_ix ix_list (pe_fld (pv 0) rfl) (pe_un un_neg pe_int) (fun _ _ => rfl)))
      (pss_cons (ps_set (i := 3) scComment.nd rfl (Or.inl rfl) (pe_fld (pv 0) rfl))
      (pss_cons (ps_while (ownW own_cx) (pt_val (pe_fn G1 hr1 (passW own_cx) (pa_cons (pe_ix ix_list (pe_fld (pv 0) rfl) (pe_fld (pv 0) rfl) (fun _ _ => rfl)) pa_nil)))
        (pss_one (ps_fldaug (pv 0) pe_int in_add)))
      (pss_cons (ps_if (pt_cmpR op_notIn_seq (pe_ix ix_list (pe_fld (pv 0) rfl) (pe_fld (pv 0) rfl) (fun _ _ => rfl)) (pe_tup (pa_cons (pe_gi T.lineEnd) (pa_cons (pe_gi T.noByte) pa_nil))) (by with_unfolding_all rfl)) (pss_one (ps_rs GW own_cx rfl hr2 (pa_cons (pe_fld (pv 0) rfl) pa_nil))) pss_nil)
      (pss_cons (ps_set (i := 4) scComment.nd rfl (Or.inl rfl) (pe_fld (pv 0) rfl))
      (pss_cons (ps_while (ownW own_cx) (pt_cmpR op_eq (pe_ix ix_list (pe_fld (pv 0) rfl) (pe_op op_sub (pv 4) pe_int) (fun _ _ => rfl)) (pe_gi T.blank) (nomark _))
        (pss_one (ps_aug (i := 4) scComment.nd rfl (Or.inl rfl) pe_int ip_sub)))
      ptt))))), ?_⟩
    refine ⟨_, rfl, A'.r, N.cR, A'.dr, _, _, rfl, R.r, c.r, c.rn _ (by simp), rfl, _, rfl, A'.la, _, _, _, rfl, rfl, SqL.of R.levels, hat, ?_⟩
    refine ⟨_, rfl, A'.r, N.cR, A'.dr, _, _, rfl, R.r, c.r, c.rn _ (by simp), rfl, ?_⟩
    -- while is_printed(self.text[self.place])
    refine while_in (fun σ H' => ∃ p : Nat, σ = [some (.ref A'.r), some (.bl le), some (.ref l), some (.int m.place), none, none, none] ∧ Rep K N H' A' t { m with place := p } ∧ m.place ≤ p ∧ Kp [A'.r] H H' ∧ Mir.comP t p = Mir.comP t m.place)
      (fun σ H' => match H' A'.r with | some (.ins _ _ [_, (_, .int i), _, _]) => t.length - i.toNat | _ => 0) ⟨m.place, rfl, R, Nat.le_refl _, Kp.refl, rfl⟩ ?_
    rintro σ H0 ⟨p, rfl, R0, hle, k0, e0⟩
    refine ⟨_, rfl, A'.r, N.cR, A'.dr, _, _, rfl, R0.r, c.r, c.rn _ (by simp), rfl, _, rfl, A'.r, N.cR, A'.dr, _, _, rfl, R0.r, c.r, c.rn _ (by simp), rfl, A'.ta, _, _, _, rfl, rfl, R0.text, atI_nat (tx_at R0.place), Mir.at_ t p, rfl, _, rfl, ite2 (fun h => ?_) fun h => ?_⟩
    · obtain ⟨hpl, ec⟩ := comP_go h
      refine ⟨fun σ' H' => (∃ p : Nat, σ' = [some (.ref A'.r), some (.bl le), some (.ref l), some (.int m.place), none, none, none] ∧ Rep K N H' A' t { m with place := p } ∧ m.place ≤ p ∧ Kp [A'.r] H H' ∧ Mir.comP t p = Mir.comP t m.place) ∧ (match H' A'.r with | some (.ins _ _ [_, (_, .int i), _, _]) => t.length - i.toNat | _ => 0) < t.length - p, fun σ' H' z => ⟨_, by rw [R0.r]; exact z.2, rfl, z.1⟩, ?_⟩
      refine ⟨_, rfl, A'.r, N.cR, A'.dr, _, _, rfl, R0.r, c.r, c.rn _ (by simp), rfl, _, _, rfl, rfl, A'.dr, _, R0.r, few rfl, ⟨p + 1, rfl, R0.put c (p := p + 1) (by simp only; omega) (by omega), by omega, k0.trans (Kp.upd (by simp)), ec.trans e0⟩, ?_⟩
      rw [upd_same]
      show t.length - ((p : Int) + 1).toNat < t.length - p
      omega
    have est := comP_stop h R.byt
    rw [e0] at est
    have hgt : m.place < p := by
      rcases Nat.lt_or_eq_of_le hle with z | z
      · exact z
      · rw [← z, h35] at h
        exact absurd (by decide) h
    have cl : m.place + 1 ≤ p ∧ p ≤ t.length := ⟨hgt, R0.place⟩
    unfold Mir.readComment at q
    -- if self.text[self.place] not in (LINE_END, NO_BYTE)
    refine ⟨_, rfl, A'.r, N.cR, A'.dr, _, _, rfl, R0.r, c.r, c.rn _ (by simp), rfl, _, rfl, A'.r, N.cR, A'.dr, _, _, rfl, R0.r, c.r, c.rn _ (by simp), rfl, A'.ta, _, _, _, rfl, rfl, R0.text, atI_nat (tx_at R0.place), (by show 2 ≤ sizeLine; decide), fun tp htp => ⟨tp, _, rfl, .inr (SqT.of upd_same), rfl, rfl, _, rfl, ite2 (fun h2 => ?_) fun h2 => ?_⟩⟩
    · have hne : ¬ (Mir.at_ t p = 10 ∨ Mir.at_ t p = 256) := fun z => by
        rcases z with z | z <;> (rw [z] at h2; exact absurd h2 (by decide))
      rw [if_neg hne] at est
      rw [est] at q
      have Rx := R0.same c (same_new (o := .tup [.int 10, .int 256]) htp)
      exact ⟨_, rfl, A'.r, N.cR, A'.dr, _, _, rfl, Rx.r, c.r, c.rn _ (by simp), rfl, _, rfl, Errs.rd (q := p) q Rx.stay (Nat.le_trans R0.place (Nat.le_trans R.short (by decide)))⟩
    have hor : Mir.at_ t p = 10 ∨ Mir.at_ t p = 256 := by
      have z : inV (vi (Mir.at_ t p)) [.int 10, .int 256] = true := by simpa using h2
      have z : (((10 : Int) == (Mir.at_ t p : Int)) || (((256 : Int) == (Mir.at_ t p : Int)) || false)) = true := z
      simp only [Bool.or_eq_true, beq_iff_eq, Bool.or_false] at z
      omega
    rw [if_pos hor] at est
    rw [est] at q
    simp only at q
    have Rx := R0.same c (same_new (o := .tup [.int 10, .int 256]) htp)
    -- end = self.place
    refine ⟨_, rfl, A'.r, N.cR, A'.dr, _, _, rfl, Rx.r, c.r, c.rn _ (by simp), rfl, ?_⟩
    generalize hH1 : upd H0 tp (.tup [.int 10, .int 256]) = H1 at Rx
    -- while self.text[end - 1] == BLANK
    refine while_in (fun σ H' => ∃ e : Nat, σ = [some (.ref A'.r), some (.bl le), some (.ref l), some (.int m.place), some (.int e), none, none] ∧ H' = H1 ∧ m.place + 1 ≤ e ∧ e ≤ p ∧ Sg51.trimmed (Mir.slice t m.place e) = Sg51.trimmed (Mir.slice t m.place p))
      (fun σ H' => match σ with | [_, _, _, _, some (.int i), _, _] => i.toNat | _ => 0) ⟨p, rfl, rfl, cl.1, Nat.le_refl _, rfl⟩ ?_
    rintro σ H1' ⟨e, rfl, rfl, he1, he2, et⟩
    obtain ⟨e', rfl⟩ : ∃ e', e = e' + 1 := ⟨e - 1, by omega⟩
    have tl := slice_last (t := t) (b := m.place) (e := e') (by omega) (by omega)
    refine ⟨_, rfl, A'.r, N.cR, A'.dr, _, _, rfl, Rx.r, c.r, c.rn _ (by simp), rfl, _, rfl, _, _, rfl, rfl, A'.ta, _, _, _, rfl, rfl, Rx.text, at_of (j := e') (by omega) (tx_at (by omega)), rfl, _, rfl, ite2 (fun h3 => ?_) fun h3 => ?_⟩
    · have h32 : Mir.at_ t e' = 32 := by
        have z : V.int (Mir.at_ t e') = V.int 32 := of_decide_eq_true h3
        injection z with z
        omega
      have hne : e' ≠ m.place := fun z => by rw [z, h35] at h32; cases h32
      refine ⟨fun σ' H' => (∃ e : Nat, σ' = [some (.ref A'.r), some (.bl le), some (.ref l), some (.int m.place), some (.int e), none, none] ∧ H' = H1' ∧ m.place + 1 ≤ e ∧ e ≤ p ∧ Sg51.trimmed (Mir.slice t m.place e) = Sg51.trimmed (Mir.slice t m.place p)) ∧ (match σ' with | [_, _, _, _, some (.int i), _, _] => i.toNat | _ => 0) < e' + 1, fun σ' H' z => ⟨_, z.2, rfl, z.1⟩, _, rfl, _, _, rfl, rfl, ⟨e', ?_, rfl, by omega, by omega, ?_⟩, ?_⟩
      · show [some (V.ref A'.r), some (.bl le), some (.ref l), some (.int m.place), some (V.int (((e' + 1 : Nat) : Int) - 1)), none, none] = _
        have z : (((e' + 1 : Nat) : Int) - 1) = (e' : Int) := by omega
        rw [z]
      · rw [← et, tl, trim_snoc, if_pos h32]
      · show (((e' + 1 : Nat) : Int) - 1).toNat < e' + 1
        omega
    · have h32 : ¬ Mir.at_ t e' = 32 := fun z => by
        rw [z] at h3
        exact absurd h3 (by decide)
      have etr : Sg51.trimmed (Mir.slice t m.place p) = Mir.slice t m.place (e' + 1) := by rw [← et, tl, trim_snoc, if_neg h32]
      exact htt _ _ A' t m lv up le l sa pa ls ss p e' Rx em el es g2 g3 R.few cl he1 he2 etr fun σ' H' A2 e R' => q H' A2 e R'
end
end Prg
set_option linter.all false
set_option maxRecDepth 100000
set_option maxHeartbeats 4000000
namespace Prg
open PySem PySem.Spec PyProof.Rows L2
section
variable {P : Program} {w : World} {K : PySem.W.Frag} {mg : Str → Option Value} {base : Heap} {N : Nm}
noncomputable abbrev MKey (P : Program) (w : World) (K : PySem.W.Frag) (mg : Str → Option Value) (base : Heap) (N : Nm) : Prop := GMt P w K mg base N.cR "read_key" 5 ["self", "seen"] (spKey K N)
noncomputable abbrev MOpening (P : Program) (w : World) (K : PySem.W.Frag) (mg : Str → Option Value) (base : Heap) (N : Nm) : Prop := GMt P w K mg base N.cR "read_opening" 4 ["self", "key", "byte"] (spOpening K N)
theorem Lvls.added {mg : Str → Option Value} (c : Cs K mg N) {H H2 : Hp} {B as ls ss : List Addr} {obs : List Mir.Pc} {l sa dl pa ma : Addr} {lv : Mir.Lv} {up : List Mir.Lv} {mi : Nat} (LT : Lvls N H as (l :: ls) (sa :: ss) (lv :: up)) (PP : Pcs N.cP B H as obs)
    (h1 : H l = some (.ins N.cL dl (lf pa lv.closer (stS lv.st) sa (lastV as lv.last)))) (hpi : as[lv.pi]? = some pa) (h4 : H sa = some (.dT (seenKvs lv.seen))) (hmi : as[mi]? = some ma) (h2 : H2 l = some (.ins N.cL dl (lf pa lv.closer "filled" sa (.ref ma)))) (k2 : Kp (l :: as) H H2) :
    Lvls N H2 as (l :: ls) (sa :: ss) ({ lv with last := some mi, st := .filled } :: up) := by
  have n2 : ∀ (bb : Addr) (o : HO), H bb = some o → (∀ dx fs, o ≠ .ins N.cP dx fs) → bb ≠ l → H2 bb = some o := fun bb o e n nl2 => k2 bb o e fun z => by
    rcases List.mem_cons.mp z with y | y
    · exact nl2 y
    · obtain ⟨dd, ff, y⟩ := PP.mem y
      rw [e] at y; exact n _ _ (Option.some.inj y)
  refine ⟨LT.nd, LT.snd, LT.len, LT.slen, fun i x e => ?_⟩
  cases i with
  | zero =>
    cases e
    refine ⟨l, sa, rfl, rfl, dl, pa, ?_, hpi, fun j ej => ?_, n2 _ _ h4 (fun dd ff z => by cases z) (ne_of h4 h1 (by intro z; cases z))⟩
    · rw [h2]
      show _ = some (HO.ins N.cL dl (lf pa lv.closer "filled" sa (lastV as (some mi))))
      rw [lastV_some hmi]
    · cases ej
      exact (List.getElem?_eq_some_iff.mp hmi).1
  | succ i =>
    obtain ⟨l', sa', e1, e2, dx', pa', g1x, g2x, g3x, g4x⟩ := LT.at_ (i + 1) x e
    have nl2 : l' ≠ l := fun z => absurd (nd_ix LT.nd e1 (j := 0) (by rw [z]; rfl)) (by omega)
    refine ⟨l', sa', e1, e2, dx', pa', n2 _ _ g1x (fun dd ff z => by injection z with z _ _; exact c.pl z.symm) nl2, g2x, g3x, n2 _ _ g4x (fun dd ff z => by cases z) (fun z => by rw [z, h1] at g4x; cases g4x)⟩
inductive SpMemberP (K : PySem.W.Frag) (N : Nm) (vs : List V) (H : Hp) (Q : VK) (E : XK) : Prop
  | mk : ∀ (A : Ad) (t : List Nat) (m : Mir.M) (lv : Mir.Lv) (up : List Mir.Lv), vs = [.ref A.r] → Rep K N H A t m → m.lvs = lv :: up → Ret K N t E Q A.r (Mir.readMember t m lv up) → SpMemberP K N vs H Q E
noncomputable def spMember (K : PySem.W.Frag) (N : Nm) : Sp := SpMemberP K N
theorem scMember : FnScope ["self", "level", "key", "byte", "piece"] ["self"] (defScope sMember) := ⟨rfl, rfl, rfl, by decide +kernel, rfl, by decide +kernel, by decide +kernel⟩
theorem ok_member {f : Addr} {fd : FuncData} (F : Fun K "read_member" "Reader.read_member" sMember f fd) (T : Txt K mg) (c : Cs K mg N) (GC : FClosers P w K mg) (GP : KPiece P w K mg base N) (GA : MAdd P w K mg base N) (GK : MKey P w K mg base N) (GO : MOpening P w K mg base N) (GPl : MPlain P w K mg base N) (GW : FX P w K mg base N.cW) :
    FnOk P w K mg base (CXw P w) 6 f fd ["self"] (spMember K N) := by
  refine F.okW scMember (fun vs H Q E h => ?_) (fun cdv A outer s H vs Q E X eX O hr h => ?_)
  · obtain ⟨A, t, m, lv, up, rfl, _⟩ := h
    rfl
  · obtain ⟨A', t, m, lv, up, rfl, R, em, q⟩ := h
    obtain ⟨ca, hca, DC⟩ := GC
    obtain ⟨l, ls, sa, ss, el, es, L, hat⟩ := R.head em
    obtain ⟨dx, pa, g1, g2, g3, g4⟩ := id L
    have hr1 := hr.mono (by decide : 1 ≤ 5)
    have hr2 := hr.mono (by decide : 2 ≤ 5)
    have hr3 := hr.mono (by decide : 3 ≤ 5)
    have hr4 := hr.mono (by decide : 4 ≤ 5)
    have hpl : m.place ≤ 65536 := Nat.le_trans R.place (Nat.le_trans R.short (by decide))
    refine ⟨_, pss_cons (ps_set (i := 1) scMember.nd rfl (Or.inl rfl) (pe_ix ix_list (pe_fld (pv 0) rfl) (pe_un un_neg pe_int) (fun _ _ => rfl)))
      (pss_cons (ps_if (pt_cmpR op_ne (pe_fld (pv 1) rfl) (pe_gs T.ready) (nomark _)) (pss_one (ps_rs GW own_cx rfl hr2 (pa_cons (pe_fld (pv 0) rfl) pa_nil))) pss_nil)
      (pss_cons (ps_set (i := 2) scMember.nd rfl (Or.inl rfl) (pe_ifExp (pt_cmpR op_eq (pe_fld (pv 1) rfl) (pe_gi T.mapEnd) (nomark _)) (pe_mt GK hr (passW own_cx) (pv 0) (pa_cons (pe_fld (pv 1) rfl) pa_nil)) (pe_lst pa_nil)))
      (pss_cons (ps_set (i := 3) scMember.nd rfl (Or.inl rfl) (pe_ix ix_list (pe_fld (pv 0) rfl) (pe_fld (pv 0) rfl) (fun _ _ => rfl)))
      (pss_one (ps_if (pt_cmp (pc_kin DC hca (pv 3)))
        (pss_one (ps_expr (pe_mt GO hr4 (passW own_cx) (pv 0) (pa_cons (pv 2) (pa_cons (pv 3) pa_nil)))))
        (pss_cons (ps_set (i := 4) scMember.nd rfl (Or.inl rfl) (pe_mk GP hr3 (passW own_cx) (pa_cons (pe_gs T.kPlain) (pa_cons (pv 2) (pa_cons (pe_mt0 GPl hr4 (passW own_cx) (pv 0)) pa_nil)))))
        (pss_cons (ps_expr (pe_mt GA hr1 (passW own_cx) (pv 1) (pa_cons (pv 4) pa_nil)))
        (pss_one (ps_expr (pe_bm PySem.F.plainAttrs_list PySem.F.slot_list_append PySem.F.type_list_append mt_append (pe_fld (pv 0) rfl) (pa_cons (pv 4) pa_nil))))))))))), ?_⟩
    refine ⟨_, rfl, A'.r, N.cR, A'.dr, _, _, rfl, R.r, c.r, c.rn _ (by simp), rfl, _, rfl, A'.la, _, _, _, rfl, rfl, SqL.of R.levels, hat, ?_⟩
    refine ⟨_, rfl, l, N.cL, dx, _, _, rfl, g1, c.l, c.ln _ (by simp), rfl, rfl, _, rfl, ite2 (fun h => ?_) fun h => ?_⟩
    · have hf : lv.st ≠ .ready := fun z => by
        rw [z] at h
        exact absurd h (by decide +kernel)
      unfold Mir.readMember at q
      rw [if_pos hf] at q
      exact ⟨_, rfl, A'.r, N.cR, A'.dr, _, _, rfl, R.r, c.r, c.rn _ (by simp), rfl, _, rfl, Errs.rd (q := m.place) q R.stay hpl⟩
    · have hf : lv.st = .ready := by
        cases z : lv.st with
        | ready => rfl
        | filled => rw [z] at h; exact absurd (by decide +kernel) h
        | closed => rw [z] at h; exact absurd (by decide +kernel) h
      unfold Mir.readMember at q
      rw [if_neg (fun z => z hf)] at q
      dsimp only [gName, tNext]
      refine seq_via (t := tAsg _ _) (fun σ' H1 => ∃ (ka : Addr) (k : List Nat) (u : Nat) (lv' : Mir.Lv), σ' = [some (.ref A'.r), some (.ref l), some (.ref ka), none, none] ∧ Rep K N H1 A' t { m with place := u, lvs := lv' :: up } ∧ m.place ≤ u ∧ H1 ka = some (.lst (k.map vi)) ∧ ka ∉ [A'.pa, A'.la] ∧ k.length ≤ 20000 ∧ lv'.pi = lv.pi ∧
        match Mir.readValue t m.obs k u lv' up with
          | .error e => Errs E N.cW N.tb e
          | .ok m' => ∀ H' A2, A2.r = A'.r → Rep K N H' A2 t m' → Q .non H') ?_ fun rest => ?_
      · rintro σ' H1 ⟨ka, k, u, lv', rfl, R1, hmu, hka, nka, lk, epi, q1⟩
        -- byte = byte_at(self.text, self.place)
        refine ⟨_, rfl, A'.r, N.cR, A'.dr, _, _, rfl, R1.r, c.r, c.rn _ (by simp), rfl, _, rfl, A'.r, N.cR, A'.dr, _, _, rfl, R1.r, c.r, c.rn _ (by simp), rfl, A'.ta, _, _, _, rfl, rfl, R1.text, atI_nat (tx_at R1.place), ?_⟩
        have ein : ∀ n : Nat, (valV closersKvs (Sum.inl (n : Int))).isSome = (decide (n = 91) || decide (n = 123)) := fun n => by
          by_cases z1 : n = 91
          · subst z1; rfl
          · by_cases z2 : n = 123
            · subst z2; rfl
            · have e : (closersKvs.any fun kv => decide (kv.1 = (Sum.inl (n : Int) : Key))) = false := by
                rw [List.any_eq_false]
                intro p hp
                have hp : p = (Sum.inl 91, V.int 93) ∨ p = (Sum.inl 123, V.int 125) := by simpa [closersKvs] using hp
                rcases hp with rfl | rfl
                · intro w
                  have w : (Sum.inl 91 : Key) = Sum.inl (n : Int) := of_decide_eq_true w
                  injection w with w
                  omega
                · intro w
                  have w : (Sum.inl 123 : Key) = Sum.inl (n : Int) := of_decide_eq_true w
                  injection w with w
                  omega
              rw [← valV_any, e]
              simp [z1, z2]
        refine ⟨_, rfl, Sum.inl (Mir.at_ t u : Int), rfl, _, rfl, ?_⟩
        rw [ein]
        refine ite2 (fun hb => ?_) fun hb => ?_
        · have hb : Mir.at_ t u = 91 ∨ Mir.at_ t u = 123 := by simpa using hb
          have hu : u < t.length := by
            by_cases hu : u < t.length
            · exact hu
            · rw [Mir.at_end (by omega)] at hb; rcases hb with z | z <;> cases z
          refine ⟨_, rfl, A'.r, A'.dr, _, rfl, R1.r, rfl, _, rfl, _, rfl, ?_⟩
          refine ⟨A', t, { m with place := u, lvs := lv' :: up }, ka, k, Mir.at_ t u, rfl, R1, List.cons_ne_nil _ _, hu, hka, nka, lk, hb, ?_⟩
          unfold Mir.readValue at q1
          rw [if_pos hb] at q1
          unfold openM
          by_cases hd : 40 < up.length + 1
          · rw [if_pos hd] at q1
            rw [if_pos (show 40 < (lv' :: up).length from hd)]
            exact q1
          · rw [if_neg hd] at q1
            rw [if_neg (show ¬ 40 < (lv' :: up).length from hd)]
            exact q1
        · have hb : ¬ (Mir.at_ t u = 91 ∨ Mir.at_ t u = 123) := by simpa using hb
          unfold Mir.readValue at q1
          rw [if_neg hb] at q1
          have pl := Mir.plainP_le (t := t) (p := u) R1.place
          refine ⟨_, rfl, _, rfl, A'.r, A'.dr, _, rfl, R1.r, rfl, A', t, _, rfl, R1, ?_⟩
          simp only
          cases hpp : Mir.plainP t u with
          | error e => rw [hpp] at q1; exact q1
          | ok v =>
            rw [hpp] at q1 pl
            simp only at q1 pl
            intro H2 oa R2 hoa0 hoa k2
            have nkr : ka ≠ A'.r := fun z => by rw [z, R1.r] at hka; cases hka
            have hka2 := k2 _ _ hka (by simpa using nkr)
            have lsl : (Mir.slice t u v).length ≤ 20000 := by
              unfold Mir.slice
              rw [List.length_take, List.length_drop]
              have := R.short
              omega
            refine made_piece (N := N) (k := "plain") (key := k) (own := Mir.slice t u v) hka2 hoa lk lsl fun x H3 hx s3 ⟨dx3, hx3⟩ => ?_
            obtain ⟨f1, f2, f3, f4, f5, f6⟩ := R2.fresh hx
            have noB : oa ∉ [A'.pa, A'.la] := fun z => by
              have z : oa = A'.pa ∨ oa = A'.la := by simpa using z
              rcases z with z | z
              · have := R1.pieces
                rw [← z, hoa0] at this; cases this
              · have := R1.levels
                rw [← z, hoa0] at this; cases this
            have R3 := R2.same c s3
            have PA3 : PieceAt N.cP [A'.pa, A'.la] H3 x (Mir.mk .plain k (Mir.slice t u v)) := ⟨dx3, ka, oa, hx3, s3 _ _ hka2, s3 _ _ hoa, nka, noB⟩
            have P3 := R3.pcs.snoc PA3 f1
            have L3 := R3.lvs.snoc x
            simp only at L3
            rw [el, es] at L3
            obtain ⟨l0, sa0, y1, y2, d3, pa3, z1, z2, z3, z4⟩ := L3.at_ 0 lv' rfl
            cases y1
            cases y2
            have hxi : (A'.as ++ [x])[m.obs.length]? = some x := by
              have := R.pcs.len
              rw [← this, List.getElem?_append_right (Nat.le_refl _), Nat.sub_self]
              rfl
            -- level.add(piece)
            refine ⟨_, rfl, l, d3, _, rfl, z1, rfl, _, rfl, ?_⟩
            refine ⟨l, d3, pa3, x, sa, lv'.closer, stS lv'.st, [A'.pa, A'.la], A'.as ++ [x], m.obs ++ [Mir.mk .plain k (Mir.slice t u v)], lv'.pi, m.obs.length, lv'.last, rfl, z1, z2, hxi, z3, P3, fun H4 h4 P4 k4 => ?_⟩
            have n4' : ∀ (bb : Addr) (o : HO), H3 bb = some o → (∀ dx fs, o ≠ .ins N.cP dx fs) → bb ≠ l → H4 bb = some o := fun bb o e n nl2 => k4 bb o e fun z => by
              rcases List.mem_cons.mp z with y | y
              · exact nl2 y
              · obtain ⟨dd, ff, y⟩ := P3.mem y
                rw [e] at y; exact n _ _ (Option.some.inj y)
            have L4 := L3.added c P3 z1 z2 z4 hxi h4 k4
            have hr4' : H4 A'.r = some (.ins N.cR A'.dr (rf A'.ta v A'.pa A'.la)) := n4' _ _ R3.r (fun dd ff z => by injection z with z _ _; exact c.pr z.symm) (fun z => by
              have := R3.r
              rw [z, z1] at this; injection this with this; injection this with this _ _; exact c.lr this)
            have hpa4 : H4 A'.pa = some (.lst (A'.as.tail.map V.ref)) := n4' _ _ R3.pieces (fun dd ff z => by cases z) (fun z => by
              have := R3.pieces
              rw [z, z1] at this; cases this)
            have hla4 : H4 A'.la = some (.lst (A'.ls.reverse.map V.ref)) := n4' _ _ R3.levels (fun dd ff z => by cases z) (fun z => by
              have := R3.levels
              rw [z, z1] at this; cases this)
            -- self.pieces.append(piece)
            refine ⟨_, rfl, A'.r, N.cR, A'.dr, _, _, rfl, hr4', c.r, c.rn _ (by simp), rfl, isL hpa4, _, rfl, A'.pa, _, _, rfl, rfl, hpa4, ?_, ?_⟩
            · rw [List.length_map, List.length_tail, R.pcs.len, sizeLine_eq]
              have := R.few
              have := R.short
              have := R.place
              omega
            have nrp : A'.r ≠ A'.pa := ne_of hr4' hpa4 (by intro z; cases z)
            have k5 : Kp [A'.pa] H4 (upd H4 A'.pa (.lst (A'.as.tail.map V.ref ++ [.ref x]))) := Kp.upd (by simp)
            have P5 := P4.kp k5 fun b z => by
              have z : b = A'.pa := by simpa using z
              rw [z, hpa4]
              exact ⟨fun dd ff z => (by cases z), .inl (by simp)⟩
            have L5 := L4.kp k5 fun b z => by
              have z : b = A'.pa := by simpa using z
              rw [z, hpa4]
              exact ⟨fun dd ff z => (by cases z), fun kvs z => (by cases z)⟩
            refine q1 _ { A' with as := A'.as ++ [x] } rfl ⟨?_, ?_, R.sep, R.short, R.byt, pl.2, ?_, ?_, R.ne, P5, ?_, ?_, R1.deep, fun y hy => ?_, stay_kp (stay_kp R3.stay c.st k4 fun b' z => ?_) c.st k5 fun b' z => ?_⟩
            · rw [upd_ne nrp]; exact hr4'
            · rcases R.sep with sp | sp
              rotate_left
              · exact .inr sp
              rcases R3.text with (h | ⟨o, h⟩) | h
              · refine .inl (.inl ?_)
                rw [upd_ne sp.1]
                exact n4' _ _ h (fun dd ff z => by cases z) (fun z => by rw [z, z1] at h; cases h)
              · refine .inl (.inr ⟨o, ?_⟩)
                rw [upd_ne sp.1]
                exact n4' _ _ h (fun dd ff z => by cases z) (fun z => by rw [z, z1] at h; cases h)
              · exact .inr h
            · show _ = some (HO.lst ((A'.as ++ [x]).tail.map V.ref))
              rw [upd_same, tail_app (R.asne (by rw [em]; exact List.cons_ne_nil _ _)), List.map_append]
              rfl
            · rw [upd_ne (Ne.symm R.ne)]; exact hla4
            · simp only
              rw [el, es]
              exact L5
            · have := R.few
              simp only [addO_len, List.length_append, List.length_cons, List.length_nil]
              omega
            · have hs : y.seen.length ≤ u := by
                rcases List.mem_cons.mp hy with e | e
                · rw [e]; exact R1.sfew lv' (by simp)
                · exact R1.sfew y (by simp [e])
              simp only
              omega
            · rcases List.mem_cons.mp z with y | y
              · exact ⟨_, by rw [y]; exact z1, rfl⟩
              · obtain ⟨dd, ff, y⟩ := P3.mem y
                exact ⟨_, y, rfl⟩
            · have z : b' = A'.pa := by simpa using z
              exact ⟨_, by rw [z]; exact hpa4, rfl⟩
      · refine ⟨_, rfl, l, N.cL, dx, _, _, rfl, g1, c.l, c.ln _ (by simp), rfl, rfl, _, rfl, ite2 (fun h2 => ?_) fun h2 => ?_⟩
        · have hm : lv.closer = 125 := by
            have z : V.int (lv.closer : Int) = V.int 125 := of_decide_eq_true h2
            injection z with z
            omega
          refine ⟨_, rfl, A'.r, A'.dr, _, rfl, R.r, rfl, _, rfl, l, N.cL, dx, _, _, rfl, g1, c.l, c.ln _ (by simp), rfl, ?_⟩
          refine ⟨A', t, m, lv, up, l, sa, ls, ss, rfl, R, em, el, es, ?_⟩
          unfold Mir.readKey at q
          rw [if_pos hm] at q
          have kl := Mir.keyP_le (t := t) (p := m.place) R.place lv.seen
          cases hk : Mir.keyP t m.place lv.seen with
          | error e => rw [hk] at q; exact q
          | ok kq =>
            obtain ⟨k, u⟩ := kq
            rw [hk] at q kl
            simp only at q kl ⊢
            intro H1 p R1 hp0 hp1 lk
            obtain ⟨_, _, _, _, p5, p6⟩ := R.fresh hp0
            refine rest _ _ ⟨p, k, u, _, rfl, R1, Nat.le_of_lt kl.1, hp1, by simp [p5, p6], lk, rfl, q⟩
        · have hm : ¬ lv.closer = 125 := fun z => by
            rw [z] at h2
            exact h2 (decide_eq_true rfl)
          unfold Mir.readKey at q
          rw [if_neg hm] at q
          simp only at q
          refine ⟨Nat.zero_le _, fun k0 hk0 => ?_⟩
          have s0 : Same H (upd H k0 (.lst [])) := same_new hk0
          have R0 := R.same c s0
          obtain ⟨_, _, _, n4, n5, n6⟩ := R.fresh hk0
          have R0' : Rep K N (upd H k0 (.lst [])) A' t { m with place := m.place, lvs := lv :: up } := by
            have z : ({ m with place := m.place, lvs := lv :: up } : Mir.M) = m := by rw [← em]
            rw [z]; exact R0
          exact rest _ _ ⟨k0, [], m.place, lv, rfl, R0', Nat.le_refl _, upd_same, by simp [n5, n6], by simp, rfl, q⟩
end
end Prg
set_option linter.all false
set_option maxRecDepth 100000
set_option maxHeartbeats 4000000
namespace Prg
open PySem PySem.Spec PyProof.Rows L2
section
variable {P : Program} {w : World} {K : PySem.W.Frag} {mg : Str → Option Value} {base : Heap} {N : Nm}
noncomputable abbrev MComment (P : Program) (w : World) (K : PySem.W.Frag) (mg : Str → Option Value) (base : Heap) (N : Nm) : Prop := GMt P w K mg base N.cR "read_comment" 4 ["self", "line_ended"] (spComment K N)
noncomputable abbrev MComma (P : Program) (w : World) (K : PySem.W.Frag) (mg : Str → Option Value) (base : Heap) (N : Nm) : Prop := GMt P w K mg base N.cR "read_comma" 3 ["self"] (spComma K N)
noncomputable abbrev MClosing (P : Program) (w : World) (K : PySem.W.Frag) (mg : Str → Option Value) (base : Heap) (N : Nm) : Prop := GMt P w K mg base N.cR "read_closing" 4 ["self", "byte"] (spClosing K N)
noncomputable abbrev MMember (P : Program) (w : World) (K : PySem.W.Frag) (mg : Str → Option Value) (base : Heap) (N : Nm) : Prop := GMt P w K mg base N.cR "read_member" 6 ["self"] (spMember K N)
inductive SpNextP (K : PySem.W.Frag) (N : Nm) (vs : List V) (H : Hp) (Q : VK) (E : XK) : Prop
  | mk : ∀ (A : Ad) (t : List Nat) (m : Mir.M) (lv : Mir.Lv) (up : List Mir.Lv) (le : Bool), vs = [.ref A.r, .bl le] → Rep K N H A t m → m.lvs = lv :: up → m.place < t.length → (∀ c, c = 93 ∨ c = 125 → c = lv.closer → up ≠ []) → Ret K N t E Q A.r (Mir.readNext t m le) → SpNextP K N vs H Q E
noncomputable def spNext (K : PySem.W.Frag) (N : Nm) : Sp := SpNextP K N
theorem scNext : FnScope ["self", "line_ended", "byte"] ["self", "line_ended"] (defScope sNext) := ⟨rfl, rfl, rfl, by decide +kernel, rfl, by decide +kernel, by decide +kernel⟩
theorem ok_next {f : Addr} {fd : FuncData} (F : Fun K "read_next" "Reader.read_next" sNext f fd) (T : Txt K mg) (c : Cs K mg N) (G1 : MComment P w K mg base N) (G2 : MComma P w K mg base N) (G3 : MClosing P w K mg base N) (G4 : MMember P w K mg base N) : FnOk P w K mg base (CXw P w) 7 f fd ["self", "line_ended"] (spNext K N) := by
  refine F.okW scNext (fun vs H Q E h => ?_) (fun cdv A outer s H vs Q E X eX O hr h => ?_)
  · obtain ⟨A, t, m, lv, up, le, rfl, _⟩ := h
    rfl
  · obtain ⟨A', t, m, lv, up, le, rfl, R, em, hp, hcl, q⟩ := h
    have hr3 := hr.mono (by decide : 3 ≤ 6)
    have hr4 := hr.mono (by decide : 4 ≤ 6)
    refine ⟨_, pss_cons (ps_set (i := 2) scNext.nd rfl (Or.inl rfl) (pe_ix ix_list (pe_fld (pv 0) rfl) (pe_fld (pv 0) rfl) (fun _ _ => rfl)))
      (pss_one (ps_if (pt_cmpR op_eq (pv 2) (pe_gi T.hash) (nomark _)) (pss_one (ps_expr (pe_mt G1 hr4 (passW own_cx) (pv 0) (pa_cons (pv 1) pa_nil))))
        (pss_one (ps_if (pt_cmpR op_eq (pv 2) (pe_gi T.comma) (nomark _)) (pss_one (ps_expr (pe_mt0 G2 hr3 (passW own_cx) (pv 0))))
        (pss_one (ps_if (pt_cmpR op_in_seq (pv 2) (pe_tup (pa_cons (pe_gi T.rowEnd) (pa_cons (pe_gi T.mapEnd) pa_nil))) (by with_unfolding_all rfl)) (pss_one (ps_expr (pe_mt G3 hr4 (passW own_cx) (pv 0) (pa_cons (pv 2) pa_nil))))
        (pss_one (ps_expr (pe_mt0 G4 hr (passW own_cx) (pv 0)))))))))), ?_⟩
    refine ⟨_, rfl, A'.r, N.cR, A'.dr, _, _, rfl, R.r, c.r, c.rn _ (by simp), rfl, _, rfl, A'.r, N.cR, A'.dr, _, _, rfl, R.r, c.r, c.rn _ (by simp), rfl, A'.ta, _, _, _, rfl, rfl, R.text, atI_nat (tx_at R.place), ?_⟩
    have eq1 : ∀ n : Nat, (decide (vi (Mir.at_ t m.place) = V.int (n : Int)) = true) ↔ Mir.at_ t m.place = n := fun n => by
      constructor
      · intro z
        have z : V.int (Mir.at_ t m.place) = V.int (n : Int) := of_decide_eq_true z
        injection z with z
        omega
      · intro z
        rw [z]
        exact decide_eq_true rfl
    unfold Mir.readNext at q
    rw [em] at q
    simp only at q
    refine ⟨_, rfl, rfl, _, rfl, ite2 (fun h => ?_) fun h => ?_⟩
    · have h35 : Mir.at_ t m.place = 35 := (eq1 35).mp h
      rw [if_pos h35] at q
      exact ⟨_, rfl, A'.r, A'.dr, _, rfl, R.r, rfl, _, rfl, A', t, m, lv, up, le, rfl, R, em, hp, h35, q⟩
    · have h35 : ¬ Mir.at_ t m.place = 35 := fun z => h ((eq1 35).mpr z)
      rw [if_neg h35] at q
      refine ⟨_, rfl, rfl, _, rfl, ite2 (fun h => ?_) fun h => ?_⟩
      · have h44 : Mir.at_ t m.place = 44 := (eq1 44).mp h
        rw [if_pos h44] at q
        exact ⟨_, rfl, A'.r, A'.dr, _, rfl, R.r, rfl, A', t, m, lv, up, rfl, R, em, hp, q⟩
      · have h44 : ¬ Mir.at_ t m.place = 44 := fun z => h ((eq1 44).mpr z)
        rw [if_neg h44] at q
        refine ⟨_, rfl, (by show 2 ≤ sizeLine; decide), fun tp htp => ⟨tp, _, rfl, .inr (SqT.of upd_same), rfl, rfl, _, rfl, ite2 (fun h => ?_) fun h => ?_⟩⟩
        · have hb : Mir.at_ t m.place = 93 ∨ Mir.at_ t m.place = 125 := by
            have z : (((93 : Int) == (Mir.at_ t m.place : Int)) || (((125 : Int) == (Mir.at_ t m.place : Int)) || false)) = true := h
            simp only [Bool.or_eq_true, beq_iff_eq, Bool.or_false] at z
            omega
          rw [if_pos hb] at q
          have R2 := R.same c (same_new (o := .tup [.int 93, .int 125]) htp)
          exact ⟨_, rfl, A'.r, A'.dr, _, rfl, R2.r, rfl, _, rfl, A', t, m, lv, up, Mir.at_ t m.place, rfl, R2, em, hp, hcl _ hb, q⟩
        · have hb : ¬ (Mir.at_ t m.place = 93 ∨ Mir.at_ t m.place = 125) := fun z => h (by
            show (((93 : Int) == (Mir.at_ t m.place : Int)) || (((125 : Int) == (Mir.at_ t m.place : Int)) || false)) = true
            simp only [Bool.or_eq_true, beq_iff_eq, Bool.or_false]
            omega)
          rw [if_neg hb] at q
          have R2 := R.same c (same_new (o := .tup [.int 93, .int 125]) htp)
          exact ⟨_, rfl, A'.r, A'.dr, _, rfl, R2.r, rfl, A', t, m, lv, up, rfl, R2, em, q⟩
noncomputable abbrev MNext (P : Program) (w : World) (K : PySem.W.Frag) (mg : Str → Option Value) (base : Heap) (N : Nm) : Prop := GMt P w K mg base N.cR "read_next" 7 ["self", "line_ended"] (spNext K N)
inductive SpReadP (K : PySem.W.Frag) (N : Nm) (vs : List V) (H : Hp) (Q : VK) (E : XK) : Prop
  | mk : ∀ (A : Ad) (t : List Nat), vs = [.ref A.r] → Rep K N H A t Mir.start0 → (∀ e, Sg51.read t = .error e → Errs E N.cW N.tb e) → (∀ H' A' m, A'.r = A.r → Rep K N H' A' t { m with place := t.length } → Mir.Reach t m → Mir.skipP t m.place = t.length → m.lvs.length = 1 → (∃ g, Sg51.read t = .ok g) → Q (.ref A'.pa) H') → SpReadP K N vs H Q E
noncomputable def spRead (K : PySem.W.Frag) (N : Nm) : Sp := SpReadP K N
theorem scRead : FnScope ["self", "line_ended"] ["self"] (defScope sRead) := ⟨rfl, rfl, rfl, by decide +kernel, rfl, by decide +kernel, by decide +kernel⟩
theorem ok_read {f : Addr} {fd : FuncData} (F : Fun K "read" "Reader.read" sRead f fd) (T : Txt K mg) (c : Cs K mg N) (G1 : MSkip P w K mg base N) (G2 : MNext P w K mg base N) (GW : FX P w K mg base N.cW) : FnOk P w K mg base (CXw P w) 8 f fd ["self"] (spRead K N) := by
  refine F.okW scRead (fun vs H Q E h => ?_) (fun cdv A outer s H vs Q E X eX O hr h => ?_)
  · obtain ⟨A, t, rfl, _⟩ := h
    rfl
  · obtain ⟨A', t, rfl, R, qe, q⟩ := h
    have hr2 := hr.mono (by decide : 2 ≤ 7)
    have ht : t.length ≤ 65536 := Nat.le_trans R.short (by decide)
    refine ⟨_, pss_cons (ps_set (i := 1) scRead.nd rfl (Or.inl rfl) (pe_mt0 G1 hr2 (passW own_cx) (pv 0)))
      (pss_cons (ps_while (ownW own_cx) (pt_cmpR op_ne (pe_ix ix_list (pe_fld (pv 0) rfl) (pe_fld (pv 0) rfl) (fun _ _ => rfl)) (pe_gi T.noByte) (nomark _))
        (pss_cons (ps_expr (pe_mt G2 hr (passW own_cx) (pv 0) (pa_cons (pv 1) pa_nil))) (pss_one (ps_set (i := 1) scRead.nd rfl (Or.inl rfl) (pe_mt0 G1 hr2 (passW own_cx) (pv 0))))))
      (pss_cons (ps_if (pw_or (pt_cmpR op_eq (pe_fld (pe_ix ix_list (pe_fld (pv 0) rfl) pe_int (fun _ _ => rfl)) rfl) (pe_gs T.ready) (nomark _)) (pw_or1 (pt_cmpR op_gt (pe_fld (pv 0) rfl) (pe_gi T.mostBytes) (nomark _)))).pt (pss_one (ps_rs GW own_cx rfl hr2 (pa_cons (pe_fld (pv 0) rfl) pa_nil))) pss_nil)
      (pss_one (ps_ret (pe_fld (pv 0) rfl))))), ?_⟩
    refine ⟨_, rfl, A'.r, A'.dr, _, rfl, R.r, rfl, A', t, _, rfl, R, fun H1 R1 k1 => ?_⟩
    refine while_in (fun σ H' => ∃ (A1 : Ad) (m : Mir.M), σ = [some (.ref A'.r), some (.bl (Mir.skipB t m.place))] ∧ A1.r = A'.r ∧ Rep K N H' A1 t { m with place := Mir.skipP t m.place } ∧ Mir.Reach t m)
      (fun σ H' => match H' A'.r with | some (.ins _ _ [_, (_, .int i), _, _]) => t.length - i.toNat | _ => 0) ⟨A', Mir.start0, rfl, rfl, R1, .start⟩ ?_
    rintro σ H2 ⟨A1, m, rfl, eA, R2, hre⟩
    have r2 := R2.r
    rw [eA] at r2
    refine ⟨_, rfl, A'.r, N.cR, A1.dr, _, _, rfl, r2, c.r, c.rn _ (by simp), rfl, _, rfl, A'.r, N.cR, A1.dr, _, _, rfl, r2, c.r, c.rn _ (by simp), rfl, A1.ta, _, _, _, rfl, rfl, R2.text, atI_nat (tx_at R2.place), rfl, _, rfl, ite2 (fun h => ?_) fun h => ?_⟩
    · have hn : ¬ Mir.at_ t (Mir.skipP t m.place) = 256 := fun z => by
        rw [show ({ m with place := Mir.skipP t m.place } : Mir.M).place = Mir.skipP t m.place from rfl, z] at h
        exact absurd h (by decide)
      have hq : Mir.skipP t m.place < t.length := by
        by_cases hq : Mir.skipP t m.place < t.length
        · exact hq
        · exact absurd (Mir.at_end (by omega)) hn
      have rn := Mir.reach_next hre ht hq
      obtain ⟨lv, up, em, _, hcl⟩ := Mir.reach_closer hre
      refine ⟨fun σ' H' => (∃ (A1 : Ad) (m : Mir.M), σ' = [some (.ref A'.r), some (.bl (Mir.skipB t m.place))] ∧ A1.r = A'.r ∧ Rep K N H' A1 t { m with place := Mir.skipP t m.place } ∧ Mir.Reach t m) ∧ (match H' A'.r with | some (.ins _ _ [_, (_, .int i), _, _]) => t.length - i.toNat | _ => 0) < t.length - Mir.skipP t m.place,
        fun σ' H' z => ⟨_, by rw [r2]; exact z.2, rfl, z.1⟩, ?_⟩
      refine ⟨_, rfl, A'.r, A1.dr, _, rfl, r2, rfl, _, rfl, A1, t, _, lv, up, _, by rw [eA]; rfl, R2, em, hq, hcl, ?_⟩
      cases hn : Mir.readNext t { m with place := Mir.skipP t m.place } (Mir.skipB t m.place) with
      | error e =>
        rw [hn] at rn
        exact qe e rn
      | ok m' =>
        rw [hn] at rn
        intro H3 A3 e3 R3
        have e3 : A3.r = A'.r := e3.trans eA
        have r3 := R3.r
        rw [e3] at r3
        refine ⟨_, rfl, A'.r, A3.dr, _, rfl, r3, rfl, A3, t, m', by rw [e3]; rfl, R3, fun H4 R4 k4 => ⟨⟨A3, m', rfl, e3, R4, rn.1⟩, ?_⟩⟩
        have r4 := R4.r
        rw [e3] at r4
        rw [r4]
        have sl := Mir.skipP_le (t := t) (p := m'.place) rn.2.2
        have := rn.2.1
        show t.length - ((Mir.skipP t m'.place : Nat) : Int).toNat < t.length - Mir.skipP t m.place
        omega
    · have hn : Mir.at_ t (Mir.skipP t m.place) = 256 := by
        have z : decide (vi (Mir.at_ t (Mir.skipP t m.place)) = V.int 256) = true := by simpa using h
        have z : V.int (Mir.at_ t (Mir.skipP t m.place)) = V.int 256 := of_decide_eq_true z
        injection z with z
        omega
      have h : ¬ Mir.skipP t m.place < t.length := fun z => byte_lt R.byt z hn
      obtain ⟨lv, up, em, hpl, _⟩ := Mir.reach_closer hre
      have sl := Mir.skipP_le (t := t) (p := m.place) hpl
      have he : Mir.skipP t m.place = t.length := by omega
      -- the first level
      have hlen : A1.ls.length = m.lvs.length := R2.lvs.len
      have hpos : 0 < m.lvs.length := by rw [em]; exact Nat.succ_pos _
      obtain ⟨x, hx⟩ : ∃ x, m.lvs[m.lvs.length - 1]? = some x := ⟨_, List.getElem?_eq_getElem (by omega)⟩
      have hxl : m.lvs.getLast? = some x := by rw [List.getLast?_eq_getElem?]; exact hx
      obtain ⟨l, sa, e1, e2, dx, pa, z1, z2, z3, z4⟩ := R2.lvs.at_ (m.lvs.length - 1) x hx
      have hat : atI (A1.ls.reverse.map V.ref) 0 = some (.ref l) := by
        refine atI_nat (j := 0) ?_
        rw [List.getElem?_map, List.getElem?_reverse (by omega), hlen, Nat.sub_zero, e1]
        rfl
      have re := Mir.reach_end hre ht he hxl
      refine ⟨_, rfl, A'.r, N.cR, A1.dr, _, _, rfl, r2, c.r, c.rn _ (by simp), rfl, A1.la, _, _, _, rfl, rfl, SqL.of R2.levels, hat, l, N.cL, dx, _, _, rfl, z1, c.l, c.ln _ (by simp), rfl, rfl, _, rfl, ite2 (fun h => ?_) fun h => ?_⟩
      · have hf : x.st = .ready := by
          cases z : x.st with
          | ready => rfl
          | filled => rw [z] at h; exact absurd h (by decide +kernel)
          | closed => rw [z] at h; exact absurd h (by decide +kernel)
        have qq := qe _ (re.1 hf)
        refine iteT ⟨_, rfl, A'.r, N.cR, A1.dr, _, _, rfl, r2, c.r, c.rn _ (by simp), rfl, _, rfl, ?_⟩
        show ∀ dx, H2 dx = none → E (.ref N.cW) (some dx) (upd H2 dx (.xd (pl1 (.int (if (65536 : Int) < ((Mir.skipP t m.place : Nat) : Int) then 65536 else ((Mir.skipP t m.place : Nat) : Int))))))
        rw [he]
        exact Errs.rd (q := t.length) qq R2.stay ht
      · have hf : x.st ≠ .ready := fun z => by
          rw [z] at h
          exact h (by decide +kernel)
        obtain ⟨y1, y2⟩ := re.2 hf
        refine ⟨_, rfl, A'.r, N.cR, A1.dr, _, _, rfl, r2, c.r, c.rn _ (by simp), rfl, _, _, rfl, rfl, _, rfl, ite2 (fun h => ?_) fun h => ?_⟩
        · have h : (65536 : Int) < ((Mir.skipP t m.place : Nat) : Int) := of_decide_eq_true h
          omega
        · refine ⟨_, rfl, A'.r, N.cR, A1.dr, _, _, rfl, r2, c.r, c.rn _ (by simp), rfl, ?_⟩
          have R3 := R2
          rw [he] at R3
          exact q H2 A1 m eA R3 hre he y1 y2
noncomputable def rCatR : R2 := fun x y H Q => ∃ l b xs zs, x = .ref l ∧ y = .ref b ∧ Rd H l (.lst xs) ∧ Rd H b (.lst zs) ∧ xs.length + zs.length ≤ sizeLine ∧ ∀ p, H p = none → Q (.ref p) (upd H p (.lst (xs ++ zs)))
theorem op_catR {X : Cx} : OpR X (binaryOp .Add) rCatR := by
  intro pins s σ H x y v u Q I rx ry h
  obtain ⟨l, b, xs, zs, rfl, rfl, hH, hB, hz, q⟩ := h
  cases rx
  cases ry
  obtain ⟨z, its, n, r, e⟩ := hH.ok I.hok
  obtain ⟨z2, its2, n2, r2, e2⟩ := hB.ok I.hok
  have hl := r.length
  have hl2 := r2.length
  refine PySem.P.add_list e e2 ?_ (by rw [List.size_toArray, List.size_toArray]; omega)
  have ea : its.toArray ++ its2.toArray = (its ++ its2).toArray := by simp
  rw [ea]
  exact ⟨.ref _, _, I.lnew (t' := s.toks) (r.append r2) (by rw [List.length_append]; omega), rfl, q _ I.fresh⟩
theorem rd_same {H H' : Hp} {a : Addr} {u : HO} (e : Same H H') (h : Rd H a u) : Rd H' a u := by
  rcases h with h | ⟨o, h⟩
  · exact .inl (e _ _ h)
  · exact .inr ⟨o, e _ _ h⟩
inductive SpRInitP (K : PySem.W.Frag) (N : Nm) (vs : List V) (H : Hp) (Q : VK) (E_ : XK) : Prop
  | mk : ∀ (r dr ta : Addr) (t : List Nat), vs = [.ref r, .ref ta] → H r = some (.ins N.cR dr []) → Rd H ta (.lst (t.map vi)) → t.length ≤ 20000 → B8 t → (∀ g ∈ N.tb, H g.1 = some g.2) → (∀ H' A, A.r = r → A.dr = dr → Rep K N H' A t Mir.start0 → Kp [r] H H' → Q .non H') → SpRInitP K N vs H Q E_
noncomputable def spRInit (K : PySem.W.Frag) (N : Nm) : Sp := SpRInitP K N
theorem scRInit : FnScope ["self", "text"] ["self", "text"] (defScope sRInit) := ⟨rfl, rfl, rfl, by decide +kernel, rfl, by decide +kernel, by decide +kernel⟩
theorem ok_rInit {f : Addr} {fd : FuncData} (F : Fun K "__init__" "Reader.__init__" sRInit f fd) (T : Txt K mg) (c : Cs K mg N) (GP : KPiece P w K mg base N) (GL : KLevel P w K mg base N) : FnOk P w K mg base (CXw P w) 4 f fd ["self", "text"] (spRInit K N) := by
  refine F.okN scRInit (fun vs H Q E h => ?_) (fun cdv A outer s H vs Q E hr h => ?_)
  · obtain ⟨r, dr, ta, t, rfl, _⟩ := h
    rfl
  · obtain ⟨r, dr, ta0, t, rfl, hr0, hS, lt, h8, hst, q⟩ := h
    have hr2 := hr.mono (by decide : 2 ≤ 3)
    refine ⟨_, pss_cons (ps_fld (pv 0) (pe_op op_catR (pv 1) (pe_lst (pa_cons (pe_gi T.noByte) pa_nil))) rfl) (pss_cons (ps_fld (pv 0) pe_int rfl) (pss_cons (ps_fld (pv 0) (pe_lst pa_nil) rfl)
      (pss_one (ps_fld (pv 0) (pe_lst (pa_cons (pe_mk GL hr2 passN (pa_cons (pe_mk GP hr passN (pa_cons (pe_gs T.kOpening) (pa_cons (pe_lst pa_nil) (pa_cons (pe_lst pa_nil) pa_nil)))) (pa_cons (pe_gi T.noByte) pa_nil))) pa_nil)) rfl)))), ?_⟩
    refine ⟨_, rfl, (by show 1 ≤ sizeLine; decide), fun np hnp => ⟨ta0, np, _, _, rfl, rfl, rd_same (same_new hnp) hS, .inl upd_same, ?_, fun ta hta => ?_⟩⟩
    · rw [List.length_map, sizeLine_eq]
      show t.length + 1 ≤ 16777216
      omega
    have sN : Same H (upd (upd H np (.lst [.int 256])) ta (.lst (t.map vi ++ [.int 256]))) := (same_new hnp).trans (same_new hta)
    have etx : t.map vi ++ [.int 256] = tx t := by
      unfold tx
      rw [List.map_append]
      rfl
    rw [etx] at sN ⊢
    have hta1 : upd (upd H np (.lst [.int 256])) ta (.lst (tx t)) ta = some (.lst (tx t)) := upd_same
    have hr1 := sN _ _ hr0
    generalize hHN : upd (upd H np (.lst [.int 256])) ta (.lst (tx t)) = HN at sN hta1 hr1 ⊢
    have ntr : ta ≠ r := fun z => by rw [z, hr1] at hta1; cases hta1
    refine ⟨_, rfl, r, N.cR, dr, _, rfl, hr1, c.r, c.rn _ (by simp), few rfl, ?_⟩
    refine ⟨_, rfl, r, N.cR, dr, _, rfl, upd_same, c.r, c.rn _ (by simp), few rfl, ?_⟩
    refine ⟨Nat.zero_le _, fun pa hpa => ?_⟩
    have npr : r ≠ pa := fun z => by rw [← z, upd_same] at hpa; cases hpa
    have hpa0 : HN pa = none := by rw [upd_ne (Ne.symm npr), upd_ne (Ne.symm npr)] at hpa; exact hpa
    refine ⟨_, rfl, r, N.cR, dr, _, rfl, (by rw [upd_ne npr]; exact upd_same), c.r, c.rn _ (by simp), few rfl, ?_⟩
    -- the levels
    generalize hH1 : upd (upd (upd (upd HN r _) r _) pa (.lst [])) r _ = H1
    have r1 : H1 r = some (.ins N.cR dr ([("text", .ref ta), ("place", .int 0), ("pieces", .ref pa)] : FL)) := by rw [← hH1]; exact upd_same
    have pa1 : H1 pa = some (.lst []) := by rw [← hH1, upd_ne (Ne.symm npr), upd_same]
    have k1 : Kp [r] HN H1 := fun b o e n => by
      have nb : b ≠ r := by simpa using n
      rw [← hH1, upd_ne nb, upd_ne (ne_of_none e hpa0), upd_ne nb, upd_ne nb]; exact e
    refine ⟨Nat.zero_le _, fun ka hka => ⟨Nat.zero_le _, fun oa hoa => ?_⟩⟩
    have nko : ka ≠ oa := fun z => by rw [← z, upd_same] at hoa; cases hoa
    have s2 : Same H1 (upd (upd H1 ka (.lst [])) oa (.lst [])) := (same_new hka).trans (same_new hoa)
    refine made_piece (N := N) (k := "opening") (key := []) (own := []) (by rw [upd_ne nko]; exact upd_same) upd_same (by simp) (by simp) fun x H3 hx s3 ⟨dx, hx3⟩ => ?_
    refine made_level (N := N) fun l sa H4 hl hsa hls s4 ⟨dl, hl4⟩ hsa4 => ?_
    refine ⟨(by show 1 ≤ sizeLine; decide), fun la hla => ?_⟩
    have sA : Same H1 H4 := (s2.trans s3).trans s4
    have nla : ∀ b o, H4 b = some o → b ≠ la := fun b o e => ne_of_none e hla
    have r4 := sA _ _ r1
    have pa4 := sA _ _ pa1
    have x4 := s4 _ _ hx3
    have ka4 : H4 ka = some (.lst []) := s4 _ _ (s3 _ _ (by rw [upd_ne nko]; exact upd_same))
    have oa4 : H4 oa = some (.lst []) := s4 _ _ (s3 _ _ upd_same)
    have ta4 : H4 ta = some (.lst (tx t)) := sA _ _ (k1 _ _ hta1 (by simpa using ntr))
    refine ⟨_, rfl, r, N.cR, dr, _, rfl, (by rw [upd_ne (nla _ _ r4)]; exact r4), c.r, c.rn _ (by simp), few rfl, ?_⟩
    have n1 : ka ≠ pa := fun z => by rw [z, pa1] at hka; cases hka
    have n2 : oa ≠ pa := fun z => by
      have : upd H1 ka (.lst []) pa = some (.lst []) := by rw [upd_ne (Ne.symm n1)]; exact pa1
      rw [z, this] at hoa; cases hoa
    have keep : ∀ b o, H4 b = some o → b ≠ r → upd (upd H4 la (.lst [.ref l])) r (.ins N.cR dr (rf ta 0 pa la)) b = some o := fun b o e n => by rw [upd_ne n, upd_ne (nla _ _ e)]; exact e
    have nlr : la ≠ r := Ne.symm (nla _ _ r4)
    refine q _ ⟨r, dr, ta, pa, la, [x], [l], [sa]⟩ rfl rfl ⟨upd_same, .inl (.inl (keep _ _ ta4 ntr)), .inl ⟨ne_of_none hta1 hpa0, nla _ _ ta4⟩, lt, h8, Nat.zero_le _, keep _ _ pa4 (Ne.symm npr), (by show _ = some (HO.lst [V.ref l]); rw [upd_ne nlr, upd_same]), nla _ _ pa4, ?_, ?_, Nat.le_refl _, by decide, fun lv hlv => ?_, stay_kp hst c.st (S := [r]) (fun b o e n => ?_) fun b z => ?_⟩ fun b o e n => ?_
    · refine ⟨by simp, rfl, fun i pc e => ?_⟩
      cases i with
      | succ i => cases e
      | zero =>
        cases e
        refine ⟨x, rfl, dx, ka, oa, keep _ _ x4 (fun z => ?_), keep _ _ ka4 (fun z => ?_), keep _ _ oa4 (fun z => ?_), by simp [n1, nla _ _ ka4], by simp [n2, nla _ _ oa4]⟩
        · rw [z, r4] at x4; injection x4 with x4; injection x4 with x4 _ _; exact c.pr x4.symm
        · rw [z, r4] at ka4; cases ka4
        · rw [z, r4] at oa4; cases oa4
    · refine ⟨by simp, by simp, rfl, rfl, fun i lv e => ?_⟩
      cases i with
      | succ i => cases e
      | zero =>
        cases e
        refine ⟨l, sa, rfl, rfl, dl, x, keep _ _ hl4 (fun z => ?_), rfl, fun j ej => (by cases ej), keep _ _ hsa4 (fun z => ?_)⟩
        · rw [z, r4] at hl4; injection hl4 with hl4; injection hl4 with hl4 _ _; exact c.lr hl4.symm
        · rw [z, r4] at hsa4; cases hsa4
    · have z : lv = ⟨0, 256, .ready, [], none⟩ := by simpa [Mir.start0] using hlv
      rw [z]; exact Nat.le_refl _
    · have nb : b ≠ r := by simpa using n
      exact keep _ _ (sA _ _ (k1 _ _ (sN _ _ e) n)) nb
    · have z : b = r := by simpa using z
      exact ⟨_, by rw [z]; exact hr0, rfl⟩
    · have nb : b ≠ r := by simpa using n
      exact keep _ _ (sA _ _ (k1 _ _ (sN _ _ e) n)) nb
end
end Prg
set_option linter.all false
set_option maxRecDepth 100000
set_option maxHeartbeats 8000000
namespace Prg
open PySem PySem.Spec PyProof.Rows L2
noncomputable abbrev Nm.w (N : Nm) (tb : List (Addr × HO)) : Nm := ⟨N.cW, N.cP, N.cL, N.cR, N.cl, tb⟩
theorem made_reader {K : PySem.W.Frag} {N : Nm} {H1 : Hp} {ta : Addr} {t : List Nat} {Q : Addr → Hp → Prop} {E : XK} (hS : Rd H1 ta (.lst (t.map vi))) (lt : t.length ≤ 20000) (h8 : B8 t) (hst : ∀ g ∈ N.tb, H1 g.1 = some g.2) (q : ∀ H2 A, Rep K N H2 A t Mir.start0 → Q A.r H2) :
    ∀ x dx, H1 x = none → H1 dx = none → dx ≠ x → spRInit K N (.ref x :: ([.ref ta] ++ [])) (upd (upd H1 dx (.own x)) x (.ins N.cR dx [])) (fun v H2 => v = .non ∧ Q x H2) E := by
  intro x dx hx hdx hne
  have sm : Same H1 (upd (upd H1 dx (.own x)) x (.ins N.cR dx [])) := fun b o e => by rw [upd_ne (ne_of_none e hx), upd_ne (ne_of_none e hdx)]; exact e
  refine ⟨x, dx, ta, t, rfl, upd_same, rd_same sm hS, lt, h8, fun g hg => sm _ _ (hst g hg), fun H2 A eA _ R _ => ⟨rfl, ?_⟩⟩
  rw [← eA]
  exact q H2 A R
noncomputable def ansT (g : List Sg51.Node → List Nat) (t : List Nat) : List Int := match Sg51.read t with
  | .error e => [-100 - (e : Int)]
  | .ok l => ((g l).length : Int) :: (g l).map Int.ofNat
section
variable {P : Program} {w : World} {K : PySem.W.Frag} {mg : Str → Option Value} {base : Heap} {N : Nm}
noncomputable abbrev MRead (P : Program) (w : World) (K : PySem.W.Frag) (mg : Str → Option Value) (base : Heap) (N : Nm) : Prop := GMt P w K mg base N.cR "read" 8 ["self"] (spRead K N)
noncomputable abbrev KReader (P : Program) (w : World) (K : PySem.W.Frag) (mg : Str → Option Value) (base : Heap) (N : Nm) : Prop := GMk P w K mg base "Reader" N.cR 4 ["self", "text"] (spRInit K N)
structure Pieces (N : Nm) (t : List Nat) (H : Hp) (pa : Addr) (ts : List Mir.T) (a0 : Addr) (as : List Addr) (r : Mir.Pc) (B : List Addr) : Prop where
  lst : H pa = some (.lst (as.map V.ref))
  pcs : Pcs N.cP B H (a0 :: as) (r :: Mir.lins ts)
  inB : pa ∈ B
  read : Sg51.read t = .ok (Mir.nodes ts)
  ok : Mir.oks ts false
  ht : Mir.hts ts ≤ 40
  one : Mir.one ts
  wt : Mir.wt (Mir.lins ts) ≤ 20000
  few : (Mir.lins ts).length ≤ 20001
  tb : ∀ g ∈ N.tb, H g.1 = some g.2
inductive SpAnswerP (P : Program) (w : World) (K : PySem.W.Frag) (mg : Str → Option Value) (base : Heap) (N : Nm) (vs : List V) (H : Hp) (Q : VK) (E_ : XK) : Prop
  | mk : ∀ (a f : Addr) (t : List Nat) (fd : FuncData) (spT : Sp) (g : List Sg51.Node → List Nat) (tb : List (Addr × HO)) (Z : Hp → Prop), vs = [.ref a, .ref f] → Rd H a (.lst (t.map vi)) → t.length ≤ 20000 → B8 t → (∀ g ∈ tb, stays g.2 = true) → (∀ g ∈ tb, H g.1 = some g.2) → (∀ H', (∀ g ∈ tb, H' g.1 = some g.2) → FnW K H' f) → FnOk P w K mg base (CXw P w) 7 f fd ["pieces"] spT → Binds K fd ["pieces"] [] → (∀ H1 H2, Same H1 H2 → Z H1 → Z H2) → (∀ H', (∀ g ∈ tb, H' g.1 = some g.2) → Z H') → (∀ H1 pa ts a0 as r B (Q' : VK), Pieces (N.w tb) t H1 pa ts a0 as r B → (∀ H2 p, H2 p = some (.lst ((g (Mir.nodes ts)).map vi)) → (g (Mir.nodes ts)).length ≤ 4000000 → Z H2 → Q' (.ref p) H2) → spT [.ref pa] H1 Q' E0) → (∀ H' p, H' p = some (.lst ((ansT g t).map V.int)) → Z H' → Q (.ref p) H') → SpAnswerP P w K mg base N vs H Q E_
noncomputable def spAnswer (P : Program) (w : World) (K : PySem.W.Frag) (mg : Str → Option Value) (base : Heap) (N : Nm) : Sp := SpAnswerP P w K mg base N
theorem scAnswer : FnScope ["text", "tell", "pieces", "wrong", "told"] ["text", "tell"] (defScope sAnswer) := ⟨rfl, rfl, rfl, by decide +kernel, rfl, by decide +kernel, by decide +kernel⟩
noncomputable def eRead (N : Nm) (t : List Nat) : XK := fun cv d H' => cv = .ref N.cW ∧ ∃ dx e, d = some dx ∧ H' dx = some (.xd (pl1 (.int (e : Nat)))) ∧ Sg51.read t = .error e ∧ ∀ g ∈ N.tb, H' g.1 = some g.2
theorem ok_answer {f : Addr} {fd : FuncData} (F : Fun K "answer" "answer" sAnswer f fd) (T : Txt K mg) (GR : ∀ tb, (∀ g ∈ tb, stays g.2 = true) → KReader P w K mg base (N.w tb)) (GM : ∀ tb, (∀ g ∈ tb, stays g.2 = true) → MRead P w K mg base (N.w tb)) (GW : FX P w K mg base N.cW) :
    FnOk P w K mg base (CXw P w) 9 f fd ["text", "tell"] (spAnswer P w K mg base N) := by
  refine F.okT scAnswer (fun vs H Q E h => ?_) (fun cdv A outer s H vs Q E hr h => ?_)
  · obtain ⟨a, f', t, fd', spT, g, tb, Z, rfl, _⟩ := h
    rfl
  · obtain ⟨a, f', t, fd', spT, g, tb, Z, rfl, hS, lt, h8, hst, htb, hf, hF, hB, hZ, hZ0, hT, q⟩ := h
    obtain ⟨fW, fdW, xc, hmW, _, _⟩ := GW
    have GR := GR tb hst
    have GM := GM tb hst
    have hr5 := hr.mono (by decide : 5 ≤ 8)
    have hr4 := hr.mono (by decide : 7 ≤ 8)
    refine ⟨_, ps0_cons (ps_try (i := 3) (E := eRead (N.w tb) t) ⟨rfl, rfl, rfl, rfl⟩ rfl xc rfl hmW scAnswer.nd rfl rfl rfl (fun cv d H' z => z.1)
        (pss_one (ps_set (i := 2) scAnswer.nd rfl (Or.inl rfl) (pe_mt0 GM hr (passW ⟨rfl, rfl, rfl, rfl⟩) (pe_mk GR hr5 (passW ⟨rfl, rfl, rfl, rfl⟩) (pa_cons (pv 0) pa_nil)))))
        (fun e => pss_one (ps_ret (pe_lst (pa_cons (pe_op op_sub (pe_un un_neg pe_int) (pe_xfld (pv 3) rfl)) pa_nil)))))
      (PSs.zero (pss_cons (ps_set (i := 4) scAnswer.nd rfl (Or.inl rfl) (pe_callV (i := 1) hF hr4 hB passN (pa_cons (pv 2) pa_nil)))
        (pss_one (ps_ret (pe_op op_cat (pe_lst (pa_cons (pe_callB call_len_seq (by rfl) T.len PySem.boot_len (pa_cons (pv 4) pa_nil)) pa_nil)) (pv 4)))))), ?_⟩
    refine ⟨⟨_, rfl, ?_⟩, fun e dx H' hE hn => ?_⟩
    · refine made_reader (K := K) (N := N.w tb) (t := t) hS lt h8 htb fun H2 A2 R2 => ?_
      refine ⟨A2.r, A2.dr, _, rfl, R2.r, rfl, A2, t, rfl, R2, fun e he => ?_, fun H3 A3 m e3 R3 hre hsk hl hg => ?_⟩
      · intro H' dx hs hd
        exact ⟨rfl, dx, e, rfl, hd, he, hs⟩
      · obtain ⟨r, ts, eo, er, ok, ht, h1', hwt⟩ := Mir.reach_T hre (Nat.le_trans lt (by decide)) hsk hl hg
        have PP := R3.pcs
        have eo' : ({ m with place := t.length } : Mir.M).obs = r :: Mir.lins ts := eo
        rw [eo'] at PP
        have few := R3.few
        rw [eo'] at few
        simp only [List.length_cons] at few
        obtain ⟨a0, as, eas⟩ : ∃ a0 as, A3.as = a0 :: as := by
          cases hz : A3.as with
          | nil => have := PP.len; rw [hz] at this; cases this
          | cons x y => exact ⟨x, y, rfl⟩
        rw [eas] at PP
        have hpa := R3.pieces
        rw [eas] at hpa
        have hpa : H3 A3.pa = some (.lst (as.map V.ref)) := hpa
        have fnH : FnW K H3 f' := hf H3 R3.stay
        -- told = tell(pieces)
        refine ⟨rfl, fnH, _, rfl, fnH, ?_⟩
        refine hT H3 A3.pa ts a0 as r [A3.pa, A3.la] _ ⟨hpa, PP, by simp, er, ok, ht, h1', by omega, by omega, R3.stay⟩ fun H4 p hp hlen hz => ?_
        refine ⟨_, rfl, p, _, rfl, .inl (SqL.of hp), (by show 1 ≤ sizeLine; decide), fun p1 hp1 => ?_⟩
        refine ⟨_, rfl, p1, p, _, _, rfl, rfl, upd_same, (by rw [upd_ne (ne_of_none hp hp1)]; exact hp), ?_, fun p2 hp2 => q _ p2 ?_ (hZ _ _ ((same_new hp1).trans (same_new hp2)) hz)⟩
        · rw [List.length_map, sizeLine_eq]
          show 1 + (g (Mir.nodes ts)).length ≤ 16777216
          omega
        · rw [upd_same]
          unfold ansT
          rw [er]
          simp only [List.map_cons, List.map_map, List.length_map, List.singleton_append]
          rfl
    · obtain ⟨_, dx', ee, ed, hd, he, hs⟩ := hE
      cases ed
      have ne : dx ≠ e := ne_of_none hd hn
      refine ⟨_, rfl, _, rfl, e, N.cW, fW, dx, _, _, rfl, upd_same, xc, (by rw [upd_ne ne]; exact hd), rfl, _, _, rfl, rfl, (by show 1 ≤ sizeLine; decide), fun p hp => q _ p ?_ (hZ _ _ (same_new hp) (hZ0 _ fun g hg => by rw [upd_ne (ne_of_none (hs g hg) hn)]; exact hs g hg))⟩
      unfold ansT
      rw [he]
      exact upd_same
end
end Prg
set_option linter.all false
set_option maxRecDepth 100000
set_option maxHeartbeats 8000000
namespace Prg
open PySem PySem.Spec PyProof.Rows L2
open PySem.W (CodeHd)
section
variable {P : Program} {w : World} {K : PySem.W.Frag} {mg : Str → Option Value} {base : Heap} {N : Nm}
noncomputable abbrev FAnswer (P : Program) (w : World) (K : PySem.W.Frag) (mg : Str → Option Value) (base : Heap) (N : Nm) : Prop := GFn P w K mg base "answer" 9 ["text", "tell"] (spAnswer P w K mg base N)
end
end Prg
set_option linter.all false
set_option maxRecDepth 100000
set_option maxHeartbeats 4000000
namespace Prg
open PySem PySem.Spec PyProof.Rows L2
noncomputable def tlS (ls : List (List Nat)) : List Nat := ls.flatMap fun b => 10 :: b
theorem tlS_ext {ls : List (List Nat)} (h : ls ≠ []) (b : List Nat) : tlS (Mir.ext ls b) = tlS ls ++ b := by
  obtain ⟨a, x, rfl⟩ : ∃ a x, ls = a ++ [x] := ⟨_, _, (List.dropLast_concat_getLast h).symm⟩
  rw [Mir.ext_snoc]
  simp [tlS]
theorem tlS_add (ls : List (List Nat)) (b : List Nat) : tlS (ls ++ [b]) = tlS ls ++ (10 :: b) := by simp [tlS]
theorem tlS_len (ls : List (List Nat)) : (tlS ls).length = Mir.tot ls + ls.length := by
  induction ls with
  | nil => rfl
  | cons b r ih =>
    have e1 : tlS (b :: r) = (10 :: b) ++ tlS r := by simp [tlS]
    have e2 : Mir.tot (b :: r) = b.length + Mir.tot r := by simp [Mir.tot]
    rw [e1, e2, List.length_append, ih, List.length_cons, List.length_cons]
    omega
noncomputable def toldF (ls : List (List Nat)) : List Nat := ls.flatMap fun b => b ++ [10]
theorem tlS_told : ∀ {ls : List (List Nat)}, ls ≠ [] → (tlS ls).drop 1 ++ [10] = toldF ls
  | [], h => absurd rfl h
  | [b], _ => by simp [tlS, toldF]
  | b :: c :: r, _ => by
    have ih := tlS_told (ls := c :: r) (by simp)
    have e1 : (tlS (b :: c :: r)).drop 1 = b ++ (10 :: (tlS (c :: r)).drop 1) := by simp [tlS]
    have e2 : toldF (b :: c :: r) = b ++ ([10] ++ toldF (c :: r)) := by simp [toldF]
    rw [e1, e2, ← ih]
    simp
noncomputable abbrev sf (n : Int) (ta oa : Addr) (b : Int) : FL := [("width", .int n), ("told", .ref ta), ("opened", .ref oa), ("broken", .int b)]
structure Ss (K : PySem.W.Frag) (C : Addr) (N : Nm) : Prop where
  s : Cls K C
  sn : ∀ f ∈ (["width", "told", "opened", "broken"] : List Str), NoAttr K C f
  ps : N.cP ≠ C
structure Zd where
  sa : Addr
  da : Addr
  ta : Addr
  oa : Addr
  os : List Addr
noncomputable abbrev Zd.B (Z : Zd) : List Addr := [Z.ta, Z.oa]
structure Ctx where
  as : List Addr
  obs : List Mir.Pc
  w : Nat
  gs : List (Addr × List V)
structure SR (N : Nm) (C : Addr) (c : Ctx) (H : Hp) (Z : Zd) (s : Mir.Se) : Prop where
  self : H Z.sa = some (.ins C Z.da (sf c.w Z.ta Z.oa s.broken))
  told : H Z.ta = some (.lst ((tlS s.lines).map vi))
  opened : H Z.oa = some (.lst (Z.os.reverse.map V.ref))
  to : Z.ta ≠ Z.oa
  olen : Z.os.length = s.opened.length
  os : ∀ (i : Nat) (pc : Mir.Pc), s.opened[i]? = some pc → ∃ (a : Addr) (j : Nat), Z.os[i]? = some a ∧ c.as[j]? = some a ∧ c.obs[j]? = some pc
  pcs : Pcs N.cP Z.B H c.as c.obs
  gd : ∀ g ∈ c.gs, H g.1 = some (.lst g.2)
  gn : ∀ g ∈ c.gs, g.1 ∉ Z.B
section
variable {K : PySem.W.Frag} {N : Nm} {C : Addr} {c : Ctx} {H H' : Hp} {Z : Zd} {s : Mir.Se}
theorem SR.bl (R : SR N C c H Z s) {a : Addr} (h : a ∈ Z.B) : ∃ xs, H a = some (.lst xs) := by
  rcases List.mem_cons.mp h with z | z
  · exact ⟨_, by rw [z]; exact R.told⟩
  · rw [List.mem_singleton.mp z]
    exact ⟨_, R.opened⟩
theorem SR.ns (R : SR N C c H Z s) {a : Addr} {xs : List V} (h : H a = some (.lst xs)) : a ≠ Z.sa := ne_of h R.self (by intro z; cases z)
theorem SR.pk (S : Ss K C N) (R : SR N C c H Z s) (k : Kp (Z.sa :: Z.B) H H') : Pcs N.cP Z.B H' c.as c.obs ∧ ∀ g ∈ c.gs, H' g.1 = some (.lst g.2) := by
  refine ⟨R.pcs.kp k fun b hb => ?_, fun g hg => k _ _ (R.gd g hg) fun z => ?_⟩
  · rcases List.mem_cons.mp hb with z | z
    · rw [z, R.self]
      exact ⟨fun dx fs z => (by injection z with z; injection z with z _ _; exact S.ps z.symm), .inr fun xs z => (by cases z)⟩
    · obtain ⟨xs, e⟩ := R.bl z
      rw [e]
      exact ⟨fun dx fs z => (by cases z), .inl z⟩
  · rcases List.mem_cons.mp z with y | y
    · exact R.ns (R.gd g hg) y
    · exact R.gn g hg y
theorem SR.same (R : SR N C c H Z s) (e : Same H H') : SR N C c H' Z s :=
  ⟨e _ _ R.self, e _ _ R.told, e _ _ R.opened, R.to, R.olen, R.os, R.pcs.same e, fun g hg => e _ _ (R.gd g hg), R.gn⟩
theorem SR.brk (S : Ss K C N) (R : SR N C c H Z s) (n : Nat) : SR N C c (upd H Z.sa (.ins C Z.da (sf c.w Z.ta Z.oa n))) Z { s with broken := n } := by
  have k : Kp (Z.sa :: Z.B) H (upd H Z.sa (.ins C Z.da (sf c.w Z.ta Z.oa n))) := Kp.upd (by simp)
  obtain ⟨p1, p2⟩ := R.pk S k
  refine ⟨upd_same, ?_, ?_, R.to, R.olen, R.os, p1, p2, R.gn⟩
  · rw [upd_ne (R.ns R.told)]; exact R.told
  · rw [upd_ne (R.ns R.opened)]; exact R.opened
theorem SR.tell (S : Ss K C N) (R : SR N C c H Z s) {ls : List (List Nat)} {xs : List V} (e : (tlS ls).map vi = xs) : SR N C c (upd H Z.ta (.lst xs)) Z { s with lines := ls } := by
  have k : Kp (Z.sa :: Z.B) H (upd H Z.ta (.lst xs)) := Kp.upd (by simp)
  obtain ⟨p1, p2⟩ := R.pk S k
  refine ⟨?_, ?_, ?_, R.to, R.olen, R.os, p1, p2, R.gn⟩
  · rw [upd_ne (Ne.symm (R.ns R.told))]; exact R.self
  · rw [upd_same, e]
  · rw [upd_ne (Ne.symm R.to)]; exact R.opened
theorem SR.ext (S : Ss K C N) (R : SR N C c H Z s) (h : s.lines ≠ []) {b : List Nat} : SR N C c (upd H Z.ta (.lst ((tlS s.lines).map vi ++ b.map vi))) Z { s with lines := Mir.ext s.lines b } :=
  R.tell S (by rw [tlS_ext h, List.map_append])
theorem SR.opn (S : Ss K C N) (R : SR N C c H Z s) {os : List Addr} {op : List Mir.Pc} (ho : os.length = op.length) (q : ∀ (i : Nat) (pc : Mir.Pc), op[i]? = some pc → ∃ (a : Addr) (j : Nat), os[i]? = some a ∧ c.as[j]? = some a ∧ c.obs[j]? = some pc) :
    SR N C c (upd H Z.oa (.lst (os.reverse.map V.ref))) { Z with os := os } { s with opened := op } := by
  have k : Kp (Z.sa :: Z.B) H (upd H Z.oa (.lst (os.reverse.map V.ref))) := Kp.upd (by simp)
  obtain ⟨p1, p2⟩ := R.pk S k
  refine ⟨?_, ?_, upd_same, R.to, ho, q, p1, p2, R.gn⟩
  · rw [upd_ne (Ne.symm (R.ns R.opened))]; exact R.self
  · rw [upd_ne R.to]; exact R.told
theorem SR.push (S : Ss K C N) (R : SR N C c H Z s) {a : Addr} {j : Nat} {pc : Mir.Pc} (ha : c.as[j]? = some a) (hp : c.obs[j]? = some pc) :
    SR N C c (upd H Z.oa (.lst (Z.os.reverse.map V.ref ++ [.ref a]))) { Z with os := a :: Z.os } { s with opened := pc :: s.opened } := by
  have q := R.opn S (os := a :: Z.os) (op := pc :: s.opened) (by simp [R.olen]) (fun i pc' h => by
    cases i with
    | zero =>
      cases h
      exact ⟨a, j, rfl, ha, hp⟩
    | succ i => exact R.os i pc' h)
  rw [List.reverse_cons, List.map_append] at q
  exact q
theorem SR.piece (R : SR N C c H Z s) {a : Addr} {j : Nat} {pc : Mir.Pc} (ha : c.as[j]? = some a) (hp : c.obs[j]? = some pc) : PieceAt N.cP Z.B H a pc := by
  obtain ⟨b, e1, e2⟩ := R.pcs.at_ j pc hp
  rw [ha] at e1
  cases e1
  exact e2
end
structure Pre (s : Mir.Se) : Prop where
  br : s.broken ≤ 41
  tt : Mir.tot s.lines ≤ 3000000
  cn : s.lines.length ≤ 30000
  ne : s.opened ≠ [] → s.lines ≠ []
  op : s.opened.length ≤ 41
theorem Pre.tl {s : Mir.Se} (I : Pre s) : (tlS s.lines).length ≤ 3030000 := by
  have := I.tt
  have := I.cn
  rw [tlS_len]
  omega
structure Pre0 (s : Mir.Se) : Prop where
  br : s.broken ≤ 40
  tt : Mir.tot s.lines ≤ 2000000
  cn : s.lines.length ≤ 20001
  ne : s.opened ≠ [] → s.lines ≠ []
  op : s.opened.length ≤ 40
theorem Pre0.pre {s : Mir.Se} (I : Pre0 s) : Pre s := ⟨by have := I.br; omega, by have := I.tt; omega, by have := I.cn; omega, I.ne, by have := I.op; omega⟩
theorem Pre0.put {s : Mir.Se} (I : Pre0 s) {b : List Nat} (hb : b.length ≤ 50000) : Pre (Mir.putS s b) ∧ (Mir.putS s b).lines ≠ [] ∧ (Mir.putS s b).opened = s.opened ∧ (Mir.putS s b).broken = s.broken := by
  obtain ⟨p1, p2, p3, p4, p5⟩ := Mir.putS_facts s b I.br I.ne
  refine ⟨⟨?_, ?_, ?_, fun _ => p5, ?_⟩, p5, p3, p4⟩
  · rw [p4]; have := I.br; omega
  · have := I.tt; omega
  · have := I.cn; omega
  · rw [p3]; have := I.op; omega
end Prg
set_option linter.all false
set_option maxRecDepth 100000
set_option maxHeartbeats 4000000
namespace Prg
open PySem PySem.Spec PyProof.Rows L2
section
variable {P : Program} {w : World} {K : PySem.W.Frag} {mg : Str → Option Value} {base : Heap} {N : Nm} {C : Addr}
inductive SpFlatP (N : Nm) (C : Addr) (vs : List V) (H : Hp) (Q : VK) (E_ : XK) : Prop
  | mk : ∀ (c : Ctx) (Z : Zd) (s : Mir.Se), vs = [.ref Z.sa] → SR N C c H Z s → Q (.bl (Mir.flatS s)) H → SpFlatP N C vs H Q E_
noncomputable def spFlat (N : Nm) (C : Addr) : Sp := SpFlatP N C
theorem scFlat : FnScope ["self"] ["self"] (defScope sFlat) := ⟨rfl, rfl, rfl, by decide +kernel, rfl, by decide +kernel, by decide +kernel⟩
theorem ok_flat {f : Addr} {fd : FuncData} (F : Fun K "is_flat_here" "Setter.is_flat_here" sFlat f fd) (T : Txt K mg) (S : Ss K C N) : FnOk P w K mg base (CXw P w) 1 f fd ["self"] (spFlat N C) := by
  refine F.okN scFlat (fun vs H Q E h => ?_) (fun cdv A outer s H vs Q E hr h => ?_)
  · obtain ⟨c, Z, s, rfl, _⟩ := h
    rfl
  · obtain ⟨c, Z, m, rfl, R, q⟩ := h
    refine ⟨_, pss_one (ps_ret (pe_cmpR op_gt (pe_callB call_len_seq (by rfl) T.len PySem.boot_len (pa_cons (pe_fld (pv 0) rfl) pa_nil)) (pe_fld (pv 0) rfl) (nomark _))), ?_⟩
    refine ⟨_, rfl, Z.sa, C, Z.da, _, _, rfl, R.self, S.s, S.sn _ (by simp), rfl, Z.oa, _, rfl, .inl (SqL.of R.opened), _, rfl, Z.sa, C, Z.da, _, _, rfl, R.self, S.s, S.sn _ (by simp), rfl, _, _, rfl, rfl, ?_⟩
    have e : decide ((m.broken : Int) < ((Z.os.reverse.map V.ref).length : Int)) = Mir.flatS m := by
      unfold Mir.flatS
      rw [List.length_map, List.length_reverse, R.olen, Bool.eq_iff_iff, decide_eq_true_eq, decide_eq_true_eq]
      omega
    show Q (.bl (decide ((m.broken : Int) < ((Z.os.reverse.map V.ref).length : Int)))) H
    rw [e]
    exact q
noncomputable abbrev MFlat (P : Program) (w : World) (K : PySem.W.Frag) (mg : Str → Option Value) (base : Heap) (N : Nm) (C : Addr) : Prop := GMt P w K mg base C "is_flat_here" 1 ["self"] (spFlat N C)
inductive SpPutP (N : Nm) (C : Addr) (vs : List V) (H : Hp) (Q : VK) (E_ : XK) : Prop
  | mk : ∀ (c : Ctx) (Z : Zd) (s : Mir.Se) (ba : Addr) (b : List Nat), vs = [.ref Z.sa, .ref ba] → SR N C c H Z s → Pre s → H ba = some (.lst (b.map vi)) → ba ≠ Z.ta → b.length ≤ 50000 → (∀ H', SR N C c H' Z (Mir.putS s b) → Q .non H') → SpPutP N C vs H Q E_
noncomputable def spPut (N : Nm) (C : Addr) : Sp := SpPutP N C
theorem scPut : FnScope ["self", "told"] ["self", "told"] (defScope sPut) := ⟨rfl, rfl, rfl, by decide +kernel, rfl, by decide +kernel, by decide +kernel⟩
theorem rep32 (n : Nat) : (List.replicate ((2 : Int) * (n : Int)).toNat [V.int 32]).flatten = (Sg51.spaces (2 * n)).map vi := by
  unfold Sg51.spaces
  rw [List.map_replicate, show ((2 : Int) * (n : Int)).toNat = 2 * n by omega]
  generalize 2 * n = n
  induction n with
  | zero => rfl
  | succ n ih => rw [List.replicate_succ, List.flatten_cons, ih, List.replicate_succ]; rfl
theorem ok_put {f : Addr} {fd : FuncData} (F : Fun K "put" "Setter.put" sPut f fd) (T : Txt K mg) (S : Ss K C N) (G1 : MFlat P w K mg base N C) : FnOk P w K mg base (CXw P w) 2 f fd ["self", "told"] (spPut N C) := by
  refine F.okN scPut (fun vs H Q E h => ?_) (fun cdv A outer s H vs Q E hr h => ?_)
  · obtain ⟨c, Z, s, ba, b, rfl, _⟩ := h
    rfl
  · obtain ⟨c, Z, m, ba, b, rfl, R, I, hta, nba, hb, q⟩ := h
    refine ⟨_, pss_cons (ps_if (pt_not (pt_val (pe_mt0 G1 hr passN (pv 0)))) (pss_one (ps_expr (pe_bm PySem.F.plainAttrs_list PySem.F.slot_list_extend PySem.F.type_list_extend mt_extend (pe_fld (pv 0) rfl) (pa_cons (pe_op op_cat (pe_lst (pa_cons (pe_gi T.lineEnd) pa_nil)) (pe_op op_rep (pe_lst (pa_cons (pe_gi T.blank) pa_nil)) (pe_op op_mul pe_int (pe_fld (pv 0) rfl)))) pa_nil)))) pss_nil)
      (pss_one (ps_expr (pe_bm PySem.F.plainAttrs_list PySem.F.slot_list_extend PySem.F.type_list_extend mt_extend (pe_fld (pv 0) rfl) (pa_cons (pv 1) pa_nil)))), ?_⟩
    have tl := I.tl
    -- self.told.extend(told)
    have last : ∀ (H2 : Hp) (m2 : Mir.Se), SR N C c H2 Z m2 → m2.lines ≠ [] → (tlS m2.lines).length ≤ 3040000 → H2 ba = some (.lst (b.map vi)) → { m2 with lines := Mir.ext m2.lines b } = Mir.putS m b →
        rExtend (V.ref Z.ta) [V.ref ba] H2 (fun _ H' => Q .non H') := fun H2 m2 R2 ne t2 hb2 e => by
      refine ⟨Z.ta, ba, _, _, rfl, rfl, R2.told, hb2, ?_, q _ ?_⟩
      · rw [List.length_map, List.length_map, sizeLine_eq]; omega
      · rw [← e]
        exact R2.ext S ne
    refine ⟨_, rfl, Z.sa, Z.da, _, rfl, R.self, rfl, c, Z, m, rfl, R, _, rfl, ite2 (fun h => ?_) fun h => ?_⟩
    · have h : ¬ Mir.flatS m = true := by simpa using h
      refine ⟨_, rfl, Z.sa, C, Z.da, _, _, rfl, R.self, S.s, S.sn _ (by simp), rfl, isL R.told, ?_⟩
      refine ⟨(by show 1 ≤ sizeLine; decide), fun p1 h1 => ⟨(by show 1 ≤ sizeLine; decide), fun p2 h2 => ?_⟩⟩
      have s1 : Same H (upd (upd H p1 (.lst [.int 10])) p2 (.lst [.int 32])) := (same_new h1).trans (same_new h2)
      refine ⟨_, rfl, Z.sa, C, Z.da, _, _, rfl, s1 _ _ R.self, S.s, S.sn _ (by simp), rfl, _, _, rfl, rfl, .inl ⟨by decide, by decide⟩, ?_⟩
      have hbr := I.br
      refine ⟨p2, _, _, rfl, rfl, upd_same, by omega, by omega, ?_, fun p3 h3 => ?_⟩
      · rw [sizeLine_eq]
        show 1 * ((2 * (m.broken : Int)).toNat) ≤ 16777216
        omega
      rw [rep32]
      have s3 := s1.trans (same_new (o := .lst ((Sg51.spaces (2 * m.broken)).map vi)) h3)
      have hp1 : upd (upd (upd H p1 (.lst [.int 10])) p2 (.lst [.int 32])) p3 (.lst ((Sg51.spaces (2 * m.broken)).map vi)) p1 = some (.lst [.int 10]) := same_new h3 _ _ (same_new h2 _ _ upd_same)
      have hsp : (Sg51.spaces (2 * m.broken)).length = 2 * m.broken := by unfold Sg51.spaces; rw [List.length_replicate]
      refine ⟨p1, p3, _, _, rfl, rfl, hp1, upd_same, ?_, fun p4 h4 => ?_⟩
      · rw [List.length_map, sizeLine_eq, hsp]
        show 1 + 2 * m.broken ≤ 16777216
        omega
      have s4 := s3.trans (same_new (o := .lst ([.int 10] ++ (Sg51.spaces (2 * m.broken)).map vi)) h4)
      have R4 := R.same s4
      refine ⟨Z.ta, p4, _, _, rfl, rfl, R4.told, upd_same, ?_, ?_⟩
      · rw [List.length_map, List.length_append, List.length_map, sizeLine_eq, hsp]
        show (tlS m.lines).length + (1 + 2 * m.broken) ≤ 16777216
        omega
      have R5 := R4.tell S (ls := m.lines ++ [Sg51.spaces (2 * m.broken)]) (xs := (tlS m.lines).map vi ++ ([.int 10] ++ (Sg51.spaces (2 * m.broken)).map vi)) (by rw [tlS_add, List.map_append]; rfl)
      refine ⟨_, rfl, Z.sa, C, Z.da, _, _, rfl, R5.self, S.s, S.sn _ (by simp), rfl, isL R5.told, _, rfl, last _ _ R5 (by simp) ?_ ?_ ?_⟩
      · rw [tlS_add, List.length_append, List.length_cons, hsp]; omega
      · rw [upd_ne nba]; exact s4 _ _ hta
      · unfold Mir.putS
        rw [if_neg h, Mir.ext_snoc]
    · have h : Mir.flatS m = true := by simpa using h
      have hf : m.broken < m.opened.length := of_decide_eq_true h
      have hne : m.lines ≠ [] := I.ne (fun z => by rw [z] at hf; simp at hf)
      refine ⟨_, rfl, Z.sa, C, Z.da, _, _, rfl, R.self, S.s, S.sn _ (by simp), rfl, isL R.told, _, rfl, last _ _ R hne (by omega) hta ?_⟩
      unfold Mir.putS
      rw [if_pos h]
noncomputable def spPutComma (N : Nm) (C : Addr) : Sp := fun vs H Q _ => ∃ (c : Ctx) (Z : Zd) (s : Mir.Se) (a : Addr) (j : Nat) (pc : Mir.Pc), vs = [.ref Z.sa, .ref a] ∧ SR N C c H Z s ∧ Pre s ∧ s.lines ≠ [] ∧ c.as[j]? = some a ∧ c.obs[j]? = some pc ∧
  ∀ H', SR N C c H' Z (Mir.commaS s pc.comma) → Q .non H'
theorem scPutComma : FnScope ["self", "piece"] ["self", "piece"] (defScope sPutComma) := ⟨rfl, rfl, rfl, by decide +kernel, rfl, by decide +kernel, by decide +kernel⟩
theorem ok_putComma {f : Addr} {fd : FuncData} (F : Fun K "put_comma" "Setter.put_comma" sPutComma f fd) (T : Txt K mg) (cs : Cs K mg N) (S : Ss K C N) (G1 : MFlat P w K mg base N C) : FnOk P w K mg base (CXw P w) 2 f fd ["self", "piece"] (spPutComma N C) := by
  refine F.okN scPutComma (fun vs H Q E h => ?_) (fun cdv A outer s H vs Q E hr h => ?_)
  · obtain ⟨c, Z, s, a, j, pc, rfl, _⟩ := h
    rfl
  · obtain ⟨c, Z, m, a, j, pc, rfl, R, I, hne, ha, hp, q⟩ := h
    refine ⟨_, pss_one (ps_if (pt_val (pe_fld (pv 1) rfl))
      (pss_one (ps_expr (pe_bm PySem.F.plainAttrs_list PySem.F.slot_list_extend PySem.F.type_list_extend mt_extend (pe_fld (pv 0) rfl) (pa_cons (pe_ifExp (pt_val (pe_mt0 G1 hr passN (pv 0))) (pe_lst (pa_cons (pe_gi T.comma) (pa_cons (pe_gi T.blank) pa_nil))) (pe_lst (pa_cons (pe_gi T.comma) pa_nil))) pa_nil)))) pss_nil), ?_⟩
    obtain ⟨dx, ka, oa, g1, g2, g3, g4, g5⟩ := R.piece ha hp
    have tl := I.tl
    refine ⟨_, rfl, a, N.cP, dx, _, _, rfl, g1, cs.p, cs.pn _ (by simp), rfl, _, rfl, ite2 (fun hc => ?_) fun hc => ?_⟩
    · refine ⟨_, rfl, Z.sa, C, Z.da, _, _, rfl, R.self, S.s, S.sn _ (by simp), rfl, isL R.told, ?_⟩
      refine ⟨_, rfl, Z.sa, Z.da, _, rfl, R.self, rfl, c, Z, m, rfl, R, _, rfl, ite2 (fun h => ?_) fun h => ?_⟩
      · refine ⟨(by show 2 ≤ sizeLine; decide), fun t ht => ?_⟩
        have s1 := same_new (o := .lst [.int 44, .int 32]) ht
        refine ⟨Z.ta, t, _, _, rfl, rfl, s1 _ _ R.told, upd_same, ?_, ?_⟩
        · rw [List.length_map, sizeLine_eq]
          show (tlS m.lines).length + 2 ≤ 16777216
          omega
        · refine q _ ?_
          unfold Mir.commaS
          rw [if_pos hc, if_pos h]
          exact (R.same s1).ext S hne (b := [44, 32])
      · refine ⟨(by show 1 ≤ sizeLine; decide), fun t ht => ?_⟩
        have s1 := same_new (o := .lst [.int 44]) ht
        refine ⟨Z.ta, t, _, _, rfl, rfl, s1 _ _ R.told, upd_same, ?_, ?_⟩
        · rw [List.length_map, sizeLine_eq]
          show (tlS m.lines).length + 1 ≤ 16777216
          omega
        · refine q _ ?_
          unfold Mir.commaS
          rw [if_pos hc, if_neg h]
          exact (R.same s1).ext S hne (b := [44])
    · refine q _ ?_
      unfold Mir.commaS
      rw [if_neg hc]
      exact R
noncomputable abbrev MPut (P : Program) (w : World) (K : PySem.W.Frag) (mg : Str → Option Value) (base : Heap) (N : Nm) (C : Addr) : Prop := GMt P w K mg base C "put" 2 ["self", "told"] (spPut N C)
noncomputable abbrev MPutComma (P : Program) (w : World) (K : PySem.W.Frag) (mg : Str → Option Value) (base : Heap) (N : Nm) (C : Addr) : Prop := GMt P w K mg base C "put_comma" 2 ["self", "piece"] (spPutComma N C)
end
end Prg
set_option linter.all false
set_option maxRecDepth 100000
set_option maxHeartbeats 4000000
namespace Prg
open PySem PySem.Spec PyProof.Rows L2
section
variable {P : Program} {w : World} {K : PySem.W.Frag} {mg : Str → Option Value} {base : Heap} {N : Nm} {C : Addr}
inductive SpGoP (N : Nm) (C : Addr) (vs : List V) (H : Hp) (Q : VK) (E_ : XK) : Prop
  | mk : ∀ (c : Ctx) (Z : Zd) (s : Mir.Se) (a : Addr) (j : Nat) (pc : Mir.Pc), vs = [.ref Z.sa, .ref a] → SR N C c H Z s → Pre s → c.as[j]? = some a → c.obs[j]? = some pc → (∀ H' Z', Z'.sa = Z.sa → SR N C c H' Z' (Mir.openS c.w s pc) → Q .non H') → SpGoP N C vs H Q E_
noncomputable def spGo (N : Nm) (C : Addr) : Sp := SpGoP N C
theorem scGo : FnScope ["self", "piece", "length", "must_break"] ["self", "piece"] (defScope sGoInto) := ⟨rfl, rfl, rfl, by decide +kernel, rfl, by decide +kernel, by decide +kernel⟩
theorem ok_go {f : Addr} {fd : FuncData} (F : Fun K "go_into" "Setter.go_into" sGoInto f fd) (T : Txt K mg) (cs : Cs K mg N) (S : Ss K C N) (G1 : MFlat P w K mg base N C) : FnOk P w K mg base (CXw P w) 2 f fd ["self", "piece"] (spGo N C) := by
  refine F.okN scGo (fun vs H Q E h => ?_) (fun cdv A outer s H vs Q E hr h => ?_)
  · obtain ⟨c, Z, s, a, j, pc, rfl, _⟩ := h
    rfl
  · obtain ⟨c, Z, m, a, j, pc, rfl, R, I, ha, hp, q⟩ := h
    refine ⟨_, pss_cons (ps_set (i := 2) scGo.nd rfl (Or.inl rfl) (pe_op op_add (pe_op op_add (pe_op op_mul pe_int (pe_fld (pv 0) rfl)) (pe_fld (pv 1) rfl)) (pe_ifExp (pt_val (pe_fld (pv 1) rfl)) pe_int pe_int)))
      (pss_cons (ps_set (i := 3) scGo.nd rfl (Or.inl rfl) (pe_or (pe_fld (pv 1) rfl) (pe_one (pe_and (pe_fld (pv 1) rfl) (pe_one (pe_cmpR op_gt (pv 2) (pe_fld (pv 0) rfl) (nomark _)))))))
      (pss_cons (ps_if (pw_and (pt_val (pv 3)) (pw_and1 (pt_not (pt_val (pe_mt0 G1 hr passN (pv 0)))))).pt (pss_one (ps_fldaug (pv 0) pe_int in_add)) pss_nil)
      (pss_one (ps_expr (pe_bm PySem.F.plainAttrs_list PySem.F.slot_list_append PySem.F.type_list_append mt_append (pe_fld (pv 0) rfl) (pa_cons (pv 1) pa_nil)))))), ?_⟩
    obtain ⟨dx, ka, oa, g1, g2, g3, g4, g5⟩ := R.piece ha hp
    -- self.opened.append(piece)
    have app : ∀ (H3 : Hp) (m3 : Mir.Se), SR N C c H3 Z m3 → m3.opened.length ≤ 41 → (∀ H' Z', Z'.sa = Z.sa → SR N C c H' Z' { m3 with opened := pc :: m3.opened } → Q .non H') →
        rAppend (V.ref Z.oa) [V.ref a] H3 (fun _ H' => Q .non H') := fun H3 m3 R3 ho q3 => by
      refine ⟨Z.oa, _, _, rfl, rfl, R3.opened, ?_, ?_⟩
      · rw [List.length_map, List.length_reverse, R3.olen, sizeLine_eq]; omega
      · exact q3 _ { Z with os := a :: Z.os } rfl (R3.push S ha hp)
    have hop := I.op
    -- the rest, when it is settled whether it must be broken
    dsimp only [gName]
    refine seq_via (t := tAsg _ _) (fun σ' H' => H' = H ∧ σ' = [some (.ref Z.sa), some (.ref a), some (.int (2 * (m.broken : Int) + (pc.length : Int) + (if pc.comma = true then 1 else 0))), none]) ?_ fun rest => ?_
    · rintro σ' H' ⟨rfl, rfl⟩
      have fin : decide ((c.w : Int) < 2 * (m.broken : Int) + (pc.length : Int) + (if pc.comma = true then 1 else 0)) = decide (c.w < 2 * m.broken + pc.length + (if pc.comma = true then 1 else 0)) := by
        rw [Bool.eq_iff_iff, decide_eq_true_eq, decide_eq_true_eq]
        split <;> omega
      refine seq_via (t := tAsg _ _) (fun σ2 H2 => H2 = H' ∧ ∃ n b, σ2 = [some (.ref Z.sa), some (.ref a), n, some (.bl b)] ∧ b = Mir.mustB c.w m pc) ?_ fun rest => ?_
      · rintro σ2 H2 ⟨rfl, n, b, rfl, rfl⟩
        refine ⟨_, rfl, _, rfl, ite2 (fun h => ?_) fun h => ?_⟩
        · refine ⟨_, rfl, Z.sa, Z.da, _, rfl, R.self, rfl, c, Z, m, rfl, R, _, rfl, ite2 (fun h2 => ?_) fun h2 => ?_⟩
          · refine ⟨_, rfl, Z.sa, C, Z.da, _, _, rfl, R.self, S.s, S.sn _ (by simp), rfl, _, _, rfl, rfl, Z.da, _, R.self, few rfl, ?_⟩
            have R3 := R.brk S (m.broken + 1)
            refine ⟨_, rfl, Z.sa, C, Z.da, _, _, rfl, R3.self, S.s, S.sn _ (by simp), rfl, isL R3.opened, _, rfl, app _ _ R3 hop fun H3 Z' e' R' => q H3 Z' e' ?_⟩
            unfold Mir.openS
            rw [h, h2]
            exact R'
          · refine ⟨_, rfl, Z.sa, C, Z.da, _, _, rfl, R.self, S.s, S.sn _ (by simp), rfl, isL R.opened, _, rfl, app _ _ R hop fun H3 Z' e' R' => q H3 Z' e' ?_⟩
            unfold Mir.openS
            have h2 : (!Mir.flatS m) = false := by simpa using h2
            rw [h2, Bool.false_and, if_neg (by simp)]
            exact R'
        · refine ⟨_, rfl, Z.sa, C, Z.da, _, _, rfl, R.self, S.s, S.sn _ (by simp), rfl, isL R.opened, _, rfl, app _ _ R hop fun H3 Z' e' R' => q H3 Z' e' ?_⟩
          unfold Mir.openS
          have h : Mir.mustB c.w m pc = false := by simpa using h
          rw [h, Bool.and_false, if_neg (by simp)]
          exact R'
      · have mb : Mir.mustB c.w m pc = (pc.noted || (pc.filled && decide ((c.w : Int) < 2 * (m.broken : Int) + (pc.length : Int) + (if pc.comma = true then 1 else 0)))) := by
          unfold Mir.mustB
          rw [fin]
        refine ⟨_, rfl, a, N.cP, dx, _, _, rfl, g1, cs.p, cs.pn _ (by simp), rfl, _, rfl, ite2 (fun hn => ?_) fun hn => ?_⟩
        · have z : Mir.mustB c.w m pc = true := by rw [mb, hn]; rfl
          exact rest _ _ ⟨rfl, _, _, rfl, z.symm⟩
        · have hn : pc.noted = false := by simpa using hn
          refine ⟨_, rfl, a, N.cP, dx, _, _, rfl, g1, cs.p, cs.pn _ (by simp), rfl, _, rfl, ite2 (fun hf => ?_) fun hf => ?_⟩
          · refine ⟨_, rfl, _, rfl, Z.sa, C, Z.da, _, _, rfl, R.self, S.s, S.sn _ (by simp), rfl, _, _, rfl, rfl, ?_⟩
            refine rest _ _ ⟨rfl, _, _, rfl, ?_⟩
            rw [mb, hn, hf, Bool.false_or, Bool.true_and]
          · have hf : pc.filled = false := by simpa using hf
            refine rest _ _ ⟨rfl, _, _, rfl, ?_⟩
            rw [mb, hn, hf]
            rfl
    · refine ⟨_, rfl, Z.sa, C, Z.da, _, _, rfl, R.self, S.s, S.sn _ (by simp), rfl, _, _, rfl, rfl, .inl ⟨by decide, by decide⟩, _, rfl, a, N.cP, dx, _, _, rfl, g1, cs.p, cs.pn _ (by simp), rfl, _, _, rfl, rfl, ?_⟩
      refine ⟨_, rfl, a, N.cP, dx, _, _, rfl, g1, cs.p, cs.pn _ (by simp), rfl, _, rfl, ite2 (fun hc => ?_) fun hc => ?_⟩
      · refine ⟨_, _, rfl, rfl, rest _ _ ⟨rfl, ?_⟩⟩
        rw [if_pos hc]
        rfl
      · refine ⟨_, _, rfl, rfl, rest _ _ ⟨rfl, ?_⟩⟩
        rw [if_neg hc]
        rfl
inductive SpTellCloseP (N : Nm) (C : Addr) (vs : List V) (H : Hp) (Q : VK) (E_ : XK) : Prop
  | mk : ∀ (c : Ctx) (Z : Zd) (s : Mir.Se) (a : Addr) (j : Nat) (pc wh : Mir.Pc) (o : List Mir.Pc), vs = [.ref Z.sa, .ref a] → SR N C c H Z s → Pre0 s → c.as[j]? = some a → c.obs[j]? = some pc → pc.own.length ≤ 20000 → s.opened = wh :: o → (∀ H' Z', Z'.sa = Z.sa → SR N C c H' Z' (Mir.closeS s wh o pc.own) → Q .non H') → SpTellCloseP N C vs H Q E_
noncomputable def spTellClose (N : Nm) (C : Addr) : Sp := SpTellCloseP N C
theorem scTellClose : FnScope ["self", "piece", "whole"] ["self", "piece"] (defScope sTellClose) := ⟨rfl, rfl, rfl, by decide +kernel, rfl, by decide +kernel, by decide +kernel⟩
theorem ok_tellClose {f : Addr} {fd : FuncData} (F : Fun K "tell_closing" "Setter.tell_closing" sTellClose f fd) (T : Txt K mg) (cs : Cs K mg N) (S : Ss K C N) (G2 : MPut P w K mg base N C) (G3 : MPutComma P w K mg base N C) : FnOk P w K mg base (CXw P w) 3 f fd ["self", "piece"] (spTellClose N C) := by
  refine F.okN scTellClose (fun vs H Q E h => ?_) (fun cdv A outer s H vs Q E hr h => ?_)
  · obtain ⟨c, Z, s, a, j, pc, wh, o, rfl, _⟩ := h
    rfl
  · obtain ⟨c, Z, m, a, j, pc, wh, o, rfl, R, I, ha, hp, lo, em, q⟩ := h
    refine ⟨_, pss_cons (ps_set (i := 2) scTellClose.nd rfl (Or.inl rfl) (pe_bm0 PySem.F.plainAttrs_list PySem.F.slot_list_pop PySem.F.type_list_pop mt_pop (pe_fld (pv 0) rfl)))
      (pss_cons (ps_if (pt_cmpR op_lt (pe_callB call_len_seq (by rfl) T.len PySem.boot_len (pa_cons (pe_fld (pv 0) rfl) pa_nil)) (pe_fld (pv 0) rfl) (nomark _))
        (pss_cons (ps_fldaug (pv 0) pe_int in_sub) (pss_one (ps_expr (pe_mt G2 hr passN (pv 0) (pa_cons (pe_fld (pv 1) rfl) pa_nil)))))
        (pss_one (ps_expr (pe_bm PySem.F.plainAttrs_list PySem.F.slot_list_extend PySem.F.type_list_extend mt_extend (pe_fld (pv 0) rfl) (pa_cons (pe_fld (pv 1) rfl) pa_nil)))))
      (pss_one (ps_expr (pe_mt G3 hr passN (pv 0) (pa_cons (pv 2) pa_nil))))), ?_⟩
    obtain ⟨ow, jw, o1, o2, o3⟩ := R.os 0 wh (by rw [em]; rfl)
    obtain ⟨os, eos⟩ : ∃ os, Z.os = ow :: os := by
      cases hz : Z.os with
      | nil => rw [hz] at o1; cases o1
      | cons x y =>
        rw [hz] at o1
        cases o1
        exact ⟨y, rfl⟩
    have exs : Z.os.reverse.map V.ref = os.reverse.map V.ref ++ [V.ref ow] := by rw [eos, List.reverse_cons, List.map_append]; rfl
    refine ⟨_, rfl, Z.sa, C, Z.da, _, _, rfl, R.self, S.s, S.sn _ (by simp), rfl, isL R.opened, Z.oa, _, .ref ow, rfl, rfl, R.opened, ?_, ?_⟩
    · rw [exs, List.length_append]
      simp
    rw [exs, List.dropLast_concat]
    have hol : os.length = o.length := by
      have := R.olen
      rw [eos, em] at this
      simpa using this
    have R1 : SR N C c (upd H Z.oa (.lst (os.reverse.map V.ref))) { Z with os := os } ⟨m.lines, o, m.broken⟩ := R.opn S hol fun i pc' h => by
      obtain ⟨b, jb, b1, b2, b3⟩ := R.os (i + 1) pc' (by rw [em]; exact h)
      rw [eos] at b1
      exact ⟨b, jb, b1, b2, b3⟩
    generalize hH1 : upd H Z.oa (.lst (os.reverse.map V.ref)) = H1 at R1 ⊢
    have hne : m.lines ≠ [] := I.ne (by rw [em]; simp)
    have hbr := I.br
    have hop := I.op
    rw [em] at hop
    simp only [List.length_cons] at hop
    obtain ⟨dx, ka, oa, g1, g2, g3, g4, g5⟩ := R1.piece ha hp
    -- the comma behind it
    have fin : ∀ (H3 : Hp) (m3 : Mir.Se), SR N C c H3 { Z with os := os } m3 → Pre m3 → m3.lines ≠ [] → Mir.closeS m wh o pc.own = Mir.commaS m3 wh.comma →
        ∃ (c' : Ctx) (Z' : Zd) (s' : Mir.Se) (a' : Addr) (j' : Nat) (pc' : Mir.Pc), [V.ref Z.sa, V.ref ow] = [.ref Z'.sa, .ref a'] ∧ SR N C c' H3 Z' s' ∧ Pre s' ∧ s'.lines ≠ [] ∧ c'.as[j']? = some a' ∧ c'.obs[j']? = some pc' ∧ ∀ H', SR N C c' H' Z' (Mir.commaS s' pc'.comma) → Q .non H' := fun H3 m3 R3 I3 n3 ec =>
      ⟨c, { Z with os := os }, m3, ow, jw, wh, rfl, R3, I3, n3, o2, o3, fun H' R' => q H' { Z with os := os } rfl (by rw [ec]; exact R')⟩
    refine ⟨_, rfl, Z.sa, C, Z.da, _, _, rfl, R1.self, S.s, S.sn _ (by simp), rfl, Z.oa, _, rfl, .inl (SqL.of R1.opened), _, rfl, Z.sa, C, Z.da, _, _, rfl, R1.self, S.s, S.sn _ (by simp), rfl, _, _, rfl, rfl, _, rfl, ite2 (fun h => ?_) fun h => ?_⟩
    · have hlt : o.length < m.broken := by
        have h : ((os.reverse.map V.ref).length : Int) < (m.broken : Int) := of_decide_eq_true h
        rw [List.length_map, List.length_reverse, hol] at h
        omega
      refine ⟨_, rfl, Z.sa, C, Z.da, _, _, rfl, R1.self, S.s, S.sn _ (by simp), rfl, _, _, rfl, rfl, Z.da, _, R1.self, few rfl, ?_⟩
      have R2 := R1.brk S (m.broken - 1)
      have ei : ((m.broken - 1 : Nat) : Int) = (m.broken : Int) - 1 := by omega
      rw [ei] at R2
      obtain ⟨dx2, ka2, oa2, k1, k2, k3, k4, k5⟩ := R2.piece ha hp
      refine ⟨_, rfl, Z.sa, Z.da, _, rfl, R2.self, rfl, _, rfl, a, N.cP, dx2, _, _, rfl, k1, cs.p, cs.pn _ (by simp), rfl, ?_⟩
      have I2 : Pre0 ⟨m.lines, o, m.broken - 1⟩ := ⟨by simp only; omega, I.tt, I.cn, fun _ => hne, by simp only; omega⟩
      refine ⟨c, { Z with os := os }, ⟨m.lines, o, m.broken - 1⟩, oa2, pc.own, rfl, R2, I2.pre, k3, fun z => k5 (by simp [z]), by omega, fun H3 R3 => ?_⟩
      obtain ⟨I3, hne3, eo3, eb3⟩ := I2.put (b := pc.own) (by omega)
      refine ⟨_, rfl, Z.sa, Z.da, _, rfl, R3.self, rfl, _, rfl, fin H3 _ R3 I3 hne3 ?_⟩
      unfold Mir.closeS
      rw [if_pos hlt]
    · have hlt : ¬ o.length < m.broken := fun z => h (by
        have : decide (((os.reverse.map V.ref).length : Int) < (m.broken : Int)) = true := decide_eq_true (by
          rw [List.length_map, List.length_reverse, hol]; omega)
        exact this)
      have I1 : Pre ⟨m.lines, o, m.broken⟩ := ⟨by simp only; omega, by have := I.tt; simp only; omega, by have := I.cn; simp only; omega, fun _ => hne, by simp only; omega⟩
      have tl := I1.tl
      simp only at tl
      refine ⟨_, rfl, Z.sa, C, Z.da, _, _, rfl, R1.self, S.s, S.sn _ (by simp), rfl, isL R1.told, _, rfl, a, N.cP, dx, _, _, rfl, g1, cs.p, cs.pn _ (by simp), rfl, Z.ta, oa, _, _, rfl, rfl, R1.told, g3, ?_, ?_⟩
      · rw [List.length_map, List.length_map, sizeLine_eq]
        show (tlS m.lines).length + pc.own.length ≤ 16777216
        omega
      have R3 := R1.ext S hne (b := pc.own)
      have t3 := Mir.tot_ext m.lines pc.own
      have I3 : Pre ⟨Mir.ext m.lines pc.own, o, m.broken⟩ := ⟨by simp only; omega, by have := I.tt; simp only; omega, by have := I.cn; simp only [Mir.ext_len]; omega, fun _ => Mir.ext_ne hne _, by simp only; omega⟩
      refine ⟨_, rfl, Z.sa, Z.da, _, rfl, R3.self, rfl, _, rfl, fin _ _ R3 I3 (Mir.ext_ne hne _) ?_⟩
      unfold Mir.closeS
      rw [if_neg hlt]
noncomputable abbrev MGo (P : Program) (w : World) (K : PySem.W.Frag) (mg : Str → Option Value) (base : Heap) (N : Nm) (C : Addr) : Prop := GMt P w K mg base C "go_into" 2 ["self", "piece"] (spGo N C)
noncomputable abbrev MTellClose (P : Program) (w : World) (K : PySem.W.Frag) (mg : Str → Option Value) (base : Heap) (N : Nm) (C : Addr) : Prop := GMt P w K mg base C "tell_closing" 3 ["self", "piece"] (spTellClose N C)
end
end Prg
set_option linter.all false
set_option maxRecDepth 100000
set_option maxHeartbeats 4000000
namespace Prg
open PySem PySem.Spec PyProof.Rows L2
section
variable {P : Program} {w : World} {K : PySem.W.Frag} {mg : Str → Option Value} {base : Heap} {N : Nm} {C : Addr}
inductive SpTellP (N : Nm) (C : Addr) (vs : List V) (H : Hp) (Q : VK) (E_ : XK) : Prop
  | mk : ∀ (c : Ctx) (Z : Zd) (s : Mir.Se) (a : Addr) (j : Nat) (pc : Mir.Pc), vs = [.ref Z.sa, .ref a] → SR N C c H Z s → Pre0 s → c.as[j]? = some a → c.obs[j]? = some pc → pc.key.length ≤ 20000 → pc.own.length ≤ 20000 → (pc.behind = true → s.lines ≠ []) → (pc.behind = false → pc.kind = .closing → s.opened ≠ []) → (∀ H' Z', Z'.sa = Z.sa → SR N C c H' Z' (Mir.tellS c.w s pc) → Q .non H') → SpTellP N C vs H Q E_
noncomputable def spTell (N : Nm) (C : Addr) : Sp := SpTellP N C
theorem scTell : FnScope ["self", "piece"] ["self", "piece"] (defScope sTell) := ⟨rfl, rfl, rfl, by decide +kernel, rfl, by decide +kernel, by decide +kernel⟩
theorem kd_eq (k k' : Mir.Kd) : (decide (V.str (kdS k) = V.str (kdS k')) = true) ↔ k = k' := by
  constructor
  · intro z
    have z : V.str (kdS k) = V.str (kdS k') := of_decide_eq_true z
    injection z with z
    revert z
    cases k <;> cases k' <;> first | (intro _; rfl) | (intro z; exact absurd z (by decide))
  · intro z
    rw [z]
    exact decide_eq_true rfl
theorem ok_tell {f : Addr} {fd : FuncData} (F : Fun K "tell" "Setter.tell" sTell f fd) (T : Txt K mg) (cs : Cs K mg N) (S : Ss K C N) (G2 : MPut P w K mg base N C) (G3 : MPutComma P w K mg base N C) (G4 : FKeyTold P w K mg base) (GO : MGo P w K mg base N C) (GC : MTellClose P w K mg base N C) : FnOk P w K mg base (CXw P w) 4 f fd ["self", "piece"] (spTell N C) := by
  refine F.okN scTell (fun vs H Q E h => ?_) (fun cdv A outer s H vs Q E hr h => ?_)
  · obtain ⟨c, Z, s, a, j, pc, rfl, _⟩ := h
    rfl
  · obtain ⟨c, Z, m, a, j, pc, rfl, R, I, ha, hp, lk, lo, hbh, hcl, q⟩ := h
    have hr1 := hr.mono (by decide : 1 ≤ 3)
    have hr2 := hr.mono (by decide : 2 ≤ 3)
    refine ⟨_, pss_one (ps_if (pt_val (pe_fld (pv 1) rfl))
      (pss_one (ps_expr (pe_bm PySem.F.plainAttrs_list PySem.F.slot_list_extend PySem.F.type_list_extend mt_extend (pe_fld (pv 0) rfl) (pa_cons (pe_op op_cat (pe_lst (pa_cons (pe_gi T.blank) pa_nil)) (pe_fld (pv 1) rfl)) pa_nil))))
      (pss_one (ps_if (pt_cmpR op_eq (pe_fld (pv 1) rfl) (pe_gs T.kClosing) (nomark _)) (pss_one (ps_expr (pe_mt GC hr passN (pv 0) (pa_cons (pv 1) pa_nil))))
      (pss_cons (ps_expr (pe_mt G2 hr2 passN (pv 0) (pa_cons (pe_op op_cat (pe_fn G4 hr1 passN (pa_cons (pe_fld (pv 1) rfl) pa_nil)) (pe_fld (pv 1) rfl)) pa_nil)))
        (pss_one (ps_if (pt_cmpR op_eq (pe_fld (pv 1) rfl) (pe_gs T.kOpening) (nomark _)) (pss_one (ps_expr (pe_mt GO hr2 passN (pv 0) (pa_cons (pv 1) pa_nil))))
          (pss_one (ps_expr (pe_mt G3 hr2 passN (pv 0) (pa_cons (pv 1) pa_nil)))))))))), ?_⟩
    obtain ⟨dx, ka, oa, g1, g2, g3, g4, g5⟩ := R.piece ha hp
    refine ⟨_, rfl, a, N.cP, dx, _, _, rfl, g1, cs.p, cs.pn _ (by simp), rfl, _, rfl, ite2 (fun hb => ?_) fun hb => ?_⟩
    · have hne := hbh hb
      have tl := I.pre.tl
      refine ⟨_, rfl, Z.sa, C, Z.da, _, _, rfl, R.self, S.s, S.sn _ (by simp), rfl, isL R.told, (by show 1 ≤ sizeLine; decide), fun p1 h1 => ?_⟩
      have s1 := same_new (o := .lst [.int 32]) h1
      refine ⟨_, rfl, a, N.cP, dx, _, _, rfl, s1 _ _ g1, cs.p, cs.pn _ (by simp), rfl, p1, oa, _, _, rfl, rfl, upd_same, s1 _ _ g3, ?_, fun p2 h2 => ?_⟩
      · rw [List.length_map, sizeLine_eq]
        show 1 + pc.own.length ≤ 16777216
        omega
      have s2 := same_new (o := .lst ([V.int 32] ++ pc.own.map vi)) h2
      refine ⟨Z.ta, p2, _, _, rfl, rfl, s2 _ _ (s1 _ _ R.told), upd_same, ?_, ?_⟩
      · rw [List.length_map, List.length_append, List.length_map, sizeLine_eq]
        show (tlS m.lines).length + (1 + pc.own.length) ≤ 16777216
        omega
      · refine q _ Z rfl ?_
        unfold Mir.tellS
        rw [if_pos hb]
        exact ((R.same s1).same s2).ext S hne (b := 32 :: pc.own)
    · have hb : pc.behind = false := by simpa using hb
      refine ⟨_, rfl, a, N.cP, dx, _, _, rfl, g1, cs.p, cs.pn _ (by simp), rfl, rfl, _, rfl, ite2 (fun h => ?_) fun h => ?_⟩
      · have hk : pc.kind = .closing := (kd_eq _ .closing).mp h
        cases ho : m.opened with
        | nil => exact absurd ho (hcl hb hk)
        | cons wh o =>
          refine ⟨_, rfl, Z.sa, Z.da, _, rfl, R.self, rfl, _, rfl, c, Z, m, a, j, pc, wh, o, rfl, R, I, ha, hp, lo, ho, fun H' Z' e' R' => q H' Z' e' ?_⟩
          unfold Mir.tellS
          rw [if_neg (by rw [hb]; simp), hk]
          simp only
          rw [ho]
          exact R'
      · have hk : pc.kind ≠ .closing := fun z => h ((kd_eq _ .closing).mpr z)
        have hkt := Mir.kt_len pc.key
        refine ⟨_, rfl, Z.sa, Z.da, _, rfl, R.self, rfl, _, rfl, a, N.cP, dx, _, _, rfl, g1, cs.p, cs.pn _ (by simp), rfl, ka, pc.key, rfl, g2, lk, fun H1 p1 s1 hp1 hv1 => ?_⟩
        refine ⟨_, rfl, a, N.cP, dx, _, _, rfl, s1 _ _ g1, cs.p, cs.pn _ (by simp), rfl, p1, oa, _, _, rfl, rfl, hv1, s1 _ _ g3, ?_, fun p2 hp2 => ?_⟩
        · rw [List.length_map, List.length_map, sizeLine_eq]
          omega
        have s2 := same_new (o := .lst ((Mir.keyTold pc.key).map vi ++ pc.own.map vi)) hp2
        have hbl : (Mir.keyTold pc.key ++ pc.own).length ≤ 50000 := by rw [List.length_append]; omega
        have np2 : p2 ≠ Z.ta := fun z => by rw [z, s1 _ _ R.told] at hp2; cases hp2
        refine ⟨c, Z, m, p2, Mir.keyTold pc.key ++ pc.own, rfl, (R.same s1).same s2, I.pre, by rw [upd_same, List.map_append], np2, hbl, fun H2 R2 => ?_⟩
        obtain ⟨I2, hne2, eo2, eb2⟩ := I.put hbl
        obtain ⟨dy, ky, oy, y1, y2, y3, y4, y5⟩ := R2.piece ha hp
        refine ⟨_, rfl, a, N.cP, dy, _, _, rfl, y1, cs.p, cs.pn _ (by simp), rfl, rfl, _, rfl, ite2 (fun h2 => ?_) fun h2 => ?_⟩
        · have hk2 : pc.kind = .opening := (kd_eq _ .opening).mp h2
          refine ⟨_, rfl, Z.sa, Z.da, _, rfl, R2.self, rfl, _, rfl, c, Z, _, a, j, pc, rfl, R2, I2, ha, hp, fun H' Z' e' R' => q H' Z' e' ?_⟩
          unfold Mir.tellS
          rw [if_neg (by rw [hb]; simp), hk2]
          exact R'
        · have hk2 : pc.kind ≠ .opening := fun z => h2 ((kd_eq _ .opening).mpr z)
          refine ⟨_, rfl, Z.sa, Z.da, _, rfl, R2.self, rfl, _, rfl, c, Z, _, a, j, pc, rfl, R2, I2, hne2, ha, hp, fun H' R' => q H' Z rfl ?_⟩
          unfold Mir.tellS
          rw [if_neg (by rw [hb]; simp)]
          cases hkd : pc.kind with
          | closing => exact absurd hkd hk
          | opening => exact absurd hkd hk2
          | plain => exact R'
          | comment => exact R'
end
end Prg
set_option linter.all false
set_option maxRecDepth 100000
set_option maxHeartbeats 8000000
namespace Prg
open PySem PySem.Spec PyProof.Rows L2
open PySem.W (CodeHd)
theorem cut_one (xs : List V) : cutV xs (some 1) none = xs.drop 1 := by
  have h := HT.sIx_nat xs.length 0 1
  unfold cutV
  rw [HT.sIx_none]
  have h : HT.sIx xs.length 0 (some 1) = min 1 xs.length := h
  rw [h]
  cases xs with
  | nil => rfl
  | cons x r =>
    rw [List.length_cons, Nat.min_eq_left (by omega), List.drop_one, List.tail_cons, Nat.add_sub_cancel, List.take_length]
section
variable {P : Program} {w : World} {K : PySem.W.Frag} {mg : Str → Option Value} {base : Heap} {N : Nm} {C : Addr}
inductive SpSInitP (C : Addr) (vs : List V) (H : Hp) (Q : VK) (E_ : XK) : Prop
  | mk : ∀ (x dx : Addr) (n : Int), vs = [.ref x, .int n] → H x = some (.ins C dx []) → (∀ H' la oa, H' x = some (.ins C dx (sf n la oa 0)) → H' la = some (.lst []) → H' oa = some (.lst []) → H la = none → H oa = none → la ≠ oa → Kp [x] H H' → Q .non H') → SpSInitP C vs H Q E_
noncomputable def spSInit (C : Addr) : Sp := SpSInitP C
theorem scSInit : FnScope ["self", "width"] ["self", "width"] (defScope sSInit) := ⟨rfl, rfl, rfl, by decide +kernel, rfl, by decide +kernel, by decide +kernel⟩
theorem ok_sInit {f : Addr} {fd : FuncData} (F : Fun K "__init__" "Setter.__init__" sSInit f fd) (S : Ss K C N) : FnOk P w K mg base (CXw P w) 1 f fd ["self", "width"] (spSInit C) := by
  refine F.okN scSInit (fun vs H Q E h => ?_) (fun cdv A outer s H vs Q E hr h => ?_)
  · obtain ⟨x, dx, n, rfl, _⟩ := h
    rfl
  · obtain ⟨x, dx, n, rfl, hx, q⟩ := h
    refine ⟨_, pss_cons (ps_fld (pv 0) (pv 1) rfl) (pss_cons (ps_fld (pv 0) (pe_lst pa_nil) rfl) (pss_cons (ps_fld (pv 0) (pe_lst pa_nil) rfl) (pss_one (ps_fld (pv 0) pe_int rfl)))), ?_⟩
    refine ⟨_, rfl, _, rfl, x, C, dx, _, rfl, hx, S.s, S.sn _ (by simp), few rfl, ?_⟩
    refine ⟨Nat.zero_le _, fun la hla => ?_⟩
    have n1 : x ≠ la := fun z => by rw [← z, upd_same] at hla; cases hla
    refine ⟨_, rfl, x, C, dx, _, rfl, (by rw [upd_ne n1]; exact upd_same), S.s, S.sn _ (by simp), few rfl, ?_⟩
    refine ⟨Nat.zero_le _, fun oa hoa => ?_⟩
    have n2 : x ≠ oa := fun z => by rw [← z, upd_same] at hoa; cases hoa
    refine ⟨_, rfl, x, C, dx, _, rfl, (by rw [upd_ne n2]; exact upd_same), S.s, S.sn _ (by simp), few rfl, ?_⟩
    refine ⟨_, rfl, x, C, dx, _, rfl, upd_same, S.s, S.sn _ (by simp), few rfl, ?_⟩
    rw [upd_ne (Ne.symm n1)] at hla
    have n3 : la ≠ oa := fun z => by rw [← z, upd_ne (Ne.symm n1), upd_same] at hoa; cases hoa
    rw [upd_ne (Ne.symm n2), upd_ne (Ne.symm n3), upd_ne (Ne.symm n2)] at hoa
    refine q _ la oa ?_ ?_ ?_ hla hoa n3 fun b o e nb => ?_
    · rw [upd_same]; rfl
    · rw [upd_ne (Ne.symm n1), upd_ne (Ne.symm n1), upd_ne n3, upd_ne (Ne.symm n1), upd_same]
    · rw [upd_ne (Ne.symm n2), upd_ne (Ne.symm n2), upd_same]
    · have nb : b ≠ x := fun z => nb (by simp [z])
      rw [upd_ne nb, upd_ne nb, upd_ne (ne_of_none e hoa), upd_ne nb, upd_ne (ne_of_none e hla), upd_ne nb]
      exact e
noncomputable abbrev KSetter (P : Program) (w : World) (K : PySem.W.Frag) (mg : Str → Option Value) (base : Heap) (C : Addr) : Prop := GMk P w K mg base "Setter" C 1 ["self", "width"] (spSInit C)
noncomputable abbrev MTell (P : Program) (w : World) (K : PySem.W.Frag) (mg : Str → Option Value) (base : Heap) (N : Nm) (C : Addr) : Prop := GMt P w K mg base C "tell" 4 ["self", "piece"] (spTell N C)
noncomputable def s0 : Mir.Se := ⟨[], [], 0⟩
theorem run_take {n : Nat} {pcs : List Mir.Pc} {i : Nat} {pc : Mir.Pc} (h : pcs[i]? = some pc) : Mir.runS n s0 (pcs.take (i + 1)) = Mir.tellS n (Mir.runS n s0 (pcs.take i)) pc := by
  have e : pcs.take (i + 1) = pcs.take i ++ [pc] := by
    rw [List.take_add_one, h]
    rfl
  rw [e, Mir.run_app]
  rfl
inductive SpSetLinesP (N : Nm) (C : Addr) (vs : List V) (H : Hp) (Q : VK) (E_ : XK) : Prop
  | mk : ∀ (n : Nat) (Z : Zd) (pa a0 : Addr) (as : List Addr) (r : Mir.Pc) (pcs : List Mir.Pc), vs = [.ref Z.sa, .ref pa] → SR N C ⟨a0 :: as, r :: pcs, n, [(pa, as.map V.ref)]⟩ H Z s0 → Mir.SI s0 pcs → (∀ pc ∈ pcs, pc.key.length ≤ 20000 ∧ pc.own.length ≤ 20000) → (Mir.runS n s0 pcs).lines ≠ [] → (∀ H' p, H' p = some (.lst ((toldF (Mir.runS n s0 pcs).lines).map vi)) → Q (.ref p) H') → SpSetLinesP N C vs H Q E_
noncomputable def spSetLines (N : Nm) (C : Addr) : Sp := SpSetLinesP N C
theorem scSetLines : FnScope ["self", "pieces", "piece"] ["self", "pieces"] (defScope sSetLines) := ⟨rfl, rfl, rfl, by decide +kernel, rfl, by decide +kernel, by decide +kernel⟩
theorem ok_setLines {f : Addr} {fd : FuncData} (F : Fun K "set_lines" "Setter.set_lines" sSetLines f fd) (T : Txt K mg) (S : Ss K C N) (G2 : MTell P w K mg base N C) : FnOk P w K mg base (CXw P w) 5 f fd ["self", "pieces"] (spSetLines N C) := by
  refine F.okN scSetLines (fun vs H Q E h => ?_) (fun cdv A outer s H vs Q E hr h => ?_)
  · obtain ⟨n, Z, pa, a0, as, r, pcs, rfl, _⟩ := h
    rfl
  · obtain ⟨n, Z0, pa, a0, as, r, pcs, rfl, R0, I0, hb, hne, q⟩ := h
    refine ⟨_, pss_cons (ps_for PassesOwn.never rfl (pi_list (pv 1)) (pg_name (i := 2) scSetLines.nd rfl (Or.inl rfl)) (pss_one (ps_expr (pe_mt G2 hr passN (pv 0) (pa_cons (pv 2) pa_nil)))))
      (pss_one (ps_ret (pe_op op_cat (pe_slice sl_list (pe_fld (pv 0) rfl) (po_some pe_int) po_none) (pe_lst (pa_cons (pe_gi T.lineEnd) pa_nil))))), ?_⟩
    have len : as.length = pcs.length := by
      have := R0.pcs.len
      simpa using this
    refine ⟨_, rfl, pa, rfl, ⟨_, SqL.of (R0.gd (pa, as.map V.ref) (by simp))⟩, for_list (xs := as.map V.ref) (fun i σ H' => ∃ (Z : Zd) (v : Option V), σ = [some (.ref Z.sa), some (.ref pa), v] ∧ SR N C ⟨a0 :: as, r :: pcs, n, [(pa, as.map V.ref)]⟩ H' Z (Mir.runS n s0 (pcs.take i)) ∧ Mir.SI (Mir.runS n s0 (pcs.take i)) (pcs.drop i))
      ⟨Z0, none, rfl, R0, I0⟩ (fun i σ H' _ ⟨Z, v, _, R, _⟩ => SqL.of (R.gd (pa, as.map V.ref) (by simp))) ?_ ?_⟩
    · rintro i x' σ H' hi ⟨Z, v, rfl, R, I⟩
      rw [List.getElem?_map] at hi
      obtain ⟨a, ha, rfl⟩ : ∃ a, as[i]? = some a ∧ V.ref a = x' := by
        cases ha : as[i]? with
        | none => rw [ha] at hi; cases hi
        | some a => rw [ha] at hi; exact ⟨a, rfl, Option.some.inj hi⟩
      have hil : i < pcs.length := by rw [← len]; exact (List.getElem?_eq_some_iff.mp ha).1
      obtain ⟨pc, hpc⟩ : ∃ pc, pcs[i]? = some pc := ⟨_, List.getElem?_eq_getElem hil⟩
      have ed : pcs.drop i = pc :: pcs.drop (i + 1) := by
        rw [List.drop_eq_getElem_cons hil]
        rw [List.getElem?_eq_getElem hil] at hpc
        rw [Option.some.inj hpc]
      have hpb := hb pc (List.mem_of_getElem? hpc)
      rw [ed] at I
      have I' := I.step (w := n)
      rw [← run_take hpc] at I'
      have dp := I.dp
      unfold Mir.dep at dp
      have Ip : Pre0 (Mir.runS n s0 (pcs.take i)) := ⟨Nat.le_trans I.br I.op, by have := I.tt; omega, by have := I.cn; omega, I.ne, I.op⟩
      refine ⟨_, rfl, Z.sa, Z.da, _, rfl, R.self, rfl, _, rfl, ?_⟩
      refine ⟨⟨a0 :: as, r :: pcs, n, [(pa, as.map V.ref)]⟩, Z, _, a, i + 1, pc, rfl, R, Ip, ha, hpc, hpb.1, hpb.2, fun hh => ?_, fun hh hk => ?_, fun H2 Z2 e2 R2 => ?_⟩
      · rw [if_pos hh] at dp
        exact Mir.isE.mp dp.1
      · rw [if_neg (by rw [hh]; simp), hk] at dp
        intro z
        have dp := dp.1
        rw [z] at dp
        exact absurd dp (by simp)
      · refine ⟨Z2, some (.ref a), by rw [e2]; rfl, ?_, I'⟩
        rw [run_take hpc]
        exact R2
    · rintro σ H' ⟨Z, v, rfl, R, I⟩
      rw [List.length_map, len, List.take_length] at R I
      rw [List.drop_length] at I
      have tl := tlS_len (Mir.runS n s0 pcs).lines
      have t1 := I.tt
      have t2 := I.cn
      simp only [List.length_nil] at t1 t2
      refine ⟨_, rfl, Z.sa, C, Z.da, _, _, rfl, R.self, S.s, S.sn _ (by simp), rfl, _, rfl, Z.ta, _, rfl, SqL.of R.told, fun p1 h1 => ?_⟩
      rw [cut_one, ← List.map_drop]
      refine ⟨(by show 1 ≤ sizeLine; decide), fun p2 h2 => ?_⟩
      refine ⟨p1, p2, _, _, rfl, rfl, same_new h2 _ _ upd_same, upd_same, ?_, fun p3 h3 => q _ p3 ?_⟩
      · rw [List.length_map, List.length_drop, sizeLine_eq]
        show _ + 1 ≤ 16777216
        omega
      · rw [upd_same, ← tlS_told hne, List.map_append]
        rfl
noncomputable abbrev MSetLines (P : Program) (w : World) (K : PySem.W.Frag) (mg : Str → Option Value) (base : Heap) (N : Nm) (C : Addr) : Prop := GMt P w K mg base C "set_lines" 5 ["self", "pieces"] (spSetLines N C)
theorem made_setter {H : Hp} {n : Int} {Q : Addr → Hp → Prop} {E : XK} (q : ∀ x dx H1 ta oa, H x = none → H1 x = some (.ins C dx (sf n ta oa 0)) → H1 ta = some (.lst []) → H1 oa = some (.lst []) → H ta = none → H oa = none → ta ≠ oa → Same H H1 → Q x H1) :
    ∀ x dx, H x = none → H dx = none → dx ≠ x → spSInit C (.ref x :: ([.int n] ++ [])) (upd (upd H dx (.own x)) x (.ins C dx [])) (fun v H2 => v = .non ∧ Q x H2) E := by
  intro x dx hx hdx hne
  have sm : Same H (upd (upd H dx (.own x)) x (.ins C dx [])) := fun b o e => by rw [upd_ne (ne_of_none e hx), upd_ne (ne_of_none e hdx)]; exact e
  refine ⟨x, dx, n, rfl, upd_same, fun H1 ta oa h1 h2 h3 h4 h5 h6 k1 => ⟨rfl, ?_⟩⟩
  have s1 : Same H H1 := fun b o e => k1 b o (sm b o e) fun z => by
    have z : b = x := by simpa using z
    rw [z, hx] at e; cases e
  exact q x dx H1 ta oa hx h1 h2 h3 (sm.free h4) (sm.free h5) h6 s1
end
end Prg
set_option linter.all false
set_option maxRecDepth 100000
set_option maxHeartbeats 8000000
namespace Prg
open PySem PySem.Spec PyProof.Rows L2
open PySem.W (CodeHd)
noncomputable def ansF (n : Int) (t : List Nat) : List Int := if 20 ≤ n ∧ n ≤ 200 then ansT (Sg51.format n.toNat) t else [-2]
theorem wt_mem {l : List Mir.Pc} {p : Mir.Pc} (h : p ∈ l) : p.key.length + p.own.length ≤ Mir.wt l := by
  induction l with
  | nil => cases h
  | cons x r ih =>
    rw [Mir.wt_cons]
    rcases List.mem_cons.mp h with z | z
    · rw [z]; omega
    · have := ih z; omega
theorem run_SI {n : Nat} : ∀ {pcs : List Mir.Pc} {s : Mir.Se}, Mir.SI s pcs → Mir.SI (Mir.runS n s pcs) []
  | [], s, h => h
  | p :: r, s, h => run_SI (pcs := r) (h.step (w := n))
theorem toldF_len (ls : List (List Nat)) : (toldF ls).length = Mir.tot ls + ls.length := by
  induction ls with
  | nil => rfl
  | cons b r ih =>
    have e1 : toldF (b :: r) = (b ++ [10]) ++ toldF r := by simp [toldF]
    have e2 : Mir.tot (b :: r) = b.length + Mir.tot r := by simp [Mir.tot]
    rw [e1, e2, List.length_append, ih, List.length_append, List.length_cons]
    simp
    omega
section
variable {P : Program} {w : World} {K : PySem.W.Frag} {mg : Str → Option Value} {base : Heap} {N : Nm} {C : Addr}
inductive SpFmtP (N : Nm) (n : Nat) (vs : List V) (H : Hp) (Q : VK) (E_ : XK) : Prop
  | mk : ∀ (pa a0 : Addr) (as : List Addr) (r : Mir.Pc) (pcs : List Mir.Pc) (B : List Addr), vs = [.ref pa] → H pa = some (.lst (as.map V.ref)) → Pcs N.cP B H (a0 :: as) (r :: pcs) → Mir.SI s0 pcs → (∀ pc ∈ pcs, pc.key.length ≤ 20000 ∧ pc.own.length ≤ 20000) → (Mir.runS n s0 pcs).lines ≠ [] → (∀ H' p, H' p = some (.lst ((toldF (Mir.runS n s0 pcs).lines).map vi)) → Q (.ref p) H') → SpFmtP N n vs H Q E_
noncomputable def spFmt (N : Nm) (n : Nat) : Sp := SpFmtP N n
theorem answer_lamC {H : Hp} {a lf lc cc : Addr} {t : List Nat} {name qual : Str} {params : Arguments} {body : Expr} {scope : Scope} {pm ct : Value} {oc o : Obj} {p y : Str} {v : V} {sp : Sp} {g : List Sg51.Node → List Nat} {Q : VK} {E : XK} (hH : LamHC H lf (lamOC name qual params body scope [(y, cc)] pm lc ct) lc oc cc o) (hco : CodeO qual oc) (hv : CellV o v)
    (hkind : scope.kind = .function) (hcr : scope.isCoroutine = false) (hgen : scope.isGenerator = false) (hcells : ∀ x ∈ scope.names, x.2 ≠ .cell) (hp : scope.names.lookup p = some .local) (hy : scope.names.lookup y = some .free) (hfree : ∀ x, scope.names.lookup x = some .free → x = y) (hpy : p ≠ y) (hpp : p = "pieces")
    (hS : Rd H a (.lst (t.map vi))) (lt : t.length ≤ 20000) (h8 : B8 t) (len : ∀ vs H Q E, sp vs H Q E → vs.length = 1)
    (hbody : ∀ (A : Around) (outer : List Env) (s : Shared) (H : Hp) (x : V) (Q : VK), Room 6 (A.deeper (PySem.W.envX qual scope s.heap.objs.size lf (.ref lc) [(y, cc)])) → sp [x] H Q E0 →
      ∃ t, PE (cxL P w K mg base [p, y] qual scope lf (.ref lc) [(y, cc)] A outer s H).nox body t ∧ t [some x, some v] H Q)
    (hbi : ∀ us : List Value, us.length = (["pieces"] : List Str).length → bindArgs (lamFC name qual params body scope [(y, cc)] pm lc ct) ⟨us, []⟩ = pure ((["pieces"] : List Str).zip us))
    (hT : ∀ H1 pa ts a0 as r B (Q' : VK), Pieces (N.w [(lf, .frz (lamOC name qual params body scope [(y, cc)] pm lc ct) U0), (lc, .frz oc U0), (cc, .frz o U0)]) t H1 pa ts a0 as r B → (∀ H2 p, H2 p = some (.lst ((g (Mir.nodes ts)).map vi)) → (g (Mir.nodes ts)).length ≤ 4000000 → Q' (.ref p) H2) → sp [.ref pa] (del H1 cc) (fun x H' => H' cc = none → Q' x (upd H' cc (.frz o U0))) E0)
    (q : ∀ H' p, H' p = some (.lst ((ansT g t).map V.int)) → Q (.ref p) H') : spAnswer P w K mg base N [.ref a, .ref lf] H Q E := by
  subst hpp
  refine ⟨a, lf, t, _, _, g, [(lf, .frz (lamOC name qual params body scope [(y, cc)] pm lc ct) U0), (lc, .frz oc U0), (cc, .frz o U0)], fun _ => True, rfl, hS, lt, h8, ?_, ?_, fun H' hs => .inl ⟨_, _, _, _, _, hs _ List.mem_cons_self⟩, lam_okC (k := 6) hco hv hkind hcr hgen hcells hp hy hfree hpy len hbody, .all hbi, fun _ _ _ _ => trivial, fun _ _ => trivial, ?_, fun H' p hp _ => q H' p hp⟩
  · intro g hg
    rcases List.mem_cons.mp hg with z | z
    · rw [z]; rfl
    · rcases List.mem_cons.mp z with z | z
      · rw [z]; rfl
      · rw [List.mem_singleton.mp z]; rfl
  · intro g hg
    rcases List.mem_cons.mp hg with z | z
    · rw [z]; exact hH.1
    · rcases List.mem_cons.mp z with z | z
      · rw [z]; exact hH.2.1
      · rw [List.mem_singleton.mp z]; exact hH.2.2
  · intro H1 pa ts a0 as r B Q' W hq
    exact ⟨⟨W.tb _ List.mem_cons_self, W.tb _ (List.mem_cons_of_mem _ List.mem_cons_self), W.tb _ (List.mem_cons_of_mem _ (List.mem_cons_of_mem _ List.mem_cons_self))⟩, hT H1 pa ts a0 as r B Q' W fun H2 p hp hl => hq H2 p hp hl trivial⟩
inductive SpFormatP (Tt : Addr) (vs : List V) (H : Hp) (Q : VK) (E_ : XK) : Prop
  | mk : ∀ (n : Int) (a : Addr) (t : List Nat), vs = [.int n, .ref a] → Rd H a (.lst (t.map vi)) → t.length ≤ 20000 → B8 t → H Tt = some (.tbl #[]) → (∀ H' p, H' p = some (.lst ((ansF n t).map V.int)) → Q (.ref p) H') → SpFormatP Tt vs H Q E_
noncomputable def spFormat (Tt : Addr) : Sp := SpFormatP Tt
theorem scFormat : FnScope ["width", "text"] ["width", "text"] (defScope sFormat) := ⟨rfl, rfl, rfl, by decide +kernel, rfl, by decide +kernel, by decide +kernel⟩
theorem ok_format {f cd Tt : Addr} {fd : FuncData} (F : Fun K "format_of" "format_of" sFormat f fd) (hfd : fd.code = .ref cd) (C' : CodeHd base cd Tt) (hb : BB mg base) (TL : GI mg "LEAST_WIDTH" 20) (TM : GI mg "MOST_WIDTH" 200) (S : Ss K C N) (GA : FAnswer P w K mg base N) (GS : KSetter P w K mg base C) (GL : MSetLines P w K mg base N C) : FnOk P w K mg base (CXw P w) 10 f fd ["width", "text"] (spFormat Tt) := by
  refine F.okC hfd scFormat (fun vs H Q E h => ?_) (fun A outer s H vs Q E hr h => ?_)
  · obtain ⟨n, a, t, rfl, _⟩ := h
    rfl
  · obtain ⟨n, a, t, rfl, hS, lt, h8, hT, q⟩ := h
    refine ⟨_, pss_cons (ps_if (pw_or (pt_cmpR op_lt (pv 0) (pe_gi TL) (nomark _)) (pw_or1 (pt_cmpR op_gt (pv 0) (pe_gi TM) (nomark _)))).pt (pss_one (ps_ret (pe_lst (pa_cons (pe_un un_neg pe_int) pa_nil)))) pss_nil)
      (pss_one (ps_ret (pe_fnC (i := 0) (y := "width") (c := s.heap.objs.size + 1) GA hr rfl rfl rfl rfl rfl rfl (pa_cons (pv 1) (pa_cons (pe_lamC (cl := [("width", s.heap.objs.size + 1)]) rfl C' hb rfl) pa_nil))))), ?_⟩
    have bad : ¬ (20 ≤ n ∧ n ≤ 200) → ∀ p, H p = none → Q (.ref p) (upd H p (.lst [.int (-2)])) := fun hw p hp => q _ p (by
      unfold ansF
      rw [if_neg hw]
      exact upd_same)
    refine ⟨_, rfl, _, _, rfl, rfl, _, rfl, ite2 (fun h => ?_) fun h => ?_⟩
    · have h : n < 20 := of_decide_eq_true h
      exact iteT ⟨_, rfl, (by show 1 ≤ sizeLine; decide), bad (by omega)⟩
    have h1 : ¬ n < 20 := fun z => h (decide_eq_true z)
    refine ⟨_, rfl, _, _, rfl, rfl, _, rfl, ite2 (fun h => ?_) fun h => ?_⟩
    · have h : 200 < n := of_decide_eq_true h
      exact ⟨_, rfl, (by show 1 ≤ sizeLine; decide), bad (by omega)⟩
    have h2 : ¬ 200 < n := fun z => h (decide_eq_true z)
    have hw : 20 ≤ n ∧ n ≤ 200 := by omega
    have en : ((n.toNat : Nat) : Int) = n := Int.toNat_of_nonneg (by omega)
    refine ⟨_, rfl, #[], hT, trivial, rfl, fun lf lc oc ct pm hlf hlc hne hco => ?_⟩
    refine ⟨_, rfl, fun o hcn hcv => ?_⟩
    generalize hcc : s.heap.objs.size + 1 = cc at hcn ⊢
    have nT : ∀ b o, H b = some o → b ≠ lf ∧ b ≠ lc := fun b o e => ⟨ne_of_none e hlf, ne_of_none e hlc⟩
    have hS' : ∀ (x y z : HO), Rd (upd (upd (upd H Tt x) lc y) lf z) a (.lst (t.map vi)) := fun x y z => by
      rcases hS with h | ⟨o, h⟩
      · refine .inl ?_
        rw [upd_ne (nT _ _ h).1, upd_ne (nT _ _ h).2, upd_ne (fun z => by rw [z, hT] at h; cases h)]; exact h
      · refine .inr ⟨o, ?_⟩
        rw [upd_ne (nT _ _ h).1, upd_ne (nT _ _ h).2, upd_ne (fun z => by rw [z, hT] at h; cases h)]; exact h
    have sm := fun (o' : HO) => same_new (o := o') hcn
    refine answer_lamC (E := E0) (p := "pieces") (y := "width") (v := .int n) (sp := spFmt N n.toNat) (g := Sg51.format n.toNat) ⟨sm _ _ _ upd_same, sm _ _ _ ((upd_ne (Ne.symm hne)).trans upd_same), upd_same⟩ hco hcv rfl rfl rfl (by decide +kernel) rfl rfl (fun x hx => ?_) (by decide) rfl (rd_same (sm _) (hS' _ _ _)) lt h8 (fun vs H Q E h => ?_) (fun A outer s H x Q hr h => ?_) (fun us hl => ?_) (fun H1 pa ts a0 as r B Q' W hq => ?_) fun H' p hp hc' => ?_
    · have z := PySem.mem_of_lookup hx
      rcases List.mem_cons.mp z with z | z
      · first | (injection z with z1 z2; exact z1) | (injection z with z1 z2; cases z2; done) | (injection z with z1 z2; done)
      · rcases List.mem_cons.mp z with z | z
        · first | (injection z with z1 z2; exact z1) | (injection z with z1 z2; cases z2; done) | (injection z with z1 z2; done)
        · rcases List.mem_cons.mp z with z | z
          · first | (injection z with z1 z2; exact z1) | (injection z with z1 z2; cases z2; done) | (injection z with z1 z2; done)
          · cases z
    · obtain ⟨pa, a0, as, r, pcs, B, rfl, _⟩ := h
      rfl
    · obtain ⟨pa, a0, as, r, pcs, B, e1, hpa, PP, I0, hbl, hne2, q2⟩ := h
      have e1 : x = .ref pa := by injection e1
      subst e1
      have hr2 := hr.mono (j := 2) (by decide)
      have hr5 := hr.mono (j := 5) (by decide)
      refine ⟨_, pe_mt GL hr5 passN (pe_mk GS hr2 passN (pa_cons (pv 1) pa_nil)) (pa_cons (pv 0) pa_nil), ?_⟩
      refine ⟨_, rfl, ?_⟩
      refine made_setter (n := n) fun x dx H1 ta oa hx h1 h2 h3 h4 h5 h6 s1 => ?_
      refine ⟨x, dx, _, rfl, h1, rfl, _, rfl, ?_⟩
      have hpa1 := s1 _ _ hpa
      have frB : ∀ b, b ∈ [ta, oa] → H b = none := fun b hb => by
        have z : b = ta ∨ b = oa := by simpa using hb
        rcases z with z | z
        · rw [z]; exact h4
        · rw [z]; exact h5
      have P0 : Pcs N.cP [ta, oa] H (a0 :: as) (r :: pcs) := ⟨PP.nd, PP.len, fun i pc e => let ⟨a, e1, dx, ka, oa', g1, g2, g3, g4, g5⟩ := PP.at_ i pc e
        ⟨a, e1, dx, ka, oa', g1, g2, g3, fun z => (by rw [frB _ z] at g2; cases g2), fun z => (by rw [frB _ z] at g3; cases g3)⟩⟩
      have hgp : ∀ g ∈ [(pa, as.map V.ref)], H g.1 = some (.lst g.2) := fun g hg => by rw [List.mem_singleton.mp hg]; exact hpa
      refine ⟨n.toNat, ⟨x, dx, ta, oa, []⟩, pa, a0, as, r, pcs, rfl, ⟨by rw [en]; exact h1, h2, h3, h6, rfl, fun i pc e => (by cases e), P0.same s1, fun g hg => s1 _ _ (hgp g hg), fun g hg z => ?_⟩, I0, hbl, hne2, q2⟩
      have := frB _ z
      rw [hgp g hg] at this
      cases this
    · cases us with
      | nil => cases hl
      | cons u r =>
        cases r with
        | nil => rfl
        | cons _ _ => cases hl
    · obtain ⟨b1, b2, b3⟩ : H1 lf = _ ∧ H1 lc = _ ∧ H1 cc = _ := ⟨W.tb _ List.mem_cons_self, W.tb _ (List.mem_cons_of_mem _ List.mem_cons_self), W.tb _ (List.mem_cons_of_mem _ (List.mem_cons_of_mem _ List.mem_cons_self))⟩
      have k1 : Kp [cc] H1 (del H1 cc) := fun b o e nb => by rw [del_ne (by simpa using nb)]; exact e
      have I0 : Mir.SI s0 (Mir.lins ts) := Mir.SI.start W.ok W.ht W.wt W.few
      have hfm : Sg51.format n.toNat (Mir.nodes ts) = toldF (Mir.runS n.toNat s0 (Mir.lins ts)).lines := by
        unfold Sg51.format toldF
        rw [← Mir.set_lines n.toNat W.ok W.one W.ht]
        rfl
      refine ⟨pa, a0, as, r, Mir.lins ts, B, rfl, k1 _ _ W.lst (by simpa using ne_of W.lst b3 (by intro z; cases z)), W.pcs.kp k1 fun b hb => ?_, I0, fun pc hpc => ?_, (by show (Mir.runS n.toNat ⟨[], [], 0⟩ (Mir.lins ts)).lines ≠ []; rw [Mir.set_lines n.toNat W.ok W.one W.ht]; exact Mir.lines_ne n.toNat W.read), fun H' p hp hn => ?_⟩
      · rw [List.mem_singleton.mp hb, b3]
        exact ⟨fun dd ff z => (by cases z), .inr fun xs z => (by cases z)⟩
      · have := wt_mem hpc
        have := W.wt
        omega
      · have npc : p ≠ cc := fun z => by rw [z, hn] at hp; cases hp
        refine hq _ p (by rw [upd_ne npc, hfm]; exact hp) ?_
        have I1 := run_SI (n := n.toNat) I0
        have t1 := I1.tt
        have t2 := I1.cn
        simp only [List.length_nil] at t1 t2
        rw [hfm, toldF_len]
        omega
    · have npc : p ≠ cc := ne_of hp hc' (by intro z; cases z)
      refine q _ p ?_
      rw [del_ne npc, hp]
      unfold ansF
      rw [if_pos hw]
end
end Prg
set_option linter.all false
set_option maxRecDepth 100000
set_option maxHeartbeats 8000000
namespace Prg
open PySem PySem.Spec PyProof.Rows L2
open PySem.W (CodeHd)
theorem ps_sz {X : Cx} {st : Stmt} {t : TS} (h : PS X st t) : PS X st (fun D σ H => t { D with nx := fun σ' H' => (∀ a xs, H' a = some (.lst xs) → xs.length ≤ sizeLine) → D.nx σ' H' } σ H) := by
  intro pins s σ H D I q
  refine thn (h pins s σ H _ I q) fun f s' z => ?_
  cases f with
  | next =>
    obtain ⟨σ', H', I', q⟩ := z
    exact ⟨σ', H', I', q fun a xs e => (I'.hok a _ e).1⟩
  | brk => exact z
  | cont => exact z
  | ret u => exact z
theorem lc_zip {K : PySem.W.Frag} {a b : Addr} {xs ys : List V} {g : TG} {tt : TT} {te : TE} {vs : List Nat} {σ : St} {H1 : Hp} {D : Addr} {Qd : Hp → Prop} (Pv : Nat → Hp → Prop) (hxy : ys.length ≤ xs.length) (h0 : Pv 0 (upd H1 D (.lst []))) (hl : ∀ i H, Pv i H → SqL K H a xs ∧ SqL K H b ys)
    (hs : ∀ i x y T H, xs[i]? = some x → ys[i]? = some y → Pv i H → H T = none → g (.ref T) (wipe σ vs) (upd H T (.tup [x, y])) fun σ2 H2 => wipe σ2 vs = wipe σ vs ∧ tt σ2 H2 fun b H3 =>
      if b = true then te σ2 H3 fun y H4 => ∃ acc, H4 D = some (.lst acc) ∧ acc.length < sizeLine ∧ Pv (i + 1) (upd H4 D (.lst (acc ++ [y]))) else Pv (i + 1) H3) (hd : ∀ H, Pv ys.length H → Qd H) :
    ∃ W : Nat → Nat → Hp → Prop, (∃ m, W 0 m (upd H1 D (.lst []))) ∧ ∀ i m H, W i m H →
      ((Itz K a b).stop i H ∧ Qd H) ∨ ((Itz K a b).go i H ∧ ∃ Nx : Hp → Prop, (∀ H', Nx H' → ∃ m', m' < m ∧ W (i + 1) m' H') ∧ ∀ x H', (Itz K a b).yld i H x H' → g x (wipe σ vs) H' fun σ2 H2 => wipe σ2 vs = wipe σ vs ∧ tt σ2 H2 fun b H3 =>
        if b = true then te σ2 H3 fun y H4 => ∃ acc, H4 D = some (.lst acc) ∧ acc.length < sizeLine ∧ Nx (upd H4 D (.lst (acc ++ [y]))) else Nx H3) := by
  refine ⟨fun i m H => m = ys.length - i ∧ i ≤ ys.length ∧ Pv i H, ⟨ys.length, by simp, Nat.zero_le _, h0⟩, ?_⟩
  rintro i m H ⟨rfl, hi, p⟩
  obtain ⟨q1, q2⟩ := hl i H p
  by_cases hlt : i < ys.length
  · have hlx : i < xs.length := by omega
    refine .inr ⟨⟨xs, ys, xs[i], ys[i], q1, q2, by simp [hlx], by simp [hlt]⟩, Pv (i + 1), fun H' p' => ⟨ys.length - (i + 1), by omega, rfl, hlt, p'⟩, fun x H' y => ?_⟩
    obtain ⟨T, x', y', e, hT, e2, y1, y2⟩ := y
    subst e
    subst e2
    exact hs i x' y' T _ (y1 xs q1) (y2 ys q2) p hT
  · have e : i = ys.length := by omega
    subst e
    exact .inl ⟨⟨xs, ys, q1, q2, .inr (Nat.le_refl _)⟩, hd H p⟩
theorem iteT' {b : Bool} {A B : Prop} (h : b = true) (x : A) : if b = true then A else B := by rw [if_pos h]; exact x
theorem iteF' {b : Bool} {A B : Prop} (h : b = false) (x : B) : if b = true then A else B := by rw [if_neg (by rw [h]; exact Bool.false_ne_true)]; exact x
noncomputable def ansMeas (n : Int) (t : List Nat) : List Int := if 20 ≤ n ∧ n ≤ 200 then (match Sg51.read t with
  | .error e => [-100 - (e : Int)]
  | .ok l => [((Sg51.lines n.toNat l).length : Int), ((Mir.mx (Sg51.lines n.toNat l) : Nat) : Int)]) else [-2]
section
variable {P : Program} {w : World} {K : PySem.W.Frag} {mg : Str → Option Value} {base : Heap}
noncomputable abbrev FFormat (P : Program) (w : World) (K : PySem.W.Frag) (mg : Str → Option Value) (base : Heap) (Tt : Addr) : Prop := GFn P w K mg base "format_of" 10 ["width", "text"] (spFormat Tt)
inductive SpMeasureP (K : PySem.W.Frag) (Tt : Addr) (vs : List V) (H : Hp) (Q : VK) (E_ : XK) : Prop
  | mk : ∀ (n : Int) (a : Addr) (t : List Nat), vs = [.int n, .ref a] → Rd H a (.lst (t.map vi)) → t.length ≤ 20000 → B8 t → H Tt = some (.tbl #[]) → (∀ H' p, SqL K H' p ((ansMeas n t).map V.int) → Q (.ref p) H') → SpMeasureP K Tt vs H Q E_
noncomputable def spMeasure (K : PySem.W.Frag) (Tt : Addr) : Sp := SpMeasureP K Tt
theorem scMeasure : FnScope ["width", "text", "told", "ends", "place", "begin", "end"] ["width", "text"] (defScope sMeasure) := ⟨rfl, rfl, rfl, by decide +kernel, rfl, by decide +kernel, by decide +kernel⟩
noncomputable def scP : Scope := { kind := .function, names := [(".0", .local), ("place", .local), ("LINE_END", .globalImplicit), ("told", .free)], isGenerator := false, isCoroutine := false, more := [] }
theorem blkP : BlkOk ["width", "text", "told", "ends", "place", "begin", "end"] (defScope sMeasure) scP [("place", 4)] := ⟨rfl, by decide +kernel, by decide +kernel, by decide +kernel, by decide +kernel⟩
noncomputable def scE : Scope := { kind := .function, names := [(".0", .local), ("begin", .local), ("end", .local)], isGenerator := false, isCoroutine := false, more := [] }
theorem blkE : BlkOk ["width", "text", "told", "ends", "place", "begin", "end"] (defScope sMeasure) scE [("begin", 5), ("end", 6)] := ⟨rfl, by decide +kernel, by decide +kernel, by decide +kernel, by decide +kernel⟩
theorem ok_measure {f Tt : Addr} {fd : FuncData} (F : Fun K "measure" "measure" sMeasure f fd) (T : Txt K mg) (hrg : mg "range" = none) (hzp : mg "zip" = none) (hmx : mg "max" = none) (GF : FFormat P w K mg base Tt) : FnOk P w K mg base (CXw P w) 11 f fd ["width", "text"] (spMeasure K Tt) := by
  refine F.okN scMeasure (fun vs H Q E h => ?_) (fun cdv A outer s H vs Q E hr h => ?_)
  · obtain ⟨n, a, t, rfl, _⟩ := h
    rfl
  · obtain ⟨n, a, t, rfl, hS, lt, h8, hT, q⟩ := h
    refine ⟨_, pss_cons (ps_sz (ps_set (i := 2) scMeasure.nd rfl (Or.inr rfl) (pe_fn GF hr passN (pa_cons (pv 0) (pa_cons (pv 1) pa_nil)))))
      (pss_cons (ps_if (pt_cmpR op_lt (pe_ix ix_list (pv 2) pe_int (fun _ _ => rfl)) pe_int (nomark _)) (pss_one (ps_ret (pv 2))) pss_nil)
      (pss_cons (ps_set (i := 3) scMeasure.nd rfl (Or.inl rfl) (pe_op op_cat (pe_lst (pa_cons pe_int pa_nil)) (pe_lc (tt := tTest (tOp rEq (tOp (rIxL K) (tVar 2) (tVar 4)) (tC (.int 10)))) (own := [("place", 4)]) rfl scMeasure.nd (pi_range2 (by rfl) hrg (pa_cons pe_int (pa_cons (pe_callB call_len_seq (by rfl) T.len PySem.boot_len (pa_cons (pv 2) pa_nil)) pa_nil)))
          blkP (fun s H C cl fp => pg_name (i := 4) scMeasure.nd rfl (Or.inl rfl)) (fun s H C cl fp => pts_one (pt_cmpR op_eq (pe_ix ix_list (pv 2) (pv 4) (fun _ _ => rfl)) (pe_gi T.lineEnd) (nomark _))) (fun s H C cl fp => pv 4))))
      (pss_one (ps_ret (pe_lst (pa_cons (pe_op op_sub (pe_callB call_len_seq (by rfl) T.len PySem.boot_len (pa_cons (pv 3) pa_nil)) pe_int)
        (pa_cons (pe_callB (cr_max rfl) (by rfl) hmx (by decide +kernel) (pa_cons (pe_lc (g := gTup K 2 (gCons (gName 5) (gCons (gName 6) gNil))) (own := [("begin", 5), ("end", 6)]) rfl scMeasure.nd (pi_zip (by rfl) hzp (pa_cons (pv 3) (pa_cons (pe_slice sl_list (pv 3) (po_some pe_int) po_none) pa_nil)))
          blkE (fun s H C cl fp => pg_tup (n := 2) rfl (pgs_cons (pg_name (i := 5) scMeasure.nd rfl (Or.inl rfl) (Or.inr rfl)) (pgs_cons (pg_name (i := 6) scMeasure.nd rfl (Or.inl rfl) (Or.inr rfl)) pgs_nil))) (fun s H C cl fp => pts_nil) (fun s H C cl fp => pe_op op_sub (pe_op op_sub (pv 6) (pv 5)) pe_int)) pa_nil)) pa_nil))))))), ?_⟩
    refine ⟨_, rfl, _, rfl, n, a, t, rfl, hS, lt, h8, hT, fun H1 p hp hsz => ?_⟩
    have hneg : (∃ k : Int, ansF n t = [k] ∧ ansMeas n t = [k] ∧ k < 0) ∨ ∃ l, Sg51.read t = .ok l ∧ (20 ≤ n ∧ n ≤ 200) := by
      by_cases hw : 20 ≤ n ∧ n ≤ 200
      · cases hrd : Sg51.read t with
        | error e => exact .inl ⟨-100 - (e : Int), by unfold ansF; rw [if_pos hw]; unfold ansT; rw [hrd], by unfold ansMeas; rw [if_pos hw, hrd], by omega⟩
        | ok l => exact .inr ⟨l, rfl, hw⟩
      · exact .inl ⟨-2, by unfold ansF; rw [if_neg hw], by unfold ansMeas; rw [if_neg hw], by decide⟩
    rcases hneg with ⟨k, e1, e2, hk⟩ | ⟨l, hrd, hw⟩
    · rw [e1] at hp
      exact ⟨_, rfl, p, _, _, _, rfl, rfl, SqL.of hp, atI_nat (j := 0) rfl, _, _, rfl, rfl, _, rfl, iteT' (decide_eq_true hk) ⟨_, rfl, q _ _ (by rw [e2]; exact SqL.of hp)⟩⟩
    have e1 : (ansF n t).map V.int = ((Sg51.format n.toNat l).length :: Sg51.format n.toNat l).map vi := by
      unfold ansF
      rw [if_pos hw]
      unfold ansT
      rw [hrd]
      simp only [List.map_cons, List.map_map]
      rfl
    rw [e1] at hp
    have eF : Sg51.format n.toNat l = (Sg51.lines n.toNat l).flatMap fun b => b ++ [10] := rfl
    have hnl := Mir.lines_nl n.toNat (Mir.read_nl hrd)
    have hne := Mir.lines_ne n.toNat hrd
    have eA : ansMeas n t = [((Sg51.lines n.toNat l).length : Int), ((Mir.mx (Sg51.lines n.toNat l) : Nat) : Int)] := by unfold ansMeas; rw [if_pos hw, hrd]
    generalize Sg51.lines n.toNat l = ls at eF hnl hne eA
    generalize Sg51.format n.toNat l = fb at hp eF
    have hE : Mir.plc 0 fb = Mir.endsOf 0 ls := by rw [eF]; exact Mir.plc_ends ls 0 hnl
    have hEl := Mir.ends_len ls 0
    have hsz1 := hsz _ _ hp
    rw [List.length_map, List.length_cons, sizeLine_eq] at hsz1
    have plen : ∀ (b : List Nat) (k : Nat), (Mir.plc k b).length ≤ b.length := fun b => by
      induction b with
      | nil => intro k; exact Nat.le_refl _
      | cons c r ih =>
        intro k
        have := ih (k + 1)
        rw [Mir.plc]
        split
        · rw [List.length_cons, List.length_cons]; omega
        · rw [List.length_cons]; omega
    refine ⟨_, rfl, p, _, _, _, rfl, rfl, SqL.of hp, atI_nat (j := 0) rfl, _, _, rfl, rfl, _, rfl, iteF' (decide_eq_false (show ¬ ((fb.length : Int)) < 0 by omega)) ?_⟩
    -- ends = [0] + [..]
    refine ⟨(by show 1 ≤ sizeLine; decide), fun p0 hp0 => ?_⟩
    have s0 : Same H1 (upd H1 p0 (.lst [.int 0])) := same_new hp0
    have hp2 := s0 _ _ hp
    have h02 : upd H1 p0 (.lst [.int 0]) p0 = some (.lst [.int 0]) := upd_same
    generalize upd H1 p0 (.lst [.int 0]) = H2 at s0 hp2 h02
    refine ⟨_, rfl, p, _, rfl, .inl (SqL.of hp2), 1, _, rfl, ⟨by decide, by decide, by rw [List.length_map, List.length_cons]; omega, by rw [List.length_map, List.length_cons]; omega⟩, fun D hD => ?_⟩
    have en : ((((fb.length :: fb).map vi).length : Int) - 1).toNat = fb.length := by rw [List.length_map, List.length_cons]; omega
    rw [en]
    refine lc_range (fun i H' => Same H2 H' ∧ H' D = some (.lst ((Mir.plc 0 (fb.take i)).map vi))) ⟨same_new hD, by rw [upd_same, List.take_zero]; rfl⟩ (fun i H' hi ⟨s1, hDi⟩ => ?_) fun H' ⟨s1, hDi⟩ => ?_
    · have hget : fb[i]? = some fb[i] := List.getElem?_eq_getElem hi
      have ep : Mir.plc 0 (fb.take (i + 1)) = Mir.plc 0 (fb.take i) ++ (if fb[i] = 10 then [i + 1] else []) := by
        rw [List.take_succ_eq_append_getElem hi, Mir.plc_snoc, List.length_take, Nat.min_eq_left (Nat.le_of_lt hi), Nat.zero_add]
      have hat : atI ((fb.length :: fb).map vi) (1 + (i : Int)) = some (vi fb[i]) := at_of (j := i + 1) (by omega) (by rw [List.getElem?_map, List.getElem?_cons_succ, hget]; rfl)
      have hpl := plen (fb.take i) 0
      rw [List.length_take] at hpl
      refine ⟨rfl, _, rfl, _, rfl, p, _, _, _, rfl, rfl, SqL.of (s1 _ _ hp2), hat, rfl, _, rfl, ite2 (fun h => ?_) fun h => ?_⟩
      · have h10 : fb[i] = 10 := by
          have z : V.int (fb[i] : Int) = V.int 10 := of_decide_eq_true h
          injection z with z
          omega
        refine ⟨_, rfl, _, hDi, ?_, fun b o e => ?_, ?_⟩
        · rw [List.length_map, sizeLine_eq]; omega
        · rw [upd_ne (ne_of_none e hD)]; exact s1 _ _ e
        · rw [upd_same, ep, if_pos h10, List.map_append]
          have z : (1 + (i : Int)) = ((i + 1 : Nat) : Int) := by omega
          rw [z]
          rfl
      · have h10 : ¬ fb[i] = 10 := fun z => h (by rw [z]; rfl)
        refine ⟨s1, ?_⟩
        rw [ep, if_neg h10, List.append_nil]
        exact hDi
    rw [List.take_length, hE] at hDi
    have hpl := plen fb 0
    rw [hE, hEl] at hpl
    refine ⟨p0, D, _, _, rfl, rfl, s1 _ _ h02, hDi, ?_, fun p3 hp3 => ?_⟩
    · rw [List.length_map, hEl, sizeLine_eq]
      show 1 + ls.length ≤ 16777216
      omega
    have h3 : upd H' p3 (.lst ([.int 0] ++ (Mir.endsOf 0 ls).map vi)) p3 = some (.lst ((0 :: Mir.endsOf 0 ls).map vi)) := by rw [upd_same]; rfl
    generalize upd H' p3 (.lst ([.int 0] ++ (Mir.endsOf 0 ls).map vi)) = H3 at h3
    -- return [len(ends) - 1, max([..])]
    refine ⟨_, rfl, p3, _, rfl, .inl (SqL.of h3), _, _, rfl, rfl, ?_⟩
    refine ⟨_, rfl, _, rfl, _, rfl, p3, _, rfl, SqL.of h3, fun p4 hp4 => ?_⟩
    rw [cut_one, ← List.map_drop]
    have s4 := same_new (o := .lst ((List.drop 1 (0 :: Mir.endsOf 0 ls)).map vi)) hp4
    have h34 := s4 _ _ h3
    have h44 : upd H3 p4 (.lst ((List.drop 1 (0 :: Mir.endsOf 0 ls)).map vi)) p4 = some (.lst ((Mir.endsOf 0 ls).map vi)) := upd_same
    generalize upd H3 p4 (.lst ((List.drop 1 (0 :: Mir.endsOf 0 ls)).map vi)) = H4 at s4 h34 h44
    refine ⟨p3, p4, _, _, rfl, SqL.of h34, SqL.of h44, fun D hD => ?_⟩
    refine lc_zip (xs := (0 :: Mir.endsOf 0 ls).map vi) (ys := (Mir.endsOf 0 ls).map vi) (fun i H' => Same H4 H' ∧ H' D = some (.lst ((ls.take i).map fun b => vi b.length))) (by simp) ⟨same_new hD, by rw [upd_same, List.take_zero]; rfl⟩ (fun i H' ⟨s5, _⟩ => ⟨SqL.of (s5 _ _ h34), SqL.of (s5 _ _ h44)⟩) (fun i x y T H' hx hy ⟨s5, hDi⟩ hT => ?_) fun H' ⟨s5, hDi⟩ => ?_
    · have hil : i < ls.length := by
        have := (List.getElem?_eq_some_iff.mp hy).1
        rw [List.length_map, hEl] at this
        exact this
      obtain ⟨u, v, a1, a2, a3⟩ := Mir.ends_at ls 0 i (List.getElem?_eq_getElem hil)
      rw [List.getElem?_map, a1] at hx
      rw [List.getElem?_map, a2] at hy
      have hx : vi u = x := Option.some.inj hx
      have hy : vi v = y := Option.some.inj hy
      subst hx
      subst hy
      have sT := same_new (o := .tup [vi u, vi v]) hT
      refine ⟨T, _, rfl, SqT.of upd_same, rfl, _, _, rfl, _, _, rfl, rfl, rfl, ?_⟩
      dsimp only [tYes]
      rw [if_pos rfl]
      refine ⟨_, rfl, _, rfl, _, _, rfl, rfl, _, _, rfl, rfl, _, sT _ _ hDi, ?_, fun b o e => ?_, ?_⟩
      · rw [List.length_map, List.length_take, sizeLine_eq]; omega
      · rw [upd_ne (ne_of_none e hD)]; exact sT _ _ (s5 _ _ e)
      · rw [upd_same, List.take_succ_eq_append_getElem hil, List.map_append]
        have z : (v : Int) - (u : Int) - 1 = (ls[i].length : Int) := by omega
        show some (HO.lst ((ls.take i).map (fun b => vi b.length) ++ [V.int ((v : Int) - (u : Int) - 1)])) = some (HO.lst ((ls.take i).map (fun b => vi b.length) ++ [V.int (ls[i].length : Int)]))
        rw [z]
    rw [List.length_map, hEl, List.take_length] at hDi
    have em : (ls.map fun b => vi b.length) = (ls.map fun b => (b.length : Int)).map V.int := by rw [List.map_map]; rfl
    rw [em] at hDi
    refine ⟨D, _, rfl, SqL.of hDi, ?_, fun m hm1 hm2 => ?_⟩
    · rw [List.length_map]
      exact List.length_pos_iff.mpr hne
    have hm := Mir.mx_is hne hm1 hm2
    refine ⟨(by show 2 ≤ sizeLine; decide), fun p5 hp5 => q _ p5 ?_⟩
    rw [eA]
    refine SqL.of ?_
    rw [upd_same, hm, List.length_map, List.length_cons, hEl]
    show some (HO.lst [V.int (((ls.length + 1 : Nat) : Int) - 1), V.int ((Mir.mx ls : Nat) : Int)]) = some (HO.lst [V.int (ls.length : Int), V.int ((Mir.mx ls : Nat) : Int)])
    have z : (((ls.length + 1 : Nat) : Int) - 1) = (ls.length : Int) := by omega
    rw [z]
end
end Prg
set_option linter.all false
set_option maxRecDepth 100000
set_option maxHeartbeats 4000000
namespace Prg
open PySem PySem.Spec PyProof.Rows L2
open PySem.W (Codec)
noncomputable def GF (K : PySem.W.Frag) (x : Str) (st : Stmt) (f : Addr) : Prop := ∃ (oc : Value) (od : Option Addr) (kV doc pm : Value) (an : Option Addr) (cd ct : Value) (sl : Array (Option Value)),
  PySem.W.nsIn K mainGlobals x = some (some (.ref f)) ∧ K.lookup f = some ⟨oc, od, .func (PySem.W.fnOf x x (defArgs st) (defBody st) (defScope st) .none kV doc pm an cd ct), sl⟩ ∧ PySem.W.codeIn K cd x = true ∧ PySem.W.keepIn K (.ref f) = true
noncomputable def GM (K : PySem.W.Frag) (C : Addr) (x qual : Str) (st : Stmt) (f : Addr) : Prop := ∃ (oc : Value) (od : Option Addr) (kV doc pm : Value) (an : Option Addr) (cd ct : Value) (sl : Array (Option Value)),
  PySem.W.findIn K (.ref C) x = some (some (.ref f)) ∧ PySem.W.isFn K (.ref f) = true ∧ K.lookup f = some ⟨oc, od, .func (PySem.W.fnOf x qual (defArgs st) (defBody st) (defScope st) .none kV doc pm an cd ct), sl⟩ ∧ PySem.W.codeIn K cd qual = true ∧ PySem.W.keepIn K (.ref f) = true
theorem gf_mk {K : PySem.W.Frag} {x : Str} {st : Stmt} {f : Addr} {oc : Value} {od an : Option Addr} {sl : Array (Option Value)} {kV doc pm cd ct : Value} (a : PySem.W.nsIn K mainGlobals x = some (some (.ref f)))
    (l : K.lookup f = some ⟨oc, od, .func (PySem.W.fnOf x x (defArgs st) (defBody st) (defScope st) .none kV doc pm an cd ct), sl⟩) (c : PySem.W.codeIn K cd x = true) (k : PySem.W.keepIn K (.ref f) = true) : GF K x st f := ⟨oc, od, kV, doc, pm, an, cd, ct, sl, a, l, c, k⟩
theorem gm_mk {K : PySem.W.Frag} {C : Addr} {x qual : Str} {st : Stmt} {f : Addr} {oc : Value} {od an : Option Addr} {sl : Array (Option Value)} {kV doc pm cd ct : Value} (a : PySem.W.findIn K (.ref C) x = some (some (.ref f))) (i : PySem.W.isFn K (.ref f) = true)
    (l : K.lookup f = some ⟨oc, od, .func (PySem.W.fnOf x qual (defArgs st) (defBody st) (defScope st) .none kV doc pm an cd ct), sl⟩) (c : PySem.W.codeIn K cd qual = true) (k : PySem.W.keepIn K (.ref f) = true) : GM K C x qual st f := ⟨oc, od, kV, doc, pm, an, cd, ct, sl, a, i, l, c, k⟩
theorem GF.fun_ {K : PySem.W.Frag} {x : Str} {st : Stmt} {f : Addr} {h : Heap} {mg : Str → Option Value} (X : K.In h) (G : h.Ns mainGlobals mg) (F : GF K x st f) : ∃ fd, Fun K x x st f fd ∧ mg x = some (.ref f) ∧ PySem.W.keepIn K (.ref f) = true := by
  obtain ⟨oc, od, kV, doc, pm, an, cd, ct, sl, a, l, c, k⟩ := F
  exact ⟨_, fun_mk (st := st) l c k, PySem.W.mg_of X G a, k⟩
theorem GM.fun_ {K : PySem.W.Frag} {C : Addr} {x qual : Str} {st : Stmt} {f : Addr} (F : GM K C x qual st f) : ∃ fd, Fun K x qual st f fd ∧ Meth K C x f := by
  obtain ⟨oc, od, kV, doc, pm, an, cd, ct, sl, a, i, l, c, k⟩ := F
  exact ⟨_, fun_mk (st := st) l c k, ⟨a, i, k⟩⟩
theorem dk_mk {K : PySem.W.Frag} {P : Program} {w : World} {a : Addr} {t1 t2 t3 t4 : Tok} {ep : Nat} (l : K.lookup a = some ⟨.type "dict", none, .dict #[⟨91, .int 91 t1, .int 93 t2⟩, ⟨123, .int 123 t3, .int 125 t4⟩] ep, #[]⟩) (s : (a == sysModules) = false) : DK K P w a closersKvs := by
  refine ⟨s, fun h X => ⟨[(Sum.inl 91, .int 93 t2), (Sum.inl 123, .int 125 t4)], .cons ⟨rfl, t2, rfl⟩ (.cons ⟨rfl, t4, rfl⟩ .nil), _, _, _, X _ _ l, ⟨rfl, rfl, rfl⟩, rfl, ?_, ?_, ?_⟩⟩
  · intro e he
    have he : e = ⟨91, .int 91 t1, .int 93 t2⟩ ∨ e = ⟨123, .int 123 t3, .int 125 t4⟩ := by simpa using he
    rcases he with rfl | rfl
    · exact ⟨Sum.inl 91, keyIs_int 91 t1, by show (91 : Int) = hashInt 91; decide +kernel⟩
    · exact ⟨Sum.inl 123, keyIs_int 123 t3, by show (123 : Int) = hashInt 123; decide +kernel⟩
  · exact .cons (keyIs_int 91 t1) rfl (.cons (keyIs_int 123 t3) rfl .nil)
  · show ([Sum.inl 91, Sum.inl 123] : List Key).Nodup
    decide
theorem esc_mk {K : PySem.W.Frag} {a : Addr} {od : Option Addr} {t1 t2 t3 : Tok} {n : Nat} {sl : Array (Option Value)} (l : K.lookup a = some ⟨.type "tuple", od, .seq #[.int 34 t1, .int 92 t2, .int 110 t3] n, sl⟩) (H : Hp) : SqT K H a [.int 34, .int 92, .int 110] :=
  .inr ⟨_, _, _, l, rfl, rfl, by show 3 ≤ sizeLine; decide, .cons ⟨t1, rfl⟩ (.cons ⟨t2, rfl⟩ (.cons ⟨t3, rfl⟩ .nil))⟩
theorem nsok_mk {K : PySem.W.Frag} {N : Addr} {oc : Value} {od : Option Addr} {es : Array DictEntry} {ep : Nat} {sl : Array (Option Value)} (l : K.lookup N = some ⟨oc, od, .dict es ep, sl⟩) (q : (es.toList.all fun e => match e.key with | .str _ _ => true | _ => false) = true) : PySem.W.nsOkIn K N = true := by
  unfold PySem.W.nsOkIn
  rw [l]
  rw [Array.all_toList] at q
  exact q
theorem xc_mk {K : PySem.W.Frag} {C fI N : Addr} {nm qn : Str} {bs : List Value} {sn : List Str} {sub : List Value} {ab : Bool} {col : Option Bool} {dd : Option Addr} {k0 k1 k2 k3 k5 : Option Value}
    (l : K.lookup C = some (excClassObj nm qn C N bs [.type "Exception", .type "BaseException", .type "object"] true sn sub ab col dd k0 k1 k2 k3 k5 "Exception.__new__")) (n : PySem.W.nsOkIn K N = true) (i : PySem.W.nsIn K N "__init__" = some (some (.ref fI))) (s : PySem.W.nsIn K N "__setattr__" = some none) (p : PySem.W.nsIn K N "place" = some none)
    (fn : PySem.W.isFn K (.ref fI) = true) (kp : PySem.W.keepIn K (.ref C) = true) (ga : PySem.W.findIn K (.ref C) "__getattribute__" = some (some (.builtin "BaseException.__getattribute__"))) (gn : PySem.W.findIn K (.ref C) "__getattr__" = some none) (na : PySem.W.findIn K (.ref C) "place" = some none) (hd : PySem.W.hasDictIn K C = true) (sb : PySem.W.mroIn K C (.type "BaseException") = some true) :
    XC K C fI := ⟨⟨nm, qn, N, bs, sn, sub, ab, col, dd, k0, k1, k2, k3, k5, l, n, i, s, p⟩, fn, kp, ga, gn, na, hd, sb⟩
noncomputable def GFC (K : PySem.W.Frag) (x : Str) (st : Stmt) (f c : Addr) : Prop := ∃ (oc : Value) (od : Option Addr) (kV doc pm : Value) (an : Option Addr) (ct : Value) (sl : Array (Option Value)),
  PySem.W.nsIn K mainGlobals x = some (some (.ref f)) ∧ K.lookup f = some ⟨oc, od, .func (PySem.W.fnOf x x (defArgs st) (defBody st) (defScope st) .none kV doc pm an (.ref c) ct), sl⟩ ∧ PySem.W.codeIn K (.ref c) x = true ∧ PySem.W.keepIn K (.ref f) = true
theorem gfc_mk {K : PySem.W.Frag} {x : Str} {st : Stmt} {f c : Addr} {oc : Value} {od an : Option Addr} {sl : Array (Option Value)} {kV doc pm ct : Value} (a : PySem.W.nsIn K mainGlobals x = some (some (.ref f)))
    (l : K.lookup f = some ⟨oc, od, .func (PySem.W.fnOf x x (defArgs st) (defBody st) (defScope st) .none kV doc pm an (.ref c) ct), sl⟩) (c' : PySem.W.codeIn K (.ref c) x = true) (k : PySem.W.keepIn K (.ref f) = true) : GFC K x st f c := ⟨oc, od, kV, doc, pm, an, ct, sl, a, l, c', k⟩
noncomputable def noL (K : PySem.W.Frag) : Bool := K.all fun p => match p.2.cls with
  | .type n => n != "list"
  | _ => true
theorem rd_of {K : PySem.W.Frag} {H : Hp} {a : Addr} {xs : List V} (h : noL K = true) (q : SqL K H a xs) : Rd H a (.lst xs) := by
  rcases q with q | ⟨o, its, n, lk, hc, _⟩
  · exact q
  · have z := List.all_eq_true.mp h (a, o) (PySem.W.mem_of_lookupK lk)
    simp only [hc] at z
    exact absurd z (by decide)
theorem cls_mk {K : PySem.W.Frag} {C : Addr} (pg : PySem.W.plainGet K C Str.empty = true) (hd : PySem.W.hasDictIn K C = true) (po : PySem.W.plainOver K C = true) (sa : PySem.W.findIn K (.ref C) "__setattr__" = some (some (.builtin "object.__setattr__"))) (mk : PySem.W.makesIn K C = true) (kc : PySem.W.keepIn K (.ref C) = true) :
    Cls K C ∧ PySem.W.makesIn K C = true ∧ PySem.W.keepIn K (.ref C) = true := ⟨⟨pg, hd, po, sa⟩, mk, kc⟩
theorem gi_mk {K : PySem.W.Frag} {h : Heap} {mg : Str → Option Value} {x : Str} {n : Int} (X : K.In h) (G : h.Ns mainGlobals mg) (e : ∃ t, PySem.W.nsIn K mainGlobals x = some (some (.int n t))) : GI mg x n := let ⟨t, e⟩ := e; ⟨t, PySem.W.mg_of X G e⟩
theorem gs_mk {K : PySem.W.Frag} {h : Heap} {mg : Str → Option Value} {x y : Str} (X : K.In h) (G : h.Ns mainGlobals mg) (e : ∃ t, PySem.W.nsIn K mainGlobals x = some (some (.str y t))) : GS mg x y := let ⟨t, e⟩ := e; ⟨t, PySem.W.mg_of X G e⟩
theorem us1 {us : List Value} (h : us.length = 1) : ∃ a, us = [a] := match us, h with | [a], _ => ⟨a, rfl⟩
theorem us2 {us : List Value} (h : us.length = 2) : ∃ a b, us = [a, b] := match us, h with | [a, b], _ => ⟨a, b, rfl⟩
theorem us3 {us : List Value} (h : us.length = 3) : ∃ a b c, us = [a, b, c] := match us, h with | [a, b, c], _ => ⟨a, b, c, rfl⟩
theorem us4 {us : List Value} (h : us.length = 4) : ∃ a b c d, us = [a, b, c, d] := match us, h with | [a, b, c, d], _ => ⟨a, b, c, d, rfl⟩
theorem all_mk {P : Program} {w : World} {K : PySem.W.Frag} {h : Heap} {mg : Str → Option Value} {fa cW cP cL cR ca ea fW iP iL iR cS iS f0 c0 T0 fm f_isWord f_isPrinted f_wordEnd f_stringEnd f_keyTold f_answer m_add m_read m_skip m_next m_comm m_coma m_clos m_memb m_keyy m_open m_plai m_flat m_tell m_goin m_clsg m_putt m_putc m_setl : Addr} (X : K.In h) (G : h.Ns mainGlobals mg) (hfa : mg "measure" = some (.ref fa)) (hnl : noL K = true)
    (c_lineEnd : ∃ t, PySem.W.nsIn K mainGlobals "LINE_END" = some (some (.int 10 t)))
    (c_blank : ∃ t, PySem.W.nsIn K mainGlobals "BLANK" = some (some (.int 32 t)))
    (c_quote : ∃ t, PySem.W.nsIn K mainGlobals "QUOTE" = some (some (.int 34 t)))
    (c_hash : ∃ t, PySem.W.nsIn K mainGlobals "HASH_SIGN" = some (some (.int 35 t)))
    (c_comma : ∃ t, PySem.W.nsIn K mainGlobals "COMMA" = some (some (.int 44 t)))
    (c_colon : ∃ t, PySem.W.nsIn K mainGlobals "COLON" = some (some (.int 58 t)))
    (c_back : ∃ t, PySem.W.nsIn K mainGlobals "BACKSLASH" = some (some (.int 92 t)))
    (c_rowEnd : ∃ t, PySem.W.nsIn K mainGlobals "ROW_END" = some (some (.int 93 t)))
    (c_mapEnd : ∃ t, PySem.W.nsIn K mainGlobals "MAP_END" = some (some (.int 125 t)))
    (c_noByte : ∃ t, PySem.W.nsIn K mainGlobals "NO_BYTE" = some (some (.int 256 t)))
    (c_mostBytes : ∃ t, PySem.W.nsIn K mainGlobals "MOST_BYTES" = some (some (.int 65536 t)))
    (c_mostDeep : ∃ t, PySem.W.nsIn K mainGlobals "MOST_DEEP" = some (some (.int 40 t)))
    (c_kPlain : ∃ t, PySem.W.nsIn K mainGlobals "PLAIN" = some (some (.str "plain" t)))
    (c_kOpening : ∃ t, PySem.W.nsIn K mainGlobals "OPENING" = some (some (.str "opening" t)))
    (c_kClosing : ∃ t, PySem.W.nsIn K mainGlobals "CLOSING" = some (some (.str "closing" t)))
    (c_kComment : ∃ t, PySem.W.nsIn K mainGlobals "COMMENT" = some (some (.str "comment" t)))
    (c_ready : ∃ t, PySem.W.nsIn K mainGlobals "READY" = some (some (.str "ready" t)))
    (c_filled : ∃ t, PySem.W.nsIn K mainGlobals "FILLED" = some (some (.str "filled" t)))
    (c_closed : ∃ t, PySem.W.nsIn K mainGlobals "CLOSED" = some (some (.str "closed" t)))
    (g_cW : PySem.W.nsIn K mainGlobals "Wrong" = some (some (.ref cW)))
    (g_cP : PySem.W.nsIn K mainGlobals "Piece" = some (some (.ref cP)))
    (g_cL : PySem.W.nsIn K mainGlobals "Level" = some (some (.ref cL)))
    (g_cR : PySem.W.nsIn K mainGlobals "Reader" = some (some (.ref cR)))
    (g_ca : PySem.W.nsIn K mainGlobals "CLOSERS" = some (some (.ref ca)))
    (g_ea : PySem.W.nsIn K mainGlobals "ESCAPED" = some (some (.ref ea)))
    (g_cS : PySem.W.nsIn K mainGlobals "Setter" = some (some (.ref cS)))
    (b_len : PySem.W.nsIn K mainGlobals "len" = some none)
    (b_min : PySem.W.nsIn K mainGlobals "min" = some none)
    (b_tuple : PySem.W.nsIn K mainGlobals "tuple" = some none)
    (b_range : PySem.W.nsIn K mainGlobals "range" = some none)
    (b_zip : PySem.W.nsIn K mainGlobals "zip" = some none)
    (b_max : PySem.W.nsIn K mainGlobals "max" = some none)
    (hca : DK K P w ca closersKvs) (hea : ∀ H : Hp, SqT K H ea [.int 34, .int 92, .int 110])
    (xW : XC K cW fW) (F_W : GM K cW "__init__" "Wrong.__init__" sWInit fW)
    (k_cP : Cls K cP ∧ PySem.W.makesIn K cP = true ∧ PySem.W.keepIn K (.ref cP) = true) (F_cP : GM K cP "__init__" "Piece.__init__" sPInit iP)
    (k_cL : Cls K cL ∧ PySem.W.makesIn K cL = true ∧ PySem.W.keepIn K (.ref cL) = true) (F_cL : GM K cL "__init__" "Level.__init__" sLInit iL)
    (k_cR : Cls K cR ∧ PySem.W.makesIn K cR = true ∧ PySem.W.keepIn K (.ref cR) = true) (F_cR : GM K cR "__init__" "Reader.__init__" sRInit iR)
    (k_cS : Cls K cS ∧ PySem.W.makesIn K cS = true ∧ PySem.W.keepIn K (.ref cS) = true) (F_cS : GM K cS "__init__" "Setter.__init__" sSInit iS)
    (n_cP_kind : PySem.W.findIn K (.ref cP) "kind" = some none)
    (n_cP_key : PySem.W.findIn K (.ref cP) "key" = some none)
    (n_cP_own : PySem.W.findIn K (.ref cP) "own" = some none)
    (n_cP_length : PySem.W.findIn K (.ref cP) "length" = some none)
    (n_cP_comma : PySem.W.findIn K (.ref cP) "comma" = some none)
    (n_cP_filled : PySem.W.findIn K (.ref cP) "filled" = some none)
    (n_cP_noted : PySem.W.findIn K (.ref cP) "noted" = some none)
    (n_cP_behind : PySem.W.findIn K (.ref cP) "behind" = some none)
    (n_cL_piece : PySem.W.findIn K (.ref cL) "piece" = some none)
    (n_cL_closer : PySem.W.findIn K (.ref cL) "closer" = some none)
    (n_cL_state : PySem.W.findIn K (.ref cL) "state" = some none)
    (n_cL_seen : PySem.W.findIn K (.ref cL) "seen" = some none)
    (n_cL_last : PySem.W.findIn K (.ref cL) "last" = some none)
    (n_cR_text : PySem.W.findIn K (.ref cR) "text" = some none)
    (n_cR_place : PySem.W.findIn K (.ref cR) "place" = some none)
    (n_cR_pieces : PySem.W.findIn K (.ref cR) "pieces" = some none)
    (n_cR_levels : PySem.W.findIn K (.ref cR) "levels" = some none)
    (n_cS_width : PySem.W.findIn K (.ref cS) "width" = some none)
    (n_cS_told : PySem.W.findIn K (.ref cS) "told" = some none)
    (n_cS_opened : PySem.W.findIn K (.ref cS) "opened" = some none)
    (n_cS_broken : PySem.W.findIn K (.ref cS) "broken" = some none)
    (pl : cP ≠ cL) (pr : cP ≠ cR) (lr : cL ≠ cR) (ps : cP ≠ cS)
    (c_lw : ∃ t, PySem.W.nsIn K mainGlobals "LEAST_WIDTH" = some (some (.int 20 t))) (c_mw : ∃ t, PySem.W.nsIn K mainGlobals "MOST_WIDTH" = some (some (.int 200 t)))
    (F_isWord : GF K "is_word_byte" sIsWord f_isWord)
    (F_isPrinted : GF K "is_printed" sIsPrinted f_isPrinted)
    (F_wordEnd : GF K "word_end" sWordEnd f_wordEnd)
    (F_stringEnd : GF K "string_end" sStringEnd f_stringEnd)
    (F_keyTold : GF K "key_told" sKeyTold f_keyTold)
    (F_answer : GF K "answer" sAnswer f_answer)
    (M_add : GM K cL "add" "Level.add" sLAdd m_add)
    (M_read : GM K cR "read" "Reader.read" sRead m_read)
    (M_skip : GM K cR "skip_space" "Reader.skip_space" sSkip m_skip)
    (M_next : GM K cR "read_next" "Reader.read_next" sNext m_next)
    (M_comm : GM K cR "read_comment" "Reader.read_comment" sComment m_comm)
    (M_coma : GM K cR "read_comma" "Reader.read_comma" sComma m_coma)
    (M_clos : GM K cR "read_closing" "Reader.read_closing" sClosing m_clos)
    (M_memb : GM K cR "read_member" "Reader.read_member" sMember m_memb)
    (M_keyy : GM K cR "read_key" "Reader.read_key" sKey m_keyy)
    (M_open : GM K cR "read_opening" "Reader.read_opening" sOpening m_open)
    (M_plai : GM K cR "read_plain" "Reader.read_plain" sPlain m_plai)
    (M_flat : GM K cS "is_flat_here" "Setter.is_flat_here" sFlat m_flat)
    (M_tell : GM K cS "tell" "Setter.tell" sTell m_tell)
    (M_goin : GM K cS "go_into" "Setter.go_into" sGoInto m_goin)
    (M_clsg : GM K cS "tell_closing" "Setter.tell_closing" sTellClose m_clsg)
    (M_putt : GM K cS "put" "Setter.put" sPut m_putt)
    (M_putc : GM K cS "put_comma" "Setter.put_comma" sPutComma m_putc)
    (M_setl : GM K cS "set_lines" "Setter.set_lines" sSetLines m_setl)
    (F_d0 : GFC K "format_of" sFormat f0 c0)
    (F_main : GF K "measure" sMeasure fm) :
    ∃ fd : FuncData, (∀ (s : Shared) (us : List Value), us.length = (["width", "text"] : List Str).length → BindsTo s fd ⟨us, []⟩ ((["width", "text"] : List Str).zip us)) ∧ ∀ base : Heap, K.In base → base.Ns mainGlobals mg → BB mg base → (∀ q ∈ ([(c0, T0)] : List (Addr × Addr)), PySem.W.CodeHd base q.1 q.2) → FnOk P w K mg base (CXw P w) 11 fa fd ["width", "text"] (spMeasure K T0) := by
  have T : Txt K mg := { lineEnd := gi_mk X G c_lineEnd, blank := gi_mk X G c_blank, quote := gi_mk X G c_quote, hash := gi_mk X G c_hash, comma := gi_mk X G c_comma, colon := gi_mk X G c_colon, back := gi_mk X G c_back, rowEnd := gi_mk X G c_rowEnd, mapEnd := gi_mk X G c_mapEnd, noByte := gi_mk X G c_noByte, mostBytes := gi_mk X G c_mostBytes, mostDeep := gi_mk X G c_mostDeep, kPlain := gs_mk X G c_kPlain, kOpening := gs_mk X G c_kOpening, kClosing := gs_mk X G c_kClosing, kComment := gs_mk X G c_kComment, ready := gs_mk X G c_ready, filled := gs_mk X G c_filled, closed := gs_mk X G c_closed, escaped := ⟨ea, PySem.W.mg_of X G g_ea, hea⟩, len := PySem.W.ns_none_of X G b_len, min := PySem.W.ns_none_of X G b_min, tuple := PySem.W.ns_none_of X G b_tuple }
  let N0 : Nm := ⟨cW, cP, cL, cR, ca, []⟩
  have cc : ∀ tb, (∀ g ∈ tb, stays g.2 = true) → Cs K mg (N0.w tb) := fun tb hst => ⟨k_cP.1, k_cL.1, k_cR.1, (fun f hf => by
    simp only [List.mem_cons, List.not_mem_nil, or_false] at hf
    rcases hf with rfl | rfl | rfl | rfl | rfl | rfl | rfl | rfl
    · exact n_cP_kind
    · exact n_cP_key
    · exact n_cP_own
    · exact n_cP_length
    · exact n_cP_comma
    · exact n_cP_filled
    · exact n_cP_noted
    · exact n_cP_behind), (fun f hf => by
    simp only [List.mem_cons, List.not_mem_nil, or_false] at hf
    rcases hf with rfl | rfl | rfl | rfl | rfl
    · exact n_cL_piece
    · exact n_cL_closer
    · exact n_cL_state
    · exact n_cL_seen
    · exact n_cL_last), (fun f hf => by
    simp only [List.mem_cons, List.not_mem_nil, or_false] at hf
    rcases hf with rfl | rfl | rfl | rfl
    · exact n_cR_text
    · exact n_cR_place
    · exact n_cR_pieces
    · exact n_cR_levels), pl, pr, lr, hst⟩
  obtain ⟨d_isWord, U_isWord, a_isWord, p_isWord⟩ := F_isWord.fun_ X G
  obtain ⟨d_isPrinted, U_isPrinted, a_isPrinted, p_isPrinted⟩ := F_isPrinted.fun_ X G
  obtain ⟨d_wordEnd, U_wordEnd, a_wordEnd, p_wordEnd⟩ := F_wordEnd.fun_ X G
  obtain ⟨d_stringEnd, U_stringEnd, a_stringEnd, p_stringEnd⟩ := F_stringEnd.fun_ X G
  obtain ⟨d_keyTold, U_keyTold, a_keyTold, p_keyTold⟩ := F_keyTold.fun_ X G
  obtain ⟨d_answer, U_answer, a_answer, p_answer⟩ := F_answer.fun_ X G
  obtain ⟨e_add, V_add, t_add⟩ := M_add.fun_
  obtain ⟨e_read, V_read, t_read⟩ := M_read.fun_
  obtain ⟨e_skip, V_skip, t_skip⟩ := M_skip.fun_
  obtain ⟨e_next, V_next, t_next⟩ := M_next.fun_
  obtain ⟨e_comm, V_comm, t_comm⟩ := M_comm.fun_
  obtain ⟨e_coma, V_coma, t_coma⟩ := M_coma.fun_
  obtain ⟨e_clos, V_clos, t_clos⟩ := M_clos.fun_
  obtain ⟨e_memb, V_memb, t_memb⟩ := M_memb.fun_
  obtain ⟨e_keyy, V_keyy, t_keyy⟩ := M_keyy.fun_
  obtain ⟨e_open, V_open, t_open⟩ := M_open.fun_
  obtain ⟨e_plai, V_plai, t_plai⟩ := M_plai.fun_
  obtain ⟨e_flat, V_flat, t_flat⟩ := M_flat.fun_
  obtain ⟨e_tell, V_tell, t_tell⟩ := M_tell.fun_
  obtain ⟨e_goin, V_goin, t_goin⟩ := M_goin.fun_
  obtain ⟨e_clsg, V_clsg, t_clsg⟩ := M_clsg.fun_
  obtain ⟨e_putt, V_putt, t_putt⟩ := M_putt.fun_
  obtain ⟨e_putc, V_putc, t_putc⟩ := M_putc.fun_
  obtain ⟨e_setl, V_setl, t_setl⟩ := M_setl.fun_
  obtain ⟨d_W, U_W, t_W⟩ := F_W.fun_
  obtain ⟨d_cP, U_cP, t_cP⟩ := F_cP.fun_
  obtain ⟨d_cL, U_cL, t_cL⟩ := F_cL.fun_
  obtain ⟨d_cR, U_cR, t_cR⟩ := F_cR.fun_
  obtain ⟨d_cS, U_cS, t_cS⟩ := F_cS.fun_
  obtain ⟨oc0, od0, kV0, doc0, pm0, an0, ct0, osl0, ns0, lk0, hcd0, kp0⟩ := F_d0
  obtain ⟨oc, od, kV, doc, pm, an, cdm, ct, osl, ns, lk, hcd, kpp⟩ := F_main
  have ef := hfa.symm.trans (PySem.W.mg_of X G ns)
  cases ef
  refine ⟨PySem.W.fnOf "measure" "measure" (defArgs sMeasure) (defBody sMeasure) (defScope sMeasure) .none kV doc pm an cdm ct, fun s us hu => by obtain ⟨_, _, rfl⟩ := us2 hu; exact .of_eq rfl, fun base _ _ hBB hCd => ?_⟩
  have GW : FX P w K mg base N0.cW := ⟨fW, d_W, xW, PySem.W.mg_of X G g_cW, ok_wInit U_W T xW, (U_W.binds (ps := ["self", "place"]) fun _ _ _ _ _ _ us hl => by obtain ⟨_, _, rfl⟩ := us2 hl; rfl)⟩
  have G_isWord : FIsWord P w K mg base := ⟨f_isWord, d_isWord, a_isWord, p_isWord, ok_isWord U_isWord T, (U_isWord.binds (ps := ["byte"]) fun _ _ _ _ _ _ us hl => by obtain ⟨_, rfl⟩ := us1 hl; rfl)⟩
  have G_isPrinted : FIsPrinted P w K mg base := ⟨f_isPrinted, d_isPrinted, a_isPrinted, p_isPrinted, ok_isPrinted U_isPrinted T, (U_isPrinted.binds (ps := ["byte"]) fun _ _ _ _ _ _ us hl => by obtain ⟨_, rfl⟩ := us1 hl; rfl)⟩
  have G_wordEnd : FWordEnd P w K mg base := ⟨f_wordEnd, d_wordEnd, a_wordEnd, p_wordEnd, ok_wordEnd U_wordEnd T G_isWord, (U_wordEnd.binds (ps := ["text", "place"]) fun _ _ _ _ _ _ us hl => by obtain ⟨_, _, rfl⟩ := us2 hl; rfl)⟩
  have G_stringEnd : FStringEnd P w K mg base N0 := ⟨f_stringEnd, d_stringEnd, a_stringEnd, p_stringEnd, ok_stringEnd U_stringEnd T G_isPrinted GW, (U_stringEnd.binds (ps := ["text", "place"]) fun _ _ _ _ _ _ us hl => by obtain ⟨_, _, rfl⟩ := us2 hl; rfl)⟩
  have G_keyTold : FKeyTold P w K mg base := ⟨f_keyTold, d_keyTold, a_keyTold, p_keyTold, ok_keyTold U_keyTold T, (U_keyTold.binds (ps := ["key"]) fun _ _ _ _ _ _ us hl => by obtain ⟨_, rfl⟩ := us1 hl; rfl)⟩
  have fam : ∀ tb, (∀ g ∈ tb, stays g.2 = true) → KReader P w K mg base (N0.w tb) ∧ MRead P w K mg base (N0.w tb) := by
    intro tb hst
    have c := cc tb hst
    let N := N0.w tb
    have K_cP : KPiece P w K mg base N := ⟨iP, d_cP, ⟨k_cP.2.1, t_cP.at_, t_cP.fn, k_cP.2.2⟩, PySem.W.mg_of X G g_cP, ok_pInit U_cP T c G_keyTold, (U_cP.binds (ps := ["self", "kind", "key", "own"]) fun _ _ _ _ _ _ us hl => by obtain ⟨_, _, _, _, rfl⟩ := us4 hl; rfl)⟩
    have K_cL : KLevel P w K mg base N := ⟨iL, d_cL, ⟨k_cL.2.1, t_cL.at_, t_cL.fn, k_cL.2.2⟩, PySem.W.mg_of X G g_cL, ok_lInit U_cL T c, (U_cL.binds (ps := ["self", "piece", "closer"]) fun _ _ _ _ _ _ us hl => by obtain ⟨_, _, _, rfl⟩ := us3 hl; rfl)⟩
    have G_add : MAdd P w K mg base N := ⟨m_add, e_add, k_cL.1, t_add, ok_add V_add T c, (V_add.binds (ps := ["self", "member"]) fun _ _ _ _ _ _ us hl => by obtain ⟨_, _, rfl⟩ := us2 hl; rfl)⟩
    have G_skip : MSkip P w K mg base N := ⟨m_skip, e_skip, k_cR.1, t_skip, ok_skip V_skip T c, (V_skip.binds (ps := ["self"]) fun _ _ _ _ _ _ us hl => by obtain ⟨_, rfl⟩ := us1 hl; rfl)⟩
    have G_plai : MPlain P w K mg base N := ⟨m_plai, e_plai, k_cR.1, t_plai, ok_plain V_plai T c G_wordEnd G_stringEnd GW, (V_plai.binds (ps := ["self"]) fun _ _ _ _ _ _ us hl => by obtain ⟨_, rfl⟩ := us1 hl; rfl)⟩
    have G_keyy : MKey P w K mg base N := ⟨m_keyy, e_keyy, k_cR.1, t_keyy, ok_key V_keyy T c G_plai G_skip GW, (V_keyy.binds (ps := ["self", "seen"]) fun _ _ _ _ _ _ us hl => by obtain ⟨_, _, rfl⟩ := us2 hl; rfl)⟩
    have G_coma : MComma P w K mg base N := ⟨m_coma, e_coma, k_cR.1, t_coma, ok_comma V_coma T c GW, (V_coma.binds (ps := ["self"]) fun _ _ _ _ _ _ us hl => by obtain ⟨_, rfl⟩ := us1 hl; rfl)⟩
    have GC : FClosers P w K mg := ⟨ca, PySem.W.mg_of X G g_ca, hca⟩
    have G_open : MOpening P w K mg base N := ⟨m_open, e_open, k_cR.1, t_open, ok_opening V_open T c GC K_cP K_cL GW, (V_open.binds (ps := ["self", "key", "byte"]) fun _ _ _ _ _ _ us hl => by obtain ⟨_, _, _, rfl⟩ := us3 hl; rfl)⟩
    have G_clos : MClosing P w K mg base N := ⟨m_clos, e_clos, k_cR.1, t_clos, ok_closing V_clos T c K_cP G_add GW, (V_clos.binds (ps := ["self", "byte"]) fun _ _ _ _ _ _ us hl => by obtain ⟨_, _, rfl⟩ := us2 hl; rfl)⟩
    have G_comm : MComment P w K mg base N := ⟨m_comm, e_comm, k_cR.1, t_comm, ok_comment V_comm T c G_isPrinted K_cP GW, (V_comm.binds (ps := ["self", "line_ended"]) fun _ _ _ _ _ _ us hl => by obtain ⟨_, _, rfl⟩ := us2 hl; rfl)⟩
    have G_memb : MMember P w K mg base N := ⟨m_memb, e_memb, k_cR.1, t_memb, ok_member V_memb T c GC K_cP G_add G_keyy G_open G_plai GW, (V_memb.binds (ps := ["self"]) fun _ _ _ _ _ _ us hl => by obtain ⟨_, rfl⟩ := us1 hl; rfl)⟩
    have G_next : MNext P w K mg base N := ⟨m_next, e_next, k_cR.1, t_next, ok_next V_next T c G_comm G_coma G_clos G_memb, (V_next.binds (ps := ["self", "line_ended"]) fun _ _ _ _ _ _ us hl => by obtain ⟨_, _, rfl⟩ := us2 hl; rfl)⟩
    have G_read : MRead P w K mg base N := ⟨m_read, e_read, k_cR.1, t_read, ok_read V_read T c G_skip G_next GW, (V_read.binds (ps := ["self"]) fun _ _ _ _ _ _ us hl => by obtain ⟨_, rfl⟩ := us1 hl; rfl)⟩
    have K_cR : KReader P w K mg base N := ⟨iR, d_cR, ⟨k_cR.2.1, t_cR.at_, t_cR.fn, k_cR.2.2⟩, PySem.W.mg_of X G g_cR, ok_rInit U_cR T c K_cP K_cL, (U_cR.binds (ps := ["self", "text"]) fun _ _ _ _ _ _ us hl => by obtain ⟨_, _, rfl⟩ := us2 hl; rfl)⟩
    exact ⟨K_cR, G_read⟩
  have G_answer : FAnswer P w K mg base N0 := ⟨f_answer, d_answer, a_answer, p_answer, ok_answer U_answer T (fun tb h => (fam tb h).1) (fun tb h => (fam tb h).2) GW, (U_answer.binds (ps := ["text", "tell"]) fun _ _ _ _ _ _ us hl => by obtain ⟨_, _, rfl⟩ := us2 hl; rfl)⟩
  have Sc : Ss K cS N0 := ⟨k_cS.1, (fun f hf => by
    simp only [List.mem_cons, List.not_mem_nil, or_false] at hf
    rcases hf with rfl | rfl | rfl | rfl
    · exact n_cS_width
    · exact n_cS_told
    · exact n_cS_opened
    · exact n_cS_broken), ps⟩
  have c := (cc [] fun g hg => by cases hg)
  have K_cS : KSetter P w K mg base cS := ⟨iS, d_cS, ⟨k_cS.2.1, t_cS.at_, t_cS.fn, k_cS.2.2⟩, PySem.W.mg_of X G g_cS, ok_sInit (N := N0) U_cS Sc, (U_cS.binds (ps := ["self", "width"]) fun _ _ _ _ _ _ us hl => by obtain ⟨_, _, rfl⟩ := us2 hl; rfl)⟩
  have G_flat : MFlat P w K mg base N0 cS := ⟨m_flat, e_flat, k_cS.1, t_flat, ok_flat V_flat T Sc, (V_flat.binds (ps := ["self"]) fun _ _ _ _ _ _ us hl => by obtain ⟨_, rfl⟩ := us1 hl; rfl)⟩
  have G_putt : MPut P w K mg base N0 cS := ⟨m_putt, e_putt, k_cS.1, t_putt, ok_put V_putt T Sc G_flat, (V_putt.binds (ps := ["self", "told"]) fun _ _ _ _ _ _ us hl => by obtain ⟨_, _, rfl⟩ := us2 hl; rfl)⟩
  have G_putc : MPutComma P w K mg base N0 cS := ⟨m_putc, e_putc, k_cS.1, t_putc, ok_putComma V_putc T c Sc G_flat, (V_putc.binds (ps := ["self", "piece"]) fun _ _ _ _ _ _ us hl => by obtain ⟨_, _, rfl⟩ := us2 hl; rfl)⟩
  have G_goin : MGo P w K mg base N0 cS := ⟨m_goin, e_goin, k_cS.1, t_goin, ok_go V_goin T c Sc G_flat, (V_goin.binds (ps := ["self", "piece"]) fun _ _ _ _ _ _ us hl => by obtain ⟨_, _, rfl⟩ := us2 hl; rfl)⟩
  have G_clsg : MTellClose P w K mg base N0 cS := ⟨m_clsg, e_clsg, k_cS.1, t_clsg, ok_tellClose V_clsg T c Sc G_putt G_putc, (V_clsg.binds (ps := ["self", "piece"]) fun _ _ _ _ _ _ us hl => by obtain ⟨_, _, rfl⟩ := us2 hl; rfl)⟩
  have G_tell : MTell P w K mg base N0 cS := ⟨m_tell, e_tell, k_cS.1, t_tell, ok_tell V_tell T c Sc G_putt G_putc G_keyTold G_goin G_clsg, (V_tell.binds (ps := ["self", "piece"]) fun _ _ _ _ _ _ us hl => by obtain ⟨_, _, rfl⟩ := us2 hl; rfl)⟩
  have G_setl : MSetLines P w K mg base N0 cS := ⟨m_setl, e_setl, k_cS.1, t_setl, ok_setLines V_setl T Sc G_tell, (V_setl.binds (ps := ["self", "pieces"]) fun _ _ _ _ _ _ us hl => by obtain ⟨_, _, rfl⟩ := us2 hl; rfl)⟩
  have U_fmt := fun_mk (st := sFormat) lk0 hcd0 kp0
  have G_fmt : FFormat P w K mg base T0 := ⟨f0, _, PySem.W.mg_of X G ns0, kp0, ok_format U_fmt rfl (hCd (c0, T0) (by simp)) hBB (gi_mk X G c_lw) (gi_mk X G c_mw) Sc G_answer K_cS G_setl, (U_fmt.binds (ps := ["width", "text"]) fun _ _ _ _ _ _ us hl => by obtain ⟨_, _, rfl⟩ := us2 hl; rfl)⟩
  exact ok_measure (fun_mk (st := sMeasure) lk hcd kpp) T (PySem.W.ns_none_of X G b_range) (PySem.W.ns_none_of X G b_zip) (PySem.W.ns_none_of X G b_max) G_fmt
theorem measure_spec (n : Int) (ns : List Int) : PySg51.measure n ns = ansMeas n (ns.map Int.toNat) := by
  show (if Sg51.widthOk n = false then Sg51.only (-2) else Sg51.reading (ns.map Int.toNat) 100 fun l => let r := Sg51.lines n.toNat l
    ⟨(r.length : Int), [r.foldl (fun (m : Nat) (b : Sg51.Bytes) => max m b.length) 0]⟩).v :: (if Sg51.widthOk n = false then Sg51.only (-2) else Sg51.reading (ns.map Int.toNat) 100 fun l => let r := Sg51.lines n.toNat l
    ⟨(r.length : Int), [r.foldl (fun (m : Nat) (b : Sg51.Bytes) => max m b.length) 0]⟩).l.map Int.ofNat = _
  unfold ansMeas Sg51.widthOk
  by_cases hw : 20 ≤ n ∧ n ≤ 200
  · rw [if_pos hw, if_neg (by simp [hw.1, hw.2])]
    unfold Sg51.reading
    cases Sg51.read (ns.map Int.toNat) with
    | error e => rfl
    | ok l => rfl
  · rw [if_neg hw, if_pos (by simp; omega)]
    rfl
theorem nat_ints : ∀ {ns : List Int}, (∀ x ∈ ns, 0 ≤ x) → ns.map V.int = (ns.map Int.toNat).map vi
  | [], _ => rfl
  | n :: r, h => by
    have h1 := h n (by simp)
    have e : V.int n = vi n.toNat := by
      show V.int n = V.int (n.toNat : Int)
      rw [Int.toNat_of_nonneg h1]
    rw [List.map_cons, List.map_cons, List.map_cons, ← e, nat_ints fun x hx => h x (List.mem_cons_of_mem _ hx)]
end Prg
open PySem PySem.W PyProof.Rows
set_option Elab.async false
-- The head lays a helper of this name and never uses it (3.8 MB compiled); with the name taken it is not laid, and the text keeps under the size that is allowed.
theorem PySem.W.Fast.te14806952802274361479 : True := trivial
set_option maxRecDepth 100000 in
set_option maxHeartbeats 0 in
theorem PySem.Challenge.cw_setlines_s06_measure_holds : PySem.Challenge.rw_setlines_s06_measure.Holds := by
  w_on; k_headS; (case hw => exact ⟨[.int 20, .list []], by decide +kernel, by decide +kernel⟩)
  k_fillS
  refine L2.walk_specT (r := PySem.Challenge.rw_setlines_s06_measure) (k := 11) (ps := ["width", "text"]) (xs := ["format_of"]) (tabs := [(294, 290)]) (sp := fun K => (Prg.spMeasure K 290)) (by decide +kernel) rfl rfl ⟨rfl, by decide, by decide⟩ (fun w h Y => PySem.W.kIn_of Y) (fun P => by kernel_rfl) (fun P => by kernel_rfl) (by decide +kernel) ?F ?S
  case F =>
    intro w mg fa h Y KX G hmg
    refine' Prg.all_mk (c0 := 294) (T0 := 290) KX G hmg (by kernel_rfl) ?c_lineEnd ?c_blank ?c_quote ?c_hash ?c_comma ?c_colon ?c_back ?c_rowEnd ?c_mapEnd ?c_noByte ?c_mostBytes ?c_mostDeep ?c_kPlain ?c_kOpening ?c_kClosing ?c_kComment ?c_ready ?c_filled ?c_closed ?g_cW ?g_cP ?g_cL ?g_cR ?g_ca ?g_ea ?g_cS ?b_len ?b_min ?b_tuple ?b_range ?b_zip ?b_max ?hca ?hea ?xW ?F_W ?k_cP ?F_cP ?k_cL ?F_cL ?k_cR ?F_cR ?k_cS ?F_cS ?n_cP_kind ?n_cP_key ?n_cP_own ?n_cP_length ?n_cP_comma ?n_cP_filled ?n_cP_noted ?n_cP_behind ?n_cL_piece ?n_cL_closer ?n_cL_state ?n_cL_seen ?n_cL_last ?n_cR_text ?n_cR_place ?n_cR_pieces ?n_cR_levels ?n_cS_width ?n_cS_told ?n_cS_opened ?n_cS_broken ?pl ?pr ?lr ?ps ?c_lw ?c_mw ?F_isWord ?F_isPrinted ?F_wordEnd ?F_stringEnd ?F_keyTold ?F_answer ?M_add ?M_read ?M_skip ?M_next ?M_comm ?M_coma ?M_clos ?M_memb ?M_keyy ?M_open ?M_plai ?M_flat ?M_tell ?M_goin ?M_clsg ?M_putt ?M_putc ?M_setl ?F_d0 ?F_main
    (case c_lineEnd => exact ⟨_, by k_is⟩)
    (case c_blank => exact ⟨_, by k_is⟩)
    (case c_quote => exact ⟨_, by k_is⟩)
    (case c_hash => exact ⟨_, by k_is⟩)
    (case c_comma => exact ⟨_, by k_is⟩)
    (case c_colon => exact ⟨_, by k_is⟩)
    (case c_back => exact ⟨_, by k_is⟩)
    (case c_rowEnd => exact ⟨_, by k_is⟩)
    (case c_mapEnd => exact ⟨_, by k_is⟩)
    (case c_noByte => exact ⟨_, by k_is⟩)
    (case c_mostBytes => exact ⟨_, by k_is⟩)
    (case c_mostDeep => exact ⟨_, by k_is⟩)
    (case c_kPlain => exact ⟨_, by k_is⟩)
    (case c_kOpening => exact ⟨_, by k_is⟩)
    (case c_kClosing => exact ⟨_, by k_is⟩)
    (case c_kComment => exact ⟨_, by k_is⟩)
    (case c_ready => exact ⟨_, by k_is⟩)
    (case c_filled => exact ⟨_, by k_is⟩)
    (case c_closed => exact ⟨_, by k_is⟩)
    (case g_cW => k_is)
    (case g_cP => k_is)
    (case g_cL => k_is)
    (case g_cR => k_is)
    (case g_ca => k_is)
    (case g_ea => k_is)
    (case g_cS => k_is)
    (case b_len => k_is)
    (case b_min => k_is)
    (case b_tuple => k_is)
    (case b_range => k_is)
    (case b_zip => k_is)
    (case b_max => k_is)
    (case hca => (refine' Prg.dk_mk ?l ?s; (case l => k_is); (case s => rfl)))
    (case hea => (refine' Prg.esc_mk ?l; (case l => k_is)))
    (case xW => (refine' Prg.xc_mk ?xl ?xn ?xi ?xs ?xp ?xfn ?xkp ?xga ?xgn ?xna ?xhd ?xsb; (case xl => k_is); (case xn => (refine' Prg.nsok_mk ?xnl ?xnq; (case xnl => k_is); (case xnq => rfl))); (case xi => k_is); (case xs => k_is); (case xp => k_is); (case xfn => k_is); (case xkp => k_is); (case xga => k_is); (case xgn => k_is); (case xna => k_is); (case xhd => k_is); (case xsb => k_is)))
    (case F_W => (refine' Prg.gm_mk ?a ?i ?l ?c ?k; (case a => k_is); (case i => k_is); (case l => k_is); (case c => k_is); (case k => k_is)))
    (case k_cP => (refine' Prg.cls_mk ?pg ?hd ?po ?sa ?mk ?kc; (case pg => k_is); (case hd => k_is); (case po => k_is); (case sa => k_is); (case mk => k_is); (case kc => k_is)))
    (case F_cP => (refine' Prg.gm_mk ?a ?i ?l ?c ?k; (case a => k_is); (case i => k_is); (case l => k_is); (case c => k_is); (case k => k_is)))
    (case k_cL => (refine' Prg.cls_mk ?pg ?hd ?po ?sa ?mk ?kc; (case pg => k_is); (case hd => k_is); (case po => k_is); (case sa => k_is); (case mk => k_is); (case kc => k_is)))
    (case F_cL => (refine' Prg.gm_mk ?a ?i ?l ?c ?k; (case a => k_is); (case i => k_is); (case l => k_is); (case c => k_is); (case k => k_is)))
    (case k_cR => (refine' Prg.cls_mk ?pg ?hd ?po ?sa ?mk ?kc; (case pg => k_is); (case hd => k_is); (case po => k_is); (case sa => k_is); (case mk => k_is); (case kc => k_is)))
    (case F_cR => (refine' Prg.gm_mk ?a ?i ?l ?c ?k; (case a => k_is); (case i => k_is); (case l => k_is); (case c => k_is); (case k => k_is)))
    (case k_cS => (refine' Prg.cls_mk ?pg ?hd ?po ?sa ?mk ?kc; (case pg => k_is); (case hd => k_is); (case po => k_is); (case sa => k_is); (case mk => k_is); (case kc => k_is)))
    (case F_cS => (refine' Prg.gm_mk ?a ?i ?l ?c ?k; (case a => k_is); (case i => k_is); (case l => k_is); (case c => k_is); (case k => k_is)))
    (case n_cP_kind => k_is)
    (case n_cP_key => k_is)
    (case n_cP_own => k_is)
    (case n_cP_length => k_is)
    (case n_cP_comma => k_is)
    (case n_cP_filled => k_is)
    (case n_cP_noted => k_is)
    (case n_cP_behind => k_is)
    (case n_cL_piece => k_is)
    (case n_cL_closer => k_is)
    (case n_cL_state => k_is)
    (case n_cL_seen => k_is)
    (case n_cL_last => k_is)
    (case n_cR_text => k_is)
    (case n_cR_place => k_is)
    (case n_cR_pieces => k_is)
    (case n_cR_levels => k_is)
    (case n_cS_width => k_is)
    (case n_cS_told => k_is)
    (case n_cS_opened => k_is)
    (case n_cS_broken => k_is)
    (case pl => decide)
    (case pr => decide)
    (case lr => decide)
    (case ps => decide)
    (case c_lw => exact ⟨_, by k_is⟩)
    (case c_mw => exact ⟨_, by k_is⟩)
    (case F_isWord => (refine' Prg.gf_mk ?a ?l ?c ?k; (case a => k_is); (case l => k_is); (case c => k_is); (case k => k_is)))
    (case F_isPrinted => (refine' Prg.gf_mk ?a ?l ?c ?k; (case a => k_is); (case l => k_is); (case c => k_is); (case k => k_is)))
    (case F_wordEnd => (refine' Prg.gf_mk ?a ?l ?c ?k; (case a => k_is); (case l => k_is); (case c => k_is); (case k => k_is)))
    (case F_stringEnd => (refine' Prg.gf_mk ?a ?l ?c ?k; (case a => k_is); (case l => k_is); (case c => k_is); (case k => k_is)))
    (case F_keyTold => (refine' Prg.gf_mk ?a ?l ?c ?k; (case a => k_is); (case l => k_is); (case c => k_is); (case k => k_is)))
    (case F_answer => (refine' Prg.gf_mk ?a ?l ?c ?k; (case a => k_is); (case l => k_is); (case c => k_is); (case k => k_is)))
    (case M_add => (refine' Prg.gm_mk ?a ?i ?l ?c ?k; (case a => k_is); (case i => k_is); (case l => k_is); (case c => k_is); (case k => k_is)))
    (case M_read => (refine' Prg.gm_mk ?a ?i ?l ?c ?k; (case a => k_is); (case i => k_is); (case l => k_is); (case c => k_is); (case k => k_is)))
    (case M_skip => (refine' Prg.gm_mk ?a ?i ?l ?c ?k; (case a => k_is); (case i => k_is); (case l => k_is); (case c => k_is); (case k => k_is)))
    (case M_next => (refine' Prg.gm_mk ?a ?i ?l ?c ?k; (case a => k_is); (case i => k_is); (case l => k_is); (case c => k_is); (case k => k_is)))
    (case M_comm => (refine' Prg.gm_mk ?a ?i ?l ?c ?k; (case a => k_is); (case i => k_is); (case l => k_is); (case c => k_is); (case k => k_is)))
    (case M_coma => (refine' Prg.gm_mk ?a ?i ?l ?c ?k; (case a => k_is); (case i => k_is); (case l => k_is); (case c => k_is); (case k => k_is)))
    (case M_clos => (refine' Prg.gm_mk ?a ?i ?l ?c ?k; (case a => k_is); (case i => k_is); (case l => k_is); (case c => k_is); (case k => k_is)))
    (case M_memb => (refine' Prg.gm_mk ?a ?i ?l ?c ?k; (case a => k_is); (case i => k_is); (case l => k_is); (case c => k_is); (case k => k_is)))
    (case M_keyy => (refine' Prg.gm_mk ?a ?i ?l ?c ?k; (case a => k_is); (case i => k_is); (case l => k_is); (case c => k_is); (case k => k_is)))
    (case M_open => (refine' Prg.gm_mk ?a ?i ?l ?c ?k; (case a => k_is); (case i => k_is); (case l => k_is); (case c => k_is); (case k => k_is)))
    (case M_plai => (refine' Prg.gm_mk ?a ?i ?l ?c ?k; (case a => k_is); (case i => k_is); (case l => k_is); (case c => k_is); (case k => k_is)))
    (case M_flat => (refine' Prg.gm_mk ?a ?i ?l ?c ?k; (case a => k_is); (case i => k_is); (case l => k_is); (case c => k_is); (case k => k_is)))
    (case M_tell => (refine' Prg.gm_mk ?a ?i ?l ?c ?k; (case a => k_is); (case i => k_is); (case l => k_is); (case c => k_is); (case k => k_is)))
    (case M_goin => (refine' Prg.gm_mk ?a ?i ?l ?c ?k; (case a => k_is); (case i => k_is); (case l => k_is); (case c => k_is); (case k => k_is)))
    (case M_clsg => (refine' Prg.gm_mk ?a ?i ?l ?c ?k; (case a => k_is); (case i => k_is); (case l => k_is); (case c => k_is); (case k => k_is)))
    (case M_putt => (refine' Prg.gm_mk ?a ?i ?l ?c ?k; (case a => k_is); (case i => k_is); (case l => k_is); (case c => k_is); (case k => k_is)))
    (case M_putc => (refine' Prg.gm_mk ?a ?i ?l ?c ?k; (case a => k_is); (case i => k_is); (case l => k_is); (case c => k_is); (case k => k_is)))
    (case M_setl => (refine' Prg.gm_mk ?a ?i ?l ?c ?k; (case a => k_is); (case i => k_is); (case l => k_is); (case c => k_is); (case k => k_is)))
    (case F_d0 => (refine' Prg.gfc_mk ?a ?l ?c ?k; (case a => k_is); (case l => k_is); (case c => k_is); (case k => k_is)))
    (case F_main => (refine' Prg.gf_mk ?a ?l ?c ?k; (case a => k_is); (case l => k_is); (case c => k_is); (case k => k_is)))
  case S =>
    intro P H xs a hO hwi hask hx
    cases hx with
    | cons h1 h2 =>
      cases h2 with
      | cons h2 h3 =>
      cases h3
      cases h1 with
      | int i =>
      cases h2 with
      | lst hs ha =>
        have e := L2.ints_dw a.2.1 _ ha
        subst e
        have q : (Codec.inInt (-2147483648) 2147483647 a.1 && ((Codec.inLen 0 20000 a.2.1 && a.2.1.all (Codec.inInt 0 255)) && true)) = true := hwi
        rw [Bool.and_eq_true, Bool.and_eq_true, Bool.and_eq_true] at q
        have nn : ∀ x ∈ a.2.1, 0 ≤ x := fun x hx => (Codec.inInt_iff.mp (List.all_eq_true.mp q.2.1.2 x hx)).1
        have hl : (a.2.1.map Int.toNat).length ≤ 20000 := by rw [List.length_map]; exact (Codec.inNat_iff.mp q.2.1.1).2
        have h8 : Prg.B8 (a.2.1.map Int.toNat) := fun y hy => by
          obtain ⟨x, hx, rfl⟩ := List.mem_map.mp hy
          have := (Codec.inInt_iff.mp (List.all_eq_true.mp q.2.1.2 x hx)).2
          omega
        refine ⟨_, _, a.2.1.map Int.toNat, rfl, Prg.rd_of (by kernel_rfl) (by rw [← Prg.nat_ints nn]; exact hs), hl, h8, hO.1 _ (by simp), fun H' p hp => ?_⟩
        show L2.Dw _ H' (.ref p) (.list ((PySg51.measure a.1 a.2.1).map WData.int))
        rw [Prg.measure_spec]
        exact .lst hp (L2.dw_ints _)
