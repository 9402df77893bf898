import PyProof.Rows.All
import Wide.All
import OpenK.AllK
import Wide.FinOn
import Lean
import PyProof.EqAt
import PyProof.EqKinds
import PyProof.TupleCall
import PyProof.NeKinds
import KE.KRevIter
import PyProof.Rows.MinMaxN
import PyProof.AutoSeq1
import PyProof.MeetsSeq
import PyProof.EnumStmt
import PyProof.EnumFor
import PyProof.CollectWalk
import PyProof.Rows.SortShell
import KE.KSortTup
import PyProof.SetKind
import PyProof.DictIter
import PyProof.DictWalks
import PyProof.DictStraight
import PyProof.SetRoads
import PyProof.FactsAll.set_1
import PyProof.FactsAll.set_2
import PyProof.Rows.SetFrom
import PyProof.Rows.SumAny
import KE.KDictList
import PyProof.StationsW
import PyProof.PassesOwn
import PyProof.RulesTry
import KE.KTryMore
import PyProof.ExcArgsOwn
import PySem.Challenge.RW_benchrota_k14_refused
set_option Elab.async false
set_option linter.all false
set_option maxRecDepth 100000
namespace L2
open PySem PySem.Spec PyProof.Rows
noncomputable abbrev Key := Sum Int Str
noncomputable def keyIs : Key -> Value -> Bool
  | .inl k, v => Value.isInt k v
  | .inr x, v => Value.isStrOf x v
noncomputable def keyH (w : World) : Key -> Int
  | .inl k => hashInt k
  | .inr x => hashStr w x
theorem keyIs_shape : ∀ {k : Key} {v : Value}, keyIs k v = true -> (∃ i t, k = Sum.inl i /\ v = Value.int i t) ∨ (∃ x t, k = Sum.inr x /\ v = Value.str x t)
  | .inl i, v, h => by
    obtain ⟨t, e⟩ := Value.isInt_shape (k := i) (v := v) h
    exact .inl ⟨i, t, rfl, e⟩
  | .inr x, v, h => by
    obtain ⟨t, e⟩ := Value.isStrOf_shape (x := x) (v := v) h
    exact .inr ⟨x, t, rfl, e⟩
theorem keyIs_int (i : Int) (t : Tok) : keyIs (.inl i) (.int i t) = true := by simp [keyIs, Value.isInt]
theorem keyIs_str (x : Str) (t : Tok) : keyIs (.inr x) (.str x t) = true := by simp [keyIs, Value.isStrOf]
theorem key_ll (a b : Int) : decide ((Sum.inl a : Key) = Sum.inl b) = (a == b) := by
  by_cases e : a = b
  · subst e; simp
  · have h : ¬ (Sum.inl a : Key) = Sum.inl b := fun q => e (Sum.inl.inj q)
    rw [decide_eq_false h]
    exact (beq_eq_false_iff_ne.mpr e).symm
theorem key_rr (a b : Str) : decide ((Sum.inr a : Key) = Sum.inr b) = decide (a = b) := by
  by_cases e : a = b
  · subst e; simp
  · have h : ¬ (Sum.inr a : Key) = Sum.inr b := fun q => e (Sum.inr.inj q)
    rw [decide_eq_false h, decide_eq_false e]
theorem key_lr (a : Int) (b : Str) : decide ((Sum.inl a : Key) = Sum.inr b) = false := decide_eq_false (fun q => nomatch q)
theorem key_rl (a : Str) (b : Int) : decide ((Sum.inr a : Key) = Sum.inl b) = false := decide_eq_false (fun q => nomatch q)
noncomputable def mixKind (prog : Program) (w : World) : PySem.KeyKind prog w Key where
  is := keyIs
  hash := keyH w
  inj := fun v a b ha hb => by
    rcases keyIs_shape ha with ⟨i, t, rfl, rfl⟩ | ⟨x, t, rfl, rfl⟩
    · rcases keyIs_shape hb with ⟨j, u, rfl, e⟩ | ⟨y, u, rfl, e⟩
      · injection e with e1 _; rw [e1]
      · exact nomatch e
    · rcases keyIs_shape hb with ⟨j, u, rfl, e⟩ | ⟨y, u, rfl, e⟩
      · exact nomatch e
      · injection e with e1 _; rw [e1]
  byValue := fun k v h => by
    rcases keyIs_shape h with ⟨i, t, rfl, rfl⟩ | ⟨x, t, rfl, rfl⟩ <;> rfl
  pyHash := fun hv h => by
    rcases keyIs_shape hv with ⟨i, t, rfl, rfl⟩ | ⟨x, t, rfl, rfl⟩
    · exact wpAny_pyHash_int h
    · exact wpAny_pyHash_str h
  eqBool := fun hu hv h => by
    rcases keyIs_shape hu with ⟨i, t, rfl, rfl⟩ | ⟨x, t, rfl, rfl⟩
    · rcases keyIs_shape hv with ⟨j, u, rfl, rfl⟩ | ⟨y, u, rfl, rfl⟩
      · rw [key_ll] at h; exact wpAny_eqBool_int h
      · rw [key_lr] at h; exact SeqAt.EqAt.int_str i t y u _ _ _ _ h
    · rcases keyIs_shape hv with ⟨j, u, rfl, rfl⟩ | ⟨y, u, rfl, rfl⟩
      · rw [key_rl] at h; exact SeqAt.EqAt.str_int x t j u _ _ _ _ h
      · rw [key_rr] at h; exact wpAny_eqBool_str h
  «strs» := fun k x t v h => by
    rcases keyIs_shape h with ⟨i, u, rfl, e⟩ | ⟨y, u, rfl, e⟩
    · exact nomatch e
    · injection e with e1 _
      subst e1
      cases v <;> rfl
theorem mixKind_int (prog : Program) (w : World) (i : Int) (t : Tok) : (mixKind prog w).is (.inl i) (.int i t) = true := keyIs_int i t
theorem mixKind_str (prog : Program) (w : World) (x : Str) (t : Tok) : (mixKind prog w).is (.inr x) (.str x t) = true := keyIs_str x t
end L2
namespace L2
open PySem PySem.Spec PyProof.Rows
inductive V where
  | non | bl (b : Bool) | int (i : Int) | str (x : Str) | byt (b : Array UInt8) | flt (b : UInt64) | ref (a : Addr) | ty (n : String)
  deriving DecidableEq
noncomputable def RelV : V -> Value -> Prop
  | .non, u => u = Value.none
  | .bl b, u => u = Value.bool b
  | .int i, u => ∃ t, u = Value.int i t
  | .str x, u => ∃ t, u = Value.str x t
  | .byt b, u => ∃ t, u = Value.bytes b t
  | .flt b, u => ∃ t, u = Value.float b t
  | .ref a, u => u = Value.ref a
  | .ty n, u => u = Value.type n
noncomputable abbrev Vals : List V -> List Value -> Prop := Paired RelV
theorem Vals.length {xs : List V} {us : List Value} (r : Vals xs us) : xs.length = us.length := Paired.length r
theorem Vals.get : ∀ {xs : List V} {us : List Value} {i : Nat} {x : V}, Vals xs us -> xs[i]? = some x -> ∃ u, us[i]? = some u /\ RelV x u := by
  intro xs us i x h
  induction h generalizing i with
  | nil => intro e; simp at e
  | cons r t ih =>
    intro e
    cases i with
    | zero => simp at e; subst e; exact ⟨_, rfl, r⟩
    | succ i =>
      obtain ⟨u, h1, h2⟩ := ih (i := i) (by simpa using e)
      exact ⟨u, by simpa using h1, h2⟩
theorem Vals.set {x : V} {u : Value} (r : RelV x u) : ∀ {xs : List V} {us : List Value} (i : Nat), Vals xs us -> Vals (xs.set i x) (us.set i u) := by
  intro xs us i h
  induction h generalizing i with
  | nil => exact .nil
  | cons q t ih =>
    cases i with
    | zero => exact .cons r t
    | succ i => exact .cons q (ih i)
theorem Vals.append : ∀ {xs ys : List V} {us ws : List Value}, Vals xs us -> Vals ys ws -> Vals (xs ++ ys) (us ++ ws) := by
  intro xs ys us ws h s
  induction h with
  | nil => exact s
  | cons r t ih => exact .cons r ih
theorem Vals.take : ∀ {xs : List V} {us : List Value} (n : Nat), Vals xs us -> Vals (xs.take n) (us.take n) := by
  intro xs us n h
  induction h generalizing n with
  | nil => cases n <;> exact .nil
  | cons r t ih =>
    cases n with
    | zero => exact .nil
    | succ n => exact .cons r (ih n)
theorem Vals.drop : ∀ {xs : List V} {us : List Value} (n : Nat), Vals xs us -> Vals (xs.drop n) (us.drop n) := by
  intro xs us n h
  induction h generalizing n with
  | nil => cases n <;> exact .nil
  | cons r t ih =>
    cases n with
    | zero => exact .cons r t
    | succ n => exact ih n
noncomputable def RelO : Option V -> Option Value -> Prop
  | some v, some u => RelV v u
  | none, none => True
  | _, _ => False
noncomputable def KV {κ : Type} : List (κ × V) -> List (κ × Value) -> Prop := Paired fun (p : κ × V) (q : κ × Value) => p.1 = q.1 /\ RelV p.2 q.2
noncomputable def kV : Key -> V
  | .inl i => .int i
  | .inr x => .str x
inductive HO where
  | lst (xs : List V)
  | tup (xs : List V)
  | dK (kvs : List (Key × V)) | dT (kvs : List (List Key × V))
  | set (S : Int -> Bool) (n : Nat)
  | ins (C dx : Addr) (fs : List (Str × V))
  | own (x : Addr)
  | xd (fs : List (Str × V))
  | met (f x : Addr)
  | rng (lo hi : Int)
  | frz (o : Obj) (u : HO)
  | tbl (ps : Array Value)
  | ext (φ : Heap -> Prop)
noncomputable abbrev Hp := Addr -> Option HO
noncomputable def upd (H : Hp) (a : Addr) (o : HO) : Hp := fun b => if b = a then some o else H b
theorem upd_same {H : Hp} {a : Addr} {o : HO} : upd H a o a = some o := by unfold upd; rw [if_pos rfl]
theorem upd_ne {H : Hp} {a b : Addr} {o : HO} (h : b ≠ a) : upd H a o b = H b := by unfold upd; rw [if_neg h]
theorem ne_of {H : Hp} {a b : Addr} {o u : HO} (h : H a = some o) (h' : H b = some u) (d : o ≠ u) : a ≠ b := by
  intro e; subst e; rw [h] at h'; exact d (Option.some.inj h')
theorem ne_of_none {H : Hp} {a b : Addr} {o : HO} (h : H a = some o) (h' : H b = none) : a ≠ b := by
  intro e; subst e; rw [h] at h'; cases h'
section
variable (P : Program) (w : World)
noncomputable def ObjOk (H : Hp) (h : Heap) (a : Addr) : HO -> Prop
  | .lst xs => xs.length <= sizeLine /\ ∃ (its : List Value) (n : Nat), Vals xs its /\ h.get? a = some { cls := .type "list", data := .seq its.toArray n }
  | .tup xs => xs.length <= sizeLine /\ ∃ its : List Value, Vals xs its /\ IsTup h a its.toArray
  | .dK kvs => kvs.length <= sizeLine /\ (a == sysModules) = false /\ ∃ vs, KV kvs vs /\ h.DictOf (mixKind P w) a vs
  | .dT kvs => kvs.length <= sizeLine /\ (a == sysModules) = false /\ ∃ xs : List (List Key × Addr × Value),
      Paired (fun (p : List Key × V) (q : List Key × Addr × Value) => p.1 = q.1 /\ H q.2.1 = some (.tup (p.1.map kV)) /\ RelV p.2 q.2.2) kvs xs /\
      ∃ o es ep, h.get? a = some o /\ o.ExactDict /\ o.data = .dict es ep /\ es.toList = xs.map (entryOfKey (tupleKind (mixKind P w))) /\ (xs.map (·.1)).Nodup
  | .set S n => h.SetOf (intKind P w) a S n
  | .ins C dx fs => H dx = some (.own a) /\ fs.length <= 1000 /\ dx ≠ a /\ h.get? a = some (PySem.W.instObj C dx) /\
      ∃ mA, h.Ns1 dx mA /\ (∀ f, RelO (fs.lookup f) (mA f)) /\ PySem.Within mA (fs.map (·.1))
  | .own _ => ∃ o, h.get? a = some o
  | .xd fs => ∃ mA, h.Ns1 a mA /\ ∀ f, RelO (fs.lookup f) (mA f)
  | .rng lo hi => ∃ t u v, h.get? a = some { cls := .type "range", data := .fields #[.int lo t, .int hi u, .int 1 v] }
  | .frz o u => h.get? a = some o /\ ObjOk H h a u
  | .tbl ps => h.get? a = some { cls := .none, data := .fields ps }
  | .met f x => h.get? a = some (PySem.W.methodObj (.ref f) (.ref x))
  | .ext φ => φ h /\ (∃ o, h.get? a = some o) /\ ∀ h1 h2 : Heap, φ h1 -> (∀ o, h1.get? a = some o -> h2.get? a = some o) -> φ h2
noncomputable def HOk (H : Hp) (h : Heap) : Prop := ∀ a o, H a = some o -> ObjOk P w H h a o
end
section
variable {P : Program} {w : World} {H H' : Hp} {h h' : Heap} {a : Addr} {o : HO}
theorem ObjOk.lt (x : ObjOk P w H h a o) : a < h.objs.size := by
  cases o with
  | lst xs => obtain ⟨_, _, _, _, e⟩ := x; exact Heap.lt_size e
  | tup xs => obtain ⟨_, _, _, p⟩ := x; exact p.lt
  | dK kvs => obtain ⟨_, _, _, _, o, _, _, e, _⟩ := x; exact Heap.lt_size e
  | dT kvs => obtain ⟨_, _, _, _, o, _, _, e, _⟩ := x; exact Heap.lt_size e
  | set S n => obtain ⟨o, _, _, _, e, _⟩ := x; exact Heap.lt_size e
  | ins C dx fs => obtain ⟨_, _, _, e, _⟩ := x; exact Heap.lt_size e
  | own y => obtain ⟨_, e⟩ := x; exact Heap.lt_size e
  | xd fs => obtain ⟨_, ⟨_, _, _, e, _⟩, _⟩ := x; exact Heap.lt_size e
  | rng lo hi => obtain ⟨_, _, _, e⟩ := x; exact Heap.lt_size e
  | frz ob u => obtain ⟨e, _⟩ := x; exact Heap.lt_size e
  | tbl ps => exact Heap.lt_size (show h.get? a = some _ from x)
  | met f y => exact Heap.lt_size (show h.get? a = some _ from x)
  | ext φ => obtain ⟨_, ⟨_, e⟩, _⟩ := x; exact Heap.lt_size e
theorem Paired.mapP {α β : Type} {F G : α -> β -> Prop} : ∀ {l₁ : List α} {l₂ : List β}, Paired F l₁ l₂ -> (∀ a b, F a b -> G a b) -> Paired G l₁ l₂ := by
  intro l₁ l₂ h f
  induction h with
  | nil => exact .nil
  | cons r t ih => exact .cons (f _ _ r) ih
theorem ObjOk.stay (x : ObjOk P w H h a o) (k : ∀ b u, (b = a ∨ H b = some (.own a)) -> h.get? b = some u -> h'.get? b = some u)
    (ho : ∀ b, H b = some (.own a) -> H' b = some (.own a)) (ht : ∀ b xs, H b = some (.tup xs) -> H' b = some (.tup xs)) : ObjOk P w H' h' a o := by
  induction o with
  | lst xs => obtain ⟨z, its, n, r, e⟩ := x; exact ⟨z, its, n, r, k _ _ (.inl rfl) e⟩
  | tup xs => obtain ⟨z, its, r, ob, e, c⟩ := x; exact ⟨z, its, r, ob, k _ _ (.inl rfl) e, c⟩
  | dK kvs => obtain ⟨z, y, vs, r, ob, es, ep, e, c⟩ := x; exact ⟨z, y, vs, r, ob, es, ep, k _ _ (.inl rfl) e, c⟩
  | dT kvs =>
    obtain ⟨z, y, xs, r, ob, es, ep, e, c⟩ := x
    exact ⟨z, y, xs, Paired.mapP r fun p q z => ⟨z.1, ht _ _ z.2.1, z.2.2⟩, ob, es, ep, k _ _ (.inl rfl) e, c⟩
  | set S n => obtain ⟨ob, es, ep, t, e, c⟩ := x; exact ⟨ob, es, ep, t, k _ _ (.inl rfl) e, c⟩
  | ins C dx fs =>
    obtain ⟨d, z, ne, e, mA, ⟨od, es, ep, e2, c⟩, r⟩ := x
    exact ⟨ho _ d, z, ne, k _ _ (.inl rfl) e, mA, ⟨od, es, ep, k _ _ (.inr d) e2, c⟩, r⟩
  | own y => obtain ⟨ob, e⟩ := x; exact ⟨ob, k _ _ (.inl rfl) e⟩
  | xd fs => obtain ⟨mA, ⟨od, es, ep, e, c⟩, r⟩ := x; exact ⟨mA, ⟨od, es, ep, k _ _ (.inl rfl) e, c⟩, r⟩
  | rng lo hi => obtain ⟨t, u, v, e⟩ := x; exact ⟨t, u, v, k _ _ (.inl rfl) e⟩
  | frz ob u ih => obtain ⟨e, q⟩ := x; exact ⟨k _ _ (.inl rfl) e, ih q⟩
  | tbl ps =>
    have e : h.get? a = some { cls := .none, data := .fields ps } := x
    show h'.get? a = some { cls := .none, data := .fields ps }
    exact k a _ (.inl rfl) e
  | met f y =>
    have e : h.get? a = some (PySem.W.methodObj (.ref f) (.ref y)) := x
    show h'.get? a = some (PySem.W.methodObj (.ref f) (.ref y))
    exact k a _ (.inl rfl) e
  | ext φ => obtain ⟨p, ⟨o, e⟩, st⟩ := x; exact ⟨st _ _ p fun o q => k _ _ (.inl rfl) q, ⟨o, k _ _ (.inl rfl) e⟩, st⟩
theorem HOk.lt (x : HOk P w H h) (e : H a = some o) : a < h.objs.size := (x a o e).lt
theorem HOk.fresh (x : HOk P w H h) (e : h.objs.size <= a) : H a = none := by
  cases q : H a with
  | none => rfl
  | some u => exact absurd (Nat.lt_of_lt_of_le (x.lt q) e) (Nat.lt_irrefl _)
theorem HOk.kept (x : HOk P w H h) (k : ∀ b u, h.get? b = some u -> h'.get? b = some u) : HOk P w H h' := fun a o e =>
  (x a o e).stay (fun b u _ q => k b u q) (fun _ q => q) fun _ _ q => q
theorem HOk.laid (x : HOk P w H h) (k : ∀ b u, h.get? b = some u -> h'.get? b = some u) (hp : h.objs.size <= a) (new : ObjOk P w (upd H a o) h' a o) : HOk P w (upd H a o) h' := fun b u e => by
  have hn := x.fresh hp
  by_cases hb : b = a
  · subst hb; rw [upd_same] at e; cases e; exact new
  · rw [upd_ne hb] at e
    exact (x b u e).stay (fun c v _ q => k c v q) (fun c q => by rw [upd_ne (ne_of_none q hn)]; exact q) fun c xs q => by rw [upd_ne (ne_of_none q hn)]; exact q
end
noncomputable def Rd (H : Hp) (a : Addr) (u : HO) : Prop := H a = some u ∨ ∃ o, H a = some (.frz o u)
theorem Rd.ok {P : Program} {w : World} {H : Hp} {h : Heap} {a : Addr} {u : HO} (r : Rd H a u) (x : HOk P w H h) : ObjOk P w H h a u := by
  rcases r with r | ⟨o, r⟩
  · exact x a u r
  · obtain ⟨_, q⟩ := x a _ r
    exact q
noncomputable def Mut : Option HO -> Prop
  | some (.lst _) => True
  | some (.dK _) => True
  | some (.dT _) => True
  | some (.set _ _) => True
  | some (.ins _ _ _) => True
  | some (.ext _) => True
  | _ => False
section
variable {P : Program} {w : World} {H : Hp} {h h' : Heap} {x e : Addr} {o' : HO}
theorem HOk.write (ok : HOk P w H h) (mu : Mut (H x)) (he : e = x ∨ H e = some (.own x)) (k : ∀ b u, b ≠ e -> h.get? b = some u -> h'.get? b = some u) (heo : ∃ u, h'.get? e = some u)
    (new : ObjOk P w (upd H x o') h' x o') : HOk P w (upd H x o') h' := fun b u q => by
  have nown : ∀ c y, H c = some (.own y) -> c ≠ x := fun c y r z => by subst z; rw [r] at mu; exact mu
  have ntup : ∀ c xs, H c = some (.tup xs) -> c ≠ x := fun c xs r z => by subst z; rw [r] at mu; exact mu
  by_cases hb : b = x
  · subst hb; rw [upd_same] at q; cases q; exact new
  · rw [upd_ne hb] at q
    by_cases hbe : b = e
    · have q' : H b = some (.own x) := by
        rcases he with z | z
        · exact absurd (hbe.trans z) hb
        · rw [hbe]; exact z
      rw [q] at q'; cases q'
      obtain ⟨v, hv⟩ := heo
      exact ⟨v, by rw [hbe]; exact hv⟩
    · refine (ok b u q).stay (fun c v hc r => k c v ?_ r) (fun c r => by rw [upd_ne (nown c b r)]; exact r) fun c xs r => by rw [upd_ne (ntup c xs r)]; exact r
      rcases hc with rfl | hc
      · exact hbe
      · rintro rfl
        rcases he with z | z
        · exact nown c b hc z
        · rw [hc] at z; cases z; exact hb rfl
end
structure Un (fs ex : List Addr) (H H' : Hp) (h h' : Heap) : Prop where
  keep : ∀ b o, h.get? b = some o -> H b = none -> b ∉ fs -> b ∉ ex -> h'.get? b = some o
  slot : ∀ b o, h.get? b = some o -> H b = none -> b ∈ fs -> b ∉ ex -> ∃ sl, h'.get? b = some { o with slots := sl }
  free : ∀ b o, h.get? b = some o -> H b = none -> b ∉ ex -> H' b = none
  there : ∀ b o, h.get? b = some o -> b ∉ ex -> ∃ o', h'.get? b = some o'
  tups : ∀ b xs, H b = some (.tup xs) -> H' b = some (.tup xs)
  frzs : ∀ b o u, H b = some (.frz o u) -> H' b = some (.frz o u)
  tbls : ∀ b ps, H b = some (.tbl ps) -> ∃ more, H' b = some (.tbl (ps ++ more))
section
variable {fs fs' ex ex' : List Addr} {H H1 H2 : Hp} {h h1 h2 h' : Heap} {a x e : Addr} {o : HO}
theorem Un.any (u : Un fs ex H H1 h h1) {b : Addr} {ob : Obj} (q : h.get? b = some ob) (n : H b = none) (hx : b ∉ ex) : ∃ sl, h1.get? b = some { ob with slots := sl } := by
  by_cases hb : b ∈ fs
  · exact u.slot b ob q n hb hx
  · exact ⟨ob.slots, u.keep b ob q n hb hx⟩
theorem Un.kept (k : ∀ b u, h.get? b = some u -> h'.get? b = some u) : Un fs ex H H h h' :=
  ⟨fun b ob q _ _ _ => k b ob q, fun b ob q _ _ _ => ⟨ob.slots, k b ob q⟩, fun _ _ _ n _ => n, fun b ob q _ => ⟨ob, k b ob q⟩, fun _ _ q => q, fun _ _ _ q => q, fun _ ps q => ⟨#[], by rw [q]; simp⟩⟩
theorem Un.refl : Un fs ex H H h h := Un.kept fun _ _ q => q
theorem Un.laid (k : ∀ b u, h.get? b = some u -> h'.get? b = some u) (hp : h.objs.size <= a) (hn : H a = none) : Un fs ex H (upd H a o) h h' where
  keep := fun b u q _ _ _ => k b u q
  slot := fun b u q _ _ _ => ⟨u.slots, k b u q⟩
  free := fun b u q n _ => by rw [upd_ne (Nat.ne_of_lt (Nat.lt_of_lt_of_le (Heap.lt_size q) hp))]; exact n
  there := fun b u q _ => ⟨u, k b u q⟩
  tups := fun b xs q => by rw [upd_ne (ne_of_none q hn)]; exact q
  frzs := fun b u xs q => by rw [upd_ne (ne_of_none q hn)]; exact q
  tbls := fun b ps q => ⟨#[], by rw [upd_ne (ne_of_none q hn), q]; simp⟩
theorem Un.write (mu : Mut (H x)) (he : e = x ∨ H e = some (.own x)) (k : ∀ b u, b ≠ e -> h.get? b = some u -> h'.get? b = some u) (heo : ∃ u, h'.get? e = some u) : Un fs ex H (upd H x o) h h' := by
  have hx : ∀ b, H b = none -> b ≠ x := fun b n z => by subst z; rw [n] at mu; exact mu
  have hb : ∀ b, H b = none -> b ≠ e := fun b n z => by
    subst z
    rcases he with r | r
    · exact hx b n r
    · rw [n] at r; cases r
  have hm : ∀ b u, H b = some u -> ¬ Mut (some u) -> b ≠ x := fun b u q nm z => by subst z; rw [q] at mu; exact nm mu
  refine ⟨fun b u q n _ _ => k b u (hb b n) q, fun b u q n _ _ => ⟨u.slots, k b u (hb b n) q⟩, fun b u q n _ => by rw [upd_ne (hx b n)]; exact n, fun b u q _ => ?_,
    fun b xs q => by rw [upd_ne (hm b _ q fun z => z)]; exact q, fun b u xs q => by rw [upd_ne (hm b _ q fun z => z)]; exact q, fun b ps q => ⟨#[], by rw [upd_ne (hm b _ q fun z => z), q]; simp⟩⟩
  by_cases hbe : b = e
  · subst hbe; exact heo
  · exact ⟨u, k b u hbe q⟩
end
noncomputable def trk (h : Heap) (H : Hp) : List Addr := (List.range h.objs.size).filter fun a => (H a).isSome
noncomputable def hidT (h : Heap) (H : Hp) : Heap := PySem.W.hideAll h (trk h H)
theorem hidT_size (h : Heap) (H : Hp) : (hidT h H).objs.size = h.objs.size := PySem.W.hideAll_size _ _
theorem hidT_get {h : Heap} {H : Hp} {b : Addr} {o : Obj} (e : h.get? b = some o) (n : H b = none) : (hidT h H).get? b = some o :=
  PySem.W.hideAll_get _ e fun hm => by
    have q : (H b).isSome = true := (List.mem_filter.mp hm).2
    rw [n] at q; simp at q
theorem of_hidT {h : Heap} {H : Hp} {b : Addr} {o : Obj} (e : (hidT h H).get? b = some o) : h.get? b = some o /\ H b = none := by
  have e' : h.get? b = some o := PySem.W.of_hideAll (trk h H) e
  refine ⟨e', ?_⟩
  cases q : H b with
  | none => rfl
  | some x =>
    have hm : b ∈ trk h H := List.mem_filter.mpr ⟨List.mem_range.mpr (Heap.lt_size e'), by simp [q]⟩
    have z : (hidT h H).get? b = none := PySem.W.hideAll_none (trk h H) hm
    rw [z] at e; cases e
noncomputable def allNews (g h : Heap) (L : Addr) : List (Addr × Obj) := (List.range h.objs.size).filterMap fun a => if a = L ∨ (g.get? a).isSome = true then none else (h.get? a).map fun o => (a, o)
noncomputable def rest (g h : Heap) (L d : Addr) : List (Addr × Obj) := (allNews g h L).filter fun p => decide (p.1 ≠ d)
end L2
namespace L2
open PySem PySem.Spec PyProof.Rows
structure Mod (K : PySem.W.Frag) (mg : Str -> Option Value) (base : Heap) : Prop where
  kin : K.In base
  glob : base.Ns mainGlobals mg
  blt : ∃ mb, base.Ns builtinsNs mb /\ ∀ x : Str, x ≠ "__name__" -> mb x = bootBuiltins x
  nolimit : base.NoLimit
structure Cx where
  prog : Program
  w : World
  K : PySem.W.Frag
  mg : Str -> Option Value
  base : Heap
  A : Around
  N : List Str
  s₀ : Shared
  H₀ : Hp
  env : Env
  outer : List Env
  stack : List Env
  ex : List Addr
  fn : Str -> Bool
  calm : Bool
  pn : List (Addr × Obj)
  xe : Value -> Shared -> Prop
noncomputable def frs (l : List Env) : List Addr := l.filterMap (·.frame)
noncomputable abbrev Cx.fs (X : Cx) : List Addr := frs X.outer
noncomputable def Vis (sc : Scope) (x : Str) : Prop := sc.names.lookup x = some .local ∨ sc.names.lookup x = some .cell ∨ sc.names.lookup x = some .free
noncomputable def Loc (sc : Scope) (x : Str) : Prop := sc.names.lookup x = some .local ∨ sc.names.lookup x = some .cell
noncomputable def Look (env : Env) (h : Heap) (m : Str -> Option Value) (x : Str) (u : Value) : Prop :=
  (env.kindOf x = some .local /\ m x = some u) ∨ ((env.kindOf x = some .cell ∨ env.kindOf x = some .free) /\ ∃ c, env.cells.lookup x = some c /\ h.IsCell c (some u))
structure Cx.Ok (X : Cx) : Prop where
  mod : Mod X.K X.mg X.base
  kind : X.env.scope.kind = .function
  glob : X.env.globals = mainGlobals
  blt : X.env.builtins = builtinsNs
  above : X.s₀.heap.objs.size <= X.env.locals
  inj : ∀ x y c, X.env.cells.lookup x = some c -> X.env.cells.lookup y = some c -> x = y
  has : ∀ x, (X.env.kindOf x = some .cell ∨ X.env.kindOf x = some .free) -> ∃ c, X.env.cells.lookup x = some c
  cab : ∀ x c, X.fn x = true -> X.env.cells.lookup x = some c -> X.s₀.heap.objs.size <= c
  hd : X.calm = true -> X.A.handled = none
  frames : X.A.frames = some X.stack
  stk : X.stack = X.outer ∨ (X.stack = X.env :: X.outer /\ X.env.frame = some X.env.locals)
  exf : ∀ b ∈ X.ex, b ≠ X.env.locals /\ ∀ x c, X.env.cells.lookup x = some c -> c ≠ b
  bs : ∀ b o, X.base.get? b = some o -> X.s₀.heap.get? b = some o /\ X.H₀ b = none
  bsz : X.base.objs.size <= X.s₀.heap.objs.size
  noex : ∀ b o, X.base.get? b = some o -> b ∉ X.ex
  exfs : ∀ b ∈ X.ex, b ∉ X.fs
  funs : X.s₀.heap.FunFrames X.base X.outer
  frf : ∀ b ∈ X.fs, X.H₀ b = none
structure Inv (X : Cx) (pins : List (Addr × Obj)) (σ : List (Option V)) (H : Hp) (s : Shared) : Prop where
  ok : X.Ok
  os : s.os = X.s₀.os
  bare : AllBare s.gens
  base : Un X.fs X.ex X.H₀ H X.s₀.heap s.heap
  loc : ∃ m, s.heap.Ns X.env.locals m /\ ∀ (i : Nat) (x : Str) (v : V), X.N[i]? = some x -> σ[i]? = some (some v) -> Vis X.env.scope x -> ∃ u, RelV v u /\ Look X.env s.heap m x u
  cell : ∀ x c, X.env.cells.lookup x = some c -> ∃ v, s.heap.IsCell c v
  free : H X.env.locals = none
  freeC : ∀ x c, X.env.cells.lookup x = some c -> H c = none
  pin : ∀ p ∈ X.pn ++ pins, s.heap.get? p.1 = some p.2 /\ H p.1 = none /\ p.1 ≠ X.env.locals /\ p.1 ∉ X.fs /\ ∀ v, p.2.data ≠ .cell v
  hok : HOk X.prog X.w H s.heap
  len : σ.length = X.N.length
section
variable {X : Cx} {pins : List (Addr × Obj)} {σ : List (Option V)} {H H' : Hp} {s : Shared} {h' : Heap}
theorem Cx.Ok.nofr (ok : X.Ok) {b : Addr} {o : Obj} (e : X.base.get? b = some o) : b ∉ X.fs := fun hb => by
  have := (ok.funs.mem hb).1
  rw [e] at this; cases this
theorem Inv.bs (I : Inv X pins σ H s) : ∀ b o, X.base.get? b = some o -> s.heap.get? b = some o /\ H b = none := fun b o e =>
  ⟨I.base.keep b o (I.ok.bs b o e).1 (I.ok.bs b o e).2 (I.ok.nofr e) (I.ok.noex b o e), I.base.free b o (I.ok.bs b o e).1 (I.ok.bs b o e).2 (I.ok.noex b o e)⟩
theorem Inv.bk (I : Inv X pins σ H s) : ∀ b o, X.base.get? b = some o -> s.heap.get? b = some o := fun b o e => (I.bs b o e).1
theorem Inv.mod (I : Inv X pins σ H s) : Mod X.K X.mg X.base := I.ok.mod
theorem Inv.kIn (I : Inv X pins σ H s) : X.K.In s.heap := I.ok.mod.kin.keeps I.bk
theorem Inv.fr (I : Inv X pins σ H s) : ∃ m, Fr X.base X.env.locals s.heap m :=
  let ⟨m, hn, _⟩ := I.loc
  ⟨m, hn, I.bk, Nat.le_trans I.ok.bsz I.ok.above⟩
theorem Inv.lt (I : Inv X pins σ H s) : X.env.locals < s.heap.objs.size := let ⟨_, hn, _⟩ := I.loc; hn.lt
theorem Inv.sz (I : Inv X pins σ H s) : X.s₀.heap.objs.size <= s.heap.objs.size := Nat.le_trans I.ok.above (Nat.le_of_lt I.lt)
theorem Inv.nofs (I : Inv X pins σ H s) {a : Addr} (h : s.heap.objs.size <= a) : a ∉ X.fs := fun hb => by
  obtain ⟨_, o, ho, _⟩ := I.ok.funs.mem hb
  exact absurd (Nat.lt_of_lt_of_le (Heap.lt_size ho) (Nat.le_trans I.sz h)) (Nat.lt_irrefl _)
theorem Inv.cne (I : Inv X pins σ H s) : ∀ x c, X.env.cells.lookup x = some c -> c ≠ X.env.locals := fun x c e z => by
  obtain ⟨v, o, ho, hd⟩ := I.cell x c e
  obtain ⟨m, ⟨o', es, ep, ho', hd', _⟩, _⟩ := I.loc
  rw [z, ho'] at ho; cases ho; rw [hd'] at hd; cases hd
theorem Inv.funs (I : Inv X pins σ H s) : s.heap.FunFrames X.base X.outer := by
  have all : ∀ (l : List Env), (∀ b ∈ frs l, b ∈ X.fs) -> X.s₀.heap.FunFrames X.base l -> s.heap.FunFrames X.base l := by
    intro l
    induction l with
    | nil => intro _ _; trivial
    | cons env r ih =>
      intro hs hl
      obtain ⟨hk, ⟨L, o, hf, hn, ho, hd⟩, hr⟩ := hl
      have hL : L ∈ X.fs := hs L (by unfold frs; rw [List.filterMap_cons, hf]; exact List.mem_cons_self)
      obtain ⟨sl, e⟩ := I.base.slot L o ho (I.ok.frf L hL) hL fun z => I.ok.exfs L z hL
      exact ⟨hk, ⟨L, _, hf, hn, e, hd⟩, ih (fun b hb => hs b (by unfold frs; rw [List.filterMap_cons, hf]; exact List.mem_cons_of_mem _ hb)) hr⟩
  exact all X.outer (fun _ hb => hb) I.ok.funs
theorem Inv.stack (I : Inv X pins σ H s) : s.heap.FunFrames X.base X.stack := by
  rcases I.ok.stk with e | ⟨e, hf⟩
  · rw [e]; exact I.funs
  · rw [e]
    obtain ⟨m, hn, _⟩ := I.loc
    refine .cons (by rw [I.ok.kind]; decide) hf hn ?_ I.funs
    exact Heap.get?_none_of_le (Nat.le_trans I.ok.bsz I.ok.above)
theorem Inv.stkSub (I : Inv X pins σ H s) : ∀ b ∈ frs X.stack, b ∈ X.env.locals :: X.fs := fun b hb => by
  rcases I.ok.stk with e | ⟨e, hf⟩
  · rw [e] at hb; exact List.mem_cons_of_mem _ hb
  · rw [e] at hb
    unfold frs at hb
    rw [List.filterMap_cons, hf] at hb
    exact hb
theorem Inv.stkFree (I : Inv X pins σ H s) : ∀ b ∈ frs X.stack, H b = none := fun b hb => by
  rcases List.mem_cons.mp (I.stkSub b hb) with e | hb
  · rw [e]; exact I.free
  · obtain ⟨_, o, ho, _⟩ := I.ok.funs.mem hb
    exact I.base.free b o ho (I.ok.frf b hb) fun z => I.ok.exfs b z hb
theorem Inv.step {g' : Array GenState} {t' : Nat} {d' : Drawn} {ch : List Addr} (I : Inv X pins σ H s)
    (hch : ∀ b ∈ ch, (b ∈ X.ex ∨ X.s₀.heap.objs.size <= b) /\ b ≠ X.env.locals /\ (∀ x c, X.env.cells.lookup x = some c -> c ≠ b) /\ ∀ p ∈ X.pn ++ pins, p.1 ≠ b)
    (keep : ∀ b o, b ≠ X.env.locals -> b ∉ X.fs -> b ∉ ch -> s.heap.get? b = some o -> H b = none -> h'.get? b = some o)
    (slot : ∀ b o, b ≠ X.env.locals -> b ∈ X.fs -> b ∉ ch -> s.heap.get? b = some o -> H b = none -> ∃ sl, h'.get? b = some { o with slots := sl }) (free : ∀ b o, b ∉ ch -> s.heap.get? b = some o -> H b = none -> H' b = none)
    (there : ∀ b o, b ∉ ch -> s.heap.get? b = some o -> ∃ o', h'.get? b = some o')
    (tups : ∀ b xs, H b = some (.tup xs) -> H' b = some (.tup xs)) (frzs : ∀ b o u, H b = some (.frz o u) -> H' b = some (.frz o u)) (tbls : ∀ b ps, H b = some (.tbl ps) -> ∃ more, H' b = some (.tbl (ps ++ more)))
    (ns : ∀ m, s.heap.Ns X.env.locals m -> h'.Ns X.env.locals m) (hok : HOk X.prog X.w H' h') (hg : AllBare g') :
    Inv X pins σ H' { s with heap := h', gens := g', drawn := d', toks := t' } := by
  have neL : ∀ b o, X.s₀.heap.get? b = some o -> b ≠ X.env.locals := fun b o e => Nat.ne_of_lt (Nat.lt_of_lt_of_le (Heap.lt_size e) I.ok.above)
  have neC : ∀ b o, X.s₀.heap.get? b = some o -> b ∉ X.ex -> b ∉ ch := fun b o e hx hb => by
    rcases (hch b hb).1 with z | z
    · exact hx z
    · exact absurd (Nat.lt_of_lt_of_le (Heap.lt_size e) z) (Nat.lt_irrefl _)
  have cellK : ∀ x c, X.env.cells.lookup x = some c -> ∀ v, s.heap.IsCell c v -> h'.IsCell c v := fun x c e v ⟨o, ho, hd⟩ => by
    have nch : c ∉ ch := fun z => (hch c z).2.2.1 x c e rfl
    by_cases hc : c ∈ X.fs
    · obtain ⟨sl, q⟩ := slot c o (I.cne x c e) hc nch ho (I.freeC x c e)
      exact ⟨_, q, hd⟩
    · exact ⟨o, keep c o (I.cne x c e) hc nch ho (I.freeC x c e), hd⟩
  refine ⟨I.ok, I.os, hg, ⟨fun b o e n hb hx => ?_, fun b o e n hb hx => ?_, fun b o e n hx => ?_, fun b o e hx => ?_, fun b xs e => tups b xs (I.base.tups b xs e), fun b o xs e => frzs b o xs (I.base.frzs b o xs e), fun b ps e => ?_⟩, ?_, fun x c e => ?_, ?_, fun x c e => ?_, fun p hp => ?_, hok, I.len⟩
  · exact keep b o (neL b o e) hb (neC b o e hx) (I.base.keep b o e n hb hx) (I.base.free b o e n hx)
  · obtain ⟨sl, e1⟩ := I.base.slot b o e n hb hx
    obtain ⟨sl', e2⟩ := slot b _ (neL b o e) hb (neC b o e hx) e1 (I.base.free b o e n hx)
    exact ⟨sl', e2⟩
  · obtain ⟨o', e1⟩ := I.base.there b o e hx
    exact free b o' (neC b o e hx) e1 (I.base.free b o e n hx)
  · obtain ⟨o', e1⟩ := I.base.there b o e hx
    exact there b o' (neC b o e hx) e1
  · obtain ⟨m1, e1⟩ := I.base.tbls b ps e
    obtain ⟨m2, e2⟩ := tbls b _ e1
    exact ⟨m1 ++ m2, by rw [e2, Array.append_assoc]⟩
  · obtain ⟨m, hn, hl⟩ := I.loc
    refine ⟨m, ns m hn, fun i x v e1 e2 e3 => ?_⟩
    obtain ⟨u, r, l⟩ := hl i x v e1 e2 e3
    refine ⟨u, r, ?_⟩
    rcases l with l | ⟨k, c, e, z⟩
    · exact .inl l
    · exact .inr ⟨k, c, e, cellK x c e _ z⟩
  · obtain ⟨v, z⟩ := I.cell x c e
    exact ⟨v, cellK x c e v z⟩
  · obtain ⟨m, ⟨o, _, _, ho, _⟩, _⟩ := I.loc
    exact free _ o (fun z => (hch _ z).2.1 rfl) ho I.free
  · obtain ⟨v, o, ho, hd⟩ := I.cell x c e
    exact free c o (fun z => (hch c z).2.2.1 x c e rfl) ho (I.freeC x c e)
  · obtain ⟨e, n, ne, nf, d⟩ := I.pin p hp
    have nch : p.1 ∉ ch := fun z => (hch p.1 z).2.2.2 p hp rfl
    exact ⟨keep p.1 p.2 ne nf nch e n, free p.1 p.2 nch e n, ne, nf, d⟩
theorem Inv.un {t' : Nat} (I : Inv X pins σ H s) (u : Un X.fs [] H H' s.heap h') (hok : HOk X.prog X.w H' h') : Inv X pins σ H' { s with heap := h', toks := t' } := by
  obtain ⟨m, ⟨o, es, ep, ho, r⟩, _⟩ := id I.loc
  obtain ⟨sl, hL⟩ := u.any ho I.free (by simp)
  exact I.step (g' := s.gens) (d' := s.drawn) (ch := []) (fun _ z => nomatch z) (fun b o _ hb _ e n => u.keep b o e n hb (by simp)) (fun b o _ hb _ e n => u.slot b o e n hb (by simp)) (fun b o _ e n => u.free b o e n (by simp)) (fun b o _ e => u.there b o e (by simp)) u.tups u.frzs u.tbls (fun m' hm => by
    obtain ⟨o', es', ep', ho', r'⟩ := hm
    rw [ho] at ho'; cases ho'
    exact ⟨_, es', ep', hL, r'⟩) hok I.bare
theorem Inv.call {g' : Array GenState} {t' : Nat} {d' : Drawn} {ch : List Addr} (I : Inv X pins σ H s) (u : Un (frs X.stack) ch H H' s.heap h') (hok : HOk X.prog X.w H' h') (hg : AllBare g')
    (hch : ∀ b ∈ ch, (b ∈ X.ex ∨ X.s₀.heap.objs.size <= b) /\ b ≠ X.env.locals /\ (∀ x c, X.env.cells.lookup x = some c -> c ≠ b) /\ ∀ p ∈ X.pn ++ pins, p.1 ≠ b) :
    Inv X pins σ H' { s with heap := h', gens := g', drawn := d', toks := t' } := by
  obtain ⟨m, ⟨o, es, ep, ho, r⟩, _⟩ := id I.loc
  obtain ⟨sl, hL⟩ := u.any ho I.free fun z => (hch _ z).2.1 rfl
  exact I.step (ch := ch) hch (fun b o hL hb hc e n => u.keep b o e n (fun z => (List.mem_cons.mp (I.stkSub b z)).elim hL hb) hc) (fun b o _ _ hc e n => u.any e n hc) (fun b o hc e n => u.free b o e n hc) (fun b o hc e => u.there b o e hc) u.tups u.frzs u.tbls (fun m' hm => by
    obtain ⟨o', es', ep', ho', r'⟩ := hm
    rw [ho] at ho'; cases ho'
    exact ⟨_, es', ep', hL, r'⟩) hok hg
theorem Inv.turned {t' : Nat} {it : Addr} (I : Inv X pins σ H s) (k : ∀ b o, b ≠ it -> s.heap.get? b = some o -> h'.get? b = some o) (hn : H it = none) (hL : it ≠ X.env.locals)
    (h1 : it ∈ X.ex ∨ X.s₀.heap.objs.size <= it) (h2 : ∀ x c, X.env.cells.lookup x = some c -> c ≠ it) (h3 : ∀ p ∈ X.pn ++ pins, p.1 ≠ it) : Inv X pins σ H { s with heap := h', toks := t' } := by
  have nit : ∀ b u, H b = some u -> b ≠ it := fun b u e z => by rw [z, hn] at e; cases e
  refine I.step (g' := s.gens) (d' := s.drawn) (ch := [it]) (fun b hb => ?_) (fun b o _ _ hc e _ => k b o (fun z => hc (by simp [z])) e) (fun b o _ _ hc e _ => ⟨o.slots, k b o (fun z => hc (by simp [z])) e⟩) (fun _ _ _ _ n => n)
    (fun b o hc e => ⟨o, k b o (fun z => hc (by simp [z])) e⟩) (fun _ _ e => e) (fun _ _ _ e => e) (fun b ps e => ⟨#[], by rw [e]; simp⟩) (fun m hm => ?_) (fun b u e => ?_) I.bare
  · have e : b = it := by simpa using hb
    subst e
    exact ⟨h1, hL, h2, h3⟩
  · obtain ⟨o, es, ep, ho, r⟩ := hm
    exact ⟨o, es, ep, k _ o (Ne.symm hL) ho, r⟩
  · refine (I.hok b u e).stay (fun c v hc q => k c v ?_ q) (fun _ q => q) fun _ _ q => q
    rcases hc with z | z
    · rw [z]; exact nit b u e
    · exact nit c _ z
theorem Inv.tok (I : Inv X pins σ H s) (t : Nat) : Inv X pins σ H { s with toks := t } := I.un (h' := s.heap) (t' := t) Un.refl I.hok
theorem Inv.kept {t' : Nat} (I : Inv X pins σ H s) (k : ∀ b u, s.heap.get? b = some u -> h'.get? b = some u) : Inv X pins σ H { s with heap := h', toks := t' } := I.un (Un.kept k) (I.hok.kept k)
theorem Inv.laid {a : Addr} {o : HO} {t' : Nat} (I : Inv X pins σ H s) (k : ∀ b u, s.heap.get? b = some u -> h'.get? b = some u) (hp : s.heap.objs.size <= a) (new : ObjOk X.prog X.w (upd H a o) h' a o) :
    Inv X pins σ (upd H a o) { s with heap := h', toks := t' } := I.un (Un.laid k hp (I.hok.fresh hp)) (I.hok.laid k hp new)
theorem Inv.write {x e : Addr} {o : HO} {t' : Nat} (I : Inv X pins σ H s) (mu : Mut (H x)) (he : e = x ∨ H e = some (.own x)) (k : ∀ b u, b ≠ e -> s.heap.get? b = some u -> h'.get? b = some u) (heo : ∃ u, h'.get? e = some u)
    (new : ObjOk X.prog X.w (upd H x o) h' x o) : Inv X pins σ (upd H x o) { s with heap := h', toks := t' } := I.un (Un.write mu he k heo) (I.hok.write mu he k heo new)
theorem Inv.weak {σ' : List (Option V)} (I : Inv X pins σ H s) (hl : σ'.length = σ.length) (w : ∀ (i : Nat) v, σ'[i]? = some (some v) -> σ[i]? = some (some v)) : Inv X pins σ' H s :=
  ⟨I.ok, I.os, I.bare, I.base, let ⟨m, hn, hl'⟩ := I.loc; ⟨m, hn, fun i x v e1 e2 e3 => hl' i x v e1 (w i v e2) e3⟩, I.cell, I.free, I.freeC, I.pin, I.hok, hl.trans I.len⟩
theorem Inv.pins_of {pins' : List (Addr × Obj)} (I : Inv X pins σ H s) (h : ∀ p ∈ pins', s.heap.get? p.1 = some p.2 /\ H p.1 = none /\ p.1 ≠ X.env.locals /\ p.1 ∉ X.fs /\ ∀ v, p.2.data ≠ .cell v) : Inv X pins' σ H s :=
  ⟨I.ok, I.os, I.bare, I.base, I.loc, I.cell, I.free, I.freeC, fun p hp => (List.mem_append.mp hp).elim (fun z => I.pin p (List.mem_append_left _ z)) (h p), I.hok, I.len⟩
theorem nodup_ix {N : List Str} (hN : N.Nodup) {i j : Nat} {x : Str} (a : N[i]? = some x) (b : N[j]? = some x) : i = j := by
  obtain ⟨h1, e1⟩ := List.getElem?_eq_some_iff.mp a
  obtain ⟨h2, e2⟩ := List.getElem?_eq_some_iff.mp b
  exact (List.getElem_inj hN).mp (e1.trans e2.symm)
theorem store_ok2 {M : Model} {A : Around} {E : Value -> Shared -> Prop} {i : Nat} {x : Str} {v : V} {u : Value} {Q : Unit -> Shared -> Prop} (I : Inv X pins σ H s) (hN : X.N.Nodup) (hi : X.N[i]? = some x) (hx : Loc X.env.scope x) (r : RelV v u)
    (h : ∀ s', Inv X pins (σ.set i (some v)) H s' -> (∃ a, Heap.SameBut a s.heap s'.heap /\ (a = X.env.locals ∨ X.env.cells.lookup x = some a)) -> Q () s') (hf : X.fn x = true ∨ X.env.scope.names.lookup x = some .local := by first | exact .inl rfl | exact .inr rfl | assumption) : wpAny M A (storeName X.env x u) Q E s := by
  obtain ⟨m, hn, hl⟩ := id I.loc
  have hcls : (X.env.scope.kind == .class || (X.env.scope.kind == .module && X.env.locals != X.env.globals)) = false := by rw [I.ok.kind]; rfl
  have hiσ : i < σ.length := by rw [I.len]; exact (List.getElem?_eq_some_iff.mp hi).1
  have cne := I.cne
  have tracked : ∀ {a : Addr} {h' : Heap}, (∃ o, s.heap.get? a = some o /\ H a = none) -> Heap.SameBut a s.heap h' -> HOk X.prog X.w H h' := fun {a h'} ha hs b ob e => by
    obtain ⟨_, _, hfree⟩ := ha
    refine (I.hok b ob e).stay (fun c w' hc q => (hs.2 c ?_).trans q) (fun _ q => q) fun _ _ q => q
    rintro rfl
    rcases hc with rfl | hc
    · rw [hfree] at e; cases e
    · rw [hfree] at hc; cases hc
  rcases hx with hk | hk
  · refine wpAny_storeName_local hk hn (fun h' hn' hs => ?_) hcls
    obtain ⟨oL, _, _, hoL, _⟩ := id hn
    refine h _ ⟨I.ok, I.os, I.bare, ⟨fun b o e n hb hx => ?_, fun b o e n hb hx => ?_, I.base.free, fun b o e hx => ?_, I.base.tups, I.base.frzs, I.base.tbls⟩, ⟨_, hn', fun j y v' e1 e2 e3 => ?_⟩, fun y c e => ?_, I.free, I.freeC, fun p hp => ?_, tracked ⟨oL, hoL, I.free⟩ hs, by simpa using I.len⟩ ⟨_, hs, .inl rfl⟩
    · exact (hs.2 b (Nat.ne_of_lt (Nat.lt_of_lt_of_le (Heap.lt_size e) I.ok.above))).trans (I.base.keep b o e n hb hx)
    · obtain ⟨sl, e1⟩ := I.base.slot b o e n hb hx
      exact ⟨sl, (hs.2 b (Nat.ne_of_lt (Nat.lt_of_lt_of_le (Heap.lt_size e) I.ok.above))).trans e1⟩
    · obtain ⟨o', e1⟩ := I.base.there b o e hx
      exact ⟨o', (hs.2 b (Nat.ne_of_lt (Nat.lt_of_lt_of_le (Heap.lt_size e) I.ok.above))).trans e1⟩
    · by_cases hj : j = i
      · subst hj
        rw [hi] at e1; cases e1
        rw [List.getElem?_set_self hiσ] at e2
        cases e2
        exact ⟨u, r, .inl ⟨hk, by simp⟩⟩
      · rw [List.getElem?_set_ne (Ne.symm hj)] at e2
        obtain ⟨u', r', q⟩ := hl j y v' e1 e2 e3
        refine ⟨u', r', ?_⟩
        rcases q with ⟨k, e⟩ | ⟨k, c, e, z⟩
        · refine .inl ⟨k, ?_⟩
          have : y ≠ x := fun e => hj (nodup_ix hN e1 (e ▸ hi))
          simp [this, e]
        · exact .inr ⟨k, c, e, z.sameBut hs (cne y c e)⟩
    · obtain ⟨w', z⟩ := I.cell y c e
      exact ⟨w', z.sameBut hs (cne y c e)⟩
    · obtain ⟨e, n, ne, nf, d⟩ := I.pin p hp
      exact ⟨(hs.2 p.1 ne).trans e, n, ne, nf, d⟩
  · have hfn : X.fn x = true := by
      rcases hf with z | z
      · exact z
      · rw [z] at hk; cases hk
    obtain ⟨c, hc⟩ := I.ok.has x (.inl hk)
    obtain ⟨w', z⟩ := I.cell x c hc
    refine wpAny_storeName_cell I.ok.kind hk hc z (fun h' hc' hs => ?_)
    obtain ⟨oc, hoc, hocd⟩ := id z
    refine h { s with heap := h' } ⟨I.ok, I.os, I.bare, ⟨fun b o e n hb hx => ?_, fun b o e n hb hx => ?_, I.base.free, fun b o e hx => ?_, I.base.tups, I.base.frzs, I.base.tbls⟩, ⟨m, hn.sameBut hs (Ne.symm (cne x c hc)), fun j y v' e1 e2 e3 => ?_⟩, fun y c' e => ?_, I.free, I.freeC, fun p hp => ?_, tracked ⟨oc, hoc, I.freeC x c hc⟩ hs, by simpa using I.len⟩ ⟨c, hs, .inr hc⟩
    · exact (hs.2 b (Nat.ne_of_lt (Nat.lt_of_lt_of_le (Heap.lt_size e) (I.ok.cab x c hfn hc)))).trans (I.base.keep b o e n hb hx)
    · obtain ⟨sl, e1⟩ := I.base.slot b o e n hb hx
      exact ⟨sl, (hs.2 b (Nat.ne_of_lt (Nat.lt_of_lt_of_le (Heap.lt_size e) (I.ok.cab x c hfn hc)))).trans e1⟩
    · obtain ⟨o', e1⟩ := I.base.there b o e hx
      exact ⟨o', (hs.2 b (Nat.ne_of_lt (Nat.lt_of_lt_of_le (Heap.lt_size e) (I.ok.cab x c hfn hc)))).trans e1⟩
    · by_cases hj : j = i
      · subst hj
        rw [hi] at e1; cases e1
        rw [List.getElem?_set_self hiσ] at e2
        cases e2
        exact ⟨u, r, .inr ⟨.inl hk, c, hc, hc'⟩⟩
      · rw [List.getElem?_set_ne (Ne.symm hj)] at e2
        obtain ⟨u', r', q⟩ := hl j y v' e1 e2 e3
        refine ⟨u', r', ?_⟩
        rcases q with q | ⟨k, c', e, z'⟩
        · exact .inl q
        · refine .inr ⟨k, c', e, z'.sameBut hs ?_⟩
          rintro rfl
          exact hj (nodup_ix hN e1 (I.ok.inj _ _ _ e hc ▸ hi))
    · by_cases hcc : c' = c
      · subst hcc; exact ⟨_, hc'⟩
      · obtain ⟨w2, z2⟩ := I.cell y c' e
        exact ⟨w2, z2.sameBut hs hcc⟩
    · obtain ⟨e, n, ne, nf, d⟩ := I.pin p hp
      refine ⟨(hs.2 p.1 ?_).trans e, n, ne, nf, d⟩
      intro q
      rw [q, hoc] at e
      have q' : oc = p.2 := Option.some.inj e
      exact d w' (by rw [<- q']; exact hocd)
theorem store_ok {M : Model} {A : Around} {E : Value -> Shared -> Prop} {i : Nat} {x : Str} {v : V} {u : Value} {Q : Unit -> Shared -> Prop} (I : Inv X pins σ H s) (hN : X.N.Nodup) (hi : X.N[i]? = some x) (hx : Loc X.env.scope x) (r : RelV v u)
    (h : ∀ s', Inv X pins (σ.set i (some v)) H s' -> Q () s') (hf : X.fn x = true ∨ X.env.scope.names.lookup x = some .local := by first | exact .inl rfl | exact .inr rfl | assumption) : wpAny M A (storeName X.env x u) Q E s :=
  store_ok2 I hN hi hx r (fun s' I' _ => h s' I') hf
theorem Inv.call' {s' : Shared} {ch : List Addr} (I : Inv X pins σ H s) (ho : s'.os = s.os) (u : Un (frs X.stack) ch H H' s.heap s'.heap) (hok : HOk X.prog X.w H' s'.heap) (hg : AllBare s'.gens)
    (hch : ∀ b ∈ ch, (b ∈ X.ex ∨ X.s₀.heap.objs.size <= b) /\ b ≠ X.env.locals /\ (∀ x c, X.env.cells.lookup x = some c -> c ≠ b) /\ ∀ p ∈ X.pn ++ pins, p.1 ≠ b) : Inv X pins σ H' s' := by
  obtain ⟨h', g', d', t', o'⟩ := s'
  have e : o' = s.os := ho
  subst e
  exact I.call (g' := g') (t' := t') (d' := d') u hok hg hch
end
noncomputable abbrev XK := Value -> Option Addr -> Hp -> Prop
noncomputable abbrev St := List (Option V)
noncomputable abbrev VK := V -> Hp -> Prop
noncomputable abbrev TE := St -> Hp -> VK -> Prop
noncomputable abbrev TT := St -> Hp -> (Bool -> Hp -> Prop) -> Prop
noncomputable abbrev TA := St -> Hp -> (List V -> Hp -> Prop) -> Prop
structure Ends where
  nx : St -> Hp -> Prop
  rt : VK
  bk : St -> Hp -> Prop := fun _ _ => False
  ct : St -> Hp -> Prop := fun _ _ => False
noncomputable abbrev TS := Ends -> St -> Hp -> Prop
noncomputable def EP (X : Cx) (pins : List (Addr × Obj)) (σ : St) (Q : VK) (u : Value) (s' : Shared) : Prop := ∃ v H', Inv X pins σ H' s' /\ RelV v u /\ Q v H'
noncomputable def TP (X : Cx) (pins : List (Addr × Obj)) (σ : St) (Q : Bool -> Hp -> Prop) (b : Bool) (s' : Shared) : Prop := ∃ H', Inv X pins σ H' s' /\ Q b H'
noncomputable def AP (X : Cx) (pins : List (Addr × Obj)) (σ : St) (Q : List V -> Hp -> Prop) (us : List Value) (s' : Shared) : Prop := ∃ vs H', Inv X pins σ H' s' /\ Vals vs us /\ Q vs H'
noncomputable def SP (X : Cx) (pins : List (Addr × Obj)) (D : Ends) (f : Flow) (s' : Shared) : Prop :=
  match f with
  | .next => ∃ σ' H', Inv X pins σ' H' s' /\ D.nx σ' H'
  | .brk => ∃ σ' H', Inv X pins σ' H' s' /\ D.bk σ' H'
  | .cont => ∃ σ' H', Inv X pins σ' H' s' /\ D.ct σ' H'
  | .ret u => ∃ v σ' H', Inv X pins σ' H' s' /\ RelV v u /\ D.rt v H'
noncomputable def PE (X : Cx) (e : Expr) (t : TE) : Prop :=
  ∀ (pins : List (Addr × Obj)) (s : Shared) (σ : St) (H : Hp) (Q : VK), Inv X pins σ H s -> t σ H Q -> wpAny (model X.prog X.w) X.A (eval e X.env) (EP X pins σ Q) X.xe s
noncomputable def PT (X : Cx) (e : Expr) (t : TT) : Prop :=
  ∀ (pins : List (Addr × Obj)) (s : Shared) (σ : St) (H : Hp) (Q : Bool -> Hp -> Prop), Inv X pins σ H s -> t σ H Q -> wpAny (model X.prog X.w) X.A (isTrue e X.env (eval e X.env)) (TP X pins σ Q) X.xe s
noncomputable def PW (X : Cx) (e : Expr) (t : TT) : Prop :=
  ∀ (whole : Sem Value) (pins : List (Addr × Obj)) (s : Shared) (σ : St) (H : Hp) (Q : Bool -> Hp -> Prop), Inv X pins σ H s -> t σ H Q -> wpAny (model X.prog X.w) X.A (isTrue e X.env whole) (TP X pins σ Q) X.xe s
theorem PW.pt {X : Cx} {e : Expr} {t : TT} (h : PW X e t) : PT X e t := h _
noncomputable def PA (X : Cx) (es : List Expr) (t : TA) : Prop :=
  ∀ (pos : Pos) (pins : List (Addr × Obj)) (s : Shared) (σ : St) (H : Hp) (Q : List V -> Hp -> Prop), Inv X pins σ H s -> t σ H Q -> wpAny (model X.prog X.w) X.A (spliced (backTo pos (starEach es X.env))) (AP X pins σ Q) X.xe s
noncomputable def PS (X : Cx) (st : Stmt) (t : TS) : Prop :=
  ∀ (pins : List (Addr × Obj)) (s : Shared) (σ : St) (H : Hp) (D : Ends), Inv X pins σ H s -> t D σ H -> wpAny (model X.prog X.w) X.A (exec st X.env) (SP X pins D) X.xe s
noncomputable def PSs (X : Cx) (st : List Stmt) (t : TS) : Prop :=
  ∀ (pins : List (Addr × Obj)) (s : Shared) (σ : St) (H : Hp) (D : Ends), Inv X pins σ H s -> t D σ H -> wpAny (model X.prog X.w) X.A (execs st X.env) (SP X pins D) X.xe s
theorem thn {α : Type} {t : Sem α} {Q Q' : α -> Shared -> Prop} {M : Model} {A : Around} {E : Value -> Shared -> Prop} {s : Shared} (h : wpAny M A t Q E s) (hQ : ∀ a s, Q a s -> Q' a s) : wpAny M A t Q' E s := wpAny_mono h hQ fun _ _ x => x
end L2
namespace L2
open PySem PySem.Spec PyProof.Rows
section
variable {X : Cx}
theorem bin {a b : Expr} {ta tb : TE} (ha : PE X a ta) (hb : PE X b tb) {pins : List (Addr × Obj)} {s : Shared} {σ : St} {H : Hp} {R : V -> V -> Hp -> Prop} (I : Inv X pins σ H s) (h : ta σ H fun x H1 => tb σ H1 fun y H2 => R x y H2)
    {α : Type} {Q : α -> Shared -> Prop} {f : Value -> Value -> Sem α}
    (hf : ∀ v u s2 x y H2, Inv X pins σ H2 s2 -> RelV x v -> RelV y u -> R x y H2 -> wpAny (model X.prog X.w) X.A (f v u) Q X.xe s2) :
    wpAny (model X.prog X.w) X.A (eval a X.env) (fun v s₁ => wpAny (model X.prog X.w) X.A (eval b X.env) (fun u s₂ => wpAny (model X.prog X.w) X.A (f v u) Q X.xe s₂) X.xe s₁) X.xe s := by
  refine thn (ha pins s σ H _ I h) fun v s1 hq1 => ?_
  obtain ⟨x, H1, I1, r1, q1⟩ := hq1
  refine thn (hb pins s1 σ H1 _ I1 q1) fun u s2 hq2 => ?_
  obtain ⟨y, H2, I2, r2, q2⟩ := hq2
  exact hf v u s2 x y H2 I2 r1 r2 q2
noncomputable def tVar (i : Nat) : TE := fun σ H Q => ∃ v, σ[i]? = some (some v) /\ Q v H
noncomputable def tC (v : V) : TE := fun _ H Q => Q v H
theorem pe_var {i : Nat} {x : Str} {pos : Pos} (hN : X.N[i]? = some x) (hv : Vis X.env.scope x) (hd : (x == ("__debug__" : Str)) = false := by decide) (hcd : (x == ("__classdict__" : Str)) = false := by decide) : PE X (.Name x pos) (tVar i) := by
  intro pins s σ H Q I h
  obtain ⟨v, e, h⟩ := h
  obtain ⟨m, hn, hl⟩ := I.loc
  obtain ⟨u, r, l⟩ := hl i x v hN e hv
  have fin : EP X pins σ Q u s := ⟨v, H, I, r, h⟩
  rcases l with ⟨hk, hm⟩ | ⟨hk, c, hc, hcell⟩
  · exact wpAny_Name (wpAny_loadName_local I.ok.kind hk hn hm fin) hd
  · rcases hk with hk | hk
    · exact wpAny_Name (wpAny_loadName_cell I.ok.kind hk hc hcell fin) hd
    · exact wpAny_Name (wpAny_loadName_free I.ok.kind hk hc hcell fin hcd) hd
theorem pe_int {i j pos} : PE X (.Constant (.int i) j pos) (tC (.int i)) := fun _ _ _ H _ I h => wpAny_Constant_int ⟨.int i, H, I.tok _, ⟨_, rfl⟩, h⟩
theorem pe_bl {b j pos} : PE X (.Constant (.bool b) j pos) (tC (.bl b)) := fun _ _ _ H _ I h => Constant_bool ⟨.bl b, H, I, rfl, h⟩
theorem pe_non {j pos} : PE X (.Constant .none j pos) (tC .non) := fun _ _ _ H _ I h => Constant_none ⟨.non, H, I, rfl, h⟩
theorem pe_str {x j pos} : PE X (.Constant (.str x) j pos) (tC (.str x)) := fun _ _ _ H _ I h => Calls.Constant_str ⟨.str x, H, I.tok _, ⟨_, rfl⟩, h⟩
noncomputable def Gl (X : Cx) (x : Str) : Prop := X.env.kindOf x = some .globalImplicit
theorem ld_glob {E : Value -> Shared -> Prop} {pins : List (Addr × Obj)} {s : Shared} {σ : St} {H : Hp} {x : Str} {u : Value} {pos : Pos} {Q : Value -> Shared -> Prop} (I : Inv X pins σ H s) (hg : Gl X x) (hm : X.mg x = some u) (h : Q u s)
    (hd : (x == ("__debug__" : Str)) = false := by decide) : wpAny (model X.prog X.w) X.A (eval (.Name x pos) X.env) Q E s :=
  Calls.Name_function_global I.ok.kind hg (Calls.loadGlobal_global (by rw [I.ok.glob]; exact I.mod.glob.keeps I.bk) hm h) hd
theorem ld_blt {E : Value -> Shared -> Prop} {pins : List (Addr × Obj)} {s : Shared} {σ : St} {H : Hp} {x : Str} {u : Value} {pos : Pos} {Q : Value -> Shared -> Prop} (I : Inv X pins σ H s) (hg : Gl X x) (hm : X.mg x = none) (hv : bootBuiltins x = some u) (h : Q u s)
    (hn : x ≠ "__name__" := by decide) (hd : (x == ("__debug__" : Str)) = false := by decide) : wpAny (model X.prog X.w) X.A (eval (.Name x pos) X.env) Q E s := by
  obtain ⟨mb, h1, h2⟩ := I.mod.blt
  exact Calls.Name_function_global I.ok.kind hg (Calls.loadGlobal_builtin (by rw [I.ok.glob]; exact I.mod.glob.keeps I.bk) hm (by rw [I.ok.blt]; exact h1.keeps I.bk) ((h2 x hn).trans hv) h) hd
theorem pe_bltn {x : Str} {v : V} {u : Value} {pos : Pos} (hg : Gl X x) (hm : X.mg x = none) (hv : bootBuiltins x = some u) (r : RelV v u) (hn : x ≠ "__name__" := by decide) (hd : (x == ("__debug__" : Str)) = false := by decide) : PE X (.Name x pos) (tC v) :=
  fun _ _ _ H _ I h => ld_blt I hg hm hv ⟨v, H, I, r, h⟩ hn hd
variable {a b : Expr} {ta tb : TE} {pos : Pos}
noncomputable def PC (X : Cx) (op : CmpOp) (a b : Expr) (t : TE) : Prop :=
  ∀ (pins : List (Addr × Obj)) (s : Shared) (σ : St) (H : Hp) (Q : VK), Inv X pins σ H s -> t σ H Q ->
    wpAny (model X.prog X.w) X.A (eval a X.env) (fun v s₁ => wpAny (model X.prog X.w) X.A (eval b X.env) (fun u s₂ => wpAny (model X.prog X.w) X.A (compareOp op v u) (EP X pins σ Q) X.xe s₂) X.xe s₁) X.xe s
theorem nobehind (b : Expr) {op : CmpOp} (h : op ≠ .In) (h2 : op ≠ .NotIn) : behindInMarks op b = false := by
  have e1 : (op == CmpOp.In) = false := by cases op <;> first | rfl | exact absurd rfl h
  have e2 : (op == CmpOp.NotIn) = false := by cases op <;> first | rfl | exact absurd rfl h2
  cases b <;> simp [behindInMarks, e1, e2]
noncomputable def tB (t : TE) : TT := fun σ H Q => t σ H fun x H1 => ∃ c, x = .bl c /\ Q c H1
theorem pt_cmp {op : CmpOp} {t : TE} (h : PC X op a b t) (h1 : behindInMarks op b = false := by first | exact nobehind _ (by decide) (by decide) | rfl) : PT X (.Compare a [op] [b] pos) (tB t) := by
  intro pins s σ H Q I hw
  refine wpAny_isTrue_Compare1 (thn (h pins s σ H _ I hw) fun v s1 h1 => thn h1 fun u s2 h2 => thn h2 fun c s3 hq1 => ?_) h1
  obtain ⟨x, H1, I1, r1, q1⟩ := hq1
  obtain ⟨d, rfl, q⟩ := q1
  cases r1
  exact wpAny_truthy_bool ⟨H1, I1, q⟩
variable {tA tB' : TT} {rest : List Expr}
noncomputable def tAnd (t u : TT) : TT := fun σ H Q => t σ H fun c H1 => if c = true then u σ H1 Q else Q false H1
noncomputable def tOr (t u : TT) : TT := fun σ H Q => t σ H fun c H1 => if c = true then Q true H1 else u σ H1 Q
noncomputable def tNot (t : TT) : TT := fun σ H Q => t σ H fun c H1 => Q (!c) H1
theorem pw_and1 (ha : PT X a tA) : PW X (.BoolOp .And [a] pos) tA := by
  intro wh pins s σ H Q I h
  refine isTrue_and (thn (ha pins s σ H Q I h) fun c s1 e => ?_)
  cases c with
  | true => exact isTrue_and_nil e
  | false => exact e
theorem pw_or1 (ha : PT X a tA) : PW X (.BoolOp .Or [a] pos) tA := by
  intro wh pins s σ H Q I h
  refine isTrue_or (thn (ha pins s σ H Q I h) fun c s1 e => ?_)
  cases c with
  | false => exact isTrue_or_nil e
  | true => exact e
theorem pw_and (ha : PT X a tA) (hb : PW X (.BoolOp .And (b :: rest) pos) tB') : PW X (.BoolOp .And (a :: b :: rest) pos) (tAnd tA tB') := by
  intro wh pins s σ H Q I h
  refine isTrue_and (thn (ha pins s σ H _ I h) fun c s1 hq1 => ?_)
  obtain ⟨H1, I1, q1⟩ := hq1
  cases c with
  | true => exact hb wh pins s1 σ H1 Q I1 q1
  | false => exact ⟨H1, I1, q1⟩
theorem pw_or (ha : PT X a tA) (hb : PW X (.BoolOp .Or (b :: rest) pos) tB') : PW X (.BoolOp .Or (a :: b :: rest) pos) (tOr tA tB') := by
  intro wh pins s σ H Q I h
  refine isTrue_or (thn (ha pins s σ H _ I h) fun c s1 hq1 => ?_)
  obtain ⟨H1, I1, q1⟩ := hq1
  cases c with
  | true => exact ⟨H1, I1, q1⟩
  | false => exact hb wh pins s1 σ H1 Q I1 q1
theorem pt_not (ha : PT X a tA) : PT X (.UnaryOp .Not a pos) (tNot tA) := by
  intro pins s σ H Q I h
  exact isTrue_not (ha pins s σ H (fun c H1 => Q (!c) H1) I h)
noncomputable def tAndV (ta tb : TE) : TE := fun σ H Q => ta σ H fun x H1 => ∃ c, x = .bl c /\ if c = true then tb σ H1 Q else Q (.bl false) H1
noncomputable def tNotV (ta : TE) : TE := fun σ H Q => ta σ H fun x H1 => ∃ c, x = .bl c /\ Q (.bl (!c)) H1
theorem pe_one {op} {t : TE} (h : PE X a t) : PE X (.BoolOp op [a] pos) t := fun pins s σ H Q I hw => BoolOp_one (h pins s σ H Q I hw)
theorem pe_and (ha : PE X a ta) (hb : PE X (.BoolOp .And (b :: rest) pos) tb) : PE X (.BoolOp .And (a :: b :: rest) pos) (tAndV ta tb) := by
  intro pins s σ H Q I h
  refine BoolOp_and (thn (ha pins s σ H _ I h) fun v s1 hq1 => ?_)
  obtain ⟨x, H1, I1, r1, q1⟩ := hq1
  obtain ⟨c, rfl, q1⟩ := q1
  cases r1
  refine wpAny_truthy_bool ?_
  cases c with
  | true => exact hb pins s1 σ H1 Q I1 q1
  | false => exact ⟨.bl false, H1, I1, rfl, q1⟩
theorem pe_not (ha : PE X a ta) : PE X (.UnaryOp .Not a pos) (tNotV ta) := by
  intro pins s σ H Q I h
  refine UnaryOp_ (thn (ha pins s σ H _ I h) fun v s1 hq1 => ?_)
  obtain ⟨x, H1, I1, r1, q1⟩ := hq1
  obtain ⟨c, rfl, q1⟩ := q1
  cases r1
  exact not_of (wpAny_truthy_bool ⟨.bl (!c), H1, I1, rfl, q1⟩)
end
end L2
namespace L2
open PySem PySem.Spec PyProof.Rows
noncomputable def SqL (K : PySem.W.Frag) (H : Hp) (a : Addr) (xs : List V) : Prop :=
  Rd H a (.lst xs) ∨
    ∃ (o : Obj) (its : Array Value) (n : Nat), K.lookup a = some o /\ o.cls = .type "list" /\ o.dict = none /\ o.data = .seq its n /\ its.size <= sizeLine /\ Vals xs its.toList
noncomputable def SqT (K : PySem.W.Frag) (H : Hp) (a : Addr) (xs : List V) : Prop :=
  Rd H a (.tup xs) ∨
    ∃ (o : Obj) (its : Array Value) (n : Nat), K.lookup a = some o /\ o.cls = .type "tuple" /\ o.data = .seq its n /\ its.size <= sizeLine /\ Vals xs its.toList
noncomputable def absV : Value -> Option V
  | .none => some .non
  | .bool b => some (.bl b)
  | .int i _ => some (.int i)
  | .str x _ => some (.str x)
  | .bytes b _ => some (.byt b)
  | .float b _ => some (.flt b)
  | .ref a => some (.ref a)
  | .type n => some (.ty n)
  | _ => none
theorem RelV.abs {x : V} {u : Value} (r : RelV x u) : absV u = some x := by
  cases x with
  | non => cases r; rfl
  | bl _ => cases r; rfl
  | int _ => obtain ⟨t, rfl⟩ := r; rfl
  | str _ => obtain ⟨t, rfl⟩ := r; rfl
  | byt _ => obtain ⟨t, rfl⟩ := r; rfl
  | flt _ => obtain ⟨t, rfl⟩ := r; rfl
  | ref _ => cases r; rfl
  | ty _ => cases r; rfl
theorem RelV.inj {x y : V} {u : Value} (r : RelV x u) (q : RelV y u) : x = y := Option.some.inj (r.abs.symm.trans q.abs)
theorem Vals.inj : ∀ {xs ys : List V} {us : List Value}, Vals xs us -> Vals ys us -> xs = ys := by
  intro xs ys us h
  induction h generalizing ys with
  | nil => intro h'; cases h'; rfl
  | cons r t ih =>
    intro h'
    cases h' with
    | cons r' t' => rw [r.inj r', ih t']
section
variable {X : Cx} {pins : List (Addr × Obj)} {σ : St} {H : Hp} {s : Shared} {a : Addr} {xs ys : List V}
theorem SqL.of {K : PySem.W.Frag} (h : H a = some (.lst xs)) : SqL K H a xs := .inl (.inl h)
theorem SqT.of {K : PySem.W.Frag} (h : H a = some (.tup xs)) : SqT K H a xs := .inl (.inl h)
theorem Inv.list (I : Inv X pins σ H s) (h : SqL X.K H a xs) : ∃ its : List Value, Vals xs its /\ PlainL s.heap a its.toArray /\ xs.length <= sizeLine := by
  rcases h with h | ⟨o, its, n, hk, hc, hd, hs, hz, r⟩
  · obtain ⟨z, its, n, r, e⟩ := h.ok I.hok
    exact ⟨its, r, ⟨_, n, e, rfl, rfl, rfl⟩, z⟩
  · refine ⟨its.toList, r, ⟨o, n, I.kIn a o hk, hc, hd, by simpa using hs⟩, ?_⟩
    have e := r.length
    simp only [Array.length_toList] at e
    lia
theorem Inv.tuple (I : Inv X pins σ H s) (h : SqT X.K H a xs) : ∃ its : List Value, Vals xs its /\ IsTup s.heap a its.toArray /\ xs.length <= sizeLine := by
  rcases h with h | ⟨o, its, n, hk, hc, hs, hz, r⟩
  · obtain ⟨z, its, r, p⟩ := h.ok I.hok
    exact ⟨its, r, p, z⟩
  · refine ⟨its.toList, r, ⟨o, I.kIn a o hk, hc, n, by simpa using hs⟩, ?_⟩
    have e := r.length
    simp only [Array.length_toList] at e
    lia
theorem Inv.list_inj (I : Inv X pins σ H s) (h : SqL X.K H a xs) (h' : SqL X.K H a ys) : xs = ys := by
  obtain ⟨its, r, ⟨o, n, e, _, _, d⟩, _⟩ := I.list h
  obtain ⟨its', r', ⟨o', n', e', _, _, d'⟩, _⟩ := I.list h'
  rw [e] at e'; cases e'
  rw [d] at d'
  injection d' with d1 _
  have : its = its' := by simpa using congrArg Array.toList d1
  subst this
  exact r.inj r'
theorem Inv.tuple_inj (I : Inv X pins σ H s) (h : SqT X.K H a xs) (h' : SqT X.K H a ys) : xs = ys := by
  obtain ⟨its, r, ⟨o, e, _, n, d⟩, _⟩ := I.tuple h
  obtain ⟨its', r', ⟨o', e', _, n', d'⟩, _⟩ := I.tuple h'
  rw [e] at e'; cases e'
  rw [d] at d'
  injection d' with d1 _
  have : its = its' := by simpa using congrArg Array.toList d1
  subst this
  exact r.inj r'
end
noncomputable abbrev Cx.wish (X : Cx) (E : Value -> Shared -> Prop) : Cx := { X with xe := E }
noncomputable abbrev Cx.nox (X : Cx) : Cx := X.wish fun _ _ => False
theorem Cx.Ok.wish {X : Cx} (ok : X.Ok) (E : Value -> Shared -> Prop) : (X.wish E).Ok :=
  ⟨ok.mod, ok.kind, ok.glob, ok.blt, ok.above, ok.inj, ok.has, ok.cab, ok.hd, ok.frames, ok.stk, ok.exf, ok.bs, ok.bsz, ok.noex, ok.exfs, ok.funs, ok.frf⟩
theorem Cx.Ok.unwish {X : Cx} {E : Value -> Shared -> Prop} (ok : (X.wish E).Ok) : X.Ok :=
  ⟨ok.mod, ok.kind, ok.glob, ok.blt, ok.above, ok.inj, ok.has, ok.cab, ok.hd, ok.frames, ok.stk, ok.exf, ok.bs, ok.bsz, ok.noex, ok.exfs, ok.funs, ok.frf⟩
section
variable {X : Cx} {pins : List (Addr × Obj)} {σ : St} {H : Hp} {s : Shared} {E : Value -> Shared -> Prop}
theorem Inv.wish (I : Inv X pins σ H s) (E : Value -> Shared -> Prop) : Inv (X.wish E) pins σ H s := ⟨I.ok.wish E, I.os, I.bare, I.base, I.loc, I.cell, I.free, I.freeC, I.pin, I.hok, I.len⟩
theorem Inv.unwish (I : Inv (X.wish E) pins σ H s) : Inv X pins σ H s := ⟨I.ok.unwish, I.os, I.bare, I.base, I.loc, I.cell, I.free, I.freeC, I.pin, I.hok, I.len⟩
theorem SP.unwish {D : Ends} {f : Flow} {s' : Shared} (h : SP (X.wish E) pins D f s') : SP X pins D f s' := by
  cases f with
  | next => obtain ⟨σ', H', I, q⟩ := h; exact ⟨σ', H', I.unwish, q⟩
  | brk => obtain ⟨σ', H', I, q⟩ := h; exact ⟨σ', H', I.unwish, q⟩
  | cont => obtain ⟨σ', H', I, q⟩ := h; exact ⟨σ', H', I.unwish, q⟩
  | ret u => obtain ⟨v, σ', H', I, r, q⟩ := h; exact ⟨v, σ', H', I.unwish, r, q⟩
theorem PSs.nox {st : List Stmt} {t : TS} (h : PSs X.nox st t) : PSs X st t := fun pins s σ H D I hw =>
  wpAny_mono (h pins s σ H D (I.wish _) hw) (fun _ _ q => q.unwish) fun _ _ z => False.elim z
end
section
variable {X : Cx} {st : Stmt} {rest : List Stmt} {t u : TS} {e : Expr} {te : TE} {pos : Pos}
noncomputable def tNext : TS := fun D σ H => D.nx σ H
noncomputable def tSeq (t u : TS) : TS := fun D σ H => t { D with nx := u D } σ H
theorem pss_nil : PSs X [] tNext := fun _ _ σ H _ I h => wpAny_execs_nil ⟨σ, H, I, h⟩
theorem pss_cons (h1 : PS X st t) (h2 : PSs X rest u) : PSs X (st :: rest) (tSeq t u) := by
  intro pins s σ H D I h
  refine wpAny_execs_cons (thn (h1 pins s σ H { D with nx := u D } I h) fun f s1 q => ?_)
  cases f with
  | next =>
    obtain ⟨σ', H', I', q⟩ := q
    exact h2 pins s1 σ' H' D I' q
  | ret v => exact q
  | brk => exact q
  | cont => exact q
theorem pss_one (h1 : PS X st t) : PSs X [st] t := by
  intro pins s σ H D I h
  refine wpAny_execs_cons (thn (h1 pins s σ H D I h) fun f s1 q => ?_)
  cases f with
  | next => exact wpAny_execs_nil q
  | ret v => exact q
  | brk => exact q
  | cont => exact q
theorem Inv.quiet {pins : List (Addr × Obj)} {σ : St} {H : Hp} {s : Shared} (I : Inv X pins σ H s) : interactive X.env = false := by simp [interactive, I.ok.kind]
noncomputable def tDrop (te : TE) : TS := fun D σ H => te σ H fun _ H1 => D.nx σ H1
theorem ps_expr (he : PE X e te) (hs : swapsWith e none pos.line X.env = pure false := by rfl) : PS X (.Expr e pos) (tDrop te) := by
  intro pins s σ H D I h
  exact wpAny_Expr_any (thn (he pins s σ H _ I h) fun v s1 ⟨x, H1, I1, r1, q1⟩ => ⟨σ, H1, I1, q1⟩) I.quiet hs
noncomputable def tRet (te : TE) : TS := fun D σ H => te σ H D.rt
theorem ps_ret (he : PE X e te) : PS X (.Return (some e) pos) (tRet te) := by
  intro pins s σ H D I h
  exact wpAny_Return_some (thn (he pins s σ H _ I h) fun v s1 ⟨x, H1, I1, r1, q1⟩ => ⟨x, σ, H1, I1, r1, q1⟩)
noncomputable def tIfS (c : TT) (t u : TS) : TS := fun D σ H => c σ H fun b H1 => if b = true then t D σ H1 else u D σ H1
theorem ps_if {c : Expr} {a b : List Stmt} {tc : TT} (hc : PT X c tc) (ha : PSs X a t) (hb : PSs X b u) : PS X (.If c a b pos) (tIfS tc t u) := by
  intro pins s σ H D I h
  refine wpAny_If (thn (hc pins s σ H _ I h) fun d s1 hq1 => ?_)
  obtain ⟨H1, I1, q1⟩ := hq1
  cases d with
  | true => exact ha pins s1 σ H1 D I1 q1
  | false => exact hb pins s1 σ H1 D I1 q1
end
noncomputable abbrev TG := V -> St -> Hp -> (St -> Hp -> Prop) -> Prop
noncomputable abbrev TGs := List V -> St -> Hp -> (St -> Hp -> Prop) -> Prop
noncomputable def PG (X : Cx) (target : Expr) (t : TG) : Prop :=
  ∀ (pins : List (Addr × Obj)) (s : Shared) (σ : St) (H : Hp) (v : V) (u : Value) (Q : St -> Hp -> Prop), Inv X pins σ H s -> RelV v u -> t v σ H Q ->
    wpAny (model X.prog X.w) X.A (assign target X.env u) (fun _ s' => ∃ σ' H', Inv X pins σ' H' s' /\ Q σ' H') X.xe s
noncomputable def PGs (X : Cx) (ts : List Expr) (t : TGs) : Prop :=
  ∀ (pins : List (Addr × Obj)) (s : Shared) (σ : St) (H : Hp) (vs : List V) (us : List Value) (Q : St -> Hp -> Prop), Inv X pins σ H s -> Vals vs us -> t vs σ H Q ->
    wpAny (model X.prog X.w) X.A (assignInOrder ((assignEach ts X.env).map (·.2)) us) (fun _ s' => ∃ σ' H', Inv X pins σ' H' s' /\ Q σ' H') X.xe s
noncomputable abbrev TSet := V -> V -> V -> Hp -> (Hp -> Prop) -> Prop
noncomputable def PSet (X : Cx) (t : TSet) : Prop :=
  ∀ (pins : List (Addr × Obj)) (s : Shared) (σ : St) (H : Hp) (o i v : V) (ov iv u : Value) (Q : Hp -> Prop), Inv X pins σ H s -> RelV o ov -> RelV i iv -> RelV v u -> t o i v H Q ->
    wpAny (model X.prog X.w) X.A (setItem ov iv u) (fun _ s' => ∃ H', Inv X pins σ H' s' /\ Q H') X.xe s
section
variable {X : Cx} {pos : Pos}
noncomputable def gName (i : Nat) : TG := fun v σ H Q => Q (σ.set i (some v)) H
theorem pg_name {i : Nat} {x : Str} (hN : X.N.Nodup) (hi : X.N[i]? = some x) (hx : Loc X.env.scope x) (hf : X.fn x = true ∨ X.env.scope.names.lookup x = some .local := by first | exact .inl rfl | exact .inr rfl | assumption) : PG X (.Name x pos) (gName i) := by
  intro pins s σ H v u Q I r h
  exact wpAny_assign_Name (store_ok I hN hi hx r (fun s' I' => ⟨_, H, I', h⟩) hf)
noncomputable def gNil : TGs := fun vs σ H Q => vs = [] /\ Q σ H
noncomputable def gCons (t : TG) (u : TGs) : TGs := fun vs σ H Q => ∃ v r, vs = v :: r /\ t v σ H fun σ' H' => u r σ' H' Q
theorem pgs_nil : PGs X [] gNil := by
  intro pins s σ H vs us Q I r h
  obtain ⟨e, h⟩ := h
  subst e
  cases r
  exact assignInOrder_nil ⟨σ, H, I, h⟩
theorem pgs_cons {e : Expr} {es : List Expr} {t : TG} {u : TGs} (h1 : PG X e t) (h2 : PGs X es u)
    (hs : (assignEach (e :: es) X.env).map (·.2) = assign e X.env :: (assignEach es X.env).map (·.2) := by rfl) : PGs X (e :: es) (gCons t u) := by
  intro pins s σ H vs us Q I r h
  obtain ⟨v, vr, e1, h⟩ := h
  subst e1
  cases r with
  | cons r rr =>
    rw [hs]
    refine assignInOrder_cons (thn (h1 pins s σ H _ _ _ I r h) fun _ s1 hq1 => ?_)
    obtain ⟨σ1, H1, I1, q1⟩ := hq1
    exact h2 pins s1 σ1 H1 _ _ Q I1 rr q1
noncomputable def gTup (K : PySem.W.Frag) (n : Nat) (t : TGs) : TG := fun v σ H Q => ∃ a xs, v = .ref a /\ SqT K H a xs /\ xs.length = n /\ t xs σ H Q
theorem pg_tup {es : List Expr} {k : Nat} {t : TGs} {n : Nat} (hc : X.calm = true) (h : PGs X es t)
    (hn : (assignEach es X.env).length = n := by rfl) (hst : (assignEach es X.env).findIdx? (·.1) = none := by rfl) : PG X (.Tuple es k pos) (gTup X.K n t) := by
  intro pins s σ H v u Q I r hw
  obtain ⟨a, xs, e1, hq, hl, hw⟩ := hw
  subst e1
  cases r
  obtain ⟨its, rv, ht, hz⟩ := I.tuple hq
  refine assign_Tuple_tuple (I.ok.hd hc) ht (by simp [hn, <- hl, rv.length]) hst fun h' hx => ?_
  have I1 : Inv X pins σ H { s with heap := h' } := I.kept (t' := s.toks) fun b o e => hx b o (Nat.ne_of_lt (Heap.lt_size e)) e
  exact h pins _ σ H xs _ Q I1 (by simpa using rv) hw
noncomputable def gSub (to ti : TE) (t : TSet) : TG := fun v σ H Q => to σ H fun o H1 => ti σ H1 fun i H2 => t o i v H2 fun H3 => Q σ H3
theorem pg_sub {o i : Expr} {to ti : TE} {t : TSet} (ho : PE X o to) (hi : PE X i ti) (hs : PSet X t)
    (ha : ∀ v, assign (.Subscript o i pos) X.env v = (do
      let ov <- holding [v] (eval o X.env)
      let iv <- holding [v, ov] (eval i X.env)
      standAt pos
      holding [v, ov, iv] (setItem ov iv v)
      release [v, ov, iv] []) := by intro _; rfl) : PG X (.Subscript o i pos) (gSub to ti t) := by
  intro pins s σ H v u Q I r h
  rw [ha]
  refine wpAny_bind (wpAny_holding (thn (ho pins s σ H _ I h) fun ov s1 hq1 => ?_))
  obtain ⟨x, H1, I1, r1, q1⟩ := hq1
  refine wpAny_bind (wpAny_holding (thn (hi pins s1 σ H1 _ I1 q1) fun iv s2 hq2 => ?_))
  obtain ⟨y, H2, I2, r2, q2⟩ := hq2
  refine wpAny_bind (wpAny_standAt (wpAny_bind (wpAny_holding (thn (hs pins s2 σ H2 x y v ov iv u _ I2 r1 r2 r q2) fun _ s3 hq3 => ?_))))
  obtain ⟨H3, I3, q3⟩ := hq3
  exact wpAny_release ⟨σ, H3, I3, q3⟩
noncomputable def tAsg (te : TE) (g : TG) : TS := fun D σ H => te σ H fun x H1 => g x σ H1 D.nx
theorem ps_asg {tg e : Expr} {te : TE} {g : TG} (he : PE X e te) (hg : PG X tg g) (hs : swapsWithSole [tg] e pos.line X.env = pure false := by rfl) (hw : swappedStores [tg] e X.env = pure none := by rfl)
    (h1 : (assignEach [tg] X.env).map (·.2) = [assign tg X.env] := by rfl) : PS X (.Assign [tg] e pos) (tAsg te g) := by
  intro pins s σ H D I h
  refine wpAny_Assign_stores (thn (he pins s σ H _ I h) fun v s1 hq1 => ?_) hs hw
  obtain ⟨x, H1, I1, r1, q1⟩ := hq1
  rw [h1]
  exact thn (hg pins s1 σ H1 x v _ I1 r1 q1) fun _ s2 q => q
theorem ps_set {i : Nat} {x : Str} {e : Expr} {te : TE} {pos' : Pos} (hN : X.N.Nodup) (hi : X.N[i]? = some x) (hx : Loc X.env.scope x) (he : PE X e te) (hs : swapsWith e (some (.Name x pos')) pos.line X.env = pure false := by rfl) (hf : X.fn x = true ∨ X.env.scope.names.lookup x = some .local := by first | exact .inl rfl | exact .inr rfl | assumption) :
    PS X (.Assign [.Name x pos'] e pos) (tAsg te (gName i)) := by
  intro pins s σ H D I h
  refine wpAny_Assign_Name (thn (he pins s σ H _ I h) fun v s1 hq1 => ?_) hs
  obtain ⟨y, H1, I1, r1, q1⟩ := hq1
  exact store_ok I1 hN hi hx r1 (fun s2 I2 => ⟨_, H1, I2, q1⟩) hf
end
section
variable {X : Cx} {pos : Pos}
noncomputable def tWhile (c : TT) (tb : TS) : TS := fun D σ H => ∃ W : Nat -> St -> Hp -> Prop, (∃ m, W m σ H) /\ ∀ m σ H, W m σ H ->
  c σ H fun b H1 => if b = true then ∃ N : St -> Hp -> Prop, (∀ σ' H', N σ' H' -> ∃ m', m' < m /\ W m' σ' H') /\ tb { D with nx := N, ct := N, bk := D.nx } σ H1 else D.nx σ H1
theorem ps_while {c : Expr} {body : List Stmt} {tc : TT} {tb : TS} (hp : PassesOwn (model X.prog X.w) X.A X.env X.xe) (hc : PT X c tc) (hb : PSs X body tb) : PS X (.While c body [] pos) (tWhile tc tb) := by
  intro pins s σ H D I h
  obtain ⟨W, ⟨m0, w0⟩, turn⟩ := h
  refine wpAny_While (codeAny_whileLoop (fun n s' => ∃ σ' H', Inv X pins σ' H' s' /\ W n σ' H') ?_ m0 ⟨σ, H, I, w0⟩)
  rintro n s1 ⟨σ1, H1, I1, w1⟩
  refine wpAny_passesOwn hp (thn (hc pins s1 σ1 H1 _ I1 (turn n σ1 H1 w1)) fun b s2 hq1 => ?_)
  obtain ⟨H2, I2, q2⟩ := hq1
  cases b with
  | true =>
    obtain ⟨N, hN, q2⟩ := q2
    rw [if_pos rfl]
    refine wpAny_passesOwn hp (thn (hb pins s2 σ1 H2 _ I2 q2) fun f s3 q3 => ?_)
    cases f with
    | next =>
      obtain ⟨σ3, H3, I3, n3⟩ := q3
      obtain ⟨m', hm, w3⟩ := hN σ3 H3 n3
      exact ⟨m', hm, σ3, H3, I3, w3⟩
    | cont =>
      obtain ⟨σ3, H3, I3, n3⟩ := q3
      obtain ⟨m', hm, w3⟩ := hN σ3 H3 n3
      exact ⟨m', hm, σ3, H3, I3, w3⟩
    | brk => exact q3
    | ret v => exact q3
  | false =>
    rw [if_neg Bool.false_ne_true]
    exact wpAny_execs_nil ⟨σ1, H2, I2, q2⟩
end
structure It where
  go : Nat -> Hp -> Prop
  yld : Nat -> Hp -> V -> Hp -> Prop
  stop : Nat -> Hp -> Prop
noncomputable def FpOk (X : Cx) (pins : List (Addr × Obj)) (H : Hp) (b : Addr) : Prop :=
  H b = none /\ b ≠ X.env.locals /\ b ∉ X.fs /\ (b ∈ X.ex ∨ X.s₀.heap.objs.size <= b) /\ (∀ x c, X.env.cells.lookup x = some c -> c ≠ b) /\ ∀ p ∈ X.pn ++ pins, p.1 ≠ b
theorem Inv.fpOk {X : Cx} {pins : List (Addr × Obj)} {σ : St} {H H' : Hp} {s : Shared} {b : Addr} (I : Inv X pins σ H s) (hb : s.heap.objs.size <= b) (hn : H' b = none) : FpOk X pins H' b := by
  refine ⟨hn, Nat.ne_of_gt (Nat.lt_of_lt_of_le I.lt hb), I.nofs hb, .inr (Nat.le_trans I.sz hb), fun x c e z => ?_, fun p hp z => ?_⟩
  · obtain ⟨v, q⟩ := I.cell x c e
    exact absurd (Nat.lt_of_lt_of_le q.lt (by rw [z]; exact hb)) (Nat.lt_irrefl _)
  · exact absurd (Nat.lt_of_lt_of_le (Heap.lt_size (I.pin p hp).1) (by rw [z]; exact hb)) (Nat.lt_irrefl _)
structure Turn (P : Program) (w : World) (K : PySem.W.Frag) (tg : Expr) (J : It) (fp : List Addr) (it : Addr) (tn : Nat -> Heap -> Prop) : Prop where
  mem : it ∈ fp
  obj : ∀ i h, tn i h -> ∀ b ∈ fp, ∃ o, h.get? b = some o /\ ∀ v, o.data ≠ .cell v
  keep : ∀ i h h', tn i h -> (∀ b ∈ fp, ∀ o, h.get? b = some o -> h'.get? b = some o) -> tn i h'
  item : ∀ (X : Cx), X.prog = P -> X.w = w -> X.K = K -> X.calm = true -> ∀ (i : Nat) (pins : List (Addr × Obj)) (s : Shared) (σ : St) (H : Hp) (E : Value -> Shared -> Prop), Inv X pins σ H s -> (∀ b ∈ fp, FpOk X pins H b) -> tn i s.heap -> J.go i H ->
    wpAny (model P w) X.A (pyNext (.ref it)) (fun r s1 => ∃ u, r = some u /\
      wpAny (model P w) X.A (letOwnedTupleGo tg (.ref it) u) (fun _ s2 => ∃ x H', Inv X pins σ H' s2 /\ RelV x u /\ J.yld i H x H' /\ tn (i + 1) s2.heap /\ ∀ b ∈ fp, H' b = none) E s1) E s
  done : ∀ (X : Cx), X.prog = P -> X.w = w -> X.K = K -> X.calm = true -> ∀ (i : Nat) (pins : List (Addr × Obj)) (s : Shared) (σ : St) (H : Hp) (E : Value -> Shared -> Prop), Inv X pins σ H s -> (∀ b ∈ fp, FpOk X pins H b) -> tn i s.heap -> J.stop i H ->
    wpAny (model P w) X.A (pyNext (.ref it)) (fun r s1 => r = none /\ Inv X pins σ H s1) E s
  self : ∀ (A : Around) (i : Nat) (s : Shared) (Q : Value -> Shared -> Prop) (E : Value -> Shared -> Prop), tn i s.heap -> Q (.ref it) s -> wpAny (model P w) A (pyIter (.ref it)) Q E s
noncomputable abbrev TI := St -> Hp -> (It -> Hp -> Prop) -> Prop
noncomputable def PIE (X : Cx) (pins : List (Addr × Obj)) (σ : St) (tg : Expr) (R : It -> Hp -> Prop) (itv : Value) (s2 : Shared) : Prop :=
  ∃ (it : Addr) (fp : List Addr) (tn : Nat -> Heap -> Prop) (J : It) (H' : Hp), itv = .ref it /\ Inv X pins σ H' s2 /\ Turn X.prog X.w X.K tg J fp it tn /\ tn 0 s2.heap /\ (∀ b ∈ fp, FpOk X pins H' b) /\ R J H'
noncomputable def PI (X : Cx) (tg iter : Expr) (wi : TI) : Prop :=
  ∀ (pins : List (Addr × Obj)) (s : Shared) (σ : St) (H : Hp) (R : It -> Hp -> Prop), Inv X pins σ H s -> wi σ H R ->
    wpAny (model X.prog X.w) X.A (eval iter X.env) (fun v s1 => wpAny (model X.prog X.w) X.A (pyIter v) (PIE X pins σ tg R) X.xe s1) X.xe s
theorem go_of {M : Model} {A : Around} {E : Value -> Shared -> Prop} {s : Shared} {tg : Expr} {it : Addr} {u : Value} {o : Obj} {n : String} {vs : Array Value} {Q : Unit -> Shared -> Prop} (ho : s.heap.get? it = some o) (hc : o.cls = .type n) (hd : o.data = .fields vs)
    (hn : ["enumerate", "zip", "dict_itemiterator", "dict_reverseitemiterator", "odict_iterator", "itertools.zip_longest", "itertools.pairwise"].contains n = false) (hQ : Q () s) : wpAny M A (letOwnedTupleGo tg (.ref it) u) Q E s := by
  unfold letOwnedTupleGo
  cases tg <;> first
    | exact wpAny_pure hQ
    | (cases u <;> first
        | exact wpAny_pure hQ
        | (refine wpAny_bind (wpAny_load ho ?_)
           rw [hc, hd]
           show wpAny M A (if (["enumerate", "zip", "dict_itemiterator", "dict_reverseitemiterator", "odict_iterator", "itertools.zip_longest", "itertools.pairwise"].contains n && vs[0]? == some (rawInt _)) = true then _ else _) Q E s
           rw [if_neg (by intro h; rw [hn, Bool.false_and] at h; cases h)]
           exact wpAny_pure hQ))
noncomputable def Itl (K : PySem.W.Frag) (a : Addr) : It :=
  ⟨fun i H => ∃ xs x, SqL K H a xs /\ xs[i]? = some x, fun i H x H' => H' = H /\ ∀ xs, SqL K H a xs -> xs[i]? = some x, fun i H => ∃ xs, SqL K H a xs /\ xs.length <= i⟩
noncomputable def Itr (lo : Int) (n : Nat) : It := ⟨fun i _ => i < n, fun i H x H' => H' = H /\ x = .int (lo + i), fun i _ => n <= i⟩
theorem turn_list {P : Program} {w : World} {K : PySem.W.Frag} {tg : Expr} (a it : Addr) : Turn P w K tg (Itl K a) [it] it (fun i h => h.IsListIter it a i) where
  mem := by simp
  obj := fun i h st b hb => by
    have e : b = it := by simpa using hb
    subst e
    obtain ⟨o, e, c, d⟩ := st
    exact ⟨o, e, fun v z => by rw [d] at z; cases z⟩
  keep := fun i h h' st k => st.at fun o e => k it (by simp) o e
  item := by
    intro X hP hw hK hc i pins s σ H E I hf st hg
    subst hP hw hK
    obtain ⟨xs, x, hq, hx⟩ := hg
    obtain ⟨its, rv, p, hz⟩ := I.list hq
    obtain ⟨u, hu, ru⟩ := rv.get hx
    obtain ⟨f0, f1, f2, f3, f4, f5⟩ := hf it (by simp)
    refine wpAny_pyNext_list_item st p.isList (x := u) (by simpa using hu) fun h' st' sb => ?_
    have I1 : Inv X pins σ H { s with heap := h' } := I.turned (t' := s.toks) (fun b o hb e => (sb.2 b hb).trans e) f0 f1 f3 f4 f5
    obtain ⟨o, e, c, d⟩ := id st'
    exact ⟨u, rfl, go_of (s := { s with heap := h' }) e c d (by decide) ⟨x, H, I1, ru, ⟨rfl, fun ys hy => by rw [I.list_inj hy hq]; exact hx⟩, st', fun b hb => (hf b hb).1⟩⟩
  done := by
    intro X hP hw hK hc i pins s σ H E I hf st hg
    subst hP hw hK
    obtain ⟨xs, hq, hx⟩ := hg
    obtain ⟨its, rv, p, hz⟩ := I.list hq
    obtain ⟨f0, f1, f2, f3, f4, f5⟩ := hf it (by simp)
    have hl := rv.length
    exact wpAny_pyNext_list_end (I.ok.hd hc) st p.isList (by simp; lia) fun h' eb => ⟨rfl, I.turned (t' := s.toks) (fun b o hb e => eb b o hb e) f0 f1 f3 f4 f5⟩
  self := fun _ _ _ _ _ st h => wpAny_pyIter_listiter st h
theorem turn_range {P : Program} {w : World} {K : PySem.W.Frag} {tg : Expr} (it : Addr) (lo : Int) (n : Nat) : Turn P w K tg (Itr lo n) [it] it (fun i h => IsRangeIter h it (lo + (i : Nat) * 1) ((n : Int) - (i : Nat)) 1) where
  mem := by simp
  obj := fun i h st b hb => by
    have e : b = it := by simpa using hb
    subst e
    exact ⟨_, st, fun v z => by
      have z' : Data.fields _ = Data.cell v := z
      cases z'⟩
  keep := fun i h h' st k => k it (by simp) _ st
  item := by
    intro X hP hw hK hc i pins s σ H E I hf st hg
    subst hP hw hK
    obtain ⟨f0, f1, f2, f3, f4, f5⟩ := hf it (by simp)
    have W := Walks.range (prog := X.prog) (w := X.w) (I.ok.hd hc) it lo 1 n
    refine W.item i s _ _ hg st fun v h' tk hv st' kk => ?_
    obtain ⟨t, rfl⟩ := hv
    have I1 : Inv X pins σ H { s with heap := h', toks := tk } := I.turned (fun b o hb e => kk b o (by simpa using hb) e) f0 f1 f3 f4 f5
    refine ⟨_, rfl, go_of (s := { s with heap := h', toks := tk }) (n := "range_iterator") st' rfl rfl (by decide) ⟨.int (lo + i), H, I1, ⟨t, ?_⟩, ⟨rfl, rfl⟩, st', fun b hb => (hf b hb).1⟩⟩
    rw [Int.mul_one]
  done := by
    intro X hP hw hK hc i pins s σ H E I hf st hg
    subst hP hw hK
    obtain ⟨f0, f1, f2, f3, f4, f5⟩ := hf it (by simp)
    exact wpAny_pyNext_range_end (I.ok.hd hc) st (by have : n <= i := hg; lia) fun h' eb => ⟨rfl, I.turned (t' := s.toks) (fun b o hb e => eb b o hb e) f0 f1 f3 f4 f5⟩
  self := fun _ _ _ _ _ st h => wpAny_pyIter_rangeiter st h
end L2
namespace L2
open PySem PySem.Spec PyProof.Rows
section
variable {X : Cx} {tg : Expr}
noncomputable def iList (K : PySem.W.Frag) (tl : TE) : TI := fun σ H R => tl σ H fun x H1 => ∃ a, x = .ref a /\ (∃ xs, SqL K H1 a xs) /\ R (Itl K a) H1
theorem pi_list {l : Expr} {tl : TE} (hl : PE X l tl) : PI X tg l (iList X.K tl) := by
  intro pins s σ H R I h
  refine thn (hl pins s σ H _ I h) fun v s1 hq1 => ?_
  obtain ⟨x, H1, I1, r1, q1⟩ := hq1
  obtain ⟨a, e, ⟨xs, hq⟩, q⟩ := q1
  subst e
  cases r1
  obtain ⟨its, rv, p, hz⟩ := I1.list hq
  refine wpAny_pyIter_list p.isList ?_
  refine ⟨s1.heap.objs.size, [s1.heap.objs.size], _, _, H1, rfl, I1.kept (t' := s1.toks) fun b o e => Heap.get?_push_of_some _ e, turn_list a _, ⟨_, Heap.get?_push_size _ rfl, rfl, rfl⟩, fun b hb => ?_, q⟩
  have e : b = s1.heap.objs.size := by simpa using hb
  subst e
  exact I1.fpOk (Nat.le_refl _) (I1.hok.fresh (Nat.le_refl _))
theorem range_it {pins : List (Addr × Obj)} {σ : St} {H : Hp} {s : Shared} {R : It -> Hp -> Prop} {E : Value -> Shared -> Prop} {lo hi : Int} {t u v : Tok} {tk : Nat} (I : Inv X pins σ H s) (h1 : -(2 ^ 62) <= lo) (h2 : lo < 2 ^ 62) (h3 : -(2 ^ 62) <= hi) (h4 : hi < 2 ^ 62)
    (q : R (Itr lo (hi - lo).toNat) H) : wpAny (model X.prog X.w) X.A (pyIter (.ref s.heap.objs.size)) (PIE X pins σ tg R) E { s with heap := s.heap.push { cls := .type "range", data := .fields #[.int lo t, .int hi u, .int 1 v] }, toks := tk } := by
  refine wpAny_pyIter_range (IsRange.new ..) (small_one h1 h2 h3 h4) ?_
  have I1 : Inv X pins σ H { s with heap := s.heap.push { cls := .type "range", data := .fields #[.int lo t, .int hi u, .int 1 v] }, toks := tk } := I.kept fun b o e => Heap.get?_push_of_some _ e
  refine ⟨(s.heap.push { cls := .type "range", data := .fields #[.int lo t, .int hi u, .int 1 v] }).objs.size, [(s.heap.push { cls := .type "range", data := .fields #[.int lo t, .int hi u, .int 1 v] }).objs.size], _, _, H, rfl,
    I1.kept (t' := tk) fun b o e => Heap.get?_push_of_some _ e, turn_range _ lo (hi - lo).toNat, ?_, fun b hb => ?_, q⟩
  · have e1 : lo + ((0 : Nat) : Int) * 1 = lo := by simp
    have e2 : (((hi - lo).toNat : Nat) : Int) - ((0 : Nat) : Int) = Builtin.Range.rangeSize lo hi 1 := by rw [rangeSize_one]; split <;> lia
    show IsRangeIter _ _ (lo + ((0 : Nat) : Int) * 1) ((((hi - lo).toNat : Nat) : Int) - ((0 : Nat) : Int)) 1
    rw [e1, e2]
    exact Heap.get?_push_size _ rfl
  · have e : b = (s.heap.push { cls := .type "range", data := .fields #[.int lo t, .int hi u, .int 1 v] }).objs.size := by simpa using hb
    subst e
    exact I1.fpOk (Nat.le_refl _) (I1.hok.fresh (Nat.le_refl _))
noncomputable def iRng1 (ta : TA) : TI := fun σ H R => ta σ H fun vs H1 => ∃ j : Int, vs = [.int j] /\ -(2 ^ 62) <= j /\ j < 2 ^ 62 /\ R (Itr 0 j.toNat) H1
theorem pi_range1 {a : Expr} {ta : TA} {p pos : Pos} (hg : Gl X "range") (hm : X.mg "range" = none) (ha : PA X [a] ta) (hs : starEach [a] X.env = [(false, eval a X.env)] := by rfl) : PI X tg (.Call (.Name "range" p) [a] [] pos) (iRng1 ta) := by
  intro pins s σ H R I h
  refine Call_ (ld_blt I hg hm boot_range (PyProof.Rows.callWith_type1 (thn (ha pos pins s σ H _ I h) fun us s1 hq1 => ?_) hs rfl))
  obtain ⟨vs, H1, I1, r1, q1⟩ := hq1
  obtain ⟨j, e, q1, q2, q⟩ := q1
  subst e
  cases r1 with
  | cons r rr =>
    cases rr
    obtain ⟨t, rfl⟩ := r
    exact call_range_1 (range_it I1 (by lia) (by lia) q1 q2 (by simpa using q))
noncomputable def tFor (wi : TI) (g : TG) (tb : TS) : TS := fun D σ H => wi σ H fun J H1 => ∃ W : Nat -> Nat -> St -> Hp -> Prop, (∃ m, W 0 m σ H1) /\ ∀ i m σ H, W i m σ H ->
  (J.stop i H /\ D.nx σ H) ∨ (J.go i H /\ ∃ N : St -> Hp -> Prop, (∀ σ' H', N σ' H' -> ∃ m', m' < m /\ W (i + 1) m' σ' H') /\ ∀ x H', J.yld i H x H' -> g x σ H' fun σ2 H2 => tb { D with nx := N, ct := N, bk := D.nx } σ2 H2)
noncomputable def pinsAt (fp : List Addr) (h : Heap) : List (Addr × Obj) := fp.filterMap fun b => (h.get? b).map fun o => (b, o)
theorem mem_pinsAt {fp : List Addr} {h : Heap} {b : Addr} {o : Obj} (hb : b ∈ fp) (e : h.get? b = some o) : (b, o) ∈ pinsAt fp h := List.mem_filterMap.mpr ⟨b, hb, by rw [e]; rfl⟩
theorem of_pinsAt {fp : List Addr} {h : Heap} {p : Addr × Obj} (hp : p ∈ pinsAt fp h) : p.1 ∈ fp /\ h.get? p.1 = some p.2 := by
  obtain ⟨b, hb, e⟩ := List.mem_filterMap.mp hp
  cases q : h.get? b with
  | none => rw [q] at e; cases e
  | some o =>
    rw [q] at e
    have e' : (b, o) = p := Option.some.inj e
    subst e'
    exact ⟨hb, q⟩
theorem Inv.pinned {pins : List (Addr × Obj)} {σ : St} {H : Hp} {s : Shared} {fp : List Addr} (I : Inv X pins σ H s) (hf : ∀ b ∈ fp, FpOk X pins H b) (ho : ∀ b ∈ fp, ∃ o, s.heap.get? b = some o /\ ∀ v, o.data ≠ .cell v) : Inv X (pins ++ pinsAt fp s.heap) σ H s :=
  I.pins_of fun p hp => (List.mem_append.mp hp).elim (fun z => I.pin p (List.mem_append_right _ z)) fun z => by
    obtain ⟨hb, e⟩ := of_pinsAt z
    obtain ⟨f0, f1, f2, _⟩ := hf p.1 hb
    obtain ⟨o, e', d⟩ := ho p.1 hb
    rw [e] at e'; cases e'
    exact ⟨e, f0, f1, f2, d⟩
theorem Inv.unpinned {pins pl : List (Addr × Obj)} {σ : St} {H : Hp} {s : Shared} (I : Inv X (pins ++ pl) σ H s) : Inv X pins σ H s := I.pins_of fun p hp => I.pin p (List.mem_append_right _ (List.mem_append_left _ hp))
theorem ps_for {iter : Expr} {body : List Stmt} {wi : TI} {g : TG} {tb : TS} {pos : Pos} (hp : PassesOwn (model X.prog X.w) X.A X.env X.xe) (hc : X.calm = true) (hi : PI X tg iter wi) (hg : PG X tg g) (hb : PSs X body tb)
    (hs : ∀ x, foldedSetIterable iter X.env x = pure x := by intro _; rfl) : PS X (.For tg iter body [] pos) (tFor wi g tb) := by
  intro pins s σ H D I h
  refine wpAny_For (thn (hi pins s σ H _ I h) fun v s1 h1 => thn h1 fun itv s2 h2 => ?_) hs
  obtain ⟨it, fp, tn, J, H2, e, I2, T, st2, f2, W, ⟨m0, w0⟩, turn⟩ := h2
  subst e
  have stat : ∀ {H' : Hp}, (∀ b ∈ fp, H' b = none) -> ∀ b ∈ fp, FpOk X pins H' b := fun hn b hb => ⟨hn b hb, (f2 b hb).2⟩
  refine codeAny_forLoop_any (fun n s' => ∃ i σ' H', Inv X pins σ' H' s' /\ tn i s'.heap /\ (∀ b ∈ fp, H' b = none) /\ W i n σ' H') ?_ m0 ⟨0, σ, H2, I2, st2, fun b hb => (f2 b hb).1, w0⟩
  rintro n s3 ⟨i, σ3, H3, I3, st3, fr3, w3⟩
  rcases turn i n σ3 H3 w3 with ⟨stop, qn⟩ | ⟨go, N, hN, step⟩
  · refine wpAny_passesOwn hp (thn (T.done X rfl rfl rfl hc i pins s3 σ3 H3 X.xe I3 (stat fr3) st3 stop) fun r s4 hq1 => ?_)
    obtain ⟨hr, I4⟩ := hq1
    subst hr
    exact wpAny_execs_nil ⟨σ3, H3, I4, qn⟩
  · refine wpAny_passesOwn hp (thn (T.item X rfl rfl rfl hc i pins s3 σ3 H3 X.xe I3 (stat fr3) st3 go) fun r s4 hq2 => ?_)
    obtain ⟨u, hr, h4⟩ := hq2
    subst hr
    refine wpAny_passesOwn hp (thn h4 fun _ s5 hq3 => ?_)
    obtain ⟨x, H5, I5, r5, y5, st5, fr5⟩ := hq3
    have I5' := I5.pinned (stat fr5) (T.obj _ _ st5)
    refine wpAny_passesOwn hp (thn (hg _ s5 σ3 H5 x u _ I5' r5 (step x H5 y5)) fun _ s6 hq4 => ?_)
    obtain ⟨σ6, H6, I6, q6⟩ := hq4
    refine wpAny_passesOwn hp (thn (hb _ s6 σ6 H6 _ I6 q6) fun f s7 q7 => ?_)
    have again : ∀ {σ7 : St} {H7 : Hp}, Inv X (pins ++ pinsAt fp s5.heap) σ7 H7 s7 -> N σ7 H7 -> ∃ m, m < n /\ ∃ i σ' H', Inv X pins σ' H' s7 /\ tn i s7.heap /\ (∀ b ∈ fp, H' b = none) /\ W i m σ' H' := fun {σ7 H7} I7 n7 => by
      obtain ⟨m', hm, w7⟩ := hN σ7 H7 n7
      refine ⟨m', hm, i + 1, σ7, H7, I7.unpinned, T.keep _ _ _ st5 fun b hb o e => (I7.pin (b, o) (List.mem_append_right _ (List.mem_append_right _ (mem_pinsAt hb e)))).1, fun b hb => ?_, w7⟩
      obtain ⟨o, e, d⟩ := T.obj _ _ st5 b hb
      exact (I7.pin (b, o) (List.mem_append_right _ (List.mem_append_right _ (mem_pinsAt hb e)))).2.1
    cases f with
    | next => obtain ⟨σ7, H7, I7, n7⟩ := q7; exact again I7 n7
    | cont => obtain ⟨σ7, H7, I7, n7⟩ := q7; exact again I7 n7
    | brk => obtain ⟨σ7, H7, I7, q7⟩ := q7; exact ⟨σ7, H7, I7.unpinned, q7⟩
    | ret v => obtain ⟨x7, σ7, H7, I7, r7, q7⟩ := q7; exact ⟨x7, σ7, H7, I7.unpinned, r7, q7⟩
end
theorem for_list {K : PySem.W.Frag} {a : Addr} {xs : List V} {g : TG} {tb : TS} {D : Ends} {σ : St} {H : Hp} (Pv : Nat -> St -> Hp -> Prop) (h0 : Pv 0 σ H) (hl : ∀ i σ H, i <= xs.length -> Pv i σ H -> SqL K H a xs)
    (hs : ∀ i x σ H, xs[i]? = some x -> Pv i σ H -> g x σ H fun σ2 H2 => tb { D with nx := Pv (i + 1), ct := Pv (i + 1), bk := D.nx } σ2 H2) (hd : ∀ σ H, Pv xs.length σ H -> D.nx σ H) :
    ∃ W : Nat -> Nat -> St -> Hp -> Prop, (∃ m, W 0 m σ H) /\ ∀ i m σ H, W i m σ H ->
      ((Itl K a).stop i H /\ D.nx σ H) ∨ ((Itl K a).go i H /\ ∃ N : St -> Hp -> Prop, (∀ σ' H', N σ' H' -> ∃ m', m' < m /\ W (i + 1) m' σ' H') /\ ∀ x H', (Itl K a).yld i H x H' -> g x σ H' fun σ2 H2 => tb { D with nx := N, ct := N, bk := D.nx } σ2 H2) := by
  refine ⟨fun i m σ H => m = xs.length - i /\ i <= xs.length /\ Pv i σ H, ⟨xs.length, by simp, Nat.zero_le _, h0⟩, ?_⟩
  rintro i m σ H ⟨rfl, hi, p⟩
  have q := hl i σ H hi p
  by_cases hlt : i < xs.length
  · refine .inr ⟨⟨xs, xs[i], q, by simp [hlt]⟩, Pv (i + 1), fun σ' H' p' => ⟨xs.length - (i + 1), by lia, rfl, hlt, p'⟩, fun x H' y => ?_⟩
    obtain ⟨e, y⟩ := y
    subst e
    exact hs i x σ _ (y xs q) p
  · have e : i = xs.length := by lia
    subst e
    exact .inl ⟨⟨xs, q, Nat.le_refl _⟩, hd σ H p⟩
theorem for_range {lo : Int} {n : Nat} {g : TG} {tb : TS} {D : Ends} {σ : St} {H : Hp} (Pv : Nat -> St -> Hp -> Prop) (h0 : Pv 0 σ H)
    (hs : ∀ i σ H, i < n -> Pv i σ H -> g (.int (lo + i)) σ H fun σ2 H2 => tb { D with nx := Pv (i + 1), ct := Pv (i + 1), bk := D.nx } σ2 H2) (hd : ∀ σ H, Pv n σ H -> D.nx σ H) :
    ∃ W : Nat -> Nat -> St -> Hp -> Prop, (∃ m, W 0 m σ H) /\ ∀ i m σ H, W i m σ H ->
      ((Itr lo n).stop i H /\ D.nx σ H) ∨ ((Itr lo n).go i H /\ ∃ N : St -> Hp -> Prop, (∀ σ' H', N σ' H' -> ∃ m', m' < m /\ W (i + 1) m' σ' H') /\ ∀ x H', (Itr lo n).yld i H x H' -> g x σ H' fun σ2 H2 => tb { D with nx := N, ct := N, bk := D.nx } σ2 H2) := by
  refine ⟨fun i m σ H => m = n - i /\ i <= n /\ Pv i σ H, ⟨n, by simp, Nat.zero_le _, h0⟩, ?_⟩
  rintro i m σ H ⟨rfl, hi, p⟩
  by_cases hlt : i < n
  · refine .inr ⟨hlt, Pv (i + 1), fun σ' H' p' => ⟨n - (i + 1), by lia, rfl, hlt, p'⟩, fun x H' y => ?_⟩
    obtain ⟨e, y⟩ := y
    subst e y
    exact hs i σ _ hlt p
  · have e : i = n := by lia
    subst e
    exact .inl ⟨Nat.le_refl _, hd σ H p⟩
end L2
namespace L2
open PySem PySem.Spec PyProof.Rows
noncomputable abbrev R2 := V -> V -> Hp -> VK -> Prop
noncomputable def OpR (X : Cx) (f : Value -> Value -> Sem Value) (r : R2) : Prop :=
  ∀ (pins : List (Addr × Obj)) (s : Shared) (σ : St) (H : Hp) (x y : V) (v u : Value) (Q : VK), Inv X pins σ H s -> RelV x v -> RelV y u -> r x y H Q ->
    wpAny (model X.prog X.w) X.A (f v u) (EP X pins σ Q) X.xe s
noncomputable def UnR (X : Cx) (f : Value -> Sem Value) (r : V -> Hp -> VK -> Prop) : Prop :=
  ∀ (pins : List (Addr × Obj)) (s : Shared) (σ : St) (H : Hp) (x : V) (v : Value) (Q : VK), Inv X pins σ H s -> RelV x v -> r x H Q ->
    wpAny (model X.prog X.w) X.A (f v) (EP X pins σ Q) X.xe s
noncomputable def CallR (X : Cx) (f : Value) (r : List V -> Hp -> VK -> Prop) : Prop :=
  ∀ (pins : List (Addr × Obj)) (s : Shared) (σ : St) (H : Hp) (xs : List V) (us : List Value) (Q : VK), Inv X pins σ H s -> Vals xs us -> r xs H Q ->
    wpAny (model X.prog X.w) X.A (call f us) (EP X pins σ Q) X.xe s
noncomputable def TruR (X : Cx) (r : V -> Hp -> (Bool -> Hp -> Prop) -> Prop) : Prop :=
  ∀ (pins : List (Addr × Obj)) (s : Shared) (σ : St) (H : Hp) (x : V) (v : Value) (Q : Bool -> Hp -> Prop), Inv X pins σ H s -> RelV x v -> r x H Q ->
    wpAny (model X.prog X.w) X.A (truthy v) (TP X pins σ Q) X.xe s
noncomputable def tOp (r : R2) (ta tb : TE) : TE := fun σ H Q => ta σ H fun x H1 => tb σ H1 fun y H2 => r x y H2 Q
noncomputable def tUn (r : V -> Hp -> VK -> Prop) (ta : TE) : TE := fun σ H Q => ta σ H fun x H1 => r x H1 Q
noncomputable def rI (C : Int -> Int -> Prop) (g : Int -> Int -> V) : R2 := fun x y H Q => ∃ i j, x = .int i /\ y = .int j /\ C i j /\ Q (g i j) H
noncomputable def rI0 (g : Int -> Int -> V) : R2 := fun x y H Q => ∃ i j, x = .int i /\ y = .int j /\ Q (g i j) H
noncomputable def rU (g : Int -> V) : V -> Hp -> VK -> Prop := fun x H Q => ∃ i, x = .int i /\ Q (g i) H
section
variable {X : Cx} {a b c : Expr} {ta tb tc : TE} {pos : Pos}
theorem binT (ha : PE X a ta) (hb : PE X b tb) {pins : List (Addr × Obj)} {s : Shared} {σ : St} {H : Hp} {R : V -> V -> Hp -> Prop} (I : Inv X pins σ H s)
    (h : ta σ H fun x H1 => tb σ H1 fun y H2 => R x y H2) {Q : Value -> Shared -> Prop} {f : Value -> Value -> Sem Value}
    (hf : ∀ v u s2 x y H2, Inv X pins σ H2 s2 -> RelV x v -> RelV y u -> R x y H2 -> wpAny (model X.prog X.w) X.A (f v u) Q X.xe s2) :
    wpAny (model X.prog X.w) X.A (eval a X.env) (fun v s₁ => wpAny (model X.prog X.w) X.A (eval b X.env) (fun u s₂ => wpAny (model X.prog X.w) X.A (f v u) Q X.xe s₂) X.xe s₁) X.xe s := by
  refine thn (ha pins s σ H _ I h) fun v s1 hq1 => ?_
  obtain ⟨x, H1, I1, r1, q1⟩ := hq1
  refine thn (hb pins s1 σ H1 _ I1 q1) fun u s2 hq2 => ?_
  obtain ⟨y, H2, I2, r2, q2⟩ := hq2
  exact hf v u s2 x y H2 I2 r1 r2 q2
theorem pe_op {op : Operator} {r : R2} (ho : OpR X (binaryOp op) r) (ha : PE X a ta) (hb : PE X b tb) : PE X (.BinOp a op b pos) (tOp r ta tb) := by
  intro pins s σ H Q I h
  exact wpAny_BinOp (binT ha hb I h fun v u s2 x y H2 I2 rx ry q => ho pins s2 σ H2 x y v u Q I2 rx ry q)
theorem pe_un {op : UnaryOp} {r : V -> Hp -> VK -> Prop} (ho : UnR X (unaryOp op) r) (ha : PE X a ta) : PE X (.UnaryOp op a pos) (tUn r ta) := by
  intro pins s σ H Q I h
  exact UnaryOp_ (thn (ha pins s σ H _ I h) fun v s1 ⟨x, H1, I1, r1, q1⟩ => ho pins s1 σ H1 x v Q I1 r1 q1)
theorem opI {f : Value -> Value -> Sem Value} {C : Int -> Int -> Prop} {g : Int -> Int -> Int}
    (rule : ∀ (i j : Int) (t u : Tok) (s : Shared) (Q : Value -> Shared -> Prop) (E : Value -> Shared -> Prop), C i j -> Q (.int (g i j) s.toks) { s with toks := s.toks + 1 } -> wpAny (model X.prog X.w) X.A (f (.int i t) (.int j u)) Q E s) :
    OpR X f (rI C fun i j => .int (g i j)) := by
  intro pins s σ H x y v u Q I rx ry h
  obtain ⟨i, j, rfl, rfl, hc, q⟩ := h
  obtain ⟨t, rfl⟩ := rx
  obtain ⟨t', rfl⟩ := ry
  exact rule i j t t' s _ _ hc ⟨.int (g i j), H, I.tok _, ⟨_, rfl⟩, q⟩
theorem opI0 {f : Value -> Value -> Sem Value} {g : Int -> Int -> Int}
    (rule : ∀ (i j : Int) (t u : Tok) (s : Shared) (Q : Value -> Shared -> Prop) (E : Value -> Shared -> Prop), Q (.int (g i j) s.toks) { s with toks := s.toks + 1 } -> wpAny (model X.prog X.w) X.A (f (.int i t) (.int j u)) Q E s) :
    OpR X f (rI0 fun i j => .int (g i j)) := by
  intro pins s σ H x y v u Q I rx ry h
  obtain ⟨i, j, rfl, rfl, q⟩ := h
  obtain ⟨t, rfl⟩ := rx
  obtain ⟨t', rfl⟩ := ry
  exact rule i j t t' s _ _ ⟨.int (g i j), H, I.tok _, ⟨_, rfl⟩, q⟩
theorem opB0 {f : Value -> Value -> Sem Value} {g : Int -> Int -> Bool}
    (rule : ∀ (i j : Int) (t u : Tok) (s : Shared) (Q : Value -> Shared -> Prop) (E : Value -> Shared -> Prop), Q (.bool (g i j)) s -> wpAny (model X.prog X.w) X.A (f (.int i t) (.int j u)) Q E s) :
    OpR X f (rI0 fun i j => .bl (g i j)) := by
  intro pins s σ H x y v u Q I rx ry h
  obtain ⟨i, j, rfl, rfl, q⟩ := h
  obtain ⟨t, rfl⟩ := rx
  obtain ⟨t', rfl⟩ := ry
  exact rule i j t t' s _ _ ⟨.bl (g i j), H, I, rfl, q⟩
noncomputable def CDiv (i j : Int) : Prop := 0 < j /\ j < 1073741824
noncomputable def CPow (i j : Int) : Prop := 0 <= j /\ j <= 1000000 /\ i.natAbs < 2 ^ 64
noncomputable def CMul (i j : Int) : Prop := (-(2 ^ 64) < i /\ i < 2 ^ 64) ∨ (-(2 ^ 64) < j /\ j < 2 ^ 64)
theorem CMul.ok {i j : Int} (h : CMul i j) : IntMulOk i j := by
  rcases h with ⟨h1, h2⟩ | ⟨h1, h2⟩
  · exact .of_left (intBits_le_64 h1 h2)
  · exact .of_right (intBits_le_64 h1 h2)
theorem op_add : OpR X (binaryOp .Add) (rI0 fun i j => .int (i + j)) := opI0 fun _ _ _ _ _ _ _ q => add_int q
theorem op_sub : OpR X (binaryOp .Sub) (rI0 fun i j => .int (i - j)) := opI0 fun _ _ _ _ _ _ _ q => sub_int q
theorem op_mul : OpR X (binaryOp .Mult) (rI CMul fun i j => .int (i * j)) := opI fun _ _ _ _ _ _ _ hc q => mul_int q hc.ok
theorem op_fdiv : OpR X (binaryOp .FloorDiv) (rI CDiv fun i j => .int (i / j)) := opI fun i j _ _ _ _ _ hc q => by
  have h1 : (0 : Int) < j := hc.1
  have h2 : j < 1073741824 := hc.2
  exact floordiv_int (by lia) (by rw [Int.fdiv_eq_ediv_of_nonneg i (by lia)]; exact q) (.inl (PyProof.noPylong_small (by lia)))
theorem op_mod : OpR X (binaryOp .Mod) (rI (fun _ j => 0 < j) fun i j => .int (i % j)) := opI fun i j _ _ _ _ _ hc q => by
  have h1 : (0 : Int) < j := hc
  exact mod_int' (by lia) (by rw [Int.fmod_eq_emod_of_nonneg i (by lia)]; exact q)
theorem op_pow : OpR X (binaryOp .Pow) (rI CPow fun i j => .int (i ^ j.toNat)) := opI fun _ _ _ _ _ _ _ hc q => pow_int_small hc.1 hc.2.1 hc.2.2 q
theorem unI {f : Value -> Sem Value} {g : Int -> Int}
    (rule : ∀ (i : Int) (t : Tok) (s : Shared) (Q : Value -> Shared -> Prop) (E : Value -> Shared -> Prop), Q (.int (g i) s.toks) { s with toks := s.toks + 1 } -> wpAny (model X.prog X.w) X.A (f (.int i t)) Q E s) :
    UnR X f (rU fun i => .int (g i)) := by
  intro pins s σ H x v Q I rx h
  obtain ⟨i, rfl, q⟩ := h
  obtain ⟨t, rfl⟩ := rx
  exact rule i t s _ _ ⟨.int (g i), H, I.tok _, ⟨_, rfl⟩, q⟩
theorem un_neg : UnR X (unaryOp .USub) (rU fun i => .int (-i)) := unI fun _ _ _ _ _ q => neg_int q
end
noncomputable def scal : V -> V -> Bool
  | .non, .non => true | .non, .int _ => true | .int _, .non => true | .non, .bl _ => true | .bl _, .non => true | .non, .str _ => true | .str _, .non => true
  | .int _, .int _ => true | .bl _, .bl _ => true | .str _, .str _ => true | .byt _, .byt _ => true
  | .int _, .str _ => true | .str _, .int _ => true | .bl _, .str _ => true | .str _, .bl _ => true
  | _, _ => false
noncomputable def rEq : R2 := fun x y H Q => scal x y = true /\ Q (.bl (decide (x = y))) H
noncomputable def rNe : R2 := fun x y H Q => scal x y = true /\ Q (.bl (!decide (x = y))) H
theorem dec_int {i j : Int} : decide (V.int i = V.int j) = (i == j) := by
  rw [Bool.eq_iff_iff]
  simp
theorem dec_bl {i j : Bool} : decide (V.bl i = V.bl j) = (i == j) := by
  rw [Bool.eq_iff_iff]
  simp
theorem dec_str {i j : Str} : decide (V.str i = V.str j) = (i == j) := by
  rw [Bool.eq_iff_iff]
  simp
theorem dec_byt {i j : Array UInt8} : decide (V.byt i = V.byt j) = (i.toList == j.toList) := by
  rw [Bool.eq_iff_iff]
  cases i
  cases j
  simp
section
variable {X : Cx} {a b c : Expr} {ta tb tc : TE} {pos : Pos}
theorem fin_bl {pins : List (Addr × Obj)} {σ : St} {H : Hp} {s : Shared} {Q : VK} {k k' : Bool} (I : Inv X pins σ H s) (q : Q (.bl k) H) (e : k = k') : EP X pins σ Q (.bool k') s := by
  subst e
  exact ⟨.bl k, H, I, rfl, q⟩
theorem op_eq : OpR X (compareOp .Eq) rEq := by
  intro pins s σ H x y v u Q I rx ry h
  obtain ⟨hs, q⟩ := h
  cases x with
  | non =>
    cases rx
    cases y with
    | non => cases ry; exact PySem.EqNone.eq_none_none (fin_bl I q (by simp))
    | bl j => cases ry; exact PySem.EqNone.eq_none_bool (fin_bl I q (by simp))
    | int j => obtain ⟨t', rfl⟩ := ry; exact PySem.EqNone.eq_none_int (fin_bl I q (by simp))
    | str j => obtain ⟨t', rfl⟩ := ry; exact PySem.EqNone.eq_none_str (fin_bl I q (by simp))
    | _ => exact absurd (show false = true from hs) Bool.false_ne_true
  | bl i =>
    cases rx
    cases y with
    | non => cases ry; exact PySem.EqNone.eq_bool_none (fin_bl I q (by simp))
    | bl j => cases ry; exact eq_bool (fin_bl I q dec_bl)
    | str j => obtain ⟨t', rfl⟩ := ry; exact PySem.EqMixed.eq_bool_str (fin_bl I q (by simp))
    | _ => exact absurd (show false = true from hs) Bool.false_ne_true
  | int i =>
    obtain ⟨t, rfl⟩ := rx
    cases y with
    | non => cases ry; exact PySem.EqNone.eq_int_none (fin_bl I q (by simp))
    | int j => obtain ⟨t', rfl⟩ := ry; exact eq_int (fin_bl I q dec_int)
    | str j => obtain ⟨t', rfl⟩ := ry; exact PySem.EqMixed.eq_int_str (fin_bl I q (by simp))
    | _ => exact absurd (show false = true from hs) Bool.false_ne_true
  | str i =>
    obtain ⟨t, rfl⟩ := rx
    cases y with
    | non => cases ry; exact PySem.EqNone.eq_str_none (fin_bl I q (by simp))
    | bl j => cases ry; exact PySem.EqMixed.eq_str_bool (fin_bl I q (by simp))
    | int j => obtain ⟨t', rfl⟩ := ry; exact PySem.EqMixed.eq_str_int (fin_bl I q (by simp))
    | str j => obtain ⟨t', rfl⟩ := ry; exact eq_str (fin_bl I q dec_str)
    | _ => exact absurd (show false = true from hs) Bool.false_ne_true
  | byt i =>
    obtain ⟨t, rfl⟩ := rx
    cases y with
    | byt j => obtain ⟨t', rfl⟩ := ry; exact PySem.W.eq_bytes (fin_bl I q dec_byt)
    | _ => exact absurd (show false = true from hs) Bool.false_ne_true
  | _ => cases y <;> exact absurd (show false = true from hs) Bool.false_ne_true
theorem op_ne : OpR X (compareOp .NotEq) rNe := by
  intro pins s σ H x y v u Q I rx ry h
  obtain ⟨hs, q⟩ := h
  cases x with
  | non =>
    cases rx
    cases y with
    | non => cases ry; exact PySem.EqNone.ne_none_none (fin_bl I q (by simp))
    | bl j => cases ry; exact PySem.EqNone.ne_none_bool (fin_bl I q (by simp))
    | int j => obtain ⟨t', rfl⟩ := ry; exact PySem.EqNone.ne_none_int (fin_bl I q (by simp))
    | str j => obtain ⟨t', rfl⟩ := ry; exact PySem.EqNone.ne_none_str (fin_bl I q (by simp))
    | _ => exact absurd (show false = true from hs) Bool.false_ne_true
  | bl i =>
    cases rx
    cases y with
    | non => cases ry; exact PySem.EqNone.ne_bool_none (fin_bl I q (by simp))
    | bl j => cases ry; exact ne_bool (fin_bl I q (congrArg not dec_bl))
    | str j => obtain ⟨t', rfl⟩ := ry; exact PySem.EqMixed.ne_bool_str (fin_bl I q (by simp))
    | _ => exact absurd (show false = true from hs) Bool.false_ne_true
  | int i =>
    obtain ⟨t, rfl⟩ := rx
    cases y with
    | non => cases ry; exact PySem.EqNone.ne_int_none (fin_bl I q (by simp))
    | int j => obtain ⟨t', rfl⟩ := ry; exact ne_int (fin_bl I q (congrArg not dec_int))
    | str j => obtain ⟨t', rfl⟩ := ry; exact PySem.EqMixed.ne_int_str (fin_bl I q (by simp))
    | _ => exact absurd (show false = true from hs) Bool.false_ne_true
  | str i =>
    obtain ⟨t, rfl⟩ := rx
    cases y with
    | non => cases ry; exact PySem.EqNone.ne_str_none (fin_bl I q (by simp))
    | bl j => cases ry; exact PySem.EqMixed.ne_str_bool (fin_bl I q (by simp))
    | int j => obtain ⟨t', rfl⟩ := ry; exact PySem.EqMixed.ne_str_int (fin_bl I q (by simp))
    | str j => obtain ⟨t', rfl⟩ := ry; exact ne_str (fin_bl I q (congrArg not dec_str))
    | _ => exact absurd (show false = true from hs) Bool.false_ne_true
  | byt i =>
    obtain ⟨t, rfl⟩ := rx
    cases y with
    | byt j => obtain ⟨t', rfl⟩ := ry; exact PySem.W.ne_bytes (fin_bl I q (congrArg not dec_byt))
    | _ => exact absurd (show false = true from hs) Bool.false_ne_true
  | _ => cases y <;> exact absurd (show false = true from hs) Bool.false_ne_true
theorem op_lt : OpR X (compareOp .Lt) (rI0 fun i j => .bl (decide (i < j))) := opB0 fun _ _ _ _ _ _ _ q => lt_int q
theorem op_le : OpR X (compareOp .LtE) (rI0 fun i j => .bl (decide (i <= j))) := opB0 fun _ _ _ _ _ _ _ q => le_int q
theorem op_gt : OpR X (compareOp .Gt) (rI0 fun i j => .bl (decide (j < i))) := opB0 fun _ _ _ _ _ _ _ q => gt_int q
theorem op_isN : OpR X (compareOp .Is) (fun x y H Q => y = .non /\ Q (.bl (decide (x = .non))) H) := by
  intro pins s σ H x y v u Q I rx ry h
  obtain ⟨rfl, q⟩ := h
  cases ry
  refine is_none_gen (fin_bl I q ?_)
  cases x <;> first
    | (cases rx; rfl)
    | (obtain ⟨t, rfl⟩ := rx; rfl)
theorem op_notN : OpR X (compareOp .IsNot) (fun x y H Q => y = .non /\ Q (.bl (!decide (x = .non))) H) := by
  intro pins s σ H x y v u Q I rx ry h
  obtain ⟨rfl, q⟩ := h
  cases ry
  refine isnot_none_gen (fin_bl I q ?_)
  cases x <;> first
    | (cases rx; rfl)
    | (obtain ⟨t, rfl⟩ := rx; rfl)
theorem OpR.or {f : Value -> Value -> Sem Value} {r r' : R2} (h : OpR X f r) (h' : OpR X f r') : OpR X f (fun x y H Q => r x y H Q ∨ r' x y H Q) := by
  intro pins s σ H x y v u Q I rx ry q
  rcases q with q | q
  · exact h pins s σ H x y v u Q I rx ry q
  · exact h' pins s σ H x y v u Q I rx ry q
theorem nomark (b : Expr) {op : CmpOp} (h : op ≠ .In := by decide) (h2 : op ≠ .NotIn := by decide) : behindInMarks op b = false := by
  have e1 : (op == CmpOp.In) = false := by cases op <;> first | rfl | exact absurd rfl h
  have e2 : (op == CmpOp.NotIn) = false := by cases op <;> first | rfl | exact absurd rfl h2
  cases b <;> simp [behindInMarks, e1, e2]
theorem pe_cmpR {op : CmpOp} {r : R2} (ho : OpR X (compareOp op) r) (ha : PE X a ta) (hb : PE X b tb) (hm : behindInMarks op b = false) : PE X (.Compare a [op] [b] pos) (tOp r ta tb) := by
  intro pins s σ H Q I h
  exact wpAny_Compare1 (binT ha hb I h fun v u s2 x y H2 I2 rx ry q => ho pins s2 σ H2 x y v u Q I2 rx ry q) hm
noncomputable def tTest (t : TE) : TT := fun σ H Q => t σ H fun x H' => ∃ k, x = .bl k /\ Q k H'
theorem pt_cmpR {op : CmpOp} {r : R2} (ho : OpR X (compareOp op) r) (ha : PE X a ta) (hb : PE X b tb) (hm : behindInMarks op b = false) : PT X (.Compare a [op] [b] pos) (tTest (tOp r ta tb)) := by
  intro pins s σ H Q I h
  refine wpAny_isTrue_Compare1 (thn (ha pins s σ H _ I h) fun v s1 ⟨x, H1, I1, r1, q1⟩ => thn (hb pins s1 σ H1 _ I1 q1) fun u s2 ⟨y, H2, I2, r2, q2⟩ =>
    thn (ho pins s2 σ H2 x y v u _ I2 r1 r2 q2) fun c s3 ⟨z, H3, I3, r3, k, e, q3⟩ => ?_) hm
  subst e
  cases r3
  exact wpAny_truthy_bool ⟨H3, I3, q3⟩
noncomputable def TruV (K : PySem.W.Frag) (x : V) (H : Hp) (k : Bool) : Prop :=
  match x with
  | .non => k = false
  | .bl b => k = b
  | .int i => k = (i != 0)
  | .str y => y.length <= sizeLine /\ k = ((y.length : Int) != 0)
  | .byt y => y.size <= sizeLine /\ k = ((y.size : Int) != 0)
  | .ref p => (∃ xs, SqL K H p xs /\ k = !xs.isEmpty) ∨ (∃ xs, SqT K H p xs /\ k = !xs.isEmpty) ∨ ∃ kvs, H p = some (.dK kvs) /\ k = !kvs.isEmpty
  | _ => False
theorem isEmpty_kv {κ : Type} {kvs : List (κ × V)} {vs : List (κ × Value)} (r : KV kvs vs) : (!vs.isEmpty) = !kvs.isEmpty := by
  cases r <;> rfl
theorem isEmpty_of {xs : List V} {its : List Value} (r : Vals xs its) : (!its.toArray.isEmpty) = !xs.isEmpty := by
  cases r <;> simp
theorem line63 : (sizeLine : Nat) < 2 ^ 63 := by rw [sizeLine_eq]; decide
theorem tru_ok : TruR X (fun x H Q => ∃ k, TruV X.K x H k /\ Q k H) := by
  intro pins s σ H x v Q I rx h
  obtain ⟨k, e, q⟩ := h
  have hl := line63
  have hs : sizeLine = 16777216 := sizeLine_eq
  cases x with
  | non =>
    cases rx
    have e' : k = false := e
    subst e'
    exact truthy_none ⟨H, I, q⟩
  | bl b =>
    cases rx
    have e' : k = b := e
    subst e'
    exact wpAny_truthy_bool ⟨H, I, q⟩
  | int i =>
    obtain ⟨t, rfl⟩ := rx
    have e' : k = (i != 0) := e
    subst e'
    exact PySem.P.truthy_int ⟨H, I, q⟩
  | str y =>
    obtain ⟨t, rfl⟩ := rx
    obtain ⟨hy, e'⟩ : y.length <= sizeLine /\ k = ((y.length : Int) != 0) := e
    subst e'
    exact PySem.P.truthy_str (by lia) ⟨H, I.tok _, q⟩
  | byt y =>
    obtain ⟨t, rfl⟩ := rx
    obtain ⟨hy, e'⟩ : y.size <= sizeLine /\ k = ((y.size : Int) != 0) := e
    subst e'
    exact PySem.W.truthy_bytes (by lia) ⟨H, I.tok _, q⟩
  | ref p =>
    cases rx
    have e' : (∃ xs, SqL X.K H p xs /\ k = !xs.isEmpty) ∨ (∃ xs, SqT X.K H p xs /\ k = !xs.isEmpty) ∨ ∃ kvs, H p = some (.dK kvs) /\ k = !kvs.isEmpty := e
    rcases e' with ⟨xs, hx, e'⟩ | ⟨xs, hx, e'⟩ | ⟨kvs, hx, e'⟩
    · subst e'
      obtain ⟨its, r, pl, hz⟩ := I.list hx
      have hlen := r.length
      exact wpAny_truthy_list pl.isList (by simp only [List.size_toArray]; lia) ⟨H, I.tok _, by rw [isEmpty_of r]; exact q⟩
    · subst e'
      obtain ⟨its, r, pl, hz⟩ := I.tuple hx
      have hlen := r.length
      exact truthy_tuple pl (by simp only [List.size_toArray]; lia) ⟨H, I.tok _, by rw [isEmpty_of r]; exact q⟩
    · subst e'
      obtain ⟨hz, hS, vs, r, m⟩ : kvs.length <= sizeLine /\ (p == sysModules) = false /\ ∃ vs, KV kvs vs /\ s.heap.DictOf (mixKind X.prog X.w) p vs := I.hok p _ hx
      have hlen : kvs.length = vs.length := Paired.length r
      exact wpAny_truthy_dict hS m (by lia) ⟨H, I.tok _, by rw [isEmpty_kv r]; exact q⟩
  | _ => exact (show False from e).elim
theorem pt_truth (ha : PE X a ta) (he : ∀ whole, isTrue a X.env whole = (do let v <- whole; standAt a.pos; holding [v] (truthy v))) :
    PT X a (fun σ H Q => ta σ H fun x H' => ∃ k, TruV X.K x H' k /\ Q k H') := by
  intro pins s σ H Q I h
  exact isTrue_plain (thn (ha pins s σ H _ I h) fun v s1 ⟨x, H1, I1, r1, q1⟩ => tru_ok pins s1 σ H1 x v Q I1 r1 q1) (he _)
theorem vals1 {x : V} {us : List Value} (r : Vals [x] us) : ∃ u, us = [u] /\ RelV x u := by
  cases r with
  | cons r1 r2 => cases r2; exact ⟨_, rfl, r1⟩
theorem vals2 {x y : V} {us : List Value} (r : Vals [x, y] us) : ∃ u w', us = [u, w'] /\ RelV x u /\ RelV y w' := by
  cases r with
  | cons r1 r2 =>
    cases r2 with
    | cons r3 r4 => cases r4; exact ⟨_, _, rfl, r1, r3⟩
theorem call_int1 : CallR X (.type "int") (fun xs H Q => (∃ i, xs = [.int i] /\ Q (.int i) H) ∨ ∃ k, xs = [.bl k] /\ Q (.int (if k then 1 else 0)) H) := by
  intro pins s σ H xs us Q I r h
  rcases h with ⟨i, rfl, q⟩ | ⟨k, rfl, q⟩
  · obtain ⟨u, rfl, t, rfl⟩ := vals1 r
    exact call_int_int ⟨.int i, H, I, ⟨_, rfl⟩, q⟩
  · obtain ⟨u, rfl, r1⟩ := vals1 r
    cases r1
    exact call_int_bool ⟨.int (if k then 1 else 0), H, I.tok _, ⟨_, rfl⟩, q⟩
end
end L2
namespace L2
open PySem PySem.Spec PyProof.Rows
structure ObjM (h : Heap) (x dx C : Addr) (mA : Str -> Option Value) : Prop where
  obj : h.get? x = some (PySem.W.instObj C dx)
  ns : h.Ns1 dx mA
  ne : dx ≠ x
theorem lookIn_ns {h : Heap} {dx : Addr} {mA : Str -> Option Value} (n : h.Ns1 dx mA) : ∃ od, h.get? dx = some od /\ ∀ name, PySem.W.lookIn name od = some (mA name) := by
  obtain ⟨o, es, ep, ho, hd, hk, _, hm⟩ := n
  refine ⟨o, ho, fun name => ?_⟩
  have e := hm name
  unfold nsFind findBy at e
  rw [<- Array.find?_toList] at e
  unfold PySem.W.lookIn
  rw [hd]
  dsimp only
  split
  · rename_i y q
    rw [q] at e
    exact congrArg some e
  · rename_i q
    rw [q] at e
    have a : es.toList.any (·.refKey) = false := by
      rw [List.any_eq_false]
      intro y hy
      obtain ⟨z, t, hkey⟩ := hk y (Array.mem_toList_iff.mp hy)
      simp [DictEntry.refKey, hkey]
    have a' : ¬ es.toList.any (·.refKey) = true := by rw [a]; exact Bool.false_ne_true
    rw [if_neg a']
    exact congrArg some e
theorem ObjM.look {h : Heap} {x dx C : Addr} {mA : Str -> Option Value} (I : ObjM h x dx C mA) : ∃ od, PySem.W.InstAt h x (PySem.W.instObj C dx) C (some od) /\ ∀ name, PySem.W.lookIn name od = some (mA name) :=
  let ⟨od, ho, hl⟩ := lookIn_ns I.ns
  ⟨od, ⟨I.obj, rfl, rfl, ho⟩, hl⟩
section
variable {prog : Program} {w : World} {A : Around} {E : Value -> Shared -> Prop} {s : Shared} {K : PySem.W.Frag} {x dx C f : Addr} {mA : Str -> Option Value} {name : Str} {v : Value}
theorem get_map {expr : Bool} {Q : Value -> Shared -> Prop} (X : K.In s.heap) (I : ObjM s.heap x dx C mA) (hg : PySem.W.plainGet K C name = true) (hh : PySem.W.hasDictIn K C = true)
    (ha : PySem.W.findIn K (.ref C) name = some none) (hv : mA name = some v) (hv' : PySem.W.handedIn v = true) (h : Q v { s with toks := s.toks + 1 }) :
    wpAny (model prog w) A (getAttr (.ref x) name expr) Q E s := by
  obtain ⟨od, J, hl⟩ := I.look
  exact PySem.W.get_value X J (PySem.W.plainGet_of hg).1 (PySem.W.findObj_own hh ha rfl (by rw [hl, hv])) hv' h
theorem get_meth {pl : Sem Bool} {Q : Value × List Value -> Shared -> Prop} (X : K.In s.heap) (I : ObjM s.heap x dx C mA) (hg : PySem.W.plainGet K C name = true)
    (hf : PySem.W.findIn K (.ref C) name = some (some (.ref f))) (ht : PySem.W.isFn K (.ref f) = true) (hv : mA name = none) (h : Q (.ref f, [.ref x]) s) :
    wpAny (model prog w) A (getMethod (.ref x) name pl) Q E s := by
  obtain ⟨od, J, hl⟩ := I.look
  exact PySem.W.method_fn X J (PySem.W.plainGet_of hg).1 (PySem.W.plainGet_of hg).2 hf (beq_iff_eq.mp ht) (by show (PySem.W.lookIn name od).map (·.isSome) = some false; rw [hl, hv]; rfl) h
theorem set_map {ns : List Str} {Q : Unit -> Shared -> Prop} (X : K.In s.heap) (I : ObjM s.heap x dx C mA)
    (hs : PySem.W.findIn K (.ref C) "__setattr__" = some (some (.builtin "object.__setattr__"))) (hp : PySem.W.plainOver K C = true) (ht : PySem.W.takerIn K C name = some none) (hh : PySem.W.hasDictIn K C = true)
    (hw : PySem.Within mA ns) (hsz : ns.length <= sizeLine)
    (h : ∀ h', ObjM h' x dx C (fun y => if y = name then some v else mA y) -> Heap.SameBut dx s.heap h' -> Q () { s with heap := h', toks := s.toks + 2 }) :
    wpAny (model prog w) A (setAttr (.ref x) name v) Q E s := by
  obtain ⟨od, J, hl⟩ := I.look
  refine PySem.W.set_plain X J hs (PySem.W.osa_open (s := { s with toks := s.toks + 1 }) (r := none) X J hp ht fun b => ?_)
  obtain ⟨cd, hc, hd'⟩ := PySem.W.any_some hh
  have hx : s.heap.get? x = some ⟨.ref C, some dx, .plain, #[]⟩ := I.obj
  refine wpAny_bind (wpAny_pure (wpAny_bind (wpAny_bind (wpAny_loadPart hx (wpAny_bind (PySem.W.Looks.here (s := { s with toks := s.toks + 1 }) (PySem.W.looks_clsIn X hc) ?_))))))
  rw [hd']
  refine wpAny_pure (a := some dx) (wpAny_bind (wpAny_pure (wpAny_bind ?_)))
  refine wpAny_nsSet1 (s := { s with toks := s.toks + 1 }) I.ns fun h' hn2 hs2 => ?_
  obtain ⟨oD, esD, epD, hoD, hdD, hcD⟩ := hn2.count (PySem.Within.cons name v hw)
  refine wpAny_bind (wpAny_lookBehind hoD (by rw [hdD]; exact pastItsLine_dict (Nat.le_trans hcD (by rw [List.length_cons]; lia))) ?_)
  exact wpAny_pure (h _ ⟨(hs2.2 _ (Ne.symm I.ne)).trans I.obj, hn2, I.ne⟩ hs2)
theorem make_map {R : Result -> Shared -> Prop} {vs : List Value} {kw : List (Str × Value)} (X : K.In s.heap) (hm : PySem.W.makesIn K C = true)
    (hi : PySem.W.findIn K (.ref C) "__init__" = some (some (.ref f))) (hf : PySem.W.typeIn K (.ref f) = some (.type "function"))
    (h : codeAny (model prog w) (A.under (.builtin "type.__call__" ⟨.ref C :: vs, kw⟩)) (.call (.ref f) ⟨.ref (s.heap.objs.size + 1) :: vs, kw⟩) (PySem.W.InitBack (s.heap.objs.size + 1) R)
      { s with heap := (s.heap.push PySem.W.emptyDict).push (PySem.W.instObj C s.heap.objs.size) }) :
    codeAny (model prog w) A (.call (.ref C) ⟨vs, kw⟩) R s := by
  obtain ⟨hh, g, d, t, os⟩ := s
  exact PySem.W.make_core (PySem.W.makes_of X hm) (PySem.W.looks_findIn X hi) (fun self => PySem.W.bind_fn X self hf) (.inl rfl) h
end
noncomputable def putF (f : Str) (v : V) : List (Str × V) -> List (Str × V)
  | [] => [(f, v)]
  | (g, x) :: r => if g = f then (g, v) :: r else (g, x) :: putF f v r
theorem lookup_putF (f g : Str) (v : V) : ∀ fs : List (Str × V), (putF f v fs).lookup g = if g = f then some v else fs.lookup g
  | [] => by
    show List.lookup g [(f, v)] = _
    by_cases h : g = f
    · have hb : (g == f) = true := beq_iff_eq.mpr h
      simp only [List.lookup, hb, if_pos h]
    · have hb : (g == f) = false := beq_eq_false_iff_ne.mpr h
      simp only [List.lookup, hb, if_neg h]
  | (k, x) :: r => by
    have ih := lookup_putF f g v r
    rw [show putF f v ((k, x) :: r) = (if k = f then (k, v) :: r else (k, x) :: putF f v r) from rfl]
    by_cases hk : k = f
    · rw [if_pos hk]
      by_cases h : g = k
      · have hb : (g == k) = true := beq_iff_eq.mpr h
        simp only [List.lookup, hb, if_pos (h.trans hk)]
      · have hb : (g == k) = false := beq_eq_false_iff_ne.mpr h
        simp only [List.lookup, hb, if_neg (fun e : g = f => h (e.trans hk.symm))]
    · rw [if_neg hk]
      by_cases h : g = k
      · have hb : (g == k) = true := beq_iff_eq.mpr h
        simp only [List.lookup, hb, if_neg (fun e : g = f => hk (h.symm.trans e))]
      · have hb : (g == k) = false := beq_eq_false_iff_ne.mpr h
        simp only [List.lookup, hb]
        exact ih
theorem keys_putF (f : Str) (v : V) : ∀ fs : List (Str × V), f ∈ (putF f v fs).map (·.1) /\ ∀ g, g ∈ fs.map (·.1) -> g ∈ (putF f v fs).map (·.1)
  | [] => ⟨by simp [putF], fun g h => by simp at h⟩
  | (k, x) :: r => by
    obtain ⟨i1, i2⟩ := keys_putF f v r
    rw [show putF f v ((k, x) :: r) = (if k = f then (k, v) :: r else (k, x) :: putF f v r) from rfl]
    by_cases hk : k = f
    · rw [if_pos hk]
      subst hk
      exact ⟨by simp, fun g h => by simpa using h⟩
    · rw [if_neg hk]
      refine ⟨?_, fun g h => ?_⟩
      · rw [List.map_cons]
        exact List.mem_cons_of_mem _ i1
      · rw [List.map_cons] at h ⊢
        rcases List.mem_cons.mp h with e | e
        · exact List.mem_cons.mpr (.inl e)
        · exact List.mem_cons_of_mem _ (i2 g e)
theorem length_putF (f : Str) (v : V) : ∀ fs : List (Str × V), (putF f v fs).length <= fs.length + 1
  | [] => by simp [putF]
  | (k, x) :: r => by
    have ih := length_putF f v r
    rw [show putF f v ((k, x) :: r) = (if k = f then (k, v) :: r else (k, x) :: putF f v r) from rfl]
    by_cases hk : k = f
    · rw [if_pos hk, List.length_cons, List.length_cons]; lia
    · rw [if_neg hk, List.length_cons, List.length_cons]; lia
theorem RelO.some_of {v : V} {o : Option Value} (r : RelO (some v) o) : ∃ u, o = some u /\ RelV v u := by
  cases o with
  | none => exact (show False from r).elim
  | some u => exact ⟨u, rfl, r⟩
theorem RelO.none_of {o : Option Value} (r : RelO none o) : o = none := by
  cases o with
  | none => rfl
  | some u => exact (show False from r).elim
theorem handed_of {v : V} {u : Value} (r : RelV v u) : PySem.W.handedIn u = true := by
  cases v with
  | non => cases (show u = Value.none from r); rfl
  | bl b => cases (show u = Value.bool b from r); rfl
  | int i => obtain ⟨t, e⟩ := (show ∃ t, u = Value.int i t from r); cases e; rfl
  | str x => obtain ⟨t, e⟩ := (show ∃ t, u = Value.str x t from r); cases e; rfl
  | byt b => obtain ⟨t, e⟩ := (show ∃ t, u = Value.bytes b t from r); cases e; rfl
  | flt b => obtain ⟨t, e⟩ := (show ∃ t, u = Value.float b t from r); cases e; rfl
  | ref a => cases (show u = Value.ref a from r); rfl
  | ty n => cases (show u = Value.type n from r); rfl
section
variable {P : Program} {w : World} {H H' : Hp} {h h' : Heap} {a C dx : Addr} {fs fs' : List (Str × V)}
theorem ins_get (hok : HOk P w H h) (e : H a = some (.ins C dx fs)) : ∃ mA, ObjM h a dx C mA /\ (∀ f, RelO (fs.lookup f) (mA f)) /\ PySem.Within mA (fs.map (·.1)) /\ fs.length <= 1000 /\ H dx = some (.own a) := by
  obtain ⟨d, z, ne, ob, mA, n, r, q⟩ := (show ObjOk P w H h a (.ins C dx fs) from hok a _ e)
  exact ⟨mA, ⟨ob, n, ne⟩, r, q, z, d⟩
end
structure Cls (K : PySem.W.Frag) (C : Addr) : Prop where
  pg : PySem.W.plainGet K C Str.empty = true
  hd : PySem.W.hasDictIn K C = true
  po : PySem.W.plainOver K C = true
  sa : PySem.W.findIn K (.ref C) "__setattr__" = some (some (.builtin "object.__setattr__"))
theorem Cls.get {K : PySem.W.Frag} {C : Addr} (c : Cls K C) (f : Str) : PySem.W.plainGet K C f = true := c.pg
noncomputable def NoAttr (K : PySem.W.Frag) (C : Addr) (f : Str) : Prop := PySem.W.findIn K (.ref C) f = some none
theorem NoAttr.taker {K : PySem.W.Frag} {C : Addr} {f : Str} (n : NoAttr K C f) : PySem.W.takerIn K C f = some none := by
  unfold PySem.W.takerIn
  rw [show PySem.W.findIn K (.ref C) f = some none from n]
  rfl
structure Meth (K : PySem.W.Frag) (C : Addr) (m : Str) (f : Addr) : Prop where
  at_ : PySem.W.findIn K (.ref C) m = some (some (.ref f))
  fn : PySem.W.isFn K (.ref f) = true
  kp : PySem.W.keepIn K (.ref f) = true
section
variable {X : Cx} {pins : List (Addr × Obj)} {σ : St} {H : Hp} {s : Shared} {a C dx : Addr} {fs : List (Str × V)} {f : Str} {v : V} {A : Around} {E : Value -> Shared -> Prop}
theorem getattr_ok {b : Bool} {Q : Value -> Shared -> Prop} (I : Inv X pins σ H s) (e : H a = some (.ins C dx fs)) (c : Cls X.K C) (n : NoAttr X.K C f) (l : fs.lookup f = some v)
    (h : ∀ u s', Inv X pins σ H s' -> RelV v u -> Q u s') : wpAny (model X.prog X.w) A (getAttr (.ref a) f b) Q E s := by
  obtain ⟨mA, O, r, _, _, _⟩ := ins_get I.hok e
  obtain ⟨u, hu, ru⟩ := RelO.some_of (v := v) (o := mA f) (by rw [<- l]; exact r f)
  exact get_map I.kIn O (c.get f) c.hd n hu (handed_of ru) (h u _ (I.tok _) ru)
theorem getmeth_ok {m : Str} {g : Addr} {pl : Sem Bool} {Q : Value × List Value -> Shared -> Prop} (I : Inv X pins σ H s) (e : H a = some (.ins C dx fs)) (c : Cls X.K C) (k : Meth X.K C m g) (l : fs.lookup m = none)
    (h : Q (.ref g, [.ref a]) s) : wpAny (model X.prog X.w) A (getMethod (.ref a) m pl) Q E s := by
  obtain ⟨mA, O, r, _, _, _⟩ := ins_get I.hok e
  have hn : mA m = none := RelO.none_of (by rw [<- l]; exact r m)
  exact get_meth I.kIn O (c.get m) k.at_ k.fn hn h
theorem setattr_ok {y : V} {u : Value} {Q : Unit -> Shared -> Prop} (I : Inv X pins σ H s) (e : H a = some (.ins C dx fs)) (c : Cls X.K C) (n : NoAttr X.K C f) (hl : fs.length < 1000) (ry : RelV y u)
    (h : ∀ s', Inv X pins σ (upd H a (.ins C dx (putF f y fs))) s' -> Q () s') : wpAny (model X.prog X.w) A (setAttr (.ref a) f u) Q E s := by
  obtain ⟨mA, O, r, wi, _, ho⟩ := ins_get I.hok e
  have hz : (fs.map (·.1)).length <= sizeLine := by rw [List.length_map, sizeLine_eq]; lia
  refine set_map I.kIn O c.sa c.po n.taker c.hd wi hz fun h' O' sb => h _ ?_
  have hd : ∃ o, h'.get? dx = some o := let ⟨o, _, _, e', _⟩ := O'.ns; ⟨o, e'⟩
  refine I.write (x := a) (e := dx) (by rw [e]; exact True.intro) (.inr ho) (fun b q hb z => (sb.2 b hb).trans z) hd ?_
  refine ⟨by rw [upd_ne O.ne]; exact ho, ?_, O.ne, O'.obj, _, O'.ns, fun g => ?_, fun g hg => ?_⟩
  · have := length_putF f y fs; lia
  · show RelO ((putF f y fs).lookup g) (if g = f then some u else mA g)
    rw [lookup_putF]
    by_cases q : g = f
    · rw [if_pos q, if_pos q]; exact ry
    · rw [if_neg q, if_neg q]; exact r g
  · by_cases q : g = f
    · rw [q]; exact (keys_putF f y fs).1
    · refine (keys_putF f y fs).2 g (wi g fun z => hg ?_)
      show (if g = f then some u else mA g) = none
      rw [if_neg q]; exact z
theorem Inv.made (I : Inv X pins σ H s) : Inv X pins σ (upd (upd H s.heap.objs.size (.own (s.heap.objs.size + 1))) (s.heap.objs.size + 1) (.ins C s.heap.objs.size []))
    { s with heap := (s.heap.push PySem.W.emptyDict).push (PySem.W.instObj C s.heap.objs.size) } := by
  have e1 : (s.heap.push PySem.W.emptyDict).get? s.heap.objs.size = some PySem.W.emptyDict := Heap.get?_push_size s.heap rfl
  have e2 : ((s.heap.push PySem.W.emptyDict).push (PySem.W.instObj C s.heap.objs.size)).get? (s.heap.objs.size + 1) = some (PySem.W.instObj C s.heap.objs.size) := by
    have := Heap.get?_push_size (s.heap.push PySem.W.emptyDict) (o := PySem.W.instObj C s.heap.objs.size) rfl
    rwa [Heap.size_push] at this
  have e3 : (s.heap.push PySem.W.emptyDict).Ns s.heap.objs.size (fun _ => none) := ⟨PySem.W.emptyDict, #[], _, e1, rfl, (fun e he => absurd he (by simp)), fun _ => rfl⟩
  have I1 := I.laid (a := s.heap.objs.size) (o := .own (s.heap.objs.size + 1)) (h' := s.heap.push PySem.W.emptyDict) (t' := s.toks) (fun b u q => Heap.get?_push_of_some _ q) (Nat.le_refl _) ⟨_, e1⟩
  refine I1.laid (a := s.heap.objs.size + 1) (o := .ins C s.heap.objs.size []) (t' := s.toks) (fun b u q => Heap.get?_push_of_some _ q) (Nat.le_of_eq (Heap.size_push _ _)) ?_
  have ne : s.heap.objs.size ≠ s.heap.objs.size + 1 := Nat.ne_of_lt (Nat.lt_succ_self _)
  refine ⟨by rw [upd_ne ne, upd_same], Nat.zero_le _, ne, e2, fun _ => none, (Heap.Ns1.of_empty e3).at fun o q => Heap.get?_push_of_some _ q, fun _ => True.intro, fun y hy => absurd rfl hy⟩
theorem attr_of {prog : Program} {w : World} {env : Env} {e : Expr} {f : Str} {pos : Pos} {s : Shared} {Q : Value -> Shared -> Prop} (hb : attributeBase e f env (eval e env) = eval e env)
    (h : wpAny (model prog w) A (eval e env) (fun o s₁ => wpAny (model prog w) A (getAttr o f true) Q E s₁) E s) : wpAny (model prog w) A (eval (.Attribute e f pos) env) Q E s :=
  Attribute_any_ h (by rw [arm_eval_Attribute, hb])
end
noncomputable def tFld (K : PySem.W.Frag) (ta : TE) (f : Str) : TE := fun σ H Q => ta σ H fun x H1 => ∃ a C dx fs v, x = .ref a /\ H1 a = some (.ins C dx fs) /\ Cls K C /\ NoAttr K C f /\ fs.lookup f = some v /\ Q v H1
noncomputable def sFld (K : PySem.W.Frag) (ta tv : TE) (f : Str) : TS := fun D σ H => tv σ H fun y H1 => ta σ H1 fun x H2 => ∃ a C dx fs, x = .ref a /\ H2 a = some (.ins C dx fs) /\ Cls K C /\ NoAttr K C f /\ fs.length < 1000 /\
  D.nx σ (upd H2 a (.ins C dx (putF f y fs)))
section
variable {X : Cx} {o e value : Expr} {f : Str} {pos pos' tpos : Pos} {ta tv : TE}
theorem pe_fld (he : PE X e ta) (hb : attributeBase e f X.env (eval e X.env) = eval e X.env) : PE X (.Attribute e f pos) (tFld X.K ta f) := by
  intro pins s σ H Q I h
  refine attr_of hb (thn (he pins s σ H _ I h) fun u s1 hq1 => ?_)
  obtain ⟨x, H1, I1, rx, a, C, dx, fs, v, ex, ea, c, n, l, q⟩ := hq1
  subst ex
  obtain rfl : u = Value.ref a := rx
  exact getattr_ok I1 ea c n l fun u' s2 I2 ru => ⟨v, H1, I2, ru, q⟩
theorem ps_fld (ha : PE X o ta) (hv : PE X value tv) (hs : swapsWith value (some (.Attribute o f pos')) pos.line X.env = pure false) : PS X (.Assign [.Attribute o f pos'] value pos) (sFld X.K ta tv f) := by
  intro pins s σ H D I h
  refine plainObj_wpAny_Assign_Attribute (thn (hv pins s σ H _ I h) fun u s1 ⟨y, H1, I1, ry, q⟩ => thn (ha pins s1 σ H1 _ I1 q) fun ov s2 hq1 => ?_) hs
  obtain ⟨x, H2, I2, rx, a, C, dx, fs, ex, ea, c, n, l, q2⟩ := hq1
  subst ex
  obtain rfl : ov = Value.ref a := rx
  exact setattr_ok I2 ea c n l ry fun s3 I3 => ⟨σ, _, I3, q2⟩
theorem methcall_of {pl : Sem Bool} {m : Str} {apos : Pos} {args : List Expr} {pins : List (Addr × Obj)} {s : Shared} {σ : St} {H : Hp} {Q : Value -> Shared -> Prop} {te : TE} (he : PE X e te) (I : Inv X pins σ H s)
    (h : te σ H fun x H1 => ∃ a C dx fs g, x = .ref a /\ H1 a = some (.ins C dx fs) /\ Cls X.K C /\ Meth X.K C m g /\ fs.lookup m = none /\
      ∀ s1, Inv X pins σ H1 s1 -> wpAny (model X.prog X.w) X.A (callWith pos (.ref g) [.ref a] (backTo pos (starEach args X.env)) (backToKw pos (keywordEach [] X.env))) Q X.xe s1)
    (ht : eval (.Call (.Attribute e m apos) args [] pos) X.env = (do
      let ov <- eval e X.env
      standAt apos.atName
      let (f, first) <- holding [ov] (getMethod ov m pl)
      callWith pos f first (backTo pos (starEach args X.env)) (backToKw pos (keywordEach [] X.env)))) :
    wpAny (model X.prog X.w) X.A (eval (.Call (.Attribute e m apos) args [] pos) X.env) Q X.xe s := by
  refine PySem.W.methodCall_KW (pl := pl) (thn (he pins s σ H _ I h) fun u s1 hq1 => ?_) ht
  obtain ⟨x, H1, I1, rx, a, C, dx, fs, g, ex, ea, c, k, l, q⟩ := hq1
  subst ex
  obtain rfl : u = Value.ref a := rx
  exact getmeth_ok I1 ea c k l (q s1 I1)
end
section
variable {X : Cx} {pins : List (Addr × Obj)} {σ : St} {H : Hp} {s : Shared} {A : Around} {E : Value -> Shared -> Prop} {Q : Value -> Shared -> Prop} {c : Value} {b : Bool}
inductive TyOf (K : PySem.W.Frag) (H : Hp) : V -> Value -> Prop where
  | non : TyOf K H .non (.type "NoneType")
  | bl (x : Bool) : TyOf K H (.bl x) (.type "bool")
  | int (i : Int) : TyOf K H (.int i) (.type "int")
  | str (x : Str) : TyOf K H (.str x) (.type "str")
  | flt (x : UInt64) : TyOf K H (.flt x) (.type "float")
  | lst {a : Addr} {xs : List V} (e : H a = some (.lst xs)) : TyOf K H (.ref a) (.type "list")
  | frz {a : Addr} {o : Obj} {xs : List V} (e : H a = some (.frz o (.lst xs))) : TyOf K H (.ref a) (.type "list")
  | tup {a : Addr} {xs : List V} (e : H a = some (.tup xs)) : TyOf K H (.ref a) (.type "tuple")
  | dK {a : Addr} {kvs : List (Key × V)} (e : H a = some (.dK kvs)) : TyOf K H (.ref a) (.type "dict")
  | dT {a : Addr} {kvs : List (List Key × V)} (e : H a = some (.dT kvs)) : TyOf K H (.ref a) (.type "dict")
  | ins {a C dx : Addr} {fs : List (Str × V)} (e : H a = some (.ins C dx fs)) (cl : Cls K C) (ha : PySem.W.findIn K (.ref C) "__class__" = some (some (.builtin "object.__class__")))
      (hn : PySem.W.specialIn K (.builtin "object.__class__") "__get__" = some (some (.builtin "getset_descriptor.__get__"))) (htk : PySem.W.takesIn K (.builtin "object.__class__") = some true)
      (hm : PySem.W.mroIn K C (.type "object") = some true) : TyOf K H (.ref a) (.ref C)
theorem isinst_ok {x : V} {u t : Value} (I : Inv X pins σ H s) (rx : RelV x u) (ty : TyOf X.K H x t) (e : PySem.W.kitOne X.K t c = some b) (h : ∀ tk, Q (.bool b) { s with toks := tk }) :
    wpAny (model X.prog X.w) A (call (.builtin "isinstance") [u, c]) Q E s := by
  cases ty with
  | non => cases (show u = Value.none from rx); exact PySem.W.kia_one PySem.W.kitx_none I.kIn True.intro e (fun z => nomatch z) h
  | bl y => cases (show u = Value.bool y from rx); exact PySem.W.kia_one PySem.W.kitx_bool I.kIn True.intro e (fun z => nomatch z) h
  | int i => obtain ⟨t, q⟩ := (show ∃ t, u = Value.int i t from rx); cases q; exact PySem.W.kia_one PySem.W.kitx_int I.kIn True.intro e (fun z => nomatch z) h
  | str y => obtain ⟨t, q⟩ := (show ∃ t, u = Value.str y t from rx); cases q; exact PySem.W.kia_one PySem.W.kitx_str I.kIn True.intro e (fun z => nomatch z) h
  | flt y => obtain ⟨t, q⟩ := (show ∃ t, u = Value.float y t from rx); cases q; exact PySem.W.kia_one PySem.W.kitx_float I.kIn True.intro e (fun z => nomatch z) h
  | @lst a xs ea =>
    cases (show u = Value.ref a from rx)
    obtain ⟨_, _, n, _, h1⟩ := (show ObjOk X.prog X.w H s.heap a (.lst xs) from I.hok a _ ea)
    exact PySem.W.kia_one PySem.W.kitx_list I.kIn ⟨_, h1, rfl⟩ e (fun z => nomatch z) h
  | @frz a ob xs ea =>
    cases (show u = Value.ref a from rx)
    obtain ⟨_, _, _, n, _, h1⟩ := (show ObjOk X.prog X.w H s.heap a (.frz ob (.lst xs)) from I.hok a _ ea)
    exact PySem.W.kia_one PySem.W.kitx_list I.kIn ⟨_, h1, rfl⟩ e (fun z => nomatch z) h
  | @tup a xs ea =>
    cases (show u = Value.ref a from rx)
    obtain ⟨_, _, _, p⟩ := (show ObjOk X.prog X.w H s.heap a (.tup xs) from I.hok a _ ea)
    obtain ⟨o, h1, h2, _⟩ := p
    exact PySem.W.kia_one PySem.W.kitx_tuple I.kIn ⟨o, h1, h2⟩ e (fun z => nomatch z) h
  | @dK a kvs ea =>
    cases (show u = Value.ref a from rx)
    obtain ⟨_, _, vs, _, p⟩ := (show ObjOk X.prog X.w H s.heap a (.dK kvs) from I.hok a _ ea)
    obtain ⟨o, es, ep, h1, h2, _⟩ := p
    exact PySem.W.kia_one PySem.W.kitx_dict I.kIn ⟨o, h1, h2.1⟩ e (fun z => nomatch z) h
  | @dT a kvs ea =>
    cases (show u = Value.ref a from rx)
    obtain ⟨_, _, xs, _, o, es, ep, h1, h2, _⟩ := (show ObjOk X.prog X.w H s.heap a (.dT kvs) from I.hok a _ ea)
    exact PySem.W.kia_one PySem.W.kitx_dict I.kIn ⟨o, h1, h2.1⟩ e (fun z => nomatch z) h
  | @ins a C dx fs ea cl ha hn htk hm =>
    cases (show u = Value.ref a from rx)
    obtain ⟨mA, O, _⟩ := ins_get I.hok ea
    obtain ⟨od, J, _⟩ := O.look
    exact PySem.W.kia_one (PySem.W.kitx_own (cl.get _) cl.hd ha hn htk hm) I.kIn J e (fun z => nomatch z) h
end
end L2
namespace L2
open PySem PySem.Spec PyProof.Rows
structure Room (k : Nat) (A : Around) : Prop where
  hd : A.handled = none
  dp : A.depth + 3 * k + 5 < recursionLimit
  un : A.units + 16 * k + 200 < cLine
theorem Room.mono {j k : Nat} {A : Around} (r : Room k A) (h : j <= k) : Room j A := ⟨r.hd, by have := r.dp; lia, by have := r.un; lia⟩
theorem Room.deeper {k : Nat} {A : Around} (r : Room (k + 1) A) (env : Env) : Room k (A.deeper env) :=
  ⟨r.hd, by have := r.dp; show A.depth + 1 + 3 * k + 5 < _; lia, by have := r.un; show A.units + 3 + 16 * k + 200 < _; lia⟩
theorem make_depth {A : Around} {C : Addr} {us : List Value} {kw : List (Str × Value)} : (A.under (.builtin "type.__call__" ⟨.ref C :: us, kw⟩)).depth = A.depth + 1 := by
  first | rfl | simp [Around.under, Code.weight, Code.isCreation, Code.isGuard, Code.isCaller, Code.frames, Code.isFrame, guardIds]
theorem make_units {A : Around} {C : Addr} {us : List Value} {kw : List (Str × Value)} : (A.under (.builtin "type.__call__" ⟨.ref C :: us, kw⟩)).units = A.units + 1 := by
  first | rfl | simp [Around.under, Code.cUnits, Code.frames, Code.isFrame]
theorem Room.make {k : Nat} {A : Around} (r : Room (k + 1) A) (C : Addr) (us : List Value) (kw : List (Str × Value)) : Room k (A.under (.builtin "type.__call__" ⟨.ref C :: us, kw⟩)) :=
  ⟨r.hd, by have := r.dp; rw [make_depth]; lia, by have := r.un; rw [make_units]; lia⟩
theorem Room.depth {k : Nat} {A : Around} (r : Room k A) : A.depth < recursionLimit := by have := r.dp; lia
noncomputable def tNil : TA := fun _ H Q => Q [] H
noncomputable def tCons (ta : TE) (tr : TA) : TA := fun σ H Q => ta σ H fun x H1 => tr σ H1 fun xs H2 => Q (x :: xs) H2
section
variable {X : Cx} {e : Expr} {es : List Expr} {te : TE} {t : TA} {pos : Pos}
theorem pa_nil : PA X [] tNil := fun _ _ _ _ H Q I h => Calls.spliced_nil ⟨[], H, I, .nil, h⟩
theorem pa_cons (ha : PE X e te) (hr : PA X es t) (hs : starEach (e :: es) X.env = (false, eval e X.env) :: starEach es X.env := by rfl) : PA X (e :: es) (tCons te t) := by
  intro pos pins s σ H Q I h
  rw [hs]
  show wpAny _ _ (spliced ((false, eval e X.env) :: backTo pos (starEach es X.env))) _ _ s
  refine Calls.spliced_cons (thn (ha pins s σ H _ I h) fun u s1 hq1 => ?_)
  obtain ⟨x, H1, I1, r1, q1⟩ := hq1
  exact thn (hr pos pins s1 σ H1 _ I1 q1) fun us s2 ⟨xs, H2, I2, r2, q2⟩ => ⟨x :: xs, H2, I2, .cons r1 r2, q2⟩
noncomputable def tTup (t : TA) : TE := fun σ H Q => t σ H fun xs H1 => xs.length <= sizeLine /\ ∀ p, H1 p = none -> Q (.ref p) (upd H1 p (.tup xs))
noncomputable def tLst (t : TA) : TE := fun σ H Q => t σ H fun xs H1 => xs.length <= sizeLine /\ ∀ p, H1 p = none -> Q (.ref p) (upd H1 p (.lst xs))
theorem pe_tup {x1} (h : PA X es t) : PE X (.Tuple es x1 pos) (tTup t) := by
  intro pins s σ H Q I hq
  refine wpAny_Tuple_spliced (thn (h pos pins s σ H _ I hq) fun us s1 ⟨xs, H1, I1, r, z, q⟩ => ⟨by rw [<- r.length]; exact z, ?_⟩)
  have hf : H1 s1.heap.objs.size = none := I1.hok.fresh (Nat.le_refl _)
  refine ⟨.ref s1.heap.objs.size, upd H1 s1.heap.objs.size (.tup xs), I1.laid (t' := s1.toks) (fun b u e => Heap.get?_push_of_some _ e) (Nat.le_refl _) ?_, rfl, q _ hf⟩
  exact ⟨z, us, r, ⟨_, Heap.get?_push_size _ rfl, rfl, _, rfl⟩⟩
theorem pe_lst (h : PA X es t) : PE X (.List es pos) (tLst t) := by
  intro pins s σ H Q I hq
  refine wpAny_List_spliced (thn (h pos pins s σ H _ I hq) fun us s1 ⟨xs, H1, I1, r, z, q⟩ => ⟨by rw [<- r.length]; exact z, ?_⟩)
  have hf : H1 s1.heap.objs.size = none := I1.hok.fresh (Nat.le_refl _)
  refine ⟨.ref s1.heap.objs.size, upd H1 s1.heap.objs.size (.lst xs), I1.laid (t' := s1.toks) (fun b u e => Heap.get?_push_of_some _ e) (Nat.le_refl _) ?_, rfl, q _ hf⟩
  exact ⟨z, us, 0, r, Heap.get?_push_size _ rfl⟩
end
noncomputable abbrev Sp := List V -> Hp -> VK -> XK -> Prop
noncomputable abbrev CXT := List Env -> Hp -> Shared -> XK -> Value -> Shared -> Prop
structure Env0 (P : Program) (w : World) (K : PySem.W.Frag) (mg : Str -> Option Value) (base : Heap) (A : Around) (outer : List Env) (s : Shared) (H : Hp) : Prop where
  frames : A.frames = some outer
  mod : Mod K mg base
  bs : ∀ b o, base.get? b = some o -> s.heap.get? b = some o /\ H b = none
  bsz : base.objs.size <= s.heap.objs.size
  funs : s.heap.FunFrames base outer
  frf : ∀ b ∈ frs outer, H b = none
  hok : HOk P w H s.heap
  bare : AllBare s.gens
noncomputable def CE (outer : List Env) (P : Program) (w : World) (H : Hp) (s : Shared) (Q : VK) (u : Value) (s' : Shared) : Prop :=
  ∃ v H', s'.os = s.os /\ AllBare s'.gens /\ Un (frs outer) [] H H' s.heap s'.heap /\ HOk P w H' s'.heap /\ RelV v u /\ Q v H'
noncomputable def CR (CX : CXT) (outer : List Env) (P : Program) (w : World) (H : Hp) (s : Shared) (Q : VK) (E : XK) (r : Result) (s' : Shared) : Prop :=
  match r with
  | .ok (.ret u) => CE outer P w H s Q u s'
  | .ok _ => False
  | .error e => CX outer H s E e s'
structure FnOk (P : Program) (w : World) (K : PySem.W.Frag) (mg : Str -> Option Value) (base : Heap) (CX : CXT) (k : Nat) (f : Addr) (fd : FuncData) (ps : List Str) (sp : Sp) : Prop where
  len : ∀ vs H Q E, sp vs H Q E -> vs.length = ps.length
  run : ∀ (A : Around) (outer : List Env) (s : Shared) (H : Hp) (args : Args) (us : List Value) (vs : List V) (Q : VK) (E : XK), Room k A -> Env0 P w K mg base A outer s H -> BindsTo s fd args (ps.zip us) -> Vals vs us -> sp vs H Q E ->
    codeAny (model P w) A (.call (.ref f) args) (CR CX outer P w H s Q E) s
theorem Env0.make {P : Program} {w : World} {K : PySem.W.Frag} {mg : Str -> Option Value} {base : Heap} {A : Around} {outer : List Env} {s : Shared} {H : Hp} (e : Env0 P w K mg base A outer s H) (C : Addr) (us : List Value) (kw : List (Str × Value)) :
    Env0 P w K mg base (A.under (.builtin "type.__call__" ⟨.ref C :: us, kw⟩)) outer s H := ⟨by first | exact e.frames | (simpa [Around.under, Code.envs, Code.isFrame, pushEnvs] using e.frames), e.mod, e.bs, e.bsz, e.funs, e.frf, e.hok, e.bare⟩
section
variable {X : Cx} {pins : List (Addr × Obj)} {σ : St} {H : Hp} {s s' : Shared}
theorem Inv.env0 (I : Inv X pins σ H s) : Env0 X.prog X.w X.K X.mg X.base X.A X.stack s H :=
  ⟨I.ok.frames, I.ok.mod, I.bs, Nat.le_trans I.ok.bsz I.sz, I.stack, I.stkFree, I.hok, I.bare⟩
theorem Inv.after {Q : VK} {u : Value} (I : Inv X pins σ H s) (h : CE X.stack X.prog X.w H s Q u s') : EP X pins σ Q u s' := by
  obtain ⟨v, H', os, bare, un, hok, r, q⟩ := h
  obtain ⟨hh, g, d, t, os'⟩ := s'
  obtain rfl : os' = s.os := os
  exact ⟨v, H', I.call (h' := hh) (g' := g) (d' := d) (t' := t) (ch := []) un hok bare (fun b z => absurd z (by simp)), r, q⟩
end
noncomputable def tCall (sp : Sp) (dvs : List V) (E : XK) (t : TA) : TE := fun σ H Q => t σ H fun vs H1 => sp (vs ++ dvs) H1 Q E
noncomputable def tMeth (C : Addr) (m : Str) (sp : Sp) (dvs : List V) (E : XK) (ta : TE) (t : TA) : TE := fun σ H Q => ta σ H fun x H1 => ∃ a dx fs, x = .ref a /\ H1 a = some (.ins C dx fs) /\ fs.lookup m = none /\
  t σ H1 fun vs H2 => sp (x :: (vs ++ dvs)) H2 Q E
noncomputable def tMake (C : Addr) (sp : Sp) (dvs : List V) (E : XK) (t : TA) : TE := fun σ H Q => t σ H fun vs H1 => ∀ x dx, H1 x = none -> H1 dx = none -> dx ≠ x ->
  sp (.ref x :: (vs ++ dvs)) (upd (upd H1 dx (.own x)) x (.ins C dx [])) (fun v H2 => v = .non /\ Q (.ref x) H2) E
noncomputable def Binds (K : PySem.W.Frag) (fd : FuncData) (ps : List Str) (ds : List Value) : Prop :=
  ∀ (s : Shared) (us : List Value), K.In s.heap -> (us ++ ds).length = ps.length -> BindsTo s fd ⟨us, []⟩ (ps.zip (us ++ ds))
theorem Binds.all {K : PySem.W.Frag} {fd : FuncData} {ps : List Str} (h : ∀ us : List Value, us.length = ps.length -> bindArgs fd ⟨us, []⟩ = pure (ps.zip us)) : Binds K fd ps [] := fun s us _ hl => by
  rw [List.append_nil] at hl ⊢
  exact .of_eq (h us hl)
noncomputable def Passes (CX : CXT) (X : Cx) (E : XK) : Prop := ∀ (pins : List (Addr × Obj)) (σ : St) (H : Hp) (s : Shared) (e : Value) (s' : Shared), Inv X pins σ H s -> CX X.stack H s E e s' -> X.xe e s'
section
variable {X : Cx} {CX : CXT} {k : Nat} {f C : Addr} {fd : FuncData} {ps : List Str} {sp : Sp} {dvs : List V} {ds : List Value} {E : XK} {x m : Str} {p pos apos : Pos} {e o : Expr} {es : List Expr} {ta : TE} {t : TA}
theorem run_fn {pins : List (Addr × Obj)} {σ : St} {H : Hp} {s : Shared} {Q : VK} {us : List Value} {vs : List V} (F : FnOk X.prog X.w X.K X.mg X.base CX k f fd ps sp) (hr : Room k X.A) (hb : Binds X.K fd ps ds) (hd : Vals dvs ds) (hx : Passes CX X E)
    (I : Inv X pins σ H s) (r : Vals vs us) (h : sp (vs ++ dvs) H Q E) : wpAny (model X.prog X.w) X.A (call (.ref f) us) (EP X pins σ Q) X.xe s := by
  have r2 : Vals (vs ++ dvs) (us ++ ds) := r.append hd
  have hl : (us ++ ds).length = ps.length := by rw [<- r2.length]; exact F.len _ _ _ _ h
  refine wpAny_call (codeAny_mono (F.run X.A X.stack s H ⟨us, []⟩ (us ++ ds) (vs ++ dvs) Q E hr I.env0 (hb s us I.kIn hl) r2 h) fun r s' hq => ?_)
  cases r with
  | error e => exact hx pins σ H s e s' I hq
  | ok fl =>
    cases fl with
    | ret u => exact I.after hq
    | next => exact False.elim hq
    | brk => exact False.elim hq
    | cont => exact False.elim hq
theorem pe_call (F : FnOk X.prog X.w X.K X.mg X.base CX k f fd ps sp) (hr : Room k X.A) (hg : Gl X x) (hm : X.mg x = some (.ref f)) (hk : PySem.W.keepIn X.K (.ref f) = true) (hb : Binds X.K fd ps ds) (hd : Vals dvs ds) (hx : Passes CX X E)
    (ha : PA X (e :: es) t) (hdb : (x == ("__debug__" : Str)) = false := by decide) (he : starEach (e :: es) X.env = (false, eval e X.env) :: starEach es X.env := by rfl) (hpl : (backTo pos (starEach es X.env)).any (·.1) = false := by rfl) :
    PE X (.Call (.Name x p) (e :: es) [] pos) (tCall sp dvs E t) := by
  intro pins s σ H Q I h
  refine wpAny_Call_Name_kw (ld_glob I hg hm ?_ hdb)
  refine PySem.W.callWith_K (h₀ := X.base) I.ok.mod.kin hk (thn (ha pos pins s σ H _ I h) fun us s1 ⟨vs, H1, I1, r, q⟩ => ⟨I1.kIn, ?_⟩) he hpl
  exact run_fn F hr hb hd hx I1 r q
theorem pe_meth {pl : Sem Bool} (he : PE X o ta) (c : Cls X.K C) (hm : Meth X.K C m f) (F : FnOk X.prog X.w X.K X.mg X.base CX k f fd ps sp) (hr : Room k X.A) (hb : Binds X.K fd ps ds) (hd : Vals dvs ds) (hx : Passes CX X E) (ha : PA X (e :: es) t)
    (hst : starEach (e :: es) X.env = (false, eval e X.env) :: starEach es X.env := by rfl) (hpl : (backTo pos (starEach es X.env)).any (·.1) = false := by rfl)
    (ht : eval (.Call (.Attribute o m apos) (e :: es) [] pos) X.env = (do
      let ov <- eval o X.env
      standAt apos.atName
      let (f, first) <- holding [ov] (getMethod ov m pl)
      callWith pos f first (backTo pos (starEach (e :: es) X.env)) (backToKw pos (keywordEach [] X.env))) := by rfl) :
    PE X (.Call (.Attribute o m apos) (e :: es) [] pos) (tMeth C m sp dvs E ta t) := by
  intro pins s σ H Q I h
  refine PySem.W.methodCall_KW (pl := pl) (thn (he pins s σ H _ I h) fun u s1 hq1 => ?_) ht
  obtain ⟨x, H1, I1, rx, a, dx, fs, ex, ea, l, q⟩ := hq1
  subst ex
  obtain rfl : u = Value.ref a := rx
  refine getmeth_ok I1 ea c hm l ?_
  refine PySem.W.callWith_K (first := [.ref a]) (h₀ := X.base) I.ok.mod.kin hm.kp (thn (ha pos pins s1 σ H1 _ I1 q) fun us s2 ⟨vs, H2, I2, r, q2⟩ => ⟨I2.kIn, ?_⟩) hst hpl
  exact run_fn (us := .ref a :: us) (vs := .ref a :: vs) F hr hb hd hx I2 (.cons rfl r) q2
theorem pe_meth0 {pl : Sem Bool} (he : PE X o ta) (c : Cls X.K C) (hm : Meth X.K C m f) (F : FnOk X.prog X.w X.K X.mg X.base CX k f fd ps sp) (hr : Room k X.A) (hb : Binds X.K fd ps ds) (hd : Vals dvs ds) (hx : Passes CX X E)
    (ht : eval (.Call (.Attribute o m apos) [] [] pos) X.env = (do
      let ov <- eval o X.env
      standAt apos.atName
      let (f, first) <- holding [ov] (getMethod ov m pl)
      callWith pos f first (backTo pos (starEach [] X.env)) (backToKw pos (keywordEach [] X.env))) := by rfl) :
    PE X (.Call (.Attribute o m apos) [] [] pos) (tMeth C m sp dvs E ta tNil) := by
  intro pins s σ H Q I h
  refine PySem.W.methodCall_KW (pl := pl) (thn (he pins s σ H _ I h) fun u s1 hq1 => ?_) ht
  obtain ⟨x, H1, I1, rx, a, dx, fs, ex, ea, l, q⟩ := hq1
  subst ex
  obtain rfl : u = Value.ref a := rx
  refine getmeth_ok I1 ea c hm l ?_
  exact PySem.W.callWith_K0 (first := [.ref a]) I1.kIn hm.kp (run_fn (us := [.ref a]) (vs := [.ref a]) F hr hb hd hx I1 (.cons rfl .nil) q)
structure Mk (K : PySem.W.Frag) (C f : Addr) : Prop where
  makes : PySem.W.makesIn K C = true
  init : PySem.W.findIn K (.ref C) "__init__" = some (some (.ref f))
  fn : PySem.W.isFn K (.ref f) = true
  kp : PySem.W.keepIn K (.ref C) = true
theorem run_make {pins : List (Addr × Obj)} {σ : St} {H : Hp} {s : Shared} {Q : VK} {us : List Value} {vs : List V} (M : Mk X.K C f) (F : FnOk X.prog X.w X.K X.mg X.base CX k f fd ps sp) (hr : Room (k + 1) X.A) (hb : Binds X.K fd ps ds) (hd : Vals dvs ds)
    (hx : Passes CX X E) (I : Inv X pins σ H s) (r : Vals vs us)
    (h : ∀ x dx, H x = none -> H dx = none -> dx ≠ x -> sp (.ref x :: (vs ++ dvs)) (upd (upd H dx (.own x)) x (.ins C dx [])) (fun v H2 => v = .non /\ Q (.ref x) H2) E) :
    wpAny (model X.prog X.w) X.A (call (.ref C) us) (EP X pins σ Q) X.xe s := by
  have hq := h (s.heap.objs.size + 1) s.heap.objs.size (I.hok.fresh (Nat.le_succ _)) (I.hok.fresh (Nat.le_refl _)) (Nat.ne_of_lt (Nat.lt_succ_self _))
  have I2 := Inv.made (C := C) I
  have r2 : Vals (V.ref (s.heap.objs.size + 1) :: (vs ++ dvs)) (Value.ref (s.heap.objs.size + 1) :: (us ++ ds)) := .cons rfl (r.append hd)
  have hl : (Value.ref (s.heap.objs.size + 1) :: us ++ ds).length = ps.length := by
    have e := r2.length
    rw [F.len _ _ _ _ hq] at e
    exact e.symm
  refine wpAny_call (make_map (f := f) I.kIn M.makes M.init (beq_iff_eq.mp M.fn) (codeAny_mono (F.run _ X.stack _ _ ⟨Value.ref (s.heap.objs.size + 1) :: us, []⟩ (Value.ref (s.heap.objs.size + 1) :: (us ++ ds)) _ _ E (hr.make C us [])
    (I2.env0.make C us []) (hb _ (Value.ref (s.heap.objs.size + 1) :: us) I2.kIn hl) r2 hq) fun r s' hq' => ?_))
  cases r with
  | error e => exact hx pins σ _ _ e s' I2 hq'
  | ok fl =>
    cases fl with
    | ret u =>
      obtain ⟨v, H', I3, rv, ev, q3⟩ := I2.after hq'
      subst ev
      exact ⟨rv, ⟨V.ref (s.heap.objs.size + 1), H', I3, rfl, q3⟩⟩
    | next => exact False.elim hq'
    | brk => exact False.elim hq'
    | cont => exact False.elim hq'
theorem pe_make (M : Mk X.K C f) (F : FnOk X.prog X.w X.K X.mg X.base CX k f fd ps sp) (hr : Room (k + 1) X.A) (hg : Gl X x) (hm : X.mg x = some (.ref C)) (hb : Binds X.K fd ps ds) (hd : Vals dvs ds) (hx : Passes CX X E)
    (ha : PA X (e :: es) t) (hdb : (x == ("__debug__" : Str)) = false := by decide) (he : starEach (e :: es) X.env = (false, eval e X.env) :: starEach es X.env := by rfl) (hpl : (backTo pos (starEach es X.env)).any (·.1) = false := by rfl) :
    PE X (.Call (.Name x p) (e :: es) [] pos) (tMake C sp dvs E t) := by
  intro pins s σ H Q I h
  refine wpAny_Call_Name_kw (ld_glob I hg hm ?_ hdb)
  refine PySem.W.callWith_K (h₀ := X.base) I.ok.mod.kin M.kp (thn (ha pos pins s σ H _ I h) fun us s1 ⟨vs, H1, I1, r, q⟩ => ⟨I1.kIn, ?_⟩) he hpl
  exact run_make M F hr hb hd hx I1 r q
end
section
variable {X : Cx} {CX : CXT} {k : Nat} {f C : Addr} {fd : FuncData} {ps ks : List Str} {sp : Sp} {E : XK} {x m : Str} {p pos apos kpos : Pos} {e o : Expr} {es : List Expr} {kws : List Keyword} {te ta : TE} {t tk : TA} {nm : Option Str}
variable {g : List Value -> List Value -> List Value} {gV : List V -> List V -> List V}
end
structure FnScope (N P : List Str) (sc : Scope) : Prop where
  kind : sc.kind = .function
  co : sc.isCoroutine = false
  gen : sc.isGenerator = false
  nd : N.Nodup
  pre : N.take P.length = P
  par : ∀ x ∈ P, sc.names.lookup x = some .local ∨ sc.names.lookup x = some .cell
  nofree : ∀ y ∈ sc.names, y.2 ≠ .free
theorem bindL_out {kindOf : Str -> Option NameKind} {x : Str} : ∀ {binds : List (Str × Value)} {m : Str -> Option Value}, (∀ v, (x, v) ∉ binds) -> bindL kindOf binds m x = m x
  | [], _, _ => rfl
  | (n, v) :: r, m, h => by
    unfold bindL
    rw [bindL_out fun w hw => h w (List.mem_cons_of_mem _ hw)]
    split
    · have : x ≠ n := by rintro rfl; exact h v List.mem_cons_self
      simp [this]
    · rfl
theorem bindC_out {kindOf : Str -> Option NameKind} {x : Str} : ∀ {binds : List (Str × Value)} {m : Str -> Option Value}, (∀ v, (x, v) ∉ binds) -> bindC kindOf binds m x = m x
  | [], _, _ => rfl
  | (n, v) :: r, m, h => by
    unfold bindC
    rw [bindC_out fun w hw => h w (List.mem_cons_of_mem _ hw)]
    split
    · rfl
    · have : x ≠ n := by rintro rfl; exact h v List.mem_cons_self
      simp [this]
theorem bindL_get {kindOf : Str -> Option NameKind} {x : Str} {v : Value} : ∀ {P : List Str} {vs : List Value} {i : Nat} {m : Str -> Option Value}, P.Nodup -> P[i]? = some x -> vs[i]? = some v -> kindOf x = some .local ->
    bindL kindOf (P.zip vs) m x = some v
  | [], _, _, _, _, h, _, _ => by simp at h
  | _ :: _, [], _, _, _, _, h, _ => by simp at h
  | p :: P, w :: vs, 0, m, nd, h1, h2, hk => by
    simp at h1 h2; subst h1; subst h2
    show bindL kindOf ((p, w) :: P.zip vs) m p = _
    unfold bindL
    rw [bindL_out fun v hv => (List.nodup_cons.mp nd).1 (List.of_mem_zip hv).1, if_pos hk]
    simp
  | p :: P, w :: vs, i + 1, m, nd, h1, h2, hk => by
    show bindL kindOf ((p, w) :: P.zip vs) m x = _
    unfold bindL
    exact bindL_get (i := i) (List.nodup_cons.mp nd).2 (by simpa using h1) (by simpa using h2) hk
theorem bindC_get {kindOf : Str -> Option NameKind} {x : Str} {v : Value} : ∀ {P : List Str} {vs : List Value} {i : Nat} {m : Str -> Option Value}, P.Nodup -> P[i]? = some x -> vs[i]? = some v -> kindOf x ≠ some .local ->
    bindC kindOf (P.zip vs) m x = some v
  | [], _, _, _, _, h, _, _ => by simp at h
  | _ :: _, [], _, _, _, _, h, _ => by simp at h
  | p :: P, w :: vs, 0, m, nd, h1, h2, hk => by
    simp at h1 h2; subst h1; subst h2
    show bindC kindOf ((p, w) :: P.zip vs) m p = _
    unfold bindC
    rw [bindC_out fun v hv => (List.nodup_cons.mp nd).1 (List.of_mem_zip hv).1, if_neg hk]
    simp
  | p :: P, w :: vs, i + 1, m, nd, h1, h2, hk => by
    show bindC kindOf ((p, w) :: P.zip vs) m x = _
    unfold bindC
    exact bindC_get (i := i) (List.nodup_cons.mp nd).2 (by simpa using h1) (by simpa using h2) hk
noncomputable def start (N : List Str) (vs : List V) : St := vs.map some ++ List.replicate (N.length - vs.length) none
noncomputable def cxOf (CX : CXT) (P : Program) (w : World) (K : PySem.W.Frag) (mg : Str -> Option Value) (base : Heap) (N : List Str) (qual : Str) (scope : Scope) (f : Addr) (cd : Value) (A : Around) (outer : List Env) (s : Shared) (H : Hp) (E : XK) : Cx where
  prog := P
  w := w
  K := K
  mg := mg
  base := base
  A := A.deeper (envOfC qual scope s.heap.objs.size f cd)
  N := N
  s₀ := s
  H₀ := H
  env := envOfC qual scope s.heap.objs.size f cd
  outer := outer
  stack := envOfC qual scope s.heap.objs.size f cd :: outer
  ex := []
  calm := true
  fn := fun _ => true
  pn := []
  xe := fun e s' => wpAny (model P w) (A.deeper (envOfC qual scope s.heap.objs.size f cd)) (leaving (envOfC qual scope s.heap.objs.size f cd) e) (fun _ s'' => CX outer H s E e s'') (fun e' s'' => CX outer H s E e' s'') s'
theorem cell_has {sc : Scope} {n : Nat} {x : Str} (h : sc.names.lookup x = some .cell) : ∃ c, (cellsFrom n sc.names []).lookup x = some c := by
  have q := PySem.W.cellsFrom_some sc.names n [] (.inl h)
  exact Option.isSome_iff_exists.mp q
theorem inv_start {CX : CXT} {P : Program} {w : World} {K : PySem.W.Frag} {mg : Str -> Option Value} {base : Heap} {N ps : List Str} {qual : Str} {scope : Scope} {f : Addr} {cd : Value} {A : Around} {outer : List Env} {s s1 : Shared} {H : Hp} {E : XK} {us : List Value} {vs : List V}
    (S : FnScope N ps scope) (hd : A.handled = none) (e0 : Env0 P w K mg base A outer s H) (hl : vs.length = ps.length) (r : Vals vs us)
    (x : InCallC s s.heap.objs.size (bindL (envOfC qual scope s.heap.objs.size f cd).kindOf (ps.zip us) fun _ => none) (cellsFrom (s.heap.objs.size + 1) scope.names []) (bindC (envOfC qual scope s.heap.objs.size f cd).kindOf (ps.zip us) fun _ => none) s1) :
    Inv (cxOf CX P w K mg base N qual scope f cd A outer s H E) [] (start N vs) H s1 := by
  have hpl : ps.length <= N.length := by have := congrArg List.length S.pre; rw [List.length_take] at this; lia
  obtain ⟨h1, tk, rfl, hk⟩ := x.done
  have noA : ∀ b : Addr, b ∉ (cxOf CX P w K mg base N qual scope f cd A outer s H E).ex := fun b z => absurd (show b ∈ ([] : List Addr) from z) (by simp)
  refine ⟨⟨e0.mod, S.kind, rfl, rfl, Nat.le_refl _, fun y z c h1 h2 => ?_, fun y hy => ?_, fun y c _ h => ?_, fun _ => hd, Around.frames_deeper e0.frames, .inr ⟨rfl, rfl⟩, fun b z => absurd z (noA b), e0.bs, e0.bsz, fun b _ _ => noA b, fun b z => absurd z (noA b), e0.funs, e0.frf⟩,
    rfl, e0.bare, Un.kept hk, ⟨_, x.toInCall.ns, fun i y v h1 h2 h3 => ?_⟩, fun y c h => ⟨_, x.cell y c h⟩, e0.hok.fresh (Nat.le_refl _), fun y c h => ?_, fun p hp => absurd (show p ∈ ([] : List (Addr × Obj)) from hp) (by simp), e0.hok.kept hk, ?_⟩
  · exact name_of_addr x.apart (PySem.mem_of_lookup h1) (PySem.mem_of_lookup h2)
  · have hy : scope.names.lookup y = some .cell ∨ scope.names.lookup y = some .free := hy
    rcases hy with hy | hy
    · exact cell_has hy
    · exact absurd rfl (S.nofree _ (PySem.mem_of_lookup hy))
  · exact Nat.le_of_lt (x.above y c (PySem.mem_of_lookup h))
  · have hi : i < vs.length := by
      unfold start at h2
      by_cases hi : i < vs.length
      · exact hi
      · rw [List.getElem?_append_right (by simpa using hi)] at h2
        rw [List.getElem?_replicate] at h2
        split at h2 <;> cases h2
    have ha : vs[i]? = some v := by
      unfold start at h2
      rw [List.getElem?_append_left (by simpa using hi), List.getElem?_map] at h2
      cases e : vs[i]? with
      | none => rw [e] at h2; cases h2
      | some a => rw [e] at h2; cases h2; rfl
    obtain ⟨u, hu, rv⟩ := r.get ha
    have hp : ps[i]? = some y := by
      rw [<- S.pre, List.getElem?_take_of_lt (by lia)]; exact h1
    have ndP : ps.Nodup := by rw [<- S.pre]; exact S.nd.sublist (List.take_sublist _ _)
    refine ⟨u, rv, ?_⟩
    rcases S.par y (List.mem_of_getElem? hp) with k | k
    · exact .inl ⟨k, bindL_get ndP hp hu k⟩
    · obtain ⟨c, e⟩ := cell_has (n := s.heap.objs.size + 1) k
      refine .inr ⟨.inl k, c, e, ?_⟩
      have q := x.cell y c e
      rw [bindC_get ndP hp hu (by show scope.names.lookup y ≠ _; rw [k]; decide)] at q
      exact q
  · exact e0.hok.fresh (Nat.le_of_lt (x.above y c (PySem.mem_of_lookup h)))
  · unfold start
    show _ = N.length
    rw [List.length_append, List.length_map, List.length_replicate]
    lia
theorem fn_of {CX : CXT} {P : Program} {w : World} {K : PySem.W.Frag} {mg : Str -> Option Value} {base : Heap} {k : Nat} {f : Addr} {name qual : Str} {params : Arguments} {body : List Stmt} {scope : Scope} {dV kV doc pm cdv ct oc : Value} {an od : Option Addr}
    {osl : Array (Option Value)} {N ps : List Str} {sp : Sp} (lk : K.lookup f = some ⟨oc, od, .func (PySem.W.fnOf name qual params body scope dV kV doc pm an cdv ct), osl⟩) (hcd : PySem.W.codeIn K cdv qual = true) (S : FnScope N ps scope)
    (len : ∀ vs H Q E, sp vs H Q E -> vs.length = ps.length)
    (hbody : ∀ (A : Around) (outer : List Env) (s : Shared) (H : Hp) (vs : List V) (Q : VK) (E : XK), Room k (A.deeper (envOfC qual scope s.heap.objs.size f cdv)) -> sp vs H Q E ->
      ∃ t, PSs (cxOf CX P w K mg base N qual scope f cdv A outer s H E) body t /\ t { nx := fun _ H' => Q .non H', rt := Q } (start N vs) H) :
    FnOk P w K mg base CX (k + 1) f (PySem.W.fnOf name qual params body scope dV kV doc pm an cdv ct) ps sp := by
  refine ⟨len, fun A outer s H args us vs Q E hr e0 hb r hsp => ?_⟩
  have hl := len _ _ _ _ hsp
  have KX : K.In s.heap := e0.mod.kin.keeps fun b o e => (e0.bs b o e).1
  have lim : s.heap.NoLimit := e0.mod.nolimit.keeps fun b o e => (e0.bs b o e).1
  have hkind : ∀ y ∈ ps.zip us, scope.names.lookup y.1 = some .local ∨ (scope.names.lookup y.1 = some .cell /\ ((cellsFrom (s.heap.objs.size + 1) scope.names []).lookup y.1).isSome = true) := fun ⟨n, v⟩ hy => by
    rcases S.par n (List.of_mem_zip hy).1 with q | q
    · exact .inl q
    · exact .inr ⟨q, PySem.W.cellsFrom_some _ _ _ (.inl q)⟩
  refine codeAny_call_function hr.depth (KX _ _ lk) rfl S.co S.gen rfl (PySem.W.codeRec_of KX hcd) (hb _ _ _ _ ?_)
  refine wpAny_newFunctionEnv_cells S.kind hkind fun env he s1 x => ?_
  subst he
  refine ⟨lim.keeps x.toInCall.keep, codeAny_func ?_⟩
  obtain ⟨t, ht, hq⟩ := hbody A outer s H vs Q E (hr.deeper _) hsp
  have I : Inv (cxOf CX P w K mg base N qual scope f cdv A outer s H E) [] (start N vs) H s1 := inv_start S hr.hd e0 hl r x
  refine wpAny_mono (ht [] s1 (start N vs) H _ I hq) (fun fl s' hs => ?_) fun e s' hs => hs
  have fin : ∀ {σ' : St} {H' : Hp} {v : V} {u : Value}, Inv (cxOf CX P w K mg base N qual scope f cdv A outer s H E) [] σ' H' s' -> RelV v u -> Q v H' -> CE outer P w H s Q u s' :=
    fun {σ' H' v u} J rv q => ⟨v, H', J.os, J.bare, J.base, J.hok, rv, q⟩
  cases fl with
  | ret u =>
    obtain ⟨v, σ', H', J, rv, q⟩ := hs
    exact fin J rv q
  | next =>
    obtain ⟨σ', H', J, q⟩ := hs
    exact fin (v := V.non) (u := Value.none) J rfl q
  | brk =>
    obtain ⟨_, _, _, q⟩ := hs
    exact False.elim q
  | cont =>
    obtain ⟨_, _, _, q⟩ := hs
    exact False.elim q
end L2
namespace L2
open PySem PySem.Spec PyProof.Rows
section
variable {X : Cx} {x : Str} {p pos : Pos} {e : Expr} {es : List Expr} {t : TA} {id T : String} {r : List V -> Hp -> VK -> Prop}
noncomputable def tCB (r : List V -> Hp -> VK -> Prop) (t : TA) : TE := fun σ H Q => t σ H fun vs H1 => r vs H1 Q
theorem pe_callB (hc : CallR X (.builtin id) r) (hg : Gl X x) (hm : X.mg x = none) (hv : bootBuiltins x = some (.builtin id)) (ha : PA X (e :: es) t) (hn : x ≠ "__name__" := by decide) (hdb : (x == ("__debug__" : Str)) = false := by decide)
    (he : starEach (e :: es) X.env = (false, eval e X.env) :: starEach es X.env := by rfl) (hpl : (backTo pos (starEach es X.env)).any (·.1) = false := by rfl) : PE X (.Call (.Name x p) (e :: es) [] pos) (tCB r t) := by
  intro pins s σ H Q I h
  refine wpAny_Call_Name_kw (ld_blt I hg hm hv ?_ hn hdb)
  exact PyProof.Rows.callWith_builtin1 (thn (ha pos pins s σ H _ I h) fun us s1 ⟨vs, H1, I1, r1, q1⟩ => hc pins s1 σ H1 vs us Q I1 r1 q1) he hpl
theorem pe_callTy (hc : CallR X (.type T) r) (hg : Gl X x) (hm : X.mg x = none) (hv : bootBuiltins x = some (.type T)) (ha : PA X (e :: es) t) (hn : x ≠ "__name__" := by decide) (hdb : (x == ("__debug__" : Str)) = false := by decide)
    (he : starEach (e :: es) X.env = (false, eval e X.env) :: starEach es X.env := by rfl) (hpl : (backTo pos (starEach es X.env)).any (·.1) = false := by rfl) : PE X (.Call (.Name x p) (e :: es) [] pos) (tCB r t) := by
  intro pins s σ H Q I h
  refine wpAny_Call_Name_kw (ld_blt I hg hm hv ?_ hn hdb)
  exact PyProof.Rows.callWith_type1 (thn (ha pos pins s σ H _ I h) fun us s1 ⟨vs, H1, I1, r1, q1⟩ => hc pins s1 σ H1 vs us Q I1 r1 q1) he hpl
end
end L2
namespace HT
open PySem PyProof.Rows
section
open PySem.SeqAt
open PySem.AutoSeq1 (wpAny_loadPart')
open PySem.MeetsSeq PySem.MeetsSeq2 PySem.MeetsSeq3
end
section
variable {prog : Program} {w : World} {A : Around} {E : Value -> Shared -> Prop} {s : Shared}
noncomputable def sIx (n d : Nat) : Option Int -> Nat
  | none => d
  | some v => if v < 0 then (v + (n : Int)).toNat else min v.toNat n
end
end HT
namespace L2
open PySem PySem.Spec PyProof.Rows
noncomputable abbrev TO := St -> Hp -> (Option Int -> Hp -> Prop) -> Prop
noncomputable def PO (X : Cx) (e : Option Expr) (t : TO) : Prop :=
  ∀ (pins : List (Addr × Obj)) (s : Shared) (σ : St) (H : Hp) (Q : Option Int -> Hp -> Prop), Inv X pins σ H s -> t σ H Q ->
    wpAny (model X.prog X.w) X.A (evalPart e X.env) (fun u s' => ∃ o H', Inv X pins σ H' s' /\ IsPart u o /\ Q o H') X.xe s
noncomputable def tNoPart : TO := fun _ H Q => Q none H
noncomputable def tPart (t : TE) : TO := fun σ H Q => t σ H fun x H1 => ∃ i, x = .int i /\ Q (some i) H1
theorem intsAre_of {ns : List Int} : ∀ {us : List Value}, Vals (ns.map V.int) us -> IntsAre us ns := by
  induction ns with
  | nil => intro us r; rw [List.map_nil] at r; cases r; exact .nil
  | cons n ns ih =>
    intro us r
    rw [List.map_cons] at r
    cases r with
    | cons r1 r2 =>
      obtain ⟨t, e⟩ := r1
      subst e
      exact .cons n t (ih r2)
section
variable {X : Cx} {e : Expr} {te : TE} {lo hi : Option Expr} {tl th : TO} {pos p2 : Pos}
theorem po_none : PO X none tNoPart := by
  intro pins s σ H Q I h
  rw [evalPart_none]
  exact wpAny_pure ⟨none, H, I, .none, h⟩
theorem po_some (h : PE X e te) : PO X (some e) (tPart te) := by
  intro pins s σ H Q I hw
  rw [evalPart_some]
  refine thn (h pins s σ H _ I hw) fun u s1 hq1 => ?_
  obtain ⟨x, H1, I1, r1, q1⟩ := hq1
  obtain ⟨i, rfl, q⟩ := q1
  obtain ⟨t, rfl⟩ := r1
  exact ⟨some i, H1, I1, .int i t, q⟩
noncomputable def SlR (X : Cx) (r : V -> Option Int -> Option Int -> Hp -> VK -> Prop) : Prop :=
  ∀ (pins : List (Addr × Obj)) (s : Shared) (σ : St) (H : Hp) (x : V) (v vl vu : Value) (lo hi : Option Int) (sl : Addr) (Q : VK), Inv X pins σ H s -> RelV x v -> s.heap.IsSliceOf sl vl vu .none -> IsPart vl lo -> IsPart vu hi -> r x lo hi H Q ->
    ∃ T id, typeLookup (.type T) "__getitem__" = pure (some (.builtin id)) /\ s.TypeIs v T /\ wpAny (model X.prog X.w) X.A (getItem v (.ref sl)) (EP X pins σ Q) X.xe s
noncomputable def tSl (r : V -> Option Int -> Option Int -> Hp -> VK -> Prop) (te : TE) (tl th : TO) : TE := fun σ H Q => te σ H fun x H1 => tl σ H1 fun l H2 => th σ H2 fun u H3 => r x l u H3 Q
theorem pe_slice {r : V -> Option Int -> Option Int -> Hp -> VK -> Prop} (hr : SlR X r) (he : PE X e te) (hl : PO X lo tl) (hu : PO X hi th) : PE X (.Subscript e (.Slice lo hi none p2) pos) (tSl r te tl th) := by
  intro pins s σ H Q I h
  refine Subscript_ (thn (he pins s σ H _ I h) fun v s1 hq1 => ?_)
  obtain ⟨x, H1, I1, r1, q1⟩ := hq1
  refine wpAny_Slice (thn (hl pins s1 σ H1 _ I1 q1) fun vl s2 ⟨l, H2, I2, pl, q2⟩ => thn (hu pins s2 σ H2 _ I2 q2) fun vu s3 hq2 => ?_)
  obtain ⟨u, H3, I3, pu, q3⟩ := hq2
  rw [evalPart_none]
  refine wpAny_pure ?_
  have I4 : Inv X pins σ H3 { s3 with heap := s3.heap.push { cls := .type "slice", data := .fields #[vl, vu, .none] } } := I3.kept (t' := s3.toks) fun b ob q => Heap.get?_push_of_some _ q
  obtain ⟨T, id, hT, ht, hg⟩ := hr pins { s3 with heap := s3.heap.push { cls := .type "slice", data := .fields #[vl, vu, .none] } } σ H3 x v vl vu l u s3.heap.objs.size Q I4 r1 (Heap.IsSliceOf.new ..) pl pu q3
  show wpAny (model X.prog X.w) X.A (subscriptTail e (.Slice lo hi none p2) v (.ref s3.heap.objs.size)) (EP X pins σ Q) X.xe { s3 with heap := s3.heap.push { cls := .type "slice", data := .fields #[vl, vu, .none] } }
  exact tail_any (ops := [.ref s3.heap.objs.size, v]) ht hT hg (by with_unfolding_all rfl)
noncomputable def cutV (xs : List V) (lo hi : Option Int) : List V := (xs.drop (HT.sIx xs.length 0 lo)).take (HT.sIx xs.length xs.length hi - HT.sIx xs.length 0 lo)
theorem cutV_length (xs : List V) (lo hi : Option Int) : (cutV xs lo hi).length <= xs.length := by
  unfold cutV
  rw [List.length_take, List.length_drop]
  lia
end
end L2
namespace L2
open PySem PySem.Spec PyProof.Rows
noncomputable def ixN (n : Nat) (i : Int) : Option Nat := if 0 <= i then (if i < n then some i.toNat else none) else if -(n : Int) <= i then some (i + n).toNat else none
noncomputable def atI {α : Type} (xs : List α) (i : Int) : Option α := (ixN xs.length i).bind fun j => xs[j]?
theorem ixN_seq {n : Nat} {i : Int} {j : Nat} (h : ixN n i = some j) : seqIndex? i n = some j /\ j < n /\ -(n : Int) <= i /\ i < n := by
  unfold ixN at h
  by_cases h0 : 0 <= i
  · rw [if_pos h0] at h
    by_cases h1 : i < n
    · rw [if_pos h1] at h
      have e : i.toNat = j := Option.some.inj h
      exact ⟨by rw [seqIndex_of h0 h1, e], by lia, by lia, h1⟩
    · rw [if_neg h1] at h; cases h
  · rw [if_neg h0] at h
    by_cases h1 : -(n : Int) <= i
    · rw [if_pos h1] at h
      have e : (i + n).toNat = j := Option.some.inj h
      exact ⟨by rw [seqIndex_neg (by lia) h1, e], by lia, h1, by lia⟩
    · rw [if_neg h1] at h; cases h
theorem atI_get {α : Type} {xs : List α} {i : Int} {v : α} (h : atI xs i = some v) : ∃ j, seqIndex? i xs.length = some j /\ xs[j]? = some v /\ j < xs.length /\ -(xs.length : Int) <= i /\ i < xs.length := by
  unfold atI at h
  cases e : ixN xs.length i with
  | none => rw [e] at h; cases h
  | some j =>
    rw [e] at h
    obtain ⟨h1, h2, h3, h4⟩ := ixN_seq e
    exact ⟨j, h1, h, h2, h3, h4⟩
theorem atI_nat {α : Type} {xs : List α} {j : Nat} {v : α} (h : xs[j]? = some v) : atI xs (j : Int) = some v := by
  have hj : j < xs.length := (List.getElem?_eq_some_iff.mp h).1
  have e : ixN xs.length (j : Int) = some j := by
    unfold ixN
    rw [if_pos (by lia), if_pos (by lia)]; simp
  unfold atI; rw [e]; exact h
noncomputable def PlainIx (b : Expr) : Prop := ∀ o i, subscripted b false o i = operate [o, i] (getItem o i)
noncomputable def IxR (X : Cx) (r : R2) : Prop :=
  ∀ (value slice : Expr) (pins : List (Addr × Obj)) (s : Shared) (σ : St) (H : Hp) (x y : V) (v u : Value) (Q : VK), Inv X pins σ H s -> RelV x v -> RelV y u -> r x y H Q ->
    subscripted slice false v u = operate [v, u] (getItem v u) -> wpAny (model X.prog X.w) X.A (subscriptTail value slice v u) (EP X pins σ Q) X.xe s
noncomputable def MtR (X : Cx) (id : String) (r : V -> List V -> Hp -> VK -> Prop) : Prop :=
  ∀ (pins : List (Addr × Obj)) (s : Shared) (σ : St) (H : Hp) (x : V) (xs : List V) (v : Value) (us : List Value) (Q : VK), Inv X pins σ H s -> RelV x v -> Vals xs us -> r x xs H Q ->
    wpAny (model X.prog X.w) X.A (call (.builtin id) (v :: us)) (EP X pins σ Q) X.xe s
section
variable {X : Cx} {a b : Expr} {ta tb : TE} {pos : Pos}
theorem IxR.or {r r' : R2} (h : IxR X r) (h' : IxR X r') : IxR X (fun x y H Q => r x y H Q ∨ r' x y H Q) := by
  intro value slice pins s σ H x y v u Q I rx ry q hs
  rcases q with q | q
  · exact h value slice pins s σ H x y v u Q I rx ry q hs
  · exact h' value slice pins s σ H x y v u Q I rx ry q hs
theorem pe_ix {r : R2} (hr : IxR X r) (ha : PE X a ta) (hb : PE X b tb) (hs : PlainIx b) : PE X (.Subscript a b pos) (tOp r ta tb) := by
  intro pins s σ H Q I h
  exact Subscript_ (binT ha hb I h fun v u s2 x y H2 I2 rx ry q => hr a b pins s2 σ H2 x y v u Q I2 rx ry q (hs _ _))
noncomputable def rIxL (K : PySem.W.Frag) : R2 := fun x y H Q => ∃ p xs i v, x = .ref p /\ y = .int i /\ SqL K H p xs /\ atI xs i = some v /\ Q v H
noncomputable def rIxT (K : PySem.W.Frag) : R2 := fun x y H Q => ∃ p xs i v, x = .ref p /\ y = .int i /\ SqT K H p xs /\ atI xs i = some v /\ Q v H
noncomputable def rIxS : R2 := fun x y H Q => ∃ z i c, x = .str z /\ y = .int i /\ z.length <= sizeLine /\ atI z.cps.toList i = some c /\ Q (.str ⟨#[c]⟩) H
theorem ix_list : IxR X (rIxL X.K) := by
  intro value slice pins s σ H x y v u Q I rx ry h hs
  obtain ⟨p, xs, i, z, rfl, rfl, hq, he, q⟩ := h
  cases rx
  obtain ⟨t, rfl⟩ := ry
  obtain ⟨its, r, pl, hz⟩ := I.list hq
  obtain ⟨j, h1, h2, h3, h4, h5⟩ := atI_get he
  obtain ⟨w, ew, rw'⟩ := r.get h2
  have hl := r.length
  have hn := line63
  have fin : EP X pins σ Q w s := ⟨z, H, I, rw', q⟩
  by_cases h0 : 0 <= i
  · have hj : i.toNat = j := by
      rw [seqIndex_of h0 h5] at h1
      exact Option.some.inj h1
    exact item_listR pl.isList h0 (by lia) (by rw [hj]; simpa using ew) fin hs
  · have hj : (i + (its.toArray.size : Int)).toNat = j := by
      rw [seqIndex_neg (by lia) h4] at h1
      rw [List.size_toArray, <- hl]
      exact Option.some.inj h1
    exact subscriptTail_builtinR (x := w) pl.isList.typeIs slot_list_getitem.lookup
      (wpAny_getItem_list_neg (Q := fun r s' => r = w /\ EP X pins σ Q r s') pl.isList (by lia) (by rw [List.size_toArray] <;> lia) (by lia) (by rw [hj]; simpa using ew) ⟨rfl, fin⟩) hs
theorem ix_tup : IxR X (rIxT X.K) := by
  intro value slice pins s σ H x y v u Q I rx ry h hs
  obtain ⟨p, xs, i, z, rfl, rfl, hq, he, q⟩ := h
  cases rx
  obtain ⟨t, rfl⟩ := ry
  obtain ⟨its, r, pl, hz⟩ := I.tuple hq
  obtain ⟨j, h1, h2, h3, h4, h5⟩ := atI_get he
  obtain ⟨w, ew, rw'⟩ := r.get h2
  have hl := r.length
  have hn := line63
  have fin : EP X pins σ Q w s := ⟨z, H, I, rw', q⟩
  exact subscriptTail_builtinR (x := w) pl.typeIs slot_tuple_getitem.lookup
    (getItem_tuple (j := j) (Q := fun r s' => r = w /\ EP X pins σ Q r s') pl (by lia) (by lia) (by rw [List.size_toArray, <- hl]; exact h1) (by simpa using ew) ⟨rfl, fin⟩) hs
theorem ix_str : IxR X rIxS := by
  intro value slice pins s σ H x y v u Q I rx ry h hs
  obtain ⟨z, i, c, rfl, rfl, hz, he, q⟩ := h
  obtain ⟨t, rfl⟩ := rx
  obtain ⟨t', rfl⟩ := ry
  obtain ⟨j, h1, h2, h3, h4, h5⟩ := atI_get he
  have hl : z.cps.toList.length = z.length := by simp [Str.length]
  rw [hl] at h1 h4 h5
  have hn := line63
  exact tail_any (typeIs_str s z t) slot_str_getitem.lookup (getItem_str (c := c) (by
    have e1 : decide (i < -(2 ^ 63 : Int)) = false := decide_eq_false (by lia)
    have e2 : decide (i >= 2 ^ 63) = false := decide_eq_false (by lia)
    rw [e1, e2, Bool.or_false]) (by rw [h1]; simpa using h2) ⟨.str ⟨#[c]⟩, H, I.tok _, ⟨_, rfl⟩, q⟩) hs
noncomputable def rIx (K : PySem.W.Frag) : R2 := fun x y H Q => rIxL K x y H Q ∨ rIxT K x y H Q ∨ rIxS x y H Q
theorem ix_seq : IxR X (rIx X.K) := ix_list.or (ix_tup.or ix_str)
theorem mapSeq_set (its : List Value) (n j : Nat) (u : Value) : Obj.mapSeq (·.setIfInBounds j u) { cls := .type "list", data := .seq its.toArray n } = { cls := .type "list", data := .seq (its.set j u).toArray n } := by
  simp [Obj.mapSeq]
theorem Inv.lst {pins : List (Addr × Obj)} {σ : St} {H : Hp} {s : Shared} {p : Addr} {xs : List V} (I : Inv X pins σ H s) (h : H p = some (.lst xs)) :
    ∃ (its : List Value) (n : Nat), Vals xs its /\ s.heap.get? p = some { cls := .type "list", data := .seq its.toArray n } /\ xs.length <= sizeLine := by
  obtain ⟨z, its, n, r, e⟩ := I.hok p _ h
  exact ⟨its, n, r, e, z⟩
theorem Inv.lstUpd {pins : List (Addr × Obj)} {σ : St} {H : Hp} {s : Shared} {p : Addr} {xs ys : List V} {its its' : List Value} {n n' : Nat} {f : Obj -> Obj} (I : Inv X pins σ H s) (h : H p = some (.lst xs))
    (ho : s.heap.get? p = some { cls := .type "list", data := .seq its.toArray n }) (hf : f { cls := .type "list", data := .seq its.toArray n } = { cls := .type "list", data := .seq its'.toArray n' }) (r : Vals ys its') (hz : ys.length <= sizeLine) (t : Nat) :
    Inv X pins σ (upd H p (.lst ys)) { s with heap := s.heap.update p f, toks := t } := by
  have e : (s.heap.update p f).get? p = some { cls := .type "list", data := .seq its'.toArray n' } := by
    rw [Heap.get?_update_self f ho (by rw [hf] <;> rfl), hf]
  refine I.write (x := p) (e := p) (by rw [h]; trivial) (.inl rfl) (fun b u hb q => (Heap.get?_update_other _ _ (Ne.symm hb)).trans q) ⟨_, e⟩ ?_
  exact ⟨hz, its', n', r, e⟩
noncomputable def rSetL : V -> V -> V -> Hp -> (Hp -> Prop) -> Prop := fun o i v H Q => ∃ p xs k j, o = .ref p /\ i = .int k /\ H p = some (.lst xs) /\ ixN xs.length k = some j /\ Q (upd H p (.lst (xs.set j v)))
theorem set_list : PSet X rSetL := by
  intro pins s σ H o i v ov iv u Q I ro ri rv h
  obtain ⟨p, xs, k, j, rfl, rfl, hp, hj, q⟩ := h
  cases ro
  obtain ⟨t, rfl⟩ := ri
  obtain ⟨its, n, r, ho, hz⟩ := I.lst hp
  obtain ⟨h1, h2, h3, h4⟩ := ixN_seq hj
  have hl := r.length
  have hn := line63
  have I' : Inv X pins σ (upd H p (.lst (xs.set j v))) { s with heap := s.heap.update p (Obj.mapSeq (·.setIfInBounds j u)) } :=
    I.lstUpd hp ho (mapSeq_set its n j u) (r.set rv j) (by rw [List.length_set]; exact hz) s.toks
  by_cases h0 : 0 <= k
  · have hk : k.toNat = j := by
      rw [seqIndex_of h0 h4] at h1
      exact Option.some.inj h1
    exact PySem.W.ki_setAt ho h0 (by lia) (by rw [List.size_toArray, <- hl]; exact h4) (by rw [hk]; exact ⟨_, I', q⟩)
  · have hk : (k + (its.toArray.size : Int)).toNat = j := by
      rw [seqIndex_neg (by lia) h3] at h1
      rw [List.size_toArray, <- hl]
      exact Option.some.inj h1
    exact PySem.W.ki_setBack ho (by lia) (by rw [List.size_toArray, <- hl]; exact h3) (by lia) (by rw [hk]; exact ⟨_, I', q⟩)
theorem slice_bounds (lo hi : Option Int) (n : Nat) : (sliceBounds lo hi none n).1 = ((HT.sIx n 0 lo : Nat) : Int) /\ (sliceBounds lo hi none n).2.1 = ((HT.sIx n n hi : Nat) : Int) /\ (sliceBounds lo hi none n).2.2 = 1 := by
  refine ⟨?_, ?_, rfl⟩
  · cases lo with
    | none => simp [sliceBounds, HT.sIx]
    | some i =>
      simp only [sliceBounds, HT.sIx, Option.getD_none, show (1 : Int) > 0 by decide, if_true]
      by_cases h : i < 0
      · simp only [h, if_true] <;> lia
      · simp only [h, if_false] <;> lia
  · cases hi with
    | none => simp [sliceBounds, HT.sIx]
    | some i =>
      simp only [sliceBounds, HT.sIx, Option.getD_none, show (1 : Int) > 0 by decide, if_true]
      by_cases h : i < 0
      · simp only [h, if_true] <;> lia
      · simp only [h, if_false] <;> lia
theorem slicePick_cut (its : List Value) (lo hi : Option Int) : slicePick its.toArray lo hi none = ((its.drop (HT.sIx its.length 0 lo)).take (HT.sIx its.length its.length hi - HT.sIx its.length 0 lo)).toArray := by
  obtain ⟨h1, h2, h3⟩ := slice_bounds lo hi its.toArray.size
  unfold slicePick
  rw [h1, h2, h3]
  simp only [sliceRange_one, pick_run, List.size_toArray] <;> rfl
noncomputable def rSlL (K : PySem.W.Frag) : V -> Option Int -> Option Int -> Hp -> VK -> Prop := fun x lo hi H Q => ∃ a xs, x = .ref a /\ SqL K H a xs /\ ∀ p, H p = none -> Q (.ref p) (upd H p (.lst (cutV xs lo hi)))
theorem sl_list : SlR X (rSlL X.K) := by
  intro pins s σ H x v vl vu lo hi sl Q I rx hs pl pu h
  obtain ⟨a, xs, rfl, hx, q⟩ := h
  cases rx
  obtain ⟨its, r, ht, hz⟩ := I.list hx
  have hlen := r.length
  refine ⟨"list", _, slot_list_getitem.lookup, ht.isList.typeIs, ?_⟩
  refine wpAny_getItem_list_slice ht.isList hs pl pu .none (by simp) ?_ (by rw [List.size_toArray] <;> lia)
  rw [slicePick_cut, <- hlen]
  refine ⟨.ref s.heap.objs.size, _, I.laid (t' := s.toks) (o := .lst (cutV xs lo hi)) (fun b ob q => Heap.get?_push_of_some _ q) (Nat.le_refl _) ?_, rfl, q _ (I.hok.fresh (Nat.le_refl _))⟩
  exact ⟨Nat.le_trans (cutV_length xs lo hi) hz, _, 0, (r.drop (HT.sIx xs.length 0 lo)).take (HT.sIx xs.length xs.length hi - HT.sIx xs.length 0 lo), Heap.get?_push_size _ rfl⟩
noncomputable def flatV : V -> Bool
  | .non => true
  | .bl _ => true
  | .int _ => true
  | .str _ => true
  | _ => false
noncomputable def eqV : V -> V -> Bool
  | .non, .non => true
  | .bl a, .bl b => a == b
  | .bl a, .int b => (if a then 1 else 0) == b
  | .int a, .bl b => a == (if b then 1 else 0)
  | .int a, .int b => a == b
  | .str a, .str b => a == b
  | _, _ => false
theorem eqAt_V {A : Around} {s : Shared} {y x : V} {u v : Value} (ry : RelV y u) (rx : RelV x v) (fy : flatV y = true) (fx : flatV x = true) : SeqAt.EqAt A s u v (eqV y x) := by
  cases y with
  | non =>
    cases ry
    cases x with
    | non => cases rx; exact SeqAt.EqAt.same _
    | bl b => cases rx; exact SeqAt.EqAt.none_bool b
    | int b => obtain ⟨t, rfl⟩ := rx; exact SeqAt.EqAt.none_int b t
    | str b => obtain ⟨t, rfl⟩ := rx; exact SeqAt.EqAt.none_str b t
    | _ => exact absurd (show false = true from fx) Bool.false_ne_true
  | bl a =>
    cases ry
    cases x with
    | non => cases rx; exact SeqAt.EqAt.bool_none a
    | bl b => cases rx; exact SeqAt.EqAt.bool_bool a b
    | int b => obtain ⟨t, rfl⟩ := rx; exact SeqAt.EqAt.bool_int a b t
    | str b => obtain ⟨t, rfl⟩ := rx; exact SeqAt.EqAt.bool_str a b t
    | _ => exact absurd (show false = true from fx) Bool.false_ne_true
  | int a =>
    obtain ⟨t', rfl⟩ := ry
    cases x with
    | non => cases rx; exact SeqAt.EqAt.int_none a t'
    | bl b => cases rx; exact SeqAt.EqAt.int_bool a t' b
    | int b => obtain ⟨t, rfl⟩ := rx; exact SeqAt.EqAt.int_int a t' b t
    | str b => obtain ⟨t, rfl⟩ := rx; exact SeqAt.EqAt.int_str a t' b t
    | _ => exact absurd (show false = true from fx) Bool.false_ne_true
  | str a =>
    obtain ⟨t', rfl⟩ := ry
    cases x with
    | non => cases rx; exact SeqAt.EqAt.str_none a t'
    | bl b => cases rx; exact SeqAt.EqAt.str_bool a t' b
    | int b => obtain ⟨t, rfl⟩ := rx; exact SeqAt.EqAt.str_int a t' b t
    | str b => obtain ⟨t, rfl⟩ := rx; exact SeqAt.EqAt.str_str a t' b t
    | _ => exact absurd (show false = true from fx) Bool.false_ne_true
  | _ => exact absurd (show false = true from fy) Bool.false_ne_true
noncomputable def eqU (x : V) (u : Value) : Bool := match u with
  | .none => eqV .non x
  | .bool b => eqV (.bl b) x
  | .int i _ => eqV (.int i) x
  | .str z _ => eqV (.str z) x
  | _ => false
theorem eqU_of {x y : V} {u : Value} (r : RelV y u) (f : flatV y = true) : eqU x u = eqV y x := by
  cases y with
  | non => cases r; rfl
  | bl b => cases r; rfl
  | int i => obtain ⟨t, rfl⟩ := r; rfl
  | str z => obtain ⟨t, rfl⟩ := r; rfl
  | _ => exact absurd (show false = true from f) Bool.false_ne_true
theorem any_eqU {x : V} : ∀ {xs : List V} {us : List Value}, Vals xs us -> xs.all flatV = true -> us.any (eqU x) = xs.any fun y => eqV y x := by
  intro xs us h
  induction h with
  | nil => intro _; rfl
  | cons r t ih =>
    intro f
    rw [List.all_cons, Bool.and_eq_true] at f
    rw [List.any_cons, List.any_cons, eqU_of r f.1, ih f.2]
theorem mem_eqAt {A : Around} {s : Shared} {x : V} {v : Value} (rx : RelV x v) (fx : flatV x = true) : ∀ {xs : List V} {us : List Value}, Vals xs us -> xs.all flatV = true -> ∀ u ∈ us, SeqAt.EqAt A s u v (eqU x u) := by
  intro xs us h
  induction h with
  | nil => intro _ u hu; cases hu
  | cons r t ih =>
    intro f u' hu
    rw [List.all_cons, Bool.and_eq_true] at f
    rcases List.mem_cons.mp hu with rfl | hu
    · rw [eqU_of r f.1]; exact eqAt_V r rx f.1 fx
    · exact ih f.2 u' hu
noncomputable def inV (x : V) (xs : List V) : Bool := xs.any fun y => eqV y x
noncomputable def rIn (K : PySem.W.Frag) (neg : Bool) : R2 := fun x y H Q => ∃ p xs, y = .ref p /\ (SqL K H p xs ∨ SqT K H p xs) /\ flatV x = true /\ xs.all flatV = true /\ Q (.bl (if neg then !inV x xs else inV x xs)) H
theorem op_notIn_seq : OpR X (compareOp .NotIn) (rIn X.K true) := by
  intro pins s σ H x y v u Q I rx ry h
  obtain ⟨p, xs, rfl, hq, fx, fs, q⟩ := h
  cases ry
  rcases hq with hq | hq
  · obtain ⟨its, r, pl, hz⟩ := I.list hq
    refine SeqAt.notIn_listAt (eqU x) pl.isList (fun w hw => mem_eqAt rx fx r fs w (by simpa using hw)) ⟨.bl _, H, I, rfl, ?_⟩
    rw [show its.toArray.any (eqU x) = its.any (eqU x) by simp, any_eqU r fs]
    exact q
  · obtain ⟨its, r, pl, hz⟩ := I.tuple hq
    refine SeqAt.notIn_tupleAt (eqU x) pl (fun w hw => mem_eqAt rx fx r fs w (by simpa using hw)) ⟨.bl _, H, I, rfl, ?_⟩
    rw [show its.toArray.any (eqU x) = its.any (eqU x) by simp, any_eqU r fs]
    exact q
theorem call_len_seq : CallR X (.builtin "len") (fun xs H Q => ∃ p ys, xs = [.ref p] /\ (SqL X.K H p ys ∨ SqT X.K H p ys) /\ Q (.int ys.length) H) := by
  intro pins s σ H xs us Q I r h
  obtain ⟨p, ys, rfl, hq, q⟩ := h
  obtain ⟨u, rfl, rx⟩ := vals1 r
  cases rx
  have hn := line63
  rcases hq with hq | hq
  · obtain ⟨its, r', pl, hz⟩ := I.list hq
    have hlen := r'.length
    exact Calls.call_len_list pl.isList (by simp only [List.size_toArray] <;> lia) ⟨.int ys.length, H, I.tok _, ⟨s.toks + 1, by rw [List.size_toArray, hlen]⟩, q⟩
  · obtain ⟨its, r', pl, hz⟩ := I.tuple hq
    have hlen := r'.length
    exact len_tuple pl (by simp only [List.size_toArray] <;> lia) ⟨.int ys.length, H, I.tok _, ⟨s.toks + 1, by rw [List.size_toArray, hlen]⟩, q⟩
theorem call_list_of : CallR X (.type "list") (fun xs H Q => ∃ p ys, xs = [.ref p] /\ (SqL X.K H p ys ∨ SqT X.K H p ys) /\ ∀ l, H l = none -> Q (.ref l) (upd H l (.lst ys))) := by
  intro pins s σ H xs us Q I r h
  obtain ⟨p, ys, rfl, hq, q⟩ := h
  obtain ⟨u, rfl, rx⟩ := vals1 r
  cases rx
  have fin : ∀ (its : List Value), Vals ys its -> ys.length <= sizeLine -> ∀ (h' : Heap) (c' : Nat), (∀ b o', s.heap.get? b = some o' -> h'.get? b = some o') ->
      h'.get? s.heap.objs.size = some { cls := .type "list", dict := none, data := .seq its.toArray c', slots := #[] } -> EP X pins σ Q (.ref s.heap.objs.size) { s with heap := h' } := fun its r' hz h' c' kp e =>
    ⟨.ref s.heap.objs.size, _, I.laid (t' := s.toks) kp (Nat.le_refl _) (show ObjOk X.prog X.w _ h' _ (.lst ys) from ⟨hz, its, c', r', e⟩), rfl, q _ (I.hok.fresh (Nat.le_refl _))⟩
  rcases hq with hq | hq
  · obtain ⟨its, r', pl, hz⟩ := I.list hq
    have hlen := r'.length
    obtain ⟨o, ho, hc, n, hd⟩ := pl.isList
    exact call_list_seq p (.inl rfl) ho hc hd (fun h' c' kp e => fin its r' hz h' c' kp e) (by simp only [List.size_toArray] <;> lia)
  · obtain ⟨its, r', pl, hz⟩ := I.tuple hq
    have hlen := r'.length
    obtain ⟨o, ho, hc, n, hd⟩ := pl
    exact call_list_seq p (.inr rfl) ho hc hd (fun h' c' kp e => fin its r' hz h' c' kp e) (by simp only [List.size_toArray] <;> lia)
noncomputable def tyV (K : PySem.W.Frag) (T : String) (x : V) (H : Hp) : Prop := match x with
  | .str _ => T = "str"
  | .int _ => T = "int"
  | .ref p => (T = "list" /\ ∃ xs, SqL K H p xs) ∨ (T = "tuple" /\ ∃ o, K.lookup p = some o /\ o.cls = .type "tuple" /\ o.dict = none) ∨
      (T = "dict" /\ ((∃ kvs, H p = some (.dK kvs)) ∨ ∃ kvs, H p = some (.dT kvs))) ∨ (T = "set" /\ ∃ S n, H p = some (.set S n))
  | _ => False
theorem tyV_is {pins : List (Addr × Obj)} {σ : St} {H : Hp} {s : Shared} {T : String} {x : V} {v : Value} (I : Inv X pins σ H s) (r : RelV x v) (ty : tyV X.K T x H) :
    s.TypeIs v T /\ ∀ a, v = .ref a -> ∃ ob, s.heap.get? a = some ob /\ ob.dict = none := by
  cases x with
  | str z =>
    obtain ⟨t, rfl⟩ := r
    cases (show T = "str" from ty)
    exact ⟨typeIs_str s z t, fun _ e => nomatch e⟩
  | int i =>
    obtain ⟨t, rfl⟩ := r
    cases (show T = "int" from ty)
    exact ⟨typeIs_int s i t, fun _ e => nomatch e⟩
  | ref p =>
    cases r
    rcases ty with ⟨rfl, xs, hq⟩ | ⟨rfl, o, hk, hc, hd⟩ | ⟨rfl, hk⟩ | ⟨rfl, S, n, hk⟩
    · obtain ⟨its, _, pl, _⟩ := I.list hq
      refine ⟨pl.isList.typeIs, fun a e => ?_⟩
      cases e
      obtain ⟨o, n, e, c, hd, _⟩ := pl
      exact ⟨o, e, hd⟩
    · refine ⟨⟨o, I.kIn p o hk, hc⟩, fun a e => ?_⟩
      cases e
      exact ⟨o, I.kIn _ o hk, hd⟩
    · have z : ∃ o, s.heap.get? p = some o /\ o.ExactDict := by
        rcases hk with ⟨kvs, hk⟩ | ⟨kvs, hk⟩
        · obtain ⟨_, _, _, _, o, _, _, e, ex, _⟩ := I.hok p _ hk
          exact ⟨o, e, ex⟩
        · obtain ⟨_, _, _, _, o, _, _, e, ex, _⟩ := I.hok p _ hk
          exact ⟨o, e, ex⟩
      obtain ⟨o, e, ex⟩ := z
      refine ⟨⟨o, e, ex.1⟩, fun a e2 => ?_⟩
      cases e2
      exact ⟨o, e, ex.2.1⟩
    · obtain ⟨o, _, _, _, e, ex, _⟩ := I.hok p _ hk
      refine ⟨⟨o, e, ex.1⟩, fun a e2 => ?_⟩
      cases e2
      exact ⟨o, e, ex.2.1⟩
  | _ => exact False.elim ty
noncomputable def tBM0 (K : PySem.W.Frag) (T : String) (r : V -> List V -> Hp -> VK -> Prop) (to : TE) : TE := fun σ H Q => to σ H fun x H1 => tyV K T x H1 /\ r x [] H1 Q
noncomputable def tBM (K : PySem.W.Frag) (T : String) (r : V -> List V -> Hp -> VK -> Prop) (to : TE) (t : TA) : TE := fun σ H Q => to σ H fun x H1 => tyV K T x H1 /\ t σ H1 fun xs H2 => r x xs H2 Q
variable {o e : Expr} {es : List Expr} {to : TE} {t : TA} {name : Str} {apos cpos : Pos} {T id : String} {r : V -> List V -> Hp -> VK -> Prop}
theorem pe_bm0 (pa : PlainAttrs T) (slot : Slot T name id) (hty : typeOf (.builtin id) = pure (.type "method_descriptor")) (hm : MtR X id r) (ho : PE X o to)
    (hbase : attributeBase o name X.env (eval o X.env) = eval o X.env := by rfl) (hline : (apos.endLine == cpos.line) = true := by rfl) : PE X (.Call (.Attribute o name apos) [] [] cpos) (tBM0 X.K T r to) := by
  intro pins s σ H Q I h
  refine wpAny_Call_method0_late hbase hline (thn (ho pins s σ H _ I h) fun v s1 hq1 => ?_)
  obtain ⟨x, H1, I1, r1, ty, q1⟩ := hq1
  obtain ⟨h1, h2⟩ := tyV_is I1 r1 ty
  exact ⟨T, id, pa, slot, hty, h1, h2, Calls.callWith_builtin rfl (PySem.evalArgs_none (hm pins s1 σ H1 x [] v [] Q I1 r1 .nil q1))⟩
theorem pe_bm (pa : PlainAttrs T) (slot : Slot T name id) (hty : typeOf (.builtin id) = pure (.type "method_descriptor")) (hm : MtR X id r) (ho : PE X o to) (ha : PA X (e :: es) t)
    (hbase : attributeBase o name X.env (eval o X.env) = eval o X.env := by rfl)
    (hfew : ((backTo cpos (starEach (e :: es) X.env)).all (fun x => !x.1) && (backToKw cpos (keywordEach [] X.env)).all (fun x => x.1.isSome)
      && decide ((e :: es).length + ([] : List Keyword).length + (if ([] : List Keyword).isEmpty then 0 else 1) < 30)) = true := by rfl)
    (hline : (apos.endLine == cpos.line) = true := by rfl) (hs : starEach (e :: es) X.env = (false, eval e X.env) :: starEach es X.env := by rfl) (hplain : (backTo cpos (starEach es X.env)).any (·.1) = false := by rfl) :
    PE X (.Call (.Attribute o name apos) (e :: es) [] cpos) (tBM X.K T r to t) := by
  intro pins s σ H Q I h
  refine wpAny_Call_method_late hbase hfew hline rfl (thn (ho pins s σ H _ I h) fun v s1 hq1 => ?_)
  obtain ⟨x, H1, I1, r1, ty, q1⟩ := hq1
  obtain ⟨h1, h2⟩ := tyV_is I1 r1 ty
  refine ⟨T, id, pa, slot, hty, h1, h2, ?_⟩
  have hA := ha cpos pins s1 σ H1 _ I1 q1
  rw [hs] at hA ⊢
  refine Calls.callWith_builtin (by show (false || (backTo cpos (starEach es X.env)).any (·.1)) = false; rw [hplain] <;> rfl) (Calls.evalArgs_plain ?_)
  exact thn hA fun us s2 ⟨vs, H2, I2, r2, q2⟩ => hm pins s2 σ H2 x vs v us Q I2 r1 r2 q2
end
end L2
namespace L2
open PySem PySem.Spec PyProof.Rows
noncomputable def MtM (X : Cx) (id : String) (r : V -> List V -> Hp -> VK -> Prop) : Prop :=
  ∀ (pins : List (Addr × Obj)) (s : Shared) (σ : St) (H : Hp) (x : V) (xs : List V) (v : Value) (us : List Value) (Q : VK), Inv X pins σ H s -> RelV x v -> Vals xs us -> r x xs H Q ->
    wpAny (model X.prog X.w) X.A (call (.builtin id) (v :: us)) (EP X pins σ Q) X.xe s
theorem Vals.one : ∀ {x : V} {us : List Value}, Vals [x] us -> ∃ u, us = [u] /\ RelV x u := by
  intro x us h
  cases h with
  | cons r t => cases t; exact ⟨_, rfl, r⟩
theorem Vals.zero : ∀ {us : List Value}, Vals [] us -> us = []
  | _, .nil => rfl
theorem Vals.dropLast {xs : List V} {us : List Value} (h : Vals xs us) : Vals xs.dropLast us.dropLast := by
  induction h with
  | nil => exact .nil
  | cons r t ih =>
    cases t with
    | nil => exact .nil
    | cons q t' => exact .cons r ih
theorem Vals.eraseIdx : ∀ {xs : List V} {us : List Value} (i : Nat), Vals xs us -> Vals (xs.eraseIdx i) (us.eraseIdx i) := by
  intro xs us i h
  induction h generalizing i with
  | nil => exact .nil
  | cons r t ih =>
    cases i with
    | zero => exact t
    | succ i => exact .cons r (ih i)
theorem Vals.rep {xs : List V} {us : List Value} (h : Vals xs us) : ∀ k : Nat, Vals (List.replicate k xs).flatten (List.replicate k us).flatten
  | 0 => .nil
  | k + 1 => by
    rw [List.replicate_succ, List.replicate_succ, List.flatten_cons, List.flatten_cons]
    exact Vals.append h (Vals.rep h k)
theorem erase_last {α : Type} (l : List α) : l.eraseIdx (l.length - 1) = l.dropLast := by
  induction l with
  | nil => rfl
  | cons a r ih =>
    cases r with
    | nil => rfl
    | cons b r =>
      have e : (a :: b :: r).length - 1 = ((b :: r).length - 1) + 1 := by
        have h1 : (a :: b :: r).length = r.length + 2 := rfl
        have h2 : (b :: r).length = r.length + 1 := rfl
        lia
      rw [e, List.eraseIdx_cons_succ, ih]
      all_goals rfl
theorem len_erase {α : Type} : ∀ (l : List α) (i : Nat), (l.eraseIdx i).length <= l.length
  | [], _ => Nat.le_refl _
  | _ :: _, 0 => Nat.le_succ _
  | _ :: r, i + 1 => Nat.succ_le_succ (len_erase r i)
theorem foldl_rep (its : List Value) : ∀ (k : Nat) (acc : List Value),
    List.foldl (fun x1 x2 => x1 ++ x2) acc.toArray (List.replicate k its.toArray) = (acc ++ (List.replicate k its).flatten).toArray
  | 0, acc => by simp
  | k + 1, acc => by
    have e : acc.toArray ++ its.toArray = (acc ++ its).toArray := by simp
    have e2 : (acc ++ its) ++ (List.replicate k its).flatten = acc ++ (List.replicate (k + 1) its).flatten := by
      rw [List.replicate_succ, List.flatten_cons, List.append_assoc]
    rw [<- e2, <- foldl_rep its k (acc ++ its), <- e, List.replicate_succ, List.foldl_cons]
section
variable {X : Cx} {pins : List (Addr × Obj)} {σ : St} {H : Hp} {s : Shared} {l b : Addr} {xs ys zs : List V}
theorem Inv.lset {its its' : List Value} {n : Nat} {f : Array Value -> Array Value} {t' : Nat} (I : Inv X pins σ H s) (hH : H l = some (.lst xs))
    (e : s.heap.get? l = some { cls := .type "list", data := .seq its.toArray n }) (hf : f its.toArray = its'.toArray) (hv : Vals ys its') (hz : ys.length <= sizeLine) :
    Inv X pins σ (upd H l (.lst ys)) { s with heap := s.heap.update l (Obj.mapSeq f), toks := t' } := by
  have q := PySem.IsL.update e f
  rw [hf] at q
  refine I.write (x := l) (e := l) (by rw [hH]; exact trivial) (.inl rfl) (fun b' u hb hu => (Heap.get?_update_other s.heap (Obj.mapSeq f) (Ne.symm hb)).trans hu) ⟨_, q⟩ ?_
  exact ⟨hz, its', _, hv, q⟩
theorem Inv.lnew {its : List Value} {t' : Nat} (I : Inv X pins σ H s) (hv : Vals ys its) (hz : ys.length <= sizeLine) :
    Inv X pins σ (upd H s.heap.objs.size (.lst ys)) { s with heap := s.heap.push { cls := .type "list", data := .seq its.toArray }, toks := t' } :=
  I.laid (fun _ _ q => Heap.get?_push_of_some _ q) (Nat.le_refl _) ⟨hz, its, 0, hv, Heap.get?_push_size _ rfl⟩
theorem Inv.fresh (I : Inv X pins σ H s) : H s.heap.objs.size = none := I.hok.fresh (Nat.le_refl _)
theorem Inv.lstM (I : Inv X pins σ H s) (hH : H l = some (.lst xs)) : xs.length <= sizeLine /\ ∃ (its : List Value) (n : Nat), Vals xs its /\ xs.length = its.length /\ s.heap.get? l = some { cls := .type "list", data := .seq its.toArray n } := by
  obtain ⟨z, its, n, r, e⟩ := I.hok l _ hH
  exact ⟨z, its, n, r, r.length, e⟩
theorem notLongL {n : Nat} (h : n <= sizeLine) : Builtin.List.listTooLong n = false := by
  unfold Builtin.List.listTooLong
  exact decide_eq_false (by lia)
end
section
variable {X : Cx}
noncomputable def rAppend : V -> List V -> Hp -> VK -> Prop := fun x vs H Q => ∃ l xs y, x = .ref l /\ vs = [y] /\ H l = some (.lst xs) /\ xs.length < sizeLine /\ Q .non (upd H l (.lst (xs ++ [y])))
theorem mt_append : MtM X "list.append" rAppend := by
  intro pins s σ H x vs v us Q I rx rv h
  obtain ⟨l, xs, y, rfl, rfl, hH, hz, q⟩ := h
  cases rx
  obtain ⟨u, rfl, ru⟩ := rv.one
  obtain ⟨z, its, n, r, hl, e⟩ := I.lstM hH
  refine call_meets F.slot_list_append ⟨_, e, rfl⟩ F.entry_list_append (F.args_list_append_2 _ _) (PySem.list_append l its.toArray n u (by rw [List.size_toArray]; lia)) ⟨e, ?_⟩
  refine ⟨.non, _, I.lset (its' := its ++ [u]) hH e (by simp) (r.append (.cons ru .nil)) ?_, rfl, q⟩
  rw [List.length_append, List.length_singleton]
  lia
noncomputable def rExtend : V -> List V -> Hp -> VK -> Prop := fun x vs H Q => ∃ l b xs zs, x = .ref l /\ vs = [.ref b] /\ H l = some (.lst xs) /\ H b = some (.lst zs) /\ xs.length + zs.length <= sizeLine /\ Q .non (upd H l (.lst (xs ++ zs)))
theorem mt_extend : MtM X "list.extend" rExtend := by
  intro pins s σ H x vs v us Q I rx rv h
  obtain ⟨l, b, xs, zs, rfl, rfl, hH, hB, hz, q⟩ := h
  cases rx
  obtain ⟨u, rfl, ru⟩ := rv.one
  cases ru
  obtain ⟨z, its, n, r, hl, e⟩ := I.lstM hH
  obtain ⟨z2, its2, n2, r2, hl2, e2⟩ := I.lstM hB
  have hsz : its.toArray.size + its2.toArray.size <= sizeLine := by rw [List.size_toArray, List.size_toArray]; lia
  have hlong : ¬ (!its.toArray.isEmpty && Builtin.List.listTooLong (its.toArray.size + its2.toArray.size)) = true := by
    rw [notLongL hsz, Bool.and_false]
    exact Bool.false_ne_true
  refine call_meets F.slot_list_extend ⟨_, e, rfl⟩ F.entry_list_extend (F.args_list_extend_2 _ _)
    (AutoSeq1.list_extend_list_list_0 l its.toArray n b its2.toArray n2 hlong (by rw [List.size_toArray]; lia) (by lia)) ⟨e, e2, ?_⟩
  refine ⟨.non, _, I.lset (its' := its ++ its2) hH e (by simp) (r.append r2) ?_, rfl, q⟩
  rw [List.length_append]
  lia
noncomputable def rPop : V -> List V -> Hp -> VK -> Prop := fun x vs H Q => ∃ l xs y, x = .ref l /\ vs = [] /\ H l = some (.lst xs) /\ xs[xs.length - 1]? = some y /\ Q y (upd H l (.lst xs.dropLast))
theorem mt_pop : MtM X "list.pop" rPop := by
  intro pins s σ H x vs v us Q I rx rv h
  obtain ⟨l, xs, y, rfl, rfl, hH, hy, q⟩ := h
  cases rx
  have hus := rv.zero
  subst hus
  obtain ⟨z, its, n, r, hl, e⟩ := I.lstM hH
  obtain ⟨u, hu, ru⟩ := r.get hy
  have hy' : its.toArray[its.toArray.size - 1]? = some u := by
    show its.toArray[its.length - 1]? = some u
    rw [<- Array.getElem?_toList, <- hl]
    exact hu
  refine call_meets F.slot_list_pop ⟨_, e, rfl⟩ F.entry_list_pop (F.args_list_pop_1 _) (MeetsSeq.list_pop_last l its.toArray n u hy' (by rw [List.size_toArray]; lia)) ⟨e, ?_⟩
  refine ⟨y, _, I.lset (its' := its.dropLast) hH e ?_ r.dropLast ?_, ru, q⟩
  · show its.toArray.eraseIdxIfInBounds (its.toArray.size - 1) = its.dropLast.toArray
    rw [List.size_toArray, List.eraseIdxIfInBounds_toArray, erase_last]
  · rw [List.length_dropLast]
    lia
noncomputable def rPopAt : V -> List V -> Hp -> VK -> Prop := fun x vs H Q => ∃ l xs i k y, x = .ref l /\ vs = [.int i] /\ H l = some (.lst xs) /\ -(2 ^ 63) <= i /\ i < 2 ^ 63 /\ seqIndex? i xs.length = some k /\ xs[k]? = some y /\ Q y (upd H l (.lst (xs.eraseIdx k)))
theorem mt_popAt : MtM X "list.pop" rPopAt := by
  intro pins s σ H x vs v us Q I rx rv h
  obtain ⟨l, xs, i, k, y, rfl, rfl, hH, h1, h2, hk, hy, q⟩ := h
  cases rx
  obtain ⟨u, rfl, ru⟩ := rv.one
  obtain ⟨t, rfl⟩ := ru
  obtain ⟨z, its, n, r, hl, e⟩ := I.lstM hH
  obtain ⟨w, hw, rw'⟩ := r.get hy
  refine call_meets F.slot_list_pop ⟨_, e, rfl⟩ F.entry_list_pop (F.args_list_pop_2 _ _)
    (MeetsSeq.list_pop_at l its.toArray n i t k w (fitsIndex_both h1 h2) (by rw [List.size_toArray, <- hl]; exact hk) (by rw [<- Array.getElem?_toList]; exact hw) (by rw [List.size_toArray]; lia)) ⟨e, ?_⟩
  refine ⟨y, _, I.lset (its' := its.eraseIdx k) hH e ?_ (r.eraseIdx k) ?_, rw', q⟩
  · show its.toArray.eraseIdxIfInBounds k = (its.eraseIdx k).toArray
    rw [List.eraseIdxIfInBounds_toArray]
  · have := len_erase xs k
    lia
noncomputable def rCat : R2 := fun x y H Q => ∃ l b xs zs, x = .ref l /\ y = .ref b /\ H l = some (.lst xs) /\ H b = some (.lst zs) /\ xs.length + zs.length <= sizeLine /\ ∀ p, H p = none -> Q (.ref p) (upd H p (.lst (xs ++ zs)))
theorem op_cat : OpR X (binaryOp .Add) rCat := by
  intro pins s σ H x y v u Q I rx ry h
  obtain ⟨l, b, xs, zs, rfl, rfl, hH, hB, hz, q⟩ := h
  cases rx
  cases ry
  obtain ⟨z, its, n, r, hl, e⟩ := I.lstM hH
  obtain ⟨z2, its2, n2, r2, hl2, e2⟩ := I.lstM hB
  refine PySem.P.add_list e e2 ?_ (by rw [List.size_toArray, List.size_toArray]; lia)
  have ea : its.toArray ++ its2.toArray = (its ++ its2).toArray := by simp
  rw [ea]
  exact ⟨.ref _, _, I.lnew (t' := s.toks) (r.append r2) (by rw [List.length_append]; lia), rfl, q _ I.fresh⟩
noncomputable def rRep : R2 := fun x y H Q => ∃ l k xs, x = .ref l /\ y = .int k /\ H l = some (.lst xs) /\ -(2 ^ 63) <= k /\ k < 2 ^ 63 /\ xs.length * k.toNat <= sizeLine /\
  ∀ p, H p = none -> Q (.ref p) (upd H p (.lst (List.replicate k.toNat xs).flatten))
theorem len_rep {α : Type} (xs : List α) (k : Nat) : (List.replicate k xs).flatten.length = k * xs.length := by
  induction k with
  | zero => simp
  | succ k ih => rw [List.replicate_succ, List.flatten_cons, List.length_append, ih, Nat.succ_mul, Nat.add_comm]
theorem op_rep : OpR X (binaryOp .Mult) rRep := by
  intro pins s σ H x y v u Q I rx ry h
  obtain ⟨l, k, xs, rfl, rfl, hH, h1, h2, hz, q⟩ := h
  cases rx
  obtain ⟨t, rfl⟩ := ry
  obtain ⟨z, its, n, r, hl, e⟩ := I.lstM hH
  have hlen : its.toArray.size * k.toNat <= sizeLine := by rw [List.size_toArray, <- hl]; exact hz
  have hcap : ¬ its.toArray.size * k.toNat > (2 ^ 63 - 1) / 8 := by
    have : (sizeLine : Nat) <= (2 ^ 63 - 1) / 8 := by decide
    lia
  have hfit : ¬ (!Builtin.List.listFitsIndex k) = true := by
    rw [fitsIndex_both h1 h2]
    exact Bool.false_ne_true
  have hlong : ¬ Builtin.List.listTooLong (its.toArray.size * k.toNat) = true := by
    rw [notLongL hlen]
    exact Bool.false_ne_true
  have hnew : List.foldl (fun x1 x2 => x1 ++ x2) #[] (List.replicate (if its.toArray.isEmpty = true then 0 else k.toNat) its.toArray) = (List.replicate k.toNat its).flatten.toArray := by
    have f0 : ∀ m : Nat, List.foldl (fun x1 x2 => x1 ++ x2) #[] (List.replicate m its.toArray) = (List.replicate m its).flatten.toArray := fun m => by
      have := foldl_rep its m []
      rw [List.nil_append] at this
      exact this
    rw [f0]
    cases its with
    | nil => simp
    | cons a r' => rw [if_neg (by simp)]
  refine wpAny_binaryOp_repeat_ref (T := "list") (U := "int") (by decide) ⟨_, e, rfl⟩ (fun s' => typeIs_int s' k t) noFill_list_mul F.fills_int_mul F.slot_int_rmul repeat_list F.slot_int_index.lookup
    (call_meets F.slot_int_rmul (typeIs_int s k t) F.entry_int_rmul (F.args_int_rmul_2 _ _) (int___rmul___int_list k t l its.toArray n)
      ⟨e, rfl, ⟨_, e, rfl⟩, call_meets F.slot_list_mul ⟨_, e, rfl⟩ F.entry_list_mul (F.args_list_mul_2 _ _) (AutoListH.list___mul___list_int_3 l its.toArray n k t hfit hcap hlong) ⟨e, ?_⟩⟩)
  rw [hnew]
  exact ⟨.ref _, _, I.lnew (t' := s.toks) (r.rep k.toNat) (by rw [len_rep, Nat.mul_comm]; exact hz), rfl, q _ I.fresh⟩
end
section
variable {prog : Program} {w : World} {A : Around} {E : Value -> Shared -> Prop} {s : Shared}
end
section
variable {X : Cx}
end
end L2
namespace Att
open PySem PySem.W PySem.Calls PyProof.Rows
theorem ints_of_wellAll {P : Params} {h : Heap} : ∀ (ns : List Int) (vs : List Value), WellAll P h vs (ns.map WData.int) -> IntsAre vs ns := by
  intro ns
  induction ns with
  | nil =>
    intro vs w
    rw [List.map_nil] at w
    cases w
    exact .nil
  | cons n ns ih =>
    intro vs w
    rw [List.map_cons] at w
    cases w with
    | cons a b =>
      cases a
      exact .cons _ _ (ih _ b)
theorem script_of {l : OpenLaw} {n : Nat} (hn : l.most = some n) {P : Params} {h : Heap} {args : List WData} {vals : List Value}
    (hpre : l.row.toRowW.claim.pre args = true) (hwl : WellAll P h vals args) :
    ∃ a vs ns, vals = [Value.ref a] /\ args = [WData.list (ns.map WData.int)] /\ h.get? a = some { cls := .type "list", data := .seq vs.toArray } /\ IntsAre vs ns /\ ns.length <= n := by
  have hsh : WShape.hasAll [] args [.list .int] = true := (pre_splitW hpre).1
  have hc : l.pre.holds [] { args := args } = true := (pre_splitW hpre).2
  obtain ⟨d, r, rfl, h1, h2⟩ := hasAllW_cons hsh
  obtain rfl := hasAllW_nil h2
  obtain ⟨xs, rfl, h3⟩ := hasW_list h1
  obtain ⟨ns, rfl⟩ := items_int h3
  have hlen : ns.length <= n := by
    unfold OpenLaw.pre at hc
    have h4 : (WTm.not (.lt (.lit (.int (n : Int))) (.len (.arg 0)))).holds [] { args := [.list (ns.map .int)] } = true := by
      have h4 := (holds_andW hc).1
      rw [hn] at h4
      exact h4
    have h5 := condW_of h4 (w_not (w_lt w_lit (w_len_list (w_arg rfl))))
    rw [List.length_map] at h5
    refine Nat.le_of_not_lt fun q => ?_
    have q' : (n : Int) < ((ns.length : Nat) : Int) := by lia
    first
      | (rw [decide_eq_true q'] at h5; exact absurd h5 (by decide))
      | (simp at h5; lia)
  cases hwl with
  | cons w1 w2 =>
    cases w2
    cases w1 with
    | list ho hall => exact ⟨_, _, ns, rfl, rfl, ho, ints_of_wellAll ns _ hall, hlen⟩
theorem post_true (l : OpenLaw) (args : List WData) : l.row.toRowW.claim.post args (.bool true) args = true :=
  postW_of (r := l.row.toRowW) (X := (true == true))
    (show WShape.has [] (.bool true) .bool = true by first | rfl | decide | simp [WShape.has, WShape.arms, WShape.armsAll])
    (show (WTm.eq .res (.lit (.bool true))).value [] { args := args, res := some (.bool true), after := args } = some (.bool (true == true)) from w_eq_bool (w_res rfl) w_lit) rfl
theorem attach_call {l : OpenLaw} {n : Nat} {q : Program} {loose : List Str} {XP : (Str -> Option Value) -> Heap -> Prop} {YP : World -> Heap -> Prop} {d : DefRec}
    (hn : l.most = some n) (hdf : d.params.defaults = [])
    (call : ∀ (w : World) (s₀ s₁ : Shared) (mg mb : Str -> Option Value) (fa : Addr) (o : Obj) (pm cd doc : Value) (a : Addr) (vs : List Value) (ns : List Int),
      Ground q loose [] XP w s₀ mg mb s₁.heap -> YP w s₁.heap ->
      s₁.heap.get? fa = some o -> o.data = .func (docDef d.name d.params d.body d.scope pm cd doc) -> s₁.heap.CodeRec cd d.name -> mg d.name = some (.ref fa) ->
      s₁.heap.get? a = some { cls := .type "list", data := .seq vs.toArray } -> IntsAre vs ns -> ns.length <= n -> s₁.gens = #[] ->
      codeAny (model l.prog w) callerA (.call (.ref fa) ⟨[.ref a], []⟩) (fun r s' => r = .ok (.ret (.bool true)) /\ OldK s₁.heap s'.heap /\ s'.os = s₁.os /\ AllBare s'.gens) s₁) :
    WalkO q loose XP YP l.row.toRowW d [] (fun f vs => PySem.call f vs) := by
  intro w s₀ s₁ mg mb G Y fa o pm cd doc dV kV ho hd hcd hD hmg hg args vals as hpre hlay hrd hwl hlo
  obtain rfl : dV = .none := Dflts.none hD hdf
  obtain rfl : kV = .none := Dflts.noKw hD
  obtain ⟨a, vs, ns, rfl, rfl, hobj, hints, hlen⟩ := script_of hn hpre hwl
  refine enter_call (codeAny_mono (call w s₀ s₁ mg mb fa o pm cd doc a vs ns G Y ho (fd_plain hd) hcd hmg hobj hints hlen hg) fun r s' hq => ?_)
  obtain ⟨rfl, h2, h3, h4⟩ := hq
  exact ⟨.inl ⟨.bool true, .bool true, [], rfl, fun _ => rfl, .bool true, post_true l _, fun _ => ⟨List.Pairwise.nil, fun _ hm => (nomatch hm)⟩⟩, h2, h3, h4⟩
section
variable {prog : Program} {w : World} {A : Around} {E : Value -> Shared -> Prop} {s : Shared} {K : Frag}
end
end Att
namespace L2
open PySem PySem.Spec PyProof.Rows
theorem vals_ints : ∀ {vs : List Value} {ns : List Int}, IntsAre vs ns -> Vals (ns.map V.int) vs
  | _, _, .nil => .nil
  | _, _, .cons n t h => .cons ⟨t, rfl⟩ (vals_ints h)
noncomputable def Only (H : Hp) : Prop := ∀ b, H b = none ∨ ∃ o xs, H b = some (.frz o (.lst xs))
theorem law_call {P : Program} {w : World} {K : PySem.W.Frag} {mg mb : Str -> Option Value} {CX : CXT} {k : Nat} {fa a : Addr} {fd : FuncData} {x : Str} {sp : Sp} {s₁ : Shared} {vs : List Value} {ns : List Int}
    (KX : K.In s₁.heap) (hns : s₁.heap.Ns mainGlobals mg) (hb : s₁.heap.Ns builtinsNs mb) (hbb : ∀ x : Str, x ≠ "__name__" -> mb x = bootBuiltins x) (hlim : s₁.heap.NoLimit) (hg : s₁.gens = #[])
    (ha : s₁.heap.get? a = some { cls := .type "list", data := .seq vs.toArray }) (hi : IntsAre vs ns) (hl : ns.length <= sizeLine) (hr : Room k callerA)
    (F : ∀ base : Heap, K.In base -> base.Ns mainGlobals mg -> FnOk P w K mg base CX k fa fd [x] sp) (hbind : ∀ (s : Shared) (u : Value), BindsTo s fd ⟨[u], []⟩ [(x, u)])
    (hsp : ∀ H : Hp, Only H -> SqL K H a (ns.map V.int) -> sp [.ref a] H (fun v _ => v = .bl true) fun _ _ _ => False)
    (hCX : ∀ H e s', CX [] H s₁ (fun _ _ _ => False) e s' -> False) :
    codeAny (model P w) callerA (.call (.ref fa) ⟨[.ref a], []⟩) (fun r s' => r = .ok (.ret (.bool true)) /\ OldK s₁.heap s'.heap /\ s'.os = s₁.os /\ AllBare s'.gens) s₁ := by
  have rv := vals_ints hi
  have lenV := hi.length
  have core : ∀ H : Hp, Only H -> SqL K H a (ns.map V.int) -> HOk P w H s₁.heap -> (∀ b, H b ≠ none -> b = a) -> (H a ≠ none -> K.lookup a = none) ->
      codeAny (model P w) callerA (.call (.ref fa) ⟨[.ref a], []⟩) (fun r s' => r = .ok (.ret (.bool true)) /\ OldK s₁.heap s'.heap /\ s'.os = s₁.os /\ AllBare s'.gens) s₁ := by
    intro H hO hS hok hA hK
    have base_of : ∀ {b : Addr} {o : Obj}, s₁.heap.get? b = some o -> H b = none -> (hidT s₁.heap H).get? b = some o := fun e n => hidT_get e n
    have noA : ∀ {b : Addr} {o : Obj} {es : Array DictEntry} {ep : Nat}, s₁.heap.get? b = some o -> o.data = .dict es ep -> H b = none := fun {b o es ep} e d => by
      cases q : H b with
      | none => rfl
      | some u =>
        have e' : b = a := hA b (by rw [q]; simp)
        subst e'
        rw [ha] at e; cases e
        have d' : Data.seq vs.toArray _ = Data.dict es ep := d
        cases d'
    have nsK : ∀ {b : Addr} {m : Str -> Option Value}, s₁.heap.Ns b m -> (hidT s₁.heap H).Ns b m := fun {b m} ⟨o, es, ep, e, d, r⟩ => ⟨o, es, ep, base_of e (noA e d), d, r⟩
    have hKb : K.In (hidT s₁.heap H) := fun b o e => base_of (KX b o e) (by
      cases q : H b with
      | none => rfl
      | some u =>
        have e' : b = a := hA b (by rw [q]; simp)
        subst e'
        rw [hK (by rw [q]; simp)] at e; cases e)
    have hM : Mod K mg (hidT s₁.heap H) := ⟨hKb, nsK hns, ⟨mb, nsK hb, hbb⟩, let ⟨mc, h1, h2⟩ := hlim; ⟨mc, nsK h1, h2⟩⟩
    have e0 : Env0 P w K mg (hidT s₁.heap H) callerA [] s₁ H := ⟨rfl, hM, fun b o e => of_hidT e, Nat.le_of_eq (hidT_size _ _), trivial, fun b hb => absurd (show b ∈ ([] : List Addr) from hb) (by simp), hok, .of_eq hg⟩
    refine codeAny_mono ((F _ hKb (nsK hns)).run callerA [] s₁ H ⟨[.ref a], []⟩ [.ref a] [.ref a] _ _ hr e0 (hbind s₁ (.ref a)) (.cons rfl .nil) (hsp H hO hS)) fun r s' h => ?_
    cases r with
    | error e => exact (hCX H e s' h).elim
    | ok fl =>
      cases fl with
      | next => exact False.elim h
      | brk => exact False.elim h
      | cont => exact False.elim h
      | ret u =>
        obtain ⟨v, H', os, bare, un, hok', r', q⟩ := h
        have q' : v = .bl true := q
        subst q'
        obtain rfl : u = Value.bool true := r'
        refine ⟨rfl, OldK.of_keep fun b o e => ?_, os, bare⟩
        cases q : H b with
        | none => exact un.keep b o e q (by intro z; exact absurd (show b ∈ ([] : List Addr) from z) (by simp)) (by simp)
        | some u =>
          rcases hO b with z | ⟨ob, xs, z⟩
          · rw [q] at z; cases z
          · have z2 := un.frzs b ob _ z
            obtain ⟨e1, _⟩ := hok b _ z
            obtain ⟨e2, _⟩ := hok' b _ z2
            rw [e] at e1; cases e1
            exact e2
  cases hk : K.lookup a with
  | some o =>
    have e := KX a o hk
    rw [ha] at e
    cases e
    refine core (fun _ => none) (fun _ => .inl rfl) (.inr ⟨_, vs.toArray, _, hk, rfl, rfl, rfl, by rw [List.size_toArray, lenV]; exact hl, by simpa using rv⟩) (fun b u z => by have z' : (none : Option HO) = some u := z; cases z') (fun b z => absurd rfl z) fun z => absurd rfl z
  | none =>
    refine core (fun b => if b = a then some (.frz { cls := .type "list", data := .seq vs.toArray } (.lst (ns.map V.int))) else none) (fun b => ?_) (.inl (.inr ⟨{ cls := .type "list", data := .seq vs.toArray }, if_pos rfl⟩)) (fun b u z => ?_) (fun b z => ?_) fun _ => hk
    · by_cases hb : b = a
      · exact .inr ⟨_, _, if_pos hb⟩
      · exact .inl (if_neg hb)
    · by_cases hb : b = a
      · have z' := (if_pos hb).symm.trans z
        cases z'
        subst hb
        exact ⟨ha, by rw [List.length_map]; exact hl, vs, _, rv, ha⟩
      · have z' := (if_neg hb).symm.trans z
        cases z'
    · by_cases hb : b = a
      · exact hb
      · exact absurd (if_neg hb) z
end L2
namespace L2
open PySem PySem.Spec PyProof.Rows
theorem walk_of {l : PySem.W.OpenLaw} {n k : Nat} {q : Program} {loose : List Str} {XP : (Str -> Option Value) -> Heap -> Prop} {YP : World -> Heap -> Prop} {d : DefRec} {K : Params -> PySem.W.Frag} {CX : World -> CXT} {sp : World -> Sp} {x : Str}
    (hn : l.most = some n) (hn2 : n <= sizeLine) (hdf : d.params.defaults = []) (hr : Room k callerA)
    (hY : ∀ (w : World) (h : Heap), YP w h -> (K w.params).In h)
    (F : ∀ (w : World) (mg : Str -> Option Value) (fa : Addr) (h : Heap), (K w.params).In h -> h.Ns mainGlobals mg -> mg d.name = some (.ref fa) ->
      ∃ fd : FuncData, (∀ (s : Shared) (u : Value), BindsTo s fd ⟨[u], []⟩ [(x, u)]) /\
        ∀ base : Heap, (K w.params).In base -> base.Ns mainGlobals mg -> FnOk l.prog w (K w.params) mg base (CX w) k fa fd [x] (sp w))
    (hsp : ∀ (w : World) (H : Hp) (a : Addr) (ns : List Int), ns.length <= n -> Only H -> SqL (K w.params) H a (ns.map V.int) -> sp w [.ref a] H (fun v _ => v = .bl true) fun _ _ _ => False)
    (hCX : ∀ (w : World) (H : Hp) (s : Shared) (e : Value) (s' : Shared), CX w [] H s (fun _ _ _ => False) e s' -> False) :
    PySem.W.WalkO q loose XP YP l.row.toRowW d [] (fun f vs => PySem.call f vs) := by
  refine Att.attach_call hn hdf fun w s₀ s₁ mg mb fa o pm cd doc a vs ns G Y ho hd hcd hmg hobj hints hlen hg => ?_
  have KX := hY w _ Y
  obtain ⟨fd, hb, hF⟩ := F w mg fa _ KX G.T.g hmg
  exact law_call KX G.T.g G.T.b G.T.builtins G.T.nolimit hg hobj hints (Nat.le_trans hlen hn2) hr hF hb (fun H hO hS => hsp w H a ns hlen hO hS) fun H e s' => hCX w H s₁ e s'
end L2
namespace L2
open PySem PySem.Spec PyProof.Rows
noncomputable def inClass (s : Stmt) (j : Nat) : Stmt := match s with
  | .ClassDef _ _ _ body _ _ _ _ _ _ _ => body.getD j (.Pass ⟨0, 0, 0, 0⟩)
  | _ => .Pass ⟨0, 0, 0, 0⟩
noncomputable def defArgs (s : Stmt) : Arguments := match s with
  | .FunctionDef _ a _ _ _ _ _ _ _ _ => a
  | _ => { posonlyargs := [], args := [], vararg := none, kwonlyargs := [], kw_defaults := [], kwarg := none, defaults := [] }
noncomputable def defBody (s : Stmt) : List Stmt := match s with
  | .FunctionDef _ _ b _ _ _ _ _ _ _ => b
  | _ => []
noncomputable def defScope (s : Stmt) : Scope := match s with
  | .FunctionDef _ _ _ _ _ _ sc _ _ _ => sc
  | _ => { kind := .function, names := [], isGenerator := false, isCoroutine := false }
noncomputable abbrev CX0 : CXT := fun _ _ _ _ _ _ => False
noncomputable abbrev E0 : XK := fun _ _ _ => False
theorem pass0 {X : Cx} : Passes CX0 X E0 := fun _ _ _ _ _ _ _ h => h.elim
structure Fun (K : PySem.W.Frag) (x qual : Str) (st : Stmt) (f : Addr) (fd : FuncData) : Prop where
  ex : ∃ (oc : Value) (od : Option Addr) (kV doc pm : Value) (an : Option Addr) (cdv ct : Value) (osl : Array (Option Value)),
    fd = PySem.W.fnOf x qual (defArgs st) (defBody st) (defScope st) .none kV doc pm an cdv ct /\ K.lookup f = some ⟨oc, od, .func fd, osl⟩ /\ PySem.W.codeIn K cdv qual = true
  kp : PySem.W.keepIn K (.ref f) = true
section
variable {P : Program} {w : World} {K : PySem.W.Frag} {mg : Str -> Option Value} {base : Heap}
theorem Fun.ok {x qual : Str} {st : Stmt} {f : Addr} {fd : FuncData} {N ps : List Str} {k : Nat} {sp : Sp} (F : Fun K x qual st f fd) (S : FnScope N ps (defScope st)) (len : ∀ vs H Q E, sp vs H Q E -> vs.length = ps.length)
    (hbody : ∀ (cdv : Value) (A : Around) (outer : List Env) (s : Shared) (H : Hp) (vs : List V) (Q : VK) (E : XK), Room k (A.deeper (envOfC qual (defScope st) s.heap.objs.size f cdv)) -> sp vs H Q E ->
      ∃ t, PSs (cxOf CX0 P w K mg base N qual (defScope st) f cdv A outer s H E).nox (defBody st) t /\ t { nx := fun _ H' => Q .non H', rt := Q } (start N vs) H) : FnOk P w K mg base CX0 (k + 1) f fd ps sp := by
  obtain ⟨oc, od, kV, doc, pm, an, cdv, ct, osl, rfl, lk, hcd⟩ := F.ex
  refine fn_of lk hcd S len fun A outer s H vs Q E hr hsp => ?_
  obtain ⟨t, h, q⟩ := hbody cdv A outer s H vs Q E hr hsp
  exact ⟨t, h.nox, q⟩
theorem Fun.binds {x qual : Str} {st : Stmt} {f : Addr} {fd : FuncData} {ps : List Str} (F : Fun K x qual st f fd)
    (h : ∀ (kV doc pm : Value) (an : Option Addr) (cdv ct : Value) (us : List Value), us.length = ps.length -> bindArgs (PySem.W.fnOf x qual (defArgs st) (defBody st) (defScope st) .none kV doc pm an cdv ct) ⟨us, []⟩ = pure (ps.zip us)) : Binds K fd ps [] := by
  obtain ⟨oc, od, kV, doc, pm, an, cdv, ct, osl, rfl, lk, hcd⟩ := F.ex
  exact .all (h kV doc pm an cdv ct)
theorem fun_mk {x qual : Str} {st : Stmt} {f : Addr} {oc : Value} {od an : Option Addr} {osl : Array (Option Value)} {kV doc pm cdv ct : Value} (l : K.lookup f = some ⟨oc, od, .func (PySem.W.fnOf x qual (defArgs st) (defBody st) (defScope st) .none kV doc pm an cdv ct), osl⟩)
    (c : PySem.W.codeIn K cdv qual = true) (k : PySem.W.keepIn K (.ref f) = true) : Fun K x qual st f (PySem.W.fnOf x qual (defArgs st) (defBody st) (defScope st) .none kV doc pm an cdv ct) := ⟨⟨oc, od, kV, doc, pm, an, cdv, ct, osl, rfl, l, c⟩, k⟩
end
theorem small1000 {n : Nat} (h : n <= 1000) : n < sizeLine := Nat.lt_of_le_of_lt h (by decide)
section
variable {X : Cx}
end
theorem iteF {A B : Prop} (h : B) : if false = true then A else B := by
  rw [if_neg Bool.false_ne_true]
  exact h
theorem iteT {A B : Prop} (h : A) : if true = true then A else B := by
  rw [if_pos rfl]
  exact h
noncomputable def Same (H H' : Hp) : Prop := ∀ b o, H b = some o -> H' b = some o
theorem Same.refl (H : Hp) : Same H H := fun _ _ h => h
theorem Same.trans {H H1 H2 : Hp} (a : Same H H1) (b : Same H1 H2) : Same H H2 := fun c o h => b c o (a c o h)
theorem Same.free {H H' : Hp} (e : Same H H') {l : Addr} (h : H' l = Option.none) : H l = Option.none := by
  cases q : H l with
  | none => rfl
  | some o =>
    rw [e l o q] at h
    cases h
theorem Same.seq {K : PySem.W.Frag} {H H' : Hp} {a : Addr} {xs : List V} (e : Same H H') (h : SqL K H a xs) : SqL K H' a xs := by
  rcases h with (h | ⟨o, h⟩) | h
  · exact .inl (.inl (e _ _ h))
  · exact .inl (.inr ⟨o, e _ _ h⟩)
  · exact .inr h
end L2
set_option maxHeartbeats 4000000
namespace L2
open PySem PySem.Spec PyProof.Rows
section
variable {κ : Type} [DecidableEq κ]
noncomputable def valV (kvs : List (κ × V)) (k : κ) : Option V := (kvs.find? fun kv => decide (kv.1 = k)).map (·.2)
noncomputable def putK (kvs : List (κ × V)) (k : κ) (v : V) : List (κ × V) :=
  if (kvs.any fun kv => decide (kv.1 = k)) = true then kvs.map (fun kv => if kv.1 = k then (kv.1, v) else kv) else kvs ++ [(k, v)]
noncomputable def dropK (kvs : List (κ × V)) (k : κ) : List (κ × V) := kvs.filter fun kv => decide (kv.1 ≠ k)
theorem valV_pos {p : κ × V} {r : List (κ × V)} {k : κ} (e : p.1 = k) : valV (p :: r) k = some p.2 := by simp [valV, List.find?_cons, e]
theorem valV_neg {p : κ × V} {r : List (κ × V)} {k : κ} (e : ¬ p.1 = k) : valV (p :: r) k = valV r k := by simp [valV, List.find?_cons, e]
theorem valV_any (k : κ) : ∀ kvs : List (κ × V), (kvs.any fun kv => decide (kv.1 = k)) = (valV kvs k).isSome
  | [] => rfl
  | p :: r => by
    rw [List.any_cons]
    by_cases e : p.1 = k
    · simp only [valV_pos e, decide_eq_true e, Bool.true_or, Option.isSome_some]
    · rw [valV_neg e, decide_eq_false e, Bool.false_or]; exact valV_any k r
theorem length_putK (kvs : List (κ × V)) (k : κ) (v : V) : (putK kvs k v).length <= kvs.length + 1 := by
  unfold putK
  split
  · rw [List.length_map]; lia
  · rw [List.length_append, List.length_cons, List.length_nil]; lia
theorem putK_new {kvs : List (κ × V)} {k : κ} (v : V) (h : valV kvs k = none) : putK kvs k v = kvs ++ [(k, v)] := by
  unfold putK
  rw [valV_any, h]
  exact if_neg (by decide)
theorem RelO.isSome_eq {o : Option V} {u : Option Value} (r : RelO o u) : o.isSome = u.isSome := by
  cases o with
  | none => cases u with
    | none => rfl
    | some _ => exact (show False from r).elim
  | some _ => cases u with
    | none => exact (show False from r).elim
    | some _ => rfl
theorem RelO.getD {o : Option V} {u : Option Value} {d : V} {d' : Value} (r : RelO o u) (rd : RelV d d') : RelV (o.getD d) (u.getD d') := by
  cases o with
  | none => cases u with
    | none => exact rd
    | some _ => exact (show False from r).elim
  | some _ => cases u with
    | none => exact (show False from r).elim
    | some _ => exact r
theorem KV.val {kvs : List (κ × V)} {vs : List (κ × Value)} (r : KV kvs vs) (k : κ) : RelO (valV kvs k) (valueAt vs k) := by
  unfold KV at r
  induction r with
  | nil => exact True.intro
  | @cons p q ps qs h t ih =>
    obtain ⟨h1, h2⟩ := h
    by_cases e : p.1 = k
    · have e' : q.1 = k := h1.symm.trans e
      have b : valueAt (q :: qs) k = some q.2 := by simp [valueAt, List.find?_cons, e']
      rw [valV_pos e, b]; exact h2
    · have e' : ¬ q.1 = k := fun z => e (h1.trans z)
      have b : valueAt (q :: qs) k = valueAt qs k := by simp [valueAt, List.find?_cons, e']
      rw [valV_neg e, b]; exact ih
theorem KV.any {kvs : List (κ × V)} {vs : List (κ × Value)} (r : KV kvs vs) (k : κ) : (kvs.any fun kv => decide (kv.1 = k)) = vs.any fun kv => decide (kv.1 = k) := by
  unfold KV at r
  induction r with
  | nil => rfl
  | cons h t ih => rw [List.any_cons, List.any_cons, ih, h.1]
theorem KV.repl {kvs : List (κ × V)} {vs : List (κ × Value)} (r : KV kvs vs) (k : κ) {y : V} {u : Value} (ry : RelV y u) :
    KV (kvs.map fun kv => if kv.1 = k then (kv.1, y) else kv) (vs.map fun kv => if kv.1 = k then (kv.1, u) else kv) := by
  unfold KV at r ⊢
  induction r with
  | nil => exact .nil
  | @cons p q ps qs h t ih =>
    rw [List.map_cons, List.map_cons]
    refine .cons ?_ ih
    obtain ⟨h1, h2⟩ := h
    by_cases e : p.1 = k
    · rw [if_pos e, if_pos (h1.symm.trans e)]; exact ⟨h1, ry⟩
    · rw [if_neg e, if_neg (fun z => e (h1.trans z))]; exact ⟨h1, h2⟩
theorem KV.put {kvs : List (κ × V)} {vs : List (κ × Value)} (r : KV kvs vs) (k : κ) {y : V} {u : Value} (ry : RelV y u) : KV (putK kvs k y) (stored vs k u) := by
  unfold putK stored
  rw [r.any k]
  by_cases e : (vs.any fun kv => decide (kv.1 = k)) = true
  · rw [if_pos e, if_pos e]; exact r.repl k ry
  · rw [if_neg e, if_neg e]; exact Paired.snoc r ⟨rfl, ry⟩
theorem KV.drop {kvs : List (κ × V)} {vs : List (κ × Value)} (r : KV kvs vs) (k : κ) : KV (dropK kvs k) (without vs k) := by
  unfold KV at r ⊢
  unfold dropK without
  induction r with
  | nil => exact .nil
  | @cons p q ps qs h t ih =>
    obtain ⟨h1, h2⟩ := h
    rw [List.filter_cons, List.filter_cons]
    by_cases e : p.1 = k
    · have a : ¬ decide (p.1 ≠ k) = true := by simp [e]
      have b : ¬ decide (q.1 ≠ k) = true := by simp [h1.symm.trans e]
      rw [if_neg a, if_neg b]; exact ih
    · have e' : ¬ q.1 = k := fun z => e (h1.trans z)
      have a : decide (p.1 ≠ k) = true := by simp [e]
      have b : decide (q.1 ≠ k) = true := by simp [e']
      rw [if_pos a, if_pos b]; exact .cons ⟨h1, h2⟩ ih
theorem KV.length {kvs : List (κ × V)} {vs : List (κ × Value)} (r : KV kvs vs) : kvs.length = vs.length := Paired.length r
theorem dropK_le (kvs : List (κ × V)) (k : κ) : (dropK kvs k).length <= kvs.length := List.length_filter_le _ _
end
theorem kV_is {P : Program} {w : World} {k : Key} {u : Value} (r : RelV (kV k) u) : (mixKind P w).is k u = true := by
  cases k with
  | inl i => obtain ⟨t, e⟩ := (show ∃ t, u = Value.int i t from r); subst e; exact mixKind_int P w i t
  | inr x => obtain ⟨t, e⟩ := (show ∃ t, u = Value.str x t from r); subst e; exact mixKind_str P w x t
theorem items_are {P : Program} {w : World} : ∀ {ks : List Key} {us : List Value}, Vals (ks.map kV) us -> ItemsAre (mixKind P w) ks us
  | [], _, r => by rw [List.map_nil] at r; cases r; exact .nil
  | k :: ks, _, r => by
    rw [List.map_cons] at r
    cases r with
    | cons h t => exact .cons (kV_is h) (items_are t)
noncomputable abbrev KT (H : Hp) : List (List Key × V) -> List (List Key × Addr × Value) -> Prop := Paired fun p q => p.1 = q.1 /\ H q.2.1 = some (.tup (p.1.map kV)) /\ RelV p.2 q.2.2
theorem KT.val {H : Hp} {kvs : List (List Key × V)} {xs : List (List Key × Addr × Value)} (r : KT H kvs xs) (k : List Key) : RelO (valV kvs k) ((atKey xs k).map (·.2)) := by
  induction r with
  | nil => exact True.intro
  | @cons p q ps qs h t ih =>
    obtain ⟨h1, _, h2⟩ := h
    by_cases e : p.1 = k
    · have e' : q.1 = k := h1.symm.trans e
      have b : atKey (q :: qs) k = some q.2 := by simp [atKey, List.find?_cons, e']
      rw [valV_pos e, b]; exact h2
    · have e' : ¬ q.1 = k := fun z => e (h1.trans z)
      have b : atKey (q :: qs) k = atKey qs k := by simp [atKey, List.find?_cons, e']
      rw [valV_neg e, b]; exact ih
theorem KT.repl {H : Hp} {kvs : List (List Key × V)} {xs : List (List Key × Addr × Value)} (r : KT H kvs xs) (k : List Key) {y : V} {u : Value} (ry : RelV y u) :
    KT H (kvs.map fun kv => if kv.1 = k then (kv.1, y) else kv) (xs.map (putAt k u)) := by
  induction r with
  | nil => exact .nil
  | @cons p q ps qs h t ih =>
    rw [List.map_cons, List.map_cons]
    refine .cons ?_ ih
    obtain ⟨h1, h2, h3⟩ := h
    unfold putAt
    by_cases e : p.1 = k
    · rw [if_pos e, if_pos (h1.symm.trans e)]; exact ⟨h1, h2, ry⟩
    · rw [if_neg e, if_neg (fun z => e (h1.trans z))]; exact ⟨h1, h2, h3⟩
theorem KT.put {H : Hp} {kvs : List (List Key × V)} {xs : List (List Key × Addr × Value)} (r : KT H kvs xs) (k : List Key) {b : Addr} {y : V} {u : Value} (hb : H b = some (.tup (k.map kV))) (ry : RelV y u) :
    KT H (putK kvs k y) (storedH xs k b u) := by
  have e : (kvs.any fun kv => decide (kv.1 = k)) = (atKey xs k).isSome := by
    rw [valV_any, (r.val k).isSome_eq, Option.isSome_map]
  unfold putK storedH
  rw [e]
  by_cases q : (atKey xs k).isSome = true
  · rw [if_pos q, if_pos q]; exact r.repl k ry
  · rw [if_neg q, if_neg q]; exact Paired.snoc r ⟨rfl, hb, ry⟩
theorem KT.keeps {H H' : Hp} {kvs : List (List Key × V)} {xs : List (List Key × Addr × Value)} (r : KT H kvs xs) (ht : ∀ b ys, H b = some (.tup ys) -> H' b = some (.tup ys)) : KT H' kvs xs :=
  Paired.mapP r fun _ _ z => ⟨z.1, ht _ _ z.2.1, z.2.2⟩
section
variable {P : Program} {w : World} {H : Hp} {h : Heap} {a : Addr}
theorem rd_of {u : HO} (ok : HOk P w H h) (e : Rd H a u) : ObjOk P w H h a u := e.ok ok
theorem dk_rd {kvs : List (Key × V)} (ok : HOk P w H h) (e : Rd H a (.dK kvs)) : kvs.length <= sizeLine /\ (a == sysModules) = false /\ ∃ vs, KV kvs vs /\ h.DictOf (mixKind P w) a vs :=
  show ObjOk P w H h a (.dK kvs) from rd_of ok e
theorem dk_of {kvs : List (Key × V)} (ok : HOk P w H h) (e : H a = some (.dK kvs)) : kvs.length <= sizeLine /\ (a == sysModules) = false /\ ∃ vs, KV kvs vs /\ h.DictOf (mixKind P w) a vs := dk_rd ok (.inl e)
theorem key_of {ks : List Key} (ok : HOk P w H h) (e : H a = some (.tup (ks.map kV))) : (tupleKind (mixKind P w)).is h ks a := by
  obtain ⟨_, its, r, o, h1, h2, n, h3⟩ := (show ObjOk P w H h a (.tup (ks.map kV)) from ok a _ e)
  exact ⟨o, its.toArray, n, h1, h2, h3, by simpa using items_are r⟩
theorem dt_rd {kvs : List (List Key × V)} (ok : HOk P w H h) (e : Rd H a (.dT kvs)) : kvs.length <= sizeLine /\ (a == sysModules) = false /\
    ∃ xs, KT H kvs xs /\ h.DictOfH (tupleKind (mixKind P w)) a xs := by
  obtain ⟨z, y, xs, r, o, es, ep, h1, h2, h3, h4, h5⟩ := (show ObjOk P w H h a (.dT kvs) from rd_of ok e)
  refine ⟨z, y, xs, r, o, es, ep, h1, h2, h3, h4, fun x hx => ?_, h5⟩
  have all : ∀ {l : List (List Key × V)} {m : List (List Key × Addr × Value)}, KT H l m -> ∀ x ∈ m, (tupleKind (mixKind P w)).is h x.1 x.2.1 := by
    intro l m q
    induction q with
    | nil => intro x hx; exact nomatch hx
    | @cons p q ps qs hq t ih =>
      intro x hx
      rcases List.mem_cons.mp hx with e | hx
      · subst e
        exact key_of ok (by rw [<- hq.1]; exact hq.2.1)
      · exact ih x hx
  exact all r x hx
theorem dt_of {kvs : List (List Key × V)} (ok : HOk P w H h) (e : H a = some (.dT kvs)) : kvs.length <= sizeLine /\ (a == sysModules) = false /\
    ∃ xs, KT H kvs xs /\ h.DictOfH (tupleKind (mixKind P w)) a xs := dt_rd ok (.inl e)
end
noncomputable def DGet (H : Hp) (a : Addr) (y : V) (r : Option V) : Prop :=
  (∃ kvs k, Rd H a (.dK kvs) /\ y = kV k /\ r = valV kvs k) ∨ ∃ kvs k b, Rd H a (.dT kvs) /\ y = .ref b /\ H b = some (.tup (k.map kV)) /\ r = valV kvs k
noncomputable def DPut (H : Hp) (a : Addr) (y v : V) (H' : Hp) : Prop :=
  (∃ kvs k, H a = some (.dK kvs) /\ y = kV k /\ kvs.length < sizeLine /\ H' = upd H a (.dK (putK kvs k v))) ∨
  ∃ kvs k b, H a = some (.dT kvs) /\ y = .ref b /\ H b = some (.tup (k.map kV)) /\ kvs.length < sizeLine /\ H' = upd H a (.dT (putK kvs k v))
theorem DGet.k {H : Hp} {a : Addr} {kvs : List (Key × V)} {k : Key} (e : H a = some (.dK kvs)) : DGet H a (kV k) (valV kvs k) := .inl ⟨kvs, k, .inl e, rfl, rfl⟩
theorem DPut.k {H : Hp} {a : Addr} {kvs : List (Key × V)} {k : Key} {v : V} (e : H a = some (.dK kvs)) (hl : kvs.length < sizeLine) : DPut H a (kV k) v (upd H a (.dK (putK kvs k v))) := .inl ⟨kvs, k, e, rfl, hl, rfl⟩
section
variable {X : Cx} {pins : List (Addr × Obj)} {σ : St} {H : Hp} {s : Shared} {a : Addr} {y v : V} {u r : Value} {o : Option V} {A : Around} {E : Value -> Shared -> Prop}
theorem Inv.big (I : Inv X pins σ H s) : sysModules < s.heap.objs.size := by
  have h : mainGlobals < s.heap.objs.size := (I.mod.glob.keeps I.bk).lt
  exact Nat.lt_trans (by decide) h
theorem d_getItem {Q : Value -> Shared -> Prop} (hu : A.units + 1 < cLine) (I : Inv X pins σ H s) (g : DGet H a y (some v)) (ry : RelV y u) (h : ∀ w' s', Inv X pins σ H s' -> RelV v w' -> Q w' s') :
    wpAny (model X.prog X.w) A (getItem (.ref a) u) Q E s := by
  rcases g with ⟨kvs, k, e, ey, l⟩ | ⟨kvs, k, b, e, ey, eb, l⟩
  · subst ey
    obtain ⟨z, hd, vs, rel, dd⟩ := dk_rd I.hok e
    obtain ⟨w', hw, rw'⟩ := RelO.some_of (v := v) (o := valueAt vs k) (by rw [l]; exact rel.val k)
    exact wpAny_getItem_of (kV_is ry) dd.mapOf hw (h w' _ (I.tok _) rw')
  · subst ey
    cases (show u = Value.ref b from ry)
    obtain ⟨z, hd, xs, rel, dd⟩ := dt_rd I.hok e
    obtain ⟨w', hw, rw'⟩ := RelO.some_of (v := v) (o := (atKey xs k).map (·.2)) (by rw [l]; exact rel.val k)
    obtain ⟨p, hp, hp2⟩ := Option.map_eq_some_iff.mp hw
    refine wpAny_getItem_heap (tupleKind_room_in1 hu) (key_of I.hok eb) dd hp ?_
    rw [hp2]
    exact h w' _ (I.tok _) rw'
theorem d_in {Q : Value -> Shared -> Prop} (hu : A.units + 1 < cLine) (I : Inv X pins σ H s) (g : DGet H a y o) (ry : RelV y u) (h : ∀ s', Inv X pins σ H s' -> Q (.bool o.isSome) s') :
    wpAny (model X.prog X.w) A (compareOp .In u (.ref a)) Q E s := by
  rcases g with ⟨kvs, k, e, ey, l⟩ | ⟨kvs, k, b, e, ey, eb, l⟩
  · subst ey
    obtain ⟨z, hd, vs, rel, dd⟩ := dk_rd I.hok e
    refine wpAny_in_of (kV_is ry) hd dd.mapOf ?_
    rw [<- (rel.val k).isSome_eq, <- l]
    exact h _ (I.tok _)
  · subst ey
    cases (show u = Value.ref b from ry)
    obtain ⟨z, hd, xs, rel, dd⟩ := dt_rd I.hok e
    refine wpAny_in_heap (tupleKind_room_in1 hu) (key_of I.hok eb) hd dd ?_
    have q := (rel.val k).isSome_eq
    rw [Option.isSome_map] at q
    rw [<- q, <- l]
    exact h _ (I.tok _)
theorem d_notIn {Q : Value -> Shared -> Prop} (hu : A.units + 1 < cLine) (I : Inv X pins σ H s) (g : DGet H a y o) (ry : RelV y u) (h : ∀ s', Inv X pins σ H s' -> Q (.bool (!o.isSome)) s') :
    wpAny (model X.prog X.w) A (compareOp .NotIn u (.ref a)) Q E s := by
  rcases g with ⟨kvs, k, e, ey, l⟩ | ⟨kvs, k, b, e, ey, eb, l⟩
  · subst ey
    obtain ⟨z, hd, vs, rel, dd⟩ := dk_rd I.hok e
    refine wpAny_notIn_of (kV_is ry) hd dd.mapOf ?_
    rw [<- (rel.val k).isSome_eq, <- l]
    exact h _ (I.tok _)
  · subst ey
    cases (show u = Value.ref b from ry)
    obtain ⟨z, hd, xs, rel, dd⟩ := dt_rd I.hok e
    refine wpAny_notIn_heap (tupleKind_room_in1 hu) (key_of I.hok eb) hd dd ?_
    have q := (rel.val k).isSome_eq
    rw [Option.isSome_map] at q
    rw [<- q, <- l]
    exact h _ (I.tok _)
theorem d_write {h' : Heap} {t' : Nat} {ob : HO} (I : Inv X pins σ H s) (mu : Mut (H a)) (hs : Heap.SameBut a s.heap h') (he : ∃ q, h'.get? a = some q) (new : ObjOk X.prog X.w (upd H a ob) h' a ob) :
    Inv X pins σ (upd H a ob) { s with heap := h', toks := t' } :=
  I.write (x := a) (e := a) mu (.inl rfl) (fun b q hb z => (hs.2 b hb).trans z) he new
theorem dk_new {P : Program} {w : World} {H' : Hp} {h' : Heap} {kvs : List (Key × V)} {vs : List (Key × Value)} (z : kvs.length <= sizeLine) (hd : (a == sysModules) = false) (rel : KV kvs vs) (dd : h'.DictOf (mixKind P w) a vs) :
    ObjOk P w H' h' a (.dK kvs) := ⟨z, hd, vs, rel, dd⟩
theorem d_setItem {H' : Hp} {Q : Unit -> Shared -> Prop} (hu : A.units + 1 < cLine) (I : Inv X pins σ H s) (g : DPut H a y v H') (ry : RelV y u) (rv : RelV v r) (h : ∀ s', Inv X pins σ H' s' -> Q () s') :
    wpAny (model X.prog X.w) A (setItem (.ref a) u r) Q E s := by
  rcases g with ⟨kvs, k, e, ey, l, eH⟩ | ⟨kvs, k, b, e, ey, eb, l, eH⟩
  · subst ey eH
    obtain ⟨z, hd, vs, rel, dd⟩ := dk_of I.hok e
    have hz : vs.length <= sizeLine := by rw [<- rel.length]; exact z
    have hl : (putK kvs k v).length <= sizeLine := by have := length_putK kvs k v; lia
    refine wpAny_setItem_pairs (hsz := hz) (kV_is ry) dd fun h' dd' hs => h _ ?_
    have he : ∃ q, h'.get? a = some q := let ⟨q, _, _, hq, _⟩ := dd'; ⟨q, hq⟩
    exact d_write I (by rw [e]; exact True.intro) hs he (dk_new hl hd (rel.put k rv) dd')
  · subst ey eH
    cases (show u = Value.ref b from ry)
    obtain ⟨z, hd, xs, rel, dd⟩ := dt_of I.hok e
    have hz : xs.length <= sizeLine := by rw [<- Paired.length rel]; exact z
    have hl : (putK kvs k v).length <= sizeLine := by have := length_putK kvs k v; lia
    refine wpAny_setItem_heap (hsz := hz) (tupleKind_room_in1 hu) (key_of I.hok eb) dd fun h' dd' hs => h _ ?_
    obtain ⟨q, es, ep, hq, h2, h3, h4, _, h5⟩ := dd'
    refine d_write I (by rw [e]; exact True.intro) hs ⟨q, hq⟩ ⟨hl, hd, _, (rel.put k eb rv).keeps fun c ys ec => ?_, q, es, ep, hq, h2, h3, h4, h5⟩
    rw [upd_ne (ne_of ec e (fun z => nomatch z))]
    exact ec
end
section
variable {X : Cx} {pins : List (Addr × Obj)} {σ : St} {H : Hp} {s : Shared} {a : Addr} {kvs : List (Key × V)} {k : Key} {u : Value} {A : Around} {E : Value -> Shared -> Prop}
theorem d_delItem {Q : Unit -> Shared -> Prop} (I : Inv X pins σ H s) (e : H a = some (.dK kvs)) (ry : RelV (kV k) u) (l : (valV kvs k).isSome = true) (h : ∀ s', Inv X pins σ (upd H a (.dK (dropK kvs k))) s' -> Q () s') :
    wpAny (model X.prog X.w) A (delItem (.ref a) u) Q E s := by
  obtain ⟨z, hd, vs, rel, dd⟩ := dk_of I.hok e
  refine wpAny_delItem_slot dd.typeIs (by decide) PySem.F.slot_dict_delitem
    (call_meetsIn PySem.F.slot_dict_delitem dd.typeIs PySem.F.entry_dict_delitem (PySem.F.args_dict_delitem_2 _ _) (meets_dict_delitem_pairs (mixKind X.prog X.w) a (kV_is ry)) ⟨vs, dd, by rw [<- rel.length]; exact z, by rw [<- (rel.val k).isSome_eq]; exact l, fun h' dd' hs => h _ ?_⟩)
  have he : ∃ q, h'.get? a = some q := let ⟨q, _, _, hq, _⟩ := dd'; ⟨q, hq⟩
  exact d_write I (by rw [e]; exact True.intro) hs he (dk_new (Nat.le_trans (dropK_le kvs k) z) hd (rel.drop k) dd')
theorem d_pop {v : V} {more : List Value} {Q : Value -> Shared -> Prop} (I : Inv X pins σ H s) (e : H a = some (.dK kvs)) (ry : RelV (kV k) u) (l : valV kvs k = some v) (hm : more = [] ∨ ∃ x, more = [x])
    (h : ∀ w' s', Inv X pins σ (upd H a (.dK (dropK kvs k))) s' -> RelV v w' -> Q w' s') : wpAny (model X.prog X.w) A (call (.builtin "dict.pop") (.ref a :: u :: more)) Q E s := by
  obtain ⟨z, hd, vs, rel, dd⟩ := dk_of I.hok e
  obtain ⟨w', hw, rw'⟩ := RelO.some_of (v := v) (o := valueAt vs k) (by rw [<- l]; exact rel.val k)
  have hp : (keyPart u).isSome = true := by
    cases k with
    | inl i => obtain ⟨t, q⟩ := (show ∃ t, u = Value.int i t from ry); subst q; rfl
    | inr x => obtain ⟨t, q⟩ := (show ∃ t, u = Value.str x t from ry); subst q; rfl
  have ha : argsOk "dict.pop" ⟨.ref a :: u :: more, []⟩ := by
    rcases hm with q | ⟨x, q⟩
    · subst q; exact PySem.F.args_dict_pop_2 _ _
    · subst q; exact PySem.F.args_dict_pop_3 _ _ _
  refine call_meetsIn PySem.F.slot_dict_pop dd.typeIs PySem.F.entry_dict_pop ha (meets_dict_pop_there (mixKind X.prog X.w) a (kV_is ry) more hm hp)
    ⟨vs, w', dd, by rw [<- rel.length]; exact z, hw, fun h' dd' hs => h w' _ ?_ rw'⟩
  have he : ∃ q, h'.get? a = some q := let ⟨q, _, _, hq, _⟩ := dd'; ⟨q, hq⟩
  exact d_write I (by rw [e]; exact True.intro) hs he (dk_new (Nat.le_trans (dropK_le kvs k) z) hd (rel.drop k) dd')
end
noncomputable def NoSl (i : Expr) : Prop := ∀ ov iv, subscripted i false ov iv = operate [ov, iv] (getItem ov iv)
theorem subD_of {prog : Program} {w : World} {A : Around} {E : Value -> Shared -> Prop} {s : Shared} {env : Env} {value slice : Expr} {pos : Pos} {T id : String} {Q : Value -> Shared -> Prop}
    (hl : typeLookup (.type T) "__getitem__" = pure (some (.builtin id))) (hs : NoSl slice)
    (h : wpAny (model prog w) A (eval value env) (fun o s₁ => wpAny (model prog w) A (eval slice env) (fun i s₂ => s₂.TypeIs o T /\ wpAny (model prog w) A (getItem o i) Q E s₂) E s₁) E s) :
    wpAny (model prog w) A (eval (.Subscript value slice pos) env) Q E s := by
  refine Subscript_ (wpAny_mono h (fun o s₁ h₁ => wpAny_mono h₁ (fun i s₂ h₂ => ?_) fun _ _ x => x) fun _ _ x => x)
  obtain ⟨hT, h₂⟩ := h₂
  unfold subscriptTail
  refine wpAny_bind ?_
  rw [getitemInPython_of_ne hT.not_modules]
  refine wpAny_bind (wpAny_specialOf hT hl ?_)
  have fin : wpAny (model prog w) A (subscripted slice false o i) (fun r s₃ => wpAny (model prog w) A (letTemporaryGo value o r >>= fun _ => pure r) Q E s₃) E s₂ := by
    rw [hs o i]
    exact wpAny_operating (wpAny_mono h₂ (fun r s₃ h₃ => wpAny_bind (wpAny_letTemporaryGo (wpAny_pure h₃))) fun _ _ x => x)
  first
    | exact wpAny_pure (wpAny_bind fin)
    | exact wpAny_bind (wpAny_pure (wpAny_bind fin))
    | exact wpAny_bind fin
theorem dict_typeIs {X : Cx} {pins : List (Addr × Obj)} {σ : St} {H : Hp} {s : Shared} {a : Addr} {y : V} {o : Option V} (I : Inv X pins σ H s) (g : DGet H a y o) : s.TypeIs (.ref a) "dict" := by
  rcases g with ⟨kvs, k, e, _, _⟩ | ⟨kvs, k, b, e, _, _, _⟩
  · obtain ⟨_, _, vs, _, dd⟩ := dk_rd I.hok e
    exact dd.typeIs
  · obtain ⟨_, _, xs, _, dd⟩ := dt_rd I.hok e
    exact dd.typeIs
noncomputable def tDGet (td ty : TE) : TE := fun σ H Q => td σ H fun x H1 => ty σ H1 fun y H2 => ∃ a v, x = .ref a /\ DGet H2 a y (some v) /\ Q v H2
noncomputable def tDIn (ty td : TE) : TE := fun σ H Q => ty σ H fun y H1 => td σ H1 fun x H2 => ∃ a o, x = .ref a /\ DGet H2 a y o /\ Q (.bl o.isSome) H2
noncomputable def tDNotIn (ty td : TE) : TE := fun σ H Q => ty σ H fun y H1 => td σ H1 fun x H2 => ∃ a o, x = .ref a /\ DGet H2 a y o /\ Q (.bl (!o.isSome)) H2
noncomputable def sDPut (td ty tv : TE) : TS := fun D σ H => tv σ H fun v H1 => td σ H1 fun x H2 => ty σ H2 fun y H3 => ∃ a H4, x = .ref a /\ DPut H3 a y v H4 /\ D.nx σ H4
section
variable {X : Cx} {o i e value : Expr} {pos pos' tpos : Pos} {td ty tv : TE}
theorem pe_dget (hu : X.A.units + 1 < cLine) (ho : PE X o td) (hi : PE X i ty) (hs : NoSl i) : PE X (.Subscript o i pos) (tDGet td ty) := by
  intro pins s σ H Q I h
  refine subD_of PySem.F.slot_dict_getitem.lookup hs (thn (ho pins s σ H _ I h) fun u s1 ⟨x, H1, I1, rx, q1⟩ => thn (hi pins s1 σ H1 _ I1 q1) fun iv s2 hq1 => ?_)
  obtain ⟨y, H2, I2, ry, a, v, ex, g, q2⟩ := hq1
  subst ex
  obtain rfl : u = Value.ref a := rx
  exact ⟨dict_typeIs I2 g, d_getItem hu I2 g ry fun w' s3 I3 rw' => ⟨v, H2, I3, rw', q2⟩⟩
theorem pc_din (hu : X.A.units + 1 < cLine) (hi : PE X i ty) (ho : PE X o td) : PC X .In i o (tDIn ty td) := by
  intro pins s σ H Q I h
  refine thn (hi pins s σ H _ I h) fun iv s1 ⟨y, H1, I1, ry, q1⟩ => thn (ho pins s1 σ H1 _ I1 q1) fun u s2 hq1 => ?_
  obtain ⟨x, H2, I2, rx, a, ov, ex, g, q2⟩ := hq1
  subst ex
  obtain rfl : u = Value.ref a := rx
  exact d_in hu I2 g ry fun s3 I3 => ⟨.bl ov.isSome, H2, I3, rfl, q2⟩
theorem pc_dnotin (hu : X.A.units + 1 < cLine) (hi : PE X i ty) (ho : PE X o td) : PC X .NotIn i o (tDNotIn ty td) := by
  intro pins s σ H Q I h
  refine thn (hi pins s σ H _ I h) fun iv s1 ⟨y, H1, I1, ry, q1⟩ => thn (ho pins s1 σ H1 _ I1 q1) fun u s2 hq1 => ?_
  obtain ⟨x, H2, I2, rx, a, ov, ex, g, q2⟩ := hq1
  subst ex
  obtain rfl : u = Value.ref a := rx
  exact d_notIn hu I2 g ry fun s3 I3 => ⟨.bl (!ov.isSome), H2, I3, rfl, q2⟩
theorem ps_dput (hu : X.A.units + 1 < cLine) (ho : PE X o td) (hi : PE X i ty) (hv : PE X value tv) (hs : swapsWith value (some (.Subscript o i pos')) pos.line X.env = pure false) :
    PS X (.Assign [.Subscript o i pos'] value pos) (sDPut td ty tv) := by
  intro pins s σ H D I h
  refine wpAny_Assign_Subscript (thn (hv pins s σ H _ I h) fun r s1 ⟨v, H1, I1, rv, q1⟩ => thn (ho pins s1 σ H1 _ I1 q1) fun u s2 ⟨x, H2, I2, rx, q2⟩ => thn (hi pins s2 σ H2 _ I2 q2) fun iv s3 hq1 => ?_) hs
  obtain ⟨y, H3, I3, ry, a, H4, ex, g, q3⟩ := hq1
  subst ex
  obtain rfl : u = Value.ref a := rx
  exact d_setItem hu I3 g ry rv fun s4 I4 => ⟨σ, H4, I4, q3⟩
end
theorem dk_empty {P : Program} {w : World} {H : Hp} (h : Heap) (hb : sysModules < h.objs.size) : ObjOk P w H (h.push { cls := .type "dict", data := .dict #[] }) h.objs.size (.dK []) :=
  ⟨Nat.zero_le _, beq_eq_false_iff_ne.mpr (Ne.symm (Nat.ne_of_lt hb)), [], .nil, Heap.DictOf.new h⟩
noncomputable def tDNewK : TE := fun _ H Q => ∀ p, H p = none -> Q (.ref p) (upd H p (.dK []))
section
variable {X : Cx} {pos : Pos}
theorem pe_dnewK : PE X (.Dict [] [] pos) tDNewK := fun pins s σ H Q I h =>
  wpAny_Dict_empty ⟨.ref s.heap.objs.size, _, I.laid (a := s.heap.objs.size) (o := .dK []) (t' := s.toks) (fun _ _ q => Heap.get?_push_of_some _ q) (Nat.le_refl _) (dk_empty s.heap I.big), rfl, h _ (I.hok.fresh (Nat.le_refl _))⟩
end
structure M1 (X : Cx) (o : Expr) (m : Str) (apos : Pos) (e : Expr) (cpos : Pos) : Prop where
  base : attributeBase o m X.env (eval o X.env) = eval o X.env
  few : ((backTo cpos (starEach [e] X.env)).all (fun x => !x.1) && (backToKw cpos (keywordEach [] X.env)).all (fun x => x.1.isSome)
    && decide (([e] : List Expr).length + ([] : List Keyword).length + (if ([] : List Keyword).isEmpty then 0 else 1) < 30)) = true
  line : (apos.endLine == cpos.line) = true
  trees : backTo cpos (starEach [e] X.env) = [(false, eval e X.env)]
section
variable {X : Cx} {pins : List (Addr × Obj)} {σ : St} {H : Hp} {s : Shared} {a : Addr} {y d : V} {u r : Value} {o : Option V} {A : Around} {E : Value -> Shared -> Prop}
theorem d_get1 {Q : Value -> Shared -> Prop} (hu : A.units + 1 < cLine) (I : Inv X pins σ H s) (g : DGet H a y o) (ry : RelV y u) (h : ∀ w' s', Inv X pins σ H s' -> RelV (o.getD .non) w' -> Q w' s') :
    wpAny (model X.prog X.w) A (call (.builtin "dict.get") [.ref a, u]) Q E s := by
  rcases g with ⟨kvs, k, e, ey, l⟩ | ⟨kvs, k, b, e, ey, eb, l⟩
  · subst ey
    obtain ⟨z, hd, vs, rel, dd⟩ := dk_rd I.hok e
    refine call_meetsIn PySem.F.slot_dict_get dd.typeIs PySem.F.entry_dict_get (PySem.F.args_dict_get_2 _ _) (meets_dict_get (mixKind X.prog X.w) a (kV_is ry) hd) ⟨_, dd.mapOf, h _ _ (I.tok _) ?_⟩
    rw [l]
    exact (rel.val k).getD rfl
  · subst ey
    cases (show u = Value.ref b from ry)
    obtain ⟨z, hd, xs, rel, dd⟩ := dt_rd I.hok e
    refine call_meetsIn PySem.F.slot_dict_get dd.typeIs PySem.F.entry_dict_get (PySem.F.args_dict_get_2 _ _) (meetsH_dict_get (tupleKind (mixKind X.prog X.w)) a b hd) ⟨tupleKind_room_in1 hu, k, xs, key_of I.hok eb, dd, h _ _ (I.tok _) ?_⟩
    rw [l]
    exact (rel.val k).getD rfl
end
section
variable {X : Cx} {o e f : Expr} {apos cpos : Pos} {td ty tx : TE}
end
section
variable {X : Cx} {pins : List (Addr × Obj)} {σ : St} {H : Hp} {s : Shared} {a : Addr} {kvs : List (Key × V)} {A : Around} {E : Value -> Shared -> Prop}
end
section
variable {X : Cx} {pins : List (Addr × Obj)} {σ : St} {H : Hp} {s : Shared} {a : Addr} {y : V} {u : Value} {A : Around} {E : Value -> Shared -> Prop}
end
section
variable {X : Cx}
end
section
variable {κ : Type} [DecidableEq κ]
theorem valV_not {kvs : List (κ × V)} {k : κ} (h : valV kvs k = none) : ¬ k ∈ kvs.map (·.1) := by
  intro m
  obtain ⟨p, hp, e⟩ := List.mem_map.mp m
  have q : (kvs.any fun kv => decide (kv.1 = k)) = true := List.any_eq_true.mpr ⟨p, hp, decide_eq_true e⟩
  rw [valV_any, h] at q
  exact absurd q (by simp)
end
end L2
namespace L2
open PySem PySem.Spec PyProof.Rows
noncomputable def PIf (X : Cx) (ifs : List Expr) (t : TT) : Prop :=
  ∀ (pins : List (Addr × Obj)) (s : Shared) (σ : St) (H : Hp) (Q : Bool -> Hp -> Prop), Inv X pins σ H s -> t σ H Q ->
    wpAny (model X.prog X.w) X.A (forIn ifs true fun c r => if r = true then do let ok <- isTrue c X.env (eval c X.env); pure (ForInStep.yield ok) else pure (ForInStep.yield r)) (TP X pins σ Q) X.xe s
noncomputable def tAll : TT := fun _ H Q => Q true H
theorem pif_nil {X : Cx} : PIf X [] tAll := fun pins s σ H Q I h => wpAny_tests_nil ⟨H, I, h⟩
theorem pif_one {X : Cx} {c : Expr} {t : TT} (h : PT X c t) : PIf X [c] t := fun pins s σ H Q I q => wpAny_tests_one (h pins s σ H Q I q)
noncomputable def closL (cells : List (Str × Addr)) : List (Str × NameKind) -> List (Str × Addr) -> List (Str × Addr)
  | [], acc => acc
  | (n, k) :: r, acc => if k == .free then (match cells.lookup n with | some a => closL cells r ((n, a) :: acc) | none => closL cells r acc) else closL cells r acc
theorem closL_of {cells : List (Str × Addr)} {x : Str} {c : Addr} : ∀ {names : List (Str × NameKind)} {acc : List (Str × Addr)}, (closL cells names acc).lookup x = some c ->
    acc.lookup x = some c ∨ ((x, NameKind.free) ∈ names /\ cells.lookup x = some c)
  | [], acc, h => .inl h
  | (n, k) :: r, acc, h => by
    unfold closL at h
    split at h
    · rename_i hk
      have hk' : k = .free := by simpa using hk
      subst hk'
      cases e : cells.lookup n with
      | none =>
        rw [e] at h
        rcases closL_of h with h | ⟨h1, h2⟩
        · exact .inl h
        · exact .inr ⟨List.mem_cons_of_mem _ h1, h2⟩
      | some a =>
        rw [e] at h
        have h : (closL cells r ((n, a) :: acc)).lookup x = some c := h
        rcases closL_of h with q | ⟨h1, h2⟩
        · rw [List.lookup_cons] at q
          cases hx : x == n with
          | true =>
            rw [hx] at q
            have q : some a = some c := q
            have ex : x = n := by simpa using hx
            rw [ex]
            exact .inr ⟨List.mem_cons_self, e.trans q⟩
          | false => rw [hx] at q; exact .inl q
        · exact .inr ⟨List.mem_cons_of_mem _ h1, h2⟩
    · rcases closL_of h with h | ⟨h1, h2⟩
      · exact .inl h
      · exact .inr ⟨List.mem_cons_of_mem _ h1, h2⟩
theorem closL_has {cells : List (Str × Addr)} {x : Str} {c : Addr} (hc : cells.lookup x = some c) : ∀ {names : List (Str × NameKind)} {acc : List (Str × Addr)}, acc.lookup x = some c ∨ (acc.lookup x = none /\ (x, NameKind.free) ∈ names) ->
    (closL cells names acc).lookup x = some c
  | [], acc, h => by
    rcases h with h | ⟨_, h⟩
    · exact h
    · cases h
  | (n, k) :: r, acc, h => by
    unfold closL
    by_cases hx : x = n
    · subst hx
      by_cases hk : k = .free
      · subst hk
        rw [if_pos (by rfl), hc]
        exact closL_has hc (.inl (by rw [List.lookup_cons]; simp))
      · rw [if_neg (by simpa using hk)]
        refine closL_has hc ?_
        rcases h with h | ⟨h1, h2⟩
        · exact .inl h
        · rcases List.mem_cons.mp h2 with h2 | h2
          · exact absurd (Prod.mk.inj h2).2.symm hk
          · exact .inr ⟨h1, h2⟩
    · have tl : ∀ a, List.lookup x ((n, a) :: acc) = acc.lookup x := fun a => by
        rw [List.lookup_cons]
        have : (x == n) = false := by simpa using hx
        rw [this]
      have hr : acc.lookup x = some c ∨ (acc.lookup x = none /\ (x, NameKind.free) ∈ r) := by
        rcases h with h | ⟨h1, h2⟩
        · exact .inl h
        · rcases List.mem_cons.mp h2 with h2 | h2
          · exact absurd (Prod.mk.inj h2).1 hx
          · exact .inr ⟨h1, h2⟩
      split
      · cases e : cells.lookup n with
        | none => exact closL_has hc hr
        | some a => exact closL_has hc (by rw [tl]; exact hr)
      · exact closL_has hc hr
theorem closureFor_eq {scope : Scope} {env : Env} (h : ∀ x ∈ scope.names, x.2 = .free -> ∃ c, env.cells.lookup x.1 = some c) : closureFor scope env = pure (closL env.cells scope.names []) := by
  have go : ∀ (l : List (Str × NameKind)) (acc : List (Str × Addr)), (∀ x ∈ l, x.2 = .free -> ∃ c, env.cells.lookup x.1 = some c) ->
      (forIn l acc fun (x : Str × NameKind) (cs : List (Str × Addr)) => (match x with | (name, kind) => if kind == .free then do let __do_lift <- cellOf env name; pure (ForInStep.yield ((name, __do_lift) :: cs)) else pure (ForInStep.yield cs) : Sem (ForInStep (List (Str × Addr))))) = pure (closL env.cells l acc) := by
    intro l
    induction l with
    | nil => intro acc _; rfl
    | cons x r ih =>
      intro acc hl
      obtain ⟨n, k⟩ := x
      rw [List.forIn_cons]
      have hr := ih
      by_cases hk : k = .free
      · subst hk
        obtain ⟨c, hc⟩ := hl (n, .free) List.mem_cons_self rfl
        simp only [beq_self_eq_true, if_true, cellOf, hc, closL]
        exact ih _ fun y hy => hl y (List.mem_cons_of_mem _ hy)
      · have hb : (k == NameKind.free) = false := by simpa using hk
        simp only [hb, Bool.false_eq_true, if_false, closL]
        exact ih _ fun y hy => hl y (List.mem_cons_of_mem _ hy)
  have this := go scope.names [] h
  unfold closureFor
  refine (congrArg (fun (m : Sem (List (Str × Addr))) => (m >>= fun s => pure s)) this).trans ?_
  rfl
theorem map_look {f : Str × NameKind -> Str × NameKind} (f1 : ∀ p, (f p).1 = p.1) (f2 : ∀ p, p.2 ≠ .free -> f p = p) {x : Str} : ∀ {names : List (Str × NameKind)}, (∀ y ∈ names, y.2 ≠ .cell) ->
    ((names.map f).lookup x = some .cell ∨ (names.map f).lookup x = some .free) -> names.lookup x = some .free
  | [], _, h => by rcases h with h | h <;> cases h
  | p :: r, hn, h => by
    have ih := @map_look f f1 f2 x r fun y hy => hn y (List.mem_cons_of_mem _ hy)
    have h0 : p.2 ≠ .cell := hn p List.mem_cons_self
    obtain ⟨n, k⟩ := p
    have e1 := f1 (n, k)
    rw [List.map_cons] at h
    cases e : f (n, k) with
    | mk n' k' =>
      rw [e] at h e1
      have e1 : n' = n := e1
      subst e1
      rw [List.lookup_cons] at h
      rw [List.lookup_cons]
      cases hx : x == n' with
      | true =>
        rw [hx] at h
        by_cases hk : k = .free
        · rw [hk]
        · rw [f2 (n', k) hk] at e
          cases e
          rcases h with h | h
          · exact absurd (Option.some.inj h) h0
          · exact h
      | false =>
        rw [hx] at h
        exact ih h
theorem map_free {f : Str × NameKind -> Str × NameKind} (f1 : ∀ p, (f p).1 = p.1) (f3 : ∀ p, p.2 = .free -> (f p).2 = .cell ∨ (f p).2 = .free) {x : Str} : ∀ {names : List (Str × NameKind)}, names.lookup x = some .free ->
    ((names.map f).lookup x = some .cell ∨ (names.map f).lookup x = some .free)
  | [], h => by cases h
  | p :: r, h => by
    have ih := @map_free f f1 f3 x r
    obtain ⟨n, k⟩ := p
    have e1 := f1 (n, k)
    have e3 := f3 (n, k)
    rw [List.map_cons]
    cases e : f (n, k) with
    | mk n' k' =>
      rw [e] at e1 e3
      have e1 : n' = n := e1
      subst e1
      rw [List.lookup_cons] at h
      rw [List.lookup_cons]
      cases hx : x == n' with
      | true =>
        rw [hx] at h
        rcases e3 (Option.some.inj h) with q | q
        · exact .inl (congrArg some q)
        · exact .inr (congrArg some q)
      | false =>
        rw [hx] at h
        exact ih h
theorem relabel_look {env : Env} {scope : Scope} {x : Str} (hn : ∀ y ∈ scope.names, y.2 ≠ .cell) (h : (relabel scope env).names.lookup x = some .cell ∨ (relabel scope env).names.lookup x = some .free) : scope.names.lookup x = some .free := by
  refine map_look (fun p => ?_) (fun p hp => ?_) hn h
  · obtain ⟨n, k⟩ := p
    show (if _ then (n, NameKind.cell) else (n, k)).1 = n
    split <;> rfl
  · obtain ⟨n, k⟩ := p
    show (if (k == NameKind.free && _ && _) = true then (n, NameKind.cell) else (n, k)) = (n, k)
    have hb : (k == NameKind.free) = false := by simpa using hp
    rw [if_neg (by simp [hb])]
theorem relabel_free {env : Env} {scope : Scope} {x : Str} (h : scope.names.lookup x = some .free) : (relabel scope env).names.lookup x = some .cell ∨ (relabel scope env).names.lookup x = some .free := by
  refine map_free (fun p => ?_) (fun p hp => ?_) h
  · obtain ⟨n, k⟩ := p
    show (if _ then (n, NameKind.cell) else (n, k)).1 = n
    split <;> rfl
  · obtain ⟨n, k⟩ := p
    show (if _ then (n, NameKind.cell) else (n, k)).2 = _ ∨ (if _ then (n, NameKind.cell) else (n, k)).2 = _
    split
    · exact .inl rfl
    · exact .inr hp
noncomputable def Cx.blk (X : Cx) (scope : Scope) (N : List Str) (C : Addr) (s : Shared) (H : Hp) (fp : List Addr) (pins : List (Addr × Obj)) : Cx where
  prog := X.prog
  w := X.w
  K := X.K
  mg := X.mg
  base := X.base
  A := X.A
  N := N
  s₀ := s
  H₀ := H
  env := compEnvC scope (closL X.env.cells scope.names []) C X.env
  outer := X.stack
  stack := X.stack
  ex := fp
  fn := fun _ => false
  calm := X.calm
  pn := X.pn ++ pins
  xe := X.xe
structure CSc (X : Cx) (scope : Scope) (own taken : List Str) (caps : List Nat) : Prop where
  kind : scope.kind = .function
  nocell : ∀ y ∈ scope.names, y.2 ≠ .cell
  locs : ∀ y ∈ scope.names, y.2 = .local -> scope.names.lookup y.1 = some .local
  free : ∀ y ∈ scope.names, y.2 = .free -> X.env.kindOf y.1 = some .cell ∨ X.env.kindOf y.1 = some .free
  at_ : caps.map (X.N[·]?) = taken.map some
  took : ∀ y ∈ taken, scope.names.lookup y = some .free
noncomputable def blkSt (k : Nat) (caps : List Nat) (σ : St) : St := List.replicate k none ++ caps.map fun j => (σ[j]?).join
theorem mem_of_look {α : Type} {x : Str} {a : α} {l : List (Str × α)} (h : l.lookup x = some a) : (x, a) ∈ l := PySem.mem_of_lookup h
theorem Inv.blk {X : Cx} {pins : List (Addr × Obj)} {σ : St} {H : Hp} {s : Shared} {scope : Scope} {own taken : List Str} {caps : List Nat} {C : Addr} {fp : List Addr} {h' : Heap} {t' : Nat} {m : Str -> Option Value}
    (I : Inv X pins σ H s) (S : CSc X scope own taken caps) (hf : ∀ b ∈ fp, FpOk X pins H b) (hlt : ∀ b ∈ fp, b < s.heap.objs.size) (hC : s.heap.objs.size <= C) (hn : h'.Ns C m) (kp : ∀ b o, s.heap.get? b = some o -> h'.get? b = some o) :
    Inv (X.blk scope (own ++ taken) C s H fp pins) [] (blkSt own.length caps σ) H { s with heap := h', toks := t' } := by
  have look : ∀ {x : Str} {c : Addr}, (closL X.env.cells scope.names []).lookup x = some c -> X.env.cells.lookup x = some c := fun h => by
    rcases closL_of h with h | ⟨_, h⟩
    · cases h
    · exact h
  have lenT : caps.length = taken.length := by
    have := congrArg List.length S.at_
    simpa using this
  have ok : (X.blk scope (own ++ taken) C s H fp pins).Ok := {
    mod := I.ok.mod
    kind := S.kind
    glob := I.ok.glob
    blt := I.ok.blt
    above := hC
    inj := fun x y c h1 h2 => I.ok.inj x y c (look h1) (look h2)
    has := fun x hx => by
      have q : scope.names.lookup x = some .free := relabel_look (env := X.env) S.nocell hx
      have m1 := mem_of_look q
      obtain ⟨c, hc⟩ := I.ok.has x (S.free _ m1 rfl)
      exact ⟨c, closL_has hc (.inr ⟨rfl, m1⟩)⟩
    cab := fun x c h _ => by cases h
    hd := I.ok.hd
    frames := I.ok.frames
    stk := .inl rfl
    exf := fun b hb => ⟨Nat.ne_of_lt (Nat.lt_of_lt_of_le (hlt b hb) hC), fun x c h => (hf b hb).2.2.2.2.1 x c (look h)⟩
    bs := I.bs
    bsz := Nat.le_trans I.ok.bsz I.sz
    noex := fun b o e hb => by
      rcases (hf b hb).2.2.2.1 with z | z
      · exact I.ok.noex b o e z
      · exact absurd (Nat.lt_of_lt_of_le (Heap.lt_size e) (Nat.le_trans I.ok.bsz z)) (Nat.lt_irrefl _)
    exfs := fun b hb z => (List.mem_cons.mp (I.stkSub b z)).elim (hf b hb).2.1 (hf b hb).2.2.1
    funs := I.stack
    frf := I.stkFree }
  refine ⟨ok, rfl, I.bare, Un.kept kp, ⟨m, hn, fun i x v h1 h2 h3 => ?_⟩, fun x c h => ?_, I.hok.fresh hC, fun x c h => I.freeC x c (look h), fun p hp => ?_, I.hok.kept kp, ?_⟩
  · have h1 : (own ++ taken)[i]? = some x := h1
    unfold blkSt at h2
    by_cases hi : i < own.length
    · rw [List.getElem?_append_left (by simpa using hi), List.getElem?_replicate] at h2
      split at h2 <;> cases h2
    · have hi' : own.length <= i := Nat.le_of_not_lt hi
      rw [List.getElem?_append_right (by simpa using hi'), List.length_replicate, List.getElem?_map] at h2
      rw [List.getElem?_append_right hi'] at h1
      cases ej : caps[i - own.length]? with
      | none => rw [ej] at h2; cases h2
      | some j =>
        rw [ej] at h2
        have h2 : (σ[j]?).join = some v := Option.some.inj h2
        have hσ : σ[j]? = some (some v) := by
          cases e : σ[j]? with
          | none => rw [e] at h2; cases h2
          | some o => rw [e] at h2; exact congrArg some h2
        have hNj : X.N[j]? = some x := by
          have q := congrArg (fun l => l[i - own.length]?) S.at_
          simp only [List.getElem?_map, ej, h1, Option.map_some] at q
          exact Option.some.inj q
        have fx : scope.names.lookup x = some .free := S.took x (List.mem_of_getElem? h1)
        have kx := S.free _ (mem_of_look fx) rfl
        obtain ⟨mX, hnX, lX⟩ := I.loc
        obtain ⟨u, ru, lk⟩ := lX j x v hNj hσ (Or.inr kx)
        refine ⟨u, ru, .inr ⟨relabel_free fx, ?_⟩⟩
        rcases lk with ⟨k1, _⟩ | ⟨_, c, hc, ic⟩
        · have k1 : X.env.kindOf x = some .local := k1
          rcases kx with kx | kx <;> (rw [k1] at kx; cases kx)
        · exact ⟨c, closL_has hc (.inr ⟨rfl, mem_of_look fx⟩), ic.keeps kp⟩
  · obtain ⟨v, q⟩ := I.cell x c (look h)
    exact ⟨v, q.keeps kp⟩
  · have hp : p ∈ (X.pn ++ pins) ++ [] := hp
    rw [List.append_nil] at hp
    obtain ⟨e, n, ne, nf, d⟩ := I.pin p hp
    exact ⟨kp _ _ e, n, Nat.ne_of_lt (Nat.lt_of_lt_of_le (Heap.lt_size e) hC), fun z => (List.mem_cons.mp (I.stkSub p.1 z)).elim ne nf, d⟩
  · unfold blkSt
    show _ = (own ++ taken).length
    rw [List.length_append, List.length_append, List.length_replicate, List.length_map, lenT]
theorem Un.over {fs ex : List Addr} {H H' : Hp} {h h1 h2 : Heap} {D : Addr} {o : HO} (u : Un fs ex H H' h h1) (hD : h.get? D = none) (hHD : H D = none) (hC : ∀ b o, h.get? b = some o -> h2.get? b = h1.get? b) : Un fs ex H (upd H' D o) h h2 := by
  have nD : ∀ b q, h.get? b = some q -> b ≠ D := fun b q e z => by rw [z, hD] at e; cases e
  have nH : ∀ b q, H b = some q -> b ≠ D := fun b q e z => by rw [z, hHD] at e; cases e
  refine ⟨fun b q e n hb hx => ?_, fun b q e n hb hx => ?_, fun b q e n hx => ?_, fun b q e hx => ?_, fun b xs e => ?_, fun b q v e => ?_, fun b ps e => ?_⟩
  · rw [hC b q e]; exact u.keep b q e n hb hx
  · rw [hC b q e]; exact u.slot b q e n hb hx
  · rw [upd_ne (nD b q e)]; exact u.free b q e n hx
  · rw [hC b q e]; exact u.there b q e hx
  · rw [upd_ne (nH b _ e)]; exact u.tups b xs e
  · rw [upd_ne (nH b _ e)]; exact u.frzs b q v e
  · rw [upd_ne (nH b _ e)]; exact u.tbls b ps e
theorem HOk.over {P : Program} {w : World} {H : Hp} {h h' : Heap} {D C : Addr} {o : HO} (ok : HOk P w H h) (hD : H D = none) (hC : H C = none) (k : ∀ b u, b ≠ C -> h.get? b = some u -> h'.get? b = some u) (new : ObjOk P w (upd H D o) h' D o) : HOk P w (upd H D o) h' := fun b u e => by
  by_cases hb : b = D
  · subst hb
    rw [upd_same] at e
    cases e
    exact new
  · rw [upd_ne hb] at e
    have nC : ∀ {c v}, H c = some v -> c ≠ C := fun {c v} q z => by rw [z, hC] at q; cases q
    have nD : ∀ {c v}, H c = some v -> c ≠ D := fun {c v} q z => by rw [z, hD] at q; cases q
    refine (ok b u e).stay (fun c v hc q => k c v ?_ q) (fun c q => ?_) fun c xs q => ?_
    · rcases hc with z | z
      · rw [z]; exact nC e
      · exact nC z
    · rw [upd_ne (nD q)]; exact q
    · rw [upd_ne (nD q)]; exact q
noncomputable def Wk (k : Nat) (σ σ' : St) : Prop := σ'.length = σ.length /\ ∀ i, k <= i -> σ'[i]? = σ[i]?
noncomputable def GW (k : Nat) (t : TG) : Prop := ∀ v σ H (Q Q' : St -> Hp -> Prop), (∀ σ' H', Wk k σ σ' -> Q σ' H' -> Q' σ' H') -> t v σ H Q -> t v σ H Q'
theorem gw_name {k i : Nat} (h : i < k) : GW k (gName i) := fun v σ H Q Q' f q => f _ _ ⟨List.length_set, fun j hj => List.getElem?_set_ne (by lia)⟩ q
noncomputable def tComp (wi : TI) (g : TG) (tc : TT) (te : TE) (k : Nat) (caps : List Nat) : TE := fun σ H Q => wi σ H fun J H1 =>
  ∃ W : Nat -> Nat -> List V -> Hp -> Prop, (∃ m, W 0 m [] H1) /\ ∀ i m acc H2, W i m acc H2 ->
    (J.stop i H2 /\ i <= sizeLine /\ ∀ p, H2 p = none -> Q (.ref p) (upd H2 p (.lst acc))) ∨
    (J.go i H2 /\ i < sizeLine /\ ∃ N : List V -> Hp -> Prop, (∀ acc' H', N acc' H' -> ∃ m', m' < m /\ W (i + 1) m' acc' H') /\ ∀ x H3, J.yld i H2 x H3 -> g x (blkSt k caps σ) H3 fun σ4 H4 => tc σ4 H4 fun b H5 =>
      if b = true then te σ4 H5 fun y H6 => N (acc ++ [y]) H6 else N acc H5)
theorem comp_loop {prog : Program} {w : World} {A : Around} {R : Result -> Shared -> Prop} {s : Shared} {elt target iter : Expr} {ifs : List Expr} {scope : Scope} {pos : Pos} {it acc : Value} {env : Env} (I : Nat -> Shared -> Prop)
    (turn : ∀ n s, I n s -> wpAny (model prog w) A (pyNext it) (fun r s₁ => match r with
      | none => R (.ok .next) s₁
      | some v => wpAny (model prog w) A (letOwnedTupleGo target it v) (fun _ s₁' => wpAny (model prog w) A (assign target env v) (fun _ s₂ =>
          wpAny (model prog w) A (forIn ifs true fun c r => if r = true then do let ok <- isTrue c env (eval c env); pure (ForInStep.yield ok) else pure (ForInStep.yield r)) (fun ok s₃ =>
            if ok = true then wpAny (model prog w) A (eval elt env) (fun x s₄ =>
              wpAny (model prog w) A (call (.builtin "list.append") [acc, x]) (fun _ s₅ => ∃ m, m < n /\ I m s₅) (fun _ _ => False) s₄) (fun _ _ => False) s₃
            else ∃ m, m < n /\ I m s₃) (fun _ _ => False) s₂) (fun _ _ => False) s₁') (fun _ _ => False) s₁) (fun _ _ => False) s)
    (n : Nat) (h : I n s) :
    codeAny (model prog w) A (.compLoop (.ListComp elt [⟨target, iter, ifs, 0⟩] scope pos) 0 it acc env) R s := by
  refine codeAny_loop rfl I (fun n s hI => ?_) n h
  show wpAny _ A ((compTurn (.ListComp elt [⟨target, iter, ifs, 0⟩] scope pos) 0 it acc env).onRaise (fun x => do noteFrame x env; theTreesLotGoes x)) _ _ s
  refine wpAny_noted ?_
  rw [compTurn_list]
  refine wpAny_bind (wpAny_standAt (wpAny_bind (wpAny_mono (turn n s hI) (fun r s₁ h₁ => ?_) fun _ _ h' => h'.elim)))
  cases r with
  | none => exact wpAny_pure h₁
  | some v =>
    refine wpAny_bind (wpAny_mono h₁ (fun _ s₁' h₁' => ?_) fun _ _ h' => h'.elim)
    refine wpAny_bind (wpAny_mono h₁' (fun _ s₂ h₂ => wpAny_bind (wpAny_mono h₂ (fun ok s₃ h₃ => ?_) fun _ _ h' => h'.elim)) fun _ _ h' => h'.elim)
    cases ok with
    | false => exact wpAny_pure ⟨rfl, h₃⟩
    | true =>
      exact wpAny_bind (wpAny_bind (wpAny_mono h₃ (fun x s₄ h₄ => wpAny_bind (wpAny_mono h₄ (fun _ s₅ h₅ => wpAny_pure (wpAny_pure ⟨rfl, h₅⟩)) fun _ _ h' => h'.elim)) fun _ _ h' => h'.elim))
section
variable {X : Cx} {tg iter elt : Expr} {ifs : List Expr} {scope : Scope} {pos : Pos} {own taken : List Str} {caps : List Nat} {wi : TI} {g : TG} {tc : TT} {te : TE}
structure PBlk (X : Cx) (scope : Scope) (k : Nat) (N : List Str) (tg elt : Expr) (ifs : List Expr) (g : TG) (tc : TT) (te : TE) : Prop where
  all : ∀ (C : Addr) (s : Shared) (H : Hp) (fp : List Addr) (pins : List (Addr × Obj)),
    PG (X.blk scope N C s H fp pins) tg g /\ PIf (X.blk scope N C s H fp pins) ifs tc /\ PE (X.blk scope N C s H fp pins) elt te
  gw : GW k g
theorem comp_core {pins : List (Addr × Obj)} {σ : St} {H : Hp} {s : Shared} {it : Addr} {fp : List Addr} {tn : Nat -> Heap -> Prop} {J : It} {Q : VK} {RR : Value -> Addr -> Result -> Shared -> Prop} {E : Value -> Shared -> Prop}
    (hx : ∀ e s, X.xe e s -> False) (hc : X.calm = true) (S : CSc X scope own taken caps) (B : PBlk X scope own.length (own ++ taken) tg elt ifs g tc te)
    (I : Inv X pins σ H s) (T : Turn X.prog X.w X.K tg J fp it tn) (st : tn 0 s.heap) (hf : ∀ b ∈ fp, FpOk X pins H b)
    (hW : ∃ W : Nat -> Nat -> List V -> Hp -> Prop, (∃ m, W 0 m [] H) /\ ∀ i m acc H2, W i m acc H2 ->
      (J.stop i H2 /\ i <= sizeLine /\ ∀ p, H2 p = none -> Q (.ref p) (upd H2 p (.lst acc))) ∨
      (J.go i H2 /\ i < sizeLine /\ ∃ N : List V -> Hp -> Prop, (∀ acc' H', N acc' H' -> ∃ m', m' < m /\ W (i + 1) m' acc' H') /\ ∀ x H3, J.yld i H2 x H3 -> g x (blkSt own.length caps σ) H3 fun σ4 H4 => tc σ4 H4 fun b H5 =>
        if b = true then te σ4 H5 fun y H6 => N (acc ++ [y]) H6 else N acc H5))
    (fin : ∀ (D C : Addr) (s1 : Shared) (m : Str -> Option Value) (H1 : Hp), Inv X pins σ H1 s1 -> s1.heap.Ns C m -> FpOk X pins H1 C -> Q (.ref D) H1 -> RR (.ref D) C (.ok .next) s1) :
    wpAny (model X.prog X.w) X.A (newList []) (fun acc s₃ => wpAny (model X.prog X.w) X.A (newFunctionEnv scope X.env.globals (closL X.env.cells scope.names []) [] X.env.qual none .none (some X.env)) (fun cenv s₄ =>
      codeAny (model X.prog X.w) X.A (.compStart (.ListComp elt [⟨tg, iter, ifs, 0⟩] scope pos) 0 (.ref it) acc { cenv with scope := relabel scope X.env }) (RR acc cenv.locals) s₄) E s₃) E s := by
  obtain ⟨W, ⟨m0, w0⟩, turn⟩ := hW
  refine wpAny_newObj_type (wpAny_newFunctionEnv S.nocell (by intro y hy; simp at hy) (fun h₁ hns₁ hsb₁ => ?_) S.kind)
  dsimp only at hns₁ hsb₁ ⊢
  generalize hH2 : s.heap.push { cls := .type "list", dict := none, data := .seq ([] : List Value).toArray } = G at hns₁ hsb₁ ⊢
  have hC : G.objs.size = s.heap.objs.size + 1 := by rw [<- hH2, Heap.size_push]
  have hDC : s.heap.objs.size ≠ G.objs.size := by rw [hC]; exact Nat.ne_of_lt (Nat.lt_succ_self _)
  have hCle : s.heap.objs.size <= G.objs.size := by rw [hC]; exact Nat.le_succ _
  have old : ∀ b o, s.heap.get? b = some o -> h₁.get? b = some o := fun b o e => hsb₁.extBut b o (by rw [hC]; exact Nat.ne_of_lt (Nat.lt_succ_of_lt (Heap.lt_size e))) (Heap.get?_push_of_some _ (hH2 ▸ Heap.get?_push_of_some _ e))
  have hacc : h₁.get? s.heap.objs.size = some { cls := .type "list", data := .seq ([] : List Value).toArray } := hsb₁.extBut _ _ hDC (Heap.get?_push_of_some _ (hH2 ▸ Heap.get?_push_size _ rfl))
  have hlt : ∀ b ∈ fp, b < s.heap.objs.size := fun b hb => let ⟨_, e, _⟩ := T.obj _ _ st b hb; Heap.lt_size e
  have fresh : ∀ a, s.heap.objs.size <= a -> s.heap.get? a = none := fun a ha => Heap.get?_none_of_le ha
  generalize hD : s.heap.objs.size = D at *
  generalize hCe : G.objs.size = C at *
  have hst₁ : tn 0 h₁ := T.keep _ _ _ st fun b _ o e => old b o e
  have IY : Inv (X.blk scope (own ++ taken) C s H fp pins) [] (blkSt own.length caps σ) H { s with heap := h₁, toks := s.toks + ([] : List (Str × Value)).length } :=
    I.blk S hf (by rw [hD]; exact hlt) (by rw [hD]; exact hCle) hns₁ old
  have fpY : ∀ {pl : List (Addr × Obj)} {H' : Hp}, (∀ p ∈ pl, p.1 = D) -> (∀ b ∈ fp, H' b = none) -> ∀ b ∈ fp, FpOk (X.blk scope (own ++ taken) C s H fp pins) pl H' b := fun {pl H'} hp hn b hb => by
    refine ⟨hn b hb, (IY.ok.exf b hb).1, IY.ok.exfs b hb, .inl hb, (IY.ok.exf b hb).2, fun p hpp => ?_⟩
    have hpp : p ∈ (X.pn ++ pins) ++ pl := hpp
    rcases List.mem_append.mp hpp with z | z
    · exact (hf b hb).2.2.2.2.2 p z
    · rw [hp p z]; exact Ne.symm (Nat.ne_of_lt (hlt b hb))
  have pinD : ∀ {pl : List (Addr × Obj)} {σ' : St} {H' : Hp} {s' : Shared} {o : Obj}, Inv (X.blk scope (own ++ taken) C s H fp pins) pl σ' H' s' -> H' D = none -> s'.heap.get? D = some o -> (∀ v, o.data ≠ .cell v) ->
      Inv (X.blk scope (own ++ taken) C s H fp pins) [(D, o)] σ' H' s' := fun {pl σ' H' s' o} J' hn e d =>
    J'.pins_of fun p hp => by
      rw [List.mem_singleton.mp hp]
      refine ⟨e, hn, hDC, fun z => ?_, d⟩
      have z : D ∈ frs X.stack := z
      have := I.stack.mem z
      obtain ⟨_, o', ho', _⟩ := this
      rw [fresh D (by lia)] at ho'
      cases ho'
  have loop : ∀ s₃ : Shared, s₃ = { s with heap := h₁, toks := s.toks + ([] : List (Str × Value)).length } ->
      codeAny (model X.prog X.w) X.A (.compLoop (.ListComp elt [⟨tg, iter, ifs, 0⟩] scope pos) 0 (.ref it) (.ref D) (compEnvC scope (closL X.env.cells scope.names []) C X.env)) (RR (.ref D) C) s₃ := by
    rintro s₃ rfl
    refine comp_loop (fun n s' => ∃ i acc us nD H', Inv (X.blk scope (own ++ taken) C s H fp pins) [] (blkSt own.length caps σ) H' s' /\ tn i s'.heap /\ (∀ b ∈ fp, H' b = none) /\ H' D = none /\
        s'.heap.get? D = some { cls := .type "list", data := .seq (us : List Value).toArray nD } /\ Vals acc us /\ acc.length <= i /\ W i n acc H') ?_ m0
      ⟨0, [], [], 0, H, IY, hst₁, fun b hb => (hf b hb).1, I.hok.fresh (by lia), hacc, .nil, Nat.le_refl _, w0⟩
    rintro n s3 ⟨i, acc, us, nD, H3, I3, st3, fr3, fD3, eD3, rv3, hai, w3⟩
    have I3' := pinD I3 fD3 eD3 (fun v z => by cases z)
    rcases turn i n acc H3 w3 with ⟨stop, hz, qn⟩ | ⟨go, hz, N, hN, step⟩
    · refine thn (T.done (X.blk scope (own ++ taken) C s H fp pins) rfl rfl rfl hc i _ s3 _ H3 (fun _ _ => False) I3' (fpY (by simp) fr3) st3 stop) fun r s4 hq1 => ?_
      obtain ⟨hr, I4⟩ := hq1
      subst hr
      have eD4 := (I4.pin (D, _) (List.mem_append_right _ List.mem_cons_self)).1
      obtain ⟨m4, hn4, _⟩ := I4.loc
      have IX : Inv X pins σ (upd H3 D (.lst acc)) s4 := by
        refine I.call' I4.os (Un.over I4.base (fresh D (by lia)) (I.hok.fresh (by lia)) fun _ _ _ => rfl) (HOk.over (C := C) I4.hok fD3 I4.free (fun _ _ _ e => e) ⟨Nat.le_trans hai hz, us, nD, rv3, eD4⟩) I4.bare fun b hb => ?_
        exact ⟨(hf b hb).2.2.2.1, (hf b hb).2.1, (hf b hb).2.2.2.2.1, (hf b hb).2.2.2.2.2⟩
      refine fin D C s4 m4 _ IX hn4 ?_ (qn D fD3)
      refine I.fpOk (by lia) ?_
      rw [upd_ne (Ne.symm hDC)]
      exact I4.free
    · refine thn (T.item (X.blk scope (own ++ taken) C s H fp pins) rfl rfl rfl hc i _ s3 _ H3 (fun _ _ => False) I3' (fpY (by simp) fr3) st3 go) fun r s4 hq2 => ?_
      obtain ⟨u, hr, h4⟩ := hq2
      subst hr
      refine thn h4 fun _ s5 hq3 => ?_
      obtain ⟨x, H5, I5, r5, y5, st5, fr5⟩ := hq3
      obtain ⟨bg, bf, be⟩ := B.all C s H fp pins
      have I5' := I5.pinned (fpY (by simp) fr5) (T.obj _ _ st5)
      refine wpAny_mono (bg _ s5 _ H5 x u (fun σ6 H6 => Wk own.length (blkSt own.length caps σ) σ6 /\ tc σ6 H6 fun b H5 => if b = true then te σ6 H5 fun y H6 => N (acc ++ [y]) H6 else N acc H5) I5' r5
        (B.gw _ _ _ _ _ (fun σ' H' w z => ⟨w, z⟩) (step x H5 y5))) (fun _ s6 ⟨σ6, H6, I6, wk6, q6⟩ => ?_) fun e s' z => hx e s' z
      have reset : ∀ {pl : List (Addr × Obj)} {H8 : Hp} {s8 : Shared}, Inv (X.blk scope (own ++ taken) C s H fp pins) pl σ6 H8 s8 -> Inv (X.blk scope (own ++ taken) C s H fp pins) pl (blkSt own.length caps σ) H8 s8 := fun I8 =>
        I8.weak wk6.1.symm fun j v e => by
          by_cases hj : own.length <= j
          · rw [wk6.2 j hj]; exact e
          · unfold blkSt at e
            rw [List.getElem?_append_left (by simp; lia), List.getElem?_replicate] at e
            split at e <;> cases e
      refine wpAny_mono (bf _ s6 σ6 H6 _ I6 q6) (fun b s7 hq4 => ?_) fun e s' z => hx e s' z
      obtain ⟨H7, I7, q7⟩ := hq4
      have back : ∀ {pl : List (Addr × Obj)} {σ8 : St} {H8 : Hp} {s8 : Shared}, Inv (X.blk scope (own ++ taken) C s H fp pins) ([(D, ({ cls := .type "list", data := .seq us.toArray nD } : Obj))] ++ pinsAt fp s5.heap) σ8 H8 s8 ->
          tn (i + 1) s8.heap /\ (∀ b ∈ fp, H8 b = none) /\ H8 D = none /\ s8.heap.get? D = some { cls := .type "list", data := .seq us.toArray nD } := fun {pl σ8 H8 s8} I8 => by
        have pD := I8.pin (D, _) (List.mem_append_right _ (List.mem_append_left _ List.mem_cons_self))
        refine ⟨T.keep _ _ _ st5 fun b hb o e => (I8.pin (b, o) (List.mem_append_right _ (List.mem_append_right _ (mem_pinsAt hb e)))).1, fun b hb => ?_, pD.2.1, pD.1⟩
        obtain ⟨o, e, d⟩ := T.obj _ _ st5 b hb
        exact (I8.pin (b, o) (List.mem_append_right _ (List.mem_append_right _ (mem_pinsAt hb e)))).2.1
      cases b with
      | false =>
        obtain ⟨m', hm, w7⟩ := hN _ _ q7
        obtain ⟨b1, b2, b3, b4⟩ := back (pl := []) I7
        exact ⟨m', hm, i + 1, acc, us, nD, H7, (reset I7).pins_of fun p hp => by (cases hp), b1, b2, b3, b4, rv3, Nat.le_succ_of_le hai, w7⟩
      | true =>
        refine wpAny_mono (be _ s7 σ6 H7 _ I7 q7) (fun v s8 hq5 => ?_) fun e s' z => hx e s' z
        obtain ⟨y, H8, I8, r8, q8⟩ := hq5
        obtain ⟨m', hm, w8⟩ := hN _ _ q8
        obtain ⟨b1, b2, b3, b4⟩ := back (pl := []) I8
        have I9 : Inv (X.blk scope (own ++ taken) C s H fp pins) [] (blkSt own.length caps σ) H8 s8 := (reset I8).pins_of fun p hp => by (cases hp)
        have hl := rv3.length
        refine call_meets F.slot_list_append ⟨_, b4, rfl⟩ F.entry_list_append (F.args_list_append_2 _ _) (PySem.list_append D us.toArray nD v (by rw [List.size_toArray]; lia)) ⟨b4, ?_⟩
        have keepD : ∀ b o, b ≠ D -> s8.heap.get? b = some o -> (s8.heap.update D (Obj.mapSeq fun x_1 => x_1.push v)).get? b = some o := fun b o hb e => (Heap.SameBut.update s8.heap D _).extBut b o hb e
        have nD' : ∀ b ∈ fp, b ≠ D := fun b hb => Nat.ne_of_lt (hlt b hb)
        obtain ⟨nD2, eD2⟩ : ∃ nD2, (s8.heap.update D (Obj.mapSeq fun x_1 => x_1.push v)).get? D = some { cls := .type "list", data := .seq (us ++ [v]).toArray nD2 } := by
          have := Heap.get?_update_self (Obj.mapSeq fun x_1 => x_1.push v) b4 (by rfl)
          rw [this]
          exact ⟨_, by simp only [Obj.mapSeq, List.push_toArray]; rfl⟩
        refine ⟨m', hm, i + 1, acc ++ [y], us ++ [v], nD2, H8, I9.turned (t' := s8.toks) keepD b3 hDC (.inr (Nat.le_of_eq hD)) (fun x c e z => ?_) (fun p hp z => ?_), T.keep _ _ _ b1 fun b hb o e => keepD b o (nD' b hb) e, b2, b3, eD2, rv3.append (.cons r8 .nil), by simp; lia, w8⟩
        · obtain ⟨w, q⟩ := I9.cell x c e
          obtain ⟨o, ho, hd⟩ := q
          rw [z, b4] at ho
          cases ho
          cases hd
        · have hp : p ∈ (X.pn ++ pins) ++ [] := hp
          rw [List.append_nil] at hp
          have this := Heap.lt_size (I.pin p hp).1
          rw [z, hD] at this
          exact Nat.lt_irrefl _ this
  exact codeAny_compStart_list (loop _ rfl) (T.self _ 0 _ _ _ hst₁ (loop _ rfl))
theorem pe_comp (hx : ∀ e s, X.xe e s -> False) (hc : X.calm = true) (S : CSc X scope own taken caps) (hi : PI X tg iter wi) (B : PBlk X scope own.length (own ++ taken) tg elt ifs g tc te)
    (hs : ∀ x, foldedSetIterable iter X.env x = pure x := by intro _; rfl) : PE X (.ListComp elt [⟨tg, iter, ifs, 0⟩] scope pos) (tComp wi g tc te own.length caps) := by
  intro pins s σ H Q I h
  rw [eval_ListComp]
  refine wpAny_comprehension_free (use := none) rfl hs (closureFor_eq fun x hx' he => I.ok.has x.1 (S.free x hx' he)) S.kind S.locs (thn (hi pins s σ H _ I h) fun v s1 h1 => thn h1 fun itv s2 h2 => ?_)
  obtain ⟨it, fp, tn, J, H2, e, I2, T, st2, f2, hW⟩ := h2
  subst e
  refine comp_core (RR := fun acc C => compPost (model X.prog X.w) X.A X.xe none (EP X pins σ Q) acc C) hx hc S B I2 T st2 f2 hW ?_
  intro D C s1 m H1 I1 hn fC q
  refine ⟨m, hn, fun h' hs' => ⟨.ref D, H1, ?_, rfl, q⟩⟩
  exact I1.turned (t' := s1.toks) (fun b o hb e => hs'.extBut b o hb e) fC.1 fC.2.1 fC.2.2.2.1 fC.2.2.2.2.1 fC.2.2.2.2.2
theorem ps_setComp {i : Nat} {y : Str} {py spos : Pos} (hN : X.N.Nodup) (hiy : X.N[i]? = some y) (hy : X.env.scope.names.lookup y = some .local)
    (hx : ∀ e s, X.xe e s -> False) (hc : X.calm = true) (S : CSc X scope own taken caps) (hi : PI X tg iter wi) (B : PBlk X scope own.length (own ++ taken) tg elt ifs g tc te)
    (hsw : swapsWith (.ListComp elt [⟨tg, iter, ifs, 0⟩] scope pos) (some (.Name y py)) spos.line X.env = pure true := by rfl)
    (hs : ∀ x, foldedSetIterable iter X.env x = pure x := by intro _; rfl) :
    PS X (.Assign [.Name y py] (.ListComp elt [⟨tg, iter, ifs, 0⟩] scope pos) spos) (tAsg (tComp wi g tc te own.length caps) (gName i)) := by
  intro pins s σ H D I h
  rw [exec_Assign_Name_used _ _ _ _ hsw]
  refine wpAny_bind (wpAny_standAt (wpAny_bind ?_))
  show wpAny _ X.A (do let _ <- comprehension (.ListComp elt [⟨tg, iter, ifs, 0⟩] scope pos) scope X.env _ (newList []) false (eval iter X.env) (some (assign (.Name y py) X.env))) _ _ s
  refine wpAny_bind (wpAny_mono (wpAny_comprehension_free (use := some (assign (.Name y py) X.env)) (Q := fun _ s' => SP X pins D .next s') rfl hs (closureFor_eq fun x hx' he => I.ok.has x.1 (S.free x hx' he)) S.kind S.locs
    (thn (hi pins s σ H _ I h) fun v s1 h1 => thn h1 fun itv s2 h2 => ?_)) (fun _ s' hq => wpAny_pure (wpAny_pure hq)) fun _ _ e => e)
  obtain ⟨it, fp, tn, J, H2, e, I2, T, st2, f2, hW⟩ := h2
  subst e
  refine comp_core (RR := fun acc C => compPost (model X.prog X.w) X.A X.xe (some (assign (.Name y py) X.env)) (fun _ s' => SP X pins D .next s') acc C) (Q := fun x H1 => gName i x σ H1 D.nx) hx hc S B I2 T st2 f2 hW ?_
  intro Da C s1 m H1 I1 hn fC q
  show wpAny _ X.A (assign (.Name y py) X.env (.ref Da)) _ _ _
  refine wpAny_assign_Name (store_ok2 (v := .ref Da) I1 hN hiy (.inl hy) rfl (fun s' I' hq1 => ?_) (.inr hy))
  obtain ⟨a, sb, ha⟩ := hq1
  have haC : C ≠ a := by
    rcases ha with ha | ha
    · rw [ha]; exact fC.2.1
    · exact fun z => fC.2.2.2.2.1 _ _ ha z.symm
  refine ⟨m, hn.sameBut sb haC, fun h' hs' => ⟨_, H1, ?_, q⟩⟩
  exact I'.turned (t' := s'.toks) (fun b o hb e => hs'.extBut b o hb e) fC.1 fC.2.1 fC.2.2.2.1 fC.2.2.2.2.1 fC.2.2.2.2.2
end
end L2
namespace L2
open PySem PySem.Spec PyProof.Rows
inductive D where
  | non | bl (b : Bool) | int (i : Int) | str (x : Str) | tup (ds : List D) | lst (ds : List D)
mutual
noncomputable def Rep (K : PySem.W.Frag) (H : Hp) : D -> V -> Prop
  | .non, v => v = .non
  | .bl b, v => v = .bl b
  | .int i, v => v = .int i
  | .str x, v => v = .str x
  | .tup ds, v => ∃ a xs, v = .ref a /\ SqT K H a xs /\ Reps K H ds xs
  | .lst ds, v => ∃ a xs, v = .ref a /\ SqL K H a xs /\ Reps K H ds xs
noncomputable def Reps (K : PySem.W.Frag) (H : Hp) : List D -> List V -> Prop
  | [], xs => xs = []
  | d :: ds, xs => ∃ x r, xs = x :: r /\ Rep K H d x /\ Reps K H ds r
end
mutual
noncomputable def D.dp : D -> Nat
  | .tup ds => dps ds + 1
  | .lst ds => dps ds + 1
  | .non => 0
  | .bl _ => 0
  | .int _ => 0
  | .str _ => 0
noncomputable def dps : List D -> Nat
  | [] => 0
  | d :: ds => max d.dp (dps ds)
end
mutual
noncomputable def eqD : D -> D -> Bool
  | .lst a, .lst b => eqDs a b
  | .tup a, .tup b => eqDs a b
  | .non, .non => true
  | .bl a, .bl b => a == b
  | .bl a, .int b => (if a then 1 else 0) == b
  | .int a, .bl b => a == (if b then 1 else 0)
  | .int a, .int b => a == b
  | .str a, .str b => a == b
  | _, _ => false
noncomputable def eqDs : List D -> List D -> Bool
  | [], [] => true
  | a :: as, b :: bs => eqD a b && eqDs as bs
  | _, _ => false
end
theorem Reps.length {K : PySem.W.Frag} {H : Hp} : ∀ {ds : List D} {xs : List V}, Reps K H ds xs -> ds.length = xs.length
  | [], _, h => by simp only [Reps] at h; subst h; rfl
  | d :: ds, _, h => by
    simp only [Reps] at h
    obtain ⟨x, r, rfl, _, h⟩ := h
    rw [List.length_cons, List.length_cons, Reps.length h]
theorem Reps.get' {K : PySem.W.Frag} {H : Hp} : ∀ {ds : List D} {xs : List V} {i : Nat} {d : D}, Reps K H ds xs -> ds[i]? = some d -> ∃ x, xs[i]? = some x /\ Rep K H d x
  | [], _, i, x, h, e => by simp at e
  | d :: ds, _, i, x, h, e => by
    simp only [Reps] at h
    obtain ⟨y, r, rfl, h1, h2⟩ := h
    cases i with
    | zero => simp at e; subst e; exact ⟨y, rfl, h1⟩
    | succ i => obtain ⟨d', e', r'⟩ := Reps.get' h2 (by simpa using e); exact ⟨d', by simpa using e', r'⟩
theorem Reps.cons {K : PySem.W.Frag} {H : Hp} {d : D} {ds : List D} {x : V} {xs : List V} (h : Rep K H d x) (t : Reps K H ds xs) : Reps K H (d :: ds) (x :: xs) := by
  simp only [Reps]
  exact ⟨x, xs, rfl, h, t⟩
theorem Reps.nil {K : PySem.W.Frag} {H : Hp} : Reps K H [] [] := by simp only [Reps]
mutual
theorem eqD_refl : ∀ d : D, eqD d d = true
  | .non => by simp [eqD]
  | .bl b => by simp [eqD]
  | .int b => by simp [eqD]
  | .str b => by simp [eqD]
  | .tup ds => by simp only [eqD]; exact eqDs_refl ds
  | .lst ds => by simp only [eqD]; exact eqDs_refl ds
theorem eqDs_refl : ∀ ds : List D, eqDs ds ds = true
  | [] => by simp [eqDs]
  | d :: ds => by simp only [eqDs]; rw [eqD_refl d, eqDs_refl ds]; rfl
end
theorem eqDs_len : ∀ {as bs : List D}, as.length ≠ bs.length -> eqDs as bs = false
  | [], [], h => absurd rfl h
  | [], _ :: _, _ => by simp [eqDs]
  | _ :: _, [], _ => by simp [eqDs]
  | a :: as, b :: bs, h => by
    simp only [eqDs]
    rw [eqDs_len (fun e => h (by simp [e]))]
    simp
theorem eqDs_range : ∀ {as bs : List D}, as.length = bs.length -> ((List.range as.length).all fun j => eqD (as.getD j .non) (bs.getD j .non)) = eqDs as bs
  | [], [], _ => by simp [eqDs]
  | [], _ :: _, h => by simp at h
  | _ :: _, [], h => by simp at h
  | a :: as, b :: bs, h => by
    have ih := eqDs_range (as := as) (bs := bs) (by simpa using h)
    rw [List.length_cons, List.range_succ_eq_map, List.all_cons, List.all_map]
    simp only [eqDs]
    rw [<- ih]
    simp [Function.comp_def]
section
variable {X : Cx} {pins : List (Addr × Obj)} {σ : St} {H : Hp} {s : Shared}
theorem tup_not_lst (I : Inv X pins σ H s) {a : Addr} {xs ys : List V} (h1 : SqT X.K H a xs) (h2 : SqL X.K H a ys) : False := by
  obtain ⟨_, _, ⟨o, e, c, _⟩, _⟩ := I.tuple h1
  obtain ⟨_, _, pl, _⟩ := I.list h2
  obtain ⟨o', e', c', _⟩ := pl.isList
  rw [e] at e'
  cases e'
  rw [c] at c'
  exact absurd c' (by decide)
mutual
theorem Rep.inj (I : Inv X pins σ H s) : ∀ {d d' : D} {v : V}, Rep X.K H d v -> Rep X.K H d' v -> d = d'
  | .non, d', v, h, q => by
    simp only [Rep] at h; subst h
    cases d' <;> simp only [Rep] at q <;> first | rfl | (cases q; done) | (obtain ⟨_, _, q, _⟩ := q; cases q; done)
  | .bl b, d', v, h, q => by
    simp only [Rep] at h; subst h
    cases d' <;> simp only [Rep] at q <;> first | (cases q; rfl) | (cases q; done) | (obtain ⟨_, _, q, _⟩ := q; cases q; done)
  | .int b, d', v, h, q => by
    simp only [Rep] at h; subst h
    cases d' <;> simp only [Rep] at q <;> first | (cases q; rfl) | (cases q; done) | (obtain ⟨_, _, q, _⟩ := q; cases q; done)
  | .str b, d', v, h, q => by
    simp only [Rep] at h; subst h
    cases d' <;> simp only [Rep] at q <;> first | (cases q; rfl) | (cases q; done) | (obtain ⟨_, _, q, _⟩ := q; cases q; done)
  | .tup ds, d', v, h, q => by
    simp only [Rep] at h
    obtain ⟨a, xs, rfl, h1, h2⟩ := h
    cases d' <;> simp only [Rep] at q
    all_goals try (cases q; done)
    · obtain ⟨b, ys, e, q1, q2⟩ := q
      cases e
      rw [I.tuple_inj q1 h1] at q2
      rw [Reps.inj I h2 q2]
    · obtain ⟨b, ys, e, q1, q2⟩ := q
      cases e
      exact (tup_not_lst I h1 q1).elim
  | .lst ds, d', v, h, q => by
    simp only [Rep] at h
    obtain ⟨a, xs, rfl, h1, h2⟩ := h
    cases d' <;> simp only [Rep] at q
    all_goals try (cases q; done)
    · obtain ⟨b, ys, e, q1, q2⟩ := q
      cases e
      exact (tup_not_lst I q1 h1).elim
    · obtain ⟨b, ys, e, q1, q2⟩ := q
      cases e
      rw [I.list_inj q1 h1] at q2
      rw [Reps.inj I h2 q2]
theorem Reps.inj (I : Inv X pins σ H s) : ∀ {ds ds' : List D} {xs : List V}, Reps X.K H ds xs -> Reps X.K H ds' xs -> ds = ds'
  | [], ds', xs, h, q => by
    simp only [Reps] at h; subst h
    cases ds' with
    | nil => rfl
    | cons d ds' => simp only [Reps] at q; obtain ⟨_, _, q, _⟩ := q; cases q
  | d :: ds, ds', xs, h, q => by
    simp only [Reps] at h
    obtain ⟨x, r, rfl, h1, h2⟩ := h
    cases ds' with
    | nil => simp only [Reps] at q; cases q
    | cons d' ds' =>
      simp only [Reps] at q
      obtain ⟨y, r', e, q1, q2⟩ := q
      cases e
      rw [Rep.inj I h1 q1, Reps.inj I h2 q2]
end
theorem dp_le {d : D} : ∀ {ds : List D}, d ∈ ds -> d.dp <= dps ds
  | [], h => by cases h
  | e :: ds, h => by
    simp only [dps]
    rcases List.mem_cons.mp h with h | h
    · subst h; lia
    · have := dp_le h; lia
theorem rep_flat {d : D} {x : V} (h : Rep X.K H d x) (f : flatV x = true) : (d = .non /\ x = .non) ∨ (∃ b, d = .bl b /\ x = .bl b) ∨ (∃ i, d = .int i /\ x = .int i) ∨ ∃ z, d = .str z /\ x = .str z := by
  cases d with
  | non => simp only [Rep] at h; exact .inl ⟨rfl, h⟩
  | bl b => simp only [Rep] at h; exact .inr (.inl ⟨b, rfl, h⟩)
  | int b => simp only [Rep] at h; exact .inr (.inr (.inl ⟨b, rfl, h⟩))
  | str b => simp only [Rep] at h; exact .inr (.inr (.inr ⟨b, rfl, h⟩))
  | tup ds => simp only [Rep] at h; obtain ⟨_, _, e, _⟩ := h; rw [e] at f; cases f
  | lst ds => simp only [Rep] at h; obtain ⟨_, _, e, _⟩ := h; rw [e] at f; cases f
theorem flat_eq {A : Around} {d d' : D} {x y : V} {u v : Value} (h : Rep X.K H d x) (h' : Rep X.K H d' y) (rx : RelV x u) (ry : RelV y v) (f : flatV x = true) (f' : flatV y = true) : SeqAt.EqAt A s u v (eqD d d') := by
  have e := eqAt_V (A := A) (s := s) rx ry f f'
  have this : eqV x y = eqD d d' := by
    rcases rep_flat h f with ⟨e1, e2⟩ | ⟨b, e1, e2⟩ | ⟨b, e1, e2⟩ | ⟨b, e1, e2⟩ <;> rcases rep_flat h' f' with ⟨e3, e4⟩ | ⟨c, e3, e4⟩ | ⟨c, e3, e4⟩ | ⟨c, e3, e4⟩ <;> rw [e1, e2, e3, e4] <;> simp [eqV, eqD]
  rw [<- this]
  exact e
theorem items_at {A : Around} {as bs : List D} {xs ys : List V} {us vs : List Value} (n : Nat)
    (ih : ∀ (d d' : D) (x y : V) (u v : Value), d.dp <= n -> Rep X.K H d x -> Rep X.K H d' y -> RelV x u -> RelV y v -> SeqAt.EqAt A s u v (eqD d d'))
    (hn : dps as <= n) (h : Reps X.K H as xs) (h' : Reps X.K H bs ys) (rx : Vals xs us) (ry : Vals ys vs) :
    ∀ j (h1 : j < us.toArray.size) (h2 : j < vs.toArray.size), SeqAt.EqAt A s us.toArray[j] vs.toArray[j] (eqD (as.getD j .non) (bs.getD j .non)) := fun j h1 h2 => by
  have l1 := h.length; have l2 := rx.length; have l3 := h'.length; have l4 := ry.length
  have h1' : j < us.length := by simpa using h1
  have h2' : j < vs.length := by simpa using h2
  have e1 : as[j]? = some (as[j]'(by lia)) := List.getElem?_eq_getElem (by lia)
  have e2 : bs[j]? = some (bs[j]'(by lia)) := List.getElem?_eq_getElem (by lia)
  obtain ⟨x, ex, qx⟩ := h.get' e1
  obtain ⟨y, ey, qy⟩ := h'.get' e2
  obtain ⟨u, eu, ru⟩ := rx.get ex
  obtain ⟨v, ev, rv⟩ := ry.get ey
  have z1 : us.toArray[j] = u := by
    have := List.getElem?_eq_getElem h1'
    rw [this] at eu
    simpa using Option.some.inj eu
  have z2 : vs.toArray[j] = v := by
    have := List.getElem?_eq_getElem h2'
    rw [this] at ev
    simpa using Option.some.inj ev
  rw [z1, z2, List.getD_eq_getElem?_getD, List.getD_eq_getElem?_getD, e1, e2]
  exact ih _ _ x y u v (Nat.le_trans (dp_le (List.getElem_mem _)) hn) qx qy ru rv
theorem rcAt_lst {A : Around} {as bs : List D} {a b : Addr} {xs ys : List V} (n : Nat) (I : Inv X pins σ H s) (hu : A.units + n < cLine)
    (ih : ∀ (d d' : D) (x y : V) (u v : Value), d.dp <= n -> Rep X.K H d x -> Rep X.K H d' y -> RelV x u -> RelV y v -> SeqAt.EqAt A.in1 s u v (eqD d d'))
    (hn : dps as <= n) (q : SqL X.K H a xs) (q' : SqL X.K H b ys) (h : Reps X.K H as xs) (h' : Reps X.K H bs ys) : SeqAt.RcAt A s (.ref a) (.ref b) (eqDs as bs) := by
  obtain ⟨us, rx, pl, z⟩ := I.list q
  obtain ⟨vs, ry, pl', z'⟩ := I.list q'
  have l1 := h.length; have l2 := rx.length; have l3 := h'.length; have l4 := ry.length
  by_cases hl : as.length = bs.length
  · have := SeqAt.RcAt.lists (e := fun j => eqD (as.getD j .non) (bs.getD j .non)) pl.isList pl'.isList (by simp; lia) (by lia) (items_at (A := A.in1) n ih hn h h' rx ry)
    rw [show us.toArray.size = as.length by simp; lia, eqDs_range hl] at this
    exact this
  · rw [eqDs_len hl]
    exact SeqAt.RcAt.lists_lengths pl.isList pl'.isList (by simp; lia) (by lia)
theorem rcAt_tup {A : Around} {as bs : List D} {a b : Addr} {xs ys : List V} (n : Nat) (I : Inv X pins σ H s) (hu : A.units + n < cLine)
    (ih : ∀ (d d' : D) (x y : V) (u v : Value), d.dp <= n -> Rep X.K H d x -> Rep X.K H d' y -> RelV x u -> RelV y v -> SeqAt.EqAt A.in1 s u v (eqD d d'))
    (hn : dps as <= n) (q : SqT X.K H a xs) (q' : SqT X.K H b ys) (h : Reps X.K H as xs) (h' : Reps X.K H bs ys) : SeqAt.RcAt A s (.ref a) (.ref b) (eqDs as bs) := by
  obtain ⟨us, rx, pl, z⟩ := I.tuple q
  obtain ⟨vs, ry, pl', z'⟩ := I.tuple q'
  have l1 := h.length; have l2 := rx.length; have l3 := h'.length; have l4 := ry.length
  have := SeqAt.RcAt.tuples (e := fun j => eqD (as.getD j .non) (bs.getD j .non)) (show s.heap.IsTuple a us.toArray from pl) (show s.heap.IsTuple b vs.toArray from pl') (by lia) (items_at (A := A.in1) n ih hn h h' rx ry)
  by_cases hl : as.length = bs.length
  · rw [show min us.toArray.size vs.toArray.size = as.length by simp; lia, eqDs_range hl, show (us.toArray.size == vs.toArray.size) = true by simp; lia, Bool.and_true] at this
    exact this
  · rw [show (us.toArray.size == vs.toArray.size) = false by simp; lia, Bool.and_false] at this
    rw [eqDs_len hl]
    exact this
theorem eqAt_D (I : Inv X pins σ H s) : ∀ (n : Nat) (A : Around) (d d' : D) (x y : V) (u v : Value), A.units + 2 * n + 1 < cLine -> d.dp <= n -> Rep X.K H d x -> Rep X.K H d' y -> RelV x u -> RelV y v -> SeqAt.EqAt A s u v (eqD d d') := by
  intro n
  induction n with
  | zero =>
    intro A d d' x y u v hu hd h h' rx ry
    have fx : flatV x = true := by
      cases d <;> simp only [Rep] at h <;> first | (subst h; rfl) | (simp only [D.dp] at hd; lia)
    cases d' with
    | tup ds =>
      simp only [Rep] at h'
      obtain ⟨b, ys, rfl, q, _⟩ := h'
      obtain ⟨vs, _, pl, _⟩ := I.tuple q
      cases (show v = Value.ref b from ry)
      cases d <;> simp only [Rep] at h <;> first | subst h | (simp only [D.dp] at hd; lia)
      · cases (show u = Value.none from rx); simp only [eqD]; exact SeqAt.EqAt.none_tuple pl (by lia)
      · cases (show u = Value.bool _ from rx); simp only [eqD]; exact SeqAt.EqAt.bool_tuple _ pl (by lia)
      · obtain ⟨t, rfl⟩ := (show ∃ t, u = Value.int _ t from rx); simp only [eqD]; exact SeqAt.EqAt.int_tuple _ _ pl (by lia)
      · obtain ⟨t, rfl⟩ := (show ∃ t, u = Value.str _ t from rx); simp only [eqD]; exact SeqAt.EqAt.str_tuple _ _ pl (by lia)
    | lst ds =>
      simp only [Rep] at h'
      obtain ⟨b, ys, rfl, q, _⟩ := h'
      obtain ⟨vs, _, pl, _⟩ := I.list q
      cases (show v = Value.ref b from ry)
      cases d <;> simp only [Rep] at h <;> first | subst h | (simp only [D.dp] at hd; lia)
      · cases (show u = Value.none from rx); simp only [eqD]; exact SeqAt.EqAt.none_list pl.isList (by lia)
      · cases (show u = Value.bool _ from rx); simp only [eqD]; exact SeqAt.EqAt.bool_list _ pl.isList (by lia)
      · obtain ⟨t, rfl⟩ := (show ∃ t, u = Value.int _ t from rx); simp only [eqD]; exact SeqAt.EqAt.int_list _ _ pl.isList (by lia)
      · obtain ⟨t, rfl⟩ := (show ∃ t, u = Value.str _ t from rx); simp only [eqD]; exact SeqAt.EqAt.str_list _ _ pl.isList (by lia)
    | non => exact flat_eq h h' rx ry fx (by simp only [Rep] at h'; subst h'; rfl)
    | bl b => exact flat_eq h h' rx ry fx (by simp only [Rep] at h'; subst h'; rfl)
    | int b => exact flat_eq h h' rx ry fx (by simp only [Rep] at h'; subst h'; rfl)
    | str b => exact flat_eq h h' rx ry fx (by simp only [Rep] at h'; subst h'; rfl)
  | succ n ih0 =>
    intro A d d' x y u v hu hd h h' rx ry
    have ih : ∀ (d d' : D) (x y : V) (u v : Value), d.dp <= n -> Rep X.K H d x -> Rep X.K H d' y -> RelV x u -> RelV y v -> SeqAt.EqAt A.in1 s u v (eqD d d') := fun d d' x y u v h1 h2 h3 h4 h5 =>
      ih0 A.in1 d d' x y u v (by rw [Around.in1_units]; lia) h1 h2 h3 h4 h5
    by_cases hz : d.dp <= n
    · exact ih0 A d d' x y u v (by lia) hz h h' rx ry
    · cases d with
      | non => simp only [D.dp] at hz; lia
      | bl b => simp only [D.dp] at hz; lia
      | int b => simp only [D.dp] at hz; lia
      | str b => simp only [D.dp] at hz; lia
      | tup as =>
        have hn : dps as <= n := by simp only [D.dp] at hd; lia
        obtain ⟨a, xs, rfl, q, r⟩ := (show ∃ a xs, x = .ref a /\ SqT X.K H a xs /\ Reps X.K H as xs by simpa only [Rep] using h)
        obtain ⟨us, ru, pl, zz⟩ := I.tuple q
        cases (show u = Value.ref a from rx)
        cases d' with
        | tup bs =>
          obtain ⟨b, ys, rfl, q', r'⟩ := (show ∃ a xs, y = .ref a /\ SqT X.K H a xs /\ Reps X.K H bs xs by simpa only [Rep] using h')
          cases (show v = Value.ref b from ry)
          by_cases e : a = b
          · subst e
            rw [Rep.inj I h h', eqD_refl]
            exact SeqAt.EqAt.same _
          · simp only [eqD]
            exact SeqAt.EqAt.of_refs e (rcAt_tup n I (by lia) ih hn q q' r r')
        | lst bs =>
          obtain ⟨b, ys, rfl, q', r'⟩ := (show ∃ a xs, y = .ref a /\ SqL X.K H a xs /\ Reps X.K H bs xs by simpa only [Rep] using h')
          obtain ⟨vs, _, pl', _⟩ := I.list q'
          cases (show v = Value.ref b from ry)
          simp only [eqD]
          exact SeqAt.EqAt.tuple_list pl pl'.isList (by lia)
        | non => simp only [Rep] at h'; subst h'; cases (show v = Value.none from ry); simp only [eqD]; exact SeqAt.EqAt.tuple_none pl (by lia)
        | bl b => simp only [Rep] at h'; subst h'; cases (show v = Value.bool _ from ry); simp only [eqD]; exact SeqAt.EqAt.tuple_bool _ pl (by lia)
        | int b => simp only [Rep] at h'; subst h'; obtain ⟨t, rfl⟩ := (show ∃ t, v = Value.int _ t from ry); simp only [eqD]; exact SeqAt.EqAt.tuple_int _ _ pl (by lia)
        | str b => simp only [Rep] at h'; subst h'; obtain ⟨t, rfl⟩ := (show ∃ t, v = Value.str _ t from ry); simp only [eqD]; exact SeqAt.EqAt.tuple_str _ _ pl (by lia)
      | lst as =>
        have hn : dps as <= n := by simp only [D.dp] at hd; lia
        obtain ⟨a, xs, rfl, q, r⟩ := (show ∃ a xs, x = .ref a /\ SqL X.K H a xs /\ Reps X.K H as xs by simpa only [Rep] using h)
        obtain ⟨us, ru, pl0, zz⟩ := I.list q
        have pl := pl0.isList
        cases (show u = Value.ref a from rx)
        cases d' with
        | lst bs =>
          obtain ⟨b, ys, rfl, q', r'⟩ := (show ∃ a xs, y = .ref a /\ SqL X.K H a xs /\ Reps X.K H bs xs by simpa only [Rep] using h')
          cases (show v = Value.ref b from ry)
          by_cases e : a = b
          · subst e
            rw [Rep.inj I h h', eqD_refl]
            exact SeqAt.EqAt.same _
          · simp only [eqD]
            exact SeqAt.EqAt.of_refs e (rcAt_lst n I (by lia) ih hn q q' r r')
        | tup bs =>
          obtain ⟨b, ys, rfl, q', r'⟩ := (show ∃ a xs, y = .ref a /\ SqT X.K H a xs /\ Reps X.K H bs xs by simpa only [Rep] using h')
          obtain ⟨vs, _, pl', _⟩ := I.tuple q'
          cases (show v = Value.ref b from ry)
          simp only [eqD]
          exact SeqAt.EqAt.list_tuple pl pl' (by lia)
        | non => simp only [Rep] at h'; subst h'; cases (show v = Value.none from ry); simp only [eqD]; exact SeqAt.EqAt.list_none pl (by lia)
        | bl b => simp only [Rep] at h'; subst h'; cases (show v = Value.bool _ from ry); simp only [eqD]; exact SeqAt.EqAt.list_bool _ pl (by lia)
        | int b => simp only [Rep] at h'; subst h'; obtain ⟨t, rfl⟩ := (show ∃ t, v = Value.int _ t from ry); simp only [eqD]; exact SeqAt.EqAt.list_int _ _ pl (by lia)
        | str b => simp only [Rep] at h'; subst h'; obtain ⟨t, rfl⟩ := (show ∃ t, v = Value.str _ t from ry); simp only [eqD]; exact SeqAt.EqAt.list_str _ _ pl (by lia)
noncomputable def twins : D -> D -> Prop
  | .lst _, .lst _ => True
  | .tup _, .tup _ => True
  | _, _ => False
theorem rcAt_D (I : Inv X pins σ H s) {A : Around} {d d' : D} {x y : V} {u v : Value} (hu : A.units + 200 < cLine) (tw : twins d d') (hd : d.dp <= 60) (h : Rep X.K H d x) (h' : Rep X.K H d' y) (rx : RelV x u) (ry : RelV y v) : SeqAt.RcAt A s u v (eqD d d') := by
  have ih : ∀ (d d' : D) (x y : V) (u v : Value), d.dp <= 60 -> Rep X.K H d x -> Rep X.K H d' y -> RelV x u -> RelV y v -> SeqAt.EqAt A.in1 s u v (eqD d d') := fun d d' x y u v h1 h2 h3 h4 h5 =>
    eqAt_D I 60 A.in1 d d' x y u v (by rw [Around.in1_units]; lia) h1 h2 h3 h4 h5
  cases d <;> cases d' <;> try exact tw.elim
  · simp only [Rep] at h h'
    obtain ⟨a, xs, rfl, q, r⟩ := h
    obtain ⟨b, ys, rfl, q', r'⟩ := h'
    cases (show u = Value.ref a from rx)
    cases (show v = Value.ref b from ry)
    simp only [eqD]
    simp only [D.dp] at hd
    exact rcAt_tup 60 I (by lia) ih (by lia) q q' r r'
  · simp only [Rep] at h h'
    obtain ⟨a, xs, rfl, q, r⟩ := h
    obtain ⟨b, ys, rfl, q', r'⟩ := h'
    cases (show u = Value.ref a from rx)
    cases (show v = Value.ref b from ry)
    simp only [eqD]
    simp only [D.dp] at hd
    exact rcAt_lst 60 I (by lia) ih (by lia) q q' r r'
noncomputable def rEqD (K : PySem.W.Frag) : R2 := fun x y H Q => ∃ d d', Rep K H d x /\ Rep K H d' y /\ twins d d' /\ d.dp <= 60 /\ Q (.bl (eqD d d')) H
theorem op_eqD (hu : X.A.units + 200 < cLine) : OpR X (compareOp .Eq) (rEqD X.K) := by
  intro pins s σ H x y v u Q I rx ry h
  obtain ⟨d, d', r, r', tw, hd, q⟩ := h
  exact rcAt_D I hu tw hd r r' rx ry _ _ _ _ ⟨.bl _, H, I, rfl, q⟩
noncomputable def rEqU (K : PySem.W.Frag) : R2 := fun x y H Q => rEq x y H Q ∨ rEqD K x y H Q
theorem op_eqU (hu : X.A.units + 200 < cLine) : OpR X (compareOp .Eq) (rEqU X.K) := op_eq.or (op_eqD hu)
theorem rcNeAt_D (I : Inv X pins σ H s) {A : Around} {d d' : D} {x y : V} {u v : Value} (hu : A.units + 200 < cLine) (tw : twins d d') (hd : d.dp <= 60) (h : Rep X.K H d x) (h' : Rep X.K H d' y) (rx : RelV x u) (ry : RelV y v) : SeqAt.RcNeAt A s u v (!eqD d d') := by
  have ih : ∀ (d d' : D) (x y : V) (u v : Value), d.dp <= 60 -> Rep X.K H d x -> Rep X.K H d' y -> RelV x u -> RelV y v -> SeqAt.EqAt A.in1 s u v (eqD d d') := fun d d' x y u v h1 h2 h3 h4 h5 =>
    eqAt_D I 60 A.in1 d d' x y u v (by rw [Around.in1_units]; lia) h1 h2 h3 h4 h5
  cases d <;> cases d' <;> try exact tw.elim
  · rename_i as bs
    simp only [Rep] at h h'
    obtain ⟨a, xs, rfl, q, r⟩ := h
    obtain ⟨b, ys, rfl, q', r'⟩ := h'
    cases (show u = Value.ref a from rx)
    cases (show v = Value.ref b from ry)
    simp only [eqD]
    simp only [D.dp] at hd
    obtain ⟨us, rx, pl, z⟩ := I.tuple q
    obtain ⟨vs, ry, pl', z'⟩ := I.tuple q'
    have l1 := r.length; have l2 := rx.length; have l3 := r'.length; have l4 := ry.length
    have this := SeqAt.RcNeAt.tuples (e := fun j => eqD (as.getD j .non) (bs.getD j .non)) (show s.heap.IsTuple a us.toArray from pl) (show s.heap.IsTuple b vs.toArray from pl') (by lia) (items_at (A := A.in1) 60 ih (by lia) r r' rx ry)
    by_cases hl : as.length = bs.length
    · rw [show min us.toArray.size vs.toArray.size = as.length by simp; lia, eqDs_range hl, show (us.toArray.size == vs.toArray.size) = true by simp; lia, Bool.and_true] at this
      exact this
    · rw [show (us.toArray.size == vs.toArray.size) = false by simp; lia, Bool.and_false] at this
      rw [eqDs_len hl]
      exact this
  · rename_i as bs
    simp only [Rep] at h h'
    obtain ⟨a, xs, rfl, q, r⟩ := h
    obtain ⟨b, ys, rfl, q', r'⟩ := h'
    cases (show u = Value.ref a from rx)
    cases (show v = Value.ref b from ry)
    simp only [eqD]
    simp only [D.dp] at hd
    obtain ⟨us, rx, pl, z⟩ := I.list q
    obtain ⟨vs, ry, pl', z'⟩ := I.list q'
    have l1 := r.length; have l2 := rx.length; have l3 := r'.length; have l4 := ry.length
    by_cases hl : as.length = bs.length
    · have this := SeqAt.RcNeAt.lists (e := fun j => eqD (as.getD j .non) (bs.getD j .non)) pl.isList pl'.isList (by simp; lia) (by lia) (items_at (A := A.in1) 60 ih (by lia) r r' rx ry)
      rw [show us.toArray.size = as.length by simp; lia, eqDs_range hl] at this
      exact this
    · rw [eqDs_len hl]
      exact SeqAt.RcNeAt.lists_lengths pl.isList pl'.isList (by simp; lia) (by lia)
noncomputable def rNeD (K : PySem.W.Frag) : R2 := fun x y H Q => ∃ d d', Rep K H d x /\ Rep K H d' y /\ twins d d' /\ d.dp <= 60 /\ Q (.bl (!eqD d d')) H
theorem op_neD (hu : X.A.units + 200 < cLine) : OpR X (compareOp .NotEq) (rNeD X.K) := by
  intro pins s σ H x y v u Q I rx ry h
  obtain ⟨d, d', r, r', tw, hd, q⟩ := h
  exact rcNeAt_D I hu tw hd r r' rx ry _ _ _ _ ⟨.bl _, H, I, rfl, q⟩
noncomputable def rNeU (K : PySem.W.Frag) : R2 := fun x y H Q => rNe x y H Q ∨ rNeD K x y H Q
theorem op_neU (hu : X.A.units + 200 < cLine) : OpR X (compareOp .NotEq) (rNeU X.K) := op_ne.or (op_neD hu)
end
noncomputable def rIsi (K : PySem.W.Frag) : List V -> Hp -> VK -> Prop := fun xs H Q => ∃ x n t b, xs = [x, .ty n] /\ TyOf K H x t /\ PySem.W.kitOne K t (.type n) = some b /\ Q (.bl b) H
theorem call_isi {X : Cx} : CallR X (.builtin "isinstance") (rIsi X.K) := by
  intro pins s σ H xs us Q I r h
  obtain ⟨x, n, t, b, rfl, ty, e, q⟩ := h
  obtain ⟨u, w', rfl, ru, rw'⟩ := vals2 r
  cases (show w' = Value.type n from rw')
  exact isinst_ok I ru ty e fun tk => ⟨.bl b, H, I.tok tk, rfl, q⟩
structure Cal (P : Program) (w : World) (K : PySem.W.Frag) (mg : Str -> Option Value) (base : Heap) (x : Str) (ps : List Str) (k : Nat) (sp : Sp) : Prop where
  ex : ∃ (f : Addr) (fd : FuncData), mg x = some (.ref f) /\ PySem.W.keepIn K (.ref f) = true /\ Binds K fd ps [] /\ FnOk P w K mg base CX0 k f fd ps sp
theorem pe_callC {X : Cx} {x : Str} {ps : List Str} {k : Nat} {sp : Sp} {p pos : Pos} {e : Expr} {es : List Expr} {t : TA} (C : Cal X.prog X.w X.K X.mg X.base x ps k sp) (hr : Room k X.A) (hg : Gl X x) (ha : PA X (e :: es) t)
    (hdb : (x == ("__debug__" : Str)) = false := by decide) (he : starEach (e :: es) X.env = (false, eval e X.env) :: starEach es X.env := by rfl) (hpl : (backTo pos (starEach es X.env)).any (·.1) = false := by rfl) :
    PE X (.Call (.Name x p) (e :: es) [] pos) (tCall sp [] E0 t) := by
  obtain ⟨f, fd, h1, h2, h3, h4⟩ := C.ex
  exact pe_call h4 hr hg h1 h2 h3 .nil pass0 ha hdb he hpl
end L2
namespace My
open PySem
section
variable {prog : Program} {w : World} {A : Around} {E : Value -> Shared -> Prop} {s : Shared}
end
end My
namespace L2
open PySem PySem.Spec PyProof.Rows
section
variable {X : Cx} {pins : List (Addr × Obj)} {σ : St} {H : Hp} {s : Shared}
noncomputable def rAddU : R2 := fun x y H Q => rI0 (fun i j => .int (i + j)) x y H Q ∨ rCat x y H Q
theorem op_addU : OpR X (binaryOp .Add) rAddU := op_add.or op_cat
noncomputable def rMulU : R2 := fun x y H Q => rI CMul (fun i j => .int (i * j)) x y H Q ∨ rRep x y H Q
theorem op_mulU : OpR X (binaryOp .Mult) rMulU := op_mul.or op_rep
noncomputable def rListU (K : PySem.W.Frag) : List V -> Hp -> VK -> Prop := fun xs H Q => ∃ p ys, xs = [.ref p] /\ (SqL K H p ys ∨ SqT K H p ys) /\ ∀ l, H l = none -> Q (.ref l) (upd H l (.lst ys))
theorem call_listU : CallR X (.type "list") (rListU X.K) := call_list_of
noncomputable def rLenS (K : PySem.W.Frag) : List V -> Hp -> VK -> Prop := fun xs H Q => ∃ p ys, xs = [.ref p] /\ (SqL K H p ys ∨ SqT K H p ys) /\ Q (.int ys.length) H
theorem call_lenS : CallR X (.builtin "len") (rLenS X.K) := call_len_seq
noncomputable def rIsN : R2 := fun x y H Q => y = .non /\ Q (.bl (decide (x = .non))) H
theorem op_isN' : OpR X (compareOp .Is) rIsN := op_isN
noncomputable def rNotN : R2 := fun x y H Q => y = .non /\ Q (.bl (!decide (x = .non))) H
theorem op_notN' : OpR X (compareOp .IsNot) rNotN := op_notN
noncomputable def tTru (K : PySem.W.Frag) (ta : TE) : TT := fun σ H Q => ta σ H fun x H' => ∃ k, TruV K x H' k /\ Q k H'
theorem pt_tru {a : Expr} {ta : TE} (ha : PE X a ta) (he : ∀ whole, isTrue a X.env whole = (do let v <- whole; standAt a.pos; holding [v] (truthy v))) : PT X a (tTru X.K ta) := pt_truth ha he
end
end L2
namespace L2
open PySem PySem.Spec PyProof.Rows
noncomputable def ForW (J : It) (g : TG) (tb : TS) (D : Ends) (σ : St) (H : Hp) : Prop := ∃ W : Nat -> Nat -> St -> Hp -> Prop, (∃ m, W 0 m σ H) /\ ∀ i m σ H, W i m σ H ->
  (J.stop i H /\ D.nx σ H) ∨ (J.go i H /\ ∃ N : St -> Hp -> Prop, (∀ σ' H', N σ' H' -> ∃ m', m' < m /\ W (i + 1) m' σ' H') /\ ∀ x H', J.yld i H x H' -> g x σ H' fun σ2 H2 => tb { D with nx := N, ct := N, bk := D.nx } σ2 H2)
noncomputable def CompW (J : It) (g : TG) (tc : TT) (te : TE) (σ : St) (Q : VK) (H : Hp) : Prop := ∃ W : Nat -> Nat -> List V -> Hp -> Prop, (∃ m, W 0 m [] H) /\ ∀ i m acc H2, W i m acc H2 ->
  (J.stop i H2 /\ i <= sizeLine /\ ∀ p, H2 p = none -> Q (.ref p) (upd H2 p (.lst acc))) ∨
  (J.go i H2 /\ i < sizeLine /\ ∃ N : List V -> Hp -> Prop, (∀ acc' H', N acc' H' -> ∃ m', m' < m /\ W (i + 1) m' acc' H') /\ ∀ x H3, J.yld i H2 x H3 -> g x σ H3 fun σ4 H4 => tc σ4 H4 fun b H5 =>
    if b = true then te σ4 H5 fun y H6 => N (acc ++ [y]) H6 else N acc H5)
section
variable {σ : St} {H : Hp} {Q : VK} {D : Ends} {t u : TS} {te ta tb : TE} {c d : TT} {g : TG} {K : PySem.W.Frag}
theorem rd_next (h : D.nx σ H) : tNext D σ H := h
theorem rd_asg (h : te σ H fun x H1 => g x σ H1 D.nx) : tAsg te g D σ H := h
theorem rd_ret (h : te σ H D.rt) : tRet te D σ H := h
theorem rd_drop (h : te σ H fun _ H1 => D.nx σ H1) : tDrop te D σ H := h
theorem rd_ifS (h : c σ H fun b H1 => if b = true then t D σ H1 else u D σ H1) : tIfS c t u D σ H := h
theorem rd_var {i : Nat} {v : V} (e : σ[i]? = some (some v)) (h : Q v H) : tVar i σ H Q := ⟨v, e, h⟩
theorem rd_c {v : V} (h : Q v H) : tC v σ H Q := h
theorem rd_op {r : R2} (h : ta σ H fun x H1 => tb σ H1 fun y H2 => r x y H2 Q) : tOp r ta tb σ H Q := h
theorem rd_un {r : V -> Hp -> VK -> Prop} (h : ta σ H fun x H1 => r x H1 Q) : tUn r ta σ H Q := h
theorem rd_rU {g : Int -> V} {i : Int} (h : Q (g i) H) : rU g (.int i) H Q := ⟨i, rfl, h⟩
theorem rd_I0 {g : Int -> Int -> V} {i j : Int} (h : Q (g i j) H) : rI0 g (.int i) (.int j) H Q := ⟨i, j, rfl, rfl, h⟩
theorem rd_I {C : Int -> Int -> Prop} {g : Int -> Int -> V} {i j : Int} (c : C i j) (h : Q (g i j) H) : rI C g (.int i) (.int j) H Q := ⟨i, j, rfl, rfl, c, h⟩
theorem rd_addI {i j : Int} (h : Q (.int (i + j)) H) : rAddU (.int i) (.int j) H Q := .inl (rd_I0 h)
theorem rd_cat {a b : Addr} {xs ys : List V} (h1 : H a = some (.lst xs)) (h2 : H b = some (.lst ys)) (z : xs.length + ys.length <= sizeLine) (h : ∀ p, H p = none -> Q (.ref p) (upd H p (.lst (xs ++ ys)))) : rAddU (.ref a) (.ref b) H Q := .inr ⟨a, b, xs, ys, rfl, rfl, h1, h2, z, h⟩
theorem rd_mulI {i j : Int} (c : CMul i j) (h : Q (.int (i * j)) H) : rMulU (.int i) (.int j) H Q := .inl (rd_I c h)
theorem rd_eqS {x y : V} (s : scal x y = true) (h : Q (.bl (decide (x = y))) H) : rEqU K x y H Q := .inl ⟨s, h⟩
theorem rd_neS {x y : V} (s : scal x y = true) (h : Q (.bl (!decide (x = y))) H) : rNeU K x y H Q := .inl ⟨s, h⟩
theorem rd_neD {x y : V} {d d' : L2.D} (r : Rep K H d x) (r' : Rep K H d' y) (t : twins d d') (z : d.dp <= 60) (h : Q (.bl (!eqD d d')) H) : rNeU K x y H Q := .inr ⟨d, d', r, r', t, z, h⟩
theorem rd_listL {a : Addr} {xs : List V} (s : SqL K H a xs) (h : ∀ l, H l = none -> Q (.ref l) (upd H l (.lst xs))) : rListU K [.ref a] H Q := ⟨a, xs, rfl, .inl s, h⟩
theorem rd_lenL {a : Addr} {xs : List V} (s : SqL K H a xs) (h : Q (.int xs.length) H) : rLenS K [.ref a] H Q := ⟨a, xs, rfl, .inl s, h⟩
theorem rd_lenT {a : Addr} {xs : List V} (s : SqT K H a xs) (h : Q (.int xs.length) H) : rLenS K [.ref a] H Q := ⟨a, xs, rfl, .inr s, h⟩
theorem rd_isN {x : V} (h : Q (.bl (decide (x = .non))) H) : rIsN x .non H Q := ⟨rfl, h⟩
theorem rd_notN {x : V} (h : Q (.bl (!decide (x = .non))) H) : rNotN x .non H Q := ⟨rfl, h⟩
theorem rd_truth {R : Bool -> Hp -> Prop} (h : te σ H fun x H' => ∃ k, TruV K x H' k /\ R k H') : tTru K te σ H R := h
theorem rd_isi {x : V} {n : String} {t : Value} {b : Bool} (ty : TyOf K H x t) (e : PySem.W.kitOne K t (.type n) = some b) (h : Q (.bl b) H) : rIsi K [x, .ty n] H Q := ⟨x, n, t, b, rfl, ty, e, h⟩
theorem rd_test {R : Bool -> Hp -> Prop} (h : ta σ H fun x H' => ∃ k, x = .bl k /\ R k H') : tTest ta σ H R := h
theorem rd_bl {b : Bool} {R : Bool -> Prop} (h : R b) : ∃ k, V.bl b = .bl k /\ R k := ⟨b, rfl, h⟩
theorem rd_tru {b : Bool} {R : Bool -> Prop} (h : R b) : ∃ k, TruV K (.bl b) H k /\ R k := ⟨b, rfl, h⟩
theorem rd_or {R : Bool -> Hp -> Prop} (h : c σ H fun b H1 => if b = true then R true H1 else d σ H1 R) : tOr c d σ H R := h
theorem rd_and {R : Bool -> Hp -> Prop} (h : c σ H fun b H1 => if b = true then d σ H1 R else R false H1) : tAnd c d σ H R := h
theorem rd_not {R : Bool -> Hp -> Prop} (h : c σ H fun b H1 => R (!b) H1) : tNot c σ H R := h
theorem rd_nil {R : List V -> Hp -> Prop} (h : R [] H) : tNil σ H R := h
theorem rd_cons {ta : TE} {tr : TA} {R : List V -> Hp -> Prop} (h : ta σ H fun x H1 => tr σ H1 fun xs H2 => R (x :: xs) H2) : tCons ta tr σ H R := h
theorem rd_call {sp : Sp} {dvs : List V} {E : XK} {t : TA} (h : t σ H fun vs H1 => sp (vs ++ dvs) H1 Q E) : tCall sp dvs E t σ H Q := h
theorem rd_cb {r : List V -> Hp -> VK -> Prop} {t : TA} (h : t σ H fun vs H1 => r vs H1 Q) : tCB r t σ H Q := h
theorem rd_sl {r : V -> Option Int -> Option Int -> Hp -> VK -> Prop} {tl th : TO} (h : te σ H fun x H1 => tl σ H1 fun l H2 => th σ H2 fun u H3 => r x l u H3 Q) : tSl r te tl th σ H Q := h
theorem rd_nopart {R : Option Int -> Hp -> Prop} (h : R none H) : tNoPart σ H R := h
theorem rd_part {R : Option Int -> Hp -> Prop} (h : te σ H fun x H1 => ∃ i, x = .int i /\ R (some i) H1) : tPart te σ H R := h
theorem rd_int {i : Int} {R : Int -> Prop} (h : R i) : ∃ k, V.int i = .int k /\ R k := ⟨i, rfl, h⟩
theorem rd_lst {t : TA} (h : t σ H fun xs H1 => xs.length <= sizeLine /\ ∀ p, H1 p = none -> Q (.ref p) (upd H1 p (.lst xs))) : tLst t σ H Q := h
theorem rd_tup {t : TA} (h : t σ H fun xs H1 => xs.length <= sizeLine /\ ∀ p, H1 p = none -> Q (.ref p) (upd H1 p (.tup xs))) : tTup t σ H Q := h
theorem rd_ixL {p : Addr} {xs : List V} {i : Int} {v : V} (s : SqL K H p xs) (e : atI xs i = some v) (h : Q v H) : rIx K (.ref p) (.int i) H Q := .inl ⟨p, xs, i, v, rfl, rfl, s, e, h⟩
theorem rd_ixT {p : Addr} {xs : List V} {i : Int} {v : V} (s : SqT K H p xs) (e : atI xs i = some v) (h : Q v H) : rIx K (.ref p) (.int i) H Q := .inr (.inl ⟨p, xs, i, v, rfl, rfl, s, e, h⟩)
theorem rd_slL {a : Addr} {xs : List V} {lo hi : Option Int} (s : SqL K H a xs) (h : ∀ p, H p = none -> Q (.ref p) (upd H p (.lst (cutV xs lo hi)))) : rSlL K (.ref a) lo hi H Q := ⟨a, xs, rfl, s, h⟩
theorem rd_notIn {x : V} {p : Addr} {xs : List V} (s : SqL K H p xs) (f : flatV x = true) (fs : xs.all flatV = true) (h : Q (.bl (!inV x xs)) H) : rIn K true x (.ref p) H Q := ⟨p, xs, rfl, .inl s, f, fs, h⟩
theorem rd_forL {tl : TE} {D : Ends} {g : TG} {tb : TS} (h : tl σ H fun x H1 => ∃ a, x = .ref a /\ (∃ xs, SqL K H1 a xs) /\ ForW (Itl K a) g tb D σ H1) : tFor (iList K tl) g tb D σ H := h
theorem rd_forR {ta : TA} {D : Ends} {g : TG} {tb : TS} (h : ta σ H fun vs H1 => ∃ j : Int, vs = [.int j] /\ -(2 ^ 62) <= j /\ j < 2 ^ 62 /\ ForW (Itr 0 j.toNat) g tb D σ H1) : tFor (iRng1 ta) g tb D σ H := h
theorem rd_compL {tl te : TE} {g : TG} {tc : TT} {k : Nat} {caps : List Nat} (h : tl σ H fun x H1 => ∃ a, x = .ref a /\ (∃ xs, SqL K H1 a xs) /\ CompW (Itl K a) g tc te (blkSt k caps σ) Q H1) : tComp (iList K tl) g tc te k caps σ H Q := h
theorem rd_compR {ta : TA} {te : TE} {g : TG} {tc : TT} {k : Nat} {caps : List Nat} (h : ta σ H fun vs H1 => ∃ j : Int, vs = [.int j] /\ -(2 ^ 62) <= j /\ j < 2 ^ 62 /\ CompW (Itr 0 j.toNat) g tc te (blkSt k caps σ) Q H1) : tComp (iRng1 ta) g tc te k caps σ H Q := h
end
theorem ite3 {b : Bool} {A B : Prop} (h1 : b = true -> A) (h2 : b = false -> B) : if b = true then A else B := by
  cases b
  · exact iteF (h2 rfl)
  · exact iteT (h1 rfl)
theorem comp_list {K : PySem.W.Frag} {a : Addr} {xs : List V} {H : Hp} {Q : VK} {g : TG} {tc : TT} {te : TE} {σ : St} (Pv : Nat -> List V -> Hp -> Prop) (hz : xs.length <= sizeLine) (h0 : Pv 0 [] H) (hl : ∀ i acc H, i <= xs.length -> Pv i acc H -> SqL K H a xs)
    (hs : ∀ i x acc H, xs[i]? = some x -> Pv i acc H -> g x σ H fun σ4 H4 => tc σ4 H4 fun b H5 => if b = true then te σ4 H5 fun y H6 => Pv (i + 1) (acc ++ [y]) H6 else Pv (i + 1) acc H5)
    (hd : ∀ acc H, Pv xs.length acc H -> ∀ p, H p = none -> Q (.ref p) (upd H p (.lst acc))) :
    CompW (Itl K a) g tc te σ Q H := by
  refine ⟨fun i m acc H => m = xs.length - i /\ i <= xs.length /\ Pv i acc H, ⟨xs.length, by simp, Nat.zero_le _, h0⟩, ?_⟩
  rintro i m acc H2 ⟨rfl, hi, p⟩
  have q := hl i acc H2 hi p
  by_cases hlt : i < xs.length
  · refine .inr ⟨⟨xs, xs[i], q, by simp [hlt]⟩, by lia, Pv (i + 1), fun acc' H' p' => ⟨xs.length - (i + 1), by lia, rfl, hlt, p'⟩, fun x H' y => ?_⟩
    obtain ⟨e, y⟩ := y
    subst e
    exact hs i x acc _ (y xs q) p
  · have e : i = xs.length := by lia
    subst e
    exact .inl ⟨⟨xs, q, Nat.le_refl _⟩, by lia, hd acc H2 p⟩
theorem comp_range {n : Nat} {H : Hp} {Q : VK} {g : TG} {tc : TT} {te : TE} {σ : St} (Pv : Nat -> List V -> Hp -> Prop) (hz : n <= sizeLine) (h0 : Pv 0 [] H)
    (hs : ∀ i acc H, i < n -> Pv i acc H -> g (.int (0 + i)) σ H fun σ4 H4 => tc σ4 H4 fun b H5 => if b = true then te σ4 H5 fun y H6 => Pv (i + 1) (acc ++ [y]) H6 else Pv (i + 1) acc H5)
    (hd : ∀ acc H, Pv n acc H -> ∀ p, H p = none -> Q (.ref p) (upd H p (.lst acc))) :
    CompW (Itr 0 n) g tc te σ Q H := by
  refine ⟨fun i m acc H => m = n - i /\ i <= n /\ Pv i acc H, ⟨n, by simp, Nat.zero_le _, h0⟩, ?_⟩
  rintro i m acc H2 ⟨rfl, hi, p⟩
  by_cases hlt : i < n
  · refine .inr ⟨hlt, by lia, Pv (i + 1), fun acc' H' p' => ⟨n - (i + 1), by lia, rfl, hlt, p'⟩, fun x H' y => ?_⟩
    obtain ⟨e, y⟩ := y
    subst e y
    exact hs i acc _ hlt p
  · have e : i = n := by lia
    subst e
    exact .inl ⟨Nat.le_refl _, by lia, hd acc H2 p⟩
theorem for_lst {K : PySem.W.Frag} {a : Addr} {xs : List V} {g : TG} {tb : TS} {D : Ends} {σ : St} {H : Hp} (Pv : Nat -> St -> Hp -> Prop) (h0 : Pv 0 σ H) (hl : ∀ i σ H, i <= xs.length -> Pv i σ H -> SqL K H a xs)
    (hs : ∀ i x σ H, xs[i]? = some x -> Pv i σ H -> g x σ H fun σ2 H2 => tb { D with nx := Pv (i + 1), ct := Pv (i + 1), bk := D.nx } σ2 H2) (hd : ∀ σ H, Pv xs.length σ H -> D.nx σ H) :
    ∃ a', V.ref a = .ref a' /\ (∃ xs, SqL K H a' xs) /\ ForW (Itl K a') g tb D σ H :=
  ⟨a, rfl, ⟨xs, hl 0 σ H (Nat.zero_le _) h0⟩, for_list Pv h0 hl hs hd⟩
theorem for_rng {n : Nat} {g : TG} {tb : TS} {D : Ends} {σ : St} {H : Hp} (Pv : Nat -> St -> Hp -> Prop) (hn : n < 2 ^ 62) (h0 : Pv 0 σ H)
    (hs : ∀ i σ H, i < n -> Pv i σ H -> g (.int (0 + i)) σ H fun σ2 H2 => tb { D with nx := Pv (i + 1), ct := Pv (i + 1), bk := D.nx } σ2 H2) (hd : ∀ σ H, Pv n σ H -> D.nx σ H) :
    ∃ j : Int, [V.int (n : Int)] = [.int j] /\ -(2 ^ 62) <= j /\ j < 2 ^ 62 /\ ForW (Itr 0 j.toNat) g tb D σ H := by
  refine ⟨n, rfl, by lia, by lia, ?_⟩
  rw [Int.toNat_natCast]
  exact for_range Pv h0 hs hd
theorem comp_lst {K : PySem.W.Frag} {a : Addr} {xs : List V} {H : Hp} {Q : VK} {g : TG} {tc : TT} {te : TE} {σ : St} (Pv : Nat -> List V -> Hp -> Prop) (hz : xs.length <= sizeLine) (h0 : Pv 0 [] H) (hl : ∀ i acc H, i <= xs.length -> Pv i acc H -> SqL K H a xs)
    (hs : ∀ i x acc H, xs[i]? = some x -> Pv i acc H -> g x σ H fun σ4 H4 => tc σ4 H4 fun b H5 => if b = true then te σ4 H5 fun y H6 => Pv (i + 1) (acc ++ [y]) H6 else Pv (i + 1) acc H5)
    (hd : ∀ acc H, Pv xs.length acc H -> ∀ p, H p = none -> Q (.ref p) (upd H p (.lst acc))) :
    ∃ a', V.ref a = .ref a' /\ (∃ xs, SqL K H a' xs) /\ CompW (Itl K a') g tc te σ Q H :=
  ⟨a, rfl, ⟨xs, hl 0 [] H (Nat.zero_le _) h0⟩, comp_list Pv hz h0 hl hs hd⟩
theorem comp_rng {n : Nat} {H : Hp} {Q : VK} {g : TG} {tc : TT} {te : TE} {σ : St} (Pv : Nat -> List V -> Hp -> Prop) (hz : n <= sizeLine) (h0 : Pv 0 [] H)
    (hs : ∀ i acc H, i < n -> Pv i acc H -> g (.int (0 + i)) σ H fun σ4 H4 => tc σ4 H4 fun b H5 => if b = true then te σ4 H5 fun y H6 => Pv (i + 1) (acc ++ [y]) H6 else Pv (i + 1) acc H5)
    (hd : ∀ acc H, Pv n acc H -> ∀ p, H p = none -> Q (.ref p) (upd H p (.lst acc))) :
    ∃ j : Int, [V.int (n : Int)] = [.int j] /\ -(2 ^ 62) <= j /\ j < 2 ^ 62 /\ CompW (Itr 0 j.toNat) g tc te σ Q H := by
  have e62 : sizeLine < 2 ^ 62 := by rw [sizeLine_eq]; decide
  refine ⟨n, rfl, by lia, by lia, ?_⟩
  rw [Int.toNat_natCast]
  exact comp_range Pv hz h0 hs hd
theorem iteP {c A B : Prop} [Decidable c] (h : c) (k : A) : if c then A else B := by rw [if_pos h]; exact k
theorem iteN {c A B : Prop} [Decidable c] (h : ¬ c) (k : B) : if c then A else B := by rw [if_neg h]; exact k
section
variable {σ : St} {H : Hp} {Q : VK} {ta tb : TE}
theorem rd_andV (h : ta σ H fun x H1 => ∃ c, x = .bl c /\ if c = true then tb σ H1 Q else Q (.bl false) H1) : tAndV ta tb σ H Q := h
theorem rd_notV (h : ta σ H fun x H1 => ∃ c, x = .bl c /\ Q (.bl (!c)) H1) : tNotV ta σ H Q := h
theorem rd_all {R : Bool -> Hp -> Prop} (h : R true H) : tAll σ H R := h
end
theorem bt_len : bootBuiltins "len" = some (.builtin "len") := by decide +kernel
theorem bt_isinstance : bootBuiltins "isinstance" = some (.builtin "isinstance") := by decide +kernel
theorem bt_sorted : bootBuiltins "sorted" = some (.builtin "sorted") := by decide +kernel
theorem bt_min : bootBuiltins "min" = some (.builtin "min") := by decide +kernel
theorem bt_list : bootBuiltins "list" = some (.type "list") := by decide +kernel
theorem bt_int : bootBuiltins "int" = some (.type "int") := by decide +kernel
theorem bt_bool : bootBuiltins "bool" = some (.type "bool") := by decide +kernel
theorem bt_enumerate : bootBuiltins "enumerate" = some (.type "enumerate") := by decide +kernel
end L2
namespace L2
open PySem PySem.Spec PyProof.Rows
section
variable {X : Cx}
theorem op_eqK (K : PySem.W.Frag) (hu : X.A.units + 200 < cLine) (hK : X.K = K := by rfl) : OpR X (compareOp .Eq) (rEqU K) := hK ▸ op_eqU hu
theorem op_neK (K : PySem.W.Frag) (hu : X.A.units + 200 < cLine) (hK : X.K = K := by rfl) : OpR X (compareOp .NotEq) (rNeU K) := hK ▸ op_neU hu
theorem op_notInK (K : PySem.W.Frag) (hK : X.K = K := by rfl) : OpR X (compareOp .NotIn) (rIn K true) := hK ▸ op_notIn_seq
theorem ix_seqK (K : PySem.W.Frag) (hK : X.K = K := by rfl) : IxR X (rIx K) := hK ▸ ix_seq
theorem sl_listK (K : PySem.W.Frag) (hK : X.K = K := by rfl) : SlR X (rSlL K) := hK ▸ sl_list
theorem call_lenK (K : PySem.W.Frag) (hK : X.K = K := by rfl) : CallR X (.builtin "len") (rLenS K) := hK ▸ call_lenS
theorem call_listK (K : PySem.W.Frag) (hK : X.K = K := by rfl) : CallR X (.type "list") (rListU K) := hK ▸ call_listU
theorem call_isiK (K : PySem.W.Frag) (hK : X.K = K := by rfl) : CallR X (.builtin "isinstance") (rIsi K) := hK ▸ call_isi
theorem pi_listK {tg l : Expr} {tl : TE} (K : PySem.W.Frag) (hl : PE X l tl) (hK : X.K = K := by rfl) : PI X tg l (iList K tl) := hK ▸ pi_list hl
theorem pt_truK {a : Expr} {ta : TE} (K : PySem.W.Frag) (ha : PE X a ta) (he : ∀ whole, isTrue a X.env whole = (do let v <- whole; standAt a.pos; holding [v] (truthy v))) (hK : X.K = K := by rfl) : PT X a (tTru K ta) := hK ▸ pt_tru ha he
theorem pg_tupK {es : List Expr} {k : Nat} {t : TGs} {n : Nat} {pos : Pos} (K : PySem.W.Frag) (hc : X.calm = true) (h : PGs X es t)
    (hn : (assignEach es X.env).length = n := by rfl) (hst : (assignEach es X.env).findIdx? (·.1) = none := by rfl) (hK : X.K = K := by rfl) : PG X (.Tuple es k pos) (gTup K n t) := hK ▸ pg_tup hc h hn hst
end
noncomputable def cscB (sc : Scope) (N : List Str) (scope : Scope) (own taken : List Str) (caps : List Nat) : Bool :=
  (scope.kind == .function) && (scope.names.all fun y => y.2 != .cell) && (scope.names.all fun y => y.2 != .local || scope.names.lookup y.1 == some .local) &&
  (scope.names.all fun y => y.2 != .free || (sc.names.lookup y.1 == some .cell || sc.names.lookup y.1 == some .free)) && (caps.map (N[·]?) == taken.map some) && (taken.all fun y => scope.names.lookup y == some .free)
theorem csc {X : Cx} {scope : Scope} {own taken : List Str} {caps : List Nat} (sc : Scope) (N : List Str) (h : cscB sc N scope own taken caps = true) (hsc : X.env.scope = sc := by rfl) (hN : X.N = N := by rfl) : CSc X scope own taken caps := by
  unfold cscB at h
  simp only [Bool.and_eq_true] at h
  obtain ⟨⟨⟨⟨⟨h1, h2⟩, h3⟩, h4⟩, h5⟩, h6⟩ := h
  refine ⟨beq_iff_eq.mp h1, fun y hy e => ?_, fun y hy e => ?_, fun y hy e => ?_, ?_, fun y hy => ?_⟩
  · have := List.all_eq_true.mp h2 y hy
    rw [e] at this
    exact absurd this (by decide)
  · have := List.all_eq_true.mp h3 y hy
    rw [e] at this
    simpa using this
  · have := List.all_eq_true.mp h4 y hy
    rw [e] at this
    show X.env.scope.names.lookup y.1 = _ ∨ X.env.scope.names.lookup y.1 = _
    rw [hsc]
    simpa using this
  · rw [hN]
    exact beq_iff_eq.mp h5
  · have := List.all_eq_true.mp h6 y hy
    simpa using this
end L2
namespace L2
open PySem PySem.Spec PyProof.Rows
structure QE (X : Cx) (e : Expr) (t : TE) : Prop where run : PE X e t
structure QT (X : Cx) (e : Expr) (t : TT) : Prop where run : PT X e t
structure QW (X : Cx) (e : Expr) (t : TT) : Prop where run : PW X e t
structure QA (X : Cx) (es : List Expr) (t : TA) : Prop where run : PA X es t
structure QS (X : Cx) (st : Stmt) (t : TS) : Prop where run : PS X st t
structure QSs (X : Cx) (st : List Stmt) (t : TS) : Prop where run : PSs X st t
structure QG (X : Cx) (tg : Expr) (t : TG) : Prop where run : PG X tg t
structure QGs (X : Cx) (tg : List Expr) (t : TGs) : Prop where run : PGs X tg t
structure QO (X : Cx) (e : Option Expr) (t : TO) : Prop where run : PO X e t
structure QI (X : Cx) (tg iter : Expr) (t : TI) : Prop where run : PI X tg iter t
structure QIf (X : Cx) (ifs : List Expr) (t : TT) : Prop where run : PIf X ifs t
structure QOp (X : Cx) (f : Value -> Value -> Sem Value) (r : R2) : Prop where run : OpR X f r
structure QC (X : Cx) (f : Value) (r : List V -> Hp -> VK -> Prop) : Prop where run : CallR X f r
structure QM (X : Cx) (id : String) (r : V -> List V -> Hp -> VK -> Prop) : Prop where run : MtR X id r
section
variable {X : Cx} {a b c e l : Expr} {es rest : List Expr} {ta tb te tl : TE} {tA tB : TT} {t : TA} {pos : Pos} {K : PySem.W.Frag}
theorem qv (i : Nat) {x : Str} {pos : Pos} (hN : X.N[i]? = some x := by rfl) (hv : Vis X.env.scope x := by first | exact Or.inl rfl | exact Or.inr (Or.inl rfl) | exact Or.inr (Or.inr rfl)) (hd : (x == ("__debug__" : Str)) = false := by decide)
    (hcd : (x == ("__classdict__" : Str)) = false := by decide) : QE X (.Name x pos) (tVar i) := ⟨pe_var hN hv hd hcd⟩
theorem qe_int {i j pos} : QE X (.Constant (.int i) j pos) (tC (.int i)) := ⟨pe_int⟩
theorem qe_bl {b j pos} : QE X (.Constant (.bool b) j pos) (tC (.bl b)) := ⟨pe_bl⟩
theorem qe_non {j pos} : QE X (.Constant .none j pos) (tC .non) := ⟨pe_non⟩
theorem qe_str {x j pos} : QE X (.Constant (.str x) j pos) (tC (.str x)) := ⟨pe_str⟩
theorem qe_ty (n : String) {x : Str} {pos : Pos} (hm : X.mg x = none) (hv : bootBuiltins x = some (.type n)) (hg : Gl X x := by rfl) (hn : x ≠ "__name__" := by decide) (hd : (x == ("__debug__" : Str)) = false := by decide) : QE X (.Name x pos) (tC (.ty n)) := ⟨pe_bltn (v := .ty n) hg hm hv rfl hn hd⟩
theorem qe_op {op : Operator} {r : R2} (ho : QOp X (binaryOp op) r) (ha : QE X a ta) (hb : QE X b tb) : QE X (.BinOp a op b pos) (tOp r ta tb) := ⟨pe_op ho.run ha.run hb.run⟩
theorem qe_neg (ha : QE X a ta) : QE X (.UnaryOp .USub a pos) (tUn (rU fun i => .int (-i)) ta) := ⟨pe_un un_neg ha.run⟩
theorem qe_cmp {op : CmpOp} {r : R2} (ho : QOp X (compareOp op) r) (ha : QE X a ta) (hb : QE X b tb) (hm : behindInMarks op b = false) : QE X (.Compare a [op] [b] pos) (tOp r ta tb) := ⟨pe_cmpR ho.run ha.run hb.run hm⟩
theorem qe_one {op} (h : QE X a ta) : QE X (.BoolOp op [a] pos) ta := ⟨pe_one h.run⟩
theorem qe_and (ha : QE X a ta) (hb : QE X (.BoolOp .And (b :: rest) pos) tb) : QE X (.BoolOp .And (a :: b :: rest) pos) (tAndV ta tb) := ⟨pe_and ha.run hb.run⟩
theorem qe_not (ha : QE X a ta) : QE X (.UnaryOp .Not a pos) (tNotV ta) := ⟨pe_not ha.run⟩
theorem qa_nil : QA X [] tNil := ⟨pa_nil⟩
theorem qa_cons (ha : QE X e te) (hr : QA X es t) (hs : starEach (e :: es) X.env = (false, eval e X.env) :: starEach es X.env := by rfl) : QA X (e :: es) (tCons te t) := ⟨pa_cons ha.run hr.run hs⟩
theorem qe_tup {x1} (h : QA X es t) : QE X (.Tuple es x1 pos) (tTup t) := ⟨pe_tup h.run⟩
theorem qe_lst (h : QA X es t) : QE X (.List es pos) (tLst t) := ⟨pe_lst h.run⟩
theorem qo_none : QO X none tNoPart := ⟨po_none⟩
theorem qo_some (h : QE X e te) : QO X (some e) (tPart te) := ⟨po_some h.run⟩
theorem qe_slice (K : PySem.W.Frag) {lo hi : Option Expr} {tlo th : TO} {p2 : Pos} (he : QE X e te) (hl : QO X lo tlo) (hu : QO X hi th) (hK : X.K = K := by rfl) : QE X (.Subscript e (.Slice lo hi none p2) pos) (tSl (rSlL K) te tlo th) := ⟨pe_slice (sl_listK K hK) he.run hl.run hu.run⟩
theorem qe_ix (K : PySem.W.Frag) (ha : QE X a ta) (hb : QE X b tb) (hs : PlainIx b) (hK : X.K = K := by rfl) : QE X (.Subscript a b pos) (tOp (rIx K) ta tb) := ⟨pe_ix (ix_seqK K hK) ha.run hb.run hs⟩
theorem qe_callC {x : Str} {ps : List Str} {k : Nat} {sp : Sp} {p pos : Pos} (C : Cal X.prog X.w X.K X.mg X.base x ps k sp) (hr : Room k X.A) (ha : QA X (e :: es) t) (hg : Gl X x := by rfl)
    (hdb : (x == ("__debug__" : Str)) = false := by decide) (he : starEach (e :: es) X.env = (false, eval e X.env) :: starEach es X.env := by rfl) (hpl : (backTo pos (starEach es X.env)).any (·.1) = false := by rfl) :
    QE X (.Call (.Name x p) (e :: es) [] pos) (tCall sp [] E0 t) := ⟨pe_callC C hr hg ha.run hdb he hpl⟩
theorem qe_callB {x : Str} {p : Pos} {id : String} {r : List V -> Hp -> VK -> Prop} (hc : QC X (.builtin id) r) (hm : X.mg x = none) (hv : bootBuiltins x = some (.builtin id)) (ha : QA X (e :: es) t) (hg : Gl X x := by rfl) (hn : x ≠ "__name__" := by decide) (hdb : (x == ("__debug__" : Str)) = false := by decide)
    (he : starEach (e :: es) X.env = (false, eval e X.env) :: starEach es X.env := by rfl) (hpl : (backTo pos (starEach es X.env)).any (·.1) = false := by rfl) : QE X (.Call (.Name x p) (e :: es) [] pos) (tCB r t) := ⟨pe_callB hc.run hg hm hv ha.run hn hdb he hpl⟩
theorem qe_callTy {x : Str} {p : Pos} {T : String} {r : List V -> Hp -> VK -> Prop} (hc : QC X (.type T) r) (hm : X.mg x = none) (hv : bootBuiltins x = some (.type T)) (ha : QA X (e :: es) t) (hg : Gl X x := by rfl) (hn : x ≠ "__name__" := by decide) (hdb : (x == ("__debug__" : Str)) = false := by decide)
    (he : starEach (e :: es) X.env = (false, eval e X.env) :: starEach es X.env := by rfl) (hpl : (backTo pos (starEach es X.env)).any (·.1) = false := by rfl) : QE X (.Call (.Name x p) (e :: es) [] pos) (tCB r t) := ⟨pe_callTy hc.run hg hm hv ha.run hn hdb he hpl⟩
theorem qe_bm0 {o : Expr} {to : TE} {T id : String} {name : Str} {apos cpos : Pos} {r : V -> List V -> Hp -> VK -> Prop} (K : PySem.W.Frag) (pa : PlainAttrs T) (slot : Slot T name id) (hty : typeOf (.builtin id) = pure (.type "method_descriptor")) (hm : QM X id r) (ho : QE X o to)
    (hbase : attributeBase o name X.env (eval o X.env) = eval o X.env := by rfl) (hline : (apos.endLine == cpos.line) = true := by rfl) (hK : X.K = K := by rfl) : QE X (.Call (.Attribute o name apos) [] [] cpos) (tBM0 K T r to) := ⟨hK ▸ pe_bm0 pa slot hty hm.run ho.run hbase hline⟩
theorem qe_bm {o : Expr} {to : TE} {T id : String} {name : Str} {apos cpos : Pos} {r : V -> List V -> Hp -> VK -> Prop} (K : PySem.W.Frag) (pa : PlainAttrs T) (slot : Slot T name id) (hty : typeOf (.builtin id) = pure (.type "method_descriptor")) (hm : QM X id r) (ho : QE X o to) (ha : QA X (e :: es) t)
    (hbase : attributeBase o name X.env (eval o X.env) = eval o X.env := by rfl)
    (hfew : ((backTo cpos (starEach (e :: es) X.env)).all (fun x => !x.1) && (backToKw cpos (keywordEach [] X.env)).all (fun x => x.1.isSome)
      && decide ((e :: es).length + ([] : List Keyword).length + (if ([] : List Keyword).isEmpty then 0 else 1) < 30)) = true := by rfl)
    (hline : (apos.endLine == cpos.line) = true := by rfl) (hs : starEach (e :: es) X.env = (false, eval e X.env) :: starEach es X.env := by rfl) (hplain : (backTo cpos (starEach es X.env)).any (·.1) = false := by rfl) (hK : X.K = K := by rfl) :
    QE X (.Call (.Attribute o name apos) (e :: es) [] cpos) (tBM K T r to t) := ⟨hK ▸ pe_bm pa slot hty hm.run ho.run ha.run hbase hfew hline hs hplain⟩
theorem qt_cmp {op : CmpOp} {r : R2} (ho : QOp X (compareOp op) r) (ha : QE X a ta) (hb : QE X b tb) (hm : behindInMarks op b = false) : QT X (.Compare a [op] [b] pos) (tTest (tOp r ta tb)) := ⟨pt_cmpR ho.run ha.run hb.run hm⟩
theorem qt_not (ha : QT X a tA) : QT X (.UnaryOp .Not a pos) (tNot tA) := ⟨pt_not ha.run⟩
theorem qt_w (h : QW X a tA) : QT X a tA := ⟨PW.pt h.run⟩
theorem qw_and1 (ha : QT X a tA) : QW X (.BoolOp .And [a] pos) tA := ⟨pw_and1 ha.run⟩
theorem qw_or1 (ha : QT X a tA) : QW X (.BoolOp .Or [a] pos) tA := ⟨pw_or1 ha.run⟩
theorem qw_and (ha : QT X a tA) (hb : QW X (.BoolOp .And (b :: rest) pos) tB) : QW X (.BoolOp .And (a :: b :: rest) pos) (tAnd tA tB) := ⟨pw_and ha.run hb.run⟩
theorem qw_or (ha : QT X a tA) (hb : QW X (.BoolOp .Or (b :: rest) pos) tB) : QW X (.BoolOp .Or (a :: b :: rest) pos) (tOr tA tB) := ⟨pw_or ha.run hb.run⟩
theorem qt_tru (K : PySem.W.Frag) (ha : QE X a ta) (he : ∀ whole, isTrue a X.env whole = (do let v <- whole; standAt a.pos; holding [v] (truthy v))) (hK : X.K = K := by rfl) : QT X a (tTru K ta) := ⟨pt_truK K ha.run he hK⟩
theorem qg_name (i : Nat) {x : Str} (hN : X.N.Nodup) (hi : X.N[i]? = some x := by rfl) (hx : Loc X.env.scope x := by first | exact Or.inl rfl | exact Or.inr rfl) (hf : X.fn x = true ∨ X.env.scope.names.lookup x = some .local := by first | exact .inl rfl | exact .inr rfl) : QG X (.Name x pos) (gName i) := ⟨pg_name hN hi hx hf⟩
theorem qgs_nil : QGs X [] gNil := ⟨pgs_nil⟩
theorem qgs_cons {t : TG} {u : TGs} (h1 : QG X e t) (h2 : QGs X es u) (hs : (assignEach (e :: es) X.env).map (·.2) = assign e X.env :: (assignEach es X.env).map (·.2) := by rfl) : QGs X (e :: es) (gCons t u) := ⟨pgs_cons h1.run h2.run hs⟩
theorem qg_tup (K : PySem.W.Frag) {k : Nat} {t : TGs} {n : Nat} (h : QGs X es t) (hc : X.calm = true := by rfl)
    (hn : (assignEach es X.env).length = n := by rfl) (hst : (assignEach es X.env).findIdx? (·.1) = none := by rfl) (hK : X.K = K := by rfl) : QG X (.Tuple es k pos) (gTup K n t) := ⟨pg_tupK K hc h.run hn hst hK⟩
theorem qg_sub {o i : Expr} {to ti : TE} (ho : QE X o to) (hi : QE X i ti)
    (ha : ∀ v, assign (.Subscript o i pos) X.env v = (do
      let ov <- holding [v] (eval o X.env)
      let iv <- holding [v, ov] (eval i X.env)
      standAt pos
      holding [v, ov, iv] (setItem ov iv v)
      release [v, ov, iv] []) := by intro _; rfl) : QG X (.Subscript o i pos) (gSub to ti rSetL) := ⟨pg_sub ho.run hi.run set_list ha⟩
theorem qi_list (K : PySem.W.Frag) {tg : Expr} (hl : QE X l tl) (hK : X.K = K := by rfl) : QI X tg l (iList K tl) := ⟨pi_listK K hl.run hK⟩
theorem qi_range1 {tg : Expr} {p : Pos} (hm : X.mg "range" = none) (ha : QA X [a] t) (hg : Gl X "range" := by rfl) (hs : starEach [a] X.env = [(false, eval a X.env)] := by rfl) : QI X tg (.Call (.Name "range" p) [a] [] pos) (iRng1 t) := ⟨pi_range1 hg hm ha.run hs⟩
theorem qif_nil : QIf X [] tAll := ⟨pif_nil⟩
theorem qif_one (h : QT X c tA) : QIf X [c] tA := ⟨pif_one h.run⟩
structure QBlk (X : Cx) (scope : Scope) (k : Nat) (N : List Str) (tg elt : Expr) (ifs : List Expr) (g : TG) (tc : TT) (te : TE) : Prop where
  all : ∀ (C : Addr) (s : Shared) (H : Hp) (fp : List Addr) (pins : List (Addr × Obj)),
    QG (X.blk scope N C s H fp pins) tg g /\ QIf (X.blk scope N C s H fp pins) ifs tc /\ QE (X.blk scope N C s H fp pins) elt te
  gw : GW k g
theorem QBlk.p {X : Cx} {scope : Scope} {k : Nat} {N : List Str} {tg elt : Expr} {ifs : List Expr} {g : TG} {tc : TT} {te : TE} (h : QBlk X scope k N tg elt ifs g tc te) : PBlk X scope k N tg elt ifs g tc te :=
  ⟨fun C s H fp pins => ⟨(h.all C s H fp pins).1.run, (h.all C s H fp pins).2.1.run, (h.all C s H fp pins).2.2.run⟩, h.gw⟩
variable {tg iter elt : Expr} {ifs : List Expr} {scope : Scope} {own taken : List Str} {caps : List Nat} {wi : TI} {g : TG} {tc : TT}
theorem qe_comp (hx : ∀ e s, X.xe e s -> False) (S : CSc X scope own taken caps) (hi : QI X tg iter wi) (B : QBlk X scope own.length (own ++ taken) tg elt ifs g tc te) (hc : X.calm = true := by rfl)
    (hs : ∀ x, foldedSetIterable iter X.env x = pure x := by intro _; rfl) : QE X (.ListComp elt [⟨tg, iter, ifs, 0⟩] scope pos) (tComp wi g tc te own.length caps) := ⟨pe_comp hx hc S hi.run B.p hs⟩
theorem qs_setComp (i : Nat) {y : Str} {py spos : Pos} (hN : X.N.Nodup) (hx : ∀ e s, X.xe e s -> False) (S : CSc X scope own taken caps) (hi : QI X tg iter wi) (B : QBlk X scope own.length (own ++ taken) tg elt ifs g tc te)
    (hc : X.calm = true := by rfl) (hiy : X.N[i]? = some y := by rfl) (hy : X.env.scope.names.lookup y = some .local := by rfl)
    (hsw : swapsWith (.ListComp elt [⟨tg, iter, ifs, 0⟩] scope pos) (some (.Name y py)) spos.line X.env = pure true := by rfl)
    (hs : ∀ x, foldedSetIterable iter X.env x = pure x := by intro _; rfl) :
    QS X (.Assign [.Name y py] (.ListComp elt [⟨tg, iter, ifs, 0⟩] scope pos) spos) (tAsg (tComp wi g tc te own.length caps) (gName i)) := ⟨ps_setComp hN hiy hy hx hc S hi.run B.p hsw hs⟩
variable {s1 : Stmt} {ss body : List Stmt} {u v : TS}
theorem qss_nil : QSs X [] tNext := ⟨pss_nil⟩
theorem qss_cons (h1 : QS X s1 u) (h2 : QSs X ss v) : QSs X (s1 :: ss) (tSeq u v) := ⟨pss_cons h1.run h2.run⟩
theorem qss_one (h1 : QS X s1 u) : QSs X [s1] u := ⟨pss_one h1.run⟩
theorem qs_set (i : Nat) {x : Str} {pos' : Pos} (hN : X.N.Nodup) (he : QE X e te) (hi : X.N[i]? = some x := by rfl) (hx : Loc X.env.scope x := by first | exact Or.inl rfl | exact Or.inr rfl) (hs : swapsWith e (some (.Name x pos')) pos.line X.env = pure false := by rfl) (hf : X.fn x = true ∨ X.env.scope.names.lookup x = some .local := by first | exact .inl rfl | exact .inr rfl) :
    QS X (.Assign [.Name x pos'] e pos) (tAsg te (gName i)) := ⟨ps_set hN hi hx he.run hs hf⟩
theorem qs_asg (he : QE X e te) (hg : QG X tg g) (hs : swapsWithSole [tg] e pos.line X.env = pure false := by rfl) (hw : swappedStores [tg] e X.env = pure none := by rfl)
    (h1 : (assignEach [tg] X.env).map (·.2) = [assign tg X.env] := by rfl) : QS X (.Assign [tg] e pos) (tAsg te g) := ⟨ps_asg he.run hg.run hs hw h1⟩
theorem qs_expr (he : QE X e te) (hs : swapsWith e none pos.line X.env = pure false := by rfl) : QS X (.Expr e pos) (tDrop te) := ⟨ps_expr he.run hs⟩
theorem qs_ret (he : QE X e te) : QS X (.Return (some e) pos) (tRet te) := ⟨ps_ret he.run⟩
theorem qs_if {sa sb : List Stmt} (hc : QT X c tA) (ha : QSs X sa u) (hb : QSs X sb v) : QS X (.If c sa sb pos) (tIfS tA u v) := ⟨ps_if hc.run ha.run hb.run⟩
theorem qs_for (hi : QI X tg iter wi) (hg : QG X tg g) (hb : QSs X body u) (hp : PassesOwn (model X.prog X.w) X.A X.env X.xe := by exact PassesOwn.never) (hc : X.calm = true := by rfl)
    (hs : ∀ x, foldedSetIterable iter X.env x = pure x := by intro _; rfl) : QS X (.For tg iter body [] pos) (tFor wi g u) := ⟨ps_for hp hc hi.run hg.run hb.run hs⟩
theorem qs_while (hc : QT X c tA) (hb : QSs X body u) (hp : PassesOwn (model X.prog X.w) X.A X.env X.xe := by exact PassesOwn.never) : QS X (.While c body [] pos) (tWhile tA u) := ⟨ps_while hp hc.run hb.run⟩
theorem qo_add : QOp X (binaryOp .Add) rAddU := ⟨op_addU⟩
theorem qo_sub : QOp X (binaryOp .Sub) (rI0 fun i j => .int (i - j)) := ⟨op_sub⟩
theorem qo_mul : QOp X (binaryOp .Mult) rMulU := ⟨op_mulU⟩
theorem qo_fdiv : QOp X (binaryOp .FloorDiv) (rI CDiv fun i j => .int (i / j)) := ⟨op_fdiv⟩
theorem qo_mod : QOp X (binaryOp .Mod) (rI (fun _ j => 0 < j) fun i j => .int (i % j)) := ⟨op_mod⟩
theorem qo_pow : QOp X (binaryOp .Pow) (rI CPow fun i j => .int (i ^ j.toNat)) := ⟨op_pow⟩
theorem qo_eq (K : PySem.W.Frag) (hu : X.A.units + 200 < cLine) (hK : X.K = K := by rfl) : QOp X (compareOp .Eq) (rEqU K) := ⟨op_eqK K hu hK⟩
theorem qo_ne (K : PySem.W.Frag) (hu : X.A.units + 200 < cLine) (hK : X.K = K := by rfl) : QOp X (compareOp .NotEq) (rNeU K) := ⟨op_neK K hu hK⟩
theorem qo_lt : QOp X (compareOp .Lt) (rI0 fun i j => .bl (decide (i < j))) := ⟨op_lt⟩
theorem qo_le : QOp X (compareOp .LtE) (rI0 fun i j => .bl (decide (i <= j))) := ⟨op_le⟩
theorem qo_gt : QOp X (compareOp .Gt) (rI0 fun i j => .bl (decide (j < i))) := ⟨op_gt⟩
theorem qo_notIn (K : PySem.W.Frag) (hK : X.K = K := by rfl) : QOp X (compareOp .NotIn) (rIn K true) := ⟨op_notInK K hK⟩
theorem qo_isN : QOp X (compareOp .Is) rIsN := ⟨op_isN'⟩
theorem qo_notN : QOp X (compareOp .IsNot) rNotN := ⟨op_notN'⟩
theorem qc_len (K : PySem.W.Frag) (hK : X.K = K := by rfl) : QC X (.builtin "len") (rLenS K) := ⟨call_lenK K hK⟩
theorem qc_list (K : PySem.W.Frag) (hK : X.K = K := by rfl) : QC X (.type "list") (rListU K) := ⟨call_listK K hK⟩
theorem qc_isi (K : PySem.W.Frag) (hK : X.K = K := by rfl) : QC X (.builtin "isinstance") (rIsi K) := ⟨call_isiK K hK⟩
theorem qc_int : QC X (.type "int") (fun xs H Q => (∃ i, xs = [.int i] /\ Q (.int i) H) ∨ ∃ k, xs = [.bl k] /\ Q (.int (if k then 1 else 0)) H) := ⟨call_int1⟩
theorem qm_append : QM X "list.append" rAppend := ⟨mt_append⟩
theorem qm_extend : QM X "list.extend" rExtend := ⟨mt_extend⟩
theorem qm_pop : QM X "list.pop" rPop := ⟨mt_pop⟩
theorem qm_popAt : QM X "list.pop" rPopAt := ⟨mt_popAt⟩
end
theorem Fun.okQ {P : Program} {w : World} {K : PySem.W.Frag} {mg : Str -> Option Value} {base : Heap} {x qual : Str} {st : Stmt} {f : Addr} {fd : FuncData} {N ps : List Str} {k : Nat} {sp : Sp} (F : Fun K x qual st f fd) (S : FnScope N ps (defScope st)) (len : ∀ vs H Q E, sp vs H Q E -> vs.length = ps.length)
    (hbody : ∀ (cdv : Value) (A : Around) (outer : List Env) (s : Shared) (H : Hp) (E : XK), Room k (A.deeper (envOfC qual (defScope st) s.heap.objs.size f cdv)) ->
      ∃ t, QSs (cxOf CX0 P w K mg base N qual (defScope st) f cdv A outer s H E).nox (defBody st) t /\ ∀ (vs : List V) (Q : VK), sp vs H Q E -> t { nx := fun _ H' => Q .non H', rt := Q } (start N vs) H) : FnOk P w K mg base CX0 (k + 1) f fd ps sp := by
  refine F.ok S len fun cdv A outer s H vs Q E hr h => ?_
  obtain ⟨t, d, r⟩ := hbody cdv A outer s H E hr
  exact ⟨t, d.run, r vs Q h⟩
theorem st_eq {N : List Str} {vs : List V} {σ : St} {t : TS} {D : Ends} {H : Hp} (e : start N vs = σ) (h : t D σ H) : t D (start N vs) H := e ▸ h
theorem rd_nameE {σ σ' : St} {H : Hp} {i : Nat} {v : V} {R : St -> Hp -> Prop} (e : σ.set i (some v) = σ') (h : R σ' H) : gName i v σ H R := by subst e; exact h
end L2
namespace L2
open PySem PySem.Spec PyProof.Rows
section
variable {X : Cx}
noncomputable def rInsert : V -> List V -> Hp -> VK -> Prop := fun x vs H Q => ∃ l xs i y, x = .ref l /\ vs = [.int i, y] /\ H l = some (.lst xs) /\ 0 <= i /\ i < 2 ^ 62 /\ xs.length < sizeLine /\ Q .non (upd H l (.lst (xs.take i.toNat ++ y :: xs.drop i.toNat)))
theorem mt_insert : MtM X "list.insert" rInsert := by
  intro pins s σ H x vs v us Q I rx rv h
  obtain ⟨l, xs, i, y, rfl, rfl, hH, h0, h1, hz, q⟩ := h
  cases rx
  obtain ⟨u, u2, rfl, ⟨t, rfl⟩, ru⟩ := vals2 rv
  obtain ⟨z, its, n, r, hl, e⟩ := I.lstM hH
  have hfit : ¬ (!Builtin.List.listFitsIndex i) = true := by
    simp [Builtin.List.listFitsIndex]
    lia
  refine call_meets F.slot_list_insert ⟨_, e, rfl⟩ F.entry_list_insert (F.args_list_insert_3 _ _ _) (AutoSeq1.list_insert_list_int_val_1 l its.toArray n i t u2 hfit (by rw [List.size_toArray]; lia)) ⟨e, ?_⟩
  refine ⟨.non, _, I.lset (its' := its.take i.toNat ++ u2 :: its.drop i.toNat) hH e ?_ ((r.take i.toNat).append (.cons ru (r.drop i.toNat))) ?_, rfl, q⟩
  · simp only [List.size_toArray]
    rw [if_neg (by lia)]
    have e1 : min i.toNat its.length <= its.length := Nat.min_le_right _ _
    refine Array.ext' ?_
    simp
    rcases Nat.le_total i.toNat its.length with h | h
    · rw [Nat.min_eq_left h, List.take_of_length_le (l := List.drop i.toNat its) (by rw [List.length_drop]; exact Nat.le_refl _)]
    · rw [Nat.min_eq_right h, List.take_length, List.take_of_length_le h, List.drop_of_length_le (Nat.le_refl _), List.drop_of_length_le h]
      simp
  · simp
    lia
theorem qm_insert : QM X "list.insert" rInsert := ⟨mt_insert⟩
theorem erase_ints (z : Int) : ∀ ns : List Int, (ns.map V.int).eraseIdx (ns.idxOf z) = (ns.erase z).map V.int
  | [] => rfl
  | n :: r => by
    rw [List.idxOf_cons, List.erase_cons]
    cases h : n == z with
    | true => rfl
    | false => simp [erase_ints z r]
noncomputable def eqI (z : Int) : Value -> Bool
  | .int i _ => i == z
  | _ => false
noncomputable def rRemove : V -> List V -> Hp -> VK -> Prop := fun x vs H Q => ∃ (l : Addr) (ns : List Int) (z : Int), x = .ref l /\ vs = [.int z] /\ H l = some (.lst (ns.map V.int)) /\ z ∈ ns /\ Q .non (upd H l (.lst ((ns.erase z).map V.int)))
theorem mt_remove : MtM X "list.remove" rRemove := by
  intro pins s σ H x vs v us Q I rx rv h
  obtain ⟨l, ns, z, rfl, rfl, hH, hz, q⟩ := h
  cases rx
  obtain ⟨u, rfl, t, rfl⟩ := vals1 rv
  obtain ⟨zz, its, n, r, hl, e⟩ := I.lstM hH
  have hi : ∀ (j : Nat) (v : Value), its[j]? = some v -> ∃ (m : Int) (t' : Tok), ns[j]? = some m /\ v = Value.int m t' := fun j v hv => by
    have hj : j < its.length := (List.getElem?_eq_some_iff.mp hv).1
    have hj' : j < ns.length := by rw [List.length_map] at hl; lia
    obtain ⟨u, hu, ru⟩ := r.get (i := j) (x := V.int ns[j]) (by rw [List.getElem?_map, List.getElem?_eq_getElem hj']; rfl)
    rw [hv] at hu
    cases hu
    obtain ⟨t', rfl⟩ := ru
    exact ⟨_, t', List.getElem?_eq_getElem hj', rfl⟩
  have hlt : ns.idxOf z < its.toArray.size := by
    have := List.idxOf_lt_length_of_mem hz
    rw [List.length_map] at hl
    simp
    lia
  have at_ : ∀ m (hm : m < its.toArray.size), ∃ (k : Int) (t' : Tok), ns[m]? = some k /\ its.toArray[m] = Value.int k t' := fun m hm => by
    have hm' : m < its.length := by simpa using hm
    obtain ⟨k, t', h1, h2⟩ := hi m _ (List.getElem?_eq_getElem hm')
    exact ⟨k, t', h1, by simpa using h2⟩
  refine call_meets F.slot_list_remove ⟨_, e, rfl⟩ F.entry_list_remove (F.args_list_remove_2 _ _) (MeetsSeq.list_remove l its.toArray n (.int z t) (eqI z) (fun y hy => ?_) (ns.idxOf z) hlt ?_ ?_ (by rw [List.size_toArray]; lia)) ⟨e, ?_⟩
  · obtain ⟨m, hm, rfl⟩ := Array.mem_iff_getElem.mp hy
    obtain ⟨k, t', _, h2⟩ := at_ m hm
    rw [h2]
    exact MeetsSeq.EqGives.int k z t' t
  · obtain ⟨k, t', h1, h2⟩ := at_ _ hlt
    rw [h2]
    have hx : ns.idxOf z < ns.length := List.idxOf_lt_length_of_mem hz
    have : k = z := by
      rw [List.getElem?_eq_getElem hx] at h1
      rw [<- Option.some.inj h1]
      exact List.getElem_idxOf hx
    simp [eqI, this]
  · intro m hm hlt'
    obtain ⟨k, t', h1, h2⟩ := at_ m hm
    rw [h2]
    have hx : m < ns.length := (List.getElem?_eq_some_iff.mp h1).1
    have hk : ns[m] = k := (List.getElem?_eq_some_iff.mp h1).2
    have := List.not_of_lt_findIdx (p := (· == z)) (xs := ns) (i := m) hlt'
    rw [hk] at this
    simpa [eqI] using this
  · refine ⟨.non, _, I.lset (its' := its.eraseIdx (ns.idxOf z)) hH e ?_ (by rw [<- erase_ints]; exact r.eraseIdx _) ?_, rfl, q⟩
    · have : ns.idxOf z < its.length := by simpa using hlt
      simp [Array.eraseIdxIfInBounds, this]
    · have := List.length_erase_of_mem hz
      rw [List.length_map] at zz ⊢
      lia
theorem qm_remove : QM X "list.remove" rRemove := ⟨mt_remove⟩
noncomputable def rMinL (K : PySem.W.Frag) : List V -> Hp -> VK -> Prop := fun xs H Q => ∃ (p : Addr) (ns : List Int), xs = [.ref p] /\ SqL K H p (ns.map V.int) /\ ns ≠ [] /\ ∀ M, M ∈ ns -> (∀ a ∈ ns, M <= a) -> Q (.int M) H
theorem call_minL (hc : X.calm = true) : CallR X (.builtin "min") (rMinL X.K) := by
  intro pins s σ H xs us Q I r h
  obtain ⟨p, ns, rfl, hq, hne, q⟩ := h
  obtain ⟨u, rfl, ru⟩ := vals1 r
  cases ru
  obtain ⟨its, rv, pl, hz⟩ := I.list hq
  have hi := intsAre_of rv
  obtain ⟨xs, e⟩ := hi.allInts.items
  have hns : ns = xs.toList.map (·.1) := by rw [<- hi.numsOf, <- nums_intItems, <- e]
  have hsz : 0 < xs.size := by
    have h3 : 0 < ns.length := List.length_pos_iff.mpr hne
    rw [hns, List.length_map, Array.length_toList] at h3
    exact h3
  have hl := pl.isList
  rw [e] at hl
  refine min_intList (I.ok.hd hc) hl hsz fun v h' tk hv hk => ?_
  obtain ⟨t, rfl⟩ := intItems_at hv
  obtain ⟨h1, h2⟩ := argBest_lt (numAt xs) (xs.size - 1)
  refine ⟨.int (numAt xs (argBest (fun i j => decide (numAt xs i < numAt xs j)) (xs.size - 1))), H, I.kept (t' := tk) hk, ⟨t, rfl⟩, q _ ?_ fun a ha => ?_⟩
  · rw [hns, numAt_eq]; exact getD_mem (by rw [List.length_map, Array.length_toList]; lia)
  · rw [hns] at ha
    obtain ⟨j, hj, rfl⟩ := mem_getD ha
    rw [List.length_map, Array.length_toList] at hj
    rw [<- numAt_eq]; exact h2 j (by lia)
theorem qc_min (K : PySem.W.Frag) (hc : X.calm = true := by rfl) (hK : X.K = K := by rfl) : QC X (.builtin "min") (rMinL K) := ⟨hK ▸ call_minL hc⟩
end
section
variable {σ : St} {H : Hp} {Q : VK} {te to : TE} {t : TA} {K : PySem.W.Frag} {T : String} {r : V -> List V -> Hp -> VK -> Prop}
theorem rd_bm0 (h : to σ H fun x H1 => tyV K T x H1 /\ r x [] H1 Q) : tBM0 K T r to σ H Q := h
theorem rd_bm (h : to σ H fun x H1 => tyV K T x H1 /\ t σ H1 fun xs H2 => r x xs H2 Q) : tBM K T r to t σ H Q := h
theorem rd_tyL {a : Addr} {xs : List V} {P : Prop} (s : SqL K H a xs) (h : P) : tyV K "list" (.ref a) H /\ P := ⟨.inl ⟨rfl, xs, s⟩, h⟩
theorem rd_append {l : Addr} {xs : List V} {y : V} (e : H l = some (.lst xs)) (z : xs.length < sizeLine) (h : Q .non (upd H l (.lst (xs ++ [y])))) : rAppend (.ref l) [y] H Q := ⟨l, xs, y, rfl, rfl, e, z, h⟩
theorem rd_insert {l : Addr} {xs : List V} {y : V} {i : Int} (e : H l = some (.lst xs)) (h0 : 0 <= i) (h1 : i < 2 ^ 62) (z : xs.length < sizeLine) (h : Q .non (upd H l (.lst (xs.take i.toNat ++ y :: xs.drop i.toNat)))) : rInsert (.ref l) [.int i, y] H Q := ⟨l, xs, i, y, rfl, rfl, e, h0, h1, z, h⟩
theorem rd_gtup {n : Nat} {g : TGs} {a : Addr} {xs : List V} {R : St -> Hp -> Prop} (s : SqT K H a xs) (l : xs.length = n) (h : g xs σ H R) : gTup K n g (.ref a) σ H R := ⟨a, xs, rfl, s, l, h⟩
theorem rd_gcons {g : TG} {gs : TGs} {v : V} {r : List V} {R : St -> Hp -> Prop} (h : g v σ H fun σ' H' => gs r σ' H' R) : gCons g gs (v :: r) σ H R := ⟨v, r, rfl, h⟩
theorem rd_gnil {R : St -> Hp -> Prop} (h : R σ H) : gNil [] σ H R := ⟨rfl, h⟩
end
end L2
namespace L2
open PySem PySem.Spec PyProof.Rows
theorem tupU {H : Hp} {a p : Addr} {xs : List V} {o : HO} (h : H a = some (.tup xs)) (n : H p = none ∨ ∃ ys, H p = some (.lst ys)) : upd H p o a = some (.tup xs) := by
  rw [upd_ne ?_]
  · exact h
  · intro z
    rw [z] at h
    rcases n with n | ⟨ys, n⟩ <;> (rw [n] at h; cases h)
noncomputable def IsPair (H : Hp) (x : V) (p : Int × Int) : Prop := ∃ b, x = .ref b /\ H b = some (.tup [.int p.1, .int p.2])
noncomputable abbrev IsPairs (H : Hp) (xs : List V) (ps : List (Int × Int)) : Prop := Paired (IsPair H) xs ps
theorem IsPairs.upd {H : Hp} {p : Addr} {xs : List V} {ps : List (Int × Int)} {o : HO} (h : IsPairs H xs ps) (n : H p = none ∨ ∃ ys, H p = some (.lst ys)) : IsPairs (L2.upd H p o) xs ps :=
  Paired.mapP h fun x q ⟨b, e, s⟩ => ⟨b, e, tupU s n⟩
theorem IsPairs.same {H H' : Hp} {xs : List V} {ps : List (Int × Int)} (h : IsPairs H xs ps) (s : Same H H') : IsPairs H' xs ps :=
  Paired.mapP h fun x q ⟨b, e, t⟩ => ⟨b, e, s _ _ t⟩
theorem Paired.get {α β : Type} {F : α -> β -> Prop} : ∀ {l₁ : List α} {l₂ : List β} {i : Nat} {x : α}, Paired F l₁ l₂ -> l₁[i]? = some x -> ∃ y, l₂[i]? = some y /\ F x y := by
  intro l₁ l₂ i x h
  induction h generalizing i with
  | nil => intro e; simp at e
  | cons r t ih =>
    intro e
    cases i with
    | zero => simp at e; subst e; exact ⟨_, rfl, r⟩
    | succ i =>
      obtain ⟨u, h1, h2⟩ := ih (i := i) (by simpa using e)
      exact ⟨u, by simpa using h1, h2⟩
theorem Paired.get' {α β : Type} {F : α -> β -> Prop} : ∀ {l₁ : List α} {l₂ : List β} {i : Nat} {y : β}, Paired F l₁ l₂ -> l₂[i]? = some y -> ∃ x, l₁[i]? = some x /\ F x y := by
  intro l₁ l₂ i x h
  induction h generalizing i with
  | nil => intro e; simp at e
  | cons r t ih =>
    intro e
    cases i with
    | zero => simp at e; subst e; exact ⟨_, rfl, r⟩
    | succ i =>
      obtain ⟨u, h1, h2⟩ := ih (i := i) (by simpa using e)
      exact ⟨u, by simpa using h1, h2⟩
theorem Paired.app {α β : Type} {F : α -> β -> Prop} : ∀ {l₁ l₃ : List α} {l₂ l₄ : List β}, Paired F l₁ l₂ -> Paired F l₃ l₄ -> Paired F (l₁ ++ l₃) (l₂ ++ l₄) := by
  intro l₁ l₃ l₂ l₄ h s
  induction h with
  | nil => exact s
  | cons r t ih => exact .cons r ih
theorem Paired.takeP {α β : Type} {F : α -> β -> Prop} : ∀ {l₁ : List α} {l₂ : List β} (n : Nat), Paired F l₁ l₂ -> Paired F (l₁.take n) (l₂.take n) := by
  intro l₁ l₂ n h
  induction h generalizing n with
  | nil => cases n <;> exact .nil
  | cons r t ih =>
    cases n with
    | zero => exact .nil
    | succ n => exact .cons r (ih n)
theorem Paired.dropP {α β : Type} {F : α -> β -> Prop} : ∀ {l₁ : List α} {l₂ : List β} (n : Nat), Paired F l₁ l₂ -> Paired F (l₁.drop n) (l₂.drop n) := by
  intro l₁ l₂ n h
  induction h generalizing n with
  | nil => cases n <;> exact .nil
  | cons r t ih =>
    cases n with
    | zero => exact .cons r t
    | succ n => exact ih n
noncomputable def second (ps : List (Int × Int)) (x : Int) : Option Int := (ps.find? fun p => p.1 == x).map (·.2)
noncomputable def iV : Option Int -> V
  | none => .non
  | some i => .int i
theorem Same.updF {H H' : Hp} {p : Addr} {o : HO} (s : Same H H') (n : H p = none) : Same H (upd H' p o) := fun b u e => by rw [upd_ne (ne_of_none e n)]; exact s b u e
theorem atI0 (x y : V) : atI [x, y] 0 = some x := rfl
theorem atI1 (x y : V) : atI [x, y] 1 = some y := rfl
end L2
namespace B
open PySem L2
structure Txt (mg : Str -> Option Value) : Prop where
  b_len : mg "len" = none
  b_isinstance : mg "isinstance" = none
  b_int : mg "int" = none
  b_bool : mg "bool" = none
  b_list : mg "list" = none
  b_tuple : mg "tuple" = none
  b_range : mg "range" = none
  b_reversed : mg "reversed" = none
  b_sorted : mg "sorted" = none
  b_min : mg "min" = none
  b_max : mg "max" = none
  b_sum : mg "sum" = none
  b_str : mg "str" = none
  b_set : mg "set" = none
  b_dict : mg "dict" = none
  b_enumerate : mg "enumerate" = none
theorem room200 {k : Nat} {A : Around} (r : Room k A) : A.units + 200 < cLine := by have := r.un; lia
theorem noX {X : Cx} : ∀ e s, X.nox.xe e s -> False := fun _ _ h => h
theorem atI_ints {ns : List Int} {i : Nat} (h : i < ns.length) : atI (ns.map V.int) (i : Int) = some (.int (ns.getD i 0)) := by
  refine atI_nat ?_
  rw [List.getElem?_map, List.getElem?_eq_getElem h, List.getD_eq_getElem?_getD, List.getElem?_eq_getElem h]
  rfl
theorem cal_mk {P : Program} {w : World} {K : PySem.W.Frag} {h base : Heap} {mg : Str -> Option Value} {x : Str} {ps : List Str} {k : Nat} {sp : Sp} {f : Addr} {fd : FuncData} (X : K.In h) (G : h.Ns mainGlobals mg)
    (a : PySem.W.nsIn K mainGlobals x = some (some (.ref f))) (kp : PySem.W.keepIn K (.ref f) = true) (b : Binds K fd ps []) (F : FnOk P w K mg base CX0 k f fd ps sp) : Cal P w K mg base x ps k sp :=
  ⟨f, fd, PySem.W.mg_of X G a, kp, b, F⟩
noncomputable def sp__law_whole (_ : PySem.W.Frag) : Sp := fun vs H Q _ => ∃ i, vs = [.int i] /\ Q (.bl true) H
noncomputable def sp__law_at (K : PySem.W.Frag) : Sp := fun vs H Q _ => ∃ (a : Addr) (ns : List Int) (k : Nat), vs = [.ref a, .int k] /\ SqL K H a (ns.map V.int) /\ Q (.int (ns.getD k 0)) H
noncomputable def sp__law_upto (K : PySem.W.Frag) : Sp := fun vs H Q _ => ∃ (a : Addr) (ns : List Int) (x y : V), vs = [.ref a, x, y] /\ SqL K H a (ns.map V.int) /\ ns.length <= 63 /\ Q x H
noncomputable def sp_law (K : PySem.W.Frag) : Sp := fun vs H Q _ => ∃ (a : Addr) (ns : List Int), vs = [.ref a] /\ SqL K H a (ns.map V.int) /\ ns.length <= 63 /\ ∀ H', Q (.bl true) H'
theorem kit_ii {K : PySem.W.Frag} : PySem.W.kitOne K (.type "int") (.type "int") = some true := by rfl
theorem kit_ib {K : PySem.W.Frag} : PySem.W.kitOne K (.type "int") (.type "bool") = some false := by kernel_rfl
theorem find_none {ps : List (Int × Int)} {x : Int} (h : ∀ q ∈ ps, q.1 ≠ x) : second ps x = none := by
  unfold second
  rw [List.find?_eq_none.mpr (fun q hq => by simpa using h q hq)]
  rfl
theorem big {n : Nat} (h : n <= 1000) : n <= sizeLine := Nat.le_of_lt (small1000 h)
structure WF (held waits : List (Int × Int)) : Prop where
  tools : (held.map (·.1)).Nodup
  hands : (waits.map (·.1)).Nodup
  there : ∀ p ∈ waits, ∃ m, second held p.2 = some m
theorem second_of_mem {ps : List (Int × Int)} {x : Int} (h : x ∈ ps.map (·.1)) : ∃ m, second ps x = some m := by
  obtain ⟨p, hp, e⟩ := List.mem_map.mp h
  unfold second
  cases q : ps.find? (fun p => p.1 == x) with
  | none =>
    have := List.find?_eq_none.mp q p hp
    exact absurd e (by simpa using this)
  | some r => exact ⟨r.2, rfl⟩
theorem second_mem {ps : List (Int × Int)} {x m : Int} (h : second ps x = some m) : (x, m) ∈ ps := by
  unfold second at h
  cases q : ps.find? (fun p => p.1 == x) with
  | none => rw [q] at h; cases h
  | some r =>
    rw [q] at h
    have e1 : r.2 = m := Option.some.inj h
    have e2 : r.1 = x := by simpa using List.find?_some q
    have := List.mem_of_find?_eq_some q
    rw [<- e1, <- e2]
    exact this
theorem second_uniq : ∀ {ps : List (Int × Int)} {x m : Int}, (ps.map (·.1)).Nodup -> (x, m) ∈ ps -> second ps x = some m
  | [], _, _, _, h => by cases h
  | p :: r, x, m, nd, h => by
    rw [List.map_cons, List.nodup_cons] at nd
    unfold second
    rw [List.find?_cons]
    rcases List.mem_cons.mp h with h | h
    · rw [<- h]; simp
    · have hne : ¬ p.1 = x := fun e => nd.1 (by rw [e]; exact List.mem_map.mpr ⟨(x, m), h, rfl⟩)
      have hb : (p.1 == x) = false := by simpa using hne
      rw [hb]
      exact second_uniq nd.2 h
noncomputable def nextOf (held waits : List (Int × Int)) (h : Int) : Option Int := (second waits h).bind (second held)
structure RowOk (held waits : List (Int × Int)) (h : Int) (L : List Int) : Prop where
  head : L[0]? = some h
  nd : L.Nodup
  step : ∀ (k : Nat) (x y : Int), L[k]? = some x -> L[k + 1]? = some y -> nextOf held waits x = some y
  last : ∀ x, L.getLast? = some x -> second waits x = none ∨ ∃ m, nextOf held waits x = some m /\ m ∈ L
theorem cut_to (xs : List V) (h : Nat) : cutV xs none (some (h : Int)) = xs.take h := by
  unfold cutV HT.sIx
  have e : (if (h : Int) < 0 then ((h : Int) + (xs.length : Int)).toNat else min (h : Int).toNat xs.length) = min h xs.length := by
    rw [if_neg (by lia)]
    simp
  simp only [e, List.drop_zero, Nat.sub_zero]
  rcases Nat.le_total h xs.length with q | q
  · rw [Nat.min_eq_left q]
  · rw [Nat.min_eq_right q, List.take_length, List.take_of_length_le q]
theorem cut_from (xs : List V) (h : Nat) : cutV xs (some (h : Int)) none = xs.drop h := by
  unfold cutV HT.sIx
  have e : (if (h : Int) < 0 then ((h : Int) + (xs.length : Int)).toNat else min (h : Int).toNat xs.length) = min h xs.length := by
    rw [if_neg (by lia)]
    simp
  simp only [e]
  rcases Nat.le_total h xs.length with q | q
  · rw [Nat.min_eq_left q, List.take_of_length_le (by simp)]
  · rw [Nat.min_eq_right q, List.drop_of_length_le (Nat.le_refl _), List.drop_of_length_le q]; simp
theorem inV_int {f : Int} {is : List Int} : inV (.int f) (is.map V.int) = decide (f ∈ is) := by
  unfold inV
  rw [Bool.eq_iff_iff, List.any_eq_true]
  constructor
  · rintro ⟨x, hx, e⟩
    obtain ⟨i, hi, rfl⟩ := List.mem_map.mp hx
    have : i = f := by simpa [eqV] using e
    rw [this] at hi
    simpa using hi
  · intro h
    exact ⟨.int f, List.mem_map.mpr ⟨f, by simpa using h, rfl⟩, by simp [eqV]⟩
theorem flat_int (is : List Int) : (is.map V.int).all flatV = true := by
  rw [List.all_eq_true]
  intro x hx
  obtain ⟨i, _, rfl⟩ := List.mem_map.mp hx
  rfl
theorem rep_ints {K : PySem.W.Frag} {H : Hp} {a : Addr} {ns : List Int} (h : SqL K H a (ns.map V.int)) : Rep K H (.lst (ns.map L2.D.int)) (.ref a) := by
  simp only [Rep]
  refine ⟨a, _, rfl, h, ?_⟩
  clear h
  induction ns with
  | nil => exact .nil
  | cons n r ih => exact .cons (by simp only [Rep]) ih
theorem dp_ints (is : List Int) : (L2.D.lst (is.map L2.D.int)).dp <= 60 := by
  have : dps (is.map L2.D.int) = 0 := by
    induction is with
    | nil => rfl
    | cons n r ih => simp only [List.map_cons, dps, D.dp, ih]; rfl
  simp only [D.dp, this]
  lia
end B
namespace B
open PySem L2
theorem nodup_len : ∀ {l m : List Int}, l.Nodup -> (∀ x ∈ l, x ∈ m) -> l.length <= m.length
  | [], m, _, _ => Nat.zero_le _
  | x :: l, m, nd, h => by
    rw [List.nodup_cons] at nd
    have hx := h x List.mem_cons_self
    have ih := nodup_len (l := l) (m := m.erase x) nd.2 fun y hy => (List.mem_erase_of_ne (fun (e : y = x) => nd.1 (by rw [<- e]; exact hy))).mpr (h y (List.mem_cons_of_mem _ hy))
    have := List.length_erase_of_mem hx
    have := List.length_pos_of_mem hx
    simp only [List.length_cons]
    lia
noncomputable def rowGo (held waits : List (Int × Int)) : Nat -> List Int -> List Int
  | 0, row => row
  | n + 1, row => match second waits (row.getLastD 0) with
    | none => row
    | some t => match second held t with
      | none => row
      | some m => if m ∈ row then row else rowGo held waits n (row ++ [m])
noncomputable def rowFrom (held waits : List (Int × Int)) (h : Int) : List Int := rowGo held waits waits.length [h]
structure RowUp (held waits : List (Int × Int)) (h : Int) (L : List Int) : Prop where
  head : L[0]? = some h
  nd : L.Nodup
  step : ∀ (k : Nat) (x y : Int), L[k]? = some x -> L[k + 1]? = some y -> nextOf held waits x = some y
theorem RowUp.ne {held waits : List (Int × Int)} {h : Int} {L : List Int} (r : RowUp held waits h L) : L ≠ [] := fun e => by have := r.head; rw [e] at this; cases this
theorem getLastD_eq {L : List Int} {x : Int} (h : L.getLast? = some x) : L.getLastD 0 = x := by
  rw [List.getLastD_eq_getLast?, h]; rfl
theorem RowUp.last? {held waits : List (Int × Int)} {h : Int} {L : List Int} (r : RowUp held waits h L) : L.getLast? = some (L.getLastD 0) := by
  cases e : L.getLast? with
  | none => exact absurd (List.getLast?_eq_none_iff.mp e) r.ne
  | some x => rw [getLastD_eq e]
theorem RowUp.snoc {held waits : List (Int × Int)} {h m : Int} {L : List Int} (r : RowUp held waits h L) (e : nextOf held waits (L.getLastD 0) = some m) (hm : ¬ m ∈ L) : RowUp held waits h (L ++ [m]) := by
  have hpos : 0 < L.length := List.length_pos_iff.mpr r.ne
  refine ⟨by rw [List.getElem?_append_left hpos]; exact r.head, ?_, fun k x y hx hy => ?_⟩
  · rw [List.nodup_append]
    refine ⟨r.nd, by simp, fun a ha b hb q => ?_⟩
    have : b = m := by simpa using hb
    rw [q, this] at ha
    exact hm ha
  · by_cases hk : k + 1 < L.length
    · rw [List.getElem?_append_left (by lia)] at hx
      rw [List.getElem?_append_left hk] at hy
      exact r.step k x y hx hy
    · have hk2 : k + 1 = L.length := by
        have := (List.getElem?_eq_some_iff.mp hy).1
        rw [List.length_append, List.length_singleton] at this
        lia
      rw [List.getElem?_append_left (by lia)] at hx
      rw [List.getElem?_append_right (by lia), hk2, Nat.sub_self] at hy
      have ey : m = y := by simpa using hy
      have : L.getLast? = some x := by rw [List.getLast?_eq_getElem?, <- hk2]; simpa using hx
      rw [getLastD_eq this] at e
      rw [<- ey]; exact e
theorem RowUp.waits {held waits : List (Int × Int)} {h : Int} {L : List Int} (r : RowUp held waits h L) {k : Nat} {x : Int} (hx : L[k]? = some x) (hk : k + 1 < L.length) : x ∈ waits.map (·.1) := by
  have e := r.step k x L[k + 1] hx (List.getElem?_eq_getElem hk)
  unfold nextOf at e
  cases q : second waits x with
  | none => rw [q] at e; cases e
  | some t => exact List.mem_map.mpr ⟨(x, t), second_mem q, rfl⟩
theorem rowGo_ok {held waits : List (Int × Int)} (wf : WF held waits) {h : Int} : ∀ (n : Nat) (L : List Int), RowUp held waits h L -> waits.length + 1 <= n + L.length -> RowOk held waits h (rowGo held waits n L)
  | 0, L, r, hn => by
    refine ⟨r.head, r.nd, r.step, fun x hx => .inl ?_⟩
    have hx : L.getLast? = some x := hx
    cases q : second waits x with
    | none => rfl
    | some t =>
      exfalso
      have : L.length <= (waits.map (·.1)).length := nodup_len r.nd fun y hy => by
        obtain ⟨k, hk, rfl⟩ := List.mem_iff_getElem.mp hy
        by_cases hk2 : k + 1 < L.length
        · exact r.waits (List.getElem?_eq_getElem hk) hk2
        · have : L.getLast? = some L[k] := by
            rw [List.getLast?_eq_getElem?, show L.length - 1 = k by lia]
            exact List.getElem?_eq_getElem hk
          rw [this] at hx
          cases hx
          exact List.mem_map.mpr ⟨(_, t), second_mem q, rfl⟩
      rw [List.length_map] at this
      lia
  | n + 1, L, r, hn => by
    unfold rowGo
    have hl := r.last?
    cases q : second waits (L.getLastD 0) with
    | none =>
      refine ⟨r.head, r.nd, r.step, fun x hx => .inl ?_⟩
      rw [hl] at hx
      cases hx
      exact q
    | some t =>
      obtain ⟨m, hm⟩ := wf.there _ (second_mem q)
      simp only [hm]
      have en : nextOf held waits (L.getLastD 0) = some m := by unfold nextOf; rw [q]; exact hm
      split
      · rename_i hin
        refine ⟨r.head, r.nd, r.step, fun x hx => .inr ⟨m, ?_, hin⟩⟩
        rw [hl] at hx
        cases hx
        exact en
      · rename_i hin
        exact rowGo_ok wf n _ (r.snoc en hin) (by rw [List.length_append, List.length_singleton]; lia)
theorem rowFrom_ok {held waits : List (Int × Int)} (wf : WF held waits) (h : Int) : RowOk held waits h (rowFrom held waits h) :=
  rowGo_ok wf _ _ ⟨rfl, by simp, fun k x y hx hy => by simp at hy⟩ (by simp)
theorem RowOk.ne {held waits : List (Int × Int)} {h : Int} {L : List Int} (r : RowOk held waits h L) : L ≠ [] := fun e => by have := r.head; rw [e] at this; cases this
theorem RowOk.uniq {held waits : List (Int × Int)} {h : Int} {L M : List Int} (r : RowOk held waits h L) (s : RowOk held waits h M) : L = M := by
  have pre : ∀ {L M : List Int}, RowOk held waits h L -> RowOk held waits h M -> ∀ k, k < L.length -> k < M.length -> L[k]? = M[k]? := by
    intro L M r s k
    induction k with
    | zero => intro _ _; rw [r.head, s.head]
    | succ k ih =>
      intro h1 h2
      have e := ih (by lia) (by lia)
      have e1 := r.step k L[k] L[k + 1] (List.getElem?_eq_getElem (by lia)) (List.getElem?_eq_getElem h1)
      have e2 := s.step k M[k] M[k + 1] (List.getElem?_eq_getElem (by lia)) (List.getElem?_eq_getElem h2)
      rw [List.getElem?_eq_getElem (by lia), List.getElem?_eq_getElem (by lia)] at e
      rw [Option.some.inj e] at e1
      rw [e1] at e2
      rw [List.getElem?_eq_getElem h1, List.getElem?_eq_getElem h2, Option.some.inj e2]
  have le : ∀ {L M : List Int}, RowOk held waits h L -> RowOk held waits h M -> M.length <= L.length := by
    intro L M r s
    refine Nat.le_of_not_lt fun hlt => ?_
    have hpos : 0 < L.length := List.length_pos_iff.mpr r.ne
    have hl : L.getLast? = some (L[L.length - 1]) := by rw [List.getLast?_eq_getElem?]; exact List.getElem?_eq_getElem (by lia)
    have ek := pre r s (L.length - 1) (by lia) (by lia)
    rw [List.getElem?_eq_getElem (by lia), List.getElem?_eq_getElem (by lia)] at ek
    have st := s.step (L.length - 1) (M[L.length - 1]) (M[L.length]) (List.getElem?_eq_getElem (by lia)) (by rw [show L.length - 1 + 1 = L.length by lia]; exact List.getElem?_eq_getElem hlt)
    rw [<- Option.some.inj ek] at st
    rcases r.last _ hl with h1 | ⟨m, h1, h2⟩
    · unfold nextOf at st
      rw [h1] at st
      cases st
    · rw [h1] at st
      have em : m = M[L.length] := Option.some.inj st
      obtain ⟨j, hj, ej⟩ := List.mem_iff_getElem.mp h2
      have eq := pre r s j hj (by lia)
      rw [List.getElem?_eq_getElem hj, List.getElem?_eq_getElem (by lia)] at eq
      have : M[j]'(by lia) = M[L.length] := by rw [<- Option.some.inj eq, ej, em]
      exact List.pairwise_iff_getElem.mp s.nd j L.length (by lia) hlt hj this
  have hl : L.length = M.length := Nat.le_antisymm (le s r) (le r s)
  refine List.ext_getElem? fun k => ?_
  by_cases hk : k < L.length
  · exact pre r s k hk (by lia)
  · rw [List.getElem?_eq_none (by lia), List.getElem?_eq_none (by lia)]
end B
namespace L2
noncomputable def WhileW (c : TT) (tb : TS) (D : Ends) (σ : St) (H : Hp) : Prop := ∃ W : Nat -> St -> Hp -> Prop, (∃ m, W m σ H) /\ ∀ m σ H, W m σ H ->
  c σ H fun b H1 => if b = true then ∃ N : St -> Hp -> Prop, (∀ σ' H', N σ' H' -> ∃ m', m' < m /\ W m' σ' H') /\ tb { D with nx := N, ct := N, bk := D.nx } σ H1 else D.nx σ H1
theorem rd_while {c : TT} {tb : TS} {D : Ends} {σ : St} {H : Hp} (h : WhileW c tb D σ H) : tWhile c tb D σ H := h
theorem atI_lastD {L : List Int} (h : L ≠ []) : atI (L.map V.int) (-1) = some (.int (L.getLastD 0)) := by
  have hpos : 0 < L.length := List.length_pos_iff.mpr h
  unfold atI ixN
  rw [if_neg (by lia), if_pos (by simp; lia)]
  show (L.map V.int)[((-1 : Int) + ((L.map V.int).length : Int)).toNat]? = _
  rw [List.length_map, show ((-1 : Int) + (L.length : Int)).toNat = L.length - 1 by lia, List.getElem?_map, <- List.getLast?_eq_getElem?, List.getLastD_eq_getLast?]
  cases e : L.getLast? with
  | none => exact absurd (List.getLast?_eq_none_iff.mp e) h
  | some x => rfl
end L2
namespace B
open PySem L2
noncomputable def aheadL (rs : List Int) (i j : Nat) : Bool := if rs.getD i 0 ≠ rs.getD j 0 then decide (rs.getD j 0 < rs.getD i 0) else decide (i <= j)
noncomputable def fcGo (rs : List Int) (held waits : List (Int × Int)) (h : Nat) : Nat -> Nat
  | 0 => h
  | n + 1 => if (h : Int) ∈ rowFrom held waits (n : Int) /\ aheadL rs n (fcGo rs held waits h n) = true then n else fcGo rs held waits h n
theorem fcGo_lt {rs : List Int} {held waits : List (Int × Int)} {h N : Nat} (hh : h < N) : ∀ {n : Nat}, n <= N -> fcGo rs held waits h n < N
  | 0, _ => hh
  | n + 1, hn => by
    unfold fcGo
    split
    · lia
    · exact fcGo_lt hh (by lia)
end B
namespace L2
open PySem
theorem rd_pop {l : Addr} {xs : List V} {y : V} {H : Hp} {Q : VK} (e : H l = some (.lst (xs ++ [y]))) (h : Q y (upd H l (.lst xs))) : rPop (.ref l) [] H Q :=
  ⟨l, xs ++ [y], y, rfl, rfl, e, by simp, by rw [List.dropLast_concat]; exact h⟩
theorem rd_extend {l b : Addr} {xs zs : List V} {H : Hp} {Q : VK} (e : H l = some (.lst xs)) (e2 : H b = some (.lst zs)) (z : xs.length + zs.length <= sizeLine) (h : Q .non (upd H l (.lst (xs ++ zs)))) : rExtend (.ref l) [.ref b] H Q :=
  ⟨l, b, xs, zs, rfl, rfl, e, e2, z, h⟩
end L2
namespace L2
open PySem
variable {K : PySem.W.Frag} {H : Hp} {Q : VK}
theorem eqD_nil (ds : List D) : eqD (.lst ds) (.lst []) = decide (ds = []) := by
  cases ds with
  | nil => simp [eqD, eqDs]
  | cons d r => simp [eqD, eqDs]
end L2
namespace B
open PySem L2
end B
namespace B
open PySem L2
structure RingOk (held waits : List (Int × Int)) (L : List Int) : Prop where
  ne : L ≠ []
  nd : L.Nodup
  least : ∀ x y, L[0]? = some x -> y ∈ L -> x <= y
  step : ∀ (k : Nat) (x : Int), L[k]? = some x -> ∃ y, L[(k + 1) % L.length]? = some y /\ nextOf held waits x = some y
noncomputable def rowEnd (held waits : List (Int × Int)) (h : Int) : Int := (rowFrom held waits h).getLastD 0
end B
namespace B
open PySem L2
structure InR (held waits : List (Int × Int)) (n : Nat) : Prop where
  held : ∀ p ∈ held, 0 <= p.2 /\ p.2 < n
  waits : ∀ p ∈ waits, 0 <= p.1 /\ p.1 < n
end B
namespace B
open PySem L2
noncomputable def waiters (waits : List (Int × Int)) (tool : Int) : List Int := (waits.filter fun p => p.2 == tool).map (·.1)
theorem waiters_in {held waits : List (Int × Int)} {n : Nat} (h : InR held waits n) {tool x : Int} (hx : x ∈ waiters waits tool) : ∃ k : Nat, x = (k : Int) /\ k < n := by
  obtain ⟨p, hp, rfl⟩ := List.mem_map.mp hx
  have := h.waits p (List.mem_filter.mp hp).1
  exact ⟨p.1.toNat, by lia, by lia⟩
end B
namespace My
open PySem
section
variable {prog : Program} {w : World} {A : Around} {E : Value -> Shared -> Prop} {s : Shared}
end
section
variable {prog : Program} {w : World} {K : Type} [DecidableEq K] {knd : KeyKind prog w K} {A : Around} {E : Value -> Shared -> Prop} {s : Shared}
end
end My
namespace L2
open PySem PySem.Spec PyProof.Rows
theorem paired_of {α β : Type} {F : α -> β -> Prop} : ∀ {l₁ : List α} {l₂ : List β}, l₁.length = l₂.length -> (∀ (i : Nat) (x : α) (y : β), l₁[i]? = some x -> l₂[i]? = some y -> F x y) -> Paired F l₁ l₂
  | [], [], _, _ => .nil
  | [], _ :: _, h, _ => by simp at h
  | _ :: _, [], h, _ => by simp at h
  | x :: xs, y :: ys, h, g => .cons (g 0 x y rfl rfl) (paired_of (by simpa using h) fun i a b h1 h2 => g (i + 1) a b (by simpa using h1) (by simpa using h2))
theorem kV_rel {P : Program} {w : World} {k : Key} {u : Value} (h : (mixKind P w).is k u = true) : RelV (kV k) u := by
  rcases keyIs_shape (k := k) (v := u) h with ⟨i, t, rfl, rfl⟩ | ⟨x, t, rfl, rfl⟩
  · exact ⟨t, rfl⟩
  · exact ⟨t, rfl⟩
section
variable {X : Cx} {pins : List (Addr × Obj)} {σ : St} {H : Hp} {s : Shared}
noncomputable def rListD : List V -> Hp -> VK -> Prop := fun xs H Q => ∃ a kvs, xs = [.ref a] /\ Rd H a (.dK kvs) /\ ∀ p, H p = none -> Q (.ref p) (upd H p (.lst (kvs.map fun kv => kV kv.1)))
theorem call_listD (hc : X.calm = true) : CallR X (.type "list") rListD := by
  intro pins s σ H xs us Q I r h
  obtain ⟨a, kvs, rfl, e, q⟩ := h
  obtain ⟨u, rfl, ru⟩ := vals1 r
  cases ru
  obtain ⟨z, hd, vs, rel, dd⟩ := dk_rd I.hok e
  obtain ⟨ep, hat⟩ := dd.dictAt
  have hn := rel.length
  refine PySem.W.kdl_call (PySem.W.kdl_dict (knd := mixKind X.prog X.w) (kvs := vs) (ep := ep) hd) (I.ok.hd hc) hat (by lia) fun h' tk acc c kp hS hacc => ?_
  refine ⟨.ref s.heap.objs.size, _, I.laid (t' := tk) kp (Nat.le_refl _) (show ObjOk X.prog X.w _ h' _ (.lst _) from ⟨by simp; lia, acc.toList, c, ?_, by simpa using hS⟩), rfl, q _ (I.hok.fresh (Nat.le_refl _))⟩
  have hsz : acc.size = vs.length := hacc.1
  refine paired_of (by simp; lia) fun i x y h1 h2 => ?_
  obtain ⟨k, x', hk, hi⟩ := hacc.2 i y (by simpa using h2)
  obtain ⟨kv, hkv, ek, _⟩ := Paired.get' (show Paired _ kvs vs from rel) hk
  rw [List.getElem?_map, hkv] at h1
  have e1 : kV kv.1 = x := by simpa using h1
  rw [<- e1, ek]
  exact kV_rel hi
noncomputable def tListVals (td : TE) : TE := fun σ H Q => td σ H fun x H1 => ∃ a kvs, x = .ref a /\ H1 a = some (.dK kvs) /\ ∀ p, H1 p = none -> Q (.ref p) (upd H1 p (.lst (kvs.map (·.2))))
theorem pe_listVals {e : Expr} {te : TE} {p1 p2 q1 q2 : Pos} (hc : X.calm = true) (hgl : Gl X "list") (hml : X.mg "list" = none) (he : PE X e te)
    (hbase : attributeBase e "values" X.env (eval e X.env) = eval e X.env := by rfl) (hline : (p1.endLine == q1.line) = true := by rfl)
    (hs2 : starEach [.Call (.Attribute e "values" p1) [] [] q1] X.env = [(false, eval (.Call (.Attribute e "values" p1) [] [] q1) X.env)] := by rfl) :
    PE X (.Call (.Name "list" p2) [.Call (.Attribute e "values" p1) [] [] q1] [] q2) (tListVals te) := by
  intro pins s σ H Q I h
  refine wpAny_Call_Name_kw (ld_blt I hgl hml boot_list ?_)
  refine PyProof.Rows.callWith_type1 ?_ hs2 rfl
  rw [hs2]
  show wpAny _ _ (spliced [(false, eval (.Call (.Attribute e "values" p1) [] [] q1) X.env)]) _ _ s
  refine Calls.spliced_cons ?_
  refine wpAny_Call_method0_late hbase hline (thn (he pins s σ H _ I h) fun v s1 hq1 => ?_)
  obtain ⟨x, H1, I1, r1, a, kvs, ex, e1, q⟩ := hq1
  subst ex
  obtain rfl : v = Value.ref a := r1
  obtain ⟨t1, t2⟩ := tyV_is (x := V.ref a) (v := Value.ref a) (T := "dict") I1 (show RelV (V.ref a) (Value.ref a) from rfl) (show tyV X.K "dict" (V.ref a) H1 from Or.inr (Or.inr (Or.inl ⟨rfl, Or.inl ⟨kvs, e1⟩⟩)))
  obtain ⟨z, hd, vs, rel, dd⟩ := dk_of I1.hok e1
  have hn := rel.length
  refine ⟨"dict", _, PySem.F.plainAttrs_dict, PySem.F.slot_dict_values, PySem.F.type_dict_values, t1, t2, Calls.callWith_builtin rfl (PySem.evalArgs_none ?_)⟩
  refine call_meetsIn PySem.F.slot_dict_values dd.typeIs PySem.F.entry_dict_values (PySem.F.args_dict_values_1 _) (meets_dict_values (mixKind X.prog X.w) a hd) ⟨⟨vs, dd⟩, ?_⟩
  refine Calls.spliced_nil ?_
  obtain ⟨ep, hat⟩ := dd.dictAt
  refine PySem.W.kdl_call (PySem.W.kdl_values (knd := mixKind X.prog X.w) (r := s1.heap.objs.size) (d := a) (kvs := vs) (ep := ep)) (I1.ok.hd hc) ⟨⟨_, Heap.get?_push_size _ rfl, rfl, rfl⟩, hat.push _⟩ (by lia) fun h' tk acc c kp hS hacc => ?_
  have up : ∀ b o, s1.heap.get? b = some o -> h'.get? b = some o := fun b o e => kp b o (Heap.get?_push_of_some _ e)
  have hsz : (s1.heap.push { cls := .type "dict_values", data := .fields #[.ref a] }).objs.size = s1.heap.objs.size + 1 := Heap.size_push ..
  rw [hsz] at hS ⊢
  refine ⟨.ref (s1.heap.objs.size + 1), _, I1.laid (t' := tk) up (Nat.le_succ _) (show ObjOk X.prog X.w _ h' _ (.lst _) from ⟨by simp; lia, acc.toList, c, ?_, by simpa using hS⟩), rfl, q _ (I1.hok.fresh (Nat.le_succ _))⟩
  have hsz : acc.size = vs.length := hacc.1
  refine paired_of (by simp; lia) fun i x y h1 h2 => ?_
  obtain ⟨k, hk⟩ := hacc.2 i y (by simpa using h2)
  obtain ⟨kv, hkv, ek, rv⟩ := Paired.get' (show Paired _ kvs vs from rel) hk
  rw [List.getElem?_map, hkv] at h1
  have e1 : kv.2 = x := by simpa using h1
  rw [<- e1]
  exact rv
noncomputable def rDGet1 : V -> List V -> Hp -> VK -> Prop := fun x vs H Q => ∃ a y o, x = .ref a /\ vs = [y] /\ DGet H a y o /\ Q (o.getD .non) H
theorem mt_dget (hu : X.A.units + 200 < cLine) : MtR X "dict.get" rDGet1 := by
  intro pins s σ H x vs v us Q I rx rv h
  obtain ⟨a, y, o, rfl, rfl, g, q⟩ := h
  cases rx
  obtain ⟨u, rfl, ru⟩ := vals1 rv
  exact d_get1 (by lia) I g ru fun w' s' I' r' => ⟨_, H, I', r', q⟩
noncomputable def rDPop : V -> List V -> Hp -> VK -> Prop := fun x vs H Q => ∃ a kvs k v, x = .ref a /\ vs = [kV k] /\ H a = some (.dK kvs) /\ valV kvs k = some v /\ Q v (upd H a (.dK (dropK kvs k)))
theorem mt_dpop : MtR X "dict.pop" rDPop := by
  intro pins s σ H x vs v us Q I rx rv h
  obtain ⟨a, kvs, k, y, rfl, rfl, e, l, q⟩ := h
  cases rx
  obtain ⟨u, rfl, ru⟩ := vals1 rv
  exact d_pop I e ru l (.inl rfl) fun w' s' I' r' => ⟨_, _, I', r', q⟩
noncomputable def rIndex (K : PySem.W.Frag) : V -> List V -> Hp -> VK -> Prop := fun x vs H Q => ∃ (l : Addr) (ns : List Int) (z : Int), x = .ref l /\ vs = [.int z] /\ H l = some (.lst (ns.map V.int)) /\ z ∈ ns /\ Q (.int (ns.idxOf z)) H
theorem mt_index : MtR X "list.index" (rIndex X.K) := by
  intro pins s σ H x vs v us Q I rx rv h
  obtain ⟨l, ns, z, rfl, rfl, hH, hz, q⟩ := h
  cases rx
  obtain ⟨u, rfl, t, rfl⟩ := vals1 rv
  obtain ⟨zz, its, n, r, hl, e⟩ := I.lstM hH
  have hi : ∀ (j : Nat) (v : Value), its[j]? = some v -> ∃ (m : Int) (t' : Tok), ns[j]? = some m /\ v = Value.int m t' := fun j v hv => by
    have hj : j < its.length := (List.getElem?_eq_some_iff.mp hv).1
    have hj' : j < ns.length := by rw [List.length_map] at hl; lia
    obtain ⟨u, hu, ru⟩ := r.get (i := j) (x := V.int ns[j]) (by rw [List.getElem?_map, List.getElem?_eq_getElem hj']; rfl)
    rw [hv] at hu
    cases hu
    obtain ⟨t', rfl⟩ := ru
    exact ⟨_, t', List.getElem?_eq_getElem hj', rfl⟩
  have hx : ns.idxOf z < ns.length := List.idxOf_lt_length_of_mem hz
  have hlt : ns.idxOf z < its.toArray.size := by
    rw [List.length_map] at hl
    simp
    lia
  have at_ : ∀ m (hm : m < its.toArray.size), ∃ (k : Int) (t' : Tok), ns[m]? = some k /\ its.toArray[m] = Value.int k t' := fun m hm => by
    have hm' : m < its.length := by simpa using hm
    obtain ⟨k, t', h1, h2⟩ := hi m _ (List.getElem?_eq_getElem hm')
    exact ⟨k, t', h1, by simpa using h2⟩
  have hsl : sizeLine < 2 ^ 62 := by rw [sizeLine_eq]; decide
  rw [List.length_map] at zz
  refine call_meets F.slot_list_index ⟨_, e, rfl⟩ F.entry_list_index (F.args_list_index_2 _ _) (MeetsSeq.list_index l its.toArray n (.int z t) (eqI z) (fun y hy => ?_) (ns.idxOf z) hlt (by lia) ?_ ?_) ⟨e, ?_⟩
  · obtain ⟨m, hm, rfl⟩ := Array.mem_iff_getElem.mp hy
    obtain ⟨k, t', _, h2⟩ := at_ m hm
    rw [h2]
    exact MeetsSeq.EqGives.int k z t' t
  · obtain ⟨k, t', h1, h2⟩ := at_ _ hlt
    rw [h2]
    have : k = z := by
      rw [List.getElem?_eq_getElem hx] at h1
      rw [<- Option.some.inj h1]
      exact List.getElem_idxOf hx
    simp [eqI, this]
  · intro m hm hlt'
    obtain ⟨k, t', h1, h2⟩ := at_ m hm
    rw [h2]
    have hx : m < ns.length := (List.getElem?_eq_some_iff.mp h1).1
    have hk : ns[m] = k := (List.getElem?_eq_some_iff.mp h1).2
    have := List.not_of_lt_findIdx (p := (· == z)) (xs := ns) (i := m) hlt'
    rw [hk] at this
    simpa [eqI] using this
  · exact ⟨.int (ns.idxOf z), H, I.tok _, ⟨_, rfl⟩, q⟩
end
section
variable {X : Cx} {a b d e k o i : Expr} {td ty te tv : TE} {pos pos' : Pos}
theorem qe_dget (hu : X.A.units + 200 < cLine) (ho : QE X o td) (hi : QE X i ty) (hs : NoSl i) : QE X (.Subscript o i pos) (tDGet td ty) := ⟨pe_dget (by lia) ho.run hi.run hs⟩
theorem qt_din (hu : X.A.units + 200 < cLine) (hi : QE X i ty) (ho : QE X o td) (hm : behindInMarks .In o = false := by with_unfolding_all rfl) : QT X (.Compare i [.In] [o] pos) (tB (tDIn ty td)) := ⟨pt_cmp (pc_din (by lia) hi.run ho.run) hm⟩
theorem qt_dnotin (hu : X.A.units + 200 < cLine) (hi : QE X i ty) (ho : QE X o td) (hm : behindInMarks .NotIn o = false := by with_unfolding_all rfl) : QT X (.Compare i [.NotIn] [o] pos) (tB (tDNotIn ty td)) := ⟨pt_cmp (pc_dnotin (by lia) hi.run ho.run) hm⟩
theorem qs_dput (hu : X.A.units + 200 < cLine) (ho : QE X o td) (hi : QE X i ty) (hv : QE X e tv) (hs : swapsWith e (some (.Subscript o i pos')) pos.line X.env = pure false := by rfl) : QS X (.Assign [.Subscript o i pos'] e pos) (sDPut td ty tv) := ⟨ps_dput (by lia) ho.run hi.run hv.run hs⟩
theorem qe_dnew : QE X (.Dict [] [] pos) tDNewK := ⟨pe_dnewK⟩
theorem qc_listD (hc : X.calm = true := by rfl) : QC X (.type "list") rListD := ⟨call_listD hc⟩
theorem qe_listVals {p1 p2 q1 q2 : Pos} (hml : X.mg "list" = none) (he : QE X e te) (hc : X.calm = true := by rfl) (hgl : Gl X "list" := by rfl)
    (hbase : attributeBase e "values" X.env (eval e X.env) = eval e X.env := by rfl) (hline : (p1.endLine == q1.line) = true := by rfl)
    (hs2 : starEach [.Call (.Attribute e "values" p1) [] [] q1] X.env = [(false, eval (.Call (.Attribute e "values" p1) [] [] q1) X.env)] := by rfl) :
    QE X (.Call (.Name "list" p2) [.Call (.Attribute e "values" p1) [] [] q1] [] q2) (tListVals te) := ⟨pe_listVals hc hgl hml he.run hbase hline hs2⟩
theorem qm_dget (hu : X.A.units + 200 < cLine) : QM X "dict.get" rDGet1 := ⟨mt_dget hu⟩
theorem qm_dpop : QM X "dict.pop" rDPop := ⟨mt_dpop⟩
theorem qm_index (K : PySem.W.Frag) (hK : X.K = K := by rfl) : QM X "list.index" (rIndex K) := ⟨hK ▸ mt_index⟩
end
noncomputable abbrev dI (ps : List (Int × Int)) : HO := .dK (ps.map fun p => (Sum.inl p.1, V.int p.2))
theorem valV_dI (ps : List (Int × Int)) (x : Int) : valV (ps.map fun p => ((Sum.inl p.1 : Key), V.int p.2)) (Sum.inl x) = (second ps x).map V.int := by
  induction ps with
  | nil => rfl
  | cons p r ih =>
    rw [List.map_cons]
    unfold second
    rw [List.find?_cons]
    by_cases e : p.1 = x
    · have : (p.1 == x) = true := by simpa using e
      rw [this, valV_pos (by simp [e])]
      rfl
    · have : (p.1 == x) = false := by simpa using e
      rw [this, valV_neg (by simpa using e), ih]
      rfl
section
variable {σ : St} {H : Hp} {Q : VK} {K : PySem.W.Frag} {td ty tv te : TE}
theorem rd_listD {a : Addr} {kvs : List (Key × V)} (e : H a = some (.dK kvs)) (h : ∀ p, H p = none -> Q (.ref p) (upd H p (.lst (kvs.map fun kv => kV kv.1)))) : rListD [.ref a] H Q := ⟨a, kvs, rfl, .inl e, h⟩
theorem rd_tB {t : TE} {R : Bool -> Hp -> Prop} (h : t σ H fun x H1 => ∃ c, x = .bl c /\ R c H1) : tB t σ H R := h
theorem rd_tDIn (h : ty σ H fun y H1 => td σ H1 fun x H2 => ∃ a o, x = .ref a /\ DGet H2 a y o /\ Q (.bl o.isSome) H2) : tDIn ty td σ H Q := h
theorem rd_tDNotIn (h : ty σ H fun y H1 => td σ H1 fun x H2 => ∃ a o, x = .ref a /\ DGet H2 a y o /\ Q (.bl (!o.isSome)) H2) : tDNotIn ty td σ H Q := h
theorem rd_tDGet (h : td σ H fun x H1 => ty σ H1 fun y H2 => ∃ a v, x = .ref a /\ DGet H2 a y (some v) /\ Q v H2) : tDGet td ty σ H Q := h
theorem rd_tDNew (h : ∀ p, H p = none -> Q (.ref p) (upd H p (.dK []))) : tDNewK σ H Q := h
theorem rd_sDPut {D : Ends} (h : tv σ H fun v H1 => td σ H1 fun x H2 => ty σ H2 fun y H3 => ∃ a H4, x = .ref a /\ DPut H3 a y v H4 /\ D.nx σ H4) : sDPut td ty tv D σ H := h
theorem rd_tListVals (h : td σ H fun x H1 => ∃ a kvs, x = .ref a /\ H1 a = some (.dK kvs) /\ ∀ p, H1 p = none -> Q (.ref p) (upd H1 p (.lst (kvs.map (·.2))))) : tListVals td σ H Q := h
theorem dget_I {a : Addr} {ps : List (Int × Int)} {x : Int} (e : H a = some (dI ps)) : DGet H a (.int x) ((second ps x).map V.int) := by
  rw [<- valV_dI]
  exact DGet.k (k := Sum.inl x) e
theorem rd_in1 {a : Addr} {ps : List (Int × Int)} {x : Int} {P : Option V -> Prop} (e : H a = some (dI ps)) (h : P ((second ps x).map V.int)) : ∃ b o, V.ref a = .ref b /\ DGet H b (.int x) o /\ P o := ⟨a, _, rfl, dget_I e, h⟩
theorem rd_at1 {a : Addr} {ps : List (Int × Int)} {x y : Int} {P : V -> Prop} (e : H a = some (dI ps)) (s : second ps x = some y) (h : P (.int y)) : ∃ b v, V.ref a = .ref b /\ DGet H b (.int x) (some v) /\ P v :=
  ⟨a, .int y, rfl, by have := dget_I (x := x) e; rw [s] at this; exact this, h⟩
theorem rd_tyD {a : Addr} {kvs : List (Key × V)} {P : Prop} (e : H a = some (.dK kvs)) (h : P) : tyV K "dict" (.ref a) H /\ P := ⟨.inr (.inr (.inl ⟨rfl, .inl ⟨kvs, e⟩⟩)), h⟩
theorem rd_get {a : Addr} {ps : List (Int × Int)} {x : Int} (e : H a = some (dI ps)) (h : Q (iV (second ps x)) H) : rDGet1 (.ref a) [.int x] H Q := by
  refine ⟨a, _, _, rfl, rfl, dget_I e, ?_⟩
  cases q : second ps x with
  | none => rw [q] at h; exact h
  | some y => rw [q] at h; exact h
theorem rd_index {l : Addr} {ns : List Int} {z : Int} (e : H l = some (.lst (ns.map V.int))) (m : z ∈ ns) (h : Q (.int (ns.idxOf z)) H) : rIndex K (.ref l) [.int z] H Q := ⟨l, ns, z, rfl, rfl, e, m, h⟩
theorem rd_min {p : Addr} {ns : List Int} (s : SqL K H p (ns.map V.int)) (ne : ns ≠ []) (h : ∀ M, M ∈ ns -> (∀ a ∈ ns, M <= a) -> Q (.int M) H) : rMinL K [.ref p] H Q := ⟨p, ns, rfl, s, ne, h⟩
end
end L2
namespace B
open PySem L2
noncomputable def sp_waited_for_by (_ : PySem.W.Frag) : Sp := fun vs H Q _ => ∃ (a b : Addr) (held waits : List (Int × Int)) (h : Int), vs = [.ref a, .ref b, .int h] /\ H a = some (dI held) /\ H b = some (dI waits) /\ WF held waits /\ Q (iV (nextOf held waits h)) H
noncomputable def sp_row_by (_ : PySem.W.Frag) : Sp := fun vs H Q _ => ∃ (a b : Addr) (held waits : List (Int × Int)) (h : Int), vs = [.ref a, .ref b, .int h] /\ H a = some (dI held) /\ H b = some (dI waits) /\ WF held waits /\ waits.length <= 900 /\
  ∀ (p : Addr) (H' : Hp), Same H H' -> H p = none -> H' p = some (.lst ((rowFrom held waits h).map V.int)) -> Q (.ref p) H'
theorem nextOf_none {held waits : List (Int × Int)} (wf : WF held waits) {x : Int} (h : nextOf held waits x = none) : second waits x = none := by
  cases q : second waits x with
  | none => rfl
  | some t =>
    obtain ⟨m, hm⟩ := wf.there _ (second_mem q)
    unfold nextOf at h
    rw [q] at h
    have h : second held t = none := h
    rw [hm] at h
    cases h
theorem nextOf_some {held waits : List (Int × Int)} (wf : WF held waits) {x t : Int} (h : second waits x = some t) : ∃ m, second held t = some m /\ nextOf held waits x = some m := by
  obtain ⟨m, hm⟩ := wf.there _ (second_mem h)
  exact ⟨m, hm, by unfold nextOf; rw [h]; exact hm⟩
theorem RowUp.len {held waits : List (Int × Int)} {h : Int} {L : List Int} (r : RowUp held waits h L) : L.length <= waits.length + 1 := by
  have : L.dropLast.length <= (waits.map (·.1)).length := by
    refine nodup_len ((List.dropLast_sublist L).nodup r.nd) fun y hy => ?_
    obtain ⟨k, hk, rfl⟩ := List.mem_iff_getElem.mp hy
    rw [List.length_dropLast] at hk
    rw [List.getElem_dropLast]
    exact r.waits (List.getElem?_eq_getElem (by lia)) (by lia)
  rw [List.length_dropLast, List.length_map] at this
  lia
theorem RowUp.done {held waits : List (Int × Int)} (wf : WF held waits) {h : Int} {L : List Int} (r : RowUp held waits h L) (x : nextOf held waits (L.getLastD 0) = none ∨ ∃ m, nextOf held waits (L.getLastD 0) = some m /\ m ∈ L) : L = rowFrom held waits h := by
  refine RowOk.uniq ⟨r.head, r.nd, r.step, fun y hy => ?_⟩ (rowFrom_ok wf h)
  rw [r.last?] at hy
  cases hy
  rcases x with x | ⟨m, h1, h2⟩
  · exact .inl (nextOf_none wf x)
  · exact .inr ⟨m, h1, h2⟩
theorem RowOk.up {held waits : List (Int × Int)} {h : Int} {L : List Int} (r : RowOk held waits h L) : RowUp held waits h L := ⟨r.head, r.nd, r.step⟩
theorem row_len {held waits : List (Int × Int)} (wf : WF held waits) (h : Int) : (rowFrom held waits h).length <= waits.length + 1 := (rowFrom_ok wf h).up.len
noncomputable def Going (held waits : List (Int × Int)) (h : Int) (L : List Int) (x : Option Int) : Prop := (L = [] /\ x = some h) ∨ (RowUp held waits h L /\ x = nextOf held waits (L.getLastD 0))
theorem Going.len {held waits : List (Int × Int)} {h : Int} {L : List Int} {x : Option Int} (g : Going held waits h L x) : L.length <= waits.length + 1 := by
  rcases g with ⟨rfl, _⟩ | ⟨r, _⟩
  · simp
  · exact r.len
theorem Going.next {held waits : List (Int × Int)} {h y : Int} {L : List Int} (g : Going held waits h L (some y)) (hn : ¬ y ∈ L) : Going held waits h (L ++ [y]) (nextOf held waits y) := by
  refine .inr ⟨?_, by simp⟩
  rcases g with ⟨rfl, e⟩ | ⟨r, e⟩
  · cases e
    exact ⟨rfl, by simp, fun k x y hx hy => by simp at hy⟩
  · exact r.snoc e.symm hn
theorem Going.out {held waits : List (Int × Int)} (wf : WF held waits) {h : Int} {L : List Int} {x : Option Int} (g : Going held waits h L x) (hn : x = none ∨ ∃ y, x = some y /\ y ∈ L) : L = rowFrom held waits h := by
  rcases g with ⟨rfl, rfl⟩ | ⟨r, rfl⟩
  · rcases hn with hn | ⟨y, _, hn⟩
    · cases hn
    · cases hn
  · exact r.done wf hn
noncomputable abbrev dB (L : List Int) : HO := .dK (L.map fun i => (Sum.inl i, V.bl true))
theorem valV_dB (L : List Int) (x : Int) : valV (L.map fun i => ((Sum.inl i : Key), V.bl true)) (Sum.inl x) = if x ∈ L then some (.bl true) else none := by
  induction L with
  | nil => rfl
  | cons i r ih =>
    rw [List.map_cons]
    by_cases e : i = x
    · rw [valV_pos (by simp [e]), if_pos (by simp [e])]
    · rw [valV_neg (by simpa using e), ih]
      have : x ∈ i :: r ↔ x ∈ r := by
        rw [List.mem_cons]
        exact ⟨fun h => h.resolve_left fun q => e q.symm, .inr⟩
      simp only [this]
theorem keys_dB (L : List Int) : (L.map fun i => ((Sum.inl i : Key), V.bl true)).map (fun kv => kV kv.1) = L.map V.int := by
  rw [List.map_map]
  rfl
theorem put_dB {L : List Int} {x : Int} (h : ¬ x ∈ L) : putK (L.map fun i => ((Sum.inl i : Key), V.bl true)) (Sum.inl x) (.bl true) = (L ++ [x]).map fun i => ((Sum.inl i : Key), V.bl true) := by
  rw [putK_new _ (by rw [valV_dB, if_neg h]), List.map_append]
  rfl
theorem rot_get {xs : List Int} {j k : Nat} (hj : j < xs.length) (hk : k < xs.length) : (xs.drop j ++ xs.take j)[k]? = xs[(j + k) % xs.length]? := by
  by_cases h : k < xs.length - j
  · rw [List.getElem?_append_left (by simpa using h), List.getElem?_drop, Nat.mod_eq_of_lt (by lia)]
  · rw [List.getElem?_append_right (by simp; lia), List.length_drop, List.getElem?_take_of_lt (by lia)]
    have e : (j + k) % xs.length = k - (xs.length - j) := by
      rw [Nat.mod_eq_sub_mod (by lia), Nat.mod_eq_of_lt (by lia)]
      lia
    rw [e]
structure Round (held waits : List (Int × Int)) (L : List Int) : Prop where
  ne : L ≠ []
  nd : L.Nodup
  step : ∀ (k : Nat) (x : Int), L[k]? = some x -> ∃ y, L[(k + 1) % L.length]? = some y /\ nextOf held waits x = some y
theorem Round.rot {held waits : List (Int × Int)} {L : List Int} (r : Round held waits L) {j : Nat} (hj : j < L.length) : Round held waits (L.drop j ++ L.take j) := by
  have hp : (L.drop j ++ L.take j).Perm L := by
    refine List.perm_append_comm.trans ?_
    rw [List.take_append_drop]
  have hl : (L.drop j ++ L.take j).length = L.length := hp.length_eq
  refine ⟨fun e => ?_, hp.nodup_iff.mpr r.nd, fun k x hx => ?_⟩
  · rw [e] at hl
    exact r.ne (List.length_eq_zero_iff.mp hl.symm)
  · have hk : k < L.length := by rw [<- hl]; exact (List.getElem?_eq_some_iff.mp hx).1
    rw [rot_get hj hk] at hx
    obtain ⟨y, h1, h2⟩ := r.step _ x hx
    refine ⟨y, ?_, h2⟩
    rw [hl, rot_get hj (Nat.mod_lt _ (by lia)), <- h1]
    congr 1
    rw [Nat.mod_add_mod, Nat.add_mod_mod, Nat.add_assoc]
theorem row_round {held waits : List (Int × Int)} {h g : Int} {R : List Int} (r : RowOk held waits h R) (e : nextOf held waits (R.getLastD 0) = some g) (hg : g ∈ R) : Round held waits (R.drop (R.idxOf g)) /\ R.getLastD 0 ∈ R.drop (R.idxOf g) := by
  have hi : R.idxOf g < R.length := List.idxOf_lt_length_of_mem hg
  have hl : R.getLast? = some (R.getLastD 0) := r.up.last?
  rw [List.getLast?_eq_getElem?] at hl
  refine ⟨⟨fun q => ?_, (List.drop_sublist _ _).nodup r.nd, fun k x hx => ?_⟩, ?_⟩
  · have := congrArg List.length q
    rw [List.length_drop, List.length_nil] at this
    lia
  · rw [List.getElem?_drop] at hx
    have hk := (List.getElem?_eq_some_iff.mp hx).1
    rw [List.length_drop, List.getElem?_drop]
    by_cases h1 : k + 1 < R.length - R.idxOf g
    · rw [Nat.mod_eq_of_lt h1]
      have h2 : R.idxOf g + (k + 1) < R.length := by lia
      exact ⟨_, List.getElem?_eq_getElem h2, r.step _ x _ hx (by rw [Nat.add_assoc]; exact List.getElem?_eq_getElem h2)⟩
    · have h2 : k + 1 = R.length - R.idxOf g := by lia
      rw [h2, Nat.mod_self, Nat.add_zero]
      refine ⟨g, by rw [List.getElem?_eq_getElem hi, List.getElem_idxOf hi], ?_⟩
      rw [show R.idxOf g + k = R.length - 1 by lia, hl] at hx
      rw [<- Option.some.inj hx]
      exact e
  · refine List.mem_iff_getElem?.mpr ⟨R.length - 1 - R.idxOf g, ?_⟩
    rw [List.getElem?_drop, show R.idxOf g + (R.length - 1 - R.idxOf g) = R.length - 1 by lia]
    exact hl
theorem ring_ok {held waits : List (Int × Int)} {L : List Int} {M : Int} (r : Round held waits L) (hm : M ∈ L) (hM : ∀ a ∈ L, M <= a) : RingOk held waits (L.drop (L.idxOf M) ++ L.take (L.idxOf M)) := by
  have hj : L.idxOf M < L.length := List.idxOf_lt_length_of_mem hm
  have r' := r.rot hj
  have hp : (L.drop (L.idxOf M) ++ L.take (L.idxOf M)).Perm L := by
    refine List.perm_append_comm.trans ?_
    rw [List.take_append_drop]
  refine ⟨r'.ne, r'.nd, fun x y hx hy => ?_, r'.step⟩
  rw [rot_get hj (by lia), Nat.add_zero, Nat.mod_eq_of_lt hj, List.getElem?_eq_getElem hj, List.getElem_idxOf hj] at hx
  cases hx
  exact hM y (hp.mem_iff.mp hy)
theorem rot_mem {L : List Int} {x : Int} {j : Nat} (h : x ∈ L) : x ∈ L.drop j ++ L.take j := by
  rw [<- List.take_append_drop j L] at h
  rcases List.mem_append.mp h with h | h
  · exact List.mem_append_right _ h
  · exact List.mem_append_left _ h
noncomputable def sp_ring_by (_ : PySem.W.Frag) : Sp := fun vs H Q _ => ∃ (a b : Addr) (held waits : List (Int × Int)) (h : Int), vs = [.ref a, .ref b, .int h] /\ H a = some (dI held) /\ H b = some (dI waits) /\ WF held waits /\ waits.length <= 900 /\
  (∀ (H' : Hp), Same H H' -> second waits (rowEnd held waits h) = none -> Q .non H') /\
  ∀ (p : Addr) (L : List Int) (H' : Hp), Same H H' -> H p = none -> H' p = some (.lst (L.map V.int)) -> L.length <= 1000 -> second waits (rowEnd held waits h) ≠ none -> RingOk held waits L -> rowEnd held waits h ∈ L -> Q (.ref p) H'
noncomputable def ahead (rs : List Int) (i j : Nat) : Bool := if rs.getD i 0 = rs.getD j 0 then decide (i < j) else decide (rs.getD j 0 < rs.getD i 0)
noncomputable def fmStep (rs : List Int) (f : Option Nat) (p : Nat) : Option Nat := match f with
  | none => some p
  | some f => if ahead rs p f then some p else some f
noncomputable def fm (rs : List Int) (is : List Nat) : Option Nat := is.foldl (fmStep rs) none
noncomputable def oV : Option Nat -> V
  | none => .non
  | some i => .int i
noncomputable abbrev nV (is : List Nat) : List V := is.map fun (i : Nat) => V.int (i : Int)
noncomputable def sp_is_ahead (K : PySem.W.Frag) : Sp := fun vs H Q _ => ∃ (a : Addr) (rs : List Int) (i j : Nat), vs = [.ref a, .int i, .int j] /\ SqL K H a (rs.map V.int) /\ i < rs.length /\ j < rs.length /\ Q (.bl (ahead rs i j)) H
noncomputable def sp_foremost_of (K : PySem.W.Frag) : Sp := fun vs H Q _ => ∃ (a b : Addr) (rs : List Int) (is : List Nat), vs = [.ref a, .ref b] /\ SqL K H a (rs.map V.int) /\ SqL K H b (nV is) /\ (∀ i ∈ is, i < rs.length) /\ Q (oV (fm rs is)) H
theorem aheadL_refl (rs : List Int) (i : Nat) : aheadL rs i i = true := by simp [aheadL]
theorem aheadL_iff {rs : List Int} {i j : Nat} : aheadL rs i j = true ↔ rs.getD j 0 < rs.getD i 0 ∨ (rs.getD i 0 = rs.getD j 0 /\ i <= j) := by
  unfold aheadL
  by_cases e : rs.getD i 0 = rs.getD j 0
  · rw [if_neg (by simpa using e)]
    simp only [decide_eq_true_eq]
    lia
  · rw [if_pos (by simpa using e)]
    simp only [decide_eq_true_eq]
    lia
theorem aheadL_trans {rs : List Int} {i j k : Nat} (h1 : aheadL rs i j = true) (h2 : aheadL rs j k = true) : aheadL rs i k = true := by
  rw [aheadL_iff] at h1 h2 ⊢
  lia
theorem aheadL_total {rs : List Int} {i j : Nat} (h : ¬ aheadL rs i j = true) : aheadL rs j i = true := by
  rw [aheadL_iff] at h ⊢
  lia
theorem ahead_L {rs : List Int} {i j : Nat} : ahead rs i j = true -> aheadL rs i j = true := by
  rw [aheadL_iff]
  unfold ahead
  split
  · simp only [decide_eq_true_eq]; lia
  · simp only [decide_eq_true_eq]; lia
theorem not_ahead_L {rs : List Int} {i j : Nat} : ¬ ahead rs i j = true -> aheadL rs j i = true := by
  rw [aheadL_iff]
  unfold ahead
  split
  · simp only [decide_eq_true_eq]; lia
  · simp only [decide_eq_true_eq]; lia
theorem fm_fold {rs : List Int} : ∀ (is : List Nat) (f : Nat), ∃ g, is.foldl (fmStep rs) (some f) = some g /\ (g = f ∨ g ∈ is) /\ aheadL rs g f = true /\ ∀ i ∈ is, aheadL rs g i = true
  | [], f => ⟨f, rfl, .inl rfl, aheadL_refl _ _, fun _ h => by cases h⟩
  | i :: is, f => by
    rw [List.foldl_cons]
    by_cases h : ahead rs i f = true
    · have e : fmStep rs (some f) i = some i := by simp only [fmStep]; rw [if_pos h]
      obtain ⟨g, h1, h2, h3, h4⟩ := fm_fold is i
      rw [e]
      refine ⟨g, h1, .inr (h2.elim (fun q => by rw [q]; exact List.mem_cons_self) (List.mem_cons_of_mem _)), aheadL_trans h3 (ahead_L h), fun k hk => ?_⟩
      rcases List.mem_cons.mp hk with rfl | hk
      · exact h3
      · exact h4 k hk
    · have e : fmStep rs (some f) i = some f := by simp only [fmStep]; rw [if_neg h]
      obtain ⟨g, h1, h2, h3, h4⟩ := fm_fold is f
      rw [e]
      refine ⟨g, h1, h2.imp_right (List.mem_cons_of_mem _), h3, fun k hk => ?_⟩
      rcases List.mem_cons.mp hk with rfl | hk
      · exact aheadL_trans h3 (not_ahead_L h)
      · exact h4 k hk
theorem fm_top {rs : List Int} {is : List Nat} (h : is ≠ []) : ∃ g, fm rs is = some g /\ g ∈ is /\ ∀ i ∈ is, aheadL rs g i = true := by
  cases is with
  | nil => exact absurd rfl h
  | cons i is =>
    obtain ⟨g, h1, h2, h3, h4⟩ := fm_fold (rs := rs) is i
    refine ⟨g, h1, h2.elim (fun q => by rw [q]; exact List.mem_cons_self) (List.mem_cons_of_mem _), fun k hk => ?_⟩
    rcases List.mem_cons.mp hk with rfl | hk
    · exact h3
    · exact h4 k hk
theorem fm_snoc (rs : List Int) (is : List Nat) (p : Nat) : fm rs (is ++ [p]) = fmStep rs (fm rs is) p := by
  unfold fm; rw [List.foldl_append]; rfl
theorem fm_mem {rs : List Int} {is : List Nat} {f : Nat} (h : fm rs is = some f) : f ∈ is := by
  cases is with
  | nil => cases h
  | cons i r =>
    obtain ⟨g, h1, h2, _⟩ := fm_top (rs := rs) (is := i :: r) (by simp)
    rw [h1] at h
    cases h
    exact h2
theorem row_self {held waits : List (Int × Int)} (wf : WF held waits) (h : Int) : h ∈ rowFrom held waits h := List.mem_of_getElem? (rowFrom_ok wf h).head
theorem fc_call {rs : List Int} {held waits : List (Int × Int)} (wf : WF held waits) (h : Nat) : ∀ n, (h : Int) ∈ rowFrom held waits (fcGo rs held waits h n : Int)
  | 0 => row_self wf _
  | n + 1 => by
    unfold fcGo
    split
    · rename_i q; exact q.1
    · exact fc_call wf h n
theorem fc_top {rs : List Int} {held waits : List (Int × Int)} (h : Nat) : ∀ (n i : Nat), i < n -> (h : Int) ∈ rowFrom held waits (i : Int) -> aheadL rs (fcGo rs held waits h n) i = true
  | 0, _, hi, _ => by lia
  | n + 1, i, hi, hc => by
    unfold fcGo
    by_cases e : i = n
    · subst e
      split
      · exact aheadL_refl _ _
      · rename_i q
        exact aheadL_total fun z => q ⟨hc, z⟩
    · have ih := fc_top (rs := rs) h n i (by lia) hc
      split
      · rename_i q
        exact aheadL_trans q.2 ih
      · exact ih
noncomputable def calls (waits : List (Int × Int)) (tool : Int) (L : List Int) : Option Int := (L.filter fun x => decide (second waits x = some tool)).getLast?
theorem calls_snoc {waits : List (Int × Int)} {tool : Int} (L : List Int) (x : Int) : calls waits tool (L ++ [x]) = if second waits x = some tool then some x else calls waits tool L := by
  unfold calls
  rw [List.filter_append]
  by_cases e : second waits x = some tool
  · rw [if_pos e, List.filter_cons_of_pos (by simpa using e)]
    simp
  · rw [if_neg e, List.filter_cons_of_neg (by simpa using e)]
    simp
theorem calls_some {waits : List (Int × Int)} {tool x : Int} {L : List Int} (h : calls waits tool L = some x) : x ∈ L /\ second waits x = some tool := by
  have := List.mem_of_getLast? h
  rw [List.mem_filter] at this
  exact ⟨this.1, by simpa using this.2⟩
theorem calls_ex {waits : List (Int × Int)} {tool x : Int} {L : List Int} (h : x ∈ L) (e : second waits x = some tool) : ∃ y, calls waits tool L = some y := by
  unfold calls
  cases q : (L.filter fun x => decide (second waits x = some tool)).getLast? with
  | some y => exact ⟨y, rfl⟩
  | none =>
    rw [List.getLast?_eq_none_iff] at q
    have : x ∈ L.filter fun x => decide (second waits x = some tool) := List.mem_filter.mpr ⟨h, by simpa using e⟩
    rw [q] at this
    cases this
noncomputable def calledBy (held waits : List (Int × Int)) (tool : Int) (n : Nat) : List (Int × Int) := (List.range n).filterMap fun (i : Nat) => (calls waits tool (rowFrom held waits (i : Int))).map fun x => ((i : Int), x)
theorem calledBy_succ (held waits : List (Int × Int)) (tool : Int) (n : Nat) : calledBy held waits tool (n + 1) = calledBy held waits tool n ++ ((calls waits tool (rowFrom held waits (n : Int))).map fun x => ((n : Int), x)).toList := by
  unfold calledBy
  rw [List.range_succ, List.filterMap_append]
  congr 1
  all_goals (cases calls waits tool (rowFrom held waits (n : Int)) <;> rfl)
theorem calledBy_mem {held waits : List (Int × Int)} {tool : Int} {n : Nat} {p : Int × Int} : p ∈ calledBy held waits tool n ↔ ∃ i : Nat, i < n /\ p.1 = (i : Int) /\ calls waits tool (rowFrom held waits (i : Int)) = some p.2 := by
  unfold calledBy
  rw [List.mem_filterMap]
  constructor
  · rintro ⟨i, hi, e⟩
    cases q : calls waits tool (rowFrom held waits (i : Int)) with
    | none => rw [q] at e; cases e
    | some x =>
      rw [q] at e
      have e : ((i : Int), x) = p := Option.some.inj e
      exact ⟨i, List.mem_range.mp hi, by rw [<- e], by rw [<- e]; exact q⟩
  · rintro ⟨i, hi, e1, e2⟩
    refine ⟨i, List.mem_range.mpr hi, ?_⟩
    rw [e2, <- e1]
    rfl
theorem calledBy_none {held waits : List (Int × Int)} {tool : Int} {n : Nat} : second (calledBy held waits tool n) (n : Int) = none := by
  refine find_none fun q hq => ?_
  obtain ⟨i, hi, e, _⟩ := calledBy_mem.mp hq
  rw [e]
  lia
theorem calledBy_at {held waits : List (Int × Int)} {tool x : Int} {n i : Nat} (hi : i < n) (h : calls waits tool (rowFrom held waits (i : Int)) = some x) : second (calledBy held waits tool n) (i : Int) = some x := by
  obtain ⟨m, hm⟩ := second_of_mem (ps := calledBy held waits tool n) (x := (i : Int)) (List.mem_map.mpr ⟨((i : Int), x), calledBy_mem.mpr ⟨i, hi, rfl, h⟩, rfl⟩)
  obtain ⟨j, _, e1, e2⟩ := calledBy_mem.mp (second_mem hm)
  have : j = i := by
    have : (i : Int) = (j : Int) := e1
    lia
  subst this
  rw [h] at e2
  rw [hm]
  exact e2.symm
theorem calledBy_len (held waits : List (Int × Int)) (tool : Int) (n : Nat) : (calledBy held waits tool n).length <= n := by
  unfold calledBy
  have := List.length_filterMap_le (fun i : Nat => (calls waits tool (rowFrom held waits (i : Int))).map fun x => ((i : Int), x)) (List.range n)
  rw [List.length_range] at this
  exact this
noncomputable def withCall (ps : List (Int × Int)) (i : Int) (o : Option Int) : List (Int × Int) := ps ++ (o.map fun x => (i, x)).toList
theorem put_call {ps : List (Int × Int)} {i x : Int} {o : Option Int} (h : second ps i = none) : putK ((withCall ps i o).map fun p => ((Sum.inl p.1 : Key), V.int p.2)) (Sum.inl i) (.int x) = (withCall ps i (some x)).map fun p => ((Sum.inl p.1 : Key), V.int p.2) := by
  have hv : valV (ps.map fun p => ((Sum.inl p.1 : Key), V.int p.2)) (Sum.inl i) = none := by rw [valV_dI, h]; rfl
  cases o with
  | none =>
    have e : (withCall ps i none) = ps := by simp [withCall]
    rw [e, putK_new _ hv]
    simp [withCall]
  | some y =>
    unfold putK
    have hn : ¬ (Sum.inl i : Key) ∈ (ps.map fun p => ((Sum.inl p.1 : Key), V.int p.2)).map (·.1) := valV_not hv
    rw [if_pos (by simp [withCall])]
    unfold withCall
    rw [List.map_append, List.map_append, List.map_append]
    congr 1
    · refine (List.map_congr_left fun p hp => ?_).trans (List.map_id _)
      rw [if_neg]
      · rfl
      · intro e
        exact hn (List.mem_map.mpr ⟨p, hp, e⟩)
    · simp
noncomputable def heirF (rs : List Int) (held waits : List (Int × Int)) (tool : Int) : Option Int :=
  if tool ∈ waits.map (·.2) then (fm rs ((calledBy held waits tool rs.length).map fun p => p.1.toNat)).bind fun f => second (calledBy held waits tool rs.length) (f : Int) else none
noncomputable def sp_heir_by (K : PySem.W.Frag) : Sp := fun vs H Q _ => ∃ (a b c : Addr) (rs : List Int) (held waits : List (Int × Int)) (tool : Int), vs = [.ref a, .ref b, .ref c, .int tool] /\ SqL K H a (rs.map V.int) /\ H b = some (dI held) /\ H c = some (dI waits) /\
  WF held waits /\ InR held waits rs.length /\ waits.length <= 900 /\ rs.length <= 500 /\ ∀ (H' : Hp), Same H H' -> Q (iV (heirF rs held waits tool)) H'
theorem heirF_none {rs : List Int} {held waits : List (Int × Int)} {tool : Int} (h : ¬ tool ∈ waits.map (·.2)) : heirF rs held waits tool = none := by
  unfold heirF
  rw [if_neg h]
theorem heirF_eq {rs : List Int} {held waits : List (Int × Int)} {tool : Int} {f : Nat} {x : Int} (h : tool ∈ waits.map (·.2)) (h1 : fm rs ((calledBy held waits tool rs.length).map fun p => p.1.toNat) = some f)
    (h2 : second (calledBy held waits tool rs.length) (f : Int) = some x) : heirF rs held waits tool = some x := by
  unfold heirF
  rw [if_pos h, h1]
  exact h2
theorem waiter_iff {held waits : List (Int × Int)} (wf : WF held waits) {tool x : Int} : x ∈ waiters waits tool ↔ second waits x = some tool := by
  unfold waiters
  rw [List.mem_map]
  constructor
  · rintro ⟨p, hp, rfl⟩
    rw [List.mem_filter] at hp
    have e : p.2 = tool := by simpa using hp.2
    refine second_uniq wf.hands ?_
    rw [<- e]
    exact hp.1
  · intro h
    exact ⟨(x, tool), List.mem_filter.mpr ⟨second_mem h, by simp⟩, rfl⟩
theorem heir_ok {rs : List Int} {held waits : List (Int × Int)} (wf : WF held waits) (ir : InR held waits rs.length) {tool : Int} (ht : tool ∈ waits.map (·.2)) :
    ∃ f h : Nat, fm rs ((calledBy held waits tool rs.length).map fun p => p.1.toNat) = some f /\ second (calledBy held waits tool rs.length) (f : Int) = some (h : Int) /\ (h : Int) ∈ waiters waits tool /\
      ∀ o : Nat, (o : Int) ∈ waiters waits tool -> aheadL rs (fcGo rs held waits h rs.length) (fcGo rs held waits o rs.length) = true := by
  have inCalled : ∀ (x : Int) (i : Nat), i < rs.length -> x ∈ rowFrom held waits (i : Int) -> second waits x = some tool -> i ∈ (calledBy held waits tool rs.length).map fun p => p.1.toNat := fun x i hi hx e => by
    obtain ⟨y, hy⟩ := calls_ex hx e
    exact List.mem_map.mpr ⟨((i : Int), y), calledBy_mem.mpr ⟨i, hi, rfl, hy⟩, by simp⟩
  obtain ⟨p, hp, e⟩ := List.mem_map.mp ht
  have hw : second waits p.1 = some tool := second_uniq wf.hands (by rw [<- e]; exact hp)
  have hpr := ir.waits p hp
  have hne : (calledBy held waits tool rs.length).map (fun p => p.1.toNat) ≠ [] := by
    have := inCalled p.1 p.1.toNat (by lia) (by rw [show ((p.1.toNat : Nat) : Int) = p.1 by lia]; exact row_self wf _) hw
    intro q
    rw [q] at this
    cases this
  obtain ⟨f, h1, h2, h3⟩ := fm_top (rs := rs) hne
  obtain ⟨q, hq, eq⟩ := List.mem_map.mp h2
  obtain ⟨i, hi, e1, e2⟩ := calledBy_mem.mp hq
  have eif : i = f := by
    rw [<- eq, e1]
    simp
  subst eif
  obtain ⟨hm, hs⟩ := calls_some e2
  have hmem : q.2 ∈ waiters waits tool := (waiter_iff wf).mpr hs
  obtain ⟨h, eh, hh⟩ := waiters_in ir hmem
  rw [eh] at hm hmem e2
  refine ⟨i, h, h1, calledBy_at hi e2, hmem, fun o ho => ?_⟩
  obtain ⟨o', eo, ho'⟩ := waiters_in ir ho
  have : o = o' := by lia
  subst this
  have t1 := fc_top (rs := rs) (held := held) (waits := waits) h rs.length i hi hm
  have lt := fcGo_lt (rs := rs) (held := held) (waits := waits) ho' (Nat.le_refl rs.length)
  have t2 := h3 _ (inCalled (o : Int) _ lt (fc_call wf o rs.length) ((waiter_iff wf).mp ho))
  exact aheadL_trans t1 t2
theorem called_keys (held waits : List (Int × Int)) (tool : Int) (n : Nat) : ((calledBy held waits tool n).map fun p => ((Sum.inl p.1 : Key), V.int p.2)).map (fun kv => kV kv.1) = nV ((calledBy held waits tool n).map fun p => p.1.toNat) := by
  show _ = ((calledBy held waits tool n).map fun p => p.1.toNat).map fun (i : Nat) => V.int (i : Int)
  rw [List.map_map, List.map_map]
  refine List.map_congr_left fun p hp => ?_
  obtain ⟨i, _, e, _⟩ := calledBy_mem.mp hp
  show V.int p.1 = V.int ((p.1.toNat : Nat) : Int)
  rw [e]
  rfl
theorem called_in (held waits : List (Int × Int)) (tool : Int) (n : Nat) : ∀ i ∈ (calledBy held waits tool n).map (fun p => p.1.toNat), i < n := by
  intro i hi
  obtain ⟨p, hp, rfl⟩ := List.mem_map.mp hi
  obtain ⟨j, hj, e, _⟩ := calledBy_mem.mp hp
  lia
theorem heirF_ok {rs : List Int} {held waits : List (Int × Int)} (wf : WF held waits) (ir : InR held waits rs.length) {tool : Int} (ht : tool ∈ waits.map (·.2)) :
    ∃ h : Nat, heirF rs held waits tool = some (h : Int) /\ (h : Int) ∈ waiters waits tool /\ ∀ o : Nat, (o : Int) ∈ waiters waits tool -> aheadL rs (fcGo rs held waits h rs.length) (fcGo rs held waits o rs.length) = true := by
  obtain ⟨f, h, h1, h2, h3, h4⟩ := heir_ok wf ir ht
  exact ⟨h, heirF_eq ht h1 h2, h3, h4⟩
end B
namespace L2
open PySem PySem.Spec PyProof.Rows
noncomputable def Ite (K : PySem.W.Frag) (a : Addr) : It :=
  ⟨fun i H => ∃ xs x, H a = some (.lst xs) /\ xs[i]? = some x, fun i H x H' => ∃ p y, H p = none /\ x = .ref p /\ H' = upd H p (.tup [.int i, y]) /\ ∀ xs, H a = some (.lst xs) -> xs[i]? = some y, fun i H => ∃ xs, H a = some (.lst xs) /\ xs.length <= i⟩
theorem turn_enum {P : Program} {w : World} {K : PySem.W.Frag} {es : List Expr} {k : Nat} {tpos : Pos} (a e it : Addr) (hne : e ≠ it) :
    Turn P w K (.Tuple es k tpos) (Ite K a) [e, it] e (fun i h => (∃ old, IsEnum h e it i old) /\ h.IsListIter it a i) where
  mem := by simp
  obj := fun i h st b hb => by
    rcases List.mem_cons.mp hb with rfl | hb
    · obtain ⟨⟨old, q⟩, _⟩ := st
      exact ⟨_, q, fun v z => by have z' : Data.fields _ = Data.cell v := z; cases z'⟩
    · have e : b = it := by simpa using hb
      subst e
      obtain ⟨_, o, e, c, d⟩ := st
      exact ⟨o, e, fun v z => by rw [d] at z; cases z⟩
  keep := fun i h h' st kp => by
    obtain ⟨⟨old, q⟩, q2⟩ := st
    exact ⟨⟨old, kp e (by simp) _ q⟩, q2.at fun o z => kp it (by simp) o z⟩
  item := by
    intro X hP hw hK hc i pins s σ H E I hf st hg
    subst hP hw hK
    obtain ⟨⟨old, he⟩, hit⟩ := st
    obtain ⟨xs, x, hq, hx⟩ := hg
    obtain ⟨zz, its, n, rv, hl, eo⟩ := I.lstM hq
    obtain ⟨u, hu, ru⟩ := rv.get hx
    obtain ⟨f0, f1, f2, f3, f4, f5⟩ := hf e (by simp)
    obtain ⟨g0, g1, g2, g3, g4, g5⟩ := hf it (by simp)
    have le : e < s.heap.objs.size := Heap.lt_size he
    have li : it < s.heap.objs.size := by obtain ⟨o, z, _⟩ := id hit; exact Heap.lt_size z
    refine wpAny_pyNext_enum_item he hit ⟨_, eo, rfl, n, rfl⟩ (x := u) (by simpa using hu) hne fun h' ho hit' hT hsz hk => ?_
    refine ⟨_, rfl, wpAny_letOwnedTupleGo_enum (s := { s with heap := h', toks := s.toks + 1 }) ho fun h2 he2 hs2 => ?_⟩
    have tp : ObjOk X.prog X.w (upd H s.heap.objs.size (.tup [.int i, x])) (s.heap.push { cls := .type "tuple", data := .seq #[.int i s.toks, u] }) s.heap.objs.size (.tup [.int i, x]) :=
      ⟨by rw [sizeLine_eq]; simp, [.int i s.toks, u], .cons ⟨_, rfl⟩ (.cons ru .nil), _, Heap.get?_push_size _ rfl, rfl, _, rfl⟩
    have I0 := I.laid (t' := s.toks) (fun b o z => Heap.get?_push_of_some _ z) (Nat.le_refl _) tp
    have he0 := Heap.get?_push_of_some { cls := .type "tuple", data := .seq #[.int i s.toks, u] } he
    have f0' : upd H s.heap.objs.size (.tup [.int i, x]) e = none := by rw [upd_ne (Nat.ne_of_lt le)]; exact f0
    have g0' : upd H s.heap.objs.size (.tup [.int i, x]) it = none := by rw [upd_ne (Nat.ne_of_lt li)]; exact g0
    have I1 := I0.turned (t' := s.toks) (it := e) (h' := (s.heap.push { cls := .type "tuple", data := .seq #[.int i s.toks, u] }).update e fun _ => { cls := .type "enumerate", dict := none, data := .fields #[.none, .bool false, .ref it, rawInt ((i : Int) + 1), .none, u], slots := #[] })
      (fun b o hb z => (Heap.get?_update_other _ _ (Ne.symm hb)).trans z) f0' f1 f3 f4 f5
    have I2 := I1.turned (t' := s.toks + 1) (it := it) (h' := h2) (fun b o hb z => ?_) g0' g1 g3 g4 g5
    · exact ⟨.ref s.heap.objs.size, _, I2, rfl, ⟨s.heap.objs.size, x, I.hok.fresh (Nat.le_refl _), rfl, rfl, fun ys hy => by rw [hq] at hy; cases hy; exact hx⟩, ⟨⟨u, he2⟩, hit'.at fun o z => (hs2.2 it (Ne.symm hne)).trans z⟩, fun b hb => by
        rcases List.mem_cons.mp hb with rfl | hb
        · exact f0'
        · have : b = it := by simpa using hb
          subst this
          exact g0'⟩
    · by_cases hbe : b = e
      · subst hbe
        have q := Heap.get?_update_self (fun _ => ({ cls := .type "enumerate", dict := none, data := .fields #[.none, .bool false, .ref it, rawInt ((i : Int) + 1), .none, u], slots := #[] } : Obj)) he0 rfl
        have z : _ = some o := z
        rw [q] at z
        cases z
        exact he2
      · have z : _ = some o := (Heap.get?_update_other _ _ (Ne.symm hbe)).symm.trans z
        refine (hs2.2 b hbe).trans ?_
        by_cases hbT : b = s.heap.objs.size
        · subst hbT
          have z : _ = some o := (Heap.get?_push_size s.heap (o := { cls := .type "tuple", data := .seq #[.int i s.toks, u] }) rfl).symm.trans z
          cases z
          exact hT
        · refine hk b o hbe hb ?_
          have lb : b < s.heap.objs.size := by
            have := Heap.lt_size z
            rw [Heap.size_push] at this
            exact Nat.lt_of_le_of_ne (Nat.le_of_lt_succ this) hbT
          rw [<- Heap.get?_push_ne _ _ _ (Nat.ne_of_lt lb)]
          exact z
  done := by
    intro X hP hw hK hc i pins s σ H E I hf st hg
    subst hP hw hK
    obtain ⟨⟨old, he⟩, hit⟩ := st
    obtain ⟨xs, hq, hx⟩ := hg
    obtain ⟨zz, its, n, rv, hl, eo⟩ := I.lstM hq
    obtain ⟨g0, g1, g2, g3, g4, g5⟩ := hf it (by simp)
    exact wpAny_pyNext_enum_end (I.ok.hd hc) he hit ⟨_, eo, rfl, n, rfl⟩ (by simp; lia) fun h' eb => ⟨rfl, I.turned (t' := s.toks) (fun b o hb z => eb b o hb z) g0 g1 g3 g4 g5⟩
  self := fun _ _ _ _ _ st h => by
    obtain ⟨⟨old, he⟩, _⟩ := st
    exact wpAny_pyIter_enum he h
noncomputable def iEnum (K : PySem.W.Frag) (ta : TA) : TI := fun σ H R => ta σ H fun vs H1 => ∃ a xs, vs = [.ref a] /\ H1 a = some (.lst xs) /\ R (Ite K a) H1
section
variable {X : Cx} {a e o value : Expr} {es : List Expr} {k : Nat} {tpos pos pos' p apos : Pos} {ta : TA} {te tv : TE} {f : Str} {t : TA}
theorem pi_enum (hg : Gl X "enumerate") (hm : X.mg "enumerate" = none) (ha : PA X [a] ta) (hs : starEach [a] X.env = [(false, eval a X.env)] := by rfl) : PI X (.Tuple es k tpos) (.Call (.Name "enumerate" p) [a] [] pos) (iEnum X.K ta) := by
  intro pins s σ H R I h
  refine Call_ (ld_blt I hg hm bt_enumerate (PyProof.Rows.callWith_type1 (thn (ha pos pins s σ H _ I h) fun us s1 hq1 => ?_) hs rfl))
  obtain ⟨vs, H1, I1, r1, q1⟩ := hq1
  obtain ⟨a, xs, e, hq, q⟩ := q1
  subst e
  obtain ⟨u, rfl, ru⟩ := vals1 r1
  cases ru
  obtain ⟨zz, its, n, rv, hl, eo⟩ := I1.lstM hq
  refine call_enumerate_1 eo fun h' he hit hsz kp => wpAny_pyIter_enum he ?_
  refine ⟨s1.heap.objs.size + 1, [s1.heap.objs.size + 1, s1.heap.objs.size], _, Ite X.K a, H1, rfl, I1.kept (t' := s1.toks) kp, turn_enum a _ _ (Nat.succ_ne_self _), ⟨⟨_, he⟩, hit⟩, fun b hb => ?_, q⟩
  rcases List.mem_cons.mp hb with rfl | hb
  · exact I1.fpOk (Nat.le_succ _) (I1.hok.fresh (Nat.le_succ _))
  · have e : b = s1.heap.objs.size := by simpa using hb
    subst e
    exact I1.fpOk (Nat.le_refl _) (I1.hok.fresh (Nat.le_refl _))
theorem qi_enum (K : PySem.W.Frag) (hm : X.mg "enumerate" = none) (ha : QA X [a] ta) (hg : Gl X "enumerate" := by rfl) (hs : starEach [a] X.env = [(false, eval a X.env)] := by rfl) (hK : X.K = K := by rfl) : QI X (.Tuple es k tpos) (.Call (.Name "enumerate" p) [a] [] pos) (iEnum K ta) := ⟨hK ▸ pi_enum hg hm ha.run hs⟩
theorem qe_fld (K : PySem.W.Frag) (he : QE X e te) (hb : attributeBase e f X.env (eval e X.env) = eval e X.env := by rfl) (hK : X.K = K := by rfl) : QE X (.Attribute e f pos) (tFld K te f) := ⟨hK ▸ pe_fld he.run hb⟩
theorem qs_fld (K : PySem.W.Frag) (ha : QE X o te) (hv : QE X value tv) (hs : swapsWith value (some (.Attribute o f pos')) pos.line X.env = pure false := by rfl) (hK : X.K = K := by rfl) : QS X (.Assign [.Attribute o f pos'] value pos) (sFld K te tv f) := ⟨hK ▸ ps_fld ha.run hv.run hs⟩
structure CalM (P : Program) (w : World) (K : PySem.W.Frag) (mg : Str -> Option Value) (base : Heap) (C : Addr) (m : Str) (ps : List Str) (k : Nat) (sp : Sp) : Prop where
  ex : ∃ (f : Addr) (fd : FuncData), Cls K C /\ Meth K C m f /\ Binds K fd ps [] /\ FnOk P w K mg base CX0 k f fd ps sp
structure CalI (P : Program) (w : World) (K : PySem.W.Frag) (mg : Str -> Option Value) (base : Heap) (C : Addr) (x : Str) (ps : List Str) (k : Nat) (sp : Sp) : Prop where
  ex : ∃ (f : Addr) (fd : FuncData), Mk K C f /\ mg x = some (.ref C) /\ Binds K fd ps [] /\ FnOk P w K mg base CX0 k f fd ps sp
theorem qe_meth {C : Addr} {m : Str} {ps : List Str} {kk : Nat} {sp : Sp} {pl : Sem Bool} (G : CalM X.prog X.w X.K X.mg X.base C m ps kk sp) (hr : Room kk X.A) (ho : QE X o te) (ha : QA X (e :: es) t)
    (hst : starEach (e :: es) X.env = (false, eval e X.env) :: starEach es X.env := by rfl) (hpl : (backTo pos (starEach es X.env)).any (·.1) = false := by rfl)
    (ht : eval (.Call (.Attribute o m apos) (e :: es) [] pos) X.env = (do
      let ov <- eval o X.env
      standAt apos.atName
      let (f, first) <- holding [ov] (getMethod ov m pl)
      callWith pos f first (backTo pos (starEach (e :: es) X.env)) (backToKw pos (keywordEach [] X.env))) := by rfl) :
    QE X (.Call (.Attribute o m apos) (e :: es) [] pos) (tMeth C m sp [] E0 te t) := by
  obtain ⟨f, fd, h1, h2, h3, h4⟩ := G.ex
  exact ⟨pe_meth ho.run h1 h2 h4 hr h3 .nil pass0 ha.run hst hpl ht⟩
theorem qe_meth0 {C : Addr} {m : Str} {ps : List Str} {kk : Nat} {sp : Sp} {pl : Sem Bool} (G : CalM X.prog X.w X.K X.mg X.base C m ps kk sp) (hr : Room kk X.A) (ho : QE X o te)
    (ht : eval (.Call (.Attribute o m apos) [] [] pos) X.env = (do
      let ov <- eval o X.env
      standAt apos.atName
      let (f, first) <- holding [ov] (getMethod ov m pl)
      callWith pos f first (backTo pos (starEach [] X.env)) (backToKw pos (keywordEach [] X.env))) := by rfl) :
    QE X (.Call (.Attribute o m apos) [] [] pos) (tMeth C m sp [] E0 te tNil) := by
  obtain ⟨f, fd, h1, h2, h3, h4⟩ := G.ex
  exact ⟨pe_meth0 ho.run h1 h2 h4 hr h3 .nil pass0 ht⟩
theorem qe_make {C : Addr} {x : Str} {ps : List Str} {kk : Nat} {sp : Sp} (G : CalI X.prog X.w X.K X.mg X.base C x ps kk sp) (hr : Room (kk + 1) X.A) (ha : QA X (e :: es) t) (hg : Gl X x := by rfl)
    (hdb : (x == ("__debug__" : Str)) = false := by decide) (he : starEach (e :: es) X.env = (false, eval e X.env) :: starEach es X.env := by rfl) (hpl : (backTo pos (starEach es X.env)).any (·.1) = false := by rfl) :
    QE X (.Call (.Name x p) (e :: es) [] pos) (tMake C sp [] E0 t) := by
  obtain ⟨f, fd, h1, h2, h3, h4⟩ := G.ex
  exact ⟨pe_make h1 h4 hr hg h2 h3 .nil pass0 ha.run hdb he hpl⟩
noncomputable def sNo : TS := fun _ _ _ => False
theorem qs_no {st : Stmt} : QS X st sNo := ⟨fun _ _ _ _ _ _ h => h.elim⟩
end
theorem for_enm {K : PySem.W.Frag} {a : Addr} {xs : List V} {g : TG} {tb : TS} {D : Ends} {σ : St} {H : Hp} (Pv : Nat -> St -> Hp -> Prop) (h0 : Pv 0 σ H) (hl : ∀ i σ H, i <= xs.length -> Pv i σ H -> H a = some (.lst xs))
    (hs : ∀ (i : Nat) x σ H p, xs[i]? = some x -> Pv i σ H -> H p = none -> g (.ref p) σ (upd H p (.tup [.int i, x])) fun σ2 H2 => tb { D with nx := Pv (i + 1), ct := Pv (i + 1), bk := D.nx } σ2 H2) (hd : ∀ σ H, Pv xs.length σ H -> D.nx σ H) :
    ∃ a' ys, [V.ref a] = [.ref a'] /\ H a' = some (.lst ys) /\ ForW (Ite K a') g tb D σ H := by
  refine ⟨a, xs, rfl, hl 0 σ H (Nat.zero_le _) h0, fun i m σ H => m = xs.length - i /\ i <= xs.length /\ Pv i σ H, ⟨xs.length, by simp, Nat.zero_le _, h0⟩, ?_⟩
  rintro i m σ H2 ⟨rfl, hi, p⟩
  have q := hl i σ H2 hi p
  by_cases hlt : i < xs.length
  · refine .inr ⟨⟨xs, xs[i], q, by simp [hlt]⟩, Pv (i + 1), fun σ' H' p' => ⟨xs.length - (i + 1), by lia, rfl, hlt, p'⟩, fun x H' y => ?_⟩
    obtain ⟨b, v, hb, rfl, rfl, hv⟩ := y
    exact hs i v σ H2 b (hv xs q) p hb
  · have e : i = xs.length := by lia
    subst e
    exact .inl ⟨⟨xs, q, Nat.le_refl _⟩, hd σ H2 p⟩
section
variable {σ : St} {H : Hp} {Q : VK} {K : PySem.W.Frag} {te tv : TE} {t : TA} {f : Str}
theorem rd_forE {ta : TA} {D : Ends} {g : TG} {tb : TS} (h : ta σ H fun vs H1 => ∃ a xs, vs = [.ref a] /\ H1 a = some (.lst xs) /\ ForW (Ite K a) g tb D σ H1) : tFor (iEnum K ta) g tb D σ H := h
theorem rd_tFld (h : te σ H fun x H1 => ∃ a C dx fs v, x = .ref a /\ H1 a = some (.ins C dx fs) /\ Cls K C /\ NoAttr K C f /\ fs.lookup f = some v /\ Q v H1) : tFld K te f σ H Q := h
theorem rd_sFld {D : Ends} (h : tv σ H fun y H1 => te σ H1 fun x H2 => ∃ a C dx fs, x = .ref a /\ H2 a = some (.ins C dx fs) /\ Cls K C /\ NoAttr K C f /\ fs.length < 1000 /\ D.nx σ (upd H2 a (.ins C dx (putF f y fs)))) : sFld K te tv f D σ H := h
theorem rd_tMeth {C : Addr} {m : Str} {sp : Sp} (h : te σ H fun x H1 => ∃ a dx fs, x = .ref a /\ H1 a = some (.ins C dx fs) /\ fs.lookup m = none /\ t σ H1 fun vs H2 => sp (x :: (vs ++ [])) H2 Q E0) : tMeth C m sp [] E0 te t σ H Q := h
end
end L2
namespace B
open PySem L2
inductive Stp where
  | work
  | take (t : Int)
  | give (t : Int)
structure Hd where
  rank : Int
  comes : Int
  steps : List Stp
structure Fl where
  done : List Nat
  tick : Nat
  holders : List (Int × Int)
  wanted : List (Int × Int)
  held : List (Int × Int)
  going : List Nat
noncomputable def stepsOf (hs : List Hd) (i : Nat) : List Stp := (hs.map (·.steps)).getD i []
noncomputable def ranksOf (hs : List Hd) : List Int := hs.map (·.rank)
noncomputable def comesOf (hs : List Hd) (i : Nat) : Int := (hs.map (·.comes)).getD i 0
noncomputable def fin (hs : List Hd) (F : Fl) (i : Nat) : Bool := decide (F.done.getD i 0 = (stepsOf hs i).length)
noncomputable def place (held : List (Int × Int)) (t : Int) : Nat := (held.takeWhile fun p => decide (p.1 < t)).length
noncomputable def insH (held : List (Int × Int)) (t h : Int) : List (Int × Int) := held.take (place held t) ++ (t, h) :: held.drop (place held t)
noncomputable def remH (held : List (Int × Int)) (t : Int) : List (Int × Int) := held.eraseIdx (place held t)
noncomputable def dropP (ps : List (Int × Int)) (k : Int) : List (Int × Int) := ps.filter fun p => decide (p.1 ≠ k)
noncomputable def hold (F : Fl) (h t : Int) : Fl := { F with holders := F.holders ++ [(t, h)], held := insH F.held t h }
noncomputable def bump (F : Fl) (i : Nat) : Fl := { F with done := F.done.set i (F.done.getD i 0 + 1) }
noncomputable def passOn (hs : List Hd) (F : Fl) (t : Int) : Fl × List Nat :=
  match heirF (ranksOf hs) F.holders F.wanted t with
  | none => ({ F with held := remH F.held t, holders := dropP F.holders t }, [])
  | some h => (bump (hold { F with held := remH F.held t, holders := dropP F.holders t, wanted := dropP F.wanted h } h t) h.toNat, [h.toNat])
noncomputable def toolsOf (F : Fl) (i : Nat) : List Int := (F.held.filter fun p => decide (p.2 = (i : Int))).map (·.1)
noncomputable def passAll (hs : List Hd) : List Int -> Fl × List Nat -> Fl × List Nat
  | [], s => s
  | t :: ts, (F, q) => let r := passOn hs F t; passAll hs ts (r.1, q ++ r.2)
noncomputable def giveBack (hs : List Hd) : Nat -> List Nat -> Fl -> Fl
  | 0, _, F => F
  | _ + 1, [], F => F
  | n + 1, i :: q, F => if fin hs F i then let r := passAll hs (toolsOf F i) ({ F with going := F.going.erase i }, q); giveBack hs n r.2 r.1 else giveBack hs n q F
noncomputable def hangs (F : Fl) (i : Nat) : Bool := (second F.wanted (rowEnd F.holders F.wanted (i : Int))).isSome
noncomputable def wait (F : Fl) (i : Nat) (t : Int) : Fl :=
  let F1 := { F with wanted := F.wanted ++ [((i : Int), t)] }
  if hangs F1 i then { F1 with going := F1.going.filter fun j => !hangs F1 j } else F1
inductive Word where
  | worked | took | gave | waits
noncomputable def fuel (F : Fl) : Nat := 2 * F.wanted.length + 4
noncomputable def endStep (hs : List Hd) (F : Fl) (i : Nat) (more : List Nat) : Fl := giveBack hs (fuel F) (i :: more) (bump F i)
noncomputable def serve (hs : List Hd) (F : Fl) (i : Nat) : Fl × Word :=
  match (stepsOf hs i)[F.done.getD i 0]? with
  | some (.take t) => if (second F.holders t).isSome then (wait F i t, .waits) else (endStep hs (hold F i t) i [], .took)
  | some (.give t) => if second F.holders t = some (i : Int) then let r := passOn hs F t; (endStep hs r.1 i r.2, .gave) else (endStep hs F i [], .gave)
  | _ => (endStep hs F i [], .worked)
noncomputable def here (hs : List Hd) (F : Fl) : List Nat := F.going.filter fun i => decide (comesOf hs i <= (F.tick : Int))
noncomputable def chain (hs : List Hd) (F : Fl) : List Int := match fm (ranksOf hs) (here hs F) with
  | none => []
  | some f => rowFrom F.holders F.wanted (f : Int)
noncomputable def dayN (hs : List Hd) (F : Fl) : Fl := let F1 := { F with tick := F.tick + 1 }
  match (chain hs F).getLast? with
  | none => F1
  | some i => (serve hs F1 i.toNat).1
noncomputable def dayS (hs : List Hd) : Fl := ⟨hs.map fun _ => 0, 0, [], [], [], (List.range hs.length).filter fun i => decide ((stepsOf hs i) ≠ [])⟩
theorem second_drop (ps : List (Int × Int)) (k x : Int) : second (dropP ps k) x = if x = k then none else second ps x := by
  unfold second dropP
  induction ps with
  | nil => simp
  | cons p r ih =>
    by_cases e : p.1 = k
    · rw [List.filter_cons_of_neg (by simpa using e), ih]
      by_cases q : x = k
      · rw [if_pos q, if_pos q]
      · rw [if_neg q, if_neg q, List.find?_cons]
        have : (p.1 == x) = false := by simp; lia
        rw [this]
    · rw [List.filter_cons_of_pos (by simpa using e), List.find?_cons]
      by_cases z : p.1 = x
      · have : (p.1 == x) = true := by simpa using z
        rw [this, List.find?_cons, this, if_neg (by lia)]
      · have : (p.1 == x) = false := by simpa using z
        rw [this, ih, List.find?_cons, this]
theorem second_snoc (ps : List (Int × Int)) (k v x : Int) (h : second ps k = none) : second (ps ++ [(k, v)]) x = if x = k then some v else second ps x := by
  unfold second at *
  rw [List.find?_append]
  by_cases e : x = k
  · subst e
    rw [if_pos rfl]
    cases q : ps.find? (fun p => p.1 == x) with
    | none => simp
    | some r => rw [q] at h; cases h
  · rw [if_neg e]
    have : ([(k, v)] : List (Int × Int)).find? (fun p => p.1 == x) = none := by
      rw [List.find?_eq_none]
      intro p hp
      have : p = (k, v) := by simpa using hp
      subst this
      simp
      lia
    rw [this, Option.or_none]
theorem dropP_sub (ps : List (Int × Int)) (k : Int) : (dropP ps k).Sublist ps := List.filter_sublist
theorem mem_dropP {ps : List (Int × Int)} {k : Int} {p : Int × Int} : p ∈ dropP ps k ↔ p ∈ ps /\ p.1 ≠ k := by
  unfold dropP
  rw [List.mem_filter]
  simp
theorem dropP_len {ps : List (Int × Int)} {k v : Int} (nd : (ps.map (·.1)).Nodup) (h : second ps k = some v) : (dropP ps k).length + 1 = ps.length := by
  induction ps with
  | nil => cases h
  | cons p r ih =>
    rw [List.map_cons, List.nodup_cons] at nd
    unfold dropP
    by_cases e : p.1 = k
    · rw [List.filter_cons_of_neg (by simpa using e)]
      have : r.filter (fun p => decide (p.1 ≠ k)) = r := by
        rw [List.filter_eq_self]
        intro q hq
        have : q.1 ≠ k := fun z => nd.1 (by rw [e, <- z]; exact List.mem_map.mpr ⟨q, hq, rfl⟩)
        simpa using this
      rw [this]
      rfl
    · rw [List.filter_cons_of_pos (by simpa using e)]
      have h' : second r k = some v := by
        unfold second at h ⊢
        rw [List.find?_cons] at h
        have : (p.1 == k) = false := by simpa using e
        rw [this] at h
        exact h
      have := ih nd.2 h'
      unfold dropP at this
      simp only [List.length_cons]
      lia
noncomputable def Sorted (l : List (Int × Int)) : Prop := l.Pairwise fun p q => p.1 < q.1
theorem Sorted.nd {l : List (Int × Int)} (h : Sorted l) : (l.map (·.1)).Nodup := by
  rw [List.nodup_iff_pairwise_ne, List.pairwise_map]
  exact h.imp fun q => by lia
theorem place_le (l : List (Int × Int)) (t : Int) : place l t <= l.length := (List.takeWhile_sublist _).length_le
theorem place_lt {l : List (Int × Int)} {t : Int} {i : Nat} (h : i < place l t) (h2 : i < l.length) : l[i].1 < t := by
  induction l generalizing i with
  | nil => simp at h2
  | cons p r ih =>
    unfold place at h
    rw [List.takeWhile_cons] at h
    split at h
    · rename_i e
      have e : p.1 < t := by simpa using e
      cases i with
      | zero => exact e
      | succ i => exact ih (by simpa [place] using h) (by simpa using h2)
    · simp at h
theorem place_ge {l : List (Int × Int)} {t : Int} (s : Sorted l) {i : Nat} (h : place l t <= i) (h2 : i < l.length) : t <= l[i].1 := by
  induction l generalizing i with
  | nil => simp at h2
  | cons p r ih =>
    unfold Sorted at s
    rw [List.pairwise_cons] at s
    unfold place at h
    rw [List.takeWhile_cons] at h
    split at h
    · rename_i e
      cases i with
      | zero => simp at h
      | succ i => exact ih s.2 (by simpa [place] using h) (by simpa using h2)
    · rename_i e
      have e : t <= p.1 := by simpa using e
      cases i with
      | zero => exact e
      | succ i =>
        have h3 : i < r.length := by simpa using h2
        have := s.1 r[i] (List.getElem_mem _)
        show t <= r[i].1
        lia
theorem place_eq {l : List (Int × Int)} {t : Int} (s : Sorted l) {k : Nat} (hk : k <= l.length) (h1 : ∀ i (h : i < l.length), i < k -> l[i].1 < t) (h2 : ∀ i (h : i < l.length), k <= i -> t <= l[i].1) : k = place l t := by
  have hp := place_le l t
  by_cases h : k < place l t
  · have a := place_lt h (by lia)
    have b := h2 k (by lia) (Nat.le_refl _)
    lia
  · by_cases h' : place l t < k
    · have a := place_ge s (Nat.le_refl (place l t)) (by lia)
      have b := h1 (place l t) (by lia) h'
      lia
    · lia
theorem insH_perm (l : List (Int × Int)) (t h : Int) : (insH l t h).Perm ((t, h) :: l) := by
  unfold insH
  refine List.perm_middle.trans ?_
  rw [List.take_append_drop]
theorem insH_sorted {l : List (Int × Int)} {t h : Int} (s : Sorted l) (hn : second l t = none) : Sorted (insH l t h) := by
  unfold insH Sorted
  have ne : ∀ p ∈ l, p.1 ≠ t := fun p hp e => by
    obtain ⟨m, hm⟩ := second_of_mem (ps := l) (x := t) (List.mem_map.mpr ⟨p, hp, e⟩)
    rw [hm] at hn
    cases hn
  have lo : ∀ p ∈ l.take (place l t), p.1 < t := fun p hp => by
    obtain ⟨i, hi, rfl⟩ := List.mem_iff_getElem.mp hp
    rw [List.length_take] at hi
    rw [List.getElem_take]
    exact place_lt (by lia) (by lia)
  have hi : ∀ p ∈ l.drop (place l t), t < p.1 := fun p hp => by
    have m := List.mem_of_mem_drop hp
    obtain ⟨i, hi, rfl⟩ := List.mem_iff_getElem.mp hp
    rw [List.length_drop] at hi
    have := place_ge s (i := place l t + i) (t := t) (by lia) (by lia)
    rw [List.getElem_drop] at m ⊢
    have := ne _ m
    lia
  rw [List.pairwise_append]
  refine ⟨s.sublist (List.take_sublist _ _), ?_, fun p hp q hq => ?_⟩
  · rw [List.pairwise_cons]
    exact ⟨fun q hq => hi q hq, s.sublist (List.drop_sublist _ _)⟩
  · rcases List.mem_cons.mp hq with rfl | hq
    · exact lo p hp
    · have := lo p hp
      have := hi q hq
      lia
theorem remH_sorted {l : List (Int × Int)} {t : Int} (s : Sorted l) : Sorted (remH l t) := s.sublist (List.eraseIdx_sublist _ _)
theorem at_place {l : List (Int × Int)} {t h : Int} (s : Sorted l) (e : second l t = some h) : ∃ hp : place l t < l.length, l[place l t] = (t, h) := by
  obtain ⟨i, hi, ei⟩ := List.mem_iff_getElem.mp (second_mem e)
  have : i = place l t := by
    refine place_eq s (by lia) (fun j hj hji => ?_) (fun j hj hij => ?_)
    · have := List.pairwise_iff_getElem.mp s j i hj hi hji
      rw [ei] at this
      exact this
    · by_cases q : j = i
      · subst q; rw [ei]; exact Int.le_refl _
      · have := List.pairwise_iff_getElem.mp s i j hi hj (by lia)
        rw [ei] at this
        have : t < l[j].1 := this
        lia
  subst this
  exact ⟨hi, ei⟩
theorem remH_drop {l : List (Int × Int)} {t h : Int} (s : Sorted l) (e : second l t = some h) : remH l t = dropP l t := by
  obtain ⟨hp, ep⟩ := at_place s e
  unfold remH dropP
  rw [List.eraseIdx_eq_take_drop_succ]
  have sp : l = l.take (place l t) ++ l[place l t] :: l.drop (place l t + 1) := by
    rw [<- List.drop_eq_getElem_cons hp, List.take_append_drop]
  have s' := s
  rw [ep] at sp
  rw [sp] at s'
  unfold Sorted at s'
  rw [List.pairwise_append, List.pairwise_cons] at s'
  conv => rhs; rw [sp]
  rw [List.filter_append, List.filter_cons_of_neg (by simp)]
  congr 1
  · symm
    rw [List.filter_eq_self]
    intro p hp
    have := s'.2.2 p hp (t, h) List.mem_cons_self
    have : p.1 < t := this
    simp
    lia
  · symm
    rw [List.filter_eq_self]
    intro p hp
    have := s'.2.1.1 p hp
    have : t < p.1 := this
    simp
    lia
inductive Ends (nx : Int -> Option Int) : Int -> Prop where
  | stop {x : Int} : nx x = none -> Ends nx x
  | step {x y : Int} : nx x = some y -> Ends nx y -> Ends nx x
theorem ends_row {held waits : List (Int × Int)} (wf : WF held waits) {h : Int} {L : List Int} (r : RowOk held waits h L) (e : second waits (L.getLastD 0) = none) : Ends (nextOf held waits) h := by
  have hl := r.up.last?
  have hpos : 0 < L.length := List.length_pos_iff.mpr r.ne
  have go : ∀ (n k : Nat) (hk : k < L.length), n + k + 1 = L.length -> Ends (nextOf held waits) L[k] := by
    intro n
    induction n with
    | zero =>
      intro k hk hn
      refine .stop ?_
      have : L[k] = L.getLastD 0 := by
        rw [List.getLast?_eq_getElem?, show L.length - 1 = k by lia, List.getElem?_eq_getElem hk] at hl
        exact Option.some.inj hl
      unfold nextOf
      rw [this, e]
      rfl
    | succ n ih =>
      intro k hk hn
      have hk1 : k + 1 < L.length := by lia
      exact .step (r.step k L[k] L[k + 1] (List.getElem?_eq_getElem hk) (List.getElem?_eq_getElem hk1)) (ih (k + 1) hk1 (by lia))
  have e0 : L[0] = h := by
    have := r.head
    rw [List.getElem?_eq_getElem hpos] at this
    exact Option.some.inj this
  have := go (L.length - 1) 0 hpos (by lia)
  rw [e0] at this
  exact this
theorem row_ends {held waits : List (Int × Int)} (wf : WF held waits) {h : Int} {L : List Int} (r : RowOk held waits h L) (e : Ends (nextOf held waits) h) : second waits (L.getLastD 0) = none := by
  have hl := r.up.last?
  rcases r.last _ hl with z | ⟨m, h1, h2⟩
  · exact z
  · exfalso
    have inv : ∀ x, Ends (nextOf held waits) x -> ¬ x ∈ L := by
      intro x ex
      induction ex with
      | stop q =>
        intro hx
        obtain ⟨k, hk, rfl⟩ := List.mem_iff_getElem.mp hx
        by_cases hk1 : k + 1 < L.length
        · rw [r.step k L[k] L[k + 1] (List.getElem?_eq_getElem hk) (List.getElem?_eq_getElem hk1)] at q
          cases q
        · have : L[k] = L.getLastD 0 := by
            rw [List.getLast?_eq_getElem?, show L.length - 1 = k by lia, List.getElem?_eq_getElem hk] at hl
            exact Option.some.inj hl
          rw [this, h1] at q
          cases q
      | step q _ ih =>
        intro hx
        obtain ⟨k, hk, rfl⟩ := List.mem_iff_getElem.mp hx
        by_cases hk1 : k + 1 < L.length
        · rw [r.step k L[k] L[k + 1] (List.getElem?_eq_getElem hk) (List.getElem?_eq_getElem hk1)] at q
          cases q
          exact ih (List.getElem_mem _)
        · have : L[k] = L.getLastD 0 := by
            rw [List.getLast?_eq_getElem?, show L.length - 1 = k by lia, List.getElem?_eq_getElem hk] at hl
            exact Option.some.inj hl
          rw [this, h1] at q
          cases q
          exact ih h2
    have hpos : 0 < L.length := List.length_pos_iff.mpr r.ne
    exact inv h e (List.mem_of_getElem? r.head)
theorem hangs_iff {F : Fl} (wf : WF F.holders F.wanted) {i : Nat} : hangs F i = false ↔ Ends (nextOf F.holders F.wanted) (i : Int) := by
  unfold hangs rowEnd
  have r := rowFrom_ok wf (i : Int)
  constructor
  · intro h
    refine ends_row wf r ?_
    cases q : second F.wanted ((rowFrom F.holders F.wanted (i : Int)).getLastD 0) with
    | none => rfl
    | some t => rw [q] at h; cases h
  · intro e
    rw [row_ends wf r e]
    rfl
theorem ends_last {held waits : List (Int × Int)} (wf : WF held waits) {h : Int} (e : Ends (nextOf held waits) h) : second waits (rowEnd held waits h) = none := row_ends wf (rowFrom_ok wf h) e
noncomputable def hasStep (row : List Int) : Stp -> List Int
  | .work => row
  | .take t => row ++ [t]
  | .give t => row.erase t
noncomputable def has (ss : List Stp) : List Int := ss.foldl hasStep []
theorem has_succ {ss : List Stp} {d : Nat} {s : Stp} (h : ss[d]? = some s) : has (ss.take (d + 1)) = hasStep (has (ss.take d)) s := by
  unfold has
  rw [List.take_add_one, h, List.foldl_append]
  rfl
noncomputable def takes : Stp -> Option Int
  | .take t => some t
  | _ => none
noncomputable def toolsAll (hs : List Hd) : List Int := hs.flatMap fun h => h.steps.filterMap takes
theorem tools_all {hs : List Hd} {i d : Nat} {t : Int} (h : (stepsOf hs i)[d]? = some (.take t)) : t ∈ toolsAll hs := by
  unfold stepsOf at h
  rw [List.getD_eq_getElem?_getD, List.getElem?_map] at h
  cases e : hs[i]? with
  | none => rw [e] at h; cases h
  | some a =>
    rw [e] at h
    have h : a.steps[d]? = some (.take t) := h
    exact List.mem_flatMap.mpr ⟨a, List.mem_of_getElem? e, List.mem_filterMap.mpr ⟨_, List.mem_of_getElem? h, rfl⟩⟩
structure Core (hs : List Hd) (F : Fl) (G : Nat -> List Int) : Prop where
  len : F.done.length = hs.length
  wf : WF F.holders F.wanted
  ir : InR F.holders F.wanted hs.length
  sorted : Sorted F.held
  perm : F.held.Perm F.holders
  gnd : ∀ i, (G i).Nodup
  holds : ∀ (t : Int) (i : Nat), second F.holders t = some (i : Int) ↔ t ∈ G i
  few : ∀ p ∈ F.holders, p.1 ∈ toolsAll hs
theorem Core.holdLen {hs : List Hd} {F : Fl} {G : Nat -> List Int} (c : Core hs F G) : F.holders.length <= (toolsAll hs).length := by
  have := nodup_len c.wf.tools (m := toolsAll hs) fun x hx => by
    obtain ⟨p, hp, rfl⟩ := List.mem_map.mp hx
    exact c.few p hp
  rw [List.length_map] at this
  exact this
theorem Core.wantLen {hs : List Hd} {F : Fl} {G : Nat -> List Int} (c : Core hs F G) : F.wanted.length <= hs.length := by
  have := nodup_len c.wf.hands (m := (List.range hs.length).map fun (i : Nat) => (i : Int)) fun x hx => by
    obtain ⟨p, hp, rfl⟩ := List.mem_map.mp hx
    have := c.ir.waits p hp
    exact List.mem_map.mpr ⟨p.1.toNat, List.mem_range.mpr (by lia), by lia⟩
  rw [List.length_map, List.length_map, List.length_range] at this
  exact this
theorem Core.sec {hs : List Hd} {F : Fl} {G : Nat -> List Int} (c : Core hs F G) (t : Int) : second F.held t = second F.holders t := by
  cases h : second F.holders t with
  | some m => exact second_uniq c.sorted.nd (c.perm.mem_iff.mpr (second_mem h))
  | none =>
    cases h' : second F.held t with
    | none => rfl
    | some m => rw [second_uniq c.wf.tools (c.perm.mem_iff.mp (second_mem h'))] at h; cases h
theorem Core.nat {hs : List Hd} {F : Fl} {G : Nat -> List Int} (c : Core hs F G) {t m : Int} (h : second F.holders t = some m) : ∃ i : Nat, m = (i : Int) /\ i < hs.length := by
  have := c.ir.held _ (second_mem h)
  have h0 : 0 <= m := this.1
  have h1 : m < hs.length := this.2
  exact ⟨m.toNat, by lia, by lia⟩
theorem Core.natW {hs : List Hd} {F : Fl} {G : Nat -> List Int} (c : Core hs F G) {x t : Int} (h : second F.wanted x = some t) : ∃ i : Nat, x = (i : Int) /\ i < hs.length := by
  have := c.ir.waits _ (second_mem h)
  have h0 : 0 <= x := this.1
  have h1 : x < hs.length := this.2
  exact ⟨x.toNat, by lia, by lia⟩
noncomputable def gaveG (G : Nat -> List Int) (i : Nat) (t : Int) (h : Option Int) : Nat -> List Int := fun j => if j = i then (G i).erase t else if h = some (j : Int) then G j ++ [t] else G j
theorem ranks_len (hs : List Hd) : (ranksOf hs).length = hs.length := by simp [ranksOf]
theorem heir_waits {hs : List Hd} {F : Fl} {G : Nat -> List Int} (c : Core hs F G) {t h : Int} (e : heirF (ranksOf hs) F.holders F.wanted t = some h) : second F.wanted h = some t := by
  by_cases ht : t ∈ F.wanted.map (·.2)
  · obtain ⟨k, h1, h2, _⟩ := heirF_ok (rs := ranksOf hs) c.wf (by rw [ranks_len]; exact c.ir) ht
    rw [h1] at e
    cases e
    exact (waiter_iff c.wf).mp h2
  · rw [heirF_none ht] at e
    cases e
theorem no_heir {hs : List Hd} {F : Fl} {G : Nat -> List Int} (c : Core hs F G) {t : Int} (e : heirF (ranksOf hs) F.holders F.wanted t = none) (x : Int) : second F.wanted x ≠ some t := by
  intro q
  have ht : t ∈ F.wanted.map (·.2) := List.mem_map.mpr ⟨(x, t), second_mem q, rfl⟩
  obtain ⟨k, h1, _⟩ := heirF_ok (rs := ranksOf hs) c.wf (by rw [ranks_len]; exact c.ir) ht
  rw [h1] at e
  cases e
theorem drop_nd {ps : List (Int × Int)} {k : Int} (h : (ps.map (·.1)).Nodup) : ((dropP ps k).map (·.1)).Nodup := ((dropP_sub ps k).map _).nodup h
theorem snoc_nd {ps : List (Int × Int)} {k v : Int} (h : (ps.map (·.1)).Nodup) (hn : second ps k = none) : ((ps ++ [(k, v)]).map (·.1)).Nodup := by
  rw [List.map_append, List.nodup_append]
  refine ⟨h, by simp, fun a ha b hb e => ?_⟩
  have : b = k := by simpa using hb
  rw [e, this] at ha
  obtain ⟨m, hm⟩ := second_of_mem ha
  rw [hm] at hn
  cases hn
theorem mem_erase_nd {l : List Int} (h : l.Nodup) {x t : Int} : x ∈ l.erase t ↔ x ∈ l /\ x ≠ t := by
  rw [h.mem_erase_iff]
  exact And.comm
theorem passOn_core {hs : List Hd} {F : Fl} {G : Nat -> List Int} (c : Core hs F G) {t : Int} {i : Nat} (hi : second F.holders t = some (i : Int)) (hw : second F.wanted (i : Int) = none) :
    Core hs (passOn hs F t).1 (gaveG G i t (heirF (ranksOf hs) F.holders F.wanted t)) := by
  have hrem : remH F.held t = dropP F.held t := remH_drop c.sorted ((c.sec t).trans hi)
  have hpd : (dropP F.held t).Perm (dropP F.holders t) := c.perm.filter _
  have hG : ∀ (s : Int) (j : Nat), s ∈ G j -> s = t -> j = i := fun s j hs e => by
    have := (c.holds s j).mpr hs
    rw [e, hi] at this
    have : (i : Int) = (j : Int) := Option.some.inj this
    lia
  unfold passOn
  cases e : heirF (ranksOf hs) F.holders F.wanted t with
  | none =>
    refine ⟨c.len, ⟨drop_nd c.wf.tools, c.wf.hands, fun p hp => ?_⟩, ⟨fun p hp => c.ir.held p (mem_dropP.mp hp).1, c.ir.waits⟩, ?_, ?_, fun j => ?_, fun s j => ?_, fun p hp => c.few p (mem_dropP.mp hp).1⟩
    · obtain ⟨m, hm⟩ := c.wf.there p hp
      refine ⟨m, ?_⟩
      rw [second_drop, if_neg]
      · exact hm
      · intro q
        exact no_heir c e p.1 (by rw [<- q]; exact second_uniq c.wf.hands hp)
    · show Sorted (remH F.held t)
      exact remH_sorted c.sorted
    · show (remH F.held t).Perm _
      rw [hrem]
      exact hpd
    · unfold gaveG
      split
      · exact (c.gnd i).erase t
      · rw [if_neg (by simp)]
        exact c.gnd j
    · show second (dropP F.holders t) s = _ ↔ _
      rw [second_drop]
      unfold gaveG
      by_cases q : s = t
      · rw [if_pos q]
        refine ⟨fun z => (by cases z), fun z => ?_⟩
        exfalso
        split at z
        · exact (mem_erase_nd (c.gnd i)).mp z |>.2 q
        · rename_i hj
          rw [if_neg (by simp)] at z
          exact hj (hG s j z q)
      · rw [if_neg q, c.holds]
        split
        · rename_i hj
          subst hj
          rw [mem_erase_nd (c.gnd j)]
          exact ⟨fun z => ⟨z, q⟩, fun z => z.1⟩
        · rw [if_neg (by simp)]
  | some h =>
    have hwt := heir_waits c e
    obtain ⟨k, rfl, hk⟩ := c.natW hwt
    have hki : k ≠ i := fun q => by rw [q, hw] at hwt; cases hwt
    have hno : second (dropP F.holders t) t = none := by rw [second_drop, if_pos rfl]
    have hno2 : second (dropP F.held t) t = none := by rw [second_drop, if_pos rfl]
    simp only [Int.toNat_natCast]
    refine ⟨?_, ⟨snoc_nd (drop_nd c.wf.tools) hno, drop_nd c.wf.hands, fun p hp => ?_⟩, ⟨fun p hp => ?_, fun p hp => c.ir.waits p (mem_dropP.mp hp).1⟩, ?_, ?_, fun j => ?_, fun s j => ?_, fun p hp => ?_⟩
    · show (F.done.set k _).length = _
      rw [List.length_set]
      exact c.len
    · show ∃ m, second (dropP F.holders t ++ [(t, (k : Int))]) p.2 = some m
      rw [second_snoc _ _ _ _ hno, second_drop]
      by_cases q : p.2 = t
      · exact ⟨_, if_pos q⟩
      · rw [if_neg q, if_neg q]
        exact c.wf.there p (mem_dropP.mp hp).1
    · rcases List.mem_append.mp hp with hp | hp
      · exact c.ir.held p (mem_dropP.mp hp).1
      · have : p = (t, (k : Int)) := by simpa using hp
        subst this
        exact ⟨by show (0 : Int) <= (k : Int); lia, by show (k : Int) < _; lia⟩
    · show Sorted (insH (remH F.held t) t k)
      rw [hrem]
      exact insH_sorted (hrem ▸ remH_sorted c.sorted) hno2
    · show (insH (remH F.held t) t k).Perm (dropP F.holders t ++ [(t, (k : Int))])
      rw [hrem]
      refine (insH_perm _ _ _).trans ?_
      refine (List.Perm.cons _ hpd).trans ?_
      exact (List.perm_append_comm (l₁ := [(t, (k : Int))]))
    · unfold gaveG
      split
      · exact (c.gnd i).erase t
      · rename_i hji
        split
        · rw [List.nodup_append]
          refine ⟨c.gnd j, by simp, fun a ha b hb q => ?_⟩
          have : b = t := by simpa using hb
          exact hji (hG a j ha (by rw [q, this]))
        · exact c.gnd j
    · show second (dropP F.holders t ++ [(t, (k : Int))]) s = _ ↔ _
      rw [second_snoc _ _ _ _ hno, second_drop]
      unfold gaveG
      by_cases q : s = t
      · rw [if_pos q]
        by_cases hj : j = k
        · subst hj
          rw [if_neg hki, if_pos rfl]
          exact ⟨fun _ => by rw [q]; simp, fun _ => rfl⟩
        · refine ⟨fun z => ?_, fun z => ?_⟩
          · have : (k : Int) = (j : Int) := Option.some.inj z
            lia
          · exfalso
            split at z
            · exact (mem_erase_nd (c.gnd i)).mp z |>.2 q
            · rename_i hji
              rw [if_neg (fun z => hj (by have : (k : Int) = (j : Int) := Option.some.inj z; lia))] at z
              exact hji (hG s j z q)
      · rw [if_neg q, if_neg q, c.holds]
        split
        · rename_i hj
          subst hj
          rw [mem_erase_nd (c.gnd j)]
          exact ⟨fun z => ⟨z, q⟩, fun z => z.1⟩
        · split
          · rw [List.mem_append]
            exact ⟨.inl, fun z => z.elim id fun z => absurd (by simpa using z) q⟩
          · exact Iff.rfl
    · rcases List.mem_append.mp hp with hp | hp
      · exact c.few p (mem_dropP.mp hp).1
      · have : p = (t, (k : Int)) := by simpa using hp
        subst this
        show t ∈ toolsAll hs
        exact c.few (t, (i : Int)) (second_mem hi)
theorem passOn_next {hs : List Hd} {F : Fl} {G : Nat -> List Int} (c : Core hs F G) {t : Int} {i : Nat} (hi : second F.holders t = some (i : Int)) (x : Int) :
    nextOf (passOn hs F t).1.holders (passOn hs F t).1.wanted x = if heirF (ranksOf hs) F.holders F.wanted t = some x then none else if second F.wanted x = some t then heirF (ranksOf hs) F.holders F.wanted t else nextOf F.holders F.wanted x := by
  unfold passOn
  cases e : heirF (ranksOf hs) F.holders F.wanted t with
  | none =>
    rw [if_neg (by simp), if_neg (no_heir c e x)]
    show (second F.wanted x).bind (second (dropP F.holders t)) = (second F.wanted x).bind (second F.holders)
    cases q : second F.wanted x with
    | none => rfl
    | some s =>
      show second (dropP F.holders t) s = second F.holders s
      rw [second_drop, if_neg]
      intro z
      exact no_heir c e x (by rw [q, z])
  | some h =>
    have hwt := heir_waits c e
    have hno : second (dropP F.holders t) t = none := by rw [second_drop, if_pos rfl]
    show (second (dropP F.wanted h) x).bind (second (dropP F.holders t ++ [(t, h)])) = _
    rw [second_drop]
    by_cases z : x = h
    · subst z
      rw [if_pos rfl, if_pos rfl]
      rfl
    · rw [if_neg z, if_neg (fun q => z (Option.some.inj q).symm)]
      cases q : second F.wanted x with
      | none =>
        rw [if_neg (by simp)]
        unfold nextOf
        rw [q]
        rfl
      | some s =>
        show second (dropP F.holders t ++ [(t, h)]) s = _
        rw [second_snoc _ _ _ _ hno, second_drop]
        by_cases y : s = t
        · rw [if_pos y, if_pos (by rw [y])]
        · rw [if_neg y, if_neg y, if_neg (fun q => y (Option.some.inj q))]
          unfold nextOf
          rw [q]
          rfl
theorem passOn_ends {hs : List Hd} {F : Fl} {G : Nat -> List Int} (c : Core hs F G) {t : Int} {i : Nat} (hi : second F.holders t = some (i : Int)) (hw : second F.wanted (i : Int) = none) (x : Int) :
    Ends (nextOf (passOn hs F t).1.holders (passOn hs F t).1.wanted) x ↔ Ends (nextOf F.holders F.wanted) x := by
  have nx := passOn_next c hi
  have endI : Ends (nextOf F.holders F.wanted) (i : Int) := .stop (by unfold nextOf; rw [hw]; rfl)
  have waitsT : ∀ y, second F.wanted y = some t -> nextOf F.holders F.wanted y = some (i : Int) := fun y hy => by unfold nextOf; rw [hy]; exact hi
  constructor
  · intro h
    induction h with
    | @stop y q =>
      rw [nx] at q
      split at q
      · rename_i e
        exact .step (waitsT y (heir_waits c e)) endI
      · split at q
        · rename_i e
          exact .step (waitsT y e) endI
        · exact .stop q
    | @step y z q _ ih =>
      rw [nx] at q
      split at q
      · cases q
      · split at q
        · rename_i e
          exact .step (waitsT y e) endI
        · exact .step q ih
  · intro h
    induction h with
    | @stop y q =>
      refine .stop ?_
      rw [nx, q]
      have hy : second F.wanted y = none := nextOf_none c.wf q
      split
      · rfl
      · rw [if_neg (by rw [hy]; simp)]
    | @step y z q _ ih =>
      by_cases e : heirF (ranksOf hs) F.holders F.wanted t = some y
      · exact .stop (by rw [nx, if_pos e])
      · by_cases e2 : second F.wanted y = some t
        · cases e3 : heirF (ranksOf hs) F.holders F.wanted t with
          | none => exact absurd e2 (no_heir c e3 y)
          | some h =>
            refine .step (y := h) (by rw [nx, if_neg e, if_pos e2, e3]) (.stop ?_)
            rw [nx, if_pos e3]
        · exact .step (by rw [nx, if_neg e, if_neg e2]; exact q) ih
noncomputable def doneOf (F : Fl) (i : Nat) : Nat := F.done.getD i 0
structure OkX (hs : List Hd) (F : Fl) (P : List Nat) (x : Option Nat) (G : Nat -> List Int) : Prop where
  core : Core hs F G
  le : ∀ i, doneOf F i <= (stepsOf hs i).length
  wants : ∀ (i : Nat) (t : Int), second F.wanted (i : Int) = some t -> (stepsOf hs i)[doneOf F i]? = some (.take t)
  going : ∀ i, i ∈ F.going ↔ i < hs.length /\ (fin hs F i = false ∨ i ∈ P) /\ Ends (nextOf F.holders F.wanted) (i : Int)
  sort : F.going.Pairwise (· < ·)
  own : ∀ j, j < hs.length -> (fin hs F j = false ∨ j ∈ P) -> some j ≠ x -> G j = has ((stepsOf hs j).take (doneOf F j))
  non : ∀ j, ¬ (j < hs.length /\ (fin hs F j = false ∨ j ∈ P)) -> some j ≠ x -> G j = []
theorem fin_false {hs : List Hd} {F : Fl} {i : Nat} : fin hs F i = false ↔ doneOf F i ≠ (stepsOf hs i).length := by
  unfold fin doneOf
  rw [decide_eq_false_iff_not]
theorem fin_true {hs : List Hd} {F : Fl} {i : Nat} : fin hs F i = true ↔ doneOf F i = (stepsOf hs i).length := by
  unfold fin doneOf
  rw [decide_eq_true_iff]
theorem OkX.unfin {hs : List Hd} {F : Fl} {P : List Nat} {x : Option Nat} {G : Nat -> List Int} (o : OkX hs F P x G) {i : Nat} {t : Int} (h : second F.wanted (i : Int) = some t) : fin hs F i = false := by
  rw [fin_false]
  intro e
  have := o.wants i t h
  rw [e, List.getElem?_eq_none (Nat.le_refl _)] at this
  cases this
theorem doneOf_set {F : Fl} {i j v : Nat} (hi : i < F.done.length) : (F.done.set i v).getD j 0 = if j = i then v else doneOf F j := by
  unfold doneOf
  rw [List.getD_eq_getElem?_getD, List.getElem?_set, List.getD_eq_getElem?_getD]
  by_cases e : i = j
  · subst e
    rw [if_pos rfl, if_pos rfl, if_pos hi]
    rfl
  · rw [if_neg e, if_neg (fun z => e z.symm)]
theorem bump_done {F : Fl} {i j : Nat} (hi : i < F.done.length) : doneOf (bump F i) j = if j = i then doneOf F i + 1 else doneOf F j := by
  show (F.done.set i (F.done.getD i 0 + 1)).getD j 0 = _
  rw [doneOf_set hi]
  rfl
theorem passOn_done {hs : List Hd} {F : Fl} {t : Int} (j : Nat) (hlen : ∀ h, heirF (ranksOf hs) F.holders F.wanted t = some h -> h.toNat < F.done.length) :
    doneOf (passOn hs F t).1 j = if (heirF (ranksOf hs) F.holders F.wanted t).map Int.toNat = some j then doneOf F j + 1 else doneOf F j := by
  unfold passOn
  cases e : heirF (ranksOf hs) F.holders F.wanted t with
  | none => rfl
  | some h =>
    show doneOf (bump _ h.toNat) j = _
    refine Eq.trans (bump_done ?_) ?_
    · exact hlen h e
    by_cases z : j = h.toNat
    · rw [if_pos z, if_pos (by rw [z]; rfl), z]
      rfl
    · rw [if_neg z, if_neg (by simp only [Option.map_some, Option.some.injEq]; lia)]
      rfl
theorem passOn_going {hs : List Hd} {F : Fl} {t : Int} : (passOn hs F t).1.going = F.going := by
  unfold passOn
  cases heirF (ranksOf hs) F.holders F.wanted t <;> rfl
theorem passOn_queue {hs : List Hd} {F : Fl} {t : Int} : (passOn hs F t).2 = ((heirF (ranksOf hs) F.holders F.wanted t).map Int.toNat).toList := by
  unfold passOn
  cases heirF (ranksOf hs) F.holders F.wanted t <;> rfl
theorem passOn_wanted {hs : List Hd} {F : Fl} {t x : Int} : second (passOn hs F t).1.wanted x = if heirF (ranksOf hs) F.holders F.wanted t = some x then none else second F.wanted x := by
  unfold passOn
  cases e : heirF (ranksOf hs) F.holders F.wanted t with
  | none => rw [if_neg (by simp)]
  | some h =>
    show second (dropP F.wanted h) x = _
    rw [second_drop]
    by_cases z : x = h
    · rw [if_pos z, if_pos (by rw [z])]
    · rw [if_neg z, if_neg (fun q => z (Option.some.inj q).symm)]
theorem passOn_ok {hs : List Hd} {F : Fl} {P : List Nat} {G : Nat -> List Int} {t : Int} {i : Nat} (o : OkX hs F P (some i) G) (hi : t ∈ G i) (hw : second F.wanted (i : Int) = none) :
    OkX hs (passOn hs F t).1 (P ++ (passOn hs F t).2.filter fun j => fin hs (passOn hs F t).1 j) (some i) (gaveG G i t (heirF (ranksOf hs) F.holders F.wanted t)) := by
  have hh := (o.core.holds t i).mpr hi
  have hlen : ∀ h, heirF (ranksOf hs) F.holders F.wanted t = some h -> h.toNat < F.done.length := fun h e => by
    obtain ⟨k, rfl, hk⟩ := o.core.natW (heir_waits o.core e)
    rw [o.core.len]
    simpa using hk
  have hd := fun j => passOn_done (hs := hs) (F := F) (t := t) j hlen
  have hq := @passOn_queue hs F t
  have hwd := fun x => @passOn_wanted hs F t x
  have c' := passOn_core o.core hh hw
  have hen := passOn_ends o.core hh hw
  have heir : ∀ j : Nat, (heirF (ranksOf hs) F.holders F.wanted t).map Int.toNat = some j -> second F.wanted (j : Int) = some t /\ heirF (ranksOf hs) F.holders F.wanted t = some (j : Int) := fun j e => by
    cases q : heirF (ranksOf hs) F.holders F.wanted t with
    | none => rw [q] at e; cases e
    | some h =>
      rw [q] at e
      obtain ⟨k, rfl, hk⟩ := o.core.natW (heir_waits o.core q)
      have : k = j := by simpa using e
      subst this
      exact ⟨heir_waits o.core q, rfl⟩
  have hfin : ∀ j, (heirF (ranksOf hs) F.holders F.wanted t).map Int.toNat ≠ some j -> fin hs (passOn hs F t).1 j = fin hs F j := fun j e => by
    have := hd j
    rw [if_neg e] at this
    unfold fin
    unfold doneOf at this
    rw [this]
  have pend : ∀ j, (fin hs (passOn hs F t).1 j = false ∨ j ∈ P ++ (passOn hs F t).2.filter fun j => fin hs (passOn hs F t).1 j) ↔ (fin hs F j = false ∨ j ∈ P) := fun j => by
    rw [hq]
    by_cases e : (heirF (ranksOf hs) F.holders F.wanted t).map Int.toNat = some j
    · have := o.unfin (heir j e).1
      rw [e]
      refine ⟨fun _ => .inl this, fun _ => ?_⟩
      cases z : fin hs (passOn hs F t).1 j with
      | false => exact .inl rfl
      | true => exact .inr (List.mem_append_right _ (by simp [z]))
    · rw [hfin j e]
      refine or_congr Iff.rfl ⟨fun z => ?_, List.mem_append_left _⟩
      rcases List.mem_append.mp z with z | z
      · exact z
      · exfalso
        have := (List.mem_filter.mp z).1
        cases y : (heirF (ranksOf hs) F.holders F.wanted t).map Int.toNat with
        | none => rw [y] at this; cases this
        | some k =>
          rw [y] at this
          have : j = k := by simpa using this
          exact e (by rw [y, this])
  refine ⟨c', fun j => ?_, fun j s hs' => ?_, fun j => ?_, by rw [passOn_going]; exact o.sort, fun j hj hp hx => ?_, fun j hn hx => ?_⟩
  · rw [hd]
    split
    · rename_i e
      have h1 := o.unfin (heir j e).1
      rw [fin_false] at h1
      have := o.le j
      lia
    · exact o.le j
  · rw [hwd] at hs'
    split at hs'
    · cases hs'
    · rename_i e
      rw [hd, if_neg]
      · exact o.wants j s hs'
      · intro z
        exact e (heir j z).2
  · rw [passOn_going, o.going, pend, hen]
  · have ne : j ≠ i := fun z => hx (by rw [z])
    unfold gaveG
    rw [if_neg ne]
    by_cases e : (heirF (ranksOf hs) F.holders F.wanted t).map Int.toNat = some j
    · obtain ⟨h1, h2⟩ := heir j e
      rw [if_pos h2, hd, if_pos e, has_succ (o.wants j t h1), o.own j hj (.inl (o.unfin h1)) hx]
      rfl
    · rw [if_neg (fun z => e (by rw [z]; simp)), hd, if_neg e]
      exact o.own j hj ((pend j).mp hp) hx
  · have ne : j ≠ i := fun z => hx (by rw [z])
    unfold gaveG
    rw [if_neg ne, if_neg]
    · exact o.non j (fun z => hn ⟨z.1, (pend j).mpr z.2⟩) hx
    · intro z
      have h1 := heir_waits o.core z
      obtain ⟨k, hk1, hk2⟩ := o.core.natW h1
      have : k = j := by lia
      subst this
      exact hn ⟨hk2, (pend k).mpr (.inl (o.unfin h1))⟩
structure Que (hs : List Hd) (F : Fl) (q : List Nat) : Prop where
  nd : q.Nodup
  free : ∀ j ∈ q, j < hs.length /\ second F.wanted (j : Int) = none
theorem fold_erase : ∀ (ts l : List Int), l.Nodup -> ∀ x, x ∈ ts.foldl (fun l t => l.erase t) l ↔ x ∈ l /\ ¬ x ∈ ts
  | [], l, _, x => by simp
  | t :: ts, l, nd, x => by
    rw [List.foldl_cons, fold_erase ts (l.erase t) (nd.erase t), mem_erase_nd nd, List.mem_cons]
    constructor
    · rintro ⟨⟨h1, h2⟩, h3⟩
      exact ⟨h1, fun z => z.elim h2 h3⟩
    · rintro ⟨h1, h2⟩
      exact ⟨⟨h1, fun z => h2 (.inl z)⟩, fun z => h2 (.inr z)⟩
theorem fold_erase_nil {ts l : List Int} (nd : l.Nodup) (h : ∀ x ∈ l, x ∈ ts) : ts.foldl (fun l t => l.erase t) l = [] := by
  rw [List.eq_nil_iff_forall_not_mem]
  intro x hx
  rw [fold_erase ts l nd] at hx
  exact hx.2 (h x hx.1)
theorem heir_len {hs : List Hd} {F : Fl} {G : Nat -> List Int} (c : Core hs F G) {t : Int} : ∀ h, heirF (ranksOf hs) F.holders F.wanted t = some h -> h.toNat < F.done.length := fun h e => by
  obtain ⟨k, rfl, hk⟩ := c.natW (heir_waits c e)
  rw [c.len]
  simpa using hk
theorem passOn_que {hs : List Hd} {F : Fl} {G : Nat -> List Int} {q : List Nat} {t : Int} (c : Core hs F G) (Q : Que hs F q) :
    Que hs (passOn hs F t).1 (q ++ (passOn hs F t).2) /\ (q ++ (passOn hs F t).2).filter (fin hs (passOn hs F t).1) = q.filter (fin hs F) ++ (passOn hs F t).2.filter (fin hs (passOn hs F t).1) /\
      (passOn hs F t).1.wanted.length + (q ++ (passOn hs F t).2).length = F.wanted.length + q.length := by
  have hd := fun j => passOn_done (hs := hs) (F := F) (t := t) j (heir_len c)
  have hq := @passOn_queue hs F t
  have hwd := fun x => @passOn_wanted hs F t x
  have same : ∀ j ∈ q, fin hs (passOn hs F t).1 j = fin hs F j := fun j hj => by
    have := hd j
    rw [if_neg] at this
    · unfold fin
      unfold doneOf at this
      rw [this]
    · intro z
      cases e : heirF (ranksOf hs) F.holders F.wanted t with
      | none => rw [e] at z; cases z
      | some h =>
        rw [e] at z
        have h1 := heir_waits c e
        obtain ⟨k, rfl, _⟩ := c.natW h1
        have : k = j := by simpa using z
        subst this
        rw [(Q.free k hj).2] at h1
        cases h1
  have flt : (q ++ (passOn hs F t).2).filter (fin hs (passOn hs F t).1) = q.filter (fin hs F) ++ (passOn hs F t).2.filter (fin hs (passOn hs F t).1) := by
    rw [List.filter_append]
    congr 1
    exact List.filter_congr fun j hj => same j hj
  refine ⟨?_, flt, ?_⟩
  · rw [hq]
    cases e : heirF (ranksOf hs) F.holders F.wanted t with
    | none =>
      refine ⟨by simpa using Q.nd, fun j hj => ?_⟩
      have hj : j ∈ q := by simpa using hj
      refine ⟨(Q.free j hj).1, ?_⟩
      rw [hwd]
      split
      · rfl
      · exact (Q.free j hj).2
    | some h =>
      have h1 := heir_waits c e
      obtain ⟨k, rfl, hk⟩ := c.natW h1
      have hkq : ¬ k ∈ q := fun z => by rw [(Q.free k z).2] at h1; cases h1
      refine ⟨?_, fun j hj => ?_⟩
      · show (q ++ [k]).Nodup
        rw [List.nodup_append]
        refine ⟨Q.nd, by simp, fun a ha b hb z => ?_⟩
        have : b = k := by simpa using hb
        rw [z, this] at ha
        exact hkq ha
      · rcases List.mem_append.mp hj with hj | hj
        · refine ⟨(Q.free j hj).1, ?_⟩
          rw [hwd]
          split
          · rfl
          · exact (Q.free j hj).2
        · have : j = k := by simpa using hj
          subst this
          refine ⟨hk, ?_⟩
          rw [hwd, if_pos e]
  · rw [hq]
    unfold passOn
    cases e : heirF (ranksOf hs) F.holders F.wanted t with
    | none => simp
    | some h =>
      have h1 := heir_waits c e
      have := dropP_len c.wf.hands h1
      show (dropP F.wanted h).length + (q ++ [h.toNat]).length = _
      rw [List.length_append, List.length_singleton]
      lia
theorem passAll_ok {hs : List Hd} {i : Nat} : ∀ (ts : List Int) {F : Fl} {q : List Nat} {G : Nat -> List Int}, OkX hs F (q.filter (fin hs F)) (some i) G -> second F.wanted (i : Int) = none -> ts.Nodup -> (∀ t ∈ ts, t ∈ G i) -> Que hs F q ->
    ∃ G', OkX hs (passAll hs ts (F, q)).1 ((passAll hs ts (F, q)).2.filter (fin hs (passAll hs ts (F, q)).1)) (some i) G' /\ G' i = ts.foldl (fun l t => l.erase t) (G i) /\ Que hs (passAll hs ts (F, q)).1 (passAll hs ts (F, q)).2 /\
      (passAll hs ts (F, q)).1.wanted.length + (passAll hs ts (F, q)).2.length = F.wanted.length + q.length /\ (¬ i ∈ q -> ¬ i ∈ (passAll hs ts (F, q)).2) /\ doneOf (passAll hs ts (F, q)).1 i = doneOf F i
  | [], F, q, G, o, hw, _, _, Q => ⟨G, o, rfl, Q, rfl, id, rfl⟩
  | t :: ts, F, q, G, o, hw, nd, hts, Q => by
    rw [List.nodup_cons] at nd
    have hi : t ∈ G i := hts t List.mem_cons_self
    have o1 := passOn_ok o hi hw
    obtain ⟨Q1, flt, ln⟩ := passOn_que (t := t) o.core Q
    have noti : (heirF (ranksOf hs) F.holders F.wanted t).map Int.toNat ≠ some i := fun z => by
      cases e : heirF (ranksOf hs) F.holders F.wanted t with
      | none => rw [e] at z; cases z
      | some h =>
        rw [e] at z
        have h1 := heir_waits o.core e
        obtain ⟨k, rfl, _⟩ := o.core.natW h1
        have : k = i := by simpa using z
        subst this
        rw [hw] at h1
        cases h1
    have hw1 : second (passOn hs F t).1.wanted (i : Int) = none := by
      rw [passOn_wanted]
      split
      · rfl
      · exact hw
    have gi : gaveG G i t (heirF (ranksOf hs) F.holders F.wanted t) i = (G i).erase t := by unfold gaveG; rw [if_pos rfl]
    rw [<- flt] at o1
    obtain ⟨G', h1, h2, h3, h4, h5, h6⟩ := passAll_ok ts o1 hw1 nd.2 (fun s hs' => by
      rw [gi, mem_erase_nd (o.core.gnd i)]
      exact ⟨hts s (List.mem_cons_of_mem _ hs'), fun z => nd.1 (by rw [<- z]; exact hs')⟩) Q1
    refine ⟨G', h1, by rw [h2, gi]; rfl, h3, h4.trans ln, fun hq => h5 fun z => ?_, h6.trans ?_⟩
    · rcases List.mem_append.mp z with z | z
      · exact hq z
      · rw [passOn_queue] at z
        cases e : (heirF (ranksOf hs) F.holders F.wanted t).map Int.toNat with
        | none => rw [e] at z; cases z
        | some k =>
          rw [e] at z
          have : i = k := by simpa using z
          exact noti (by rw [e, this])
    · rw [passOn_done i (heir_len o.core), if_neg noti]
theorem tools_mem {hs : List Hd} {F : Fl} {G : Nat -> List Int} (c : Core hs F G) {i : Nat} {t : Int} : t ∈ toolsOf F i ↔ t ∈ G i := by
  rw [<- c.holds]
  unfold toolsOf
  rw [List.mem_map]
  constructor
  · rintro ⟨p, hp, rfl⟩
    rw [List.mem_filter] at hp
    have e : p.2 = (i : Int) := by simpa using hp.2
    refine second_uniq c.wf.tools ?_
    rw [<- e]
    exact c.perm.mem_iff.mp hp.1
  · intro h
    exact ⟨(t, (i : Int)), List.mem_filter.mpr ⟨c.perm.mem_iff.mpr (second_mem h), by simp⟩, rfl⟩
theorem tools_nd {hs : List Hd} {F : Fl} {G : Nat -> List Int} (c : Core hs F G) {i : Nat} : (toolsOf F i).Nodup := by
  unfold toolsOf
  exact (List.filter_sublist.map _).nodup c.sorted.nd
theorem lt_nodup {l : List Nat} (h : l.Pairwise (· < ·)) : l.Nodup := by
  rw [List.nodup_iff_pairwise_ne]
  exact h.imp fun q => by lia
theorem give_start {hs : List Hd} {F : Fl} {i : Nat} {q : List Nat} {G : Nat -> List Int} (o : OkX hs F ((i :: q).filter (fin hs F)) none G) (Q : Que hs F (i :: q)) (hf : fin hs F i = true) :
    OkX hs { F with going := F.going.erase i } (q.filter (fin hs F)) (some i) G /\ i ∈ F.going := by
  have nd := Q.nd
  rw [List.nodup_cons] at nd
  obtain ⟨hn, hw⟩ := Q.free i List.mem_cons_self
  have hmem : ∀ j, j ∈ (i :: q).filter (fin hs F) ↔ j = i ∨ j ∈ q.filter (fin hs F) := fun j => by
    rw [List.filter_cons_of_pos hf, List.mem_cons]
  have hE : Ends (nextOf F.holders F.wanted) (i : Int) := .stop (by unfold nextOf; rw [hw]; rfl)
  refine ⟨⟨⟨o.core.len, o.core.wf, o.core.ir, o.core.sorted, o.core.perm, o.core.gnd, o.core.holds, o.core.few⟩, o.le, o.wants, fun j => ?_, o.sort.sublist List.erase_sublist, fun j h1 h2 h3 => ?_, fun j h1 h3 => ?_⟩, (o.going i).mpr ⟨hn, .inr ((hmem i).mpr (.inl rfl)), hE⟩⟩
  · show j ∈ F.going.erase i ↔ _
    rw [(lt_nodup o.sort).mem_erase_iff, o.going, hmem]
    constructor
    · rintro ⟨h0, h1, h2, h3⟩
      exact ⟨h1, h2.imp_right fun z => z.resolve_left h0, h3⟩
    · rintro ⟨h1, h2, h3⟩
      refine ⟨fun z => ?_, h1, h2.imp_right .inr, h3⟩
      subst z
      rcases h2 with h2 | h2
      · have h2 : fin hs F j = false := h2
        rw [hf] at h2
        cases h2
      · exact nd.1 (List.mem_filter.mp h2).1
  · exact o.own j h1 (h2.imp_right fun z => (hmem j).mpr (.inr z)) (by simp)
  · refine o.non j (fun z => h1 ⟨z.1, z.2.imp_right fun y => ?_⟩) (by simp)
    exact ((hmem j).mp y).resolve_left fun e => h3 (by rw [e])
theorem OkX.drop {hs : List Hd} {F : Fl} {P : List Nat} {i : Nat} {G : Nat -> List Int} (o : OkX hs F P (some i) G) (hf : fin hs F i = true) (hP : ¬ i ∈ P) (hG : G i = []) : OkX hs F P none G := by
  refine ⟨o.core, o.le, o.wants, o.going, o.sort, fun j h1 h2 _ => ?_, fun j h1 _ => ?_⟩
  · refine o.own j h1 h2 fun z => ?_
    have e : j = i := Option.some.inj z
    subst e
    rcases h2 with h2 | h2
    · rw [hf] at h2; cases h2
    · exact hP h2
  · by_cases e : j = i
    · rw [e]; exact hG
    · exact o.non j h1 fun z => e (Option.some.inj z)
noncomputable def Good (hs : List Hd) (F : Fl) : Prop := ∃ G, OkX hs F [] none G
theorem giveBack_ok {hs : List Hd} : ∀ (n : Nat) {q : List Nat} {F : Fl} {G : Nat -> List Int}, OkX hs F (q.filter (fin hs F)) none G -> Que hs F q -> F.wanted.length + q.length < n -> Good hs (giveBack hs n q F)
  | 0, q, F, G, o, Q, hn => by lia
  | n + 1, [], F, G, o, Q, hn => ⟨G, o⟩
  | n + 1, i :: q, F, G, o, Q, hn => by
    have nd := Q.nd
    rw [List.nodup_cons] at nd
    have Qt : Que hs F q := ⟨nd.2, fun j hj => Q.free j (List.mem_cons_of_mem _ hj)⟩
    unfold giveBack
    cases hf : fin hs F i with
    | false =>
      rw [if_neg (by simp)]
      rw [List.filter_cons_of_neg (by simp [hf])] at o
      exact giveBack_ok n o Qt (by simp only [List.length_cons] at hn; lia)
    | true =>
      rw [if_pos rfl]
      obtain ⟨o1, _⟩ := give_start o Q hf
      have e1 : toolsOf { F with going := F.going.erase i } i = toolsOf F i := rfl
      obtain ⟨G', h1, h2, h3, h4, h5, h6⟩ := passAll_ok (toolsOf F i) (F := { F with going := F.going.erase i }) o1 (Q.free i List.mem_cons_self).2 (tools_nd o.core) (fun t ht => (tools_mem o.core).mp ht) ⟨Qt.nd, Qt.free⟩
      have gi : G' i = [] := by
        rw [h2]
        exact fold_erase_nil (o.core.gnd i) fun x hx => (tools_mem o.core).mpr hx
      have hf' : fin hs (passAll hs (toolsOf F i) ({ F with going := F.going.erase i }, q)).1 i = true := by
        rw [fin_true, h6]
        exact fin_true.mp hf
      refine giveBack_ok n (h1.drop hf' (fun z => h5 nd.1 (List.mem_filter.mp z).1) gi) h3 ?_
      have h4 : _ = F.wanted.length + q.length := h4
      rw [h4]
      simp only [List.length_cons] at hn
      lia
theorem endStep_ok {hs : List Hd} {F : Fl} {i : Nat} {more : List Nat} {G : Nat -> List Int} (o : OkX hs F (more.filter (fin hs F)) (some i) G) (Q : Que hs F more) (hi : i < hs.length) (hw : second F.wanted (i : Int) = none) (hd : doneOf F i < (stepsOf hs i).length)
    (hm : ¬ i ∈ more) (hl : more.length <= 2) (hG : G i = has ((stepsOf hs i).take (doneOf F i + 1))) : OkX hs (bump F i) ((i :: more).filter (fin hs (bump F i))) none G /\ Que hs (bump F i) (i :: more) /\ Good hs (endStep hs F i more) := by
  have il : i < F.done.length := by rw [o.core.len]; exact hi
  have bd := fun j => bump_done (F := F) (i := i) (j := j) il
  have fj : ∀ j, j ≠ i -> fin hs (bump F i) j = fin hs F j := fun j hj => by
    have := bd j
    rw [if_neg hj] at this
    unfold fin
    unfold doneOf at this
    rw [this]
  have fi : fin hs F i = false := by rw [fin_false]; lia
  have flt : ∀ j, j ≠ i -> (j ∈ (i :: more).filter (fin hs (bump F i)) ↔ j ∈ more.filter (fin hs F)) := fun j hj => by
    rw [List.mem_filter, List.mem_filter, List.mem_cons, fj j hj]
    exact ⟨fun z => ⟨z.1.resolve_left hj, z.2⟩, fun z => ⟨.inr z.1, z.2⟩⟩
  have pi : fin hs (bump F i) i = false ∨ i ∈ (i :: more).filter (fin hs (bump F i)) := by
    cases z : fin hs (bump F i) i with
    | false => exact .inl rfl
    | true => exact .inr (List.mem_filter.mpr ⟨List.mem_cons_self, z⟩)
  have pend : ∀ j, (fin hs (bump F i) j = false ∨ j ∈ (i :: more).filter (fin hs (bump F i))) ↔ (fin hs F j = false ∨ j ∈ more.filter (fin hs F)) := fun j => by
    by_cases e : j = i
    · subst e
      exact ⟨fun _ => .inl fi, fun _ => pi⟩
    · rw [fj j e, flt j e]
  have o1 : OkX hs (bump F i) ((i :: more).filter (fin hs (bump F i))) none G := by
    refine ⟨⟨?_, o.core.wf, o.core.ir, o.core.sorted, o.core.perm, o.core.gnd, o.core.holds, o.core.few⟩, fun j => ?_, fun j t h => ?_, fun j => ?_, o.sort, fun j h1 h2 _ => ?_, fun j h1 _ => ?_⟩
    · show (F.done.set i _).length = _
      rw [List.length_set]
      exact o.core.len
    · rw [bd]
      split
      · rename_i e
        rw [e]
        lia
      · exact o.le j
    · rw [bd, if_neg]
      · exact o.wants j t h
      · intro e
        rw [e] at h
        have h : second F.wanted (i : Int) = some t := h
        rw [hw] at h
        cases h
    · show j ∈ F.going ↔ _
      rw [o.going, pend]
      exact Iff.rfl
    · by_cases e : j = i
      · subst e
        rw [bd, if_pos rfl]
        exact hG
      · rw [bd, if_neg e]
        exact o.own j h1 ((pend j).mp h2) fun z => e (Option.some.inj z)
    · by_cases e : j = i
      · subst e
        exact absurd ⟨hi, pi⟩ h1
      · exact o.non j (fun z => h1 ⟨z.1, (pend j).mpr z.2⟩) fun z => e (Option.some.inj z)
  have Q1 : Que hs (bump F i) (i :: more) := by
    refine ⟨List.nodup_cons.mpr ⟨hm, Q.nd⟩, fun j hj => ?_⟩
    rcases List.mem_cons.mp hj with rfl | hj
    · exact ⟨hi, hw⟩
    · exact Q.free j hj
  refine ⟨o1, Q1, ?_⟩
  unfold endStep
  refine giveBack_ok _ o1 Q1 ?_
  show F.wanted.length + (more.length + 1) < 2 * F.wanted.length + 4
  lia
theorem OkX.free {hs : List Hd} {F : Fl} {P : List Nat} {i : Nat} {G : Nat -> List Int} (o : OkX hs F P none G) : OkX hs F P (some i) G :=
  ⟨o.core, o.le, o.wants, o.going, o.sort, fun j h1 h2 _ => o.own j h1 h2 (by simp), fun j h1 _ => o.non j h1 (by simp)⟩
theorem hold_next {hs : List Hd} {F : Fl} {G : Nat -> List Int} (c : Core hs F G) {h t : Int} (hn : second F.holders t = none) (x : Int) : nextOf (hold F h t).holders (hold F h t).wanted x = nextOf F.holders F.wanted x := by
  show (second F.wanted x).bind (second (F.holders ++ [(t, h)])) = (second F.wanted x).bind (second F.holders)
  cases e : second F.wanted x with
  | none => rfl
  | some s =>
    show second (F.holders ++ [(t, h)]) s = second F.holders s
    rw [second_snoc _ _ _ _ hn, if_neg]
    intro z
    obtain ⟨m, hm⟩ := c.wf.there _ (second_mem e)
    have hm : second F.holders s = some m := hm
    rw [z, hn] at hm
    cases hm
noncomputable def gotG (G : Nat -> List Int) (i : Nat) (t : Int) : Nat -> List Int := fun j => if j = i then G i ++ [t] else G j
theorem hold_ok {hs : List Hd} {F : Fl} {P : List Nat} {G : Nat -> List Int} {i : Nat} {t : Int} (o : OkX hs F P (some i) G) (hi : i < hs.length) (hn : second F.holders t = none) (ht : t ∈ toolsAll hs) : OkX hs (hold F i t) P (some i) (gotG G i t) := by
  have hn2 : second F.held t = none := (o.core.sec t).trans hn
  have tG : ∀ j, ¬ t ∈ G j := fun j z => by rw [(o.core.holds t j).mpr z] at hn; cases hn
  have nx : nextOf (hold F i t).holders (hold F i t).wanted = nextOf F.holders F.wanted := funext fun x => hold_next o.core hn x
  refine ⟨⟨o.core.len, ⟨snoc_nd o.core.wf.tools hn, o.core.wf.hands, fun p hp => ?_⟩, ⟨fun p hp => ?_, o.core.ir.waits⟩, insH_sorted o.core.sorted hn2, ?_, fun j => ?_, fun s j => ?_, fun p hp => ?_⟩, o.le, o.wants, fun j => ?_, o.sort, fun j h1 h2 h3 => ?_, fun j h1 h3 => ?_⟩
  · obtain ⟨m, hm⟩ := o.core.wf.there p hp
    refine ⟨m, ?_⟩
    show second (F.holders ++ [(t, (i : Int))]) p.2 = some m
    rw [second_snoc _ _ _ _ hn, if_neg]
    · exact hm
    · intro z
      rw [z, hn] at hm
      cases hm
  · rcases List.mem_append.mp hp with hp | hp
    · exact o.core.ir.held p hp
    · have : p = (t, (i : Int)) := by simpa using hp
      subst this
      exact ⟨by show (0 : Int) <= (i : Int); lia, by show (i : Int) < _; lia⟩
  · refine (insH_perm _ _ _).trans ((List.Perm.cons _ o.core.perm).trans ?_)
    exact (List.perm_append_comm (l₁ := [(t, (i : Int))]))
  · unfold gotG
    split
    · rw [List.nodup_append]
      refine ⟨o.core.gnd i, by simp, fun a ha b hb q => ?_⟩
      have : b = t := by simpa using hb
      rw [q, this] at ha
      exact tG i ha
    · exact o.core.gnd j
  · show second (F.holders ++ [(t, (i : Int))]) s = _ ↔ _
    rw [second_snoc _ _ _ _ hn]
    unfold gotG
    by_cases q : s = t
    · rw [if_pos q]
      by_cases e : j = i
      · subst e
        rw [if_pos rfl]
        exact ⟨fun _ => by rw [q]; simp, fun _ => rfl⟩
      · rw [if_neg e]
        refine ⟨fun z => ?_, fun z => ?_⟩
        · have : (i : Int) = (j : Int) := Option.some.inj z
          lia
        · rw [q] at z
          exact absurd z (tG j)
    · rw [if_neg q, o.core.holds]
      by_cases e : j = i
      · subst e
        rw [if_pos rfl, List.mem_append]
        exact ⟨.inl, fun z => z.elim id fun z => absurd (by simpa using z) q⟩
      · rw [if_neg e]
  · rcases List.mem_append.mp hp with hp | hp
    · exact o.core.few p hp
    · have : p = (t, (i : Int)) := by simpa using hp
      subst this
      exact ht
  · rw [nx]
    exact o.going j
  · unfold gotG
    rw [if_neg (fun e => h3 (by rw [e]))]
    exact o.own j h1 h2 h3
  · unfold gotG
    rw [if_neg (fun e => h3 (by rw [e]))]
    exact o.non j h1 h3
theorem wait_next {F : Fl} {i : Nat} {t : Int} (hw : second F.wanted (i : Int) = none) (x : Int) : nextOf F.holders (F.wanted ++ [((i : Int), t)]) x = if x = (i : Int) then second F.holders t else nextOf F.holders F.wanted x := by
  unfold nextOf
  rw [second_snoc _ _ _ _ hw]
  by_cases e : x = (i : Int)
  · rw [if_pos e, if_pos e]
    rfl
  · rw [if_neg e, if_neg e]
theorem wait_ok {hs : List Hd} {F : Fl} {G : Nat -> List Int} {i : Nat} {t : Int} (o : OkX hs F [] none G) (hi : i < hs.length) (hw : second F.wanted (i : Int) = none) (hst : (stepsOf hs i)[doneOf F i]? = some (.take t)) (hh : (second F.holders t).isSome = true) : OkX hs (wait F i t) [] none G := by
  have c1 : Core hs { F with wanted := F.wanted ++ [((i : Int), t)] } G := by
    refine ⟨o.core.len, ⟨o.core.wf.tools, snoc_nd o.core.wf.hands hw, fun p hp => ?_⟩, ⟨o.core.ir.held, fun p hp => ?_⟩, o.core.sorted, o.core.perm, o.core.gnd, o.core.holds, o.core.few⟩
    · rcases List.mem_append.mp hp with hp | hp
      · exact o.core.wf.there p hp
      · have : p = ((i : Int), t) := by simpa using hp
        subst this
        exact Option.isSome_iff_exists.mp hh
    · rcases List.mem_append.mp hp with hp | hp
      · exact o.core.ir.waits p hp
      · have : p = ((i : Int), t) := by simpa using hp
        subst this
        exact ⟨by show (0 : Int) <= (i : Int); lia, by show (i : Int) < _; lia⟩
  have nx := fun x => wait_next (F := F) (t := t) hw x
  have nxi : nextOf F.holders F.wanted (i : Int) = none := by unfold nextOf; rw [hw]; rfl
  have back : ∀ x, Ends (nextOf F.holders (F.wanted ++ [((i : Int), t)])) x -> Ends (nextOf F.holders F.wanted) x := by
    intro x e
    induction e with
    | @stop y q =>
      rw [nx] at q
      by_cases e : y = (i : Int)
      · rw [e]; exact .stop nxi
      · rw [if_neg e] at q
        exact .stop q
    | @step y z q _ ih =>
      rw [nx] at q
      by_cases e : y = (i : Int)
      · rw [e]; exact .stop nxi
      · rw [if_neg e] at q
        exact .step q ih
  have wants1 : ∀ (j : Nat) (s : Int), second (F.wanted ++ [((i : Int), t)]) (j : Int) = some s -> (stepsOf hs j)[doneOf F j]? = some (.take s) := fun j s h => by
    rw [second_snoc _ _ _ _ hw] at h
    by_cases e : (j : Int) = (i : Int)
    · rw [if_pos e] at h
      have : j = i := by lia
      subst this
      cases h
      exact hst
    · rw [if_neg e] at h
      exact o.wants j s h
  have hg : ∀ j, hangs { F with wanted := F.wanted ++ [((i : Int), t)] } j = false ↔ Ends (nextOf F.holders (F.wanted ++ [((i : Int), t)])) (j : Int) := fun j => hangs_iff (F := { F with wanted := F.wanted ++ [((i : Int), t)] }) c1.wf
  unfold wait
  cases hz : hangs { F with wanted := F.wanted ++ [((i : Int), t)] } i with
  | true =>
    simp only [hz, if_true]
    refine ⟨⟨c1.len, c1.wf, c1.ir, c1.sorted, c1.perm, c1.gnd, c1.holds, c1.few⟩, o.le, wants1, fun j => ?_, o.sort.sublist List.filter_sublist, o.own, o.non⟩
    show j ∈ F.going.filter _ ↔ _
    rw [List.mem_filter, o.going]
    constructor
    · rintro ⟨⟨h1, h2, h3⟩, h4⟩
      exact ⟨h1, h2, (hg j).mp (by simpa using h4)⟩
    · rintro ⟨h1, h2, h3⟩
      exact ⟨⟨h1, h2, back _ h3⟩, by simpa using (hg j).mpr h3⟩
  | false =>
    simp only [hz, Bool.false_eq_true, if_false]
    refine ⟨c1, o.le, wants1, fun j => ?_, o.sort, o.own, o.non⟩
    show j ∈ F.going ↔ _
    rw [o.going]
    have ei := (hg i).mp hz
    have forth : ∀ x, Ends (nextOf F.holders F.wanted) x -> Ends (nextOf F.holders (F.wanted ++ [((i : Int), t)])) x := by
      intro x e
      induction e with
      | @stop y q =>
        by_cases e : y = (i : Int)
        · rw [e]; exact ei
        · exact .stop (by rw [nx, if_neg e]; exact q)
      | @step y z q _ ih =>
        by_cases e : y = (i : Int)
        · rw [e]; exact ei
        · exact .step (by rw [nx, if_neg e]; exact q) ih
    exact and_congr Iff.rfl (and_congr Iff.rfl ⟨forth _, back _⟩)
structure PassI (hs : List Hd) (J : Fl -> Prop) : Prop where
  pass : ∀ {F : Fl} {P : List Nat} {i : Nat} {G : Nat -> List Int} {t : Int}, OkX hs F P (some i) G -> t ∈ G i -> second F.wanted (i : Int) = none -> J F -> J (passOn hs F t).1
  go : ∀ {F : Fl} {l : List Nat}, J F -> J { F with going := l }
theorem passAll_I {hs : List Hd} {J : Fl -> Prop} (I : PassI hs J) {i : Nat} : ∀ (ts : List Int) {F : Fl} {q : List Nat} {G : Nat -> List Int}, OkX hs F (q.filter (fin hs F)) (some i) G -> second F.wanted (i : Int) = none -> ts.Nodup -> (∀ t ∈ ts, t ∈ G i) -> Que hs F q ->
    J F -> J (passAll hs ts (F, q)).1
  | [], F, q, G, o, hw, _, _, Q, j => j
  | t :: ts, F, q, G, o, hw, nd, hts, Q, j => by
    rw [List.nodup_cons] at nd
    have o1 := passOn_ok o (hts t List.mem_cons_self) hw
    obtain ⟨Q1, flt, _⟩ := passOn_que (t := t) o.core Q
    have hw1 : second (passOn hs F t).1.wanted (i : Int) = none := by
      rw [passOn_wanted]
      split
      · rfl
      · exact hw
    have gi : gaveG G i t (heirF (ranksOf hs) F.holders F.wanted t) i = (G i).erase t := by unfold gaveG; rw [if_pos rfl]
    rw [<- flt] at o1
    refine passAll_I I ts o1 hw1 nd.2 (fun s hs' => ?_) Q1 (I.pass o (hts t List.mem_cons_self) hw j)
    rw [gi, mem_erase_nd (o.core.gnd i)]
    exact ⟨hts s (List.mem_cons_of_mem _ hs'), fun z => nd.1 (by rw [<- z]; exact hs')⟩
theorem giveBack_I {hs : List Hd} {J : Fl -> Prop} (I : PassI hs J) : ∀ (n : Nat) {q : List Nat} {F : Fl} {G : Nat -> List Int}, OkX hs F (q.filter (fin hs F)) none G -> Que hs F q -> J F -> J (giveBack hs n q F)
  | 0, q, F, G, o, Q, j => j
  | n + 1, [], F, G, o, Q, j => j
  | n + 1, i :: q, F, G, o, Q, j => by
    have nd := Q.nd
    rw [List.nodup_cons] at nd
    have Qt : Que hs F q := ⟨nd.2, fun j hj => Q.free j (List.mem_cons_of_mem _ hj)⟩
    unfold giveBack
    cases hf : fin hs F i with
    | false =>
      rw [if_neg (by simp)]
      rw [List.filter_cons_of_neg (by simp [hf])] at o
      exact giveBack_I I n o Qt j
    | true =>
      rw [if_pos rfl]
      obtain ⟨o1, _⟩ := give_start o Q hf
      obtain ⟨G', h1, h2, h3, h4, h5, h6⟩ := passAll_ok (toolsOf F i) (F := { F with going := F.going.erase i }) o1 (Q.free i List.mem_cons_self).2 (tools_nd o.core) (fun t ht => (tools_mem o.core).mp ht) ⟨Qt.nd, Qt.free⟩
      have gi : G' i = [] := by
        rw [h2]
        exact fold_erase_nil (o.core.gnd i) fun x hx => (tools_mem o.core).mpr hx
      have hf' : fin hs (passAll hs (toolsOf F i) ({ F with going := F.going.erase i }, q)).1 i = true := by
        rw [fin_true, h6]
        exact fin_true.mp hf
      refine giveBack_I I n (h1.drop hf' (fun z => h5 nd.1 (List.mem_filter.mp z).1) gi) h3 ?_
      exact passAll_I I (F := { F with going := F.going.erase i }) (toolsOf F i) o1 (Q.free i List.mem_cons_self).2 (tools_nd o.core) (fun t ht => (tools_mem o.core).mp ht) ⟨Qt.nd, Qt.free⟩ (I.go j)
noncomputable def wordOf : Stp -> Word
  | .work => .worked
  | .take _ => .took
  | .give _ => .gave
inductive Served (hs : List Hd) (F : Fl) (i : Nat) : Prop where
  | waits (t : Int) (h1 : (stepsOf hs i)[doneOf F i]? = some (.take t)) (h2 : (second F.holders t).isSome = true) (h3 : serve hs F i = (wait F i t, .waits)) : Served hs F i
  | does (s : Stp) (F1 : Fl) (more : List Nat) (G1 : Nat -> List Int) (h1 : (stepsOf hs i)[doneOf F i]? = some s) (h2 : serve hs F i = (endStep hs F1 i more, wordOf s)) (h3 : doneOf F1 i = doneOf F i) (h4 : second F1.wanted (i : Int) = none) (h0 : i < F1.done.length)
      (h5 : OkX hs (bump F1 i) ((i :: more).filter (fin hs (bump F1 i))) none G1) (h6 : Que hs (bump F1 i) (i :: more))
      (h8 : more.length <= 2) (h7 : F1 = F ∨ (∃ t, s = .take t /\ second F.holders t = none /\ F1 = hold F i t) ∨ ∃ t G, s = .give t /\ F1 = (passOn hs F t).1 /\ OkX hs F [] (some i) G /\ t ∈ G i) : Served hs F i
theorem serve_cases {hs : List Hd} {F : Fl} {i : Nat} (g : Good hs F) (hi : i < hs.length) (hf : fin hs F i = false) (hw : second F.wanted (i : Int) = none) : Served hs F i := by
  obtain ⟨G, o⟩ := g
  have hd : doneOf F i < (stepsOf hs i).length := by
    rw [fin_false] at hf
    have := o.le i
    lia
  have ow := o.own i hi (.inl hf) (by simp)
  have Q0 : Que hs F [] := ⟨List.nodup_nil, fun j hj => by cases hj⟩
  have il : i < F.done.length := by rw [o.core.len]; exact hi
  have bl : ∀ (s : Stp) (F1 : Fl) (more : List Nat) (G1 : Nat -> List Int), (stepsOf hs i)[doneOf F i]? = some s -> serve hs F i = (endStep hs F1 i more, wordOf s) -> OkX hs F1 (more.filter (fin hs F1)) (some i) G1 -> Que hs F1 more -> second F1.wanted (i : Int) = none -> doneOf F1 i = doneOf F i -> ¬ i ∈ more -> more.length <= 2 -> G1 i = has ((stepsOf hs i).take (doneOf F1 i + 1)) ->
      (F1 = F ∨ (∃ t, s = .take t /\ second F.holders t = none /\ F1 = hold F i t) ∨ ∃ t G, s = .give t /\ F1 = (passOn hs F t).1 /\ OkX hs F [] (some i) G /\ t ∈ G i) -> Served hs F i := by
    intro s F1 more G1 e1 e2 o1 Q1 hw1 hd1 hm hl hG h7
    obtain ⟨o2, Q2, _⟩ := endStep_ok o1 Q1 hi hw1 (by rw [hd1]; exact hd) hm hl hG
    exact .does s F1 more G1 e1 e2 hd1 hw1 (by rw [o1.core.len]; exact hi) o2 Q2 hl h7
  have su : serve hs F i = (match (stepsOf hs i)[doneOf F i]? with
    | some (.take t) => if (second F.holders t).isSome then (wait F i t, Word.waits) else (endStep hs (hold F i t) i [], .took)
    | some (.give t) => if second F.holders t = some (i : Int) then let r := passOn hs F t; (endStep hs r.1 i r.2, .gave) else (endStep hs F i [], .gave)
    | _ => (endStep hs F i [], .worked)) := rfl
  cases e : (stepsOf hs i)[doneOf F i]? with
  | none =>
    rw [List.getElem?_eq_getElem hd] at e
    cases e
  | some s =>
    have hsu := has_succ e
    rw [e] at su
    cases s with
    | work => exact bl .work F [] G e su o.free Q0 hw rfl (by simp) (by simp) (by rw [hsu, ow]; rfl) (.inl rfl)
    | take t =>
      cases hz : (second F.holders t).isSome with
      | true =>
        simp only [hz, if_true] at su
        exact .waits t e hz su
      | false =>
        simp only [hz, Bool.false_eq_true, if_false] at su
        have hn : second F.holders t = none := by
          cases q : second F.holders t with
          | none => rfl
          | some m => rw [q] at hz; cases hz
        refine bl (.take t) (hold F i t) [] (gotG G i t) e su (hold_ok (P := []) o.free hi hn (tools_all e)) ⟨List.nodup_nil, fun j hj => by cases hj⟩ hw rfl (by simp) (by simp) ?_ (.inr (.inl ⟨t, rfl, hn, rfl⟩))
        show gotG G i t i = has ((stepsOf hs i).take (doneOf F i + 1))
        rw [hsu]
        unfold gotG
        rw [if_pos rfl, ow]
        rfl
    | give t =>
      by_cases hz : second F.holders t = some (i : Int)
      · simp only [hz, if_true] at su
        have hG : t ∈ G i := (o.core.holds t i).mp hz
        have o1 := passOn_ok (i := i) o.free hG hw
        obtain ⟨Q1, flt, _⟩ := passOn_que (t := t) o.core Q0
        have noti : (heirF (ranksOf hs) F.holders F.wanted t).map Int.toNat ≠ some i := fun z => by
          cases e : heirF (ranksOf hs) F.holders F.wanted t with
          | none => rw [e] at z; cases z
          | some h =>
            rw [e] at z
            have h1 := heir_waits o.core e
            obtain ⟨k, rfl, _⟩ := o.core.natW h1
            have : k = i := by simpa using z
            subst this
            rw [hw] at h1
            cases h1
        have hd1 : doneOf (passOn hs F t).1 i = doneOf F i := by rw [passOn_done i (heir_len o.core), if_neg noti]
        have hq : (passOn hs F t).2 = ((heirF (ranksOf hs) F.holders F.wanted t).map Int.toNat).toList := passOn_queue
        refine bl (.give t) (passOn hs F t).1 (passOn hs F t).2 (gaveG G i t (heirF (ranksOf hs) F.holders F.wanted t)) e su (by simpa using o1) ⟨by simpa using Q1.nd, fun j hj => Q1.free j (by simpa using hj)⟩ ?_ hd1 ?_ ?_ ?_ (.inr (.inr ⟨t, G, rfl, rfl, o.free, hG⟩))
        · rw [passOn_wanted]
          split
          · rfl
          · exact hw
        · rw [hq]
          intro z
          cases e : (heirF (ranksOf hs) F.holders F.wanted t).map Int.toNat with
          | none => rw [e] at z; cases z
          | some k =>
            rw [e] at z
            have : i = k := by simpa using z
            exact noti (by rw [e, this])
        · rw [hq]
          cases (heirF (ranksOf hs) F.holders F.wanted t).map Int.toNat <;> simp
        · rw [hd1, hsu]
          unfold gaveG
          rw [if_pos rfl, ow]
          rfl
      · simp only [hz, if_false] at su
        refine bl (.give t) F [] G e su o.free Q0 hw rfl (by simp) (by simp) ?_ (.inl rfl)
        rw [hsu, ow]
        show _ = (has ((stepsOf hs i).take (doneOf F i))).erase t
        rw [List.erase_of_not_mem]
        intro z
        rw [<- ow] at z
        exact hz ((o.core.holds t i).mpr z)
theorem serve_ok {hs : List Hd} {F : Fl} {i : Nat} (g : Good hs F) (hi : i < hs.length) (hf : fin hs F i = false) (hw : second F.wanted (i : Int) = none) : Good hs (serve hs F i).1 := by
  obtain ⟨G, o⟩ := id g
  cases serve_cases g hi hf hw with
  | waits t h1 h2 h3 =>
    rw [h3]
    exact ⟨G, wait_ok o hi hw h1 h2⟩
  | does s F1 more G1 h1 h2 h3 h4 h0 h5 h6 h8 h7 =>
    rw [h2]
    refine giveBack_ok (fuel F1) h5 h6 ?_
    show F1.wanted.length + (more.length + 1) < 2 * F1.wanted.length + 4
    lia
theorem zeros (hs : List Hd) (i : Nat) : (hs.map fun _ => (0 : Nat)).getD i 0 = 0 := by
  rw [List.getD_eq_getElem?_getD, List.getElem?_map]
  cases hs[i]? <;> rfl
theorem dayS_ok (hs : List Hd) : Good hs (dayS hs) := by
  have hd : ∀ i, doneOf (dayS hs) i = 0 := fun i => zeros hs i
  refine ⟨fun _ => [], ⟨⟨by simp [dayS], ⟨List.nodup_nil, List.nodup_nil, fun p hp => (by cases hp)⟩, ⟨fun p hp => (by cases hp), fun p hp => (by cases hp)⟩, List.Pairwise.nil, List.Perm.refl _, fun _ => List.nodup_nil, fun t i => ?_, fun p hp => (by cases hp)⟩, fun i => (by rw [hd]; lia), fun i t h => (by cases h), fun i => ?_, ?_, fun j _ _ _ => ?_, fun j _ _ => rfl⟩⟩
  · exact ⟨fun z => (by cases z), fun z => (by cases z)⟩
  · show i ∈ (List.range hs.length).filter _ ↔ _
    rw [List.mem_filter, List.mem_range, fin_false, hd]
    constructor
    · rintro ⟨h1, h2⟩
      have h2 : stepsOf hs i ≠ [] := by simpa using h2
      exact ⟨h1, .inl fun z => h2 (List.length_eq_zero_iff.mp z.symm), .stop rfl⟩
    · rintro ⟨h1, h2, _⟩
      refine ⟨h1, ?_⟩
      rcases h2 with h2 | h2
      · have : stepsOf hs i ≠ [] := fun z => h2 (by rw [z]; rfl)
        simpa using this
      · cases h2
  · show ((List.range hs.length).filter _).Pairwise _
    exact List.Pairwise.sublist List.filter_sublist List.pairwise_lt_range
  · rw [hd, List.take_zero]
    rfl
theorem row_head {held waits : List (Int × Int)} {h : Int} {L : List Int} (r : RowOk held waits h L) (e : L.getLastD 0 ≠ h) : ∃ x, nextOf held waits x = some (L.getLastD 0) := by
  have hl := r.up.last?
  have hpos : 0 < L.length := List.length_pos_iff.mpr r.ne
  rw [List.getLast?_eq_getElem?] at hl
  by_cases h1 : L.length = 1
  · rw [h1] at hl
    have := r.head
    rw [hl] at this
    exact absurd (Option.some.inj this) e
  · refine ⟨L[L.length - 2], r.step (L.length - 2) _ _ (List.getElem?_eq_getElem (by lia)) ?_⟩
    rw [show L.length - 2 + 1 = L.length - 1 by lia]
    exact hl
theorem Good.holder {hs : List Hd} {F : Fl} (g : Good hs F) {t : Int} {i : Nat} (h : second F.holders t = some (i : Int)) : i < hs.length /\ fin hs F i = false := by
  obtain ⟨G, o⟩ := g
  have hG := (o.core.holds t i).mp h
  by_cases z : i < hs.length /\ (fin hs F i = false ∨ i ∈ ([] : List Nat))
  · exact ⟨z.1, z.2.resolve_right (by simp)⟩
  · rw [o.non i z (by simp)] at hG
    cases hG
theorem nextOf_ex {held waits : List (Int × Int)} {x y : Int} (h : nextOf held waits x = some y) : ∃ t, second waits x = some t /\ second held t = some y := by
  unfold nextOf at h
  cases q : second waits x with
  | none => rw [q] at h; cases h
  | some t => rw [q] at h; exact ⟨t, rfl, h⟩
theorem chain_last {hs : List Hd} {F : Fl} (g : Good hs F) {x : Int} (h : (chain hs F).getLast? = some x) : ∃ i : Nat, x = (i : Int) /\ i < hs.length /\ fin hs F i = false /\ second F.wanted (i : Int) = none := by
  obtain ⟨G, o⟩ := id g
  unfold chain at h
  cases e : fm (ranksOf hs) (here hs F) with
  | none => rw [e] at h; cases h
  | some f =>
    rw [e] at h
    have h : (rowFrom F.holders F.wanted (f : Int)).getLast? = some x := h
    have r := rowFrom_ok o.core.wf (f : Int)
    have hf : f ∈ F.going := (List.mem_filter.mp (fm_mem e)).1
    obtain ⟨h1, h2, h3⟩ := (o.going f).mp hf
    have hl := ends_last o.core.wf h3
    have ex : rowEnd F.holders F.wanted (f : Int) = x := getLastD_eq h
    rw [ex] at hl
    by_cases q : x = (f : Int)
    · exact ⟨f, q, h1, h2.resolve_right (by simp), by rw [<- q]; exact hl⟩
    · obtain ⟨y, hy⟩ := row_head r (by show rowEnd F.holders F.wanted (f : Int) ≠ _; rw [ex]; exact q)
      have hy : nextOf F.holders F.wanted y = some (rowEnd F.holders F.wanted (f : Int)) := hy
      rw [ex] at hy
      obtain ⟨t, _, ht⟩ := nextOf_ex hy
      obtain ⟨i, hi, hn⟩ := o.core.nat ht
      subst hi
      obtain ⟨g1, g2⟩ := g.holder ht
      exact ⟨i, rfl, g1, g2, hl⟩
theorem tick_good {hs : List Hd} {F : Fl} (g : Good hs F) (k : Nat) : Good hs { F with tick := k } := by
  obtain ⟨G, o⟩ := g
  exact ⟨G, ⟨o.core.len, o.core.wf, o.core.ir, o.core.sorted, o.core.perm, o.core.gnd, o.core.holds, o.core.few⟩, o.le, o.wants, o.going, o.sort, o.own, o.non⟩
theorem dayN_ok {hs : List Hd} {F : Fl} (g : Good hs F) : Good hs (dayN hs F) := by
  unfold dayN
  cases e : (chain hs F).getLast? with
  | none => exact tick_good g _
  | some x =>
    obtain ⟨i, rfl, h1, h2, h3⟩ := chain_last g e
    show Good hs (serve hs { F with tick := F.tick + 1 } ((i : Int).toNat)).1
    rw [Int.toNat_natCast]
    exact serve_ok (tick_good g _) h1 h2 h3
noncomputable def left (hs : List Hd) (F : Fl) (i : Nat) : Nat := 2 * ((stepsOf hs i).length - doneOf F i) - (if (second F.wanted (i : Int)).isSome then 1 else 0)
noncomputable def leftAll (hs : List Hd) (F : Fl) : Nat := ((List.range hs.length).map (left hs F)).sum
theorem sum_le {l : List Nat} {f g : Nat -> Nat} (h : ∀ i ∈ l, f i <= g i) : (l.map f).sum <= (l.map g).sum := by
  induction l with
  | nil => simp
  | cons a r ih =>
    simp only [List.map_cons, List.sum_cons]
    have := h a List.mem_cons_self
    have := ih fun i hi => h i (List.mem_cons_of_mem _ hi)
    lia
theorem sum_lt {l : List Nat} {f g : Nat -> Nat} (h : ∀ i ∈ l, f i <= g i) {k : Nat} (hk : k ∈ l) (hl : f k < g k) : (l.map f).sum < (l.map g).sum := by
  induction l with
  | nil => cases hk
  | cons a r ih =>
    simp only [List.map_cons, List.sum_cons]
    have ha := h a List.mem_cons_self
    rcases List.mem_cons.mp hk with rfl | hk
    · have := sum_le fun i hi => h i (List.mem_cons_of_mem _ hi)
      lia
    · have := ih (fun i hi => h i (List.mem_cons_of_mem _ hi)) hk
      lia
noncomputable def Same1 (F F' : Fl) (j : Nat) : Prop := (second F'.wanted (j : Int) = second F.wanted (j : Int) /\ doneOf F' j = doneOf F j) ∨ ((second F.wanted (j : Int)).isSome = true /\ second F'.wanted (j : Int) = none /\ doneOf F' j = doneOf F j + 1)
theorem pass_same1 (hs : List Hd) (F0 : Fl) : PassI hs fun F => ∀ j, Same1 F0 F j where
  go h := h
  pass := by
    intro F P i G t o _ _ h j
    have hj := h j
    unfold Same1 at hj ⊢
    rw [passOn_done j (heir_len o.core), passOn_wanted]
    by_cases e : heirF (ranksOf hs) F.holders F.wanted t = some (j : Int)
    · have hw := heir_waits o.core e
      rw [if_pos e, if_pos (by rw [e]; simp)]
      rcases hj with ⟨h1, h2⟩ | ⟨_, h2, _⟩
      · exact .inr ⟨by rw [<- h1, hw]; rfl, rfl, by rw [h2]⟩
      · rw [hw] at h2; cases h2
    · rw [if_neg e, if_neg]
      · exact hj
      · intro z
        cases q : heirF (ranksOf hs) F.holders F.wanted t with
        | none => rw [q] at z; cases z
        | some h =>
          rw [q] at z
          obtain ⟨k, rfl, _⟩ := o.core.natW (heir_waits o.core q)
          have : k = j := by simpa using z
          subst this
          exact e q
structure Ticked (hs : List Hd) (F F' : Fl) (i : Nat) (wd : Word) : Prop where
  others : ∀ j, j ≠ i -> Same1 F F' j
  own : (∃ t, (stepsOf hs i)[doneOf F i]? = some (.take t) /\ second F'.wanted (i : Int) = some t /\ doneOf F' i = doneOf F i /\ wd = .waits) ∨
    (∃ s, (stepsOf hs i)[doneOf F i]? = some s /\ second F'.wanted (i : Int) = none /\ doneOf F' i = doneOf F i + 1 /\ wd = wordOf s)
theorem wait_wanted {F : Fl} {i : Nat} {t : Int} : (wait F i t).wanted = F.wanted ++ [((i : Int), t)] /\ (wait F i t).done = F.done /\ (wait F i t).holders = F.holders /\ (wait F i t).held = F.held := by
  unfold wait
  cases hz : hangs { F with wanted := F.wanted ++ [((i : Int), t)] } i with
  | true => simp [hz]
  | false => simp [hz]
theorem serve_ticked {hs : List Hd} {F : Fl} {i : Nat} (g : Good hs F) (hi : i < hs.length) (hf : fin hs F i = false) (hw : second F.wanted (i : Int) = none) : Ticked hs F (serve hs F i).1 i (serve hs F i).2 := by
  cases serve_cases g hi hf hw with
  | waits t h1 h2 h3 =>
    rw [h3]
    obtain ⟨w1, w2, _⟩ := wait_wanted (F := F) (i := i) (t := t)
    refine ⟨fun j hj => .inl ?_, .inl ⟨t, h1, ?_, ?_, rfl⟩⟩
    · refine ⟨?_, ?_⟩
      · show second (wait F i t).wanted _ = _
        rw [w1, second_snoc _ _ _ _ hw, if_neg (by lia)]
      · show (wait F i t).done.getD j 0 = _
        rw [w2]
        rfl
    · show second (wait F i t).wanted _ = _
      rw [w1, second_snoc _ _ _ _ hw, if_pos rfl]
    · show (wait F i t).done.getD i 0 = _
      rw [w2]
      rfl
  | does s F1 more G1 h1 h2 h3 h4 h0 h5 h6 h8 h7 =>
    rw [h2]
    have s1 : ∀ j, j ≠ i -> Same1 F F1 j := fun j hj => by
      rcases h7 with rfl | ⟨t, _, _, rfl⟩ | ⟨t, G, _, rfl, o, ht⟩
      · exact .inl ⟨rfl, rfl⟩
      · exact .inl ⟨rfl, rfl⟩
      · exact (pass_same1 hs F).pass o ht hw (fun j => .inl ⟨rfl, rfl⟩) j
    have s2 := giveBack_I (pass_same1 hs (bump F1 i)) (fuel F1) h5 h6 fun j => .inl ⟨rfl, rfl⟩
    have bd := fun j => bump_done (F := F1) (i := i) (j := j) h0
    refine ⟨fun j hj => ?_, .inr ⟨s, h1, ?_, ?_, rfl⟩⟩
    · have a := s1 j hj
      have b := s2 j
      unfold Same1 at a b ⊢
      rw [bd j, if_neg hj] at b
      rcases b with ⟨b1, b2⟩ | ⟨b1, b2, b3⟩
      · have b1 : second (endStep hs F1 i more).wanted (j : Int) = second F1.wanted (j : Int) := b1
        have b2 : doneOf (endStep hs F1 i more) j = doneOf F1 j := b2
        show (second (endStep hs F1 i more).wanted (j : Int) = _ /\ doneOf (endStep hs F1 i more) j = _) ∨ (_ /\ second (endStep hs F1 i more).wanted (j : Int) = _ /\ doneOf (endStep hs F1 i more) j = _)
        rw [b1, b2]
        exact a
      · have b1 : (second F1.wanted (j : Int)).isSome = true := b1
        rcases a with ⟨a1, a2⟩ | ⟨_, a2, _⟩
        · exact .inr ⟨by rw [<- a1]; exact b1, b2, by rw [<- a2]; exact b3⟩
        · rw [a2] at b1; cases b1
    · rcases s2 i with ⟨b1, _⟩ | ⟨b1, _⟩
      · exact b1.trans h4
      · have b1 : (second F1.wanted (i : Int)).isSome = true := b1
        rw [h4] at b1; cases b1
    · rcases s2 i with ⟨_, b2⟩ | ⟨b1, _⟩
      · rw [bd i, if_pos rfl, h3] at b2
        exact b2
      · have b1 : (second F1.wanted (i : Int)).isSome = true := b1
        rw [h4] at b1; cases b1
theorem serve_left {hs : List Hd} {F : Fl} {i : Nat} (g : Good hs F) (hi : i < hs.length) (hf : fin hs F i = false) (hw : second F.wanted (i : Int) = none) : (∀ j, left hs (serve hs F i).1 j <= left hs F j) /\ left hs (serve hs F i).1 i < left hs F i := by
  obtain ⟨G, o⟩ := id g
  have tk := serve_ticked g hi hf hw
  have hd : doneOf F i < (stepsOf hs i).length := by
    rw [fin_false] at hf
    have := o.le i
    lia
  have own : left hs (serve hs F i).1 i < left hs F i := by
    unfold left
    rw [hw]
    rcases tk.own with ⟨t, _, h1, h2, _⟩ | ⟨s, _, h1, h2, _⟩
    · rw [h1, h2]
      simp
      lia
    · rw [h1, h2]
      simp
      lia
  refine ⟨fun j => ?_, own⟩
  by_cases z : j = i
  · rw [z]; exact Nat.le_of_lt own
  · unfold left
    rcases tk.others j z with ⟨h1, h2⟩ | ⟨h1, h2, h3⟩
    · rw [h1, h2]; exact Nat.le_refl _
    · obtain ⟨t, ht⟩ := Option.isSome_iff_exists.mp h1
      have hf' := o.unfin ht
      rw [fin_false] at hf'
      have := o.le j
      rw [h2, h3, ht]
      simp
      lia
theorem passOn_tick {hs : List Hd} {F : Fl} {t : Int} : (passOn hs F t).1.tick = F.tick := by
  unfold passOn
  cases heirF (ranksOf hs) F.holders F.wanted t <;> rfl
theorem passAll_tick (hs : List Hd) : ∀ (ts : List Int) (s : Fl × List Nat), (passAll hs ts s).1.tick = s.1.tick
  | [], _ => rfl
  | t :: ts, (F, q) => (passAll_tick hs ts _).trans passOn_tick
theorem giveBack_tick (hs : List Hd) : ∀ (n : Nat) (q : List Nat) (F : Fl), (giveBack hs n q F).tick = F.tick
  | 0, _, _ => rfl
  | _ + 1, [], _ => rfl
  | n + 1, i :: q, F => by
    unfold giveBack
    split
    · exact (giveBack_tick hs n _ _).trans (passAll_tick hs _ _)
    · exact giveBack_tick hs n q F
theorem endStep_tick {hs : List Hd} {F : Fl} {i : Nat} {more : List Nat} : (endStep hs F i more).tick = F.tick := giveBack_tick hs _ _ _
theorem wait_tick {F : Fl} {i : Nat} {t : Int} : (wait F i t).tick = F.tick := by
  unfold wait
  cases hz : hangs { F with wanted := F.wanted ++ [((i : Int), t)] } i with
  | true => simp only [hz, if_true]
  | false => simp only [hz, Bool.false_eq_true, if_false]
theorem serve_tick {hs : List Hd} {F : Fl} {i : Nat} : (serve hs F i).1.tick = F.tick := by
  unfold serve
  split
  · split
    · exact wait_tick
    · exact endStep_tick
  · split
    · exact endStep_tick.trans passOn_tick
    · exact endStep_tick
  · exact endStep_tick
theorem dayN_tick {hs : List Hd} {F : Fl} : (dayN hs F).tick = F.tick + 1 := by
  unfold dayN
  cases (chain hs F).getLast? with
  | none => rfl
  | some i => exact serve_tick
noncomputable def maxCome (hs : List Hd) : Nat := (hs.map fun h => h.comes.toNat).foldr max 0
theorem le_maxCome {hs : List Hd} {i : Nat} : comesOf hs i <= (maxCome hs : Int) := by
  unfold comesOf maxCome
  induction hs generalizing i with
  | nil => simp
  | cons h r ih =>
    cases i with
    | zero =>
      simp only [List.map_cons, List.foldr_cons]
      show h.comes <= _
      lia
    | succ i =>
      simp only [List.map_cons, List.foldr_cons]
      have := @ih i
      show (r.map (·.comes)).getD i 0 <= _
      lia
noncomputable def mu (hs : List Hd) (F : Fl) : Nat := leftAll hs F + (maxCome hs + 1 - F.tick)
theorem chain_nil {hs : List Hd} {F : Fl} (wf : WF F.holders F.wanted) : chain hs F = [] ↔ here hs F = [] := by
  unfold chain
  constructor
  · intro h
    cases e : here hs F with
    | nil => rfl
    | cons a r =>
      obtain ⟨f, hf, _⟩ := fm_top (rs := ranksOf hs) (is := here hs F) (by rw [e]; simp)
      rw [hf] at h
      exact absurd h (rowFrom_ok wf _).ne
  · intro h
    have : fm (ranksOf hs) (here hs F) = none := by rw [h]; rfl
    rw [this]
theorem mu_lt {hs : List Hd} {F : Fl} (g : Good hs F) (hg : F.going ≠ []) : mu hs (dayN hs F) < mu hs F := by
  obtain ⟨G, o⟩ := id g
  unfold mu
  rw [dayN_tick]
  cases e : (chain hs F).getLast? with
  | none =>
    have hd : dayN hs F = { F with tick := F.tick + 1 } := by unfold dayN; rw [e]
    have hl : leftAll hs (dayN hs F) = leftAll hs F := by rw [hd]; rfl
    rw [hl]
    have hh := (chain_nil o.core.wf).mp (List.getLast?_eq_none_iff.mp e)
    obtain ⟨i, hi⟩ := List.exists_mem_of_ne_nil _ hg
    have : ¬ comesOf hs i <= (F.tick : Int) := fun z => by
      have : i ∈ here hs F := List.mem_filter.mpr ⟨hi, by simpa using z⟩
      rw [hh] at this
      cases this
    have := @le_maxCome hs i
    lia
  | some x =>
    obtain ⟨i, rfl, h1, h2, h3⟩ := chain_last g e
    have hd : dayN hs F = (serve hs { F with tick := F.tick + 1 } i).1 := by unfold dayN; rw [e]; simp
    obtain ⟨s1, s2⟩ := serve_left (F := { F with tick := F.tick + 1 }) (tick_good g _) h1 h2 h3
    have hl : leftAll hs (dayN hs F) < leftAll hs F := by
      rw [hd]
      exact sum_lt (fun j _ => s1 j) (List.mem_range.mpr h1) s2
    lia
noncomputable def dayAt (hs : List Hd) : Nat -> Fl
  | 0 => dayS hs
  | n + 1 => dayN hs (dayAt hs n)
theorem dayAt_ok (hs : List Hd) : ∀ n, Good hs (dayAt hs n)
  | 0 => dayS_ok hs
  | n + 1 => dayN_ok (dayAt_ok hs n)
structure Pg where
  chain : List Int
  held : List (Int × Int)
  waits : List (Int × Int)
  done : List Nat
structure PgOf (ch : List Int) (F : Fl) (p : Pg) : Prop where
  chain : p.chain = ch
  held : p.held = F.held
  done : p.done = F.done
  perm : p.waits.Perm F.wanted
  sort : Sorted p.waits
structure DayPgs (hs : List Hd) (pgs : List Pg) (m : Nat) : Prop where
  len : pgs.length = m + 1
  all : ∀ k, k <= m -> ∃ pg, pgs[k]? = some pg /\ PgOf (chain hs (dayAt hs k)) (dayAt hs k) pg
  on : ∀ k, k < m -> (dayAt hs k).going ≠ []
  off : (dayAt hs m).going = []
section
variable {hs : List Hd} {F : Fl} {p : Pg} {ch : List Int}
end
end B
namespace B
open PySem L2
noncomputable def stpL : Stp -> List V
  | .work => [.str "work"]
  | .take t => [.str "take", .int t]
  | .give t => [.str "give", .int t]
noncomputable def StpV (G : Hp) (z : V) (s : Stp) : Prop := ∃ b, z = .ref b /\ G b = some (.tup (stpL s))
noncomputable def StepsV (G : Hp) (y : V) (ss : List Stp) : Prop := ∃ b zs, y = .ref b /\ G b = some (.lst zs) /\ Paired (StpV G) zs ss
noncomputable def HandV (G : Hp) (y : V) (h : Hd) : Prop := ∃ b v, y = .ref b /\ G b = some (.tup [.int h.rank, .int h.comes, v]) /\ StepsV G v h.steps
noncomputable def HandsAt (G : Hp) (a : Addr) (hs : List Hd) : Prop := ∃ ys, G a = some (.lst ys) /\ Paired (HandV G) ys hs
theorem StpV.same {G H : Hp} {z : V} {s : Stp} (h : StpV G z s) (m : Same G H) : StpV H z s := let ⟨b, e, q⟩ := h; ⟨b, e, m _ _ q⟩
theorem StepsV.same {G H : Hp} {z : V} {s : List Stp} (h : StepsV G z s) (m : Same G H) : StepsV H z s := let ⟨b, zs, e, q, r⟩ := h; ⟨b, zs, e, m _ _ q, Paired.mapP r fun _ _ k => k.same m⟩
theorem HandV.same {G H : Hp} {z : V} {s : Hd} (h : HandV G z s) (m : Same G H) : HandV H z s := let ⟨b, v, e, q, r⟩ := h; ⟨b, v, e, m _ _ q, r.same m⟩
theorem HandsAt.same {G H : Hp} {a : Addr} {hs : List Hd} (h : HandsAt G a hs) (m : Same G H) : HandsAt H a hs := let ⟨ys, e, r⟩ := h; ⟨ys, m _ _ e, Paired.mapP r fun _ _ k => k.same m⟩
structure FA where
  dx : Addr
  r : Addr
  c : Addr
  st : Addr
  d : Addr
  h : Addr
  w : Addr
  l : Addr
  g : Addr
noncomputable abbrev flds (A : FA) (k : Nat) : List (Str × V) := [("ranks", .ref A.r), ("comes", .ref A.c), ("steps", .ref A.st), ("done", .ref A.d), ("tick", .int k), ("holders", .ref A.h), ("wanted", .ref A.w), ("held", .ref A.l), ("going", .ref A.g)]
structure FlAt (C : Addr) (hs : List Hd) (S G H : Hp) (x : Addr) (F : Fl) (A : FA) : Prop where
  ob : H x = some (.ins C A.dx (flds A F.tick))
  rk : S A.r = some (.lst ((ranksOf hs).map V.int))
  cm : S A.c = some (.lst ((hs.map (·.comes)).map V.int))
  sp : ∃ ys, S A.st = some (.lst ys) /\ Paired (StepsV S) ys (hs.map (·.steps))
  dn : H A.d = some (.lst (nV F.done))
  hd : H A.h = some (dI F.holders)
  wt : H A.w = some (dI F.wanted)
  hl : ∃ ys, H A.l = some (.lst ys) /\ IsPairs G ys F.held
  gg : H A.g = some (.lst (nV F.going))
  ss : Same S G
  sm : Same G H
  nx : G x = none
  nd : G A.d = none
  nh : G A.h = none
  nw : G A.w = none
  nl : G A.l = none
  ng : G A.g = none
  dl : A.d ≠ A.l
  dg : A.d ≠ A.g
  lg : A.l ≠ A.g
  hw : A.h ≠ A.w
section
variable {C : Addr} {hs : List Hd} {S G H : Hp} {x p : Addr} {F : Fl} {A : FA} {o : HO}
theorem FlAt.SH (f : FlAt C hs S G H x F A) : Same S H := f.ss.trans f.sm
theorem FlAt.new (f : FlAt C hs S G H x F A) (hp : H p = none) : FlAt C hs S (upd G p o) (upd H p o) x F A /\ Same G (upd G p o) := by
  have gp : G p = none := f.sm.free hp
  have ne : ∀ {b u}, H b = some u -> b ≠ p := fun e => ne_of_none e hp
  have s1 : Same G (upd G p o) := (Same.refl G).updF gp
  refine ⟨⟨by rw [upd_ne (ne f.ob)]; exact f.ob, f.rk, f.cm, f.sp, by rw [upd_ne (ne f.dn)]; exact f.dn, by rw [upd_ne (ne f.hd)]; exact f.hd, by rw [upd_ne (ne f.wt)]; exact f.wt, ?_, by rw [upd_ne (ne f.gg)]; exact f.gg, f.ss.trans s1, fun b u e => ?_,
    by rw [upd_ne (ne f.ob)]; exact f.nx, by rw [upd_ne (ne f.dn)]; exact f.nd, by rw [upd_ne (ne f.hd)]; exact f.nh, by rw [upd_ne (ne f.wt)]; exact f.nw, ?_, by rw [upd_ne (ne f.gg)]; exact f.ng, f.dl, f.dg, f.lg, f.hw⟩, s1⟩
  · obtain ⟨ys, h1, h2⟩ := f.hl
    exact ⟨ys, by rw [upd_ne (ne h1)]; exact h1, h2.same s1⟩
  · by_cases q : b = p
    · subst q
      rw [upd_same] at e ⊢
      exact e
    · rw [upd_ne q] at e ⊢
      exact f.sm b u e
  · obtain ⟨ys, h1, h2⟩ := f.hl
    rw [upd_ne (ne h1)]
    exact f.nl
theorem FlAt.mut (f : FlAt C hs S G H x F A) {old new : List V} (hp : G p = some (.lst old)) (np : S p = none) : FlAt C hs S (upd G p (.lst new)) (upd H p (.lst new)) x F A := by
  have ne : ∀ {b}, G b = none -> b ≠ p := fun e q => by rw [q, hp] at e; cases e
  refine ⟨by rw [upd_ne (ne f.nx)]; exact f.ob, f.rk, f.cm, f.sp, by rw [upd_ne (ne f.nd)]; exact f.dn, by rw [upd_ne (ne f.nh)]; exact f.hd, by rw [upd_ne (ne f.nw)]; exact f.wt, ?_, by rw [upd_ne (ne f.ng)]; exact f.gg, f.ss.updF np, fun b u e => ?_,
    by rw [upd_ne (ne f.nx)]; exact f.nx, by rw [upd_ne (ne f.nd)]; exact f.nd, by rw [upd_ne (ne f.nh)]; exact f.nh, by rw [upd_ne (ne f.nw)]; exact f.nw, by rw [upd_ne (ne f.nl)]; exact f.nl, by rw [upd_ne (ne f.ng)]; exact f.ng, f.dl, f.dg, f.lg, f.hw⟩
  · obtain ⟨ys, h1, h2⟩ := f.hl
    exact ⟨ys, by rw [upd_ne (ne f.nl)]; exact h1, h2.upd (.inr ⟨old, hp⟩)⟩
  · by_cases q : b = p
    · subst q
      rw [upd_same] at e ⊢
      exact e
    · rw [upd_ne q] at e ⊢
      exact f.sm b u e
theorem FlAt.setDone (f : FlAt C hs S G H x F A) (ds : List Nat) : FlAt C hs S G (upd H A.d (.lst (nV ds))) x { F with done := ds } A := by
  have k1 : ∀ {b u}, H b = some u -> (∀ ys, u ≠ .lst ys) -> b ≠ A.d := fun e q z => by rw [z, f.dn] at e; cases e; exact q _ rfl
  refine ⟨by rw [upd_ne (k1 f.ob (by intro _ z; cases z))]; exact f.ob, f.rk, f.cm, f.sp, upd_same, by rw [upd_ne (k1 f.hd (by intro _ z; cases z))]; exact f.hd, by rw [upd_ne (k1 f.wt (by intro _ z; cases z))]; exact f.wt, ?_, by rw [upd_ne f.dg.symm]; exact f.gg,
    f.ss, f.sm.updF f.nd, f.nx, f.nd, f.nh, f.nw, f.nl, f.ng, f.dl, f.dg, f.lg, f.hw⟩
  obtain ⟨ys, h1, h2⟩ := f.hl
  exact ⟨ys, by rw [upd_ne f.dl.symm]; exact h1, h2⟩
theorem FlAt.setHeld (f : FlAt C hs S G H x F A) {ys : List V} {ps : List (Int × Int)} (hp : IsPairs G ys ps) : FlAt C hs S G (upd H A.l (.lst ys)) x { F with held := ps } A := by
  obtain ⟨zs, h1, h2⟩ := f.hl
  have k1 : ∀ {b u}, H b = some u -> (∀ ys, u ≠ .lst ys) -> b ≠ A.l := fun e q z => by rw [z, h1] at e; cases e; exact q _ rfl
  exact ⟨by rw [upd_ne (k1 f.ob (by intro _ z; cases z))]; exact f.ob, f.rk, f.cm, f.sp, by rw [upd_ne f.dl]; exact f.dn, by rw [upd_ne (k1 f.hd (by intro _ z; cases z))]; exact f.hd, by rw [upd_ne (k1 f.wt (by intro _ z; cases z))]; exact f.wt, ⟨ys, upd_same, hp⟩, by rw [upd_ne f.lg.symm]; exact f.gg,
    f.ss, f.sm.updF f.nl, f.nx, f.nd, f.nh, f.nw, f.nl, f.ng, f.dl, f.dg, f.lg, f.hw⟩
theorem FlAt.setGo (f : FlAt C hs S G H x F A) (gs : List Nat) : FlAt C hs S G (upd H A.g (.lst (nV gs))) x { F with going := gs } A := by
  have k1 : ∀ {b u}, H b = some u -> (∀ ys, u ≠ .lst ys) -> b ≠ A.g := fun e q z => by rw [z, f.gg] at e; cases e; exact q _ rfl
  refine ⟨by rw [upd_ne (k1 f.ob (by intro _ z; cases z))]; exact f.ob, f.rk, f.cm, f.sp, by rw [upd_ne f.dg]; exact f.dn, by rw [upd_ne (k1 f.hd (by intro _ z; cases z))]; exact f.hd, by rw [upd_ne (k1 f.wt (by intro _ z; cases z))]; exact f.wt, ?_, upd_same,
    f.ss, f.sm.updF f.ng, f.nx, f.nd, f.nh, f.nw, f.nl, f.ng, f.dl, f.dg, f.lg, f.hw⟩
  obtain ⟨ys, h1, h2⟩ := f.hl
  exact ⟨ys, by rw [upd_ne f.lg]; exact h1, h2⟩
theorem FlAt.setHolders (f : FlAt C hs S G H x F A) (ps : List (Int × Int)) : FlAt C hs S G (upd H A.h (dI ps)) x { F with holders := ps } A := by
  have k1 : ∀ {b u}, H b = some u -> (∀ ys, u ≠ .dK ys) -> b ≠ A.h := fun e q z => by rw [z, f.hd] at e; cases e; exact q _ rfl
  refine ⟨by rw [upd_ne (k1 f.ob (by intro _ z; cases z))]; exact f.ob, f.rk, f.cm, f.sp, by rw [upd_ne (k1 f.dn (by intro _ z; cases z))]; exact f.dn, upd_same, by rw [upd_ne f.hw.symm]; exact f.wt, ?_, by rw [upd_ne (k1 f.gg (by intro _ z; cases z))]; exact f.gg,
    f.ss, f.sm.updF f.nh, f.nx, f.nd, f.nh, f.nw, f.nl, f.ng, f.dl, f.dg, f.lg, f.hw⟩
  obtain ⟨ys, h1, h2⟩ := f.hl
  exact ⟨ys, by rw [upd_ne (k1 h1 (by intro _ z; cases z))]; exact h1, h2⟩
theorem FlAt.setWanted (f : FlAt C hs S G H x F A) (ps : List (Int × Int)) : FlAt C hs S G (upd H A.w (dI ps)) x { F with wanted := ps } A := by
  have k1 : ∀ {b u}, H b = some u -> (∀ ys, u ≠ .dK ys) -> b ≠ A.w := fun e q z => by rw [z, f.wt] at e; cases e; exact q _ rfl
  refine ⟨by rw [upd_ne (k1 f.ob (by intro _ z; cases z))]; exact f.ob, f.rk, f.cm, f.sp, by rw [upd_ne (k1 f.dn (by intro _ z; cases z))]; exact f.dn, by rw [upd_ne f.hw]; exact f.hd, upd_same, ?_, by rw [upd_ne (k1 f.gg (by intro _ z; cases z))]; exact f.gg,
    f.ss, f.sm.updF f.nw, f.nx, f.nd, f.nh, f.nw, f.nl, f.ng, f.dl, f.dg, f.lg, f.hw⟩
  obtain ⟨ys, h1, h2⟩ := f.hl
  exact ⟨ys, by rw [upd_ne (k1 h1 (by intro _ z; cases z))]; exact h1, h2⟩
theorem FlAt.setTick (f : FlAt C hs S G H x F A) (k : Nat) : FlAt C hs S G (upd H x (.ins C A.dx (flds A k))) x { F with tick := k } A := by
  have k1 : ∀ {b u}, H b = some u -> (∀ c d fs, u ≠ .ins c d fs) -> b ≠ x := fun e q z => by rw [z, f.ob] at e; cases e; exact q _ _ _ rfl
  refine ⟨upd_same, f.rk, f.cm, f.sp, by rw [upd_ne (k1 f.dn (by intro _ _ _ z; cases z))]; exact f.dn, by rw [upd_ne (k1 f.hd (by intro _ _ _ z; cases z))]; exact f.hd, by rw [upd_ne (k1 f.wt (by intro _ _ _ z; cases z))]; exact f.wt, ?_, by rw [upd_ne (k1 f.gg (by intro _ _ _ z; cases z))]; exact f.gg,
    f.ss, f.sm.updF f.nx, f.nx, f.nd, f.nh, f.nw, f.nl, f.ng, f.dl, f.dg, f.lg, f.hw⟩
  obtain ⟨ys, h1, h2⟩ := f.hl
  exact ⟨ys, by rw [upd_ne (k1 h1 (by intro _ _ _ z; cases z))]; exact h1, h2⟩
theorem FlAt.newGo (f : FlAt C hs S G H x F A) (gs : List Nat) {H' : Hp} (s' : Same H H') (hp : H p = none) (e : H' p = some (.lst (nV gs))) : FlAt C hs S G (upd H' x (.ins C A.dx (flds { A with g := p } F.tick))) x { F with going := gs } { A with g := p } := by
  have k1 : ∀ {b u}, H b = some u -> (∀ c d fs, u ≠ .ins c d fs) -> b ≠ x := fun e q z => by rw [z, f.ob] at e; cases e; exact q _ _ _ rfl
  have np : p ≠ x := fun z => by rw [z, f.ob] at hp; cases hp
  have ne : ∀ {b u}, H b = some u -> b ≠ p := fun e => ne_of_none e hp
  refine ⟨upd_same, f.rk, f.cm, f.sp, by rw [upd_ne (k1 f.dn (by intro _ _ _ z; cases z))]; exact s' _ _ f.dn, by rw [upd_ne (k1 f.hd (by intro _ _ _ z; cases z))]; exact s' _ _ f.hd, by rw [upd_ne (k1 f.wt (by intro _ _ _ z; cases z))]; exact s' _ _ f.wt, ?_, by rw [upd_ne np]; exact e,
    f.ss, (f.sm.trans s').updF f.nx, f.nx, f.nd, f.nh, f.nw, f.nl, f.sm.free hp, f.dl, ne f.dn, ?_, f.hw⟩
  · obtain ⟨ys, h1, h2⟩ := f.hl
    exact ⟨ys, by rw [upd_ne (k1 h1 (by intro _ _ _ z; cases z))]; exact s' _ _ h1, h2⟩
  · obtain ⟨ys, h1, h2⟩ := f.hl
    exact ne h1
theorem FlAt.later (f : FlAt C hs S G H x F A) {H' : Hp} (s' : Same H H') : FlAt C hs S G H' x F A := by
  refine ⟨s' _ _ f.ob, f.rk, f.cm, f.sp, s' _ _ f.dn, s' _ _ f.hd, s' _ _ f.wt, ?_, s' _ _ f.gg, f.ss, f.sm.trans s', f.nx, f.nd, f.nh, f.nw, f.nl, f.ng, f.dl, f.dg, f.lg, f.hw⟩
  obtain ⟨ys, h1, h2⟩ := f.hl
  exact ⟨ys, s' _ _ h1, h2⟩
theorem FlAt.keep (f : FlAt C hs S G H x F A) (hp : H p = some o) (n1 : p ≠ x) (n2 : p ≠ A.d) (n3 : p ≠ A.h) (n4 : p ≠ A.w) (n5 : p ≠ A.l) (n6 : p ≠ A.g) : FlAt C hs S (upd G p o) H x F A /\ Same G (upd G p o) := by
  have s1 : Same G (upd G p o) := fun b u e => by
    by_cases q : b = p
    · subst q
      rw [upd_same, <- f.sm _ _ e]
      exact hp.symm
    · rw [upd_ne q]
      exact e
  refine ⟨⟨f.ob, f.rk, f.cm, f.sp, f.dn, f.hd, f.wt, ?_, f.gg, f.ss.trans s1, fun b u e => ?_, by rw [upd_ne n1.symm]; exact f.nx, by rw [upd_ne n2.symm]; exact f.nd, by rw [upd_ne n3.symm]; exact f.nh, by rw [upd_ne n4.symm]; exact f.nw, by rw [upd_ne n5.symm]; exact f.nl, by rw [upd_ne n6.symm]; exact f.ng, f.dl, f.dg, f.lg, f.hw⟩, s1⟩
  · obtain ⟨ys, h1, h2⟩ := f.hl
    exact ⟨ys, h1, h2.same s1⟩
  · by_cases q : b = p
    · subst q
      rw [upd_same] at e
      rw [<- e]
      exact hp
    · rw [upd_ne q] at e
      exact f.sm b u e
theorem FlAt.keepNew (f : FlAt C hs S G H x F A) {H' : Hp} (s' : Same H H') (hn : H p = none) (hp : H' p = some o) : FlAt C hs S (upd G p o) H' x F A /\ Same G (upd G p o) := by
  have ne : ∀ {b u}, H b = some u -> p ≠ b := fun e => (ne_of_none e hn).symm
  obtain ⟨ys, h1, _⟩ := f.hl
  exact (f.later s').keep hp (ne f.ob) (ne f.dn) (ne f.hd) (ne f.wt) (ne h1) (ne f.gg)
end
end B
namespace My
open PySem PyProof.Rows PySem.W
section
variable {prog : Program} {w : World} {A : Around} {E : Value -> Shared -> Prop} {s : Shared} {T : String} {r d : Addr} {n : Nat} {P : Nat -> Value -> Prop} {OK : Heap -> Prop}
theorem collect_src {Q : List Value -> Shared -> Prop} (K : KdlSrc prog w T r d n P OK) (hh : A.handled = none) (hok : OK s.heap) (hn : n <= sizeLine)
    (h : ∀ h' tk acc, (∀ b o, s.heap.get? b = some o -> h'.get? b = some o) -> s.heap.objs.size < h'.objs.size -> ItemsOf P acc n -> Q acc.toList { s with heap := h', toks := tk }) : wpAny (model prog w) A (collect (.ref r)) Q E s := by
  have hlt := K.there _ hok
  have key : ∀ {Q' : Value -> Shared -> Prop}, (∀ h' tk acc c', (∀ b o, s.heap.get? b = some o -> h'.get? b = some o) -> h'.get? s.heap.objs.size = some { cls := .type "list", dict := none, data := .seq acc c', slots := #[] } -> ItemsOf P acc n -> Q' (.ref s.heap.objs.size) { s with heap := h', toks := tk }) ->
      wpAny (model prog w) A (runValue (.builtin "proto.collect" ⟨[.ref r], []⟩)) Q' E s := by
    intro Q' q
    refine wpAny_runValue (codeAny_builtin entry_proto_collect' ?_)
    rw [Around.under_plainId PySem.F.plain_proto_collect _]
    show wpAny _ A.in1 (newList [] >>= fun l => again (.builtin "list.__iadd__" ⟨[l, .ref r], []⟩)) _ _ s
    refine wpAny_bind (wpAny_newObj_type ?_)
    refine wpAny_pure ⟨plainId_quiet PySem.F.plain_list_iadd _, codeAny_builtin entry_list_iadd' ?_⟩
    rw [Around.under_plainId PySem.F.plain_list_iadd _]
    show wpAny _ A.in1 (Builtin.List.listExtendWith (.ref s.heap.objs.size) (.ref r) (.ref s.heap.objs.size)) _ _ _
    have hS : (s.heap.push { cls := .type "list", data := .seq ([] : List Value).toArray }).get? s.heap.objs.size = some { cls := .type "list", data := .seq ([] : List Value).toArray } := Heap.get?_push_size _ rfl
    exact kdl_extend (R := fun r s' => match r with | .ok (.ret v) => Q' v s' | .ok _ => False | .error e => E e s') (A := A) (s := { s with heap := s.heap.push { cls := .type "list", data := .seq ([] : List Value).toArray } }) K hh (K.keep _ _ hok fun b _ o e => Heap.get?_push_of_some _ e) _ (Nat.ne_of_gt hlt.1) (Nat.ne_of_gt hlt.2) (.ref s.heap.objs.size) 0 hS
      (fun h' tk acc' c' hk hS' hacc => q h' tk acc' c' (fun b o e => hk b o (Nat.ne_of_lt (Heap.lt_size e)) (Heap.get?_push_of_some _ e)) hS' hacc) hn
  unfold collect
  refine wpAny_bind (key fun h' tk acc c' kp hS hacc => ?_)
  show wpAny _ A (load s.heap.objs.size >>= _) _ _ _
  refine wpAny_bind (wpAny_load hS ?_)
  exact wpAny_pure (h h' tk acc kp (Heap.lt_size hS) hacc)
theorem sorted_src {Q : Value -> Shared -> Prop} (K : KdlSrc prog w T r d n P OK) (hh : A.handled = none) (hok : OK s.heap) (hn : n < 64) (ns : List Int) (hI : ∀ vs : List Value, vs.length = n -> (∀ (j : Nat) (v : Value), vs[j]? = some v -> P j v) -> IntsAre vs ns)
    (h : ∀ h' tk a (out : Array Value) (ns' : List Int) c, (∀ b o, s.heap.get? b = some o -> h'.get? b = some o) -> s.heap.objs.size <= a -> h'.get? a = some { cls := .type "list", data := .seq out c } -> IntsAre out.toList ns' -> ns'.Perm ns -> ns'.Pairwise (· <= ·) ->
      Q (.ref a) { s with heap := h', toks := tk }) : wpAny (model prog w) A (call (.builtin "sorted") [.ref r]) Q E s := by
  refine Calls.call_function_entry kind_sorted plain_sorted entry_sorted (args_sorted1 _) ?_
  unfold Builtin.«sorted»
  refine wpAny_bind (m := checkCount "sorted" 1 1 _) (wpAny_pure ?_)
  refine wpAny_bind (collect_src K hh hok (by rw [sizeLine_eq]; lia) fun h1 tk1 acc k1 z1 hacc => ?_)
  have hlen : acc.toList.length = n := by rw [Array.length_toList]; exact hacc.1
  have ii := hI acc.toList hlen fun j v e => hacc.2 j v (by rw [<- Array.getElem?_toList]; exact e)
  refine wpAny_bind (wpAny_newList ?_)
  have hoL : (h1.push (seqObj "list" acc.toList.toArray 0)).get? h1.objs.size = some (seqObj "list" acc.toList.toArray 0) := Heap.get?_push_size _ rfl
  show wpAny _ _ _ _ _ { s with heap := h1.push (seqObj "list" acc.toList.toArray 0), toks := tk1 }
  refine wpAny_bind (wpAny_holding (wpAny_call_entry slot_list_sort ⟨_, hoL, rfl⟩ entry_list_sort (list_sort_tree hoL ii (by lia) fun out ns' a1 a2 a3 => ⟨_, rfl, ?_⟩) (args_list_sort _)))
  refine wpAny_pure ⟨_, rfl, ?_⟩
  have sz : ((h1.push (seqObj "list" acc.toList.toArray 0)).update h1.objs.size (Obj.mapSeq fun _ => #[])).objs.size = h1.objs.size + 1 := by rw [Heap.size_update, size_push']
  have ne : h1.objs.size ≠ h1.objs.size + 1 := Nat.ne_of_lt (Nat.lt_succ_self _)
  have ne2 : h1.objs.size ≠ h1.objs.size + 1 + 1 := Nat.ne_of_lt (Nat.lt_succ_of_lt (Nat.lt_succ_self _))
  obtain ⟨e1, ho1⟩ : ∃ e1, ((h1.push (seqObj "list" acc.toList.toArray 0)).update h1.objs.size (Obj.mapSeq fun _ => #[])).get? h1.objs.size = some (seqObj "list" #[] e1) := ⟨_, get?_update_seq hoL (fun _ => #[])⟩
  have ho6 : ((((h1.push (seqObj "list" acc.toList.toArray 0)).update h1.objs.size (Obj.mapSeq fun _ => #[])).push (seqObj "tuple" acc.toList.toArray 0)).push (seqObj "list" #[] 0)).get? h1.objs.size = some (seqObj "list" #[] e1) :=
    Heap.get?_push_of_some _ (Heap.get?_push_of_some _ ho1)
  refine h _ tk1 h1.objs.size out ns' _ (fun b o e => ?_) ?_ (get?_update_seq ho6 fun _ => out) a1 a2 a3
  · have lb : b < h1.objs.size := Heap.lt_size (k1 b o e)
    unfold sortedHeap
    refine (Heap.get?_update_other _ _ (Nat.ne_of_gt lb)).trans (Heap.get?_push_of_some _ (Heap.get?_push_of_some _ ?_))
    exact (Heap.get?_update_other _ _ (Nat.ne_of_gt lb)).trans (Heap.get?_push_of_some _ (k1 b o e))
  · exact Nat.le_of_lt z1
end
end My
namespace L2
open PySem PySem.Spec PyProof.Rows
theorem ints_of : ∀ {vs : List Value} {ns : List Int}, vs.length = ns.length -> (∀ (j : Nat) (v : Value) (n : Int), vs[j]? = some v -> ns[j]? = some n -> ∃ t, v = .int n t) -> IntsAre vs ns
  | [], [], _, _ => .nil
  | [], _ :: _, h, _ => by simp at h
  | _ :: _, [], h, _ => by simp at h
  | v :: vs, n :: ns, h, g => by
    obtain ⟨t, rfl⟩ := g 0 v n rfl rfl
    exact .cons _ _ (ints_of (by simpa using h) fun j u m h1 h2 => g (j + 1) u m (by simpa using h1) (by simpa using h2))
theorem ints_vals : ∀ {vs : List Value} {ns : List Int}, IntsAre vs ns -> Vals (ns.map V.int) vs
  | _, _, .nil => .nil
  | _, _, .cons _ _ h => .cons ⟨_, rfl⟩ (ints_vals h)
noncomputable def rSortD : List V -> Hp -> VK -> Prop := fun xs H Q => ∃ a ps, xs = [.ref a] /\ H a = some (dI ps) /\ ps.length < 64 /\ ∀ p (ns : List Int), H p = none -> ns.Perm (ps.map (·.1)) -> ns.Pairwise (· <= ·) -> Q (.ref p) (upd H p (.lst (ns.map V.int)))
section
variable {X : Cx}
theorem call_sortedD (hc : X.calm = true) : CallR X (.builtin "sorted") rSortD := by
  intro pins s σ H xs us Q I r h
  obtain ⟨a, ps, rfl, e, h64, q⟩ := h
  obtain ⟨u, rfl, ru⟩ := vals1 r
  cases ru
  obtain ⟨z, hd, vs, rel, dd⟩ := dk_rd I.hok (.inl e)
  obtain ⟨ep, hat⟩ := dd.dictAt
  have hn := rel.length
  rw [List.length_map] at hn
  refine My.sorted_src (PySem.W.kdl_dict (knd := mixKind X.prog X.w) (kvs := vs) (ep := ep) hd) (I.ok.hd hc) hat (by lia) (ps.map (·.1)) (fun ws hl hw => ?_) fun h' tk b out ns' c kp hb hS a1 a2 a3 => ?_
  · refine ints_of (by simp; lia) fun j v n h1 h2 => ?_
    obtain ⟨k, x, hk, hi⟩ := hw j v h1
    obtain ⟨kv, hkv, ek, _⟩ := Paired.get' (show Paired _ (ps.map fun p => ((Sum.inl p.1 : Key), V.int p.2)) vs from rel) hk
    rw [List.getElem?_map] at hkv h2
    cases q : ps[j]? with
    | none => rw [q] at hkv; cases hkv
    | some p =>
      rw [q] at hkv h2
      have e1 : kv = ((Sum.inl p.1 : Key), V.int p.2) := (Option.some.inj hkv).symm
      have e2 : p.1 = n := Option.some.inj h2
      have ek : kv.1 = k := ek
      have r := kV_rel hi
      rw [<- ek, e1] at r
      rw [<- e2]
      exact r
  · refine ⟨.ref b, _, I.laid (t' := tk) kp hb (show ObjOk X.prog X.w _ h' _ (.lst (ns'.map V.int)) from ⟨?_, out.toList, c, ints_vals a1, by simpa using hS⟩), rfl, q _ ns' (I.hok.fresh hb) a2 a3⟩
    have := a2.length_eq
    rw [List.length_map] at this
    rw [List.length_map, sizeLine_eq]
    lia
theorem qc_sortedD (K : PySem.W.Frag) (hc : X.calm = true := by rfl) : QC X (.builtin "sorted") rSortD := ⟨call_sortedD hc⟩
end
structure KDict (K : PySem.W.Frag) (w : World) (mg : Str -> Option Value) (x : Str) (kvs : List (Key × V)) : Prop where
  ex : ∃ d, mg x = some (.ref d) /\ (d == sysModules) = false /\ ∀ (P : Program) (h : Heap), K.In h -> ∃ vs, KV kvs vs /\ h.DictOf (mixKind P w) d vs
noncomputable def tKGet (kvs : List (Key × V)) (ty : TE) : TE := fun σ H Q => ty σ H fun y H1 => ∃ k v, y = kV k /\ valV kvs k = some v /\ Q v H1
noncomputable def tKGet1 (kvs : List (Key × V)) (ty : TE) : TE := fun σ H Q => ty σ H fun y H1 => ∃ k, y = kV k /\ Q ((valV kvs k).getD .non) H1
section
variable {X : Cx} {i : Expr} {ty : TE} {x : Str} {kvs : List (Key × V)} {p pos apos cpos : Pos}
theorem pe_kget (D : KDict X.K X.w X.mg x kvs) (hi : PE X i ty) (hs : NoSl i) (hg : Gl X x) (hd : (x == ("__debug__" : Str)) = false) : PE X (.Subscript (.Name x p) i pos) (tKGet kvs ty) := by
  intro pins s σ H Q I h
  obtain ⟨d, hm, hd2, all⟩ := D.ex
  refine subD_of PySem.F.slot_dict_getitem.lookup hs (ld_glob I hg hm ?_ hd)
  refine thn (hi pins s σ H _ I h) fun iv s2 hq1 => ?_
  obtain ⟨y, H2, I2, ry, k, v, ey, l, q2⟩ := hq1
  subst ey
  obtain ⟨vs, rel, dd⟩ := all X.prog s2.heap I2.kIn
  obtain ⟨w', hw, rw'⟩ := RelO.some_of (v := v) (o := valueAt vs k) (by rw [<- l]; exact rel.val k)
  exact ⟨dd.typeIs, wpAny_getItem_of (kV_is ry) dd.mapOf hw ⟨v, H2, I2.tok _, rw', q2⟩⟩
theorem pe_kget1 (D : KDict X.K X.w X.mg x kvs) (hi : PE X i ty) (hg : Gl X x) (hd : (x == ("__debug__" : Str)) = false) (m : M1 X (.Name x p) "get" apos i cpos) : PE X (.Call (.Attribute (.Name x p) "get" apos) [i] [] cpos) (tKGet1 kvs ty) := by
  intro pins s σ H Q I h
  obtain ⟨d, hm, hd2, all⟩ := D.ex
  refine wpAny_Call_method m.base m.few m.line PySem.F.plainAttrs_dict PySem.F.slot_dict_get PySem.F.type_dict_get (ld_glob I hg hm ?_ hd)
  obtain ⟨vs, rel, dd⟩ := all X.prog s.heap I.kIn
  refine ⟨dd.typeIs, fun b e => ?_, ?_⟩
  · cases e
    obtain ⟨ob, _, _, h1, h2, _⟩ := dd
    exact ⟨ob, h1, h2.2.1⟩
  rw [m.trees]
  refine Calls.callWith_builtin rfl (Calls.evalArgs_plain (Calls.spliced_cons (thn (hi pins s σ H _ I h) fun iv s2 ⟨y, H2, I2, ry, k, ey, q2⟩ => Calls.spliced_nil ?_)))
  subst ey
  obtain ⟨vs2, rel2, dd2⟩ := all X.prog s2.heap I2.kIn
  exact call_meetsIn PySem.F.slot_dict_get dd2.typeIs PySem.F.entry_dict_get (PySem.F.args_dict_get_2 _ _) (meets_dict_get (mixKind X.prog X.w) d (kV_is ry) hd2) ⟨_, dd2.mapOf, ⟨(valV kvs k).getD .non, H2, I2.tok _, (rel2.val k).getD (show RelV V.non Value.none from rfl), q2⟩⟩
theorem qe_kdget (hu : X.A.units + 200 < cLine) (D : KDict X.K X.w X.mg x kvs) (hi : QE X i ty) (hs : NoSl i) (hg : Gl X x := by rfl) (hd : (x == ("__debug__" : Str)) = false := by decide) : QE X (.Subscript (.Name x p) i pos) (tKGet kvs ty) := ⟨pe_kget D hi.run hs hg hd⟩
theorem qe_kdget1 (hu : X.A.units + 200 < cLine) (D : KDict X.K X.w X.mg x kvs) (hi : QE X i ty) (hg : Gl X x := by rfl) (hd : (x == ("__debug__" : Str)) = false := by decide)
    (m : M1 X (.Name x p) "get" apos i cpos := by exact ⟨rfl, rfl, rfl, rfl⟩) : QE X (.Call (.Attribute (.Name x p) "get" apos) [i] [] cpos) (tKGet1 kvs ty) := ⟨pe_kget1 D hi.run hg hd m⟩
end
section
variable {σ : St} {H : Hp} {Q : VK} {ty : TE} {kvs : List (Key × V)}
theorem rd_tKGet (h : ty σ H fun y H1 => ∃ k v, y = kV k /\ valV kvs k = some v /\ Q v H1) : tKGet kvs ty σ H Q := h
theorem rd_tKGet1 (h : ty σ H fun y H1 => ∃ k, y = kV k /\ Q ((valV kvs k).getD .non) H1) : tKGet1 kvs ty σ H Q := h
end
end L2
namespace B
open PySem L2
noncomputable def wordsK : List (Key × V) := [(Sum.inr "work", .str "worked"), (Sum.inr "take", .str "took"), (Sum.inr "give", .str "gave")]
noncomputable def partsK : List (Key × V) := [(Sum.inr "work", .int 1), (Sum.inr "take", .int 2), (Sum.inr "give", .int 2)]
structure TxtC (K : PySem.W.Frag) (w : World) (mg : Str -> Option Value) (C : Addr) : Prop where
  cl : Cls K C
  n_ranks : NoAttr K C "ranks"
  n_comes : NoAttr K C "comes"
  n_steps : NoAttr K C "steps"
  n_done : NoAttr K C "done"
  n_tick : NoAttr K C "tick"
  n_holders : NoAttr K C "holders"
  n_wanted : NoAttr K C "wanted"
  n_held : NoAttr K C "held"
  n_going : NoAttr K C "going"
  k_WORDS : KDict K w mg "WORDS" wordsK
  k_PARTS : KDict K w mg "PARTS" partsK
end B
namespace B
open PySem L2
structure Small (hs : List Hd) : Prop where
  n : hs.length <= 60
  t : (toolsAll hs).length <= 5000
  s : ∀ i, (stepsOf hs i).length <= 1000
  c : maxCome hs <= 100000
theorem sum_const (l : List Nat) (c : Nat) : (l.map fun _ => c).sum = l.length * c := by
  induction l with
  | nil => simp
  | cons a r ih => simp only [List.map_cons, List.sum_cons, ih, List.length_cons, Nat.add_mul]; lia
theorem mu_small {hs : List Hd} (s : Small hs) : mu hs (dayAt hs 0) <= 300000 := by
  unfold mu leftAll
  have h1 : ((List.range hs.length).map (left hs (dayAt hs 0))).sum <= ((List.range hs.length).map fun _ => 2000).sum := sum_le fun i _ => by
    have := s.s i
    unfold left
    lia
  rw [sum_const, List.length_range] at h1
  have := s.n
  have := s.c
  have h2 : hs.length * 2000 <= 60 * 2000 := Nat.mul_le_mul_right _ s.n
  lia
noncomputable def sp_place_for (K : PySem.W.Frag) : Sp := fun vs H Q _ => ∃ (a : Addr) (ys : List V) (ps : List (Int × Int)) (t : Int), vs = [.ref a, .int t] /\ H a = some (.lst ys) /\ IsPairs H ys ps /\ Sorted ps /\ ps.length <= 100000 /\ Q (.int (place ps t : Nat)) H
noncomputable def sp_Floor_is_finished (K : PySem.W.Frag) (C : Addr) : Sp := fun vs H Q _ => ∃ (x dx d st : Addr) (fs : List (Str × V)) (done : List Nat) (ys : List V) (sss : List (List Stp)) (i : Nat), vs = [.ref x, .int i] /\ H x = some (.ins C dx fs) /\ fs.lookup ("done" : Str) = some (.ref d) /\ fs.lookup ("steps" : Str) = some (.ref st) /\
  H d = some (.lst (nV done)) /\ H st = some (.lst ys) /\ Paired (StepsV H) ys sss /\ i < done.length /\ i < sss.length /\ Q (.bl (decide (done.getD i 0 = (sss.getD i []).length))) H
noncomputable def sp_Floor_begin_holding (K : PySem.W.Frag) (C : Addr) : Sp := fun vs H Q _ => ∃ (x : Addr) (hs : List Hd) (S Y : Hp) (F : Fl) (A : FA) (h t : Int), vs = [.ref x, .int h, .int t] /\ FlAt C hs S Y H x F A /\ second F.holders t = none /\ Sorted F.held /\ F.held.length <= 90000 /\ F.holders.length <= 90000 /\
  ∀ Y' H', Same Y Y' -> FlAt C hs S Y' H' x (hold F h t) A -> Q .non H'
noncomputable def sp_Floor_pass_on (K : PySem.W.Frag) (C : Addr) : Sp := fun vs H Q _ => ∃ (x : Addr) (hs : List Hd) (S Y : Hp) (F : Fl) (A : FA) (G : Nat -> List Int) (t : Int) (i : Nat), vs = [.ref x, .int t] /\ FlAt C hs S Y H x F A /\ Small hs /\ Core hs F G /\ second F.holders t = some (i : Int) /\
  ∀ p Y' H', Same Y Y' -> Y p = none -> FlAt C hs S Y' H' x (passOn hs F t).1 A -> Y' p = some (.lst (nV (passOn hs F t).2)) -> Q (.ref p) H'
noncomputable def sp_Floor_tools_of (K : PySem.W.Frag) (C : Addr) : Sp := fun vs H Q _ => ∃ (x : Addr) (hs : List Hd) (S Y : Hp) (F : Fl) (A : FA) (i : Nat), vs = [.ref x, .int i] /\ FlAt C hs S Y H x F A /\ F.held.length <= 90000 /\
  ∀ p Y' H', Same Y Y' -> Y p = none -> FlAt C hs S Y' H' x F A -> Y' p = some (.lst ((toolsOf F i).map V.int)) -> Q (.ref p) H'
noncomputable def sp_Floor_give_back (K : PySem.W.Frag) (C : Addr) : Sp := fun vs H Q _ => ∃ (x qa : Addr) (hs : List Hd) (S Y : Hp) (F : Fl) (A : FA) (G : Nat -> List Int) (q : List Nat) (n : Nat), vs = [.ref x, .ref qa] /\ FlAt C hs S Y H x F A /\ Small hs /\ Y qa = some (.lst (nV q)) /\ S qa = none /\
  OkX hs F (q.filter (fin hs F)) none G /\ Que hs F q /\ F.wanted.length + q.length < n /\ ∀ Y' H', (∀ b o, b ≠ qa -> Y b = some o -> Y' b = some o) -> FlAt C hs S Y' H' x (giveBack hs n q F) A -> Q .non H'
noncomputable def sp_Floor_begin_waiting (K : PySem.W.Frag) (C : Addr) : Sp := fun vs H Q _ => ∃ (x : Addr) (hs : List Hd) (S Y : Hp) (F : Fl) (A : FA) (t : Int) (i : Nat), vs = [.ref x, .int i, .int t] /\ FlAt C hs S Y H x F A /\ WF F.holders (F.wanted ++ [((i : Int), t)]) /\ second F.wanted (i : Int) = none /\ F.wanted.length <= 500 /\
  F.going.length <= 1000 /\ ∀ Y' H' A', Same Y Y' -> FlAt C hs S Y' H' x (wait F i t) A' -> Q .non H'
noncomputable def wordS : Word -> Str
  | .worked => "worked"
  | .took => "took"
  | .gave => "gave"
  | .waits => "waits"
noncomputable def sp_Floor_serve (K : PySem.W.Frag) (C : Addr) : Sp := fun vs H Q _ => ∃ (x : Addr) (hs : List Hd) (S Y : Hp) (F : Fl) (A : FA) (i : Nat), vs = [.ref x, .int i] /\ FlAt C hs S Y H x F A /\ Small hs /\ Good hs F /\ i < hs.length /\ fin hs F i = false /\ second F.wanted (i : Int) = none /\
  ∀ Y' H' A', Same Y Y' -> FlAt C hs S Y' H' x (serve hs F i).1 A' -> Q (.str (wordS (serve hs F i).2)) H'
noncomputable def entry (hs : List Hd) (F : Fl) : List V := match (chain hs F).getLast? with
  | none => [.non, .str "idle"]
  | some i => [.int i, .str (wordS (serve hs { F with tick := F.tick + 1 } i.toNat).2)]
noncomputable def sp_Floor_pass_tick (K : PySem.W.Frag) (C : Addr) : Sp := fun vs H Q _ => ∃ (x c : Addr) (hs : List Hd) (S Y : Hp) (F : Fl) (A : FA), vs = [.ref x, .ref c] /\ FlAt C hs S Y H x F A /\ Small hs /\ Good hs F /\ Y c = some (.lst ((chain hs F).map V.int)) /\
  ∀ p Y' H' A', Same Y Y' -> FlAt C hs S Y' H' x (dayN hs F) A' -> Y' p = some (.tup (entry hs F)) -> Q (.ref p) H'
noncomputable def sp_Floor_find_chain (K : PySem.W.Frag) (C : Addr) : Sp := fun vs H Q _ => ∃ (x : Addr) (hs : List Hd) (S Y : Hp) (F : Fl) (A : FA), vs = [.ref x] /\ FlAt C hs S Y H x F A /\ Small hs /\ Good hs F /\
  ∀ p Y' H', Same Y Y' -> Y p = none -> FlAt C hs S Y' H' x F A -> Y' p = some (.lst ((chain hs F).map V.int)) -> Q (.ref p) H'
noncomputable def PageX (z : Addr) (Y : Hp) (v : V) (p : Pg) : Prop := ∃ b c1 l1 w1 d1, v = .ref b /\ Y b = some (.tup [.ref c1, .ref l1, .ref w1, .ref d1]) /\ Y c1 = some (.lst (p.chain.map V.int)) /\ (∃ ys, Y l1 = some (.lst ys) /\ IsPairs Y ys p.held) /\ (∃ ys, Y w1 = some (.lst ys) /\ IsPairs Y ys p.waits) /\ Y d1 = some (.lst (nV p.done)) /\
  c1 ≠ z /\ l1 ≠ z /\ w1 ≠ z /\ d1 ≠ z
theorem PageX.same {z : Addr} {Y Z : Hp} {v : V} {p : Pg} (h : PageX z Y v p) (m : Same Y Z) : PageX z Z v p := by
  obtain ⟨b, c1, l1, w1, d1, e, h1, h2, ⟨ys, h3, h4⟩, ⟨zs, h5, h6⟩, h7, n⟩ := h
  exact ⟨b, c1, l1, w1, d1, e, m _ _ h1, m _ _ h2, ⟨ys, m _ _ h3, h4.same m⟩, ⟨zs, m _ _ h5, h6.same m⟩, m _ _ h7, n⟩
theorem PageX.mut {z : Addr} {Y : Hp} {v : V} {p : Pg} {old new : List V} (h : PageX z Y v p) (hz : Y z = some (.lst old)) : PageX z (upd Y z (.lst new)) v p := by
  obtain ⟨b, c1, l1, w1, d1, e, h1, h2, ⟨ys, h3, h4⟩, ⟨zs, h5, h6⟩, h7, n1, n2, n3, n4⟩ := h
  have nb : b ≠ z := fun q => by rw [q, hz] at h1; cases h1
  exact ⟨b, c1, l1, w1, d1, e, by rw [upd_ne nb]; exact h1, by rw [upd_ne n1]; exact h2, ⟨ys, by rw [upd_ne n2]; exact h3, h4.upd (.inr ⟨old, hz⟩)⟩, ⟨zs, by rw [upd_ne n3]; exact h5, h6.upd (.inr ⟨old, hz⟩)⟩, by rw [upd_ne n4]; exact h7, n1, n2, n3, n4⟩
noncomputable def sp_Floor_show_page (K : PySem.W.Frag) (C : Addr) : Sp := fun vs H Q _ => ∃ (x c : Addr) (hs : List Hd) (S Y : Hp) (F : Fl) (A : FA) (ch : List Int), vs = [.ref x, .ref c] /\ FlAt C hs S Y H x F A /\ Small hs /\ Good hs F /\ H c = some (.lst (ch.map V.int)) /\ ch.length <= 1000 /\
  ∀ v Y' H' p, Same Y Y' -> FlAt C hs S Y' H' x F A -> PgOf ch F p -> (∀ z o, Y z = some o -> PageX z Y' v p) -> Q v H'
noncomputable def sp_Floor___init__ (K : PySem.W.Frag) (C : Addr) : Sp := fun vs H Q _ => ∃ (x a dx : Addr) (hs : List Hd) (Y : Hp), vs = [.ref x, .ref a] /\ H x = some (.ins C dx []) /\ Y x = none /\ HandsAt Y a hs /\ Same Y H /\ hs.length <= 60 /\
  ∀ S Y' H' A, Same Y S -> FlAt C hs S Y' H' x (dayS hs) A -> Q .non H'
noncomputable def sp_is_step (K : PySem.W.Frag) : Sp := fun vs H Q _ => ∃ (b : Addr) (s : Stp), vs = [.ref b] /\ H b = some (.tup (stpL s)) /\ Q (.bl true) H
noncomputable def sp_refuse_wrong (K : PySem.W.Frag) : Sp := fun vs H Q _ => ∃ (a : Addr) (hs : List Hd), vs = [.ref a] /\ HandsAt H a hs /\ (∀ h ∈ hs, 0 <= h.comes) /\ ∀ H', Same H H' -> Q .non H'
noncomputable def sp_begin (K : PySem.W.Frag) (C : Addr) : Sp := fun vs H Q _ => ∃ (a : Addr) (hs : List Hd), vs = [.ref a] /\ HandsAt H a hs /\ (∀ h ∈ hs, 0 <= h.comes) /\ hs.length <= 60 /\
  ∀ x S Y H' A, Same H S -> FlAt C hs S Y H' x (dayS hs) A -> Q (.ref x) H'
noncomputable def sp_pages_of (K : PySem.W.Frag) (C : Addr) : Sp := fun vs H Q _ => ∃ (a : Addr) (hs : List Hd), vs = [.ref a] /\ HandsAt H a hs /\ (∀ h ∈ hs, 0 <= h.comes) /\ Small hs /\
  ∀ p ys pgs m H', Same H H' -> H p = none -> H' p = some (.lst ys) -> Paired (PageX p H') ys pgs -> DayPgs hs pgs m -> Q (.ref p) H'
noncomputable def PagesI (C : Addr) (hs : List Hd) (S H0 : Hp) (a x pa : Addr) (m : Nat) (σ : St) (H : Hp) : Prop := ∃ (Y : Hp) (A : FA) (n : Nat) (ys : List V) (pgs : List Pg) (v : Option V), σ = [some (.ref a), some (.ref x), some (.ref pa), v] /\ FlAt C hs S Y H x (dayAt hs n) A /\ Same H0 Y /\ Y pa = some (.lst ys) /\ Paired (PageX pa Y) ys pgs /\
  pgs.length = n /\ (∀ k, k < n -> ∃ pg, pgs[k]? = some pg /\ PgOf (chain hs (dayAt hs k)) (dayAt hs k) pg) /\ (∀ k, k < n -> (dayAt hs k).going ≠ []) /\ m = mu hs (dayAt hs n) /\ n + mu hs (dayAt hs n) <= mu hs (dayAt hs 0)
end B
namespace L2
open PySem
section
variable {σ : St} {H : Hp} {K : PySem.W.Frag} {x C dx : Addr} {fs : List (Str × V)} {f : Str} {v : V}
theorem rd_f {P : V -> Prop} (e : H x = some (.ins C dx fs)) (c : Cls K C) (n : NoAttr K C f) (l : fs.lookup f = some v) (h : P v) :
    ∃ a C dx fs v, V.ref x = .ref a /\ H a = some (.ins C dx fs) /\ Cls K C /\ NoAttr K C f /\ fs.lookup f = some v /\ P v := ⟨x, C, dx, fs, v, rfl, e, c, n, l, h⟩
theorem rd_af {y : V} {R : Hp -> Prop} (e : H x = some (.ins C dx fs)) (c : Cls K C) (n : NoAttr K C f) (l : fs.length < 1000) (h : R (upd H x (.ins C dx (putF f y fs)))) :
    ∃ a C dx fs, V.ref x = .ref a /\ H a = some (.ins C dx fs) /\ Cls K C /\ NoAttr K C f /\ fs.length < 1000 /\ R (upd H a (.ins C dx (putF f y fs))) := ⟨x, C, dx, fs, rfl, e, c, n, l, h⟩
theorem rd_m {m : Str} {P : Prop} (e : H x = some (.ins C dx fs)) (l : fs.lookup m = none) (h : P) : ∃ a dx fs, V.ref x = .ref a /\ H a = some (.ins C dx fs) /\ fs.lookup m = none /\ P := ⟨x, dx, fs, rfl, e, l, h⟩
theorem rd_gsub {to ti : TE} {t : TSet} {R : St -> Hp -> Prop} (h : to σ H fun o H1 => ti σ H1 fun i H2 => t o i v H2 fun H3 => R σ H3) : gSub to ti t v σ H R := h
theorem rd_set {p : Addr} {xs : List V} {k : Nat} {R : Hp -> Prop} (e : H p = some (.lst xs)) (hk : k < xs.length) (h : R (upd H p (.lst (xs.set k v)))) : rSetL (.ref p) (.int (k : Int)) v H R := by
  refine ⟨p, xs, k, k, rfl, rfl, e, ?_, h⟩
  unfold ixN
  simp [hk]
theorem rd_popAt {l : Addr} {xs : List V} {k : Nat} {y : V} {Q : VK} (e : H l = some (.lst xs)) (z : xs.length <= 1000000) (hy : xs[k]? = some y) (h : Q y (upd H l (.lst (xs.eraseIdx k)))) : rPopAt (.ref l) [.int (k : Int)] H Q := by
  have hk := (List.getElem?_eq_some_iff.mp hy).1
  refine ⟨l, xs, k, k, y, rfl, rfl, e, by lia, by lia, ?_, hy, h⟩
  unfold seqIndex?
  have : ¬ (k : Int) < 0 := by lia
  simp [hk, this]
theorem rd_dpop {a : Addr} {ps : List (Int × Int)} {k v : Int} {Q : VK} (e : H a = some (dI ps)) (s : second ps k = some v) (h : Q (.int v) (upd H a (dI (ps.filter fun p => decide (p.1 ≠ k))))) : rDPop (.ref a) [.int k] H Q := by
  refine ⟨a, _, Sum.inl k, .int v, rfl, rfl, e, by rw [valV_dI, s]; rfl, ?_⟩
  have : dropK (ps.map fun p => ((Sum.inl p.1 : Key), V.int p.2)) (Sum.inl k) = (ps.filter fun p => decide (p.1 ≠ k)).map fun p => ((Sum.inl p.1 : Key), V.int p.2) := by
    unfold dropK
    rw [List.filter_map]
    congr 1
    refine List.filter_congr fun p _ => ?_
    simp
  rw [this]
  exact h
theorem rd_remove {l : Addr} {ns : List Nat} {i : Nat} {Q : VK} (e : H l = some (.lst (ns.map fun (j : Nat) => V.int (j : Int)))) (m : i ∈ ns) (h : Q .non (upd H l (.lst ((ns.erase i).map fun (j : Nat) => V.int (j : Int))))) : rRemove (.ref l) [.int (i : Int)] H Q := by
  have e1 : ∀ ns : List Nat, (ns.map fun (j : Nat) => V.int (j : Int)) = (ns.map fun (j : Nat) => (j : Int)).map V.int := fun ns => by rw [List.map_map]; rfl
  have e2 : ∀ ns : List Nat, (ns.map fun (j : Nat) => (j : Int)).erase (i : Int) = (ns.erase i).map fun (j : Nat) => (j : Int) := fun ns => by
    induction ns with
    | nil => rfl
    | cons a r ih =>
      rw [List.map_cons, List.erase_cons, List.erase_cons]
      by_cases q : a = i
      · subst q; simp
      · have h1 : ((a : Int) == (i : Int)) = false := by simp; lia
        have h2 : (a == i) = false := by simpa using q
        rw [h1, h2]
        simp only [Bool.false_eq_true, if_false, List.map_cons, ih]
  refine ⟨l, ns.map fun (j : Nat) => (j : Int), (i : Int), rfl, rfl, by rw [<- e1]; exact e, List.mem_map.mpr ⟨i, m, rfl⟩, ?_⟩
  rw [e2, <- e1]
  exact h
end
end L2
namespace B
open PySem L2
theorem nV_at {is : List Nat} {i : Nat} (h : i < is.length) : atI (nV is) (i : Int) = some (.int (is.getD i 0 : Nat)) := by
  refine atI_nat ?_
  rw [List.getElem?_map, List.getElem?_eq_getElem h, List.getD_eq_getElem?_getD, List.getElem?_eq_getElem h]
  rfl
theorem pair_at {H : Hp} {ys : List V} {ps : List (Int × Int)} (h : IsPairs H ys ps) {i : Nat} (hi : i < ps.length) : ∃ b, atI ys (i : Int) = some (.ref b) /\ H b = some (.tup [.int ps[i].1, .int ps[i].2]) := by
  obtain ⟨x, hx, b, e, q⟩ := Paired.get' h (List.getElem?_eq_getElem hi)
  subst e
  exact ⟨b, atI_nat hx, q⟩
theorem steps_at {H : Hp} {ys : List V} {sss : List (List Stp)} (h : Paired (StepsV H) ys sss) {i : Nat} (hi : i < sss.length) : ∃ b zs, atI ys (i : Int) = some (.ref b) /\ H b = some (.lst zs) /\ Paired (StpV H) zs (sss.getD i []) := by
  obtain ⟨x, hx, b, zs, e, q, r⟩ := Paired.get' h (List.getElem?_eq_getElem hi)
  subst e
  refine ⟨b, zs, atI_nat hx, q, ?_⟩
  rw [List.getD_eq_getElem?_getD, List.getElem?_eq_getElem hi]
  exact r
theorem put_I {ps : List (Int × Int)} {t h : Int} (hn : second ps t = none) : putK (ps.map fun p => ((Sum.inl p.1 : Key), V.int p.2)) (Sum.inl t) (.int h) = (ps ++ [(t, h)]).map fun p => ((Sum.inl p.1 : Key), V.int p.2) := by
  rw [putK_new _ (by rw [valV_dI, hn]; rfl), List.map_append]
  rfl
theorem nV_set (ds : List Nat) (k n : Nat) : (nV ds).set k (.int (n : Int)) = nV (ds.set k n) := by
  show (ds.map fun (i : Nat) => V.int (i : Int)).set k (.int (n : Int)) = (ds.set k n).map fun (i : Nat) => V.int (i : Int)
  rw [List.map_set]
theorem Paired.erase {α β : Type} {F : α -> β -> Prop} : ∀ {l₁ : List α} {l₂ : List β} (n : Nat), Paired F l₁ l₂ -> Paired F (l₁.eraseIdx n) (l₂.eraseIdx n) := by
  intro l₁ l₂ n h
  induction h generalizing n with
  | nil => exact .nil
  | cons r t ih =>
    cases n with
    | zero => exact t
    | succ n => exact .cons r (ih n)
noncomputable def PlaceI (a : Addr) (t : Int) (ps : List (Int × Int)) (H : Hp) (m : Nat) (σ : St) (H' : Hp) : Prop := ∃ (lo hi : Nat) (v : Option V), σ = [some (.ref a), some (.int t), some (.int (lo : Int)), some (.int (hi : Int)), v] /\ H' = H /\ m = hi - lo /\ lo <= hi /\ hi <= ps.length /\
  (∀ i (h : i < ps.length), i < lo -> ps[i].1 < t) /\ (∀ i (h : i < ps.length), hi <= i -> t <= ps[i].1)
theorem Que.len {hs : List Hd} {F : Fl} {q : List Nat} (Q : Que hs F q) : q.length <= hs.length := by
  have h1 : (q.map fun (i : Nat) => (i : Int)).Nodup := by
    rw [List.nodup_iff_pairwise_ne, List.pairwise_map]
    exact (List.nodup_iff_pairwise_ne.mp Q.nd).imp fun n e => n (by lia)
  have := nodup_len h1 (m := (List.range hs.length).map fun (i : Nat) => (i : Int)) fun x hx => by
    obtain ⟨i, hi, rfl⟩ := List.mem_map.mp hx
    exact List.mem_map.mpr ⟨i, List.mem_range.mpr (Q.free i hi).1, rfl⟩
  rw [List.length_map, List.length_map, List.length_range] at this
  exact this
theorem passAll_snoc (hs : List Hd) (t : Int) : ∀ (ts : List Int) (s : Fl × List Nat), passAll hs (ts ++ [t]) s = ((passOn hs (passAll hs ts s).1 t).1, (passAll hs ts s).2 ++ (passOn hs (passAll hs ts s).1 t).2)
  | [], (F, q) => rfl
  | u :: ts, (F, q) => passAll_snoc hs t ts _
theorem giveBack_cons (hs : List Hd) (n i : Nat) (q : List Nat) (F : Fl) : giveBack hs (n + 1) (i :: q) F = if fin hs F i = true then giveBack hs n (passAll hs (toolsOf F i) ({ F with going := F.going.erase i }, q)).2 (passAll hs (toolsOf F i) ({ F with going := F.going.erase i }, q)).1 else giveBack hs n q F := rfl
noncomputable def GiveI (C : Addr) (hs : List Hd) (S : Hp) (x qa : Addr) (A : FA) (Z : Fl) (Y0 : Hp) (m : Nat) (σ : St) (H : Hp) : Prop := ∃ (Y : Hp) (F : Fl) (G : Nat -> List Int) (q : List Nat) (n : Nat) (v1 v2 : Option V), σ = [some (.ref x), some (.ref qa), v1, v2] /\ FlAt C hs S Y H x F A /\ Y qa = some (.lst (nV q)) /\
  OkX hs F (q.filter (fin hs F)) none G /\ Que hs F q /\ F.wanted.length + q.length < n /\ giveBack hs n q F = Z /\ (∀ b o, b ≠ qa -> Y0 b = some o -> Y b = some o) /\ m = F.wanted.length + q.length
theorem FlAt.finP {C : Addr} {hs : List Hd} {S Y H : Hp} {x : Addr} {F : Fl} {A : FA} {i : Nat} {Q : VK} {E : XK} {K : PySem.W.Frag} (f : FlAt C hs S Y H x F A) (hl : F.done.length = hs.length) (hi : i < hs.length) (q : Q (.bl (fin hs F i)) H) : sp_Floor_is_finished K C [.ref x, .int i] H Q E := by
  obtain ⟨ys, h1, h2⟩ := f.sp
  exact ⟨x, A.dx, A.d, A.st, _, F.done, ys, hs.map (fun h : Hd => h.steps), i, rfl, f.ob, rfl, rfl, f.dn, f.SH _ _ h1, Paired.mapP h2 fun _ _ k => k.same f.SH, by lia, by simpa using hi, q⟩
noncomputable def nm : Stp -> Str
  | .work => "work"
  | .take _ => "take"
  | .give _ => "give"
noncomputable def w0 : Stp -> Str
  | .work => "worked"
  | .take _ => "took"
  | .give _ => "gave"
theorem stp_at0 (s : Stp) : atI (stpL s) 0 = some (.str (nm s)) := by cases s <;> rfl
theorem words_at (s : Stp) : valV wordsK (Sum.inr (nm s)) = some (.str (w0 s)) := by
  cases s with
  | work => decide +kernel
  | take t => show valV wordsK (Sum.inr "take") = some (.str "took"); decide +kernel
  | give t => show valV wordsK (Sum.inr "give") = some (.str "gave"); decide +kernel
theorem parts_at (s : Stp) : valV partsK (Sum.inr (nm s)) = some (.int ((stpL s).length : Nat)) := by
  cases s with
  | work => decide +kernel
  | take t => show valV partsK (Sum.inr "take") = some (.int (2 : Nat)); decide +kernel
  | give t => show valV partsK (Sum.inr "give") = some (.int (2 : Nat)); decide +kernel
theorem nV_snoc (l : List Nat) (j : Nat) : nV (l ++ [j]) = nV l ++ [V.int (j : Int)] := by
  show (l ++ [j]).map (fun (i : Nat) => V.int (i : Int)) = _
  rw [List.map_append]
  rfl
theorem stp_at {S : Hp} {zs : List V} {ss : List Stp} (h : Paired (StpV S) zs ss) {d : Nat} {s : Stp} (e : ss[d]? = some s) : ∃ b, atI zs (d : Int) = some (.ref b) /\ S b = some (.tup (stpL s)) := by
  obtain ⟨z, hz, b, rfl, q⟩ := Paired.get' h e
  exact ⟨b, atI_nat hz, q⟩
theorem init_new {C dx x p : Addr} {Y H : Hp} {fs gs : List (Str × V)} {o : HO} (hx : H x = some (.ins C dx fs)) (sm : Same Y H) (yx : Y x = none) (fp : H p = none) :
    upd H p o x = some (.ins C dx fs) /\ upd (upd H p o) x (.ins C dx gs) x = some (.ins C dx gs) /\ Same (upd Y p o) (upd (upd H p o) x (.ins C dx gs)) /\ upd Y p o x = none /\ upd Y p o p = some o /\ Same Y (upd Y p o) /\ (∀ q u, q ≠ x -> H q = some u -> upd (upd H p o) x (.ins C dx gs) q = some u) /\ (∀ q, Y q = none -> q ≠ p -> upd Y p o q = none) := by
  have px : x ≠ p := ne_of_none hx fp
  have yp : Y p = none := sm.free fp
  refine ⟨by rw [upd_ne px]; exact hx, upd_same, fun b u e => ?_, by rw [upd_ne px]; exact yx, upd_same, (Same.refl Y).updF yp, fun q u hq e => ?_, fun q e hq => by rw [upd_ne hq]; exact e⟩
  · have bx : b ≠ x := fun z => by rw [z, upd_ne px, yx] at e; cases e
    rw [upd_ne bx]
    by_cases z : b = p
    · subst z
      rw [upd_same] at e ⊢
      exact e
    · rw [upd_ne z] at e ⊢
      exact sm b u e
  · rw [upd_ne hq, upd_ne (ne_of_none e fp)]
    exact e
theorem init_mut {C dx x p : Addr} {Y H : Hp} {fs gs : List (Str × V)} {o : HO} (hx : H x = some (.ins C dx fs)) (sm : Same Y H) (yx : Y x = none) (fp : H p = none) :
    upd H p o x = some (.ins C dx fs) /\ upd (upd H p o) x (.ins C dx gs) x = some (.ins C dx gs) /\ Same Y (upd (upd H p o) x (.ins C dx gs)) /\ upd (upd H p o) x (.ins C dx gs) p = some o /\ Y p = none /\ (∀ q u, q ≠ x -> H q = some u -> upd (upd H p o) x (.ins C dx gs) q = some u) := by
  have px : x ≠ p := ne_of_none hx fp
  have yp : Y p = none := sm.free fp
  refine ⟨by rw [upd_ne px]; exact hx, upd_same, (sm.updF yp).updF yx, by rw [upd_ne px.symm, upd_same], yp, fun q u hq e => ?_⟩
  rw [upd_ne hq, upd_ne (ne_of_none e fp)]
  exact e
theorem waits_map {ps : List (Int × Int)} (nd : (ps.map (·.1)).Nodup) : (ps.map (·.1)).map (fun h => (h, (second ps h).getD 0)) = ps := by
  rw [List.map_map]
  refine (List.map_congr_left fun p hp => ?_).trans (List.map_id _)
  show (p.1, (second ps p.1).getD 0) = p
  rw [second_uniq nd hp]
  rfl
theorem waits_perm {ps : List (Int × Int)} {ns : List Int} (nd : (ps.map (·.1)).Nodup) (h : ns.Perm (ps.map (·.1))) : (ns.map fun h => (h, (second ps h).getD 0)).Perm ps := by
  have := h.map fun h => (h, (second ps h).getD 0)
  rw [waits_map nd] at this
  exact this
theorem waits_sorted {ps : List (Int × Int)} {ns : List Int} (nd : (ps.map (·.1)).Nodup) (h : ns.Perm (ps.map (·.1))) (s : ns.Pairwise (· <= ·)) : Sorted (ns.map fun h => (h, (second ps h).getD 0)) := by
  unfold Sorted
  rw [List.pairwise_map]
  have nn := List.nodup_iff_pairwise_ne.mp (h.nodup_iff.mpr nd)
  exact (s.and nn).imp fun q => by
    show _ < _
    have := q.1
    have := q.2
    lia
theorem serve_eq {hs : List Hd} {F : Fl} {i : Nat} {s : Stp} (e : (stepsOf hs i)[doneOf F i]? = some s) : serve hs F i = match s with
    | .take t => if (second F.holders t).isSome then (wait F i t, Word.waits) else (endStep hs (hold F i t) i [], .took)
    | .give t => if second F.holders t = some (i : Int) then let r := passOn hs F t; (endStep hs r.1 i r.2, .gave) else (endStep hs F i [], .gave)
    | .work => (endStep hs F i [], .worked) := by
  unfold serve
  unfold doneOf at e
  simp only [e]
  cases s <;> rfl
end B
namespace L2
open PySem
theorem rd_tMake {C : Addr} {sp : Sp} {t : TA} {σ : St} {H : Hp} {Q : VK} (h : t σ H fun vs H1 => ∀ x dx, H1 x = none -> H1 dx = none -> dx ≠ x -> sp (.ref x :: (vs ++ [])) (upd (upd H1 dx (.own x)) x (.ins C dx [])) (fun v H2 => v = .non /\ Q (.ref x) H2) E0) : tMake C sp [] E0 t σ H Q := h
theorem rd_ifG {c : TT} {t u : TS} {D : Ends} {σ : St} {H : Hp} (h : ∀ R : Bool -> Hp -> Prop, (∀ H1, R true H1 = t D σ H1) -> (∀ H1, R false H1 = u D σ H1) -> c σ H R) : tIfS c t u D σ H :=
  h (fun b H1 => if b = true then t D σ H1 else u D σ H1) (fun _ => if_pos rfl) fun _ => if_neg (by decide)
end L2
namespace B
open PySem L2
noncomputable def three (o t : Int) : Prop := t = 0 + o ∨ t = -1 + o ∨ t = 10 ^ 20 + o
noncomputable def stp3 (o : Int) : Stp -> Prop
  | .take t => three o t
  | _ => True
structure HsOk (hs : List Hd) (c : Nat) : Prop where
  len : hs.length = c
  come : ∀ h ∈ hs, 0 <= h.comes
  small : Small hs
  tools : ∃ o, ∀ t ∈ toolsAll hs, three o t
noncomputable def sp__law_hands_of (K : PySem.W.Frag) : Sp := fun vs H Q _ => ∃ (a : Addr) (cs : List Int) (c : Nat) (sd : Int), vs = [.ref a, .int c, .int sd] /\ SqL K H a (cs.map V.int) /\ cs.length <= 63 /\ 1 <= c /\ c <= 30 /\
  ∀ p hs H', Same H H' -> H p = none -> HandsAt H' p hs -> HsOk hs c -> Q (.ref p) H'
theorem nd_inj {l : List Addr} (nd : l.Nodup) {i j : Nat} (hi : i < l.length) (hj : j < l.length) (e : l[i] = l[j]) : i = j := by
  rcases Nat.lt_trichotomy i j with h | h | h
  · exact absurd e (List.pairwise_iff_getElem.mp (List.nodup_iff_pairwise_ne.mp nd) i j hi hj h)
  · exact h
  · exact absurd e.symm (List.pairwise_iff_getElem.mp (List.nodup_iff_pairwise_ne.mp nd) j i hj hi h)
structure Scr (o : Int) (k : Nat) (H0 H : Hp) (sa ta : List Addr) (sss : List (List Stp)) (tss : List (List Int)) : Prop where
  l1 : sa.length = sss.length
  l2 : ta.length = tss.length
  s : ∀ (j : Nat) (a : Addr) (ss : List Stp), sa[j]? = some a -> sss[j]? = some ss -> ∃ zs, H a = some (.lst zs) /\ Paired (StpV H) zs ss
  t : ∀ (j : Nat) (a : Addr) (ts : List Int), ta[j]? = some a -> tss[j]? = some ts -> H a = some (.lst (ts.map V.int))
  nd : (sa ++ ta).Nodup
  fr : ∀ a ∈ sa ++ ta, H0 a = none
  sm : Same H0 H
  b1 : ∀ ss ∈ sss, ss.length <= k /\ ∀ s ∈ ss, stp3 o s
  b2 : ∀ ts ∈ tss, ts.length <= k
theorem Scr.later {o : Int} {k : Nat} {H0 H H' : Hp} {sa ta : List Addr} {sss : List (List Stp)} {tss : List (List Int)} (c : Scr o k H0 H sa ta sss tss) (s : Same H H') : Scr o k H0 H' sa ta sss tss :=
  ⟨c.l1, c.l2, fun j a ss h1 h2 => let ⟨zs, q, r⟩ := c.s j a ss h1 h2; ⟨zs, s _ _ q, Paired.mapP r fun _ _ w => w.same s⟩, fun j a ts h1 h2 => s _ _ (c.t j a ts h1 h2), c.nd, c.fr, c.sm.trans s, c.b1, c.b2⟩
theorem StpV.updL {H : Hp} {z : V} {s : Stp} {p : Addr} {xs ys : List V} (h : StpV H z s) (hp : H p = some (.lst xs)) : StpV (upd H p (.lst ys)) z s := by
  obtain ⟨b, e, q⟩ := h
  exact ⟨b, e, by rw [upd_ne (ne_of q hp (by intro z; cases z))]; exact q⟩
theorem stps_updL {H : Hp} {zs : List V} {ss : List Stp} {p : Addr} {xs ys : List V} (h : Paired (StpV H) zs ss) (hp : H p = some (.lst xs)) : Paired (StpV (upd H p (.lst ys))) zs ss := Paired.mapP h fun _ _ w => w.updL hp
theorem Scr.step {o : Int} {k : Nat} {H0 H : Hp} {sa ta : List Addr} {sss : List (List Stp)} {tss : List (List Int)} (c : Scr o k H0 H sa ta sss tss) {j : Nat} {a b : Addr} {ss : List Stp} {zs : List V} {s : Stp} (h1 : sa[j]? = some a) (h2 : sss[j]? = some ss) (h3 : H a = some (.lst zs)) (h4 : Paired (StpV H) zs ss)
    (hb : StpV H (.ref b) s) (h3s : stp3 o s) : Scr o (k + 1) H0 (upd H a (.lst (zs ++ [.ref b]))) sa ta (sss.set j (ss ++ [s])) tss := by
  have nd := c.nd
  rw [List.nodup_append] at nd
  have fa : H0 a = none := c.fr a (List.mem_append_left _ (List.mem_of_getElem? h1))
  refine ⟨by rw [List.length_set]; exact c.l1, c.l2, fun i a' ss' e1 e2 => ?_, fun i a' ts e1 e2 => ?_, c.nd, c.fr, c.sm.updF fa, fun ss' hs' => ?_, fun ts ht => Nat.le_succ_of_le (c.b2 ts ht)⟩
  · by_cases q : i = j
    · subst q
      rw [h1] at e1
      cases e1
      rw [List.getElem?_set_self (by rw [<- c.l1]; exact (List.getElem?_eq_some_iff.mp h1).1)] at e2
      cases e2
      exact ⟨_, upd_same, Paired.app (stps_updL h4 h3) (.cons (hb.updL h3) .nil)⟩
    · rw [List.getElem?_set_ne (fun z => q z.symm)] at e2
      obtain ⟨zs', q1, q2⟩ := c.s i a' ss' e1 e2
      have ne : a' ≠ a := fun z => by
        subst z
        obtain ⟨hi, ei⟩ := List.getElem?_eq_some_iff.mp e1
        obtain ⟨hj, ej⟩ := List.getElem?_eq_some_iff.mp h1
        exact q (nd_inj nd.1 hi hj (ei.trans ej.symm))
      exact ⟨zs', by rw [upd_ne ne]; exact q1, stps_updL q2 h3⟩
  · have ne : a' ≠ a := fun z => nd.2.2 a (List.mem_of_getElem? h1) a' (List.mem_of_getElem? e1) z.symm
    rw [upd_ne ne]
    exact c.t i a' ts e1 e2
  · rcases List.mem_or_eq_of_mem_set hs' with q | q
    · have := c.b1 ss' q
      exact ⟨by lia, this.2⟩
    · subst q
      have := c.b1 ss (List.mem_of_getElem? h2)
      refine ⟨by rw [List.length_append, List.length_singleton]; lia, fun s' hs'' => ?_⟩
      rcases List.mem_append.mp hs'' with z | z
      · exact this.2 s' z
      · have : s' = s := by simpa using z
        rw [this]
        exact h3s
theorem Scr.took {o : Int} {k : Nat} {H0 H : Hp} {sa ta : List Addr} {sss : List (List Stp)} {tss : List (List Int)} (c : Scr o k H0 H sa ta sss tss) {j : Nat} {a : Addr} {ts new : List Int} (h1 : ta[j]? = some a) (h2 : tss[j]? = some ts) (hl : new.length <= k) :
    Scr o k H0 (upd H a (.lst (new.map V.int))) sa ta sss (tss.set j new) := by
  have h3 := c.t j a ts h1 h2
  have nd := c.nd
  rw [List.nodup_append] at nd
  have fa : H0 a = none := c.fr a (List.mem_append_right _ (List.mem_of_getElem? h1))
  refine ⟨c.l1, by rw [List.length_set]; exact c.l2, fun i a' ss' e1 e2 => ?_, fun i a' ts' e1 e2 => ?_, c.nd, c.fr, c.sm.updF fa, c.b1, fun ts' ht => ?_⟩
  · obtain ⟨zs', q1, q2⟩ := c.s i a' ss' e1 e2
    have ne : a' ≠ a := fun z => nd.2.2 a' (List.mem_of_getElem? e1) a (List.mem_of_getElem? h1) z
    exact ⟨zs', by rw [upd_ne ne]; exact q1, stps_updL q2 h3⟩
  · by_cases q : i = j
    · subst q
      rw [h1] at e1
      cases e1
      rw [List.getElem?_set_self (by rw [<- c.l2]; exact (List.getElem?_eq_some_iff.mp h1).1)] at e2
      cases e2
      exact upd_same
    · rw [List.getElem?_set_ne (fun z => q z.symm)] at e2
      have ne : a' ≠ a := fun z => by
        subst z
        obtain ⟨hi, ei⟩ := List.getElem?_eq_some_iff.mp e1
        obtain ⟨hj, ej⟩ := List.getElem?_eq_some_iff.mp h1
        exact q (nd_inj nd.2.1 hi hj (ei.trans ej.symm))
      rw [upd_ne ne]
      exact c.t i a' ts' e1 e2
  · rcases List.mem_or_eq_of_mem_set ht with q | q
    · exact c.b2 ts' q
    · rw [q]; exact hl
theorem StepsV.updL {H : Hp} {b p : Addr} {ss : List Stp} {xs ys : List V} (h : StepsV H (.ref b) ss) (hp : H p = some (.lst xs)) (ne : b ≠ p) : StepsV (upd H p (.lst ys)) (.ref b) ss := by
  obtain ⟨b', zs, e, q, r⟩ := h
  cases e
  exact ⟨b, zs, rfl, by rw [upd_ne ne]; exact q, stps_updL r hp⟩
structure Made (o : Int) (H0 H : Hp) (pm sc : Addr) (sa : List Addr) (sss : List (List Stp)) (hs : List Hd) (ys : List V) : Prop where
  sm : Same H0 H
  at_ : H pm = some (.lst ys)
  len : ys.length = hs.length
  each : ∀ (j : Nat) (y : V) (h : Hd), ys[j]? = some y -> hs[j]? = some h -> ∃ b sj, y = .ref b /\ H b = some (.tup [.int h.rank, .int h.comes, .ref sj]) /\ sa[j]? = some sj /\ sss[j]? = some h.steps
  sc : H sc = some (.lst (sa.map V.ref))
  st : ∀ (j : Nat) (b : Addr) (ss : List Stp), sa[j]? = some b -> sss[j]? = some ss -> StepsV H (.ref b) ss
  com : ∀ h ∈ hs, 0 <= h.comes /\ h.comes <= 10000
theorem Made.later {o : Int} {H0 H H' : Hp} {pm sc : Addr} {sa : List Addr} {sss : List (List Stp)} {hs : List Hd} {ys : List V} (m : Made o H0 H pm sc sa sss hs ys) (s : Same H H') : Made o H0 H' pm sc sa sss hs ys :=
  ⟨m.sm.trans s, s _ _ m.at_, m.len, fun j y h h1 h2 => let ⟨b, sj, e, q, r⟩ := m.each j y h h1 h2; ⟨b, sj, e, s _ _ q, r⟩, s _ _ m.sc, fun j b ss h1 h2 => (m.st j b ss h1 h2).same s, m.com⟩
theorem Made.add {o : Int} {H0 H : Hp} {pm sc : Addr} {sa : List Addr} {sss : List (List Stp)} {hs : List Hd} {ys : List V} (m : Made o H0 H pm sc sa sss hs ys) {b sj : Addr} {h : Hd} (f0 : H0 pm = none) (npm : ¬ pm ∈ sa) (nps : sc ≠ pm)
    (hb : H b = some (.tup [.int h.rank, .int h.comes, .ref sj])) (h1 : sa[hs.length]? = some sj) (h2 : sss[hs.length]? = some h.steps) (hc : 0 <= h.comes /\ h.comes <= 10000) : Made o H0 (upd H pm (.lst (ys ++ [.ref b]))) pm sc sa sss (hs ++ [h]) (ys ++ [.ref b]) := by
  have nb : ∀ {b' : Addr} {xs : List V}, H b' = some (.tup xs) -> b' ≠ pm := fun e z => by rw [z, m.at_] at e; cases e
  refine ⟨m.sm.updF f0, upd_same, by simp [m.len], fun j y h' e1 e2 => ?_, by rw [upd_ne nps]; exact m.sc, fun j a ss e1 e2 => (m.st j a ss e1 e2).updL m.at_ (fun z => npm (by rw [<- z]; exact List.mem_of_getElem? e1)), fun h' hh' => ?_⟩
  · by_cases q : j < hs.length
    · rw [List.getElem?_append_left (by rw [m.len]; exact q)] at e1
      rw [List.getElem?_append_left q] at e2
      obtain ⟨b', sj', e, q1, r⟩ := m.each j y h' e1 e2
      exact ⟨b', sj', e, by rw [upd_ne (nb q1)]; exact q1, r⟩
    · have hj := (List.getElem?_eq_some_iff.mp e2).1
      rw [List.length_append, List.length_singleton] at hj
      have : j = hs.length := by lia
      subst this
      rw [List.getElem?_append_right (by rw [m.len]; exact Nat.le_refl _), m.len, Nat.sub_self] at e1
      rw [List.getElem?_append_right (Nat.le_refl _), Nat.sub_self] at e2
      have e1 : V.ref b = y := by simpa using e1
      have e2 : h = h' := by simpa using e2
      subst e1 e2
      exact ⟨b, sj, rfl, by rw [upd_ne (nb hb)]; exact hb, h1, h2⟩
  · rcases List.mem_append.mp hh' with z | z
    · exact m.com h' z
    · have : h' = h := by simpa using z
      rw [this]
      exact hc
theorem Made.hands {o : Int} {H0 H : Hp} {pm sc : Addr} {sa : List Addr} {sss : List (List Stp)} {hs : List Hd} {ys : List V} (m : Made o H0 H pm sc sa sss hs ys) : HandsAt H pm hs := by
  refine ⟨ys, m.at_, paired_of m.len fun j y h e1 e2 => ?_⟩
  obtain ⟨b, sj, e, q, h1, h2⟩ := m.each j y h e1 e2
  exact ⟨b, .ref sj, e, q, m.st j sj h.steps h1 h2⟩
theorem Made.bound {o : Int} {k : Nat} {H0 H H5 : Hp} {pm sc : Addr} {sa ta : List Addr} {sss : List (List Stp)} {tss : List (List Int)} {hs : List Hd} {ys : List V} (m : Made o H0 H pm sc sa sss hs ys) (c : Scr o k H0 H5 sa ta sss tss) (hk : k <= 63) : ∀ h ∈ hs, h.steps.length <= 63 /\ ∀ s ∈ h.steps, stp3 o s := by
  intro h hh
  obtain ⟨j, hj, e⟩ := List.mem_iff_getElem.mp hh
  obtain ⟨b, sj, _, _, _, h2⟩ := m.each j (ys[j]'(by rw [m.len]; exact hj)) h (List.getElem?_eq_getElem _) (by rw [<- e]; exact List.getElem?_eq_getElem hj)
  have := c.b1 _ (List.mem_of_getElem? h2)
  exact ⟨by lia, this.2⟩
theorem atI_2 (a b : Int) (k : Bool) : atI [V.int a, V.int b] (if k then 1 else 0) = some (.int (if k then b else a)) := by cases k <;> rfl
theorem atI_refs {as : List Addr} {j : Nat} {a : Addr} (h : as[j]? = some a) : atI (as.map V.ref) (j : Int) = some (.ref a) := by
  refine atI_nat ?_
  rw [List.getElem?_map, h]
  rfl
theorem atI_prev {cs : List Int} {k : Nat} (h : k < cs.length) : ∃ z, atI (cs.map V.int) ((k : Int) - 1) = some (.int z) := by
  cases k with
  | zero =>
    have hne : cs ≠ [] := fun e => by rw [e] at h; cases h
    exact ⟨_, atI_lastD hne⟩
  | succ k =>
    rw [show (((k + 1 : Nat) : Int) - 1) = (k : Int) by lia]
    exact ⟨_, atI_ints (by lia)⟩
theorem atI_3 (a b c x : Int) : ∃ z, (z = a ∨ z = b ∨ z = c) /\ atI [V.int a, V.int b, V.int c] (x % 3) = some (.int z) := by
  have h : x % 3 = 0 ∨ x % 3 = 1 ∨ x % 3 = 2 := by lia
  rcases h with h | h | h <;> rw [h]
  · exact ⟨a, .inl rfl, rfl⟩
  · exact ⟨b, .inr (.inl rfl), rfl⟩
  · exact ⟨c, .inr (.inr rfl), rfl⟩
theorem small_of {hs : List Hd} {c : Nat} {o : Int} (hl : hs.length = c) (hc : c <= 30) (hst : ∀ h ∈ hs, h.steps.length <= 63 /\ ∀ s ∈ h.steps, stp3 o s) (hcm : ∀ h ∈ hs, 0 <= h.comes /\ h.comes <= 10000) : HsOk hs c := by
  refine ⟨hl, fun h hh => (hcm h hh).1, ⟨by lia, ?_, fun i => ?_, ?_⟩, o, fun t ht => ?_⟩
  · have : ∀ (l : List Hd), (∀ h ∈ l, h.steps.length <= 63) -> (toolsAll l).length <= 63 * l.length := by
      intro l
      induction l with
      | nil => intro _; simp [toolsAll]
      | cons h r ih =>
        intro hl
        have i1 := ih fun x hx => hl x (List.mem_cons_of_mem _ hx)
        have i2 := hl h List.mem_cons_self
        have i3 := List.length_filterMap_le takes h.steps
        show ((h.steps.filterMap takes) ++ toolsAll r).length <= 63 * (r.length + 1)
        rw [List.length_append]
        lia
    have := this hs fun h hh => (hst h hh).1
    lia
  · unfold stepsOf
    rw [List.getD_eq_getElem?_getD, List.getElem?_map]
    cases e : hs[i]? with
    | none => simp
    | some h =>
      have := (hst h (List.mem_of_getElem? e)).1
      show h.steps.length <= 1000
      lia
  · have : ∀ (l : List Hd), (∀ h ∈ l, h.comes <= 10000) -> maxCome l <= 10000 := by
      intro l
      induction l with
      | nil => intro _; simp [maxCome]
      | cons h r ih =>
        intro hl
        have i1 := ih fun x hx => hl x (List.mem_cons_of_mem _ hx)
        have i2 := hl h List.mem_cons_self
        show max h.comes.toNat (maxCome r) <= 10000
        lia
    have := this hs fun h hh => (hcm h hh).2
    lia
  · unfold toolsAll at ht
    obtain ⟨h, hh, q⟩ := List.mem_flatMap.mp ht
    obtain ⟨s, hs', e⟩ := List.mem_filterMap.mp q
    have := (hst h hh).2 s hs'
    cases s with
    | work => cases e
    | give t => cases e
    | take u => cases e; exact this
end B
namespace B
open PySem L2
end B
namespace B
open PySem L2
section
variable {hs : List Hd} {F : Fl} {p : Pg} {ch : List Int}
end
end B
namespace L2
open PySem
section
variable {σ : St} {H : Hp} {Q : VK} {r : R2} {ta : TE} {tr : TA} {R : List V -> Hp -> Prop} {i j : Nat} {x y c : V} {D : Ends} {u : TS} {g : TG}
theorem rd_opVV (ex : σ[i]? = some (some x)) (ey : σ[j]? = some (some y)) (h : r x y H Q) : tOp r (tVar i) (tVar j) σ H Q := ⟨x, ex, y, ey, h⟩
theorem rd_opVC (ex : σ[i]? = some (some x)) (h : r x c H Q) : tOp r (tVar i) (tC c) σ H Q := ⟨x, ex, h⟩
theorem rd_opXC (h : ta σ H fun x H1 => r x c H1 Q) : tOp r ta (tC c) σ H Q := h
theorem rd_consV (ex : σ[i]? = some (some x)) (h : tr σ H fun xs H1 => R (x :: xs) H1) : tCons (tVar i) tr σ H R := ⟨x, ex, h⟩
theorem rd_consVN (ex : σ[i]? = some (some x)) (h : R [x] H) : tCons (tVar i) tNil σ H R := ⟨x, ex, h⟩
theorem rd_consVVN (ex : σ[i]? = some (some x)) (ey : σ[j]? = some (some y)) (h : R [x, y] H) : tCons (tVar i) (tCons (tVar j) tNil) σ H R := ⟨x, ex, y, ey, h⟩
theorem rd_consCN (h : R [c] H) : tCons (tC c) tNil σ H R := h
end
end L2
namespace B
open PySem L2
inductive EntOk (w : World) : List DictEntry -> List (Key × V) -> Prop where
  | nil : EntOk w [] []
  | cons {s : Str} {t : Tok} {hh : Int} {v : V} {x : Value} {es : List DictEntry} {kvs : List (Key × V)} : hh = hashStr w s -> RelV v x -> EntOk w es kvs -> EntOk w (⟨hh, .str s t, x⟩ :: es) ((Sum.inr s, v) :: kvs)
theorem EntOk.all {P : Program} {w : World} {es : List DictEntry} {kvs : List (Key × V)} (h : EntOk w es kvs) : ∃ vs, KV kvs vs /\ (∀ e ∈ es, ∃ k, (mixKind P w).is k e.key = true /\ e.hash = (mixKind P w).hash k) /\ Pairs (mixKind P w) es vs /\ vs.map (·.1) = kvs.map (·.1) := by
  induction h with
  | nil => exact ⟨[], .nil, fun e he => (by cases he), .nil, rfl⟩
  | @cons s t hh v x es kvs h1 h2 _ ih =>
    obtain ⟨vs, i1, i2, i3, i4⟩ := ih
    refine ⟨(Sum.inr s, x) :: vs, .cons ⟨rfl, h2⟩ i1, fun e he => ?_, .cons (mixKind_str P w s t) rfl i3, by rw [List.map_cons, List.map_cons, i4]⟩
    rcases List.mem_cons.mp he with rfl | he
    · exact ⟨Sum.inr s, mixKind_str P w s t, h1⟩
    · exact i2 e he
theorem kdict_mk {w : World} {K : PySem.W.Frag} {h : Heap} {mg : Str -> Option Value} (X : K.In h) (G : h.Ns mainGlobals mg) {x : Str} {d : Addr} {es : Array DictEntry} {n : Nat} {kvs : List (Key × V)} (a : PySem.W.nsIn K mainGlobals x = some (some (.ref d)))
    (l : K.lookup d = some ⟨.type "dict", none, .dict es n, #[]⟩) (e : EntOk w es.toList kvs) (hd : (d == sysModules) = false) (nd : (kvs.map (·.1)).Nodup) : KDict K w mg x kvs := by
  refine ⟨d, PySem.W.mg_of X G a, hd, fun P h' X' => ?_⟩
  obtain ⟨vs, h1, h2, h3, h4⟩ := e.all (P := P)
  exact ⟨vs, h1, _, es, n, X' _ _ l, ⟨rfl, rfl, rfl⟩, rfl, fun e he => h2 e (Array.mem_toList_iff.mpr he), h3, by rw [h4]; exact nd⟩
theorem ent_WORDS {w : World} {h1 h2 h3 : Int} {t1 t2 t3 u1 u2 u3 : Tok} (e1 : h1 = hashStr w "work") (e2 : h2 = hashStr w "take") (e3 : h3 = hashStr w "give") :
    EntOk w [⟨h1, .str "work" t1, .str "worked" u1⟩, ⟨h2, .str "take" t2, .str "took" u2⟩, ⟨h3, .str "give" t3, .str "gave" u3⟩] wordsK := .cons e1 ⟨_, rfl⟩ (.cons e2 ⟨_, rfl⟩ (.cons e3 ⟨_, rfl⟩ .nil))
theorem ent_PARTS {w : World} {h1 h2 h3 : Int} {t1 t2 t3 u1 u2 u3 : Tok} (e1 : h1 = hashStr w "work") (e2 : h2 = hashStr w "take") (e3 : h3 = hashStr w "give") :
    EntOk w [⟨h1, .str "work" t1, .int 1 u1⟩, ⟨h2, .str "take" t2, .int 2 u2⟩, ⟨h3, .str "give" t3, .int 2 u3⟩] partsK := .cons e1 ⟨_, rfl⟩ (.cons e2 ⟨_, rfl⟩ (.cons e3 ⟨_, rfl⟩ .nil))
end B
namespace B
open PySem L2
noncomputable def HoE (H : Hp) (n : Nat) (acc : List V) (H' : Hp) : Prop := ∃ sa : List Addr, acc = sa.map V.ref /\ sa.length = n /\ sa.Nodup /\ (∀ b ∈ sa, H b = none /\ H' b = some (.lst [])) /\ Same H H'
noncomputable def HoS (a sc tk : Addr) (c : Nat) (sd : Int) (sa ta : List Addr) (H : Hp) (n : Nat) (σ : St) (H' : Hp) : Prop := ∃ sss tss v1 v2 v3 v4 v5, σ = [some (.ref a), some (.int (c : Int)), some (.int sd), some (.ref sc), some (.ref tk), v1, none, v2, v3, v4, v5, none, none] /\ Scr (sd / 7 % 10 ^ 30) n H H' sa ta sss tss /\ sss.length = c /\ tss.length = c /\ H' sc = some (.lst (sa.map V.ref)) /\ H' tk = some (.lst (ta.map V.ref))
noncomputable def HoM (a sc tk pm : Addr) (c : Nat) (sd : Int) (sa : List Addr) (sss : List (List Stp)) (H : Hp) (k : Nat) (σ : St) (H' : Hp) : Prop := ∃ hs ys w1 w2 w3 w4 w5 w6 w7, σ = [some (.ref a), some (.int (c : Int)), some (.int sd), some (.ref sc), some (.ref tk), w1, some (.ref pm), w2, w3, w4, w5, w6, w7] /\ Made (sd / 7 % 10 ^ 30) H H' pm sc sa sss hs ys /\ hs.length = k
theorem ls1 {us : List Value} (h : us.length = 1) : ∃ a, us = [a] := by
  cases us with
  | nil => cases h
  | cons a r => exact ⟨a, by rw [List.length_eq_zero_iff.mp (Nat.succ.inj h)]⟩
theorem ls2 {us : List Value} (h : us.length = 2) : ∃ a b, us = [a, b] := by
  cases us with
  | nil => cases h
  | cons a r => exact (ls1 (Nat.succ.inj h)).elim fun b e => ⟨a, b, by rw [e]⟩
theorem ls3 {us : List Value} (h : us.length = 3) : ∃ a b c, us = [a, b, c] := by
  cases us with
  | nil => cases h
  | cons a r => exact (ls2 (Nat.succ.inj h)).elim fun b e => e.elim fun c e => ⟨a, b, c, by rw [e]⟩
theorem ls4 {us : List Value} (h : us.length = 4) : ∃ a b c d, us = [a, b, c, d] := by
  cases us with
  | nil => cases h
  | cons a r => exact (ls3 (Nat.succ.inj h)).elim fun b e => e.elim fun c e => e.elim fun d e => ⟨a, b, c, d, by rw [e]⟩
end B
namespace B
open PySem L2
theorem nextOf_no {held waits : List (Int × Int)} {x : Int} (h : second waits x = none) : nextOf held waits x = none := by
  cases e : nextOf held waits x with
  | none => rfl
  | some y =>
    obtain ⟨t, h1, _⟩ := nextOf_ex e
    rw [h] at h1
    cases h1
section
variable {hs : List Hd} {F : Fl} {p : Pg} {L : List Int}
end
end B
namespace B
open PySem L2
noncomputable def sp_diary (K : PySem.W.Frag) (C : Addr) : Sp := fun vs H Q _ => ∃ (a : Addr) (hs : List Hd), vs = [.ref a] /\ HandsAt H a hs /\ (∀ h ∈ hs, 0 <= h.comes) /\ Small hs /\
  ∀ p ys m H', Same H H' -> H p = none -> H' p = some (.lst ys) -> ys.length = m -> (∀ k, k < m -> ∃ b, ys[k]? = some (.ref b) /\ H' b = some (.tup (entry hs (dayAt hs k)))) -> (∀ k, k < m -> (dayAt hs k).going ≠ []) -> (dayAt hs m).going = [] -> Q (.ref p) H'
noncomputable def DiaryI (C : Addr) (hs : List Hd) (S H0 : Hp) (a x pa : Addr) (m : Nat) (σ : St) (H : Hp) : Prop := ∃ (Y : Hp) (A : FA) (n : Nat) (ys : List V), σ = [some (.ref a), some (.ref x), some (.ref pa)] /\ FlAt C hs S Y H x (dayAt hs n) A /\ Same H0 Y /\ Y pa = some (.lst ys) /\ ys.length = n /\
  (∀ k, k < n -> ∃ b, ys[k]? = some (.ref b) /\ Y b = some (.tup (entry hs (dayAt hs k)))) /\ (∀ k, k < n -> (dayAt hs k).going ≠ []) /\ m = mu hs (dayAt hs n) /\ n + mu hs (dayAt hs n) <= mu hs (dayAt hs 0)
end B
namespace B
open PySem L2
end B
namespace B
open PySem L2
section
variable {held waits : List (Int × Int)} {L M : List Int}
theorem RingOk.closed (r : RingOk held waits L) {x y : Int} (hx : x ∈ L) (h : nextOf held waits x = some y) : y ∈ L := by
  obtain ⟨k, hk, e⟩ := List.mem_iff_getElem.mp hx
  obtain ⟨z, h1, h2⟩ := r.step k x (by rw [List.getElem?_eq_getElem hk, e])
  rw [h] at h2
  cases h2
  exact List.mem_of_getElem? h1
theorem ring_sub (r : RingOk held waits L) (m : RingOk held waits M) {x : Int} (h1 : x ∈ L) (h2 : x ∈ M) : ∀ y ∈ L, y ∈ M := by
  obtain ⟨a, ha, ea⟩ := List.mem_iff_getElem.mp h1
  have go : ∀ d : Nat, ∀ z, L[(a + d) % L.length]? = some z -> z ∈ M := by
    intro d
    induction d with
    | zero =>
      intro z hz
      rw [Nat.add_zero, Nat.mod_eq_of_lt ha, List.getElem?_eq_getElem ha, ea] at hz
      cases hz
      exact h2
    | succ d ih =>
      intro z hz
      have hl : (a + d) % L.length < L.length := Nat.mod_lt _ (by lia)
      obtain ⟨y, k1, k2⟩ := r.step _ _ (List.getElem?_eq_getElem hl)
      have e : ((a + d) % L.length + 1) % L.length = (a + (d + 1)) % L.length := by rw [Nat.mod_add_mod, Nat.add_assoc]
      rw [e, hz] at k1
      cases k1
      exact m.closed (ih _ (List.getElem?_eq_getElem hl)) k2
  intro y hy
  obtain ⟨b, hb, eb⟩ := List.mem_iff_getElem.mp hy
  refine go (b + L.length - a) y ?_
  rw [show a + (b + L.length - a) = b + L.length by lia, Nat.add_mod_right, Nat.mod_eq_of_lt hb, List.getElem?_eq_getElem hb, eb]
theorem row_ring (wf : WF held waits) (r : RingOk held waits L) {x : Int} (hx : x ∈ L) : ∀ y ∈ rowFrom held waits x, y ∈ L := by
  have R := rowFrom_ok wf x
  intro y hy
  obtain ⟨b, hb, eb⟩ := List.mem_iff_getElem.mp hy
  have go : ∀ (k : Nat) (z : Int), (rowFrom held waits x)[k]? = some z -> z ∈ L := by
    intro k
    induction k with
    | zero => intro z hz; rw [R.head] at hz; cases hz; exact hx
    | succ k ih =>
      intro z hz
      obtain ⟨hk, _⟩ := List.getElem?_eq_some_iff.mp hz
      have e := List.getElem?_eq_getElem (l := rowFrom held waits x) (i := k) (by lia)
      exact r.closed (ih _ e) (R.step k _ z e hz)
  exact go b y (by rw [List.getElem?_eq_getElem hb, eb])
theorem end_mem (wf : WF held waits) (h : Int) : rowEnd held waits h ∈ rowFrom held waits h := by
  have R := rowFrom_ok wf h
  have := R.up.last?
  exact List.mem_of_getLast? this
theorem ring_waits (r : RingOk held waits L) {x : Int} (hx : x ∈ L) : second waits x ≠ none := by
  obtain ⟨k, hk, e⟩ := List.mem_iff_getElem.mp hx
  obtain ⟨z, h1, h2⟩ := r.step k x (by rw [List.getElem?_eq_getElem hk, e])
  intro h
  rw [nextOf_no h] at h2
  cases h2
theorem ring_head (r : RingOk held waits L) : ∃ x, L[0]? = some x /\ x ∈ L := by
  cases L with
  | nil => exact absurd rfl r.ne
  | cons x l => exact ⟨x, rfl, List.mem_cons_self⟩
structure RingsOk (held waits : List (Int × Int)) (n : Nat) (Ls : List (List Int)) : Prop where
  ok : ∀ L ∈ Ls, RingOk held waits L /\ L.length <= 1000 /\ ∃ j : Nat, j < n /\ L[0]? = some (j : Int)
  asc : Ls.Pairwise fun L M => ∀ x y, L[0]? = some x -> M[0]? = some y -> x < y
  all : ∀ j : Nat, j < n -> ∀ L, RingOk held waits L -> L[0]? = some (j : Int) -> ∃ M ∈ Ls, ∀ y ∈ L, y ∈ M
  len : Ls.length <= n
theorem rings_start : RingsOk held waits 0 [] := ⟨fun _ h => absurd h List.not_mem_nil, List.Pairwise.nil, fun _ h => by lia, Nat.le_refl _⟩
theorem rings_none (wf : WF held waits) {n : Nat} {Ls : List (List Int)} (k : RingsOk held waits n Ls) (h : second waits (rowEnd held waits (n : Int)) = none) : RingsOk held waits (n + 1) Ls := by
  refine ⟨fun L hL => ?_, k.asc, fun j hj L r h0 => ?_, by have := k.len; lia⟩
  · obtain ⟨a, b, j, c, d⟩ := k.ok L hL
    exact ⟨a, b, j, by lia, d⟩
  · by_cases e : j = n
    · subst e
      exact absurd h (ring_waits r (row_ring wf r (List.mem_of_getElem? h0) _ (end_mem wf _)))
    · exact k.all j (by lia) L r h0
theorem ring_least (r : RingOk held waits L) (m : RingOk held waits M) {x y z : Int} (h1 : z ∈ L) (h2 : z ∈ M) (hx : L[0]? = some x) (hy : M[0]? = some y) : x = y := by
  have a := r.least x y hx (ring_sub m r h2 h1 y (List.mem_of_getElem? hy))
  have b := m.least y x hy (ring_sub r m h1 h2 x (List.mem_of_getElem? hx))
  lia
theorem rings_other (wf : WF held waits) {n : Nat} {Ls : List (List Int)} (k : RingsOk held waits n Ls) (r : RingOk held waits L) (h : rowEnd held waits (n : Int) ∈ L) (h0 : L[0]? ≠ some (n : Int)) : RingsOk held waits (n + 1) Ls := by
  refine ⟨fun L hL => ?_, k.asc, fun j hj M m hm => ?_, by have := k.len; lia⟩
  · obtain ⟨a, b, j, c, d⟩ := k.ok L hL
    exact ⟨a, b, j, by lia, d⟩
  · by_cases e : j = n
    · subst e
      have hz := row_ring wf m (List.mem_of_getElem? hm) _ (end_mem wf _)
      obtain ⟨x, hx, _⟩ := ring_head r
      rw [hx, ring_least r m h hz hx hm] at h0
      exact absurd rfl h0
    · exact k.all j (by lia) M m hm
theorem rings_new (wf : WF held waits) {n : Nat} {Ls : List (List Int)} (k : RingsOk held waits n Ls) (r : RingOk held waits L) (hl : L.length <= 1000) (h : rowEnd held waits (n : Int) ∈ L) (h0 : L[0]? = some (n : Int)) : RingsOk held waits (n + 1) (Ls ++ [L]) := by
  refine ⟨fun M hM => ?_, ?_, fun j hj M m hm => ?_, by have := k.len; simp; lia⟩
  · rcases List.mem_append.mp hM with q | q
    · obtain ⟨a, b, j, c, d⟩ := k.ok M q
      exact ⟨a, b, j, by lia, d⟩
    · rw [List.mem_singleton] at q
      subst q
      exact ⟨r, hl, n, by lia, h0⟩
  · rw [List.pairwise_append]
    refine ⟨k.asc, List.pairwise_singleton _ _, fun M hM N hN x y hx hy => ?_⟩
    rw [List.mem_singleton] at hN
    subst hN
    obtain ⟨_, _, j, c, d⟩ := k.ok M hM
    rw [d] at hx
    rw [h0] at hy
    cases hx
    cases hy
    lia
  · by_cases e : j = n
    · subst e
      have hz := row_ring wf m (List.mem_of_getElem? hm) _ (end_mem wf _)
      exact ⟨L, by simp, ring_sub m r hz h⟩
    · obtain ⟨N, h1, h2⟩ := k.all j (by lia) M m hm
      exact ⟨N, List.mem_append_left _ h1, h2⟩
end
noncomputable def RingX (z : Addr) (H : Hp) (v : V) (L : List Int) : Prop := ∃ b, v = .ref b /\ H b = some (.lst (L.map V.int)) /\ b ≠ z
theorem RingX.same {z : Addr} {H H' : Hp} {v : V} {L : List Int} (h : RingX z H v L) (s : Same H H') : RingX z H' v L := by
  obtain ⟨b, h1, h2, h3⟩ := h
  exact ⟨b, h1, s _ _ h2, h3⟩
theorem RingX.mut {z : Addr} {H : Hp} {v : V} {L : List Int} {o : HO} (h : RingX z H v L) : RingX z (upd H z o) v L := by
  obtain ⟨b, h1, h2, h3⟩ := h
  exact ⟨b, h1, by rw [upd_ne h3]; exact h2, h3⟩
noncomputable def sp_Floor_find_rings (K : PySem.W.Frag) (C : Addr) : Sp := fun vs H Q _ => ∃ (x : Addr) (hs : List Hd) (S Y : Hp) (F : Fl) (A : FA), vs = [.ref x] /\ FlAt C hs S Y H x F A /\ Small hs /\ Good hs F /\
  ∀ p ys Ls H', Same H H' -> H' p = some (.lst ys) -> Paired (RingX p H') ys Ls -> RingsOk F.holders F.wanted hs.length Ls -> Q (.ref p) H'
noncomputable def sp_rings (K : PySem.W.Frag) (C : Addr) : Sp := fun vs H Q _ => ∃ (a : Addr) (hs : List Hd), vs = [.ref a] /\ HandsAt H a hs /\ (∀ h ∈ hs, 0 <= h.comes) /\ Small hs /\
  ∀ p ys Ls m H', Same H H' -> H' p = some (.lst ys) -> Paired (RingX p H') ys Ls -> RingsOk (dayAt hs m).holders (dayAt hs m).wanted hs.length Ls -> (∀ k, k < m -> (dayAt hs k).going ≠ []) -> (dayAt hs m).going = [] -> Q (.ref p) H'
noncomputable def RingsI (C : Addr) (hs : List Hd) (S H0 : Hp) (a x : Addr) (m : Nat) (σ : St) (H : Hp) : Prop := ∃ (Y : Hp) (A : FA) (n : Nat), σ = [some (.ref a), some (.ref x)] /\ FlAt C hs S Y H x (dayAt hs n) A /\ Same H0 Y /\ (∀ k, k < n -> (dayAt hs k).going ≠ []) /\ m = mu hs (dayAt hs n)
theorem ring_at {L : List Int} {k : Nat} {x : Int} (h : L[k]? = some x) : atI (L.map V.int) (k : Int) = some (.int x) := atI_nat (by rw [List.getElem?_map, h]; rfl)
end B
namespace B
open PySem L2
theorem gh_new {G H : Hp} {p : Addr} {o : HO} (s : Same G H) (f : H p = none) : Same (upd G p o) (upd H p o) /\ Same G (upd G p o) := by
  refine ⟨fun b u e => ?_, (Same.refl G).updF (s.free f)⟩
  by_cases z : b = p
  · subst z
    rw [upd_same] at e ⊢
    exact e
  · rw [upd_ne z] at e ⊢
    exact s _ _ e
end B
namespace L2
open PySem
theorem rd_seqG {t u : TS} {D : Ends} {σ : St} {H : Hp} (h : ∀ R : St -> Hp -> Prop, R = u D -> t { D with nx := R } σ H) : tSeq t u D σ H := h _ rfl
theorem rd_nxE {R X : St -> Hp -> Prop} {σ : St} {H : Hp} (e : R = X) (h : X σ H) : R σ H := e ▸ h
theorem Room.up {j k : Nat} {A : Around} (r : Room k A) (h : j <= k := by decide) : Room j A := r.mono h
theorem qe_ixA {X : Cx} {a b : Expr} {ta tb : TE} {pos : Pos} (K : PySem.W.Frag) (ha : QE X a ta) (hb : QE X b tb) (hs : PlainIx b := by exact fun _ _ => rfl) (hK : X.K = K := by rfl) : QE X (.Subscript a b pos) (tOp (rIx K) ta tb) := qe_ix K ha hb hs hK
noncomputable abbrev fnQ (n q : Str) (s : Stmt) (kV dc pm : Value) (an : Option Addr) (cd ct : Value) : FuncData := PySem.W.fnOf n q (defArgs s) (defBody s) (defScope s) .none kV dc pm an cd ct
structure Hid (R X : St -> Hp -> Prop) : Prop where
  eq : R = X
theorem rd_seqH {t u : TS} {D : Ends} {σ : St} {H : Hp} (h : ∀ R : St -> Hp -> Prop, Hid R (u D) -> t { D with nx := R } σ H) : tSeq t u D σ H := h _ ⟨rfl⟩
end L2
namespace My
open PySem PyProof.Rows PySem.W
section
variable {prog : Program} {w : World} {A : Around} {E : Value -> Shared -> Prop} {s : Shared}
end
end My
namespace L2
open PySem PySem.Spec PyProof.Rows
section
variable {X : Cx}
end
end L2
namespace B
open PySem L2
section
variable {hs : List Hd} {F : Fl} {p : Pg} {ch : List Int}
end
end B
namespace My
open PySem
noncomputable def lB (b : Nat) : List Nat := (List.range 6).filter fun i => b.testBit i
noncomputable def tB (b : Nat) (led : Bool) : SetTable := { mask := if (lB b).length < 5 then 7 else 31, place := (lB b).toArray, dummies := #[], finger := 0, led := led, moves := if (lB b).length < 5 then 0 else 1, plain := true }
section
variable {prog : Program} {w : World} {A : Around} {E : Value -> Shared -> Prop} {s : Shared}
end
end My
namespace My
open PySem
section
variable {prog : Program} {w : World} {A : Around} {E : Value -> Shared -> Prop} {s : Shared}
end
end My
namespace My
open PySem PyProof.Rows
section
variable {prog : Program} {w : World} {A : Around} {R : Result -> Shared -> Prop} {I : Addr} {fp wr : List Addr} {G : Array GenState -> Array GenState -> Prop} {n : Nat} {P : Nat -> Value -> Prop} {St : Nat -> Shared -> Prop}
end
section
variable {prog : Program} {w : World} {A : Around} {E : Value -> Shared -> Prop} {s : Shared}
end
end My
namespace My
open PySem PyProof.Rows PySem.W
section
variable {prog : Program} {w : World} {A : Around} {E : Value -> Shared -> Prop} {s : Shared} {r : Addr}
end
end My
namespace L2
open PySem PySem.Spec PyProof.Rows
section
variable {X : Cx}
end
end L2
namespace B
open PySem L2
section
variable {hs : List Hd} {F : Fl} {p : Pg} {ch : List Int}
end
end B
namespace L2
open PySem
theorem alloc_ex {H : Hp} {p : Addr} (f : H p = none) (o : HO) : ∃ H2, upd H p o = H2 /\ Same H H2 /\ H2 p = some o := ⟨_, rfl, (Same.refl H).updF f, upd_same⟩
theorem ghost_ex {G H : Hp} {p pm : Addr} {l : HO} (gs : Same G H) (f : H p = none) (hm : H pm = some l) (gpm : G pm = none) (o : HO) : ∃ H2 G2, upd H p o = H2 /\ Same G2 H2 /\ Same G G2 /\ G2 p = some o /\ H2 pm = some l /\ G2 pm = none := by
  have ne : pm ≠ p := fun z => by rw [z, f] at hm; cases hm
  obtain ⟨a, b⟩ := B.gh_new (o := o) gs f
  exact ⟨_, upd G p o, rfl, a, b, upd_same, by rw [upd_ne ne]; exact hm, by rw [upd_ne ne]; exact gpm⟩
theorem ghost_put {G H : Hp} {pm : Addr} (gs : Same G H) (gpm : G pm = none) (o : HO) : ∃ H2, upd H pm o = H2 /\ Same G H2 /\ H2 pm = some o := ⟨_, rfl, gs.updF gpm, upd_same⟩
end L2
namespace My
open PySem
noncomputable def Fly (h h0 : Heap) (e : Addr) (cls : Value) (T : Addr) (fl : Value) : Prop :=
  ∃ oe vs oT ts, h.get? e = some oe /\ (oe.cls = cls /\ oe.dict = none) /\ oe.data = .fields vs /\ vs[1]? = some (.ref T) /\ h0.get? e = none /\ h0.get? T = none /\ T ≠ e /\ h.get? T = some oT /\ oT.data = .fields ts /\ ts[3]? = some fl
theorem dict_mapFields (o : Obj) (f : Array Value -> Array Value) : (o.mapFields f).dict = o.dict := by
  obtain ⟨c, d, da, sl⟩ := o
  cases da <;> rfl
structure Lft (fs : List Addr) (e T T' : Addr) (h h' : Heap) : Prop where
  keep : ∀ b o, h.get? b = some o -> b ∉ fs -> b ≠ e -> b ≠ T -> h'.get? b = some o
  slot : ∀ b o, h.get? b = some o -> b ≠ e -> b ≠ T -> ∃ sl, h'.get? b = some { o with slots := sl }
  there : ∀ b o, h.get? b = some o -> ∃ o', h'.get? b = some o'
  new : T' = h.objs.size
section
variable {M : Model} {A : Around} {E : Value -> Shared -> Prop} {s : Shared}
theorem entry_new {base h0 : Heap} {env : Env} {outer : List Env} {L e : Addr} {oe : Obj} {vs : Array Value} {head : Value} {hadNext : Bool} {Q : Unit -> Shared -> Prop}
    (hfr : A.frames = some (env :: outer)) (hl : s.heap.FunFrames base (env :: outer)) (hf : env.frame = some L)
    (he : s.heap.get? e = some oe) (hdn : oe.dict = none) (hen : h0.get? e = none) (hold : ∀ b, s.heap.get? b = none -> h0.get? b = none) (hd : oe.data = .fields vs) (hsz : 1 < vs.size)
    (h : ∀ h', Lft ((env :: outer).filterMap (·.frame)) e e s.heap.objs.size s.heap h' -> Fly h' h0 e oe.cls s.heap.objs.size .none -> Q () { s with heap := h' }) :
    wpAny M A (do let a <- frameOf env; let pl <- entryPlaceOf L hadNext; let b <- EntryCells.newEntry head a .none (rawInt L) .none pl; setField (.ref e) 1 b) (fun _ s' => wpAny M A (setFlight (.ref e) none) Q E s') E s := by
  have hene : e ∉ (env :: outer).filterMap (·.frame) := fun hm => by
    obtain ⟨_, o, ho, hnf⟩ := hl.mem hm
    rw [he] at ho; injection ho with ho; subst ho; exact hnf vs hd
  refine wpAny_bind (wpAny_frameOf_fun hfr hl hf fun h₁ hs₁ => ?_)
  refine wpAny_bind (wpAny_entryPlaceOf fun pl hpl => ?_)
  unfold EntryCells.newEntry newFields
  refine wpAny_bind (wpAny_newObj_type ?_ (hpl.sizeOk5 _ _ _ _ _))
  have he₁ : h₁.get? e = some oe := (hs₁.2.1 e hene).trans he
  have he₂ := Heap.get?_push_of_some (h := h₁) { cls := .type "traceback", dict := none, data := .fields ([head, .ref L, .none, rawInt L, .none] ++ (if pl.isEmpty then List.replicate 6 Value.none else pl)).toArray } he₁
  refine wpAny_setField he₂ hd hsz ?_
  have hTe : h₁.objs.size ≠ e := Nat.ne_of_gt (Heap.lt_size he₁)
  have hd₃ := Obj.data_mapFields hd (·.setIfInBounds 1 (Value.ref h₁.objs.size))
  have he₃ := Heap.get?_update_self (Obj.mapFields (·.setIfInBounds 1 (Value.ref h₁.objs.size))) he₂ (Obj.isFreed_of_fields hd₃)
  have hT₃ := (Heap.get?_update_other (h₁.push { cls := .type "traceback", dict := none, data := .fields ([head, .ref L, .none, rawInt L, .none] ++ (if pl.isEmpty then List.replicate 6 Value.none else pl)).toArray })
    (Obj.mapFields (·.setIfInBounds 1 (Value.ref h₁.objs.size))) (Ne.symm hTe)).trans (Heap.get?_push_size h₁ rfl)
  unfold setFlight
  refine wpAny_bind (wpAny_field he₃ hd₃ (x := .ref h₁.objs.size) (by simp [hsz]) ?_)
  rw [if_pos (show (Value.ref h₁.objs.size != Value.none) = true from by simp)]
  have hs1 : h₁.objs.size = s.heap.objs.size := hs₁.1
  refine wpAny_setField hT₃ rfl (by simp only [List.size_toArray, List.length_append, List.length_cons, List.length_nil] <;> lia) (h _ ?_ ?_)
  · have keep : ∀ b o, b ≠ e -> h₁.get? b = some o ->
        (((h₁.push { cls := .type "traceback", dict := none, data := .fields ([head, .ref L, .none, rawInt L, .none] ++ (if pl.isEmpty then List.replicate 6 Value.none else pl)).toArray }).update e (Obj.mapFields (·.setIfInBounds 1 (Value.ref h₁.objs.size)))).update h₁.objs.size
          (Obj.mapFields (·.setIfInBounds 3 ((none : Option Addr).elim Value.none fun f => rawInt f)))).get? b = some o := fun b o hbe hb => by
      have hbT : h₁.objs.size ≠ b := Nat.ne_of_gt (Heap.lt_size hb)
      rw [Heap.get?_update_other _ _ hbT, Heap.get?_update_other _ _ (Ne.symm hbe)]
      exact Heap.get?_push_of_some _ hb
    refine ⟨fun b o hb hnf hbe _ => keep b o hbe ((hs₁.2.1 b hnf).trans hb), fun b o hb hbe _ => ?_, fun b o hb => ?_, rfl⟩
    · obtain ⟨sl, hsl⟩ := hs₁.2.2 b o hb
      exact ⟨sl, keep b _ hbe hsl⟩
    · by_cases hbe : b = e
      · subst hbe
        exact ⟨_, (Heap.get?_update_other _ _ hTe).trans he₃⟩
      · obtain ⟨sl, hsl⟩ := hs₁.2.2 b o hb
        exact ⟨_, keep b _ hbe hsl⟩
  · rw [<- hs1]
    refine ⟨_, _, _, _, ?_, ⟨Obj.cls_mapFields _ _, (dict_mapFields _ _).trans hdn⟩, hd₃, by simp [hsz], hen, hold _ (Heap.get?_none_of_le (Nat.le_of_eq hs1.symm)), hTe, Heap.get?_update_self _ hT₃ (Obj.isFreed_of_fields (Obj.data_mapFields rfl _)), Obj.data_mapFields rfl _, ?_⟩
    · rw [Heap.get?_update_other _ _ hTe]; exact he₃
    · first | (simp; done) | (rcases hpl with h | h <;> simp [h])
theorem leave_first {base h0 : Heap} {env : Env} {outer : List Env} {L e : Addr} {oe : Obj} {vs : Array Value} {Q : Unit -> Shared -> Prop}
    (hfr : A.frames = some (env :: outer)) (hl : s.heap.FunFrames base (env :: outer)) (hf : env.frame = some L)
    (he : s.heap.get? e = some oe) (hdn : oe.dict = none) (hen : h0.get? e = none) (hold : ∀ b, s.heap.get? b = none -> h0.get? b = none) (hd : oe.data = .fields vs) (h1 : vs[1]? = some .none)
    (h : ∀ h', Lft ((env :: outer).filterMap (·.frame)) e e s.heap.objs.size s.heap h' -> Fly h' h0 e oe.cls s.heap.objs.size .none -> Q () { s with heap := h' }) : wpAny M A (leaving env (.ref e)) Q E s := by
  unfold leaving noteFrame
  simp only [hf]
  refine wpAny_bind (wpAny_bind (wpAny_field he hd h1 ?_))
  rw [if_neg (by decide)]
  exact entry_new hfr hl hf he hdn hen hold hd (Array.getElem?_eq_some_iff.mp h1).1 h
theorem note_next {base h0 : Heap} {env : Env} {outer : List Env} {L e T : Addr} {cls : Value} {Q : Unit -> Shared -> Prop}
    (hfr : A.frames = some (env :: outer)) (hl : s.heap.FunFrames base (env :: outer)) (hf : env.frame = some L) (ht : Fly s.heap h0 e cls T .none) (hold : ∀ b, s.heap.get? b = none -> h0.get? b = none)
    (h : ∀ h', Lft ((env :: outer).filterMap (·.frame)) e T s.heap.objs.size s.heap h' -> Fly h' h0 e cls s.heap.objs.size .none -> Q () { s with heap := h' }) : wpAny M A (noteFrame (.ref e) env) (fun _ s' => wpAny M A (setFlight (.ref e) none) Q E s') E s := by
  obtain ⟨oe, vs, oT, ts, he, ⟨hcls, hdn⟩, hd, h1, hen, hnT, hTe, hT, hdT, h3⟩ := ht
  subst hcls
  unfold noteFrame
  simp only [hf]
  refine wpAny_bind (wpAny_field he hd h1 ?_)
  rw [if_pos (show (Value.ref T != Value.none) = true from by simp)]
  refine wpAny_bind (wpAny_field hT hdT h3 ?_)
  rw [if_neg (show ¬ ((Value.none == rawInt L) = true) from by simp [rawInt])]
  refine wpAny_bind (wpAny_setField hT hdT (Array.getElem?_eq_some_iff.mp h3).1 ?_)
  have other : ∀ b, b ≠ T -> (s.heap.update T (Obj.mapFields (·.setIfInBounds 3 Value.none))).get? b = s.heap.get? b := fun b hb => Heap.get?_update_other _ _ (Ne.symm hb)
  have noRecord : ∀ b o, s.heap.get? b = some o -> (∀ vs, o.data ≠ .fields vs) -> b ≠ T := fun b o hb hnf q => by
    rw [q, hT] at hb; injection hb with hb; subst hb; exact hnf ts hdT
  have sz : (s.heap.update T (Obj.mapFields (·.setIfInBounds 3 Value.none))).objs.size = s.heap.objs.size := Heap.size_update ..
  have gT : ∃ o', (s.heap.update T (Obj.mapFields (·.setIfInBounds 3 Value.none))).get? T = some o' := ⟨_, Heap.get?_update_self _ hT (Obj.isFreed_of_fields (Obj.data_mapFields hdT _))⟩
  refine entry_new (s := { s with heap := s.heap.update T (Obj.mapFields (·.setIfInBounds 3 Value.none)) }) hfr (hl.of_keeps fun b o hb hnf => ⟨o, (other b (noRecord b o hb hnf)).trans hb, rfl⟩) hf ((other e (Ne.symm hTe)).trans he) hdn hen (fun b hb => hold b ?old) hd (Array.getElem?_eq_some_iff.mp h1).1 fun h' l fl => ?_
  case old =>
    by_cases q : b = T
    · obtain ⟨o', ho'⟩ := gT
      rw [q, ho'] at hb; cases hb
    · exact (other b q).symm.trans hb
  dsimp only at l fl
  rw [sz] at l fl
  refine h h' ⟨fun b o hb hnf hbe hbT => l.keep b o ((other b hbT).trans hb) hnf hbe hbe, fun b o hb hbe hbT => l.slot b o ((other b hbT).trans hb) hbe hbe, fun b o hb => ?_, rfl⟩ fl
  · by_cases q : b = T
    · subst q
      obtain ⟨o', ho'⟩ := gT
      exact l.there b o' ho'
    · exact l.there b o ((other b q).trans hb)
theorem leave_next {base h0 : Heap} {env : Env} {outer : List Env} {L e T : Addr} {cls : Value} {Q : Unit -> Shared -> Prop}
    (hfr : A.frames = some (env :: outer)) (hl : s.heap.FunFrames base (env :: outer)) (hf : env.frame = some L) (ht : Fly s.heap h0 e cls T .none) (hold : ∀ b, s.heap.get? b = none -> h0.get? b = none)
    (h : ∀ h', Lft ((env :: outer).filterMap (·.frame)) e T s.heap.objs.size s.heap h' -> Fly h' h0 e cls s.heap.objs.size .none -> Q () { s with heap := h' }) : wpAny M A (leaving env (.ref e)) Q E s := by
  unfold leaving
  exact wpAny_bind (note_next hfr hl hf ht hold h)
theorem flight_off {h0 : Heap} {fs : List Addr} {e T : Addr} {cls : Value} {Q : Unit -> Shared -> Prop} (ht : Fly s.heap h0 e cls T .none)
    (h : ∀ h', Lft fs T T s.heap.objs.size s.heap h' -> Fly h' h0 e cls T .none -> Q () { s with heap := h' }) : wpAny M A (setFlight (.ref e) none) Q E s := by
  obtain ⟨oe, vs, oT, ts, he, hcls, hd, h1, hen, hnT, hTe, hT, hdT, h3⟩ := ht
  unfold setFlight
  refine wpAny_bind (wpAny_field he hd h1 ?_)
  rw [if_pos (show (Value.ref T != Value.none) = true from by simp)]
  have hb : 3 < ts.size := (Array.getElem?_eq_some_iff.mp h3).1
  refine wpAny_setField hT hdT hb (h _ ?_ ?_)
  · have other : ∀ b, b ≠ T -> (s.heap.update T (Obj.mapFields (·.setIfInBounds 3 ((none : Option Addr).elim Value.none fun f => rawInt f)))).get? b = s.heap.get? b := fun b hb => Heap.get?_update_other _ _ (Ne.symm hb)
    refine ⟨fun b o q _ n _ => (other b n).trans q, fun b o q n _ => ⟨o.slots, (other b n).trans q⟩, fun b o q => ?_, rfl⟩
    by_cases e : b = T
    · subst e; exact ⟨_, Heap.get?_update_self _ hT (Obj.isFreed_of_fields (Obj.data_mapFields hdT _))⟩
    · exact ⟨o, (other b e).trans q⟩
  · exact ⟨oe, vs, _, _, (Heap.get?_update_other _ _ hTe).trans he, hcls, hd, h1, hen, hnT, hTe, Heap.get?_update_self _ hT (Obj.isFreed_of_fields (Obj.data_mapFields hdT _)), Obj.data_mapFields hdT _, by simp [hb]⟩
end
end My
namespace My
open PySem PySem.W PySem.Spec PySem.Calls PyProof.Rows
section
variable {prog : Program} {w : World} {A : Around} {E : Value -> Shared -> Prop} {s : Shared} {K : Frag} {x D : Addr} {ox : Obj}
theorem findObj_none {name : Str} {a g : Value} {C : Addr} (hc : (clsIn K C).isSome = true) (ha : findIn K (.ref C) name = some (some a)) (hg : specialIn K a "__get__" = some (some g)) (ht : takesIn K a = some true) : findObj K C none name = some (.bind g a) := by
  obtain ⟨cd, hc⟩ := Option.isSome_iff_exists.mp hc
  unfold findObj
  rw [hc, Option.bind_some, ha, Option.bind_some]
  simp [hg, ht]
structure ExcK (K : Frag) (D : Addr) : Prop where
  ga : findIn K (.ref D) "__getattribute__" = some (some (.builtin "BaseException.__getattribute__"))
  gt : findIn K (.ref D) "__getattr__" = some none
  cl : (clsIn K D).isSome = true
  ca : findIn K (.ref D) "__class__" = some (some (.builtin "object.__class__"))
  sp : specialIn K (.builtin "object.__class__") "__get__" = some (some (.builtin "getset_descriptor.__get__"))
  tk : takesIn K (.builtin "object.__class__") = some true
  mo : mroIn K D (.type "object") = some true
  mb : mroIn K D (.type "BaseException") = some true
theorem exc_entry {tk : Tok} {P : Value -> Shared -> Prop} (Z : ExcK K D) (X : K.In s.heap) (I : InstAt s.heap x ox D none) (h : P (.ref D) s) :
    wpAny (model prog w) A (Builtin.«object.__getattribute__» ⟨[.ref x, .str "__class__" tk], []⟩) (fun fin s' => match fin with | .done (.ret v) => P v s' | _ => False) E s := by
  obtain ⟨hh, gg, d, t, os⟩ := s
  have L0 := I.type (M := model prog w)
  have L1 := looks_find (M := model prog w) X I (findObj_none Z.cl Z.ca Z.sp Z.tk)
  refine wpAny_bind (wpAny_pure (wpAny_bind (wpAny_pure (wpAny_bind (L0.at (wpAny_bind (L1.at ?_)))))))
  show wpAny _ _ (holding [.builtin "object.__class__"] (call (.builtin "getset_descriptor.__get__") [.builtin "object.__class__", .ref x, .ref D]) >>= ret) _ _ _
  exact wpAny_bind (wpAny_holding (wpAny_call (class_get X I Z.mo (wpAny_pure h))))
theorem exc_call {tk : Tok} {R : Result -> Shared -> Prop} (Z : ExcK K D) (X : K.In s.heap) (I : InstAt s.heap x ox D none) (h : R (.ok (.ret (.ref D))) s) :
    codeAny (model prog w) A (.call (.builtin "BaseException.__getattribute__") ⟨[.ref x, .str "__class__" tk], []⟩) R s := by
  obtain ⟨hh, gg, d, t, os⟩ := s
  have L0 := I.type (M := model prog w)
  have L1 := looks_mroIn (M := model prog w) X Z.mb
  refine codeAny_call_builtin F.excAttr_ValueError.ga.plain F.entry_bexc_ga ?_
  have hk : builtinKind "BaseException.__getattribute__" = some .slot := by decide +kernel
  have hsplit : splitId "BaseException.__getattribute__" = some ("BaseException", "__getattribute__") := by decide +kernel
  have ha := F.args_bexc_ga (.ref x) (.str "__class__" tk)
  simp only [checkBuiltinCall, hk, hsplit]
  refine wpAny_bind ?_
  unfold isInstance
  refine wpAny_bind (L0.at (L1.at ?_))
  rw [if_neg (by decide)]
  have fin : wpAny (model prog w) A.in1 (Builtin.«object.__getattribute__» { pos := [Value.ref x, Value.str (Str.ofString "__class__") tk] }) (fun fin s' =>
          match fin with
          | Fin.done f => R (Except.ok f) s'
          | Fin.again c' => c'.quiet = true /\ codeAny (model prog w) A c' R s') (fun e s' => R (Except.error e) s') { heap := hh, gens := gg, drawn := d, toks := t, os := os } := by
    refine wpAny_mono (exc_entry (P := fun v s' => R (.ok (.ret v)) s') Z X I h) (fun fin s' z => ?_) fun _ _ z => z
    rcases fin with (_ | _ | _ | _) | _ <;> first | exact z | exact z.elim
  revert ha
  unfold argsOk
  cases Manifest.signature? "BaseException.__getattribute__" with
  | none => intro _; exact wpAny_pure fin
  | some sig => intro e; dsimp only at e ⊢; rw [e]; exact wpAny_pure fin
theorem exc_class {Q : Option Value -> Shared -> Prop} (Z : ExcK K D) (X : K.In s.heap) (I : InstAt s.heap x ox D none) (h : Q (some (.ref D)) { s with toks := s.toks + 1 }) : wpAny (model prog w) A (getAttr? (.ref x) "__class__") Q E s := by
  obtain ⟨hh, gg, d, t, os⟩ := s
  have L0 := I.type (M := model prog w)
  have L1 := looks_findIn (M := model prog w) X Z.ga
  have L2 := looks_findIn (M := model prog w) X Z.gt
  have hx2 : (Value.builtin "BaseException.__getattribute__" == Value.builtin "object.__getattribute__") = false := by decide +kernel
  have hx1 : ¬ ((onTheHeap (Value.ref D) && Value.builtin "BaseException.__getattribute__" == Value.builtin "object.__getattribute__") = true) := by rw [hx2]; simp
  unfold getAttr? getAttrBy? getAttrBy
  refine wpAny_bind (wpAny_mkText (wpAny_bind (wpAny_attempt (wpAny_holding (wpAny_bind (L0.at (wpAny_bind (L1.at ?_))))))))
  dsimp only
  rw [if_neg hx1]
  unfold getAttrByItsOwn hookBefore
  rw [if_pos (by rfl)]
  refine wpAny_bind (L2.at (wpAny_bind (wpAny_attempt (wpAny_holding ?_))))
  unfold callGetattribute boundAndCalled
  rw [if_neg (by decide), F.excAttr_ValueError.ga.bind]
  refine wpAny_bind (wpAny_pure (wpAny_call (exc_call Z X I ?_)))
  exact wpAny_pure (wpAny_pure h)
theorem kitx_exc (Z : ExcK K D) : KitX K (.ref x) (.ref D) (fun h => InstAt h x ox D none) where
  ty := fun _ _ _ I => I.type
  it := fun _ _ X _ => by
    obtain ⟨cdD, hcD⟩ := Option.isSome_iff_exists.mp Z.cl
    unfold clsIn at hcD
    split at hcD
    · rename_i c' d' cd' sl' ho
      intro A' Q' E' s' k q
      unfold isType loadHead
      exact wpAny_bind (wpAny_loadPart (k _ _ (X _ _ ho)) (wpAny_pure q))
    · cases hcD
  ne := fun h tp dd its n sl X htp => by
    obtain ⟨cdD, hcD⟩ := Option.isSome_iff_exists.mp Z.cl
    refine Bool.eq_false_iff.mpr fun q => ?_
    have e : D = tp := Value.ref.inj (beq_iff_eq.mp q)
    subst e
    unfold clsIn at hcD
    split at hcD
    · rename_i c' d' cd' sl' ho
      have z := (X _ _ ho).symm.trans htp
      cases z
    · cases hcD
  ca := fun X I k => exc_class Z X I k
end
end My
namespace L2
open PySem PySem.Spec PyProof.Rows
noncomputable def CX1 (P : Program) (w : World) : CXT := fun outer H s E e s' => ∃ (a T C : Addr) (H' : Hp), e = .ref a /\ s'.os = s.os /\ AllBare s'.gens /\ Un (frs outer) [] H H' s.heap s'.heap /\ HOk P w H' s'.heap /\ H' a = none /\ H' T = none /\
  My.Fly s'.heap s.heap a (.ref C) T .none /\ E e (some C) H'
theorem funs_slots {h h' base : Heap} : ∀ {l : List Env}, (∀ b o, b ∈ frs l -> h.get? b = some o -> ∃ sl, h'.get? b = some { o with slots := sl }) -> h.FunFrames base l -> h'.FunFrames base l
  | [], _, _ => trivial
  | env :: r, k, hl => by
    obtain ⟨hk, ⟨L, o, hf, hn, ho, hd⟩, hr⟩ := hl
    obtain ⟨sl, e⟩ := k L o (by unfold frs; rw [List.filterMap_cons, hf]; exact List.mem_cons_self) ho
    exact ⟨hk, ⟨L, _, hf, hn, e, hd⟩, funs_slots (fun b o hb => k b o (by unfold frs; rw [List.filterMap_cons, hf]; exact List.mem_cons_of_mem _ hb)) hr⟩
theorem HOk.lft {P : Program} {w : World} {H : Hp} {h h' : Heap} (x : HOk P w H h) (k : ∀ b u, H b ≠ none -> h.get? b = some u -> h'.get? b = some u) : HOk P w H h' := fun b u e =>
  (x b u e).stay (fun c v hc r => k c v (by rcases hc with rfl | hc; rw [e]; simp; rw [hc]; simp) r) (fun _ r => r) fun _ _ r => r
section
variable {P : Program} {w : World} {K : PySem.W.Frag} {mg : Str -> Option Value} {base : Heap} {N : List Str} {qual : Str} {scope : Scope} {f : Addr} {cd : Value} {A : Around} {outer : List Env} {s0 : Shared} {H0 : Hp} {E : XK}
structure At (X : Cx) (H : Hp) (s : Shared) : Prop where
  fr : ∀ b ∈ frs X.stack, H b = none
  lt : X.s₀.heap.objs.size <= X.env.locals
  old : ∀ b, s.heap.get? b = none -> X.s₀.heap.get? b = none
theorem Inv.at1 {pins : List (Addr × Obj)} {σ : St} {H : Hp} {s : Shared} (I : Inv (cxOf (CX1 P w) P w K mg base N qual scope f cd A outer s0 H0 E) pins σ H s) : At (cxOf (CX1 P w) P w K mg base N qual scope f cd A outer s0 H0 E) H s := by
  obtain ⟨m, hn, _⟩ := I.loc
  obtain ⟨o, es, ep, ho, _⟩ := id hn
  have hlt := Heap.lt_size ho
  have ab := I.ok.above
  refine ⟨fun b hb => ?_, ab, fun b hb => ?_⟩
  · have hb : b ∈ frs ((cxOf (CX1 P w) P w K mg base N qual scope f cd A outer s0 H0 E).env :: outer) := hb
    unfold frs at hb
    rw [List.filterMap_cons] at hb
    rcases I.ok.stk with z | ⟨_, hf⟩
    · exact absurd (congrArg List.length z) (by show ¬ (outer.length + 1 = outer.length); lia)
    · rw [hf] at hb
      rcases List.mem_cons.mp hb with rfl | hb
      · exact I.free
      · obtain ⟨_, ob, hob, _⟩ := I.ok.funs.mem hb
        exact I.base.free b ob hob (I.ok.frf b hb) (by intro z; cases z)
  · cases q : (cxOf (CX1 P w) P w K mg base N qual scope f cd A outer s0 H0 E).s₀.heap.get? b with
    | none => rfl
    | some u =>
      obtain ⟨o', e⟩ := I.base.there b u q (by intro z; cases z)
      rw [e] at hb; cases hb
theorem left_out {pins : List (Addr × Obj)} {σ : St} {H H1 : Hp} {s s' : Shared} {a T C : Addr} {h' : Heap} (I : Inv (cxOf (CX1 P w) P w K mg base N qual scope f cd A outer s0 H0 E) pins σ H s)
    (os1 : s'.os = s.os) (ba1 : AllBare s'.gens) (un1 : Un (frs (cxOf (CX1 P w) P w K mg base N qual scope f cd A outer s0 H0 E).stack) [] H H1 s.heap s'.heap) (ok1 : HOk P w H1 s'.heap) (ha : H1 a = none) (hT : H1 T = none)
    (na : s.heap.get? a = none) (nT : s.heap.get? T = none)
    (l : My.Lft (frs (cxOf (CX1 P w) P w K mg base N qual scope f cd A outer s0 H0 E).stack) a T s'.heap.objs.size s'.heap h') (fl : My.Fly h' s0.heap a (.ref C) s'.heap.objs.size .none) (q : E (.ref a) (some C) H1) :
    CX1 P w outer H0 s0 E (.ref a) { s' with heap := h' } := by
  have at_ := I.at1
  have ost : ∀ b, b ∈ frs (cxOf (CX1 P w) P w K mg base N qual scope f cd A outer s0 H0 E).stack -> b ∉ frs outer -> b = (cxOf (CX1 P w) P w K mg base N qual scope f cd A outer s0 H0 E).env.locals := fun b hb hn => by
    have hb : b ∈ frs ((cxOf (CX1 P w) P w K mg base N qual scope f cd A outer s0 H0 E).env :: outer) := hb
    unfold frs at hb hn
    rw [List.filterMap_cons] at hb
    rcases I.ok.stk with z | ⟨_, hf⟩
    · exact absurd (congrArg List.length z) (by show ¬ (outer.length + 1 = outer.length); lia)
    · rw [hf] at hb
      rcases List.mem_cons.mp hb with z | z
      · exact z
      · exact absurd z hn
  have fr1 : ∀ b ∈ frs (cxOf (CX1 P w) P w K mg base N qual scope f cd A outer s0 H0 E).stack, H1 b = none := fun b hb => by
    obtain ⟨_, ob, hob, _⟩ := I.stack.mem hb
    exact un1.free b ob hob (at_.fr b hb) (by intro z; cases z)
  have ne_ex : ∀ b : Addr, b ∉ ([] : List Addr) := fun b z => by cases z
  have ninS : ∀ b o, s0.heap.get? b = some o -> b ∉ frs outer -> b ∉ frs (cxOf (CX1 P w) P w K mg base N qual scope f cd A outer s0 H0 E).stack := fun b o q hn hb => by
    have e := ost b hb hn
    have h1 := Heap.lt_size q
    have h2 : s0.heap.objs.size <= b := by rw [e]; exact at_.lt
    exact absurd h1 (Nat.not_lt.mpr h2)
  have nea : ∀ b o, s.heap.get? b = some o -> b ≠ a /\ b ≠ T := fun b o q => ⟨fun z => (by rw [z, na] at q; cases q), fun z => (by rw [z, nT] at q; cases q)⟩
  refine ⟨a, s'.heap.objs.size, C, H1, rfl, ?_, ba1, ⟨fun b o q n hb _ => ?_, fun b o q n hb _ => ?_, fun b o q n _ => ?_, fun b o q _ => ?_, fun b xs q => ?_, fun b o u q => ?_, fun b ps q => ?_⟩, ?_, ha, ok1.fresh (Nat.le_refl _), fl, q⟩
  · show s'.os = s0.os
    rw [os1]; exact I.os
  · have q1 := I.base.keep b o q n hb (ne_ex b)
    have n1 := I.base.free b o q n (ne_ex b)
    have hs := ninS b o q hb
    exact l.keep b o (un1.keep b o q1 n1 hs (ne_ex b)) hs (nea b o q1).1 (nea b o q1).2
  · obtain ⟨sl1, q1⟩ := I.base.slot b o q n hb (ne_ex b)
    have n1 := I.base.free b o q n (ne_ex b)
    obtain ⟨sl2, q2⟩ := un1.any q1 n1 (ne_ex b)
    obtain ⟨sl3, q3⟩ := l.slot b _ q2 (nea b _ q1).1 (nea b _ q1).2
    exact ⟨sl3, q3⟩
  · obtain ⟨o', q1⟩ := I.base.there b o q (ne_ex b)
    exact un1.free b o' q1 (I.base.free b o q n (ne_ex b)) (ne_ex b)
  · obtain ⟨o1, q1⟩ := I.base.there b o q (ne_ex b)
    obtain ⟨o2, q2⟩ := un1.there b o1 q1 (ne_ex b)
    exact l.there b o2 q2
  · exact un1.tups b xs (I.base.tups b xs q)
  · exact un1.frzs b o u (I.base.frzs b o u q)
  · obtain ⟨m1, e1⟩ := I.base.tbls b ps q
    obtain ⟨m2, e2⟩ := un1.tbls b _ e1
    exact ⟨m1 ++ m2, by rw [e2, Array.append_assoc]⟩
  · refine ok1.lft fun b u hb r => l.keep b u r (fun z => hb (fr1 b z)) (fun z => hb (z ▸ ha)) fun z => hb (z ▸ hT)
theorem passes1 : Passes (CX1 P w) (cxOf (CX1 P w) P w K mg base N qual scope f cd A outer s0 H0 E) E := by
  intro pins σ H s e s' I cx
  obtain ⟨a, T, C, H1, rfl, os1, ba1, un1, ok1, ha, hT, fly, q⟩ := cx
  have at_ := I.at1
  rcases I.ok.stk with z | ⟨hst, hf⟩
  · exact absurd (congrArg List.length z) (by show ¬ (outer.length + 1 = outer.length); lia)
  obtain ⟨oe, vs, oT, ts, f1, f2, f3, f4, f5, f6, f7, f8, f9, f10⟩ := id fly
  have fl0 : My.Fly s'.heap s0.heap a (.ref C) T .none := ⟨oe, vs, oT, ts, f1, f2, f3, f4, at_.old a f5, at_.old T f6, f7, f8, f9, f10⟩
  have hl : s'.heap.FunFrames base ((cxOf (CX1 P w) P w K mg base N qual scope f cd A outer s0 H0 E).env :: outer) := funs_slots (fun b o hb e => un1.slot b o e (at_.fr b hb) hb (by intro z; cases z)) I.stack
  refine My.leave_next (h0 := s0.heap) I.ok.frames hl hf fl0 (fun b hb => at_.old b ?_) fun h' l fl => left_out I os1 ba1 un1 ok1 ha hT f5 f6 l fl q
  cases z : s.heap.get? b with
  | none => rfl
  | some u => obtain ⟨o', e⟩ := un1.there b u z (by intro z; cases z); rw [e] at hb; cases hb
theorem HOk.here {P : Program} {w : World} {H : Hp} {h : Heap} {a : Addr} {o : HO} (y : HOk P w H h) (e : H a = some o) : ∃ u, h.get? a = some u := by
  have x := y a o e
  cases o with
  | lst xs => obtain ⟨_, _, _, _, e⟩ := x; exact ⟨_, e⟩
  | tup xs => obtain ⟨_, _, _, o, e, _⟩ := x; exact ⟨_, e⟩
  | dK kvs => obtain ⟨_, _, _, _, o, _, _, e, _⟩ := x; exact ⟨_, e⟩
  | dT kvs => obtain ⟨_, _, _, _, o, _, _, e, _⟩ := x; exact ⟨_, e⟩
  | set S n => obtain ⟨o, _, _, _, e, _⟩ := x; exact ⟨_, e⟩
  | ins C dx fs => obtain ⟨_, _, _, e, _⟩ := x; exact ⟨_, e⟩
  | own y => obtain ⟨_, e⟩ := x; exact ⟨_, e⟩
  | xd fs => obtain ⟨_, ⟨_, _, _, e, _⟩, _⟩ := x; exact ⟨_, e⟩
  | rng lo hi => obtain ⟨_, _, _, e⟩ := x; exact ⟨_, e⟩
  | frz ob u => obtain ⟨e, _⟩ := x; exact ⟨_, e⟩
  | tbl ps => exact ⟨_, show h.get? a = some _ from x⟩
  | met f y => exact ⟨_, show h.get? a = some _ from x⟩
  | ext φ => obtain ⟨_, ⟨_, e⟩, _⟩ := x; exact ⟨_, e⟩
theorem HOk.free {P : Program} {w : World} {H : Hp} {h : Heap} {a : Addr} (y : HOk P w H h) (e : h.get? a = none) : H a = none := by
  cases q : H a with
  | none => rfl
  | some u => obtain ⟨o, z⟩ := y.here q; rw [e] at z; cases z
noncomputable def tRaise (C : Addr) (E : XK) (t : TA) : TS := fun _ σ H => t σ H fun vs H1 => vs.length <= sizeLine /\ ∀ e, E e (some C) H1
theorem ps_raise {x : Str} {C : Addr} {B newId initId : String} {bm : List Value} {np cpos pos : Pos} {e₀ : Expr} {rest : List Expr} {t : TA} (O : OwnCls x C bm newId mg base) (FB : ExcBaseFacts B newId initId bm)
    (ha : PA (cxOf (CX1 P w) P w K mg base N qual scope f cd A outer s0 H0 E) (e₀ :: rest) t) (hg : Gl (cxOf (CX1 P w) P w K mg base N qual scope f cd A outer s0 H0 E) x) (hdb : (x == ("__debug__" : Str)) = false := by decide)
    (he : starEach (e₀ :: rest) (cxOf (CX1 P w) P w K mg base N qual scope f cd A outer s0 H0 E).env = (false, eval e₀ (cxOf (CX1 P w) P w K mg base N qual scope f cd A outer s0 H0 E).env) :: starEach rest (cxOf (CX1 P w) P w K mg base N qual scope f cd A outer s0 H0 E).env := by rfl)
    (hpl : (backTo cpos (starEach rest (cxOf (CX1 P w) P w K mg base N qual scope f cd A outer s0 H0 E).env)).any (·.1) = false := by rfl) :
    PS (cxOf (CX1 P w) P w K mg base N qual scope f cd A outer s0 H0 E) (.Raise (some (.Call (.Name x np) (e₀ :: rest) [] cpos)) none pos) (tRaise C E t) := by
  intro pins s σ H D I h
  obtain ⟨tl, Nn, nm, q, bs, hdct, sn, sub, ab, col, dd, k0, k1, k2, k3, k5, mN, hC, hN, hni, T⟩ := O.obj
  refine wpAny_Raise_call_subT (C := C) (nm := nm) (q := q) (N := Nn) (bs := bs) (bm := tl) (hdct := hdct) (sn := sn) (sub := sub) (ab := ab) (col := col) (dd := dd) (k0 := k0) (k1 := k1) (k2 := k2) (k3 := k3) (k5 := k5)
    FB (mN := mN) (T.hasType FB.hasBase) (I.ok.hd rfl) (by rw [he]; show (false || (backTo cpos (starEach rest (cxOf (CX1 P w) P w K mg base N qual scope f cd A outer s0 H0 E).env)).any (·.1)) = false; rw [hpl]; rfl) hni (ld_glob I hg O.bound ⟨rfl, ?_⟩ hdb)
  have h2 := ha cpos pins s σ H _ I h
  rw [he] at h2 ⊢
  refine Calls.evalArgs_plain (wpAny_mono h2 (fun us s2 ⟨vs, H2, I2, rv, hz, q2⟩ => ⟨rfl, by have := rv.length; show us.length <= _; lia, I2.bk _ _ hC, hN.keeps I2.bk, T.keeps I2.bk, fun h' e mx => ?_⟩) fun _ _ y => y)
  have at_ := I2.at1
  rcases I2.ok.stk with z | ⟨hst, hf⟩
  · exact absurd (congrArg List.length z) (by show ¬ (outer.length + 1 = outer.length); lia)
  obtain ⟨tt, me, _, _⟩ := mx.there
  have hl : h'.FunFrames base ((cxOf (CX1 P w) P w K mg base N qual scope f cd A outer s0 H0 E).env :: outer) := funs_slots (fun b o _ e => ⟨o.slots, mx.keeps b o e⟩) I2.stack
  have fe := I2.hok.free mx.new
  refine My.leave_first (s := { s2 with heap := h' }) (h0 := s0.heap) I2.ok.frames hl hf me rfl (at_.old e mx.new) (fun b hb => at_.old b ?_) rfl rfl fun h'' l fl => left_out (s' := { s2 with heap := h' }) I2 rfl I2.bare (Un.kept mx.keeps) (I2.hok.kept mx.keeps) fe fe mx.new mx.new l fl (q2 _)
  cases z : s2.heap.get? b with
  | none => rfl
  | some u => rw [mx.keeps b u z] at hb; cases hb
end
end L2
namespace L2
open PySem PySem.Spec PyProof.Rows
noncomputable def tF3 (te : TE) : TE := fun σ H Q => te σ H fun v H1 => ∃ n : Nat, v = .int n /\ n < 40 /\ ∀ y, Q (.str y) H1
theorem fld_len : ∀ n : Fin 40, (Str.length (Str.ofString (toString ((n.val : Nat) : Int)))) <= 1000 := by decide
theorem pe_f3 {X : Cx} {c1 c2 : Str} {e2 : Expr} {te : TE} {j1 j2 : Nat} {p1 p2 p3 p : Pos} (h2 : PE X e2 te) (l1 : c1.length <= 1000) (l2 : c2.length <= 1000) :
    PE X (.JoinedStr [.Constant (.str c1) j1 p1, .FormattedValue e2 (-1) none p2, .Constant (.str c2) j2 p3] p) (tF3 te) := by
  intro pins s σ H Q I h
  refine JoinedStr_many (joinParts_cons (Calls.Constant_str ?_))
  have e0 : (Str.empty ++ c1).length <= 1000 := by rw [Str.length_append]; show 0 + c1.length <= 1000; lia
  have big : 10000 <= sizeLine := by unfold sizeLine; decide
  refine ⟨by lia, joinParts_cons (FormattedValue_plain (thn (h2 pins _ σ H _ (I.tok _) h) ?_))⟩
  rintro u s1 ⟨v, H1, I1, rv, n, rfl, hn, q⟩
  obtain ⟨t, rfl⟩ := rv
  have hl : Str.length (Str.ofString (toString (n : Int))) <= 1000 := fld_len ⟨n, hn⟩
  refine wpAny_formatField_int ?_ ?_
  · show Nat.log2 n < 1920
    have := Nat.log2_le_self n
    lia
  have e1 : (Str.empty ++ c1 ++ Str.ofString (toString (n : Int))).length <= 2000 := by rw [Str.length_append]; lia
  refine ⟨by lia, joinParts_cons (Calls.Constant_str ?_)⟩
  have e2 : (Str.empty ++ c1 ++ Str.ofString (toString (n : Int)) ++ c2).length <= 3000 := by rw [Str.length_append]; lia
  refine ⟨by lia, joinParts_nil ?_ (by lia)⟩
  exact ⟨.str _, H1, ((I1.tok _).tok _).tok _, ⟨_, rfl⟩, q _⟩
theorem qe_f3 {X : Cx} {c1 c2 : Str} {e2 : Expr} {te : TE} {j1 j2 : Nat} {p1 p2 p3 p : Pos} (h2 : QE X e2 te) (l1 : c1.length <= 1000 := by decide) (l2 : c2.length <= 1000 := by decide) :
    QE X (.JoinedStr [.Constant (.str c1) j1 p1, .FormattedValue e2 (-1) none p2, .Constant (.str c2) j2 p3] p) (tF3 te) := ⟨pe_f3 h2.run l1 l2⟩
theorem qss_no {X : Cx} {ss : List Stmt} : QSs X ss sNo := ⟨fun _ _ _ _ _ _ h => h.elim⟩
section
variable {P : Program} {w : World} {K : PySem.W.Frag} {mg : Str -> Option Value} {base : Heap}
theorem Fun.okX {x qual : Str} {st : Stmt} {f : Addr} {fd : FuncData} {N ps : List Str} {k : Nat} {sp : Sp} (F : Fun K x qual st f fd) (S : FnScope N ps (defScope st)) (len : ∀ vs H Q E, sp vs H Q E -> vs.length = ps.length)
    (hbody : ∀ (cdv : Value) (A : Around) (outer : List Env) (s : Shared) (H : Hp) (E : XK), Room k (A.deeper (envOfC qual (defScope st) s.heap.objs.size f cdv)) ->
      ∃ t, QSs (cxOf (CX1 P w) P w K mg base N qual (defScope st) f cdv A outer s H E) (defBody st) t /\ ∀ (vs : List V) (Q : VK), sp vs H Q E -> t { nx := fun _ H' => Q .non H', rt := Q } (start N vs) H) : FnOk P w K mg base (CX1 P w) (k + 1) f fd ps sp := by
  obtain ⟨oc, od, kV, doc, pm, an, cdv, ct, osl, rfl, lk, hcd⟩ := F.ex
  refine fn_of lk hcd S len fun A outer s H vs Q E hr hsp => ?_
  obtain ⟨t, h, q⟩ := hbody cdv A outer s H E hr
  exact ⟨t, h.run, q vs Q hsp⟩
theorem FnOk.up {k : Nat} {f : Addr} {fd : FuncData} {ps : List Str} {sp : Sp} (F : FnOk P w K mg base CX0 k f fd ps sp) : FnOk P w K mg base (CX1 P w) k f fd ps sp :=
  ⟨F.len, fun A outer s H args us vs Q E hr he hb hv hs => codeAny_mono (F.run A outer s H args us vs Q E hr he hb hv hs) fun r s' hq => by
    cases r with
    | error e => exact False.elim hq
    | ok fl => cases fl <;> exact hq⟩
theorem FnOk.both {CX : CXT} {k : Nat} {f : Addr} {fd : FuncData} {ps : List Str} {sp1 sp2 : Sp} (F : FnOk P w K mg base CX k f fd ps sp1) (G : FnOk P w K mg base CX k f fd ps sp2) : FnOk P w K mg base CX k f fd ps fun vs H Q E => sp1 vs H Q E ∨ sp2 vs H Q E :=
  ⟨fun vs H Q E h => h.elim (F.len vs H Q E) (G.len vs H Q E), fun A outer s H args us vs Q E hr he hb hv hs => hs.elim (F.run A outer s H args us vs Q E hr he hb hv) (G.run A outer s H args us vs Q E hr he hb hv)⟩
structure Cal1 (P : Program) (w : World) (K : PySem.W.Frag) (mg : Str -> Option Value) (base : Heap) (x : Str) (ps : List Str) (k : Nat) (sp : Sp) : Prop where
  ex : ∃ (f : Addr) (fd : FuncData), mg x = some (.ref f) /\ PySem.W.keepIn K (.ref f) = true /\ Binds K fd ps [] /\ FnOk P w K mg base (CX1 P w) k f fd ps sp
theorem qe_callX {N : List Str} {qual : Str} {scope : Scope} {f : Addr} {cd : Value} {A : Around} {outer : List Env} {s0 : Shared} {H0 : Hp} {E : XK} {x : Str} {ps : List Str} {k : Nat} {sp : Sp} {p pos : Pos} {e : Expr} {es : List Expr} {t : TA} (C : Cal1 P w K mg base x ps k sp)
    (hr : Room k (cxOf (CX1 P w) P w K mg base N qual scope f cd A outer s0 H0 E).A) (ha : QA (cxOf (CX1 P w) P w K mg base N qual scope f cd A outer s0 H0 E) (e :: es) t) (hg : Gl (cxOf (CX1 P w) P w K mg base N qual scope f cd A outer s0 H0 E) x := by rfl)
    (hdb : (x == ("__debug__" : Str)) = false := by decide) (he : starEach (e :: es) (cxOf (CX1 P w) P w K mg base N qual scope f cd A outer s0 H0 E).env = (false, eval e (cxOf (CX1 P w) P w K mg base N qual scope f cd A outer s0 H0 E).env) :: starEach es (cxOf (CX1 P w) P w K mg base N qual scope f cd A outer s0 H0 E).env := by rfl)
    (hpl : (backTo pos (starEach es (cxOf (CX1 P w) P w K mg base N qual scope f cd A outer s0 H0 E).env)).any (·.1) = false := by rfl) :
    QE (cxOf (CX1 P w) P w K mg base N qual scope f cd A outer s0 H0 E) (.Call (.Name x p) (e :: es) [] pos) (tCall sp [] E t) := by
  obtain ⟨f, fd, h1, h2, h3, h4⟩ := C.ex
  exact ⟨pe_call h4 hr hg h1 h2 h3 .nil passes1 ha.run hdb he hpl⟩
theorem qs_raise {N : List Str} {qual : Str} {scope : Scope} {f : Addr} {cd : Value} {A : Around} {outer : List Env} {s0 : Shared} {H0 : Hp} {E : XK} {x : Str} {C : Addr} {B newId initId : String} {bm : List Value} {np cpos pos : Pos} {e₀ : Expr} {rest : List Expr} {t : TA}
    (O : OwnCls x C bm newId mg base) (FB : ExcBaseFacts B newId initId bm)
    (ha : QA (cxOf (CX1 P w) P w K mg base N qual scope f cd A outer s0 H0 E) (e₀ :: rest) t) (hg : Gl (cxOf (CX1 P w) P w K mg base N qual scope f cd A outer s0 H0 E) x := by rfl) (hdb : (x == ("__debug__" : Str)) = false := by decide)
    (he : starEach (e₀ :: rest) (cxOf (CX1 P w) P w K mg base N qual scope f cd A outer s0 H0 E).env = (false, eval e₀ (cxOf (CX1 P w) P w K mg base N qual scope f cd A outer s0 H0 E).env) :: starEach rest (cxOf (CX1 P w) P w K mg base N qual scope f cd A outer s0 H0 E).env := by rfl)
    (hpl : (backTo cpos (starEach rest (cxOf (CX1 P w) P w K mg base N qual scope f cd A outer s0 H0 E).env)).any (·.1) = false := by rfl) :
    QS (cxOf (CX1 P w) P w K mg base N qual scope f cd A outer s0 H0 E) (.Raise (some (.Call (.Name x np) (e₀ :: rest) [] cpos)) none pos) (tRaise C E t) := ⟨ps_raise O FB ha.run hg hdb he hpl⟩
end
end L2
namespace B
open PySem L2 PySem.Spec PyProof.Rows
structure Rh where
  rank : Int
  comes : Int
  steps : List (Str × List Int)
noncomputable def rsL (s : Str × List Int) : List V := .str s.1 :: s.2.map V.int
noncomputable def RsV (G : Hp) (z : V) (s : Str × List Int) : Prop := ∃ b, z = .ref b /\ G b = some (.tup (rsL s))
noncomputable def RStepsV (G : Hp) (y : V) (ss : List (Str × List Int)) : Prop := ∃ b zs, y = .ref b /\ G b = some (.lst zs) /\ Paired (RsV G) zs ss
noncomputable def RhV (G : Hp) (y : V) (h : Rh) : Prop := ∃ b v, y = .ref b /\ G b = some (.tup [.int h.rank, .int h.comes, v]) /\ RStepsV G v h.steps
noncomputable def RawAt (G : Hp) (a : Addr) (hs : List Rh) : Prop := ∃ ys, G a = some (.lst ys) /\ Paired (RhV G) ys hs
theorem RsV.same {G H : Hp} {z : V} {s : Str × List Int} (h : RsV G z s) (m : Same G H) : RsV H z s := let ⟨b, e, q⟩ := h; ⟨b, e, m _ _ q⟩
theorem RStepsV.same {G H : Hp} {z : V} {s : List (Str × List Int)} (h : RStepsV G z s) (m : Same G H) : RStepsV H z s := let ⟨b, zs, e, q, r⟩ := h; ⟨b, zs, e, m _ _ q, Paired.mapP r fun _ _ k => k.same m⟩
theorem RhV.same {G H : Hp} {z : V} {s : Rh} (h : RhV G z s) (m : Same G H) : RhV H z s := let ⟨b, v, e, q, r⟩ := h; ⟨b, v, e, m _ _ q, r.same m⟩
theorem RawAt.same {G H : Hp} {a : Addr} {hs : List Rh} (h : RawAt G a hs) (m : Same G H) : RawAt H a hs := let ⟨ys, e, r⟩ := h; ⟨ys, m _ _ e, Paired.mapP r fun _ _ k => k.same m⟩
noncomputable def okS (s : Str × List Int) : Bool := decide (V.int ((rsL s).length : Nat) = (valV partsK (Sum.inr s.1)).getD .non)
noncomputable def rawS : Stp -> Str × List Int
  | .work => ("work", [])
  | .take t => ("take", [t])
  | .give t => ("give", [t])
noncomputable def rawH (h : Hd) : Rh := ⟨h.rank, h.comes, h.steps.map rawS⟩
theorem rsL_raw (s : Stp) : rsL (rawS s) = stpL s := by cases s <;> rfl
theorem Paired.toMap {α β γ : Type} {R : α -> β -> Prop} {S : α -> γ -> Prop} {f : β -> γ} (h : ∀ a b, R a b -> S a (f b)) : ∀ {xs : List α} {ys : List β}, Paired R xs ys -> Paired S xs (ys.map f)
  | _, _, .nil => .nil
  | _, _, .cons p r => .cons (h _ _ p) (Paired.toMap h r)
theorem HandsAt.raw {G : Hp} {a : Addr} {hs : List Hd} (h : HandsAt G a hs) : RawAt G a (hs.map rawH) := by
  obtain ⟨ys, e, p⟩ := h
  refine ⟨ys, e, Paired.toMap (fun y h => ?_) p⟩
  rintro ⟨b, v, rfl, h1, b2, zs, rfl, h2, p2⟩
  refine ⟨b, _, rfl, h1, b2, zs, rfl, h2, Paired.toMap (fun z s => ?_) p2⟩
  rintro ⟨b3, rfl, h3⟩
  exact ⟨b3, rfl, by rw [rsL_raw]; exact h3⟩
theorem atI_0 (s : Str × List Int) : atI (rsL s) 0 = some (.str s.1) := by
  unfold rsL atI ixN
  rw [if_pos (by lia), if_pos (by simp only [List.length_cons]; lia)]
  rfl
theorem parts_any (x : Str) : (valV partsK (Sum.inr x)).getD .non = .non ∨ ∃ k : Int, (valV partsK (Sum.inr x)).getD .non = .int k := by
  have h : ∀ v, valV partsK (Sum.inr x) = some v -> ∃ k : Int, v = .int k := fun v e => by
    unfold valV at e
    obtain ⟨kv, h1, rfl⟩ := Option.map_eq_some_iff.mp e
    have hm := List.mem_of_find?_eq_some h1
    unfold partsK at hm
    simp only [List.mem_cons, List.not_mem_nil, or_false] at hm
    rcases hm with rfl | rfl | rfl <;> exact ⟨_, rfl⟩
  cases e : valV partsK (Sum.inr x) with
  | none => exact .inl rfl
  | some v => obtain ⟨k, rfl⟩ := h v e; exact .inr ⟨k, rfl⟩
noncomputable def sp_is_step_g (K : PySem.W.Frag) : Sp := fun vs H Q _ => ∃ (b : Addr) (s : Str × List Int), vs = [.ref b] /\ H b = some (.tup (rsL s)) /\ Q (.bl (okS s)) H
noncomputable def Refused (C1 C2 : Addr) (hs : List Rh) (D : Addr) : Prop := ((∃ h ∈ hs, h.comes < 0) /\ D = C1) ∨ ((∀ h ∈ hs, 0 <= h.comes) /\ (∃ h ∈ hs, ∃ s ∈ h.steps, okS s = false) /\ D = C2)
noncomputable def sp_bad (C1 C2 : Addr) : Sp := fun vs H Q E => ∃ (a : Addr) (hs : List Rh) (D : Addr), vs = [.ref a] /\ RawAt H a hs /\ hs.length <= 30 /\ Refused C1 C2 hs D /\ ∀ e H', Same H H' -> E e (some D) H'
noncomputable abbrev bmV : List Value := [Value.type "ValueError", Value.type "Exception", Value.type "BaseException", Value.type "object"]
structure TxtE (K : PySem.W.Frag) (mg : Str -> Option Value) (base : Heap) (C1 C2 : Addr) : Prop where
  o1 : OwnCls "NoComing" C1 bmV "ValueError.__new__" mg base
  o2 : OwnCls "NoStep" C2 bmV "ValueError.__new__" mg base
end B
namespace L2
open PySem PySem.Spec PyProof.Rows
theorem un_lft {fs : List Addr} {H H1 : Hp} {h h1 h2 : Heap} {a T T' : Addr} (u : Un fs [] H H1 h h1) (l : My.Lft fs a T T' h1 h2) (na : h.get? a = none) (nT : h.get? T = none) : Un fs [] H H1 h h2 := by
  have ne : ∀ b o, h.get? b = some o -> b ≠ a /\ b ≠ T := fun b o q => ⟨fun z => (by rw [z, na] at q; cases q), fun z => (by rw [z, nT] at q; cases q)⟩
  refine ⟨fun b o q n hb hx => l.keep b o (u.keep b o q n hb hx) hb (ne b o q).1 (ne b o q).2, fun b o q n hb hx => ?_, u.free, fun b o q hx => ?_, u.tups, u.frzs, u.tbls⟩
  · obtain ⟨sl, e⟩ := u.slot b o q n hb hx
    obtain ⟨sl2, e2⟩ := l.slot b _ e (ne b o q).1 (ne b o q).2
    exact ⟨sl2, e2⟩
  · obtain ⟨o', e⟩ := u.there b o q hx
    exact l.there b o' e
theorem HOk.add {P : Program} {w : World} {H : Hp} {h : Heap} {a : Addr} {o : HO} (x : HOk P w H h) (hn : H a = none) (new : ObjOk P w (upd H a o) h a o) : HOk P w (upd H a o) h := fun b u e => by
  by_cases hb : b = a
  · subst hb; rw [upd_same] at e; cases e; exact new
  · rw [upd_ne hb] at e
    exact (x b u e).stay (fun c v _ q => q) (fun c q => by rw [upd_ne (ne_of_none q hn)]; exact q) fun c xs q => by rw [upd_ne (ne_of_none q hn)]; exact q
theorem Un.add {fs : List Addr} {H H1 : Hp} {h h1 : Heap} {a : Addr} {o : HO} (u : Un fs [] H H1 h h1) (na : h.get? a = none) (hn : H1 a = none) : Un fs [] H (upd H1 a o) h h1 := by
  refine ⟨u.keep, u.slot, fun b ob q n hx => ?_, u.there, fun b xs q => ?_, fun b ob v q => ?_, fun b ps q => ?_⟩
  · rw [upd_ne (fun z => by rw [z, na] at q; cases q)]; exact u.free b ob q n hx
  · have := u.tups b xs q
    rw [upd_ne (ne_of_none this hn)]; exact this
  · have := u.frzs b ob v q
    rw [upd_ne (ne_of_none this hn)]; exact this
  · obtain ⟨m, e⟩ := u.tbls b ps q
    exact ⟨m, by rw [upd_ne (ne_of_none e hn)]; exact e⟩
noncomputable def ExcO (a D : Addr) : HO := .ext fun h => ∃ o vs, h.get? a = some o /\ o.cls = .ref D /\ o.dict = none /\ o.data = .fields vs
theorem ExcO.ok {P : Program} {w : World} {H : Hp} {h h0 : Heap} {a D T : Addr} (f : My.Fly h h0 a (.ref D) T .none) : ObjOk P w H h a (ExcO a D) := by
  obtain ⟨oe, vs, oT, ts, he, ⟨hc, hdn⟩, hd, _⟩ := f
  exact ⟨⟨oe, vs, he, hc, hdn, hd⟩, ⟨oe, he⟩, fun h1 h2 ⟨o, vs, e, r⟩ k => ⟨o, vs, k o e, r⟩⟩
theorem ExcO.inst {P : Program} {w : World} {H : Hp} {h : Heap} {a D : Addr} (x : HOk P w H h) (e : H a = some (ExcO a D)) : ∃ ox, PySem.W.InstAt h a ox D none := by
  obtain ⟨⟨o, vs, h1, h2, h3, h4⟩, _⟩ := (show ObjOk P w H h a (ExcO a D) from x a _ e)
  exact ⟨o, h1, h2, by unfold PySem.W.notCls; rw [h4], by rw [h3]; trivial⟩
noncomputable def rIsiE (K : PySem.W.Frag) : List V -> Hp -> VK -> Prop := fun xs H Q => ∃ a D v c b, xs = [.ref a, v] /\ H a = some (ExcO a D) /\ My.ExcK K D /\ RelV v c /\ (∀ c', RelV v c' -> c' = c) /\ PySem.W.kitOne K (.ref D) c = some b /\ Q (.bl b) H
theorem qc_isiE {X : Cx} (K : PySem.W.Frag) (hK : X.K = K := by rfl) : QC X (.builtin "isinstance") (rIsiE K) := ⟨by
  subst hK
  intro pins s σ H xs us Q I r h
  obtain ⟨a, D, v, c, b, rfl, ea, Z, _, un, e, q⟩ := h
  obtain ⟨u, w', rfl, ru, rw'⟩ := vals2 r
  cases (show u = Value.ref a from ru)
  cases un _ rw'
  obtain ⟨ox, hi⟩ := ExcO.inst I.hok ea
  exact PySem.W.kia_one (My.kitx_exc (ox := ox) Z) I.kIn hi e (fun z => nomatch z) fun tk => ⟨.bl b, H, I.tok tk, rfl, q⟩⟩
theorem qe_cls {X : Cx} {x : Str} {C : Addr} {pos : Pos} (hm : X.mg x = some (.ref C)) (hg : Gl X x := by rfl) (hdb : (x == ("__debug__" : Str)) = false := by decide) : QE X (.Name x pos) (tC (.ref C)) := ⟨fun pins s σ H Q I h => ld_glob I hg hm ⟨.ref C, H, I, rfl, h⟩ hdb⟩
theorem unbind_ok {X : Cx} {pins : List (Addr × Obj)} {σ : St} {H : Hp} {s : Shared} {M : Model} {A : Around} {E : Value -> Shared -> Prop} {i : Nat} {x : Str} {v : V} {Q : Unit -> Shared -> Prop} (I : Inv X pins σ H s) (hN : X.N.Nodup) (hi : X.N[i]? = some x) (hk : X.env.scope.names.lookup x = some .local) (hv : σ[i]? = some (some v))
    (h : ∀ s', Inv X pins (σ.set i none) H s' -> Q () s') : wpAny M A (unbindName X.env x) Q E s := by
  obtain ⟨m, hn, hl⟩ := id I.loc
  have hcls : (X.env.scope.kind == .class || (X.env.scope.kind == .module && X.env.locals != X.env.globals)) = false := by rw [I.ok.kind]; rfl
  have hiσ : i < σ.length := by rw [I.len]; exact (List.getElem?_eq_some_iff.mp hi).1
  have cne := I.cne
  have tracked : ∀ {a : Addr} {h' : Heap}, (∃ o, s.heap.get? a = some o /\ H a = none) -> Heap.SameBut a s.heap h' -> HOk X.prog X.w H h' := fun {a h'} ha hs b ob e => by
    obtain ⟨_, _, hfree⟩ := ha
    refine (I.hok b ob e).stay (fun c w' hc q => (hs.2 c ?_).trans q) (fun _ q => q) fun _ _ q => q
    rintro rfl
    rcases hc with rfl | hc
    · rw [hfree] at e; cases e
    · rw [hfree] at hc; cases hc
  obtain ⟨u, _, hu⟩ := hl i x v hi hv (.inl hk)
  have hu : m x = some u := by
    rcases hu with ⟨_, e⟩ | ⟨k, _⟩
    · exact e
    · have k' : X.env.scope.names.lookup x = some .cell ∨ X.env.scope.names.lookup x = some .free := k
      rw [hk] at k'; rcases k' with k' | k' <;> cases k'
  refine wpAny_unbindName_local hk hn hu hcls fun h' u' hn' hs => ?_
  obtain ⟨oL, _, _, hoL, _⟩ := id hn
  refine h _ ⟨I.ok, I.os, I.bare, ⟨fun b o e n hb hx => ?_, fun b o e n hb hx => ?_, I.base.free, fun b o e hx => ?_, I.base.tups, I.base.frzs, I.base.tbls⟩, ⟨_, hn', fun j y v' e1 e2 e3 => ?_⟩, fun y c e => ?_, I.free, I.freeC, fun p hp => ?_, tracked ⟨oL, hoL, I.free⟩ hs, by simpa using I.len⟩
  · exact (hs.2 b (Nat.ne_of_lt (Nat.lt_of_lt_of_le (Heap.lt_size e) I.ok.above))).trans (I.base.keep b o e n hb hx)
  · obtain ⟨sl, e1⟩ := I.base.slot b o e n hb hx
    exact ⟨sl, (hs.2 b (Nat.ne_of_lt (Nat.lt_of_lt_of_le (Heap.lt_size e) I.ok.above))).trans e1⟩
  · obtain ⟨o', e1⟩ := I.base.there b o e hx
    exact ⟨o', (hs.2 b (Nat.ne_of_lt (Nat.lt_of_lt_of_le (Heap.lt_size e) I.ok.above))).trans e1⟩
  · by_cases hj : j = i
    · subst hj
      rw [List.getElem?_set_self hiσ] at e2
      cases e2
    · rw [List.getElem?_set_ne (Ne.symm hj)] at e2
      obtain ⟨u', r', q⟩ := hl j y v' e1 e2 e3
      refine ⟨u', r', ?_⟩
      rcases q with ⟨k, e⟩ | ⟨k, c, e, z⟩
      · refine .inl ⟨k, ?_⟩
        have : y ≠ x := fun e => hj (nodup_ix hN e1 (e ▸ hi))
        simp [this, e]
      · exact .inr ⟨k, c, e, z.sameBut hs (cne y c e)⟩
  · obtain ⟨w', z⟩ := I.cell y c e
    exact ⟨w', z.sameBut hs (cne y c e)⟩
  · obtain ⟨e, n, ne, nf, d⟩ := I.pin p hp
    exact ⟨(hs.2 p.1 ne).trans e, n, ne, nf, d⟩
noncomputable abbrev Cx.tried (X : Cx) (xe : Value -> Shared -> Prop) (pn : List (Addr × Obj)) : Cx := { X with xe := xe, pn := X.pn ++ pn }
noncomputable abbrev Cx.hnd (X : Cx) (e : Value) : Cx := { X with A := X.A.mark (some e), calm := false, xe := fun _ _ => False }
theorem Inv.tried {X : Cx} {pins : List (Addr × Obj)} {σ : St} {H : Hp} {s : Shared} {xe : Value -> Shared -> Prop} (I : Inv X pins σ H s) : Inv (X.tried xe pins) [] σ H s :=
  ⟨⟨I.ok.mod, I.ok.kind, I.ok.glob, I.ok.blt, I.ok.above, I.ok.inj, I.ok.has, I.ok.cab, I.ok.hd, I.ok.frames, I.ok.stk, I.ok.exf, I.ok.bs, I.ok.bsz, I.ok.noex, I.ok.exfs, I.ok.funs, I.ok.frf⟩, I.os, I.bare, I.base, I.loc, I.cell, I.free, I.freeC, fun p hp => I.pin p (by simpa using hp), I.hok, I.len⟩
theorem Inv.untried {X : Cx} {pins pins' : List (Addr × Obj)} {σ : St} {H : Hp} {s : Shared} {xe : Value -> Shared -> Prop} (I : Inv (X.tried xe pins) pins' σ H s) : Inv X pins σ H s :=
  ⟨⟨I.ok.mod, I.ok.kind, I.ok.glob, I.ok.blt, I.ok.above, I.ok.inj, I.ok.has, I.ok.cab, I.ok.hd, I.ok.frames, I.ok.stk, I.ok.exf, I.ok.bs, I.ok.bsz, I.ok.noex, I.ok.exfs, I.ok.funs, I.ok.frf⟩, I.os, I.bare, I.base, I.loc, I.cell, I.free, I.freeC, fun p hp => I.pin p (List.mem_append_left _ hp), I.hok, I.len⟩
theorem Inv.hnd {X : Cx} {pins : List (Addr × Obj)} {σ : St} {H : Hp} {s : Shared} (I : Inv X pins σ H s) (e : Value) : Inv (X.hnd e) pins σ H s :=
  ⟨⟨I.ok.mod, I.ok.kind, I.ok.glob, I.ok.blt, I.ok.above, I.ok.inj, I.ok.has, I.ok.cab, fun z => Bool.noConfusion z, I.ok.frames, I.ok.stk, I.ok.exf, I.ok.bs, I.ok.bsz, I.ok.noex, I.ok.exfs, I.ok.funs, I.ok.frf⟩, I.os, I.bare, I.base, I.loc, I.cell, I.free, I.freeC, I.pin, I.hok, I.len⟩
theorem Inv.unhnd {X Y : Cx} {pins pins' : List (Addr × Obj)} {σ σ' : St} {H H' : Hp} {s s' : Shared} {e : Value} (J : Inv X pins' σ' H' s') (I : Inv (X.hnd e) pins σ H s) : Inv X pins σ H s :=
  ⟨J.ok, I.os, I.bare, I.base, I.loc, I.cell, I.free, I.freeC, I.pin, I.hok, I.len⟩
noncomputable def PassesAt (CX : CXT) (X : Cx) (σ0 : St) (E : XK) : Prop := ∀ (pins : List (Addr × Obj)) (H : Hp) (s : Shared) (e : Value) (s' : Shared), Inv X pins σ0 H s -> CX X.stack H s E e s' -> X.xe e s'
noncomputable def tCallT (σ0 : St) (sp : Sp) (E : XK) (t : TA) : TE := fun σ H Q => σ = σ0 /\ t σ H fun vs H1 => sp vs H1 Q E
theorem qe_callT {X : Cx} {σ0 : St} {E : XK} {x : Str} {ps : List Str} {k : Nat} {sp : Sp} {p pos : Pos} {e : Expr} {es : List Expr} {t : TA} (C : Cal1 X.prog X.w X.K X.mg X.base x ps k sp)
    (hr : Room k X.A) (hx : PassesAt (CX1 X.prog X.w) X σ0 E) (ha : QA X (e :: es) t) (hg : Gl X x := by rfl)
    (hdb : (x == ("__debug__" : Str)) = false := by decide) (he : starEach (e :: es) X.env = (false, eval e X.env) :: starEach es X.env := by rfl) (hpl : (backTo pos (starEach es X.env)).any (·.1) = false := by rfl) :
    QE X (.Call (.Name x p) (e :: es) [] pos) (tCallT σ0 sp E t) := ⟨by
  obtain ⟨f, fd, hm, hk, hb, F⟩ := C.ex
  intro pins s σ H Q I h
  obtain ⟨rfl, h⟩ := h
  refine wpAny_Call_Name_kw (ld_glob I hg hm ?_ hdb)
  refine PySem.W.callWith_K (h₀ := X.base) I.ok.mod.kin hk (thn (ha.run pos pins s σ H _ I h) fun us s1 ⟨vs, H1, I1, r, q⟩ => ⟨I1.kIn, ?_⟩) he hpl
  have hl : (us ++ []).length = ps.length := by rw [List.append_nil, <- r.length]; exact F.len _ _ _ _ q
  have hbd := hb s1 us I1.kIn hl
  rw [List.append_nil] at hbd
  refine wpAny_call (codeAny_mono (F.run X.A X.stack s1 H1 ⟨us, []⟩ us vs Q E hr I1.env0 hbd r q) fun r s' hq => ?_)
  cases r with
  | error e => exact hx pins H1 s1 e s' I1 hq
  | ok fl =>
    cases fl with
    | ret u => exact I1.after hq
    | next => exact False.elim hq
    | brk => exact False.elim hq
    | cont => exact False.elim hq⟩
noncomputable def tTry (K : PySem.W.Frag) (i : Nat) (R : Addr) (σ0 : St) (E : XK) (tb th : TS) : TS := fun D σ H => tb D σ H /\ ∀ (a C : Addr) (H1 : Hp), E (.ref a) (some C) H1 -> H1 a = none -> PySem.W.exmOne K (.ref C) (.ref R) = some true /\
  th { nx := fun σ' H' => (∃ v, σ'[i]? = some (some v)) /\ D.nx (σ'.set i none) H', rt := fun _ _ => False } (σ0.set i (some (.ref a))) (upd H1 a (ExcO a C))
theorem ps_try {X : Cx} {body : List Stmt} {tb th : TS} {i : Nat} {n x : Str} {np hp pos : Pos} {b₀ : Stmt} {hbody : List Stmt} {σ0 : St} {E : XK} {R : Addr}
    (hb : ∀ xe pn, PassesAt (CX1 X.prog X.w) (X.tried xe pn) σ0 E -> PSs (X.tried xe pn) body tb) (hh : ∀ e, PSs (X.hnd e) (b₀ :: hbody) th)
    (hs : X.stack = X.env :: X.outer) (hf : X.env.frame = some X.env.locals) (hN : X.N.Nodup) (hi : X.N[i]? = some n) (hk : X.env.scope.names.lookup n = some .local) (hg : Gl X x) (hm : X.mg x = some (.ref R)) (hdb : (x == ("__debug__" : Str)) = false) :
    PS X (.Try body [.ExceptHandler (some (.Name x np)) (some n) (b₀ :: hbody) hp] [] [] pos) (tTry X.K i R σ0 E tb th) := by
  intro pins s σ H D I ⟨ht, hE⟩
  refine wpAny_Try_except ?_
  refine wpAny_mono (hb (fun e s₁ => wpAny (model X.prog X.w) X.A (noteFrame e X.env) (fun _ s₂ => wpAny (model X.prog X.w) X.A (setFlight e none) (fun _ s₃ => wpAny (model X.prog X.w) X.A (handleBy e X.env [.ExceptHandler (some (.Name x np)) (some n) (b₀ :: hbody) hp]) (SP X pins D) X.xe s₃) X.xe s₂) X.xe s₁) pins ?P [] s σ H D I.tried ht) (fun f s1 hq => ?Q) fun e s1 he => he
  case Q =>
    cases f with
    | next => obtain ⟨σ', H', J, q⟩ := hq; exact wpAny_execs_nil ⟨σ', H', J.untried, q⟩
    | brk => obtain ⟨σ', H', J, q⟩ := hq; exact ⟨σ', H', J.untried, q⟩
    | cont => obtain ⟨σ', H', J, q⟩ := hq; exact ⟨σ', H', J.untried, q⟩
    | ret u => obtain ⟨v, σ', H', J, r, q⟩ := hq; exact ⟨v, σ', H', J.untried, r, q⟩
  intro pins' H s e s' I' cx
  have I0 : Inv X pins σ0 H s := I'.untried
  obtain ⟨a, T, C, H1, rfl, os1, ba1, un1, ok1, ha, hT, fly, q⟩ := cx
  obtain ⟨hx, hth⟩ := hE a C H1 q ha
  have un1 : Un (frs X.stack) [] H H1 s.heap s'.heap := un1
  have frH : ∀ b ∈ frs X.stack, H b = none := fun b hb => I0.stkFree b hb
  have fr1 : ∀ b ∈ frs X.stack, H1 b = none := fun b hb => by
    obtain ⟨_, ob, hob, _⟩ := I0.stack.mem hb
    exact un1.free b ob hob (frH b hb) (by intro z; cases z)
  obtain ⟨oe, vs, oT, ts, f1, f2, f3, f4, f5, f6, f7, f8, f9, f10⟩ := id fly
  have hl : s'.heap.FunFrames X.base (X.env :: X.outer) := by
    have z := funs_slots (fun b o hb e => un1.slot b o e (frH b hb) hb (by intro z; cases z)) I0.stack
    rw [hs] at z; exact z
  have hfr : X.A.frames = some (X.env :: X.outer) := by rw [I0.ok.frames, hs]
  show wpAny (model X.prog X.w) X.A (noteFrame (.ref a) X.env) _ _ s'
  refine My.note_next (h0 := s.heap) hfr hl hf fly (fun b hb => ?_) fun h2 l2 fl2 => ?_
  · cases z : s.heap.get? b with
    | none => rfl
    | some u => obtain ⟨o', e⟩ := un1.there b u z (by intro z; cases z); rw [e] at hb; cases hb
  have l2 : My.Lft (frs X.stack) a T s'.heap.objs.size s'.heap h2 := by unfold frs; rw [hs]; exact l2
  have un2 := un_lft un1 l2 f5 f6
  have ok2 : HOk X.prog X.w H1 h2 := ok1.lft fun b u hb r => l2.keep b u r (fun z => hb (fr1 b z)) (fun z => hb (z ▸ ha)) fun z => hb (z ▸ hT)
  have I2 : Inv X pins σ0 H1 { s' with heap := h2 } := I0.call' os1 un2 ok2 ba1 fun b z => absurd z (by simp)
  have nT2 : s.heap.get? s'.heap.objs.size = none := by
    cases z : s.heap.get? s'.heap.objs.size with
    | none => rfl
    | some u => obtain ⟨o', e⟩ := un1.there _ u z (by intro z; cases z); exact absurd (Heap.lt_size e) (Nat.lt_irrefl _)
  refine wpAny_handleBy_cons (codeAny_handlers_test (ld_glob (X := X.hnd (.ref a)) (I2.hnd _) hg hm ?_ hdb)) (by intro z; cases z)
  have LT : PySem.W.Looks (model X.prog X.w) h2 (typeOf (.ref a)) (.ref C) := by
    obtain ⟨oe, vs, oT, ts, he, ⟨hc, hdn⟩, hd, _⟩ := fl2
    exact hc ▸ (PySem.W.Looks.ld he).andThen .now
  refine (PySem.W.exm_one (M := model X.prog X.w) I2.kIn LT hx).at ?_
  dsimp only
  rw [if_pos rfl]
  refine codeAny_handlers_suite_as ?_
  refine My.flight_off (fs := frs X.stack) fl2 fun h3 l3 fl3 => ?_
  have un3 := un_lft un2 l3 nT2 nT2
  have hT2 : H1 s'.heap.objs.size = none := ok1.fresh (Nat.le_refl _)
  have ok3 : HOk X.prog X.w H1 h3 := ok2.lft fun b u hb r => l3.keep b u r (fun z => hb (fr1 b z)) (fun z => hb (z ▸ hT2)) fun z => hb (z ▸ hT2)
  have I3 : Inv X pins σ0 (upd H1 a (ExcO a C)) { s' with heap := h3 } := I0.call' os1 (un3.add f5 ha) (ok3.add ha (ExcO.ok fl3)) ba1 fun b z => absurd z (by simp)
  refine store_ok (v := .ref a) I3 hN hi (.inl hk) rfl (fun s4 I4 => ?_) (.inr hk)
  refine wpAny_mono (hh (.ref a) pins s4 _ _ _ (I4.hnd (.ref a)) hth) (fun f s5 hq => ?_) fun _ _ z => z.elim
  cases f with
  | next =>
    obtain ⟨σ', H', I5, ⟨v, hv⟩, q5⟩ := hq
    have I5 : Inv X pins σ' H' s5 := Inv.unhnd (Y := X) I3 I5
    refine wpAny_bind (wpAny_bindName (store_ok (v := .non) I5 hN hi (.inl hk) rfl (fun s6 I6 => ?_) (.inr hk)))
    unfold unbindBehindTheSuite
    have hiσ : i < σ'.length := (List.getElem?_eq_some_iff.mp hv).1
    refine wpAny_onRaise (unbind_ok (v := .non) I6 hN hi hk (List.getElem?_set_self hiσ) fun s7 I7 => ⟨_, H', I7, ?_⟩)
    rw [List.set_set]; exact q5
  | brk => obtain ⟨_, _, _, z⟩ := hq; exact z.elim
  | cont => obtain ⟨_, _, _, z⟩ := hq; exact z.elim
  | ret u => obtain ⟨_, _, _, _, _, z⟩ := hq; exact z.elim
theorem qs_try {X : Cx} {body : List Stmt} {tb th : TS} (i : Nat) {n x : Str} {np hp pos : Pos} {b₀ : Stmt} {hbody : List Stmt} {σ0 : St} {E : XK} {R : Addr} (hN : X.N.Nodup) (hm : X.mg x = some (.ref R))
    (hb : ∀ xe pn, PassesAt (CX1 X.prog X.w) (X.tried xe pn) σ0 E -> QSs (X.tried xe pn) body tb) (hh : ∀ e, QSs (X.hnd e) (b₀ :: hbody) th)
    (hs : X.stack = X.env :: X.outer := by rfl) (hf : X.env.frame = some X.env.locals := by rfl) (hi : X.N[i]? = some n := by rfl) (hk : X.env.scope.names.lookup n = some .local := by rfl) (hg : Gl X x := by rfl) (hdb : (x == ("__debug__" : Str)) = false := by decide) :
    QS X (.Try body [.ExceptHandler (some (.Name x np)) (some n) (b₀ :: hbody) hp] [] [] pos) (tTry X.K i R σ0 E tb th) := ⟨ps_try (fun xe pn h => (hb xe pn h).run) (fun e => (hh e).run) hs hf hN hi hk hg hm hdb⟩
end L2
namespace B
open PySem L2 PySem.Spec PyProof.Rows
structure TxtR (K : PySem.W.Frag) (mg : Str -> Option Value) (R C1 C2 : Addr) : Prop where
  r0 : mg "RotaError" = some (.ref R)
  n1 : mg "NoComing" = some (.ref C1)
  n2 : mg "NoStep" = some (.ref C2)
  nv : mg "ValueError" = none
  x1 : PySem.W.exmOne K (.ref C1) (.ref R) = some true
  x2 : PySem.W.exmOne K (.ref C2) (.ref R) = some true
  k1 : My.ExcK K C1
  k2 : My.ExcK K C2
  i11 : PySem.W.kitOne K (.ref C1) (.ref C1) = some true
  i12 : PySem.W.kitOne K (.ref C1) (.ref C2) = some false
  i21 : PySem.W.kitOne K (.ref C2) (.ref C1) = some false
  i22 : PySem.W.kitOne K (.ref C2) (.ref C2) = some true
  v1 : PySem.W.kitOne K (.ref C1) (.type "ValueError") = some true
  v2 : PySem.W.kitOne K (.ref C2) (.type "ValueError") = some true
theorem bt_ValueError : bootBuiltins "ValueError" = some (.type "ValueError") := by first | rfl | decide +kernel | kernel_rfl
noncomputable def sp_ok_or_bad (s : Sp) (C1 C2 : Addr) : Sp := fun vs H Q E => s vs H Q E ∨ sp_bad C1 C2 vs H Q E
noncomputable def toldS (C1 : Addr) (D : Option Addr) : Str := match D with
  | none => "done"
  | some D => if D = C1 then "no coming" else "no step"
noncomputable def Fate (C1 C2 : Addr) (H : Hp) (a : Addr) (D : Option Addr) : Prop := match D with
  | none => ∃ hs, HandsAt H a hs /\ (∀ h ∈ hs, 0 <= h.comes) /\ Small hs
  | some D => ∃ hs, RawAt H a hs /\ hs.length <= 30 /\ Refused C1 C2 hs D
noncomputable def sp__law_answer (C1 C2 : Addr) : Sp := fun vs H Q _ => ∃ (k : Int) (a : Addr) (D : Option Addr), vs = [.int k, .ref a] /\ Fate C1 C2 H a D /\ ∀ H', Same H H' -> Q (.str (toldS C1 D)) H'
end B
namespace B
open PySem L2 PySem.Spec PyProof.Rows
noncomputable def dRs (s : Str × List Int) : L2.D := .tup (.str s.1 :: s.2.map L2.D.int)
noncomputable def dRh (h : Rh) : L2.D := .tup [.int h.rank, .int h.comes, .lst (h.steps.map dRs)]
theorem ints_reps {K : PySem.W.Frag} {H : Hp} : ∀ (l : List Int), Reps K H (l.map L2.D.int) (l.map V.int)
  | [] => .nil
  | a :: l => .cons (by simp only [Rep]) (ints_reps l)
theorem RsV.rep {K : PySem.W.Frag} {H : Hp} {z : V} {s : Str × List Int} (h : RsV H z s) : Rep K H (dRs s) z := by
  obtain ⟨b, rfl, q⟩ := h
  simp only [dRs, Rep]
  exact ⟨b, _, rfl, .of q, .cons (by simp only [Rep]) (ints_reps _)⟩
theorem rss_reps {K : PySem.W.Frag} {H : Hp} : ∀ {zs : List V} {ss : List (Str × List Int)}, Paired (RsV H) zs ss -> Reps K H (ss.map dRs) zs
  | _, _, .nil => .nil
  | _, _, .cons h t => .cons h.rep (rss_reps t)
theorem RhV.rep {K : PySem.W.Frag} {H : Hp} {z : V} {h : Rh} (k : RhV H z h) : Rep K H (dRh h) z := by
  obtain ⟨b, v, rfl, q, b2, zs, rfl, q2, r⟩ := k
  simp only [dRh, Rep]
  refine ⟨b, _, rfl, .of q, .cons (by simp only [Rep]) (.cons (by simp only [Rep]) (.cons ?_ .nil))⟩
  simp only [Rep]
  exact ⟨b2, zs, rfl, .of q2, rss_reps r⟩
theorem dp_intsD (l : List Int) : dps (l.map L2.D.int) <= 0 := by
  induction l with
  | nil => simp [dps]
  | cons s r ih =>
    simp only [List.map_cons, dps, D.dp]
    lia
theorem dp_rss (ss : List (Str × List Int)) : dps (ss.map dRs) <= 1 := by
  induction ss with
  | nil => simp [dps]
  | cons s r ih =>
    have := dp_intsD s.2
    simp only [List.map_cons, dps, dRs, D.dp] at ih ⊢
    lia
theorem dp_rh (h : Rh) : (dRh h).dp <= 60 := by
  have := dp_rss h.steps
  simp only [dRh, D.dp, dps]
  lia
theorem Paired.ofMap {α β γ : Type} {R : α -> β -> Prop} {S : α -> γ -> Prop} {f : β -> γ} (h : ∀ a b, S a (f b) -> R a b) : ∀ {xs : List α} {ys : List β}, Paired S xs (ys.map f) -> Paired R xs ys
  | [], [], _ => .nil
  | _ :: _, _ :: _, .cons p r => .cons (h _ _ p) (Paired.ofMap h r)
theorem RawAt.hands {G : Hp} {a : Addr} {hs : List Hd} (h : RawAt G a (hs.map rawH)) : HandsAt G a hs := by
  obtain ⟨ys, e, p⟩ := h
  refine ⟨ys, e, Paired.ofMap (fun y h => ?_) p⟩
  rintro ⟨b, v, rfl, h1, b2, zs, rfl, h2, p2⟩
  refine ⟨b, _, rfl, h1, b2, zs, rfl, h2, Paired.ofMap (fun z s => ?_) p2⟩
  rintro ⟨b3, rfl, h3⟩
  exact ⟨b3, rfl, by rw [<- rsL_raw]; exact h3⟩
theorem Paired.setP {α β : Type} {F : α -> β -> Prop} : ∀ {l₁ : List α} {l₂ : List β} {x : α} {y : β} (n : Nat), Paired F l₁ l₂ -> F x y -> Paired F (l₁.set n x) (l₂.set n y)
  | _, _, _, _, _, .nil, _ => .nil
  | _, _, _, _, 0, .cons _ r, p => .cons p r
  | _, _, _, _, n + 1, .cons q r, p => .cons q (Paired.setP n r p)
structure RSm (hs : List Rh) : Prop where
  n1 : 1 <= hs.length
  n : hs.length <= 30
  s : ∀ h ∈ hs, h.steps.length <= 2000
noncomputable def spoil (hs : List Rh) (i j : Nat) (o : Str × List Int) : List Rh := match hs[i]? with
  | none => hs
  | some h => hs.set i ⟨h.rank, h.comes, h.steps.take j ++ o :: h.steps.drop j⟩
noncomputable def early (hs : List Rh) (i : Nat) (c : Int) : List Rh := match hs[i]? with
  | none => hs
  | some h => hs.set i ⟨h.rank, c, h.steps⟩
noncomputable def sp__law_spoilt (K : PySem.W.Frag) : Sp := fun vs H Q _ => ∃ (a o : Addr) (hs : List Rh) (sp : Int) (od : Str × List Int), vs = [.ref a, .int sp, .ref o] /\ RawAt H a hs /\ RSm hs /\ 0 <= sp /\ sp < 100 /\ H o = some (.tup (rsL od)) /\
  ∀ p i j H', Same H H' -> i < hs.length -> RawAt H' p (spoil hs i j od) -> Q (.ref p) H'
noncomputable def sp__law_early (K : PySem.W.Frag) : Sp := fun vs H Q _ => ∃ (a : Addr) (hs : List Rh) (sp : Int), vs = [.ref a, .int sp] /\ RawAt H a hs /\ RSm hs /\ 0 <= sp /\ sp < 100 /\
  ∀ p i c H', Same H H' -> i < hs.length -> c < 0 -> RawAt H' p (early hs i c) -> Q (.ref p) H'
end B
namespace B
open PySem L2 PySem.Spec PyProof.Rows
theorem set_mem {hs : List Rh} {i : Nat} {x h : Rh} (m : h ∈ hs.set i x) : h = x ∨ h ∈ hs := by
  obtain ⟨k, hk⟩ := List.getElem?_of_mem m
  rw [List.getElem?_set] at hk
  split at hk
  · split at hk
    · injection hk with hk; exact .inl hk.symm
    · cases hk
  · exact .inr (List.mem_of_getElem? hk)
theorem mem_set {hs : List Rh} {i : Nat} {x : Rh} (hi : i < hs.length) : x ∈ hs.set i x := List.mem_of_getElem? (by rw [List.getElem?_set_self hi])
theorem spoil_len (hs : List Rh) (i j : Nat) (o : Str × List Int) : (spoil hs i j o).length = hs.length := by
  unfold spoil; split <;> simp
theorem early_len (hs : List Rh) (i : Nat) (c : Int) : (early hs i c).length = hs.length := by
  unfold early; split <;> simp
theorem spoil_sm {hs : List Rh} {i j : Nat} {o : Str × List Int} (s : RSm hs) (b : ∀ h ∈ hs, h.steps.length <= 1000) : RSm (spoil hs i j o) := by
  refine ⟨by rw [spoil_len]; exact s.n1, by rw [spoil_len]; exact s.n, fun h m => ?_⟩
  unfold spoil at m
  split at m
  · exact s.s h m
  · rename_i g e
    rcases set_mem m with rfl | m
    · have := b g (List.mem_of_getElem? e)
      simp only [List.length_append, List.length_cons, List.length_take, List.length_drop]
      lia
    · exact s.s h m
theorem early_sm {hs : List Rh} {i : Nat} {c : Int} (s : RSm hs) : RSm (early hs i c) := by
  refine ⟨by rw [early_len]; exact s.n1, by rw [early_len]; exact s.n, fun h m => ?_⟩
  unfold early at m
  split at m
  · exact s.s h m
  · rename_i g e
    rcases set_mem m with rfl | m
    · exact s.s g (List.mem_of_getElem? e)
    · exact s.s h m
theorem spoil_bad {C1 C2 : Addr} {hs : List Rh} {i j : Nat} {o : Str × List Int} (hc : ∀ h ∈ hs, 0 <= h.comes) (hi : i < hs.length) (ho : okS o = false) : Refused C1 C2 (spoil hs i j o) C2 := by
  refine .inr ⟨fun h m => ?_, ?_, rfl⟩
  · unfold spoil at m
    split at m
    · exact hc h m
    · rename_i g e
      rcases set_mem m with rfl | m
      · exact hc g (List.mem_of_getElem? e)
      · exact hc h m
  · unfold spoil
    rw [List.getElem?_eq_getElem hi]
    exact ⟨_, mem_set hi, o, List.mem_append_right _ List.mem_cons_self, ho⟩
theorem early_bad {C1 C2 : Addr} {hs : List Rh} {i : Nat} {c : Int} (hi : i < hs.length) (hc : c < 0) : Refused C1 C2 (early hs i c) C1 := by
  refine .inl ⟨?_, rfl⟩
  unfold early
  rw [List.getElem?_eq_getElem hi]
  exact ⟨_, mem_set hi, hc⟩
noncomputable def FateR (C1 C2 : Addr) (hs : List Rh) (D : Option Addr) : Prop := match D with
  | none => ∃ hd : List Hd, hs = hd.map rawH /\ (∀ h ∈ hd, 0 <= h.comes) /\ Small hd
  | some D => Refused C1 C2 hs D
theorem FateR.at {C1 C2 : Addr} {hs : List Rh} {D : Option Addr} {H : Hp} {a : Addr} (f : FateR C1 C2 hs D) (r : RawAt H a hs) (s : RSm hs) : Fate C1 C2 H a D := by
  cases D with
  | none =>
    obtain ⟨hd, rfl, h1, h2⟩ := f
    exact ⟨hd, r.hands, h1, h2⟩
  | some D => exact ⟨hs, r, s.n, f⟩
theorem small_steps {hs : List Hd} (s : Small hs) {h : Hd} (m : h ∈ hs) : h.steps.length <= 1000 := by
  obtain ⟨i, e⟩ := List.getElem?_of_mem m
  have := s.s i
  unfold stepsOf at this
  simpa [e] using this
theorem raw_sm {hs : List Hd} {c : Nat} (o : HsOk hs c) (h1 : 1 <= c) (h2 : c <= 30) : RSm (hs.map rawH) /\ (∀ h ∈ hs.map rawH, h.steps.length <= 1000) /\ ∀ h ∈ hs.map rawH, 0 <= h.comes := by
  have l := o.len
  have st : ∀ h ∈ hs.map rawH, h.steps.length <= 1000 := fun h m => by
    obtain ⟨g, mg, rfl⟩ := List.mem_map.mp m
    have := small_steps o.small mg
    simpa [rawH] using this
  refine ⟨⟨by simp; lia, by simp; lia, fun h m => by have := st h m; lia⟩, st, fun h m => ?_⟩
  obtain ⟨g, mg, rfl⟩ := List.mem_map.mp m
  exact o.come g mg
end B
namespace B
open PySem L2 PySem.Spec PyProof.Rows
theorem own_in {K : PySem.W.Frag} {h : Heap} {mg : Str -> Option Value} {x : Str} {C : Addr} {bm : List Value} {id : String} (X : K.In h) (hb : mg x = some (.ref C)) (q : PySem.W.excIn K C bm id = true) : OwnCls x C bm id mg h := by
  refine ⟨hb, ?_⟩
  unfold PySem.W.excIn at q
  split at q
  case h_2 => cases q
  rename_i dd cd sl ho
  split at q
  case h_2 => cases q
  rename_i C' tl k0 k1 k2 k3 n k5 hm hs
  simp only [Bool.and_eq_true, beq_iff_eq, Bool.not_eq_true'] at q
  obtain ⟨⟨⟨⟨⟨rfl, rfl⟩, hdel⟩, ht⟩, hok⟩, hni⟩ := q
  cases cd
  dsimp only at hm hdel hok hni
  subst hm hdel
  obtain rfl : sl = #[k0, k1, k2, k3, some (.builtin n), k5] := Array.toList_inj.mp hs
  exact ⟨tl, _, _, _, _, _, _, _, _, _, dd, k0, k1, k2, k3, k5, _, X _ _ ho, .of_isNs (PySem.W.isNs_of_in X hok), PySem.W.nsMap_none_of_in X hok hni, PySem.W.tail_of_in X ht⟩
theorem cal1_mk {P : Program} {w : World} {K : PySem.W.Frag} {h base : Heap} {mg : Str -> Option Value} {x : Str} {ps : List Str} {k : Nat} {sp : Sp} {f : Addr} {fd : FuncData} (X : K.In h) (G : h.Ns mainGlobals mg)
    (a : PySem.W.nsIn K mainGlobals x = some (some (.ref f))) (kp : PySem.W.keepIn K (.ref f) = true) (b : Binds K fd ps []) (F : FnOk P w K mg base (CX1 P w) k f fd ps sp) : Cal1 P w K mg base x ps k sp := ⟨⟨f, fd, PySem.W.mg_of X G a, kp, b, F⟩⟩
end B
namespace B
open PySem PySem.W
theorem cl_of {K : Frag} {C : Addr} {b : Value} {r : Bool} (h : mroIn K C b = some r) : (clsIn K C).isSome = true := by
  obtain ⟨cd, e, _⟩ := Option.bind_eq_some_iff.mp h
  rw [e]; rfl
theorem exm_mk {K : Frag} {R C : Addr} (h1 : mroIn K R (.type "BaseException") = some true) (h2 : typeIn K (.ref R) = some (.type "type")) (h3 : mroIn K C (.ref R) = some true) : exmOne K (.ref C) (.ref R) = some true := by
  have hs : subIn K (.ref R) (.type "BaseException") = some true := h1
  unfold exmOne
  rw [hs, if_pos (by decide)]
  unfold kitCls
  dsimp only
  rw [if_pos (by rw [cl_of h1, h2]; decide)]
  exact h3
theorem kit_mk {K : Frag} {C D : Addr} {b b2 : Bool} {v : Value} (ne : (C == D) = false) (h1 : typeIn K (.ref D) = some (.type "type")) (h2 : mroIn K D v = some b2) (h3 : mroIn K C (.ref D) = some b) : kitOne K (.ref C) (.ref D) = some b := by
  unfold kitOne
  rw [if_neg (fun z => by
    have e : C = D := Value.ref.inj (beq_iff_eq.mp z)
    rw [e] at ne; simp at ne)]
  unfold kitCls
  dsimp only
  rw [if_pos (by rw [cl_of h2, h1]; decide)]
  exact h3
theorem kit_same {K : Frag} {C : Addr} : kitOne K (.ref C) (.ref C) = some true := by
  unfold kitOne; rw [if_pos (by simp)]
theorem kit_ve {K : Frag} {C : Addr} (h : mroIn K C (.type "ValueError") = some true) : kitOne K (.ref C) (.type "ValueError") = some true := by
  unfold kitOne
  rw [if_neg (by intro z; cases beq_iff_eq.mp z)]
  unfold kitCls
  dsimp only
  rw [if_pos (by decide +kernel)]
  exact h
theorem beq_sym {C D : Addr} (h : (C == D) = false) : (D == C) = false := by
  rw [Bool.eq_false_iff] at h ⊢
  intro z; exact h (by rw [beq_iff_eq] at z ⊢; exact z.symm)
end B
local macro_rules | `(tactic| walk_at "rd") => do
  let r <- `(tactic| exact rfl)
  let i <- `(tactic| intro _ _)
  let a <- `(tactic| assumption)
  let n <- `(tactic| (focus ((try simp only [List.set_cons_zero, List.set_cons_succ]); (exact rfl))))
  let as <- "seqG:i nxE:a opVV:rr opVC:r consVVN:rr consVN:r consV:r var:r opXC consCN asg ret drop ifS next op cons nil c test truth call cb bl tru I0 addI int or and not sl nopart part lst tup un rU isN notN forL forR compL compR andV notV all bm0 bm gcons gnil while tB tDIn tDNotIn tDGet sDPut tListVals tFld sFld tMeth forE tKGet tKGet1 gsub tMake nameE:n eqS:r neS:r".splitOn " " |>.toArray.mapM fun s => do
    let p := s.splitOn ":"
    let t <- `(tactic| with_reducible apply $(Lean.mkIdent (`L2 ++ Lean.Name.mkSimple ("rd_" ++ p.headD ""))))
    let ts := #[t] ++ ((p.getD 1 "").toList.toArray.map fun c => if c == 'r' then r else if c == 'i' then i else if c == 'a' then a else n)
    `(Lean.Parser.Tactic.tacticSeq| $[$ts]*)
  `(tactic| repeat first $[| $as:tacticSeq]*)
namespace B
open PySem L2
noncomputable def top (i : Nat) : Stmt := PySem.Challenge.pw_benchrota_k14_refused.main.body.getD i (.Pass ⟨0, 0, 0, 0⟩)
noncomputable abbrev s_is_ahead : Stmt := top 5
noncomputable abbrev s_foremost_of : Stmt := top 6
noncomputable abbrev s_waited_for_by : Stmt := top 8
noncomputable abbrev s_row_by : Stmt := top 9
noncomputable abbrev s_ring_by : Stmt := top 10
noncomputable abbrev s_heir_by : Stmt := top 11
noncomputable abbrev s_place_for : Stmt := top 14
noncomputable abbrev s_is_step : Stmt := top 18
noncomputable abbrev s_refuse_wrong : Stmt := top 19
noncomputable abbrev s_begin : Stmt := top 20
noncomputable abbrev s_pages_of : Stmt := top 21
noncomputable abbrev s_diary : Stmt := top 22
noncomputable abbrev s_rings : Stmt := top 23
noncomputable abbrev s__law_upto : Stmt := top 25
noncomputable abbrev s__law_whole : Stmt := top 26
noncomputable abbrev s__law_at : Stmt := top 27
noncomputable abbrev s__law_hands_of : Stmt := top 28
noncomputable abbrev s__law_spoilt : Stmt := top 29
noncomputable abbrev s__law_early : Stmt := top 30
noncomputable abbrev s__law_answer : Stmt := top 31
noncomputable abbrev s_law : Stmt := top 32
noncomputable abbrev s_Floor___init__ : Stmt := inClass (top 15) 0
noncomputable abbrev s_Floor_is_finished : Stmt := inClass (top 15) 1
noncomputable abbrev s_Floor_find_chain : Stmt := inClass (top 15) 2
noncomputable abbrev s_Floor_show_page : Stmt := inClass (top 15) 3
noncomputable abbrev s_Floor_pass_tick : Stmt := inClass (top 15) 4
noncomputable abbrev s_Floor_serve : Stmt := inClass (top 15) 5
noncomputable abbrev s_Floor_begin_waiting : Stmt := inClass (top 15) 6
noncomputable abbrev s_Floor_begin_holding : Stmt := inClass (top 15) 7
noncomputable abbrev s_Floor_pass_on : Stmt := inClass (top 15) 8
noncomputable abbrev s_Floor_tools_of : Stmt := inClass (top 15) 9
noncomputable abbrev s_Floor_give_back : Stmt := inClass (top 15) 10
noncomputable abbrev s_Floor_find_rings : Stmt := inClass (top 15) 11
variable {P : Program} {w : World} {K : PySem.W.Frag} {mg : Str -> Option Value} {base : Heap} {f : Addr} {fd : FuncData} {C : Addr}
theorem sc_is_ahead : FnScope ["ranks", "one", "other"] ["ranks", "one", "other"] (defScope s_is_ahead) := ⟨rfl, rfl, rfl, by decide +kernel, rfl, by decide +kernel, by decide +kernel⟩
theorem ok_is_ahead (F : Fun K "is_ahead" "is_ahead" s_is_ahead f fd) (T : Txt mg) : FnOk P w K mg base CX0 1 f fd ["ranks", "one", "other"] (sp_is_ahead K) := by
  refine F.okQ sc_is_ahead (fun vs H Q E h => ?_) (fun cdv A outer s H E hr => ?_)
  · obtain ⟨a, rs, i, j, rfl, _⟩ := h
    rfl
  have hU := room200 hr
  refine ⟨_, (qss_cons (qs_if (qt_cmp (qo_eq K hU) (qe_ixA K (qv 0) (qv 1)) (qe_ixA K (qv 0) (qv 2)) (nomark _)) (qss_one (qs_ret (qe_cmp qo_lt (qv 1) (qv 2) (nomark _)))) qss_nil)
      (qss_one (qs_ret (qe_cmp qo_gt (qe_ixA K (qv 0) (qv 1)) (qe_ixA K (qv 0) (qv 2)) (nomark _))))), fun vs Q h => ?_⟩
  obtain ⟨a, rs, i, j, rfl, hS, hi, hj, q⟩ := h
  refine st_eq (σ := [some _, some _, some _]) rfl ?_
  walk_at "rd"
  refine rd_ixL hS (atI_ints hi) ?_
  walk_at "rd"
  refine rd_ixL hS (atI_ints hj) ?_
  walk_at "rd"
  unfold ahead at q
  refine ite3 (fun e => ?_) (fun e => ?_)
  · have e' : rs.getD i 0 = rs.getD j 0 := by simpa using e
    rw [if_pos e'] at q
    walk_at "rd"
    have z : decide ((i : Int) < (j : Int)) = decide (i < j) := by simp
    rw [z]
    exact q
  · have e' : ¬ rs.getD i 0 = rs.getD j 0 := by simpa using e
    rw [if_neg e'] at q
    walk_at "rd"
    refine rd_ixL hS (atI_ints hi) ?_
    walk_at "rd"
    refine rd_ixL hS (atI_ints hj) ?_
    walk_at "rd"
    exact q
theorem sc_foremost_of : FnScope ["ranks", "some", "foremost", "place"] ["ranks", "some"] (defScope s_foremost_of) := ⟨rfl, rfl, rfl, by decide +kernel, rfl, by decide +kernel, by decide +kernel⟩
theorem ok_foremost_of (F : Fun K "foremost_of" "foremost_of" s_foremost_of f fd) (T : Txt mg) (G_is_ahead : Cal P w K mg base "is_ahead" ["ranks", "one", "other"] 1 (sp_is_ahead K)) : FnOk P w K mg base CX0 2 f fd ["ranks", "some"] (sp_foremost_of K) := by
  refine F.okQ sc_foremost_of (fun vs H Q E h => ?_) (fun cdv A outer s H E hr => ?_)
  · obtain ⟨a, b, rs, is, rfl, _⟩ := h
    rfl
  have hU := room200 hr
  refine ⟨_, (qss_cons (qs_set 2 sc_foremost_of.nd qe_non)
      (qss_cons (qs_for (qi_list K (qv 1)) (qg_name 3 sc_foremost_of.nd) (qss_one (qs_if (qt_w (qw_or (qt_cmp qo_isN (qv 2) qe_non (nomark _)) (qw_or1 (qt_tru K (qe_callC G_is_ahead hr.up (qa_cons (qv 0) (qa_cons (qv 3) (qa_cons (qv 2) qa_nil)))) (fun _ => rfl))))) (qss_one (qs_set 2 sc_foremost_of.nd (qv 3))) qss_nil)))
      (qss_one (qs_ret (qv 2))))), fun vs Q h => ?_⟩
  obtain ⟨a, b, rs, is, rfl, hS, hB, hi, q⟩ := h
  refine st_eq (σ := [some _, some _, none, none]) rfl ?_
  walk_at "rd"
  refine for_lst (xs := nV is) (fun n σ H2 => ∃ v, σ = [some (.ref a), some (.ref b), some (oV (fm rs (is.take n))), v] /\ H2 = H) ⟨none, rfl, rfl⟩ (fun n σ H2 _ ⟨_, _, e⟩ => e ▸ hB) ?_ ?_
  · rintro n y σ H2 hn ⟨v, rfl, rfl⟩
    obtain ⟨p, hp, rfl⟩ : ∃ p, is[n]? = some p /\ y = V.int (p : Nat) := by
      rw [List.getElem?_map] at hn
      cases e : is[n]? with
      | none => rw [e] at hn; cases hn
      | some p => rw [e] at hn; exact ⟨p, rfl, (Option.some.inj hn).symm⟩
    have hpm : p < rs.length := hi p (List.mem_of_getElem? hp)
    have et : fm rs (is.take (n + 1)) = fmStep rs (fm rs (is.take n)) p := by
      rw [List.take_add_one, hp]
      exact fm_snoc rs (is.take n) p
    walk_at "rd"
    rcases ef : fm rs (is.take n) with _ | f
    · rw [ef] at et
      refine iteP (by rfl) (iteT ?_)
      walk_at "rd"
      exact ⟨_, by rw [et]; rfl, rfl⟩
    · rw [ef] at et
      have hfm : f < rs.length := hi f (List.mem_of_mem_take (fm_mem ef))
      refine iteN (by simp [oV]) ?_
      walk_at "rd"
      refine ⟨a, rs, p, f, rfl, hS, hpm, hfm, ?_⟩
      walk_at "rd"
      refine ite3 (fun e => ?_) (fun e => ?_)
      · walk_at "rd"
        exact ⟨_, by rw [et]; simp only [fmStep, e, if_true]; rfl, rfl⟩
      · walk_at "rd"
        exact ⟨_, by rw [et]; simp only [fmStep, e, Bool.false_eq_true, if_false]; rfl, rfl⟩
  · rintro σ H2 ⟨v, rfl, rfl⟩
    walk_at "rd"
    have e : is.take (nV is).length = is := by simp
    rw [e]
    exact q
theorem sc_waited_for_by : FnScope ["holders", "wanted", "hand"] ["holders", "wanted", "hand"] (defScope s_waited_for_by) := ⟨rfl, rfl, rfl, by decide +kernel, rfl, by decide +kernel, by decide +kernel⟩
theorem ok_waited_for_by (F : Fun K "waited_for_by" "waited_for_by" s_waited_for_by f fd) (T : Txt mg) : FnOk P w K mg base CX0 1 f fd ["holders", "wanted", "hand"] (sp_waited_for_by K) := by
  refine F.okQ sc_waited_for_by (fun vs H Q E h => ?_) (fun cdv A outer s H E hr => ?_)
  · obtain ⟨a, b, held, waits, h, rfl, _⟩ := h
    rfl
  have hU := room200 hr
  refine ⟨_, (qss_cons (qs_if (qt_din hU (qv 2) (qv 1)) (qss_one (qs_ret (qe_dget hU (qv 0) (qe_dget hU (qv 1) (qv 2) (fun _ _ => rfl)) (fun _ _ => rfl)))) qss_nil)
      (qss_one (qs_ret qe_non))), fun vs Q h => ?_⟩
  obtain ⟨a, b, held, waits, h, rfl, hA, hB, wf, q⟩ := h
  refine st_eq (σ := [some _, some _, some _]) rfl ?_
  walk_at "rd"
  refine rd_in1 hB ?_
  rw [Option.isSome_map]
  walk_at "rd"
  cases e : second waits h with
  | none =>
    refine iteN (by simp) ?_
    walk_at "rd"
    have e2 : nextOf held waits h = none := by unfold nextOf; rw [e]; rfl
    rw [e2] at q
    exact q
  | some t =>
    obtain ⟨m, hm, hn⟩ := nextOf_some wf e
    refine iteP (by simp) ?_
    walk_at "rd"
    refine rd_at1 hB e ?_
    walk_at "rd"
    refine rd_at1 hA hm ?_
    rw [hn] at q
    exact q
theorem sc_row_by : FnScope ["holders", "wanted", "hand", "row"] ["holders", "wanted", "hand"] (defScope s_row_by) := ⟨rfl, rfl, rfl, by decide +kernel, rfl, by decide +kernel, by decide +kernel⟩
theorem ok_row_by (F : Fun K "row_by" "row_by" s_row_by f fd) (T : Txt mg) (G_waited_for_by : Cal P w K mg base "waited_for_by" ["holders", "wanted", "hand"] 1 (sp_waited_for_by K)) : FnOk P w K mg base CX0 2 f fd ["holders", "wanted", "hand"] (sp_row_by K) := by
  refine F.okQ sc_row_by (fun vs H Q E h => ?_) (fun cdv A outer s H E hr => ?_)
  · obtain ⟨a, b, held, waits, h, rfl, _⟩ := h
    rfl
  have hU := room200 hr
  refine ⟨_, (qss_cons (qs_set 3 sc_row_by.nd qe_dnew)
      (qss_cons (qs_while (qt_w (qw_and (qt_cmp qo_notN (qv 2) qe_non (nomark _)) (qw_and1 (qt_dnotin hU (qv 2) (qv 3))))) (qss_cons (qs_dput hU (qv 3) (qv 2) qe_bl)
      (qss_one (qs_set 2 sc_row_by.nd (qe_callC G_waited_for_by hr.up (qa_cons (qv 0) (qa_cons (qv 1) (qa_cons (qv 2) qa_nil))))))))
      (qss_one (qs_ret (qe_callTy qc_listD T.b_list bt_list (qa_cons (qv 3) qa_nil)))))), fun vs Q h => ?_⟩
  obtain ⟨a, b, held, waits, h, rfl, hA, hB, wf, hw, q⟩ := h
  refine st_eq (σ := [some _, some _, some _, none]) rfl ?_
  walk_at "rd"
  refine rd_tDNew fun p fp => ?_
  have s0 := (Same.refl H).updF (o := .dK []) fp
  have hp0 : upd H p (.dK []) p = some (dB []) := upd_same
  revert s0 hp0
  generalize upd H p (.dK []) = H0
  intro s0 hp0
  walk_at "rd"
  refine ⟨fun m σ H' => ∃ (L : List Int) (x : Option Int), σ = [some (.ref a), some (.ref b), some (iV x), some (.ref p)] /\ m + L.length = waits.length + 2 /\ Going held waits h L x /\ H' p = some (dB L) /\ Same H H',
    ⟨waits.length + 2, [], some h, rfl, rfl, .inl ⟨rfl, rfl⟩, hp0, s0⟩, ?_⟩
  rintro m σ H1 ⟨L, x, rfl, hm, g, hp, s1⟩
  have hlen := g.len
  walk_at "rd"
  cases x with
  | none =>
    refine iteN (by simp [iV]) (iteF ?_)
    have eL := g.out wf (.inl rfl)
    walk_at "rd"
    refine rd_listD hp fun p2 f2 => ?_
    exact q p2 _ (s1.updF (s1.free f2)) (s1.free f2) (by rw [upd_same, keys_dB, eL])
  | some y =>
    refine iteP (by simp [iV]) ?_
    walk_at "rd"
    refine ⟨p, _, rfl, DGet.k (k := Sum.inl y) hp, ?_⟩
    rw [valV_dB]
    walk_at "rd"
    by_cases hin : y ∈ L
    · rw [if_pos hin]
      refine iteN (by simp) ?_
      have eL := g.out wf (.inr ⟨y, rfl, hin⟩)
      walk_at "rd"
      refine rd_listD hp fun p2 f2 => ?_
      exact q p2 _ (s1.updF (s1.free f2)) (s1.free f2) (by rw [upd_same, keys_dB, eL])
    · rw [if_neg hin]
      refine iteP (by simp) ?_
      obtain ⟨n, rfl⟩ : ∃ n, m = n + 1 := ⟨m - 1, by lia⟩
      refine ⟨fun σ' H' => ∃ (L : List Int) (x : Option Int), σ' = [some (.ref a), some (.ref b), some (iV x), some (.ref p)] /\ n + L.length = waits.length + 2 /\ Going held waits h L x /\ H' p = some (dB L) /\ Same H H',
        fun σ' H' z => ⟨n, Nat.lt_succ_self n, z⟩, ?_⟩
      walk_at "rd"
      refine ⟨p, _, rfl, DPut.k (k := Sum.inl y) hp (small1000 (by simp; lia)), ?_⟩
      rw [put_dB hin]
      have s2 := s1.updF (o := dB (L ++ [y])) fp
      have hp2 : upd H1 p (dB (L ++ [y])) p = some (dB (L ++ [y])) := upd_same
      revert s2 hp2
      generalize upd H1 p (dB (L ++ [y])) = H2
      intro s2 hp2
      walk_at "rd"
      refine ⟨a, b, held, waits, y, rfl, s2 _ _ hA, s2 _ _ hB, wf, ?_⟩
      walk_at "rd"
      exact ⟨L ++ [y], _, rfl, by simp; lia, g.next hin, hp2, s2⟩
theorem sc_ring_by : FnScope ["holders", "wanted", "hand", "row", "again", "ring", "least"] ["holders", "wanted", "hand"] (defScope s_ring_by) := ⟨rfl, rfl, rfl, by decide +kernel, rfl, by decide +kernel, by decide +kernel⟩
theorem ok_ring_by (F : Fun K "ring_by" "ring_by" s_ring_by f fd) (T : Txt mg) (G_waited_for_by : Cal P w K mg base "waited_for_by" ["holders", "wanted", "hand"] 1 (sp_waited_for_by K)) (G_row_by : Cal P w K mg base "row_by" ["holders", "wanted", "hand"] 2 (sp_row_by K)) : FnOk P w K mg base CX0 3 f fd ["holders", "wanted", "hand"] (sp_ring_by K) := by
  refine F.okQ sc_ring_by (fun vs H Q E h => ?_) (fun cdv A outer s H E hr => ?_)
  · obtain ⟨a, b, held, waits, h, rfl, _⟩ := h
    rfl
  have hU := room200 hr
  refine ⟨_, (qss_cons (qs_set 3 sc_ring_by.nd (qe_callC G_row_by hr.up (qa_cons (qv 0) (qa_cons (qv 1) (qa_cons (qv 2) qa_nil)))))
      (qss_cons (qs_set 4 sc_ring_by.nd (qe_callC G_waited_for_by hr.up (qa_cons (qv 0) (qa_cons (qv 1) (qa_cons (qe_ixA K (qv 3) (qe_neg qe_int)) qa_nil)))))
      (qss_cons (qs_if (qt_cmp qo_isN (qv 4) qe_non (nomark _)) (qss_one (qs_ret qe_non)) qss_nil)
      (qss_cons (qs_set 5 sc_ring_by.nd (qe_slice K (qv 3) (qo_some (qe_bm K PySem.F.plainAttrs_list PySem.F.slot_list_index PySem.F.type_list_index (qm_index K) (qv 3) (qa_cons (qv 4) qa_nil))) qo_none))
      (qss_cons (qs_set 6 sc_ring_by.nd (qe_bm K PySem.F.plainAttrs_list PySem.F.slot_list_index PySem.F.type_list_index (qm_index K) (qv 5) (qa_cons (qe_callB (qc_min K) T.b_min bt_min (qa_cons (qv 5) qa_nil)) qa_nil)))
      (qss_one (qs_ret (qe_op qo_add (qe_slice K (qv 5) (qo_some (qv 6)) qo_none) (qe_slice K (qv 5) qo_none (qo_some (qv 6))))))))))), fun vs Q h => ?_⟩
  obtain ⟨a, b, held, waits, h, rfl, hA, hB, wf, hw, q0, q⟩ := h
  refine st_eq (σ := [some _, some _, some _, none, none, none, none]) rfl ?_
  have R := rowFrom_ok wf h
  have hlen := row_len wf h
  walk_at "rd"
  refine ⟨a, b, held, waits, h, rfl, hA, hB, wf, hw, fun p H1 s1 fp hp => ?_⟩
  walk_at "rd"
  refine rd_ixL (.of hp) (atI_lastD R.ne) ?_
  walk_at "rd"
  refine ⟨a, b, held, waits, _, rfl, s1 _ _ hA, s1 _ _ hB, wf, ?_⟩
  walk_at "rd"
  cases e : nextOf held waits ((rowFrom held waits h).getLastD 0) with
  | none =>
    refine iteP (by rfl) ?_
    walk_at "rd"
    exact q0 H1 s1 (nextOf_none wf e)
  | some g =>
    have hg : g ∈ rowFrom held waits h := by
      rcases R.last _ R.up.last? with z | ⟨m, h1, h2⟩
      · unfold nextOf at e
        rw [z] at e
        cases e
      · rw [e] at h1
        cases h1
        exact h2
    have hwt : second waits (rowEnd held waits h) ≠ none := fun z => by
      unfold nextOf at e
      unfold rowEnd at z
      rw [z] at e
      cases e
    obtain ⟨rd, hend⟩ := row_round R e hg
    refine iteN (by simp [iV]) ?_
    walk_at "rd"
    refine rd_tyL (.of hp) ?_
    walk_at "rd"
    refine rd_index hp hg ?_
    walk_at "rd"
    refine rd_slL (.of hp) fun p2 f2 => ?_
    rw [cut_from, <- List.map_drop]
    have f2 := s1.free f2
    revert rd hend
    have hl2 : ((rowFrom held waits h).drop ((rowFrom held waits h).idxOf g)).length <= 901 := by rw [List.length_drop]; lia
    revert hl2
    generalize (rowFrom held waits h).drop ((rowFrom held waits h).idxOf g) = ring
    intro hl2 rd hend
    have s2 := s1.updF (o := .lst (ring.map V.int)) f2
    have hp2 : upd H1 p2 (.lst (ring.map V.int)) p2 = some (.lst (ring.map V.int)) := upd_same
    revert s2 hp2
    generalize upd H1 p2 (.lst (ring.map V.int)) = H2
    intro s2 hp2
    walk_at "rd"
    refine rd_tyL (.of hp2) ?_
    walk_at "rd"
    refine rd_min (.of hp2) rd.ne fun M hM1 hM2 => ?_
    walk_at "rd"
    refine rd_index hp2 hM1 ?_
    walk_at "rd"
    refine rd_slL (.of hp2) fun p3 f3 => ?_
    rw [cut_from, <- List.map_drop]
    have hp23 : upd H2 p3 (.lst ((ring.drop (ring.idxOf M)).map V.int)) p2 = some (.lst (ring.map V.int)) := by rw [upd_ne (ne_of_none hp2 f3)]; exact hp2
    have s3 := s2.updF (o := .lst ((ring.drop (ring.idxOf M)).map V.int)) (s2.free f3)
    have hp3 : upd H2 p3 (.lst ((ring.drop (ring.idxOf M)).map V.int)) p3 = some (.lst ((ring.drop (ring.idxOf M)).map V.int)) := upd_same
    revert s3 hp23 hp3
    generalize upd H2 p3 (.lst ((ring.drop (ring.idxOf M)).map V.int)) = H3
    intro hp23 s3 hp3
    walk_at "rd"
    refine rd_slL (.of hp23) fun p4 f4 => ?_
    rw [cut_to, <- List.map_take]
    have hp34 : upd H3 p4 (.lst ((ring.take (ring.idxOf M)).map V.int)) p3 = some (.lst ((ring.drop (ring.idxOf M)).map V.int)) := by rw [upd_ne (ne_of_none hp3 f4)]; exact hp3
    have s4 := s3.updF (o := .lst ((ring.take (ring.idxOf M)).map V.int)) (s3.free f4)
    have hp4 : upd H3 p4 (.lst ((ring.take (ring.idxOf M)).map V.int)) p4 = some (.lst ((ring.take (ring.idxOf M)).map V.int)) := upd_same
    revert s4 hp34 hp4
    generalize upd H3 p4 (.lst ((ring.take (ring.idxOf M)).map V.int)) = H4
    intro hp34 s4 hp4
    walk_at "rd"
    refine rd_cat hp34 hp4 (big (by simp; lia)) fun p5 f5 => ?_
    rw [<- List.map_append]
    exact q p5 _ _ (s4.updF (s4.free f5)) (s4.free f5) upd_same (by simp; lia) hwt (ring_ok rd hM1 hM2) (rot_mem hend)
theorem sc_heir_by : FnScope ["ranks", "holders", "wanted", "tool", "called", "caller", "hand"] ["ranks", "holders", "wanted", "tool"] (defScope s_heir_by) := ⟨rfl, rfl, rfl, by decide +kernel, rfl, by decide +kernel, by decide +kernel⟩
theorem ok_heir_by (F : Fun K "heir_by" "heir_by" s_heir_by f fd) (T : Txt mg) (G_foremost_of : Cal P w K mg base "foremost_of" ["ranks", "some"] 2 (sp_foremost_of K)) (G_row_by : Cal P w K mg base "row_by" ["holders", "wanted", "hand"] 2 (sp_row_by K)) : FnOk P w K mg base CX0 3 f fd ["ranks", "holders", "wanted", "tool"] (sp_heir_by K) := by
  refine F.okQ sc_heir_by (fun vs H Q E h => ?_) (fun cdv A outer s H E hr => ?_)
  · obtain ⟨a, b, c, rs, held, waits, tool, rfl, _⟩ := h
    rfl
  have hU := room200 hr
  refine ⟨_, (qss_cons (qs_if (qt_cmp (qo_notIn K) (qv 3) (qe_listVals T.b_list (qv 2)) (by with_unfolding_all rfl)) (qss_one (qs_ret qe_non)) qss_nil)
      (qss_cons (qs_set 4 sc_heir_by.nd qe_dnew)
      (qss_cons (qs_for (qi_range1 T.b_range (qa_cons (qe_callB (qc_len K) T.b_len bt_len (qa_cons (qv 0) qa_nil)) qa_nil)) (qg_name 5 sc_heir_by.nd) (qss_one (qs_for (qi_list K (qe_callC G_row_by hr.up (qa_cons (qv 1) (qa_cons (qv 2) (qa_cons (qv 5) qa_nil))))) (qg_name 6 sc_heir_by.nd) (qss_one (qs_if (qt_cmp (qo_eq K hU) (qe_bm K PySem.F.plainAttrs_dict PySem.F.slot_dict_get PySem.F.type_dict_get (qm_dget hU) (qv 2) (qa_cons (qv 6) qa_nil)) (qv 3) (nomark _)) (qss_one (qs_dput hU (qv 4) (qv 5) (qv 6))) qss_nil)))))
      (qss_one (qs_ret (qe_dget hU (qv 4) (qe_callC G_foremost_of hr.up (qa_cons (qv 0) (qa_cons (qe_callTy qc_listD T.b_list bt_list (qa_cons (qv 4) qa_nil)) qa_nil))) (fun _ _ => rfl))))))), fun vs Q h => ?_⟩
  obtain ⟨a, b, c, rs, held, waits, tool, rfl, hS, hA, hB, wf, ir, hw, hr2, q⟩ := h
  refine st_eq (σ := [some _, some _, some _, some _, none, none, none]) rfl ?_
  walk_at "rd"
  refine ⟨c, _, rfl, hB, fun p1 f1 => ?_⟩
  rw [show (waits.map fun p => ((Sum.inl p.1 : Key), V.int p.2)).map (·.2) = (waits.map (·.2)).map V.int by rw [List.map_map, List.map_map]; rfl]
  have s1 := (Same.refl H).updF (o := .lst ((waits.map (·.2)).map V.int)) f1
  have hp1 : upd H p1 (.lst ((waits.map (·.2)).map V.int)) p1 = some (.lst ((waits.map (·.2)).map V.int)) := upd_same
  revert s1 hp1
  generalize upd H p1 (.lst ((waits.map (·.2)).map V.int)) = H1
  intro s1 hp1
  refine rd_notIn (.of hp1) rfl (flat_int _) ?_
  rw [inV_int]
  walk_at "rd"
  by_cases ht : tool ∈ waits.map (·.2)
  · refine iteN (by simpa using ht) ?_
    walk_at "rd"
    refine rd_tDNew fun p2 f2 => ?_
    have f2 := s1.free f2
    have s2 := s1.updF (o := .dK []) f2
    have hp2 : upd H1 p2 (.dK []) p2 = some (dI (calledBy held waits tool 0)) := upd_same
    revert s2 hp2
    generalize upd H1 p2 (.dK []) = H2
    intro s2 hp2
    walk_at "rd"
    refine rd_lenL (s2.seq hS) ?_
    rw [List.length_map]
    walk_at "rd"
    refine for_rng (fun n σ H' => ∃ v1 v2, σ = [some (.ref a), some (.ref b), some (.ref c), some (.int tool), some (.ref p2), v1, v2] /\ H' p2 = some (dI (calledBy held waits tool n)) /\ Same H H') (by lia) ⟨none, none, rfl, hp2, s2⟩ ?_ ?_
    · rintro n σ H3 hn ⟨v1, v2, rfl, hp3, s3⟩
      rw [show (0 : Int) + (n : Int) = (n : Int) by lia]
      walk_at "rd"
      refine ⟨b, c, held, waits, n, rfl, s3 _ _ hA, s3 _ _ hB, wf, hw, fun p H4 s4 fp hp => ?_⟩
      have hp24 := s4 _ _ hp3
      have hne : p ≠ p2 := fun z => by rw [z, hp3] at fp; cases fp
      refine for_lst (xs := (rowFrom held waits n).map V.int) (fun k σ H' => ∃ v2, σ = [some (.ref a), some (.ref b), some (.ref c), some (.int tool), some (.ref p2), some (.int (n : Int)), v2] /\
        H' p2 = some (dI (withCall (calledBy held waits tool n) n (calls waits tool ((rowFrom held waits n).take k)))) /\ H' p = some (.lst ((rowFrom held waits n).map V.int)) /\ Same H H')
        ⟨v2, rfl, by rw [hp24]; simp [withCall, calls], hp, s3.trans s4⟩ (fun k σ H' _ ⟨_, _, _, z, _⟩ => .of z) ?_ ?_
      · rintro k x σ H5 hx ⟨v2, rfl, hc5, hl5, s5⟩
        obtain ⟨y, hy, rfl⟩ : ∃ y, (rowFrom held waits n)[k]? = some y /\ x = V.int y := by
          rw [List.getElem?_map] at hx
          cases e : (rowFrom held waits n)[k]? with
          | none => rw [e] at hx; cases hx
          | some p => rw [e] at hx; exact ⟨p, rfl, (Option.some.inj hx).symm⟩
        have hcl : calls waits tool ((rowFrom held waits n).take (k + 1)) = if second waits y = some tool then some y else calls waits tool ((rowFrom held waits n).take k) := by
          rw [List.take_add_one, hy]
          exact calls_snoc _ _
        walk_at "rd"
        refine rd_tyD (s5 _ _ hB) ?_
        walk_at "rd"
        refine rd_get (s5 _ _ hB) ?_
        walk_at "rd"
        refine rd_eqS (x := iV (second waits y)) (y := .int tool) (by cases second waits y <;> rfl) ?_
        walk_at "rd"
        by_cases e : second waits y = some tool
        · rw [if_pos e] at hcl
          refine iteP (by rw [e]; simp [iV]) ?_
          walk_at "rd"
          refine ⟨p2, _, rfl, DPut.k (k := Sum.inl (n : Int)) hc5 (small1000 ?_), ?_⟩
          · have := calledBy_len held waits tool n
            unfold withCall
            cases calls waits tool ((rowFrom held waits n).take k) <;> (simp; lia)
          rw [put_call calledBy_none]
          exact ⟨_, rfl, by rw [upd_same, hcl], by rw [upd_ne hne]; exact hl5, s5.updF f2⟩
        · rw [if_neg e] at hcl
          refine iteN (by cases z : second waits y <;> simp [iV]; rintro rfl; exact e z) ?_
          walk_at "rd"
          exact ⟨_, rfl, by rw [hcl]; exact hc5, hl5, s5⟩
      · rintro σ H5 ⟨v2, rfl, hc5, hl5, s5⟩
        refine ⟨_, _, rfl, ?_, s5⟩
        rw [hc5, List.length_map, List.take_length, calledBy_succ]
        rfl
    · rintro σ H3 ⟨v1, v2, rfl, hp3, s3⟩
      obtain ⟨f, hN, h1, h2, h3, h4⟩ := heir_ok wf ir ht
      walk_at "rd"
      refine rd_listD hp3 fun p5 f5 => ?_
      rw [show ((calledBy held waits tool rs.length).map fun p => ((Sum.inl p.1 : Key), V.int p.2)).map (fun kv => kV kv.1) = nV ((calledBy held waits tool rs.length).map fun p => p.1.toNat) from called_keys _ _ _ _]
      have hp35 : upd H3 p5 (.lst (nV ((calledBy held waits tool rs.length).map fun p => p.1.toNat))) p2 = some (dI (calledBy held waits tool rs.length)) := by rw [upd_ne (ne_of_none hp3 f5)]; exact hp3
      have s4 := s3.updF (o := .lst (nV ((calledBy held waits tool rs.length).map fun p => p.1.toNat))) (s3.free f5)
      have hp5 : upd H3 p5 (.lst (nV ((calledBy held waits tool rs.length).map fun p => p.1.toNat))) p5 = some (.lst (nV ((calledBy held waits tool rs.length).map fun p => p.1.toNat))) := upd_same
      revert s4 hp35 hp5
      generalize upd H3 p5 (.lst (nV ((calledBy held waits tool rs.length).map fun p => p.1.toNat))) = H4
      intro hp35 s4 hp5
      walk_at "rd"
      refine ⟨a, p5, rs, _, rfl, s4.seq hS, .of hp5, called_in _ _ _ _, ?_⟩
      rw [h1]
      refine rd_at1 (x := (f : Int)) hp35 h2 ?_
      rw [heirF_eq ht h1 h2] at q
      exact q H4 s4
  · refine iteP (by simpa using ht) ?_
    walk_at "rd"
    rw [heirF_none ht] at q
    exact q H1 s1
theorem sc_place_for : FnScope ["held", "tool", "low", "high", "middle"] ["held", "tool"] (defScope s_place_for) := ⟨rfl, rfl, rfl, by decide +kernel, rfl, by decide +kernel, by decide +kernel⟩
theorem ok_place_for (F : Fun K "place_for" "place_for" s_place_for f fd) (T : Txt mg) : FnOk P w K mg base CX0 1 f fd ["held", "tool"] (sp_place_for K) := by
  refine F.okQ sc_place_for (fun vs H Q E h => ?_) (fun cdv A outer s H E hr => ?_)
  · obtain ⟨a, ys, ps, t, rfl, _⟩ := h
    rfl
  have hU := room200 hr
  refine ⟨_, (qss_cons (qs_set 2 sc_place_for.nd qe_int)
      (qss_cons (qs_set 3 sc_place_for.nd (qe_callB (qc_len K) T.b_len bt_len (qa_cons (qv 0) qa_nil)))
      (qss_cons (qs_while (qt_cmp qo_lt (qv 2) (qv 3) (nomark _)) (qss_cons (qs_set 4 sc_place_for.nd (qe_op qo_fdiv (qe_op qo_add (qv 2) (qv 3)) qe_int))
      (qss_one (qs_if (qt_cmp qo_lt (qe_ixA K (qe_ix K (qv 0) (qv 4) (fun _ _ => rfl)) qe_int) (qv 1) (nomark _)) (qss_one (qs_set 2 sc_place_for.nd (qe_op qo_add (qv 4) qe_int))) (qss_one (qs_set 3 sc_place_for.nd (qv 4)))))))
      (qss_one (qs_ret (qv 2)))))), fun vs Q h => ?_⟩
  obtain ⟨a, ys, ps, t, rfl, hA, pr, so, hl, q⟩ := h
  refine st_eq (σ := [some _, some _, none, none, none]) rfl ?_
  have ly := Paired.length pr
  walk_at "rd"
  refine rd_lenL (.of hA) ?_
  walk_at "rd"
  refine ⟨PlaceI a t ps H, ⟨ps.length, 0, ps.length, none, by rw [ly]; rfl, rfl, rfl, Nat.zero_le _, Nat.le_refl _, fun i _ z => (by lia), fun i h z => (by lia)⟩, ?_⟩
  rintro m σ H1 ⟨lo, hi, v, rfl, rfl, rfl, h1, h2, h3, h4⟩
  walk_at "rd"
  refine ite3 (fun e => ?_) (fun e => ?_)
  · have hlt : lo < hi := by simpa using e
    refine ⟨fun σ' H' => ∃ m', m' < hi - lo /\ PlaceI a t ps H1 m' σ' H', fun σ' H' z => z, ?_⟩
    walk_at "rd"
    refine rd_I ⟨by decide, by decide⟩ ?_
    rw [show ((lo : Int) + (hi : Int)) / 2 = (((lo + hi) / 2 : Nat) : Int) by lia]
    have hm : (lo + hi) / 2 < ps.length := by lia
    obtain ⟨b, e1, e2⟩ := pair_at pr hm
    walk_at "rd"
    refine rd_ixL (.of hA) e1 ?_
    walk_at "rd"
    refine rd_ixT (.of e2) (atI0 _ _) ?_
    walk_at "rd"
    refine ite3 (fun e => ?_) (fun e => ?_)
    · have e : ps[(lo + hi) / 2].1 < t := by simpa using e
      walk_at "rd"
      refine ⟨hi - ((lo + hi) / 2 + 1), by lia, (lo + hi) / 2 + 1, hi, _, by rw [show (((lo + hi) / 2 : Nat) : Int) + 1 = (((lo + hi) / 2 + 1 : Nat) : Int) by lia], rfl, rfl, by lia, h2, fun i h z => ?_, h4⟩
      by_cases y : i = (lo + hi) / 2
      · subst y; exact e
      · have := List.pairwise_iff_getElem.mp so i ((lo + hi) / 2) h hm (by lia)
        lia
    · have e : t <= ps[(lo + hi) / 2].1 := by simpa using e
      walk_at "rd"
      refine ⟨(lo + hi) / 2 - lo, by lia, lo, (lo + hi) / 2, _, rfl, rfl, rfl, by lia, by lia, h3, fun i h z => ?_⟩
      by_cases y : i = (lo + hi) / 2
      · subst y; exact e
      · have := List.pairwise_iff_getElem.mp so ((lo + hi) / 2) i hm h (by lia)
        lia
  · have hge : hi <= lo := by simpa using e
    have : lo = hi := by lia
    subst this
    walk_at "rd"
    rw [<- place_eq so h2 h3 h4] at q
    exact q
theorem sc_Floor_is_finished : FnScope ["self", "hand"] ["self", "hand"] (defScope s_Floor_is_finished) := ⟨rfl, rfl, rfl, by decide +kernel, rfl, by decide +kernel, by decide +kernel⟩
theorem ok_Floor_is_finished (F : Fun K "is_finished" "Floor.is_finished" s_Floor_is_finished f fd) (T : Txt mg) (TC : TxtC K w mg C) : FnOk P w K mg base CX0 1 f fd ["self", "hand"] (sp_Floor_is_finished K C) := by
  refine F.okQ sc_Floor_is_finished (fun vs H Q E h => ?_) (fun cdv A outer s H E hr => ?_)
  · obtain ⟨x, dx, d, st, fs, done, ys, sss, i, rfl, _⟩ := h
    rfl
  have hU := room200 hr
  refine ⟨_, (qss_one (qs_ret (qe_cmp (qo_eq K hU) (qe_ixA K (qe_fld K (qv 0)) (qv 1)) (qe_callB (qc_len K) T.b_len bt_len (qa_cons (qe_ixA K (qe_fld K (qv 0)) (qv 1)) qa_nil)) (nomark _)))), fun vs Q h => ?_⟩
  obtain ⟨x, dx, d, st, fs, done, ys, sss, i, rfl, hx, l1, l2, hd, hst, pr, h1, h2, q⟩ := h
  refine st_eq (σ := [some _, some _]) rfl ?_
  walk_at "rd"
  refine rd_f hx TC.cl TC.n_done l1 ?_
  walk_at "rd"
  refine rd_ixL (.of hd) (nV_at h1) ?_
  walk_at "rd"
  refine rd_f hx TC.cl TC.n_steps l2 ?_
  walk_at "rd"
  obtain ⟨b, zs, e1, e2, e3⟩ := steps_at pr h2
  refine rd_ixL (.of hst) e1 ?_
  walk_at "rd"
  refine rd_lenL (.of e2) ?_
  walk_at "rd"
  have e4 : decide (V.int (done.getD i 0 : Nat) = V.int (zs.length : Nat)) = decide (done.getD i 0 = (sss.getD i []).length) := by
    rw [<- Paired.length e3]
    exact decide_eq_decide.mpr ⟨fun z => (by have := V.int.inj z; lia), fun z => (by rw [z])⟩
  rw [e4]
  exact q
theorem sc_Floor_begin_holding : FnScope ["self", "hand", "tool"] ["self", "hand", "tool"] (defScope s_Floor_begin_holding) := ⟨rfl, rfl, rfl, by decide +kernel, rfl, by decide +kernel, by decide +kernel⟩
theorem ok_Floor_begin_holding (F : Fun K "begin_holding" "Floor.begin_holding" s_Floor_begin_holding f fd) (T : Txt mg) (TC : TxtC K w mg C) (G_place_for : Cal P w K mg base "place_for" ["held", "tool"] 1 (sp_place_for K)) : FnOk P w K mg base CX0 2 f fd ["self", "hand", "tool"] (sp_Floor_begin_holding K C) := by
  refine F.okQ sc_Floor_begin_holding (fun vs H Q E h => ?_) (fun cdv A outer s H E hr => ?_)
  · obtain ⟨x, hs, S, Y, M, Ad, h, t, rfl, _⟩ := h
    rfl
  have hU := room200 hr
  refine ⟨_, (qss_cons (qs_dput hU (qe_fld K (qv 0)) (qv 2) (qv 1))
      (qss_one (qs_expr (qe_bm K PySem.F.plainAttrs_list PySem.F.slot_list_insert PySem.F.type_list_insert qm_insert (qe_fld K (qv 0)) (qa_cons (qe_callC G_place_for hr.up (qa_cons (qe_fld K (qv 0)) (qa_cons (qv 2) qa_nil))) (qa_cons (qe_tup (qa_cons (qv 2) (qa_cons (qv 1) qa_nil))) qa_nil)))))), fun vs Q h => ?_⟩
  obtain ⟨x, hs, S, Y, M, Ad, h, t, rfl, fl, hn, so, hl1, hl2, q⟩ := h
  refine st_eq (σ := [some _, some _, some _]) rfl ?_
  walk_at "rd"
  refine rd_f fl.ob TC.cl TC.n_holders rfl ?_
  walk_at "rd"
  refine ⟨Ad.h, _, rfl, DPut.k (k := Sum.inl t) fl.hd (by rw [List.length_map, sizeLine_eq]; lia), ?_⟩
  rw [put_I hn]
  have fl1 := fl.setHolders (M.holders ++ [(t, h)])
  revert fl1
  generalize upd H Ad.h (dI (M.holders ++ [(t, h)])) = H1
  intro fl1
  walk_at "rd"
  refine rd_f fl1.ob TC.cl TC.n_held rfl ?_
  obtain ⟨ys, hy, pr⟩ := fl1.hl
  walk_at "rd"
  refine rd_tyL (.of hy) ?_
  walk_at "rd"
  refine rd_f fl1.ob TC.cl TC.n_held rfl ?_
  walk_at "rd"
  refine ⟨Ad.l, ys, M.held, t, rfl, hy, pr.same fl1.sm, so, by lia, ?_⟩
  walk_at "rd"
  refine ⟨by rw [sizeLine_eq]; simp, fun p fp => ?_⟩
  obtain ⟨fl2, sy⟩ := fl1.new (o := .tup [.int t, .int h]) fp
  have ep : upd Y p (.tup [.int t, .int h]) p = some (.tup [.int t, .int h]) := upd_same
  revert fl2 sy ep
  generalize upd H1 p (.tup [.int t, .int h]) = H2
  generalize upd Y p (.tup [.int t, .int h]) = Y2
  intro fl2 sy ep
  obtain ⟨ys2, hy2, pr2⟩ := fl2.hl
  have ly2 := Paired.length pr2
  have pl := place_le M.held t
  walk_at "rd"
  have ly3 : ys2.length = M.held.length := ly2
  refine rd_insert hy2 (by lia) (by lia) (by rw [sizeLine_eq]; lia) ?_
  rw [Int.toNat_natCast]
  exact q Y2 _ sy (fl2.setHeld (ps := insH M.held t h) (Paired.app (Paired.takeP _ pr2) (.cons ⟨p, rfl, ep⟩ (Paired.dropP _ pr2))))
theorem sc_Floor_tools_of : FnScope ["self", "hand"] ["self", "hand"] (defScope s_Floor_tools_of) := ⟨rfl, rfl, rfl, by decide +kernel, rfl, by decide +kernel, by decide +kernel⟩
theorem ok_Floor_tools_of (F : Fun K "tools_of" "Floor.tools_of" s_Floor_tools_of f fd) (T : Txt mg) (TC : TxtC K w mg C) : FnOk P w K mg base CX0 1 f fd ["self", "hand"] (sp_Floor_tools_of K C) := by
  refine F.okQ sc_Floor_tools_of (fun vs H Q E h => ?_) (fun cdv A outer s H E hr => ?_)
  · obtain ⟨x, hs, S, Y, M, Ad, i, rfl, _⟩ := h
    rfl
  have hU := room200 hr
  refine ⟨_, (qss_one (qs_ret (qe_comp noX (own := ["pair"]) (taken := ["hand"]) (caps := [1]) (csc (defScope s_Floor_tools_of) ["self", "hand"] (by decide +kernel)) (qi_list K (qe_fld K (qv 0))) ⟨fun _ _ _ _ _ => ⟨(qg_name 0 (show (["pair", "hand"] : List Str).Nodup by decide +kernel)), (qif_one (qt_cmp (qo_eq K hU) (qe_ixA K (qv 0) qe_int) (qv 1) (nomark _))), (qe_ixA K (qv 0) qe_int)⟩, (gw_name (by decide))⟩))), fun vs Q h => ?_⟩
  obtain ⟨x, hs, S, Y, M, Ad, i, rfl, fl, hl, q⟩ := h
  refine st_eq (σ := [some _, some _]) rfl ?_
  obtain ⟨ys, hy, pr0⟩ := fl.hl
  have pr := pr0.same fl.sm
  have ly := Paired.length pr
  walk_at "rd"
  refine rd_f fl.ob TC.cl TC.n_held rfl ?_
  refine comp_lst (xs := ys) (fun n acc H' => acc = (((M.held.take n).filter fun p => decide (p.2 = (i : Int))).map (·.1)).map V.int /\ H' = H) (by rw [sizeLine_eq]; lia) ⟨rfl, rfl⟩ (fun n acc H' _ ⟨_, e⟩ => e ▸ .of hy) ?_ ?_
  · rintro n y acc H' hn ⟨rfl, rfl⟩
    obtain ⟨p, hp, b, rfl, e⟩ := Paired.get pr hn
    have tk : M.held.take (n + 1) = M.held.take n ++ [p] := by rw [List.take_add_one, hp]; rfl
    walk_at "rd"
    refine rd_ixT (.of e) (atI1 _ _) ?_
    walk_at "rd"
    rw [dec_int]
    refine ite3 (fun e1 => ?_) (fun e1 => ?_)
    · have e1 : p.2 = (i : Int) := by simpa using e1
      walk_at "rd"
      refine rd_ixT (.of e) (atI0 _ _) ?_
      refine ⟨?_, rfl⟩
      rw [tk, List.filter_append, List.filter_cons_of_pos (by simpa using e1), List.map_append, List.map_append]
      rfl
    · have e1 : ¬ p.2 = (i : Int) := by simpa using e1
      refine ⟨?_, rfl⟩
      rw [tk, List.filter_append, List.filter_cons_of_neg (by simpa using e1), List.filter_nil, List.append_nil]
  · rintro acc H' ⟨rfl, rfl⟩ p fp
    walk_at "rd"
    rw [show M.held.take ys.length = M.held by rw [ly]; exact List.take_length]
    obtain ⟨fl2, sy⟩ := fl.new (o := .lst ((toolsOf M i).map V.int)) fp
    exact q p _ _ sy (fl.sm.free fp) fl2 upd_same
theorem sc_Floor_pass_on : FnScope ["self", "tool", "heir"] ["self", "tool"] (defScope s_Floor_pass_on) := ⟨rfl, rfl, rfl, by decide +kernel, rfl, by decide +kernel, by decide +kernel⟩
theorem ok_Floor_pass_on (F : Fun K "pass_on" "Floor.pass_on" s_Floor_pass_on f fd) (T : Txt mg) (TC : TxtC K w mg C) (G_heir_by : Cal P w K mg base "heir_by" ["ranks", "holders", "wanted", "tool"] 3 (sp_heir_by K)) (G_place_for : Cal P w K mg base "place_for" ["held", "tool"] 1 (sp_place_for K)) (G_Floor_begin_holding : CalM P w K mg base C "begin_holding" ["self", "hand", "tool"] 2 (sp_Floor_begin_holding K C)) : FnOk P w K mg base CX0 4 f fd ["self", "tool"] (sp_Floor_pass_on K C) := by
  refine F.okQ sc_Floor_pass_on (fun vs H Q E h => ?_) (fun cdv A outer s H E hr => ?_)
  · obtain ⟨x, hs, S, Y, M, Ad, Gh, t, i, rfl, _⟩ := h
    rfl
  have hU := room200 hr
  refine ⟨_, (qss_cons (qs_set 2 sc_Floor_pass_on.nd (qe_callC G_heir_by hr.up (qa_cons (qe_fld K (qv 0)) (qa_cons (qe_fld K (qv 0)) (qa_cons (qe_fld K (qv 0)) (qa_cons (qv 1) qa_nil))))))
      (qss_cons (qs_expr (qe_bm K PySem.F.plainAttrs_list PySem.F.slot_list_pop PySem.F.type_list_pop qm_popAt (qe_fld K (qv 0)) (qa_cons (qe_callC G_place_for hr.up (qa_cons (qe_fld K (qv 0)) (qa_cons (qv 1) qa_nil))) qa_nil)))
      (qss_cons (qs_expr (qe_bm K PySem.F.plainAttrs_dict PySem.F.slot_dict_pop PySem.F.type_dict_pop qm_dpop (qe_fld K (qv 0)) (qa_cons (qv 1) qa_nil)))
      (qss_cons (qs_if (qt_cmp qo_isN (qv 2) qe_non (nomark _)) (qss_one (qs_ret (qe_lst qa_nil))) qss_nil)
      (qss_cons (qs_expr (qe_bm K PySem.F.plainAttrs_dict PySem.F.slot_dict_pop PySem.F.type_dict_pop qm_dpop (qe_fld K (qv 0)) (qa_cons (qv 2) qa_nil)))
      (qss_cons (qs_expr (qe_meth G_Floor_begin_holding hr.up (qv 0) (qa_cons (qv 2) (qa_cons (qv 1) qa_nil))))
      (qss_cons (qs_asg (qe_op qo_add (qe_ixA K (qe_fld K (qv 0)) (qv 2)) qe_int) (qg_sub (qe_fld K (qv 0)) (qv 2)))
      (qss_one (qs_ret (qe_lst (qa_cons (qv 2) qa_nil))))))))))), fun vs Q h => ?_⟩
  obtain ⟨x, hs, S, Y, M, Ad, Gh, t, i, rfl, fl, sml, co, hi, q⟩ := h
  refine st_eq (σ := [some _, some _, none]) rfl ?_
  have wl := co.wantLen
  have hl := co.holdLen
  have hl2 := co.perm.length_eq
  have h60 := sml.n
  have h5 := sml.t
  walk_at "rd"
  refine rd_f fl.ob TC.cl TC.n_ranks rfl ?_
  walk_at "rd"
  refine rd_f fl.ob TC.cl TC.n_holders rfl ?_
  walk_at "rd"
  refine rd_f fl.ob TC.cl TC.n_wanted rfl ?_
  walk_at "rd"
  refine ⟨Ad.r, Ad.h, Ad.w, ranksOf hs, M.holders, M.wanted, t, rfl, .of (fl.SH _ _ fl.rk), fl.hd, fl.wt, co.wf, by rw [ranks_len]; exact co.ir, by lia, by rw [ranks_len]; lia, fun H1 s1 => ?_⟩
  have fl1 := fl.later s1
  walk_at "rd"
  refine rd_f fl1.ob TC.cl TC.n_held rfl ?_
  obtain ⟨ys, hy, pr⟩ := fl1.hl
  have ly := Paired.length pr
  walk_at "rd"
  refine rd_tyL (.of hy) ?_
  walk_at "rd"
  refine rd_f fl1.ob TC.cl TC.n_held rfl ?_
  walk_at "rd"
  refine ⟨Ad.l, ys, M.held, t, rfl, hy, pr.same fl1.sm, co.sorted, by lia, ?_⟩
  obtain ⟨pl, _⟩ := at_place co.sorted ((co.sec t).trans hi)
  walk_at "rd"
  refine rd_popAt hy (by lia) (List.getElem?_eq_getElem (by lia)) ?_
  have fl2 := fl1.setHeld (ps := remH M.held t) (Paired.erase (place M.held t) pr)
  revert fl2
  generalize upd H1 Ad.l (.lst (ys.eraseIdx (place M.held t))) = H2
  intro fl2
  walk_at "rd"
  refine rd_f fl2.ob TC.cl TC.n_holders rfl ?_
  walk_at "rd"
  refine rd_tyD fl2.hd ?_
  walk_at "rd"
  refine rd_dpop fl2.hd hi ?_
  have fl3 := fl2.setHolders (dropP M.holders t)
  revert fl3
  show FlAt C hs S Y (upd H2 Ad.h (dI (M.holders.filter fun p => decide (p.1 ≠ t)))) x _ Ad -> _
  generalize upd H2 Ad.h (dI (M.holders.filter fun p => decide (p.1 ≠ t))) = H3
  intro fl3
  unfold passOn at q
  walk_at "rd"
  cases e : heirF (ranksOf hs) M.holders M.wanted t with
  | none =>
    rw [e] at q
    refine iteP (by rfl) ?_
    walk_at "rd"
    refine ⟨Nat.zero_le _, fun p fp => ?_⟩
    obtain ⟨fl4, sy⟩ := fl3.new (o := .lst []) fp
    exact q p _ _ sy (fl3.sm.free fp) fl4 upd_same
  | some hh =>
    rw [e] at q
    have hwt := heir_waits co e
    obtain ⟨k, rfl, hk⟩ := co.natW hwt
    have il : k < M.done.length := by rw [co.len]; exact hk
    refine iteN (by simp [iV]) ?_
    walk_at "rd"
    refine rd_f fl3.ob TC.cl TC.n_wanted rfl ?_
    walk_at "rd"
    refine rd_tyD fl3.wt ?_
    walk_at "rd"
    refine rd_dpop (k := (k : Int)) fl3.wt hwt ?_
    have fl4 := fl3.setWanted (dropP M.wanted (k : Int))
    revert fl4
    show FlAt C hs S Y (upd H3 Ad.w (dI (M.wanted.filter fun p => decide (p.1 ≠ (k : Int))))) x _ Ad -> _
    generalize upd H3 Ad.w (dI (M.wanted.filter fun p => decide (p.1 ≠ (k : Int)))) = H4
    intro fl4
    walk_at "rd"
    refine rd_m fl4.ob rfl ?_
    walk_at "rd"
    have hno : second (dropP M.holders t) t = none := by rw [second_drop, if_pos rfl]
    refine ⟨x, hs, S, Y, _, Ad, k, t, rfl, fl4, hno, remH_sorted co.sorted, ?_, ?_, fun Y5 H5 sy5 fl5 => ?_⟩
    · show (remH M.held t).length <= 90000
      have := List.length_eraseIdx_le M.held (place M.held t)
      show (M.held.eraseIdx (place M.held t)).length <= 90000
      lia
    · have := (dropP_sub M.holders t).length_le
      show (dropP M.holders t).length <= 90000
      lia
    have dn5 : H5 Ad.d = some (.lst (nV M.done)) := fl5.dn
    walk_at "rd"
    refine rd_f fl5.ob TC.cl TC.n_done rfl ?_
    walk_at "rd"
    refine rd_ixL (.of dn5) (nV_at il) ?_
    walk_at "rd"
    refine rd_f fl5.ob TC.cl TC.n_done rfl ?_
    walk_at "rd"
    refine rd_set (k := k) dn5 (by rw [List.length_map]; exact il) ?_
    rw [show ((M.done.getD k 0 : Nat) : Int) + 1 = ((M.done.getD k 0 + 1 : Nat) : Int) by lia]
    have fl6 := fl5.setDone (M.done.set k (M.done.getD k 0 + 1))
    rw [<- nV_set] at fl6
    revert fl6
    show FlAt C hs S Y5 (upd H5 Ad.d (.lst ((nV M.done).set k (.int ((M.done.getD k 0 + 1 : Nat) : Int))))) x _ Ad -> _
    generalize upd H5 Ad.d (.lst ((nV M.done).set k (.int ((M.done.getD k 0 + 1 : Nat) : Int)))) = H6
    intro fl6
    walk_at "rd"
    refine ⟨by rw [sizeLine_eq]; simp, fun p fp => ?_⟩
    obtain ⟨fl7, sy⟩ := fl6.new (o := .lst [.int (k : Int)]) fp
    have yp : Y p = none := by
      cases z : Y p with
      | none => rfl
      | some o => rw [fl6.sm _ _ (sy5 _ _ z)] at fp; cases fp
    exact q p _ _ (sy5.trans sy) yp fl7 upd_same
theorem sc_Floor_give_back : FnScope ["self", "queue", "hand", "tool"] ["self", "queue"] (defScope s_Floor_give_back) := ⟨rfl, rfl, rfl, by decide +kernel, rfl, by decide +kernel, by decide +kernel⟩
theorem ok_Floor_give_back (F : Fun K "give_back" "Floor.give_back" s_Floor_give_back f fd) (T : Txt mg) (TC : TxtC K w mg C) (G_Floor_is_finished : CalM P w K mg base C "is_finished" ["self", "hand"] 1 (sp_Floor_is_finished K C)) (G_Floor_pass_on : CalM P w K mg base C "pass_on" ["self", "tool"] 4 (sp_Floor_pass_on K C)) (G_Floor_tools_of : CalM P w K mg base C "tools_of" ["self", "hand"] 1 (sp_Floor_tools_of K C)) : FnOk P w K mg base CX0 5 f fd ["self", "queue"] (sp_Floor_give_back K C) := by
  refine F.okQ sc_Floor_give_back (fun vs H Q E h => ?_) (fun cdv A outer s H E hr => ?_)
  · obtain ⟨x, qa, hs, S, Y0, M0, Ad, G0, q0, n0, rfl, _⟩ := h
    rfl
  have hU := room200 hr
  refine ⟨_, (qss_one (qs_while (qt_cmp qo_gt (qe_callB (qc_len K) T.b_len bt_len (qa_cons (qv 1) qa_nil)) qe_int (nomark _)) (qss_cons (qs_set 2 sc_Floor_give_back.nd (qe_bm K PySem.F.plainAttrs_list PySem.F.slot_list_pop PySem.F.type_list_pop qm_popAt (qv 1) (qa_cons qe_int qa_nil)))
      (qss_one (qs_if (qt_tru K (qe_meth G_Floor_is_finished hr.up (qv 0) (qa_cons (qv 2) qa_nil)) (fun _ => rfl)) (qss_cons (qs_expr (qe_bm K PySem.F.plainAttrs_list PySem.F.slot_list_remove PySem.F.type_list_remove qm_remove (qe_fld K (qv 0)) (qa_cons (qv 2) qa_nil)))
      (qss_one (qs_for (qi_list K (qe_meth G_Floor_tools_of hr.up (qv 0) (qa_cons (qv 2) qa_nil))) (qg_name 3 sc_Floor_give_back.nd) (qss_one (qs_expr (qe_bm K PySem.F.plainAttrs_list PySem.F.slot_list_extend PySem.F.type_list_extend qm_extend (qv 1) (qa_cons (qe_meth G_Floor_pass_on hr.up (qv 0) (qa_cons (qv 3) qa_nil)) qa_nil))))))) qss_nil))))), fun vs Q h => ?_⟩
  obtain ⟨x, qa, hs, S, Y0, M0, Ad, G0, q0, n0, rfl, fl0, sml, hq0, Sq, ok0, Q0, hn0, q⟩ := h
  refine st_eq (σ := [some _, some _, none, none]) rfl ?_
  have h60 := sml.n
  have h5 := sml.t
  walk_at "rd"
  refine ⟨GiveI C hs S x qa Ad (giveBack hs n0 q0 M0) Y0, ⟨_, Y0, M0, G0, q0, n0, none, none, rfl, fl0, hq0, ok0, Q0, hn0, rfl, fun b o _ z => z, rfl⟩, ?_⟩
  rintro m σ H1 ⟨Y, M, G, qu, n, v1, v2, rfl, fl, hq, ok, Qu, hn, hz, fr, rfl⟩
  have hqH := fl.sm _ _ hq
  have qlen := Qu.len
  have wl := ok.core.wantLen
  walk_at "rd"
  refine rd_lenL (.of hqH) ?_
  rw [List.length_map]
  walk_at "rd"
  cases qu with
  | nil =>
    refine iteN (by simp) ?_
    obtain ⟨n', rfl⟩ : ∃ n', n = n' + 1 := ⟨n - 1, by lia⟩
    have hz : M = giveBack hs n0 q0 M0 := hz
    exact q Y H1 fr (hz ▸ fl)
  | cons i qu =>
    refine iteP (by simp) ?_
    obtain ⟨n', rfl⟩ : ∃ n', n = n' + 1 := ⟨n - 1, by lia⟩
    simp only [List.length_cons] at hn qlen
    refine ⟨fun σ' H' => ∃ m', m' < M.wanted.length + (i :: qu).length /\ GiveI C hs S x qa Ad (giveBack hs n0 q0 M0) Y0 m' σ' H', fun σ' H' z => z, ?_⟩
    have hi := (Qu.free i List.mem_cons_self).1
    have hw := (Qu.free i List.mem_cons_self).2
    have nd := Qu.nd
    rw [List.nodup_cons] at nd
    have Qt : Que hs M qu := ⟨nd.2, fun j hj => Qu.free j (List.mem_cons_of_mem _ hj)⟩
    walk_at "rd"
    refine rd_tyL (.of hqH) ?_
    walk_at "rd"
    refine rd_popAt (k := 0) (y := .int (i : Int)) hqH (by rw [List.length_map, List.length_cons]; lia) rfl ?_
    have fl1 := fl.mut (new := nV qu) hq Sq
    have hq1 : upd Y qa (.lst (nV qu)) qa = some (.lst (nV qu)) := upd_same
    have fr1 : ∀ b o, b ≠ qa -> Y0 b = some o -> upd Y qa (.lst (nV qu)) b = some o := fun b o hb z => by rw [upd_ne hb]; exact fr b o hb z
    revert fl1 hq1 fr1
    show FlAt C hs S _ (upd H1 qa (.lst ((nV (i :: qu)).eraseIdx 0))) x M Ad -> _
    generalize upd H1 qa (.lst ((nV (i :: qu)).eraseIdx 0)) = H2
    generalize upd Y qa (.lst (nV qu)) = Y2
    intro fl1 hq1 fr1
    walk_at "rd"
    refine rd_m fl1.ob rfl ?_
    walk_at "rd"
    refine fl1.finP ok.core.len hi ?_
    walk_at "rd"
    rw [giveBack_cons] at hz
    refine ite3 (fun hf => ?_) (fun hf => ?_)
    · rw [if_pos hf] at hz
      obtain ⟨o1, hgo⟩ := give_start ok Qu hf
      walk_at "rd"
      refine rd_f fl1.ob TC.cl TC.n_going rfl ?_
      walk_at "rd"
      refine rd_tyL (.of fl1.gg) ?_
      walk_at "rd"
      refine rd_remove fl1.gg hgo ?_
      have fl2 := fl1.setGo (M.going.erase i)
      revert fl2
      generalize upd H2 Ad.g (.lst (nV (M.going.erase i))) = H3
      intro fl2
      walk_at "rd"
      refine rd_m fl2.ob rfl ?_
      walk_at "rd"
      have hhl := ok.core.holdLen
      have hhl2 := ok.core.perm.length_eq
      refine ⟨x, hs, S, Y2, _, Ad, i, rfl, fl2, by show M.held.length <= 90000; lia, fun pt Y3 H4 sy3 yp fl3 hpt => ?_⟩
      have npt : pt ≠ qa := fun z => by rw [z, hq1] at yp; cases yp
      have hts : toolsOf { M with going := M.going.erase i } i = toolsOf M i := rfl
      rw [hts] at hpt
      have tnd : (toolsOf M i).Nodup := tools_nd ok.core
      have tmem : ∀ t ∈ toolsOf M i, t ∈ G i := fun t ht => (tools_mem ok.core).mp ht
      refine for_lst (xs := (toolsOf M i).map V.int) (fun k σ H' => ∃ (Y' : Hp) (v : Option V), σ = [some (.ref x), some (.ref qa), some (.int (i : Int)), v] /\ FlAt C hs S Y' H' x (passAll hs ((toolsOf M i).take k) ({ M with going := M.going.erase i }, qu)).1 Ad /\
        Y' qa = some (.lst (nV (passAll hs ((toolsOf M i).take k) ({ M with going := M.going.erase i }, qu)).2)) /\ Y' pt = some (.lst ((toolsOf M i).map V.int)) /\ ∀ b o, b ≠ qa -> Y0 b = some o -> Y' b = some o)
        ⟨Y3, v2, rfl, fl3, sy3 _ _ hq1, hpt, fun b o hb z => sy3 _ _ (fr1 b o hb z)⟩ (fun k σ H' _ ⟨_, _, _, f, _, z, _⟩ => .of (f.sm _ _ z)) ?_ ?_
      · rintro k tv σ H5 hk ⟨Y5, v, rfl, fl5, hq5, hp5, fr5⟩
        obtain ⟨t, ht, rfl⟩ : ∃ t, (toolsOf M i)[k]? = some t /\ tv = V.int t := by
          rw [List.getElem?_map] at hk
          cases e : (toolsOf M i)[k]? with
          | none => rw [e] at hk; cases hk
          | some p => rw [e] at hk; exact ⟨p, rfl, (Option.some.inj hk).symm⟩
        have tk : (toolsOf M i).take (k + 1) = (toolsOf M i).take k ++ [t] := by rw [List.take_add_one, ht]; rfl
        have ndk : ((toolsOf M i).take k ++ [t]).Nodup := by rw [<- tk]; exact (List.take_sublist _ _).nodup tnd
        obtain ⟨G', p1, p2, p3, p4, p5, p6⟩ := passAll_ok ((toolsOf M i).take k) (F := { M with going := M.going.erase i }) o1 hw ((List.take_sublist _ _).nodup tnd) (fun t ht => tmem t (List.mem_of_mem_take ht)) ⟨Qt.nd, Qt.free⟩
        have hG : t ∈ G' i := by
          rw [p2, fold_erase _ _ (ok.core.gnd i)]
          refine ⟨tmem t (List.mem_of_getElem? ht), fun z => ?_⟩
          rw [List.nodup_append] at ndk
          exact ndk.2.2 t z t (by simp) rfl
        have p4 : (passAll hs ((toolsOf M i).take k) ({ M with going := M.going.erase i }, qu)).1.wanted.length + (passAll hs ((toolsOf M i).take k) ({ M with going := M.going.erase i }, qu)).2.length = M.wanted.length + qu.length := p4
        have hqH5 := fl5.sm _ _ hq5
        walk_at "rd"
        refine rd_tyL (.of hqH5) ?_
        walk_at "rd"
        refine rd_m fl5.ob rfl ?_
        walk_at "rd"
        refine ⟨x, hs, S, Y5, _, Ad, G', t, i, rfl, fl5, sml, p1.core, (p1.core.holds t i).mpr hG, fun p6 Y6 H6 sy6 yp6 fl6 hp6 => ?_⟩
        have hq6 := sy6 _ _ hq5
        have hl6 : (passOn hs (passAll hs ((toolsOf M i).take k) ({ M with going := M.going.erase i }, qu)).1 t).2.length <= 1 := by
          rw [passOn_queue]
          cases (heirF (ranksOf hs) (passAll hs ((toolsOf M i).take k) ({ M with going := M.going.erase i }, qu)).1.holders (passAll hs ((toolsOf M i).take k) ({ M with going := M.going.erase i }, qu)).1.wanted t).map Int.toNat <;> simp
        walk_at "rd"
        refine rd_extend (fl6.sm _ _ hq6) (fl6.sm _ _ hp6) (by rw [List.length_map, List.length_map, sizeLine_eq]; lia) ?_
        rw [<- List.map_append]
        have fl7 := fl6.mut (new := nV ((passAll hs ((toolsOf M i).take k) ({ M with going := M.going.erase i }, qu)).2 ++ (passOn hs (passAll hs ((toolsOf M i).take k) ({ M with going := M.going.erase i }, qu)).1 t).2)) hq6 Sq
        rw [tk, passAll_snoc]
        refine ⟨_, _, rfl, fl7, upd_same, by rw [upd_ne npt]; exact sy6 _ _ hp5, fun b o hb z => by rw [upd_ne hb]; exact sy6 _ _ (fr5 b o hb z)⟩
      · rintro σ H5 ⟨Y5, v, rfl, fl5, hq5, hp5, fr5⟩
        rw [List.length_map, List.take_length] at fl5 hq5
        obtain ⟨G', p1, p2, p3, p4, p5, p6⟩ := passAll_ok (toolsOf M i) (F := { M with going := M.going.erase i }) o1 hw tnd tmem ⟨Qt.nd, Qt.free⟩
        have gi : G' i = [] := by
          rw [p2]
          exact fold_erase_nil (ok.core.gnd i) fun y hy => (tools_mem ok.core).mpr hy
        have hf' : fin hs (passAll hs (toolsOf M i) ({ M with going := M.going.erase i }, qu)).1 i = true := by
          rw [fin_true, p6]
          exact fin_true.mp hf
        have p4 : (passAll hs (toolsOf M i) ({ M with going := M.going.erase i }, qu)).1.wanted.length + (passAll hs (toolsOf M i) ({ M with going := M.going.erase i }, qu)).2.length = M.wanted.length + qu.length := p4
        exact ⟨_, by rw [p4, List.length_cons]; lia, Y5, _, G', _, n', _, _, rfl, fl5, hq5, p1.drop hf' (fun z => p5 nd.1 (List.mem_filter.mp z).1) gi, p3, by rw [p4]; lia, hz, fr5, rfl⟩
    · rw [if_neg (by rw [hf]; simp)] at hz
      walk_at "rd"
      rw [List.filter_cons_of_neg (by rw [hf]; simp)] at ok
      exact ⟨_, by rw [List.length_cons]; lia, Y2, M, G, qu, n', _, _, rfl, fl1, hq1, ok, Qt, by lia, hz, fr1, rfl⟩
theorem sc_Floor_begin_waiting : FnScope ["self", "hand", "tool"] ["self", "hand", "tool"] (defScope s_Floor_begin_waiting) := ⟨rfl, rfl, rfl, by decide +kernel, rfl, by decide +kernel, by decide +kernel⟩
theorem ok_Floor_begin_waiting (F : Fun K "begin_waiting" "Floor.begin_waiting" s_Floor_begin_waiting f fd) (T : Txt mg) (TC : TxtC K w mg C) (G_ring_by : Cal P w K mg base "ring_by" ["holders", "wanted", "hand"] 3 (sp_ring_by K)) : FnOk P w K mg base CX0 4 f fd ["self", "hand", "tool"] (sp_Floor_begin_waiting K C) := by
  refine F.okQ sc_Floor_begin_waiting (fun vs H Q E h => ?_) (fun cdv A outer s H E hr => ?_)
  · obtain ⟨x, hs, S, Y, M, Ad, t, i, rfl, _⟩ := h
    rfl
  have hU := room200 hr
  refine ⟨_, (qss_cons (qs_dput hU (qe_fld K (qv 0)) (qv 1) (qv 2))
      (qss_one (qs_if (qt_cmp qo_notN (qe_callC G_ring_by hr.up (qa_cons (qe_fld K (qv 0)) (qa_cons (qe_fld K (qv 0)) (qa_cons (qv 1) qa_nil)))) qe_non (nomark _)) (qss_one (qs_fld K (qv 0) (qe_comp noX (own := ["one"]) (taken := ["self"]) (caps := [0]) (csc (defScope s_Floor_begin_waiting) ["self", "hand", "tool"] (by decide +kernel)) (qi_list K (qe_fld K (qv 0))) ⟨fun _ _ _ _ _ => ⟨(qg_name 0 (show (["one", "self"] : List Str).Nodup by decide +kernel)), (qif_one (qt_cmp qo_isN (qe_callC G_ring_by hr.up (qa_cons (qe_fld K (qv 1)) (qa_cons (qe_fld K (qv 1)) (qa_cons (qv 0) qa_nil)))) qe_non (nomark _))), (qv 0)⟩, (gw_name (by decide))⟩))) qss_nil))), fun vs Q h => ?_⟩
  obtain ⟨x, hs, S, Y, M, Ad, t, i, rfl, fl, wf, hn, wl, gl, q⟩ := h
  refine st_eq (σ := [some _, some _, some _]) rfl ?_
  walk_at "rd"
  refine rd_f fl.ob TC.cl TC.n_wanted rfl ?_
  walk_at "rd"
  refine ⟨Ad.w, _, rfl, DPut.k (k := Sum.inl (i : Int)) fl.wt (by rw [List.length_map, sizeLine_eq]; lia), ?_⟩
  rw [put_I hn]
  have fl1 := fl.setWanted (M.wanted ++ [((i : Int), t)])
  revert fl1
  generalize upd H Ad.w (dI (M.wanted ++ [((i : Int), t)])) = H1
  intro fl1
  have wl1 : (M.wanted ++ [((i : Int), t)]).length <= 900 := by rw [List.length_append, List.length_singleton]; lia
  walk_at "rd"
  refine rd_f fl1.ob TC.cl TC.n_holders rfl ?_
  walk_at "rd"
  refine rd_f fl1.ob TC.cl TC.n_wanted rfl ?_
  walk_at "rd"
  refine ⟨Ad.h, Ad.w, M.holders, M.wanted ++ [((i : Int), t)], i, rfl, fl1.hd, fl1.wt, wf, wl1, fun H2 s2 e => ?_, fun p L H2 s2 fp hp hl h1 ro hm => ?_⟩
  · have hz : hangs { M with wanted := M.wanted ++ [((i : Int), t)] } i = false := by
      show (second (M.wanted ++ [((i : Int), t)]) (rowEnd M.holders (M.wanted ++ [((i : Int), t)]) (i : Int))).isSome = false
      rw [e]
      rfl
    walk_at "rd"
    refine iteN (by simp) ?_
    refine q Y H2 Ad (Same.refl Y) ?_
    unfold wait
    simp only [hz, Bool.false_eq_true, if_false]
    exact fl1.later s2
  · have hz : hangs { M with wanted := M.wanted ++ [((i : Int), t)] } i = true := by
      show (second (M.wanted ++ [((i : Int), t)]) (rowEnd M.holders (M.wanted ++ [((i : Int), t)]) (i : Int))).isSome = true
      cases z : second (M.wanted ++ [((i : Int), t)]) (rowEnd M.holders (M.wanted ++ [((i : Int), t)]) (i : Int)) with
      | none => exact absurd z h1
      | some u => rfl
    walk_at "rd"
    refine iteP (by simp) ?_
    have fl2 := fl1.later s2
    walk_at "rd"
    refine rd_f fl2.ob TC.cl TC.n_going rfl ?_
    refine comp_lst (xs := nV M.going) (fun n acc H' => acc = nV ((M.going.take n).filter fun j => !hangs { M with wanted := M.wanted ++ [((i : Int), t)] } j) /\ Same H2 H') (by rw [List.length_map, sizeLine_eq]; lia) ⟨rfl, Same.refl _⟩ (fun n acc H' _ ⟨_, e⟩ => .of (e _ _ fl2.gg)) ?_ ?_
    · rintro n y acc H3 hy ⟨rfl, s3⟩
      obtain ⟨j, hj, rfl⟩ : ∃ j, M.going[n]? = some j /\ y = V.int (j : Nat) := by
        rw [List.getElem?_map] at hy
        cases e : M.going[n]? with
        | none => rw [e] at hy; cases hy
        | some p => rw [e] at hy; exact ⟨p, rfl, (Option.some.inj hy).symm⟩
      have tk : M.going.take (n + 1) = M.going.take n ++ [j] := by rw [List.take_add_one, hj]; rfl
      have fl3 := fl2.later s3
      walk_at "rd"
      refine rd_f fl3.ob TC.cl TC.n_holders rfl ?_
      walk_at "rd"
      refine rd_f fl3.ob TC.cl TC.n_wanted rfl ?_
      walk_at "rd"
      refine ⟨Ad.h, Ad.w, M.holders, M.wanted ++ [((i : Int), t)], j, rfl, fl3.hd, fl3.wt, wf, wl1, fun H4 s4 e => ?_, fun p L H4 s4 fp hp hl h1 ro hm => ?_⟩
      · have hzj : hangs { M with wanted := M.wanted ++ [((i : Int), t)] } j = false := by
          show (second (M.wanted ++ [((i : Int), t)]) (rowEnd M.holders (M.wanted ++ [((i : Int), t)]) (j : Int))).isSome = false
          rw [e]
          rfl
        walk_at "rd"
        refine iteP (by simp) ?_
        walk_at "rd"
        refine ⟨?_, s3.trans s4⟩
        rw [tk, List.filter_append, List.filter_cons_of_pos (by simp [hzj]), List.filter_nil, nV_snoc]
      · have hzj : hangs { M with wanted := M.wanted ++ [((i : Int), t)] } j = true := by
          show (second (M.wanted ++ [((i : Int), t)]) (rowEnd M.holders (M.wanted ++ [((i : Int), t)]) (j : Int))).isSome = true
          cases z : second (M.wanted ++ [((i : Int), t)]) (rowEnd M.holders (M.wanted ++ [((i : Int), t)]) (j : Int)) with
          | none => exact absurd z h1
          | some u => rfl
        walk_at "rd"
        refine iteN (by simp) ?_
        refine ⟨?_, s3.trans s4⟩
        rw [tk, List.filter_append, List.filter_cons_of_neg (by simp [hzj]), List.filter_nil, List.append_nil]
    · rintro acc H3 ⟨rfl, s3⟩ p fp
      rw [List.length_map, List.take_length]
      have fl3 := fl2.later s3
      have ex : upd H3 p (.lst (nV (M.going.filter fun j => !hangs { M with wanted := M.wanted ++ [((i : Int), t)] } j))) x = some (.ins C Ad.dx (flds Ad M.tick)) := by rw [upd_ne (ne_of_none fl3.ob fp)]; exact fl3.ob
      have fl4 := fl3.newGo (p := p) (M.going.filter fun j => !hangs { M with wanted := M.wanted ++ [((i : Int), t)] } j) ((Same.refl H3).updF fp) fp upd_same
      walk_at "rd"
      refine rd_af ex TC.cl TC.n_going (by show 9 < 1000; decide) ?_
      refine q Y _ { Ad with g := p } (Same.refl Y) ?_
      unfold wait
      simp only [hz, if_true]
      exact fl4
theorem sc_Floor_serve : FnScope ["self", "hand", "step", "heirs"] ["self", "hand"] (defScope s_Floor_serve) := ⟨rfl, rfl, rfl, by decide +kernel, rfl, by decide +kernel, by decide +kernel⟩
theorem ok_Floor_serve (F : Fun K "serve" "Floor.serve" s_Floor_serve f fd) (T : Txt mg) (TC : TxtC K w mg C) (G_Floor_begin_waiting : CalM P w K mg base C "begin_waiting" ["self", "hand", "tool"] 4 (sp_Floor_begin_waiting K C)) (G_Floor_begin_holding : CalM P w K mg base C "begin_holding" ["self", "hand", "tool"] 2 (sp_Floor_begin_holding K C)) (G_Floor_pass_on : CalM P w K mg base C "pass_on" ["self", "tool"] 4 (sp_Floor_pass_on K C)) (G_Floor_give_back : CalM P w K mg base C "give_back" ["self", "queue"] 5 (sp_Floor_give_back K C)) : FnOk P w K mg base CX0 6 f fd ["self", "hand"] (sp_Floor_serve K C) := by
  refine F.okQ sc_Floor_serve (fun vs H Q E h => ?_) (fun cdv A outer s H E hr => ?_)
  · obtain ⟨x, hs, S, Y, M, Ad, i, rfl, _⟩ := h
    rfl
  have hU := room200 hr
  refine ⟨_, (qss_cons (qs_set 2 sc_Floor_serve.nd (qe_ixA K (qe_ix K (qe_fld K (qv 0)) (qv 1) (fun _ _ => rfl)) (qe_ix K (qe_fld K (qv 0)) (qv 1) (fun _ _ => rfl))))
      (qss_cons (qs_if (qt_w (qw_and (qt_cmp (qo_eq K hU) (qe_ixA K (qv 2) qe_int) qe_str (nomark _)) (qw_and1 (qt_din hU (qe_ixA K (qv 2) qe_int) (qe_fld K (qv 0)))))) (qss_cons (qs_expr (qe_meth G_Floor_begin_waiting hr.up (qv 0) (qa_cons (qv 1) (qa_cons (qe_ixA K (qv 2) qe_int) qa_nil))))
      (qss_one (qs_ret qe_str))) qss_nil)
      (qss_cons (qs_set 3 sc_Floor_serve.nd (qe_lst qa_nil))
      (qss_cons (qs_if (qt_cmp (qo_eq K hU) (qe_ixA K (qv 2) qe_int) qe_str (nomark _)) (qss_one (qs_expr (qe_meth G_Floor_begin_holding hr.up (qv 0) (qa_cons (qv 1) (qa_cons (qe_ixA K (qv 2) qe_int) qa_nil))))) (qss_one (qs_if (qt_w (qw_and (qt_cmp (qo_eq K hU) (qe_ixA K (qv 2) qe_int) qe_str (nomark _)) (qw_and1 (qt_cmp (qo_eq K hU) (qe_bm K PySem.F.plainAttrs_dict PySem.F.slot_dict_get PySem.F.type_dict_get (qm_dget hU) (qe_fld K (qv 0)) (qa_cons (qe_ixA K (qv 2) qe_int) qa_nil)) (qv 1) (nomark _))))) (qss_one (qs_set 3 sc_Floor_serve.nd (qe_meth G_Floor_pass_on hr.up (qv 0) (qa_cons (qe_ixA K (qv 2) qe_int) qa_nil)))) qss_nil)))
      (qss_cons (qs_asg (qe_op qo_add (qe_ixA K (qe_fld K (qv 0)) (qv 1)) qe_int) (qg_sub (qe_fld K (qv 0)) (qv 1)))
      (qss_cons (qs_expr (qe_meth G_Floor_give_back hr.up (qv 0) (qa_cons (qe_op qo_add (qe_lst (qa_cons (qv 1) qa_nil)) (qv 3)) qa_nil)))
      (qss_one (qs_ret (qe_kdget hU TC.k_WORDS (qe_ixA K (qv 2) qe_int) (fun _ _ => rfl)))))))))), fun vs Q h => ?_⟩
  obtain ⟨x, hs, S, Y, M, Ad, i, rfl, fl, sml, gd, hi, hf, hw, q⟩ := h
  obtain ⟨G, o⟩ := id gd
  refine st_eq (σ := [some _, some _, none, none]) rfl ?_
  have hd : doneOf M i < (stepsOf hs i).length := by
    rw [fin_false] at hf
    have := o.le i
    lia
  have il : i < M.done.length := by rw [o.core.len]; exact hi
  have ow := o.own i hi (.inl hf) (by simp)
  have Qn : Que hs M [] := ⟨List.nodup_nil, fun j hj => by cases hj⟩
  have wl := o.core.wantLen
  have hl := o.core.holdLen
  have hl2 := o.core.perm.length_eq
  have h60 := sml.n
  have h5 := sml.t
  obtain ⟨s, es⟩ : ∃ s, (stepsOf hs i)[doneOf M i]? = some s := ⟨_, List.getElem?_eq_getElem hd⟩
  have hsu := has_succ es
  obtain ⟨ys, hst, prs⟩ := fl.sp
  obtain ⟨b, zs, e1, e2, e3⟩ := steps_at prs (i := i) (by simpa using hi)
  obtain ⟨bs, e4, e5⟩ := stp_at e3 es
  walk_at "rd"
  refine rd_f fl.ob TC.cl TC.n_steps rfl ?_
  walk_at "rd"
  refine rd_ixL (.of (fl.SH _ _ hst)) e1 ?_
  walk_at "rd"
  refine rd_f fl.ob TC.cl TC.n_done rfl ?_
  walk_at "rd"
  refine rd_ixL (.of fl.dn) (nV_at il) ?_
  walk_at "rd"
  refine rd_ixL (.of (fl.SH _ _ e2)) e4 ?_
  have sv := serve_eq es
  apply L2.rd_nameE
  focus ((try simp only [List.set_cons_zero, List.set_cons_succ]); (exact rfl))
  try with_reducible refine L2.rd_nxE (by assumption) ?_
  with_reducible refine L2.rd_seqH fun R1 hR1 => ?_
  have after : (∀ t, s = .take t -> second M.holders t = none) -> R1 [some (.ref x), some (.int (i : Int)), some (.ref bs), none] H := by
    intro hfree
    rw [hR1.eq]
    walk_at "rd"
    refine ⟨Nat.zero_le _, fun ph fph => ?_⟩
    obtain ⟨fl1, sy1⟩ := fl.new (o := .lst []) fph
    have hph : upd Y ph (.lst []) ph = some (.lst (nV [])) := upd_same
    revert fl1 sy1 hph
    generalize upd H ph (.lst []) = H1
    generalize upd Y ph (.lst []) = Y1
    intro fl1 sy1 hph
    apply L2.rd_nameE
    focus ((try simp only [List.set_cons_zero, List.set_cons_succ]); (exact rfl))
    try with_reducible refine L2.rd_nxE (by assumption) ?_
    with_reducible refine L2.rd_seqH fun R2 hR2 => ?_
    have tail : ∀ (M1 : Fl) (more : List Nat) (pm : Addr) (Y2 H2 : Hp) (G1 : Nat -> List Int), Same Y Y2 -> FlAt C hs S Y2 H2 x M1 Ad -> Y2 pm = some (.lst (nV more)) -> OkX hs M1 (more.filter (fin hs M1)) (some i) G1 -> Que hs M1 more -> second M1.wanted (i : Int) = none -> doneOf M1 i = doneOf M i ->
        ¬ i ∈ more -> more.length <= 2 -> G1 i = has ((stepsOf hs i).take (doneOf M1 i + 1)) -> (∀ Y' H', Same Y Y' -> FlAt C hs S Y' H' x (endStep hs M1 i more) Ad -> Q (.str (w0 s)) H') -> R2 [some (.ref x), some (.int (i : Int)), some (.ref bs), some (.ref pm)] H2 := by
      intro M1 more pm Y2 H2 G1 sy2 fl2 hpm o1 Q1 hw1 hd1 hm hml hG1 fin1
      rw [hR2.eq]
      obtain ⟨o2, Q2, _⟩ := endStep_ok o1 Q1 hi hw1 (by rw [hd1]; exact hd) hm hml hG1
      have il1 : i < M1.done.length := by rw [o1.core.len]; exact hi
      walk_at "rd"
      refine rd_f fl2.ob TC.cl TC.n_done rfl ?_
      walk_at "rd"
      refine rd_ixL (.of fl2.dn) (nV_at il1) ?_
      walk_at "rd"
      refine rd_f fl2.ob TC.cl TC.n_done rfl ?_
      walk_at "rd"
      refine rd_set (k := i) fl2.dn (by rw [List.length_map]; exact il1) ?_
      rw [show ((M1.done.getD i 0 : Nat) : Int) + 1 = ((M1.done.getD i 0 + 1 : Nat) : Int) by lia, nV_set]
      have fl3 : FlAt C hs S Y2 (upd H2 Ad.d (.lst (nV (M1.done.set i (M1.done.getD i 0 + 1))))) x (bump M1 i) Ad := fl2.setDone (M1.done.set i (M1.done.getD i 0 + 1))
      revert fl3
      generalize upd H2 Ad.d (.lst (nV (M1.done.set i (M1.done.getD i 0 + 1)))) = H3
      intro fl3
      walk_at "rd"
      refine rd_m fl3.ob rfl ?_
      walk_at "rd"
      refine ⟨by rw [sizeLine_eq]; simp, fun p1 fp1 => ?_⟩
      obtain ⟨fl4, sy4⟩ := fl3.new (o := .lst [.int (i : Int)]) fp1
      have hp1 : upd Y2 p1 (.lst [.int (i : Int)]) p1 = some (.lst [.int (i : Int)]) := upd_same
      revert fl4 sy4 hp1
      generalize upd H3 p1 (.lst [.int (i : Int)]) = H4
      generalize upd Y2 p1 (.lst [.int (i : Int)]) = Y4
      intro fl4 sy4 hp1
      walk_at "rd"
      refine rd_cat (fl4.sm _ _ hp1) (fl4.sm _ _ (sy4 _ _ hpm)) (by rw [List.length_map, sizeLine_eq]; simp; lia) fun p2 fp2 => ?_
      rw [show ([V.int (i : Int)] ++ nV more) = nV (i :: more) from rfl]
      obtain ⟨fl5, sy5⟩ := fl4.new (o := .lst (nV (i :: more))) fp2
      have hp2 : upd Y4 p2 (.lst (nV (i :: more))) p2 = some (.lst (nV (i :: more))) := upd_same
      have Y2n : ∀ b u, Y b = some u -> b ≠ p2 := fun b u z => ne_of_none (fl4.sm _ _ (sy4 _ _ (sy2 _ _ z))) fp2
      have Sn : S p2 = none := fl4.SH.free fp2
      revert fl5 sy5 hp2
      generalize upd H4 p2 (.lst (nV (i :: more))) = H5
      generalize upd Y4 p2 (.lst (nV (i :: more))) = Y5
      intro fl5 sy5 hp2
      walk_at "rd"
      refine ⟨x, p2, hs, S, Y5, bump M1 i, Ad, G1, i :: more, fuel M1, rfl, fl5, sml, hp2, Sn, o2, Q2, ?_, fun Y6 H6 fr6 fl6 => ?_⟩
      · show M1.wanted.length + (more.length + 1) < 2 * M1.wanted.length + 4
        lia
      walk_at "rd"
      refine rd_ixT (.of (fl6.SH _ _ e5)) (stp_at0 s) ?_
      refine ⟨Sum.inr (nm s), .str (w0 s), rfl, words_at s, ?_⟩
      exact fin1 Y6 H6 (fun b u z => fr6 b u (Y2n b u z) (sy5 _ _ (sy4 _ _ (sy2 _ _ z)))) fl6
    walk_at "rd"
    refine rd_ixT (.of (fl1.SH _ _ e5)) (stp_at0 s) ?_
    walk_at "rd"
    cases s with
    | work =>
      refine iteN (by decide +kernel) ?_
      walk_at "rd"
      refine rd_ixT (.of (fl1.SH _ _ e5)) (stp_at0 .work) ?_
      walk_at "rd"
      refine iteN (by decide +kernel) (iteF ?_)
      exact tail M [] ph Y1 H1 G sy1 fl1 hph o.free Qn hw rfl (by simp) (by simp) (by rw [hsu, ow]; rfl) fun Y' H' sy' fl' => by rw [sv] at q; exact q Y' H' Ad sy' fl'
    | take t =>
      have hn := hfree t rfl
      refine iteP (by show decide (V.str "take" = V.str "take") = true; decide +kernel) ?_
      walk_at "rd"
      refine rd_m fl1.ob rfl ?_
      walk_at "rd"
      refine rd_ixT (.of (fl1.SH _ _ e5)) (atI1 _ _) ?_
      walk_at "rd"
      refine ⟨x, hs, S, Y1, M, Ad, i, t, rfl, fl1, hn, o.core.sorted, by lia, by lia, fun Y2 H2 sy2 fl2 => ?_⟩
      have sv2 : serve hs M i = (endStep hs (hold M i t) i [], .took) := by rw [sv]; simp only [hn, Option.isSome_none, Bool.false_eq_true, if_false]
      refine tail (hold M i t) [] ph Y2 H2 (gotG G i t) (sy1.trans sy2) fl2 (sy2 _ _ hph) (hold_ok (P := []) o.free hi hn (tools_all es)) ⟨List.nodup_nil, fun j hj => by cases hj⟩ hw rfl (by simp) (by simp) ?_ fun Y' H' sy' fl' => by rw [sv2] at q; exact q Y' H' Ad sy' fl'
      show gotG G i t i = has ((stepsOf hs i).take (doneOf M i + 1))
      rw [hsu]
      unfold gotG
      rw [if_pos rfl, ow]
      rfl
    | give t =>
      refine iteN (by show ¬ (decide (V.str "give" = V.str "take") = true); decide +kernel) ?_
      walk_at "rd"
      refine rd_ixT (.of (fl1.SH _ _ e5)) (stp_at0 (.give t)) ?_
      walk_at "rd"
      refine iteP (by show decide (V.str "give" = V.str "give") = true; decide +kernel) ?_
      walk_at "rd"
      refine rd_f fl1.ob TC.cl TC.n_holders rfl ?_
      walk_at "rd"
      refine rd_tyD fl1.hd ?_
      walk_at "rd"
      refine rd_ixT (.of (fl1.SH _ _ e5)) (atI1 _ _) ?_
      walk_at "rd"
      refine rd_get fl1.hd ?_
      walk_at "rd"
      refine rd_eqS (x := iV (second M.holders t)) (y := .int (i : Int)) (by cases second M.holders t <;> rfl) ?_
      walk_at "rd"
      by_cases hz : second M.holders t = some (i : Int)
      · refine iteP (by rw [hz]; simp [iV]) ?_
        have hG : t ∈ G i := (o.core.holds t i).mp hz
        have o1 := passOn_ok (i := i) o.free hG hw
        obtain ⟨Q1, flt, _⟩ := passOn_que (t := t) o.core Qn
        have noti : (heirF (ranksOf hs) M.holders M.wanted t).map Int.toNat ≠ some i := fun z => by
          cases e : heirF (ranksOf hs) M.holders M.wanted t with
          | none => rw [e] at z; cases z
          | some h =>
            rw [e] at z
            have h1 := heir_waits o.core e
            obtain ⟨k, rfl, _⟩ := o.core.natW h1
            have : k = i := by simpa using z
            subst this
            rw [hw] at h1
            cases h1
        have hd1 : doneOf (passOn hs M t).1 i = doneOf M i := by rw [passOn_done i (heir_len o.core), if_neg noti]
        have hq : (passOn hs M t).2 = ((heirF (ranksOf hs) M.holders M.wanted t).map Int.toNat).toList := passOn_queue
        walk_at "rd"
        refine rd_m fl1.ob rfl ?_
        walk_at "rd"
        refine rd_ixT (.of (fl1.SH _ _ e5)) (atI1 _ _) ?_
        walk_at "rd"
        refine ⟨x, hs, S, Y1, M, Ad, G, t, i, rfl, fl1, sml, o.core, hz, fun pm Y2 H2 sy2 yp fl2 hpm => ?_⟩
        walk_at "rd"
        have sv2 : serve hs M i = (endStep hs (passOn hs M t).1 i (passOn hs M t).2, .gave) := by rw [sv]; simp only [hz, if_true]
        refine tail (passOn hs M t).1 (passOn hs M t).2 pm Y2 H2 (gaveG G i t (heirF (ranksOf hs) M.holders M.wanted t)) (sy1.trans sy2) fl2 hpm (by simpa using o1) ⟨by simpa using Q1.nd, fun j hj => Q1.free j (by simpa using hj)⟩ ?_ hd1 ?_ ?_ ?_ fun Y' H' sy' fl' => by rw [sv2] at q; exact q Y' H' Ad sy' fl'
        · rw [passOn_wanted]
          split
          · rfl
          · exact hw
        · rw [hq]
          intro z
          cases e : (heirF (ranksOf hs) M.holders M.wanted t).map Int.toNat with
          | none => rw [e] at z; cases z
          | some k =>
            rw [e] at z
            have : i = k := by simpa using z
            exact noti (by rw [e, this])
        · rw [hq]
          cases (heirF (ranksOf hs) M.holders M.wanted t).map Int.toNat <;> simp
        · rw [hd1, hsu]
          unfold gaveG
          rw [if_pos rfl, ow]
          rfl
      · refine iteN (by cases z : second M.holders t <;> simp [iV]; rintro rfl; exact hz z) ?_
        have sv2 : serve hs M i = (endStep hs M i [], .gave) := by rw [sv]; simp only [hz, if_false]
        refine tail M [] ph Y1 H1 G sy1 fl1 hph o.free Qn hw rfl (by simp) (by simp) ?_ fun Y' H' sy' fl' => by rw [sv2] at q; exact q Y' H' Ad sy' fl'
        rw [hsu, ow]
        show _ = (has ((stepsOf hs i).take (doneOf M i))).erase t
        rw [List.erase_of_not_mem]
        intro z
        rw [<- ow] at z
        exact hz ((o.core.holds t i).mpr z)
  walk_at "rd"
  refine rd_ixT (.of (fl.SH _ _ e5)) (stp_at0 s) ?_
  walk_at "rd"
  by_cases htk : ∃ t, s = .take t
  · obtain ⟨t, rfl⟩ := htk
    refine iteP (by show decide (V.str "take" = V.str "take") = true; decide +kernel) ?_
    walk_at "rd"
    refine rd_ixT (.of (fl.SH _ _ e5)) (atI1 _ _) ?_
    walk_at "rd"
    refine rd_f fl.ob TC.cl TC.n_holders rfl ?_
    refine rd_in1 fl.hd ?_
    rw [Option.isSome_map]
    walk_at "rd"
    refine ite3 (fun ht => ?_) (fun ht => ?_)
    · walk_at "rd"
      refine rd_m fl.ob rfl ?_
      walk_at "rd"
      refine rd_ixT (.of (fl.SH _ _ e5)) (atI1 _ _) ?_
      walk_at "rd"
      have wf1 : WF M.holders (M.wanted ++ [((i : Int), t)]) := by
        refine ⟨o.core.wf.tools, snoc_nd o.core.wf.hands hw, fun p hp => ?_⟩
        rcases List.mem_append.mp hp with hp | hp
        · exact o.core.wf.there p hp
        · have : p = ((i : Int), t) := by simpa using hp
          subst this
          exact Option.isSome_iff_exists.mp ht
      have gln : M.going.length <= hs.length := Que.len (F := { M with wanted := [] }) ⟨lt_nodup o.sort, fun j hj => ⟨((o.going j).mp hj).1, rfl⟩⟩
      refine ⟨x, hs, S, Y, M, Ad, t, i, rfl, fl, wf1, hw, by lia, by lia, fun Y2 H2 A2 sy fl2 => ?_⟩
      walk_at "rd"
      rw [sv] at q
      simp only [ht, if_true] at q
      exact q Y2 H2 A2 sy fl2
    · walk_at "rd"
      refine after fun u e => ?_
      cases e
      cases z : second M.holders t with
      | none => rfl
      | some u => rw [z] at ht; cases ht
  · have hne : decide (V.str (nm s) = V.str "take") = false := by
      cases s with
      | work => decide +kernel
      | give t => show decide (V.str "give" = V.str "take") = false; decide +kernel
      | take t => exact absurd ⟨t, rfl⟩ htk
    refine iteN (by rw [hne]; simp) (iteF ?_)
    walk_at "rd"
    exact after fun u e => absurd ⟨u, e⟩ htk
theorem sc_Floor_pass_tick : FnScope ["self", "chain"] ["self", "chain"] (defScope s_Floor_pass_tick) := ⟨rfl, rfl, rfl, by decide +kernel, rfl, by decide +kernel, by decide +kernel⟩
theorem ok_Floor_pass_tick (F : Fun K "pass_tick" "Floor.pass_tick" s_Floor_pass_tick f fd) (T : Txt mg) (TC : TxtC K w mg C) (G_Floor_serve : CalM P w K mg base C "serve" ["self", "hand"] 6 (sp_Floor_serve K C)) : FnOk P w K mg base CX0 7 f fd ["self", "chain"] (sp_Floor_pass_tick K C) := by
  refine F.okQ sc_Floor_pass_tick (fun vs H Q E h => ?_) (fun cdv A outer s H E hr => ?_)
  · obtain ⟨x, c, hs, S, Y, M, Ad, rfl, _⟩ := h
    rfl
  have hU := room200 hr
  refine ⟨_, (qss_cons (qs_fld K (qv 0) (qe_op qo_add (qe_fld K (qv 0)) qe_int))
      (qss_cons (qs_if (qt_cmp (qo_eq K hU) (qe_callB (qc_len K) T.b_len bt_len (qa_cons (qv 1) qa_nil)) qe_int (nomark _)) (qss_one (qs_ret (qe_tup (qa_cons qe_non (qa_cons qe_str qa_nil))))) qss_nil)
      (qss_one (qs_ret (qe_tup (qa_cons (qe_ixA K (qv 1) (qe_neg qe_int)) (qa_cons (qe_meth G_Floor_serve hr.up (qv 0) (qa_cons (qe_ixA K (qv 1) (qe_neg qe_int)) qa_nil)) qa_nil))))))), fun vs Q h => ?_⟩
  obtain ⟨x, c, hs, S, Y, M, Ad, rfl, fl, sml, gd, hc, q⟩ := h
  refine st_eq (σ := [some _, some _]) rfl ?_
  walk_at "rd"
  refine rd_f fl.ob TC.cl TC.n_tick rfl ?_
  walk_at "rd"
  refine rd_af fl.ob TC.cl TC.n_tick (by show 9 < 1000; decide) ?_
  have fl1 : FlAt C hs S Y (upd H x (.ins C Ad.dx (putF "tick" (.int ((M.tick : Int) + 1)) (flds Ad M.tick)))) x { M with tick := M.tick + 1 } Ad := fl.setTick (M.tick + 1)
  revert fl1
  generalize upd H x (.ins C Ad.dx (putF "tick" (.int ((M.tick : Int) + 1)) (flds Ad M.tick))) = H1
  intro fl1
  have hc1 := fl1.sm _ _ hc
  walk_at "rd"
  refine rd_lenL (.of hc1) ?_
  rw [List.length_map]
  walk_at "rd"
  unfold dayN entry at q
  cases e : (chain hs M).getLast? with
  | none =>
    simp only [e] at q
    have e0 : chain hs M = [] := List.getLast?_eq_none_iff.mp e
    refine iteP (by rw [e0]; rfl) ?_
    walk_at "rd"
    refine ⟨by rw [sizeLine_eq]; simp, fun p fp => ?_⟩
    obtain ⟨fl2, sy2⟩ := fl1.new (o := .tup [.non, .str "idle"]) fp
    exact q p _ _ Ad sy2 fl2 upd_same
  | some j =>
    simp only [e] at q
    have ne : chain hs M ≠ [] := fun z => by rw [z] at e; cases e
    obtain ⟨i, rfl, h1, h2, h3⟩ := chain_last gd e
    have el : (chain hs M).getLastD 0 = (i : Int) := getLastD_eq e
    refine iteN (by
      have : (chain hs M).length ≠ 0 := fun z => ne (List.length_eq_zero_iff.mp z)
      simp
      exact ne) ?_
    walk_at "rd"
    refine rd_ixL (.of hc1) (atI_lastD ne) ?_
    rw [el]
    walk_at "rd"
    refine rd_m fl1.ob rfl ?_
    walk_at "rd"
    refine rd_ixL (.of hc1) (atI_lastD ne) ?_
    rw [el]
    walk_at "rd"
    refine ⟨x, hs, S, Y, { M with tick := M.tick + 1 }, Ad, i, rfl, fl1, sml, tick_good gd _, h1, h2, h3, fun Y2 H2 A2 sy2 fl2 => ?_⟩
    walk_at "rd"
    refine ⟨by rw [sizeLine_eq]; simp, fun p fp => ?_⟩
    rw [Int.toNat_natCast] at q
    obtain ⟨fl3, sy3⟩ := fl2.new (o := .tup [.int (i : Int), .str (wordS (serve hs { M with tick := M.tick + 1 } i).2)]) fp
    exact q p _ _ A2 (sy2.trans sy3) fl3 upd_same
theorem sc_Floor_find_chain : FnScope ["self", "here"] ["self"] (defScope s_Floor_find_chain) := ⟨rfl, rfl, rfl, by decide +kernel, rfl, by decide +kernel, by decide +kernel⟩
theorem ok_Floor_find_chain (F : Fun K "find_chain" "Floor.find_chain" s_Floor_find_chain f fd) (T : Txt mg) (TC : TxtC K w mg C) (G_foremost_of : Cal P w K mg base "foremost_of" ["ranks", "some"] 2 (sp_foremost_of K)) (G_row_by : Cal P w K mg base "row_by" ["holders", "wanted", "hand"] 2 (sp_row_by K)) : FnOk P w K mg base CX0 3 f fd ["self"] (sp_Floor_find_chain K C) := by
  refine F.okQ sc_Floor_find_chain (fun vs H Q E h => ?_) (fun cdv A outer s H E hr => ?_)
  · obtain ⟨x, hs, S, Y, M, Ad, rfl, _⟩ := h
    rfl
  have hU := room200 hr
  refine ⟨_, (qss_cons (qs_setComp 1 sc_Floor_find_chain.nd noX (own := ["hand"]) (taken := ["self"]) (caps := [0]) (csc (defScope s_Floor_find_chain) ["self", "here"] (by decide +kernel)) (qi_list K (qe_fld K (qv 0))) ⟨fun _ _ _ _ _ => ⟨(qg_name 0 (show (["hand", "self"] : List Str).Nodup by decide +kernel)), (qif_one (qt_cmp qo_le (qe_ixA K (qe_fld K (qv 1)) (qv 0)) (qe_fld K (qv 1)) (nomark _))), (qv 0)⟩, (gw_name (by decide))⟩)
      (qss_cons (qs_if (qt_cmp (qo_eq K hU) (qe_callB (qc_len K) T.b_len bt_len (qa_cons (qv 1) qa_nil)) qe_int (nomark _)) (qss_one (qs_ret (qe_lst qa_nil))) qss_nil)
      (qss_one (qs_ret (qe_callC G_row_by hr.up (qa_cons (qe_fld K (qv 0)) (qa_cons (qe_fld K (qv 0)) (qa_cons (qe_callC G_foremost_of hr.up (qa_cons (qe_fld K (qv 0)) (qa_cons (qv 1) qa_nil))) qa_nil)))))))), fun vs Q h => ?_⟩
  obtain ⟨x, hs, S, Y, M, Ad, rfl, fl, sml, gd, q⟩ := h
  obtain ⟨G, o⟩ := id gd
  refine st_eq (σ := [some _, none]) rfl ?_
  have h60 := sml.n
  have wl := o.core.wantLen
  have gln : M.going.length <= hs.length := Que.len (F := { M with wanted := [] }) ⟨lt_nodup o.sort, fun j hj => ⟨((o.going j).mp hj).1, rfl⟩⟩
  walk_at "rd"
  refine rd_f fl.ob TC.cl TC.n_going rfl ?_
  refine comp_lst (xs := nV M.going) (fun n acc H' => acc = nV ((M.going.take n).filter fun j => decide (comesOf hs j <= (M.tick : Int))) /\ H' = H) (by rw [List.length_map, sizeLine_eq]; lia) ⟨rfl, rfl⟩ (fun n acc H' _ ⟨_, e⟩ => e ▸ .of fl.gg) ?_ ?_
  · rintro n y acc H3 hy ⟨rfl, rfl⟩
    obtain ⟨j, hj, rfl⟩ : ∃ j, M.going[n]? = some j /\ y = V.int (j : Nat) := by
      rw [List.getElem?_map] at hy
      cases e : M.going[n]? with
      | none => rw [e] at hy; cases hy
      | some p => rw [e] at hy; exact ⟨p, rfl, (Option.some.inj hy).symm⟩
    have tk : M.going.take (n + 1) = M.going.take n ++ [j] := by rw [List.take_add_one, hj]; rfl
    have jl : j < hs.length := ((o.going j).mp (List.mem_of_getElem? hj)).1
    walk_at "rd"
    refine rd_f fl.ob TC.cl TC.n_comes rfl ?_
    walk_at "rd"
    refine rd_ixL (.of (fl.SH _ _ fl.cm)) (atI_ints (by simpa using jl)) ?_
    walk_at "rd"
    refine rd_f fl.ob TC.cl TC.n_tick rfl ?_
    walk_at "rd"
    refine ite3 (fun e => ?_) (fun e => ?_)
    · have e : comesOf hs j <= (M.tick : Int) := of_decide_eq_true e
      walk_at "rd"
      refine ⟨?_, rfl⟩
      rw [tk, List.filter_append, List.filter_cons_of_pos (by simpa using e), List.filter_nil, nV_snoc]
    · have e : ¬ comesOf hs j <= (M.tick : Int) := of_decide_eq_false e
      refine ⟨?_, rfl⟩
      rw [tk, List.filter_append, List.filter_cons_of_neg (by simpa using e), List.filter_nil, List.append_nil]
  · rintro acc H3 ⟨rfl, rfl⟩ p fp
    rw [List.length_map, List.take_length]
    obtain ⟨fl1, sy1⟩ := fl.new (o := .lst (nV (here hs M))) fp
    have hp1 : upd Y p (.lst (nV (here hs M))) p = some (.lst (nV (here hs M))) := upd_same
    revert fl1 sy1 hp1
    show FlAt C hs S _ (upd H3 p (.lst (nV (M.going.filter fun j => decide (comesOf hs j <= (M.tick : Int)))))) x M Ad -> _
    generalize upd H3 p (.lst (nV (M.going.filter fun j => decide (comesOf hs j <= (M.tick : Int))))) = H1
    generalize upd Y p (.lst (nV (here hs M))) = Y1
    intro fl1 sy1 hp1
    walk_at "rd"
    refine rd_lenL (.of (fl1.sm _ _ hp1)) ?_
    rw [List.length_map]
    walk_at "rd"
    unfold chain at q
    cases e : here hs M with
    | nil =>
      refine iteP (by rfl) ?_
      walk_at "rd"
      refine ⟨Nat.zero_le _, fun p2 fp2 => ?_⟩
      obtain ⟨fl2, sy2⟩ := fl1.new (o := .lst []) fp2
      have e2 : fm (ranksOf hs) (here hs M) = none := by rw [e]; rfl
      rw [e2] at q
      exact q p2 _ _ (sy1.trans sy2) ((sy1.trans fl1.sm).free fp2) fl2 upd_same
    | cons a r =>
      refine iteN (by simp; lia) ?_
      have hin : ∀ j ∈ here hs M, j < hs.length := fun j hj => ((o.going j).mp (List.mem_filter.mp hj).1).1
      walk_at "rd"
      refine rd_f fl1.ob TC.cl TC.n_holders rfl ?_
      walk_at "rd"
      refine rd_f fl1.ob TC.cl TC.n_wanted rfl ?_
      walk_at "rd"
      refine rd_f fl1.ob TC.cl TC.n_ranks rfl ?_
      walk_at "rd"
      refine ⟨Ad.r, p, ranksOf hs, here hs M, rfl, .of (fl1.SH _ _ fl1.rk), .of (fl1.sm _ _ hp1), fun j hj => by rw [ranks_len]; exact hin j hj, ?_⟩
      obtain ⟨f, hf, _⟩ := fm_top (rs := ranksOf hs) (is := here hs M) (by rw [e]; simp)
      rw [hf] at q ⊢
      refine ⟨Ad.h, Ad.w, M.holders, M.wanted, f, rfl, fl1.hd, fl1.wt, o.core.wf, by lia, fun p2 H2 s2 fp2 hp2 => ?_⟩
      obtain ⟨fl2, sy2⟩ := fl1.keepNew s2 fp2 hp2
      exact q p2 _ H2 (sy1.trans sy2) ((sy1.trans fl1.sm).free fp2) fl2 upd_same
theorem sc_Floor_show_page : FnScope ["self", "chain", "waits"] ["self", "chain"] (defScope s_Floor_show_page) := ⟨rfl, rfl, rfl, by decide +kernel, rfl, by decide +kernel, by decide +kernel⟩
theorem ok_Floor_show_page (F : Fun K "show_page" "Floor.show_page" s_Floor_show_page f fd) (T : Txt mg) (TC : TxtC K w mg C) : FnOk P w K mg base CX0 1 f fd ["self", "chain"] (sp_Floor_show_page K C) := by
  refine F.okQ sc_Floor_show_page (fun vs H Q E h => ?_) (fun cdv A outer s H E hr => ?_)
  · obtain ⟨x, c, hs, S, Y, M, Ad, ch, rfl, _⟩ := h
    rfl
  have hU := room200 hr
  refine ⟨_, (qss_cons (qs_setComp 2 sc_Floor_show_page.nd noX (own := ["hand"]) (taken := ["self"]) (caps := [0]) (csc (defScope s_Floor_show_page) ["self", "chain", "waits"] (by decide +kernel)) (qi_list K (qe_callB (qc_sortedD K) T.b_sorted bt_sorted (qa_cons (qe_fld K (qv 0)) qa_nil))) ⟨fun _ _ _ _ _ => ⟨(qg_name 0 (show (["hand", "self"] : List Str).Nodup by decide +kernel)), qif_nil, (qe_tup (qa_cons (qv 0) (qa_cons (qe_dget hU (qe_fld K (qv 1)) (qv 0) (fun _ _ => rfl)) qa_nil)))⟩, (gw_name (by decide))⟩)
      (qss_one (qs_ret (qe_tup (qa_cons (qe_callTy (qc_list K) T.b_list bt_list (qa_cons (qv 1) qa_nil)) (qa_cons (qe_callTy (qc_list K) T.b_list bt_list (qa_cons (qe_fld K (qv 0)) qa_nil)) (qa_cons (qv 2) (qa_cons (qe_callTy (qc_list K) T.b_list bt_list (qa_cons (qe_fld K (qv 0)) qa_nil)) qa_nil)))))))), fun vs Q h => ?_⟩
  obtain ⟨x, c, hs, S, Y, M, Ad, ch, rfl, fl, sml, gd, hc, hcl, q⟩ := h
  obtain ⟨G, o⟩ := id gd
  refine st_eq (σ := [some _, some _, none]) rfl ?_
  have h60 := sml.n
  have h5 := sml.t
  have wl := o.core.wantLen
  have hl := o.core.holdLen
  have hl2 := o.core.perm.length_eq
  walk_at "rd"
  refine rd_f fl.ob TC.cl TC.n_wanted rfl ?_
  walk_at "rd"
  refine ⟨Ad.w, M.wanted, rfl, fl.wt, by lia, fun ps ns fps perm sorted => ?_⟩
  have nl : ns.length = M.wanted.length := by rw [perm.length_eq, List.length_map]
  obtain ⟨fl1, sy1⟩ := fl.new (o := .lst (ns.map V.int)) fps
  have hps : upd Y ps (.lst (ns.map V.int)) ps = some (.lst (ns.map V.int)) := upd_same
  have hc1 : upd H ps (.lst (ns.map V.int)) c = some (.lst (ch.map V.int)) := by rw [upd_ne (ne_of_none hc fps)]; exact hc
  revert fl1 sy1 hps hc1
  generalize upd H ps (.lst (ns.map V.int)) = H1
  generalize upd Y ps (.lst (ns.map V.int)) = Y1
  intro fl1 sy1 hps hc1
  refine comp_lst (xs := ns.map V.int) (fun n acc H' => ∃ Y', Same Y1 Y' /\ FlAt C hs S Y' H' x M Ad /\ H' c = some (.lst (ch.map V.int)) /\ IsPairs Y' acc ((ns.take n).map fun h => (h, (second M.wanted h).getD 0))) (by rw [List.length_map, sizeLine_eq]; lia) ⟨Y1, Same.refl _, fl1, hc1, .nil⟩
    (fun n acc H' _ ⟨Y', s, f, _⟩ => .of (f.sm _ _ (s _ _ hps))) ?_ ?_
  · rintro n y acc H3 hy ⟨Y3, s3, fl3, hc3, pr3⟩
    obtain ⟨h, hh, rfl⟩ : ∃ h, ns[n]? = some h /\ y = V.int h := by
      rw [List.getElem?_map] at hy
      cases e : ns[n]? with
      | none => rw [e] at hy; cases hy
      | some p => rw [e] at hy; exact ⟨p, rfl, (Option.some.inj hy).symm⟩
    have tk : ns.take (n + 1) = ns.take n ++ [h] := by rw [List.take_add_one, hh]; rfl
    obtain ⟨t, ht⟩ := second_of_mem (perm.mem_iff.mp (List.mem_of_getElem? hh))
    walk_at "rd"
    refine iteT ?_
    walk_at "rd"
    refine rd_f fl3.ob TC.cl TC.n_wanted rfl ?_
    walk_at "rd"
    refine rd_at1 fl3.wt ht ?_
    walk_at "rd"
    refine ⟨by rw [sizeLine_eq]; simp, fun p fp => ?_⟩
    obtain ⟨fl4, sy4⟩ := fl3.new (o := .tup [.int h, .int t]) fp
    refine ⟨_, s3.trans sy4, fl4, by rw [upd_ne (ne_of_none hc3 fp)]; exact hc3, ?_⟩
    rw [tk, List.map_append]
    refine Paired.app (pr3.same sy4) (.cons ⟨p, rfl, ?_⟩ .nil)
    rw [upd_same]
    show some (HO.tup [V.int h, V.int t]) = some (.tup [.int h, .int ((second M.wanted h).getD 0)])
    rw [ht]
    rfl
  · rintro acc H3 ⟨Y3, s3, fl3, hc3, pr3⟩ p fp
    rw [List.length_map, List.take_length] at pr3
    obtain ⟨fl4, sy4⟩ := fl3.new (o := .lst acc) fp
    have hp4 : upd Y3 p (.lst acc) p = some (.lst acc) := upd_same
    have hc4 : upd H3 p (.lst acc) c = some (.lst (ch.map V.int)) := by rw [upd_ne (ne_of_none hc3 fp)]; exact hc3
    have pr4 := pr3.same sy4
    have sy14 := s3.trans sy4
    revert fl4 hp4 hc4 pr4 sy14
    generalize upd H3 p (.lst acc) = H4
    generalize upd Y3 p (.lst acc) = Y4
    intro fl4 hp4 hc4 pr4 sy14
    walk_at "rd"
    refine rd_listL (.of hc4) fun p5 fp5 => ?_
    obtain ⟨fl5, sy5⟩ := fl4.new (o := .lst (ch.map V.int)) fp5
    have hp5 : upd Y4 p5 (.lst (ch.map V.int)) p5 = some (.lst (ch.map V.int)) := upd_same
    revert fl5 sy5 hp5
    generalize upd H4 p5 (.lst (ch.map V.int)) = H5
    generalize upd Y4 p5 (.lst (ch.map V.int)) = Y5
    intro fl5 sy5 hp5
    walk_at "rd"
    refine rd_f fl5.ob TC.cl TC.n_held rfl ?_
    obtain ⟨hy, hyl, hyp⟩ := fl5.hl
    walk_at "rd"
    refine rd_listL (.of hyl) fun p6 fp6 => ?_
    obtain ⟨fl6, sy6⟩ := fl5.new (o := .lst hy) fp6
    have hp6 : upd Y5 p6 (.lst hy) p6 = some (.lst hy) := upd_same
    revert fl6 sy6 hp6
    generalize upd H5 p6 (.lst hy) = H6
    generalize upd Y5 p6 (.lst hy) = Y6
    intro fl6 sy6 hp6
    walk_at "rd"
    refine rd_f fl6.ob TC.cl TC.n_done rfl ?_
    walk_at "rd"
    refine rd_listL (.of fl6.dn) fun p7 fp7 => ?_
    obtain ⟨fl7, sy7⟩ := fl6.new (o := .lst (nV M.done)) fp7
    have hp7 : upd Y6 p7 (.lst (nV M.done)) p7 = some (.lst (nV M.done)) := upd_same
    revert fl7 sy7 hp7
    generalize upd H6 p7 (.lst (nV M.done)) = H7
    generalize upd Y6 p7 (.lst (nV M.done)) = Y7
    intro fl7 sy7 hp7
    walk_at "rd"
    refine ⟨by rw [sizeLine_eq]; simp, fun p8 fp8 => ?_⟩
    obtain ⟨fl8, sy8⟩ := fl7.new (o := .tup [.ref p5, .ref p6, .ref p, .ref p7]) fp8
    have a58 := sy6.trans (sy7.trans sy8)
    have a48 := sy5.trans a58
    refine q _ _ _ ⟨ch, M.held, ns.map fun h => (h, (second M.wanted h).getD 0), M.done⟩ (sy1.trans (sy14.trans a48)) fl8 ⟨rfl, rfl, rfl, waits_perm o.core.wf.hands perm, waits_sorted o.core.wf.hands perm sorted⟩ ?_
    intro z u hz
    have h3 := fl3.sm _ _ (s3 _ _ (sy1 _ _ hz))
    have h4 := sy14 _ _ (sy1 _ _ hz)
    have h5 := sy5 _ _ h4
    have h6 := sy6 _ _ h5
    exact ⟨p8, p5, p6, p, p7, rfl, upd_same, a58 _ _ hp5, ⟨hy, (sy7.trans sy8) _ _ hp6, hyp.same a58⟩, ⟨acc, a48 _ _ hp4, pr4.same a48⟩, sy8 _ _ hp7,
      (ne_of_none (fl4.sm _ _ h4) fp5).symm, (ne_of_none (fl5.sm _ _ h5) fp6).symm, (ne_of_none h3 fp).symm, (ne_of_none (fl6.sm _ _ h6) fp7).symm⟩
theorem sc_Floor_find_rings : FnScope ["self", "found", "hand", "ring"] ["self"] (defScope s_Floor_find_rings) := ⟨rfl, rfl, rfl, by decide +kernel, rfl, by decide +kernel, by decide +kernel⟩
theorem ok_Floor_find_rings (F : Fun K "find_rings" "Floor.find_rings" s_Floor_find_rings f fd) (T : Txt mg) (TC : TxtC K w mg C) (G_ring_by : Cal P w K mg base "ring_by" ["holders", "wanted", "hand"] 3 (sp_ring_by K)) : FnOk P w K mg base CX0 4 f fd ["self"] (sp_Floor_find_rings K C) := by
  refine F.okQ sc_Floor_find_rings (fun vs H Q E h => ?_) (fun cdv A outer s H E hr => ?_)
  · obtain ⟨x, hs, S, Y, M, Ad, rfl, _⟩ := h
    rfl
  have hU := room200 hr
  refine ⟨_, (qss_cons (qs_set 1 sc_Floor_find_rings.nd (qe_lst qa_nil))
      (qss_cons (qs_for (qi_range1 T.b_range (qa_cons (qe_callB (qc_len K) T.b_len bt_len (qa_cons (qe_fld K (qv 0)) qa_nil)) qa_nil)) (qg_name 2 sc_Floor_find_rings.nd) (qss_cons (qs_set 3 sc_Floor_find_rings.nd (qe_callC G_ring_by hr.up (qa_cons (qe_fld K (qv 0)) (qa_cons (qe_fld K (qv 0)) (qa_cons (qv 2) qa_nil)))))
      (qss_one (qs_if (qt_w (qw_and (qt_cmp qo_notN (qv 3) qe_non (nomark _)) (qw_and1 (qt_cmp (qo_eq K hU) (qe_ixA K (qv 3) qe_int) (qv 2) (nomark _))))) (qss_one (qs_expr (qe_bm K PySem.F.plainAttrs_list PySem.F.slot_list_append PySem.F.type_list_append qm_append (qv 1) (qa_cons (qv 3) qa_nil)))) qss_nil))))
      (qss_one (qs_ret (qv 1))))), fun vs Q h => ?_⟩
  obtain ⟨x, hs, S, Y, M, Ad, rfl, fl, sml, gd, q⟩ := h
  obtain ⟨G, o⟩ := id gd
  refine st_eq (σ := [some _, none, none, none]) rfl ?_
  have h60 := sml.n
  have wl := o.core.wantLen
  walk_at "rd"
  refine ⟨Nat.zero_le _, fun pf fp => ?_⟩
  have s0 := (Same.refl H).updF (o := .lst []) fp
  have hp0 : upd H pf (.lst []) pf = some (.lst []) := upd_same
  revert s0 hp0
  generalize upd H pf (.lst []) = H0
  intro s0 hp0
  walk_at "rd"
  refine rd_f (s0 _ _ fl.ob) TC.cl TC.n_ranks rfl ?_
  walk_at "rd"
  refine rd_lenL (.of (s0 _ _ (fl.SH _ _ fl.rk))) ?_
  rw [List.length_map, ranks_len]
  walk_at "rd"
  refine for_rng (fun n σ H' => ∃ v1 v2 ys Ls, σ = [some (.ref x), some (.ref pf), v1, v2] /\ Same H H' /\ H' pf = some (.lst ys) /\ Paired (RingX pf H') ys Ls /\ RingsOk M.holders M.wanted n Ls) (by lia) ⟨none, none, [], [], rfl, s0, hp0, .nil, rings_start⟩ ?_ ?_
  · rintro n σ H1 hn ⟨v1, v2, ys, Ls, rfl, s1, hp1, pr1, ok1⟩
    rw [show (0 : Int) + (n : Int) = (n : Int) by lia]
    walk_at "rd"
    refine rd_f (s1 _ _ fl.ob) TC.cl TC.n_holders rfl ?_
    walk_at "rd"
    refine rd_f (s1 _ _ fl.ob) TC.cl TC.n_wanted rfl ?_
    walk_at "rd"
    refine ⟨Ad.h, Ad.w, M.holders, M.wanted, n, rfl, s1 _ _ fl.hd, s1 _ _ fl.wt, o.core.wf, by lia, fun H2 s2 e => ?_, fun p L H2 s2 fp2 hp2 hl hw r he => ?_⟩
    · walk_at "rd"
      refine iteF ?_
      walk_at "rd"
      exact ⟨_, _, ys, Ls, rfl, s1.trans s2, s2 _ _ hp1, Paired.mapP pr1 fun _ _ w => w.same s2, rings_none o.core.wf ok1 e⟩
    · have npf : p ≠ pf := (ne_of_none hp1 fp2).symm
      have s12 := s1.trans s2
      have hp12 := s2 _ _ hp1
      have pr2 : Paired (RingX pf H2) ys Ls := Paired.mapP pr1 fun _ _ w => w.same s2
      obtain ⟨x0, h0, _⟩ := ring_head r
      walk_at "rd"
      refine iteT ?_
      walk_at "rd"
      refine rd_ixL (.of hp2) (ring_at h0) ?_
      walk_at "rd"
      refine ite3 (fun z1 => ?_) (fun z1 => ?_)
      · have z1 : x0 = (n : Int) := V.int.inj (of_decide_eq_true z1)
        have ly := Paired.length pr2
        have ll := ok1.len
        walk_at "rd"
        refine rd_tyL (.of hp12) ?_
        walk_at "rd"
        refine rd_append hp12 (by rw [sizeLine_eq]; lia) ?_
        walk_at "rd"
        exact ⟨_, _, ys ++ [.ref p], Ls ++ [L], rfl, s12.updF fp, upd_same, Paired.app (Paired.mapP pr2 fun _ _ w => w.mut) (.cons ⟨p, rfl, by rw [upd_ne npf]; exact hp2, npf⟩ .nil), rings_new o.core.wf ok1 r hl he (by rw [<- z1]; exact h0)⟩
      · have z1 : ¬ x0 = (n : Int) := fun e => of_decide_eq_false z1 (congrArg V.int e)
        walk_at "rd"
        exact ⟨_, _, ys, Ls, rfl, s12, hp12, pr2, rings_other o.core.wf ok1 r he (fun e => z1 (Option.some.inj (h0.symm.trans e)))⟩
  · rintro σ H1 ⟨v1, v2, ys, Ls, rfl, s1, hp1, pr1, ok1⟩
    walk_at "rd"
    exact q pf ys Ls H1 s1 hp1 pr1 ok1
theorem sc_is_step : FnScope ["step"] ["step"] (defScope s_is_step) := ⟨rfl, rfl, rfl, by decide +kernel, rfl, by decide +kernel, by decide +kernel⟩
theorem ok_is_step (F : Fun K "is_step" "is_step" s_is_step f fd) (T : Txt mg) (TC : TxtC K w mg C) : FnOk P w K mg base CX0 1 f fd ["step"] (sp_is_step K) := by
  refine F.okQ sc_is_step (fun vs H Q E h => ?_) (fun cdv A outer s H E hr => ?_)
  · obtain ⟨b, s, rfl, _⟩ := h
    rfl
  have hU := room200 hr
  refine ⟨_, (qss_one (qs_ret (qe_and (qe_cmp qo_gt (qe_callB (qc_len K) T.b_len bt_len (qa_cons (qv 0) qa_nil)) qe_int (nomark _)) (qe_one (qe_cmp (qo_eq K hU) (qe_callB (qc_len K) T.b_len bt_len (qa_cons (qv 0) qa_nil)) (qe_kdget1 hU TC.k_PARTS (qe_ixA K (qv 0) qe_int)) (nomark _)))))), fun vs Q h => ?_⟩
  obtain ⟨b, s, rfl, hb, q⟩ := h
  refine st_eq (σ := [some _]) rfl ?_
  walk_at "rd"
  refine rd_lenT (.of hb) ?_
  walk_at "rd"
  refine iteP (by cases s <;> rfl) ?_
  walk_at "rd"
  refine rd_lenT (.of hb) ?_
  walk_at "rd"
  refine rd_ixT (.of hb) (stp_at0 s) ?_
  refine ⟨Sum.inr (nm s), rfl, ?_⟩
  rw [parts_at]
  walk_at "rd"
  rw [show decide (V.int ((stpL s).length : Nat) = (some (V.int ((stpL s).length : Nat))).getD .non) = true from decide_eq_true rfl]
  exact q
theorem sc_refuse_wrong : FnScope ["hands", "place", "hand", "step"] ["hands"] (defScope s_refuse_wrong) := ⟨rfl, rfl, rfl, by decide +kernel, rfl, by decide +kernel, by decide +kernel⟩
theorem ok_refuse_wrong (F : Fun K "refuse_wrong" "refuse_wrong" s_refuse_wrong f fd) (T : Txt mg) (G_is_step : Cal P w K mg base "is_step" ["step"] 1 (sp_is_step K)) : FnOk P w K mg base CX0 2 f fd ["hands"] (sp_refuse_wrong K) := by
  refine F.okQ sc_refuse_wrong (fun vs H Q E h => ?_) (fun cdv A outer s H E hr => ?_)
  · obtain ⟨a, hs, rfl, _⟩ := h
    rfl
  have hU := room200 hr
  refine ⟨_, (qss_cons (qs_for (qi_enum K T.b_enumerate (qa_cons (qv 0) qa_nil)) (qg_tup K (qgs_cons (qg_name 1 sc_refuse_wrong.nd) (qgs_cons (qg_name 2 sc_refuse_wrong.nd) qgs_nil))) (qss_one (qs_if (qt_cmp qo_lt (qe_ixA K (qv 2) qe_int) qe_int (nomark _)) (qss_one qs_no) qss_nil)))
      (qss_one (qs_for (qi_enum K T.b_enumerate (qa_cons (qv 0) qa_nil)) (qg_tup K (qgs_cons (qg_name 1 sc_refuse_wrong.nd) (qgs_cons (qg_name 2 sc_refuse_wrong.nd) qgs_nil))) (qss_one (qs_for (qi_list K (qe_ixA K (qv 2) qe_int)) (qg_name 3 sc_refuse_wrong.nd) (qss_one (qs_if (qt_not (qt_tru K (qe_callC G_is_step hr.up (qa_cons (qv 3) qa_nil)) (fun _ => rfl))) (qss_one qs_no) qss_nil))))))), fun vs Q h => ?_⟩
  obtain ⟨a, hs, rfl, ha, hcm, q⟩ := h
  refine st_eq (σ := [some _, none, none, none]) rfl ?_
  obtain ⟨ys, hy, pr⟩ := ha
  have ly := Paired.length pr
  walk_at "rd"
  refine for_enm (xs := ys) (fun n σ H' => ∃ v1 v2, σ = [some (.ref a), v1, v2, none] /\ Same H H') ⟨none, none, rfl, Same.refl H⟩ (fun n σ H' _ ⟨_, _, _, s⟩ => s _ _ hy) ?_ ?_
  · rintro n y σ H1 p hn ⟨v1, v2, rfl, s1⟩ fp
    obtain ⟨h, hh, hv⟩ := Paired.get pr hn
    have s2 := s1.updF (o := .tup [.int n, y]) (s1.free fp)
    have hp : upd H1 p (.tup [.int n, y]) p = some (.tup [.int n, y]) := upd_same
    revert s2 hp
    generalize upd H1 p (.tup [.int n, y]) = H2
    intro s2 hp
    obtain ⟨b, v, rfl, hb, hst⟩ := hv.same s2
    refine rd_gtup (.of hp) rfl ?_
    walk_at "rd"
    refine rd_ixT (.of hb) rfl ?_
    walk_at "rd"
    refine iteN (by have := hcm h (List.mem_of_getElem? hh); simp; lia) ?_
    walk_at "rd"
    exact ⟨_, _, rfl, s2⟩
  · rintro σ H1 ⟨v1, v2, rfl, s1⟩
    walk_at "rd"
    refine for_enm (xs := ys) (fun n σ H' => ∃ v1 v2 v3, σ = [some (.ref a), v1, v2, v3] /\ Same H H') ⟨v1, v2, none, rfl, s1⟩ (fun n σ H' _ ⟨_, _, _, _, s⟩ => s _ _ hy) ?_ ?_
    · rintro n y σ H2 p hn ⟨v1, v2, v3, rfl, s2⟩ fp
      obtain ⟨h, hh, hv⟩ := Paired.get pr hn
      have s3 := s2.updF (o := .tup [.int n, y]) (s2.free fp)
      have hp : upd H2 p (.tup [.int n, y]) p = some (.tup [.int n, y]) := upd_same
      revert s3 hp
      generalize upd H2 p (.tup [.int n, y]) = H3
      intro s3 hp
      obtain ⟨b, v, rfl, hb, b2, zs, rfl, hz, pz⟩ := hv.same s3
      refine rd_gtup (.of hp) rfl ?_
      walk_at "rd"
      refine rd_ixT (.of hb) rfl ?_
      refine for_lst (xs := zs) (fun k σ H' => ∃ v3, σ = [some (.ref a), some (.int n), some (.ref b), v3] /\ H' = H3) ⟨v3, rfl, rfl⟩ (fun k σ H' _ ⟨_, _, e⟩ => e ▸ .of hz) ?_ ?_
      · rintro k z σ H4 hk ⟨v3, rfl, rfl⟩
        obtain ⟨st, hs2, bs, rfl, e5⟩ := Paired.get pz hk
        walk_at "rd"
        refine ⟨bs, st, rfl, e5, ?_⟩
        walk_at "rd"
        refine iteF ?_
        walk_at "rd"
        exact ⟨_, rfl, rfl⟩
      · rintro σ H4 ⟨v3, rfl, rfl⟩
        exact ⟨_, _, _, rfl, s3⟩
    · rintro σ H2 ⟨v1, v2, v3, rfl, s2⟩
      exact q H2 s2
theorem sc_Floor___init__ : FnScope ["self", "hands"] ["self", "hands"] (defScope s_Floor___init__) := ⟨rfl, rfl, rfl, by decide +kernel, rfl, by decide +kernel, by decide +kernel⟩
theorem ok_Floor___init__ (F : Fun K "__init__" "Floor.__init__" s_Floor___init__ f fd) (T : Txt mg) (TC : TxtC K w mg C) (G_Floor_is_finished : CalM P w K mg base C "is_finished" ["self", "hand"] 1 (sp_Floor_is_finished K C)) : FnOk P w K mg base CX0 2 f fd ["self", "hands"] (sp_Floor___init__ K C) := by
  refine F.okQ sc_Floor___init__ (fun vs H Q E h => ?_) (fun cdv A outer s H E hr => ?_)
  · obtain ⟨x, a, dx, hs, Y, rfl, _⟩ := h
    rfl
  have hU := room200 hr
  refine ⟨_, (qss_cons (qs_fld K (qv 0) (qe_comp noX (own := ["hand"]) (taken := []) (caps := []) (csc (defScope s_Floor___init__) ["self", "hands"] (by decide +kernel)) (qi_list K (qv 1)) ⟨fun _ _ _ _ _ => ⟨(qg_name 0 (show (["hand"] : List Str).Nodup by decide +kernel)), qif_nil, (qe_ixA K (qv 0) qe_int)⟩, (gw_name (by decide))⟩))
      (qss_cons (qs_fld K (qv 0) (qe_comp noX (own := ["hand"]) (taken := []) (caps := []) (csc (defScope s_Floor___init__) ["self", "hands"] (by decide +kernel)) (qi_list K (qv 1)) ⟨fun _ _ _ _ _ => ⟨(qg_name 0 (show (["hand"] : List Str).Nodup by decide +kernel)), qif_nil, (qe_ixA K (qv 0) qe_int)⟩, (gw_name (by decide))⟩))
      (qss_cons (qs_fld K (qv 0) (qe_comp noX (own := ["hand"]) (taken := []) (caps := []) (csc (defScope s_Floor___init__) ["self", "hands"] (by decide +kernel)) (qi_list K (qv 1)) ⟨fun _ _ _ _ _ => ⟨(qg_name 0 (show (["hand"] : List Str).Nodup by decide +kernel)), qif_nil, (qe_ixA K (qv 0) qe_int)⟩, (gw_name (by decide))⟩))
      (qss_cons (qs_fld K (qv 0) (qe_comp noX (own := ["hand"]) (taken := []) (caps := []) (csc (defScope s_Floor___init__) ["self", "hands"] (by decide +kernel)) (qi_list K (qv 1)) ⟨fun _ _ _ _ _ => ⟨(qg_name 0 (show (["hand"] : List Str).Nodup by decide +kernel)), qif_nil, qe_int⟩, (gw_name (by decide))⟩))
      (qss_cons (qs_fld K (qv 0) qe_int)
      (qss_cons (qs_fld K (qv 0) qe_dnew)
      (qss_cons (qs_fld K (qv 0) qe_dnew)
      (qss_cons (qs_fld K (qv 0) (qe_lst qa_nil))
      (qss_one (qs_fld K (qv 0) (qe_comp noX (own := ["hand"]) (taken := ["self"]) (caps := [0]) (csc (defScope s_Floor___init__) ["self", "hands"] (by decide +kernel)) (qi_range1 T.b_range (qa_cons (qe_callB (qc_len K) T.b_len bt_len (qa_cons (qv 1) qa_nil)) qa_nil)) ⟨fun _ _ _ _ _ => ⟨(qg_name 0 (show (["hand", "self"] : List Str).Nodup by decide +kernel)), (qif_one (qt_not (qt_tru K (qe_meth G_Floor_is_finished hr.up (qv 1) (qa_cons (qv 0) qa_nil)) (fun _ => rfl)))), (qv 0)⟩, (gw_name (by decide))⟩))))))))))), fun vs Q h => ?_⟩
  obtain ⟨x, a, dx, hs, Y, rfl, hx, yx, ha, sm, h60, q⟩ := h
  refine st_eq (σ := [some _, some _]) rfl ?_
  obtain ⟨ys, hy, pr⟩ := ha
  have ly := Paired.length pr
  have tk : ∀ {n : Nat} {h : Hd}, hs[n]? = some h -> hs.take (n + 1) = hs.take n ++ [h] := fun e => by rw [List.take_add_one, e]; rfl
  walk_at "rd"
  refine comp_lst (xs := ys) (fun n acc H' => acc = ((hs.take n).map (·.rank)).map V.int /\ H' = H) (by rw [sizeLine_eq]; lia) ⟨rfl, rfl⟩ (fun n acc H' _ ⟨_, e⟩ => e ▸ .of (sm _ _ hy)) ?_ ?_
  · rintro n y acc H' hn ⟨rfl, rfl⟩
    obtain ⟨h, hh, b, v, rfl, hb, hst⟩ := Paired.get pr hn
    walk_at "rd"
    refine iteT ?_
    walk_at "rd"
    refine rd_ixT (.of (sm _ _ hb)) rfl ?_
    refine ⟨?_, rfl⟩
    rw [tk hh, List.map_append, List.map_append]
    rfl
  rintro acc H0 ⟨rfl, rfl⟩ r fr
  rw [ly, List.take_length]
  obtain ⟨g1, hx1, sm1, yx1, hr1, sy1, _, _⟩ := init_new (gs := [("ranks", .ref r)]) (o := .lst ((hs.map (·.rank)).map V.int)) hx sm yx fr
  walk_at "rd"
  refine rd_af g1 TC.cl TC.n_ranks (by show 0 < 1000; decide) ?_
  revert hx1 sm1 yx1 hr1 sy1
  show upd (upd H0 r (.lst ((hs.map (·.rank)).map V.int))) x (.ins C dx (putF "ranks" (.ref r) [])) x = _ -> Same _ (upd (upd H0 r (.lst ((hs.map (·.rank)).map V.int))) x (.ins C dx (putF "ranks" (.ref r) []))) -> _
  generalize upd (upd H0 r (.lst ((hs.map (·.rank)).map V.int))) x (.ins C dx (putF "ranks" (.ref r) [])) = H1
  generalize upd Y r (.lst ((hs.map (·.rank)).map V.int)) = Y1
  intro hx1 sm1 yx1 hr1 sy1
  walk_at "rd"
  refine comp_lst (xs := ys) (fun n acc H' => acc = ((hs.take n).map (·.comes)).map V.int /\ H' = H1) (by rw [sizeLine_eq]; lia) ⟨rfl, rfl⟩ (fun n acc H' _ ⟨_, e⟩ => e ▸ .of (sm1 _ _ (sy1 _ _ hy))) ?_ ?_
  · rintro n y acc H' hn ⟨rfl, rfl⟩
    obtain ⟨h, hh, b, v, rfl, hb, hst⟩ := Paired.get pr hn
    walk_at "rd"
    refine iteT ?_
    walk_at "rd"
    refine rd_ixT (.of (sm1 _ _ (sy1 _ _ hb))) rfl ?_
    refine ⟨?_, rfl⟩
    rw [tk hh, List.map_append, List.map_append]
    rfl
  rintro acc H0 ⟨rfl, rfl⟩ c fc
  rw [ly, List.take_length]
  obtain ⟨g2, hx2, sm2, yx2, hc2, sy2, _, _⟩ := init_new (gs := [("ranks", .ref r), ("comes", .ref c)]) (o := .lst ((hs.map (·.comes)).map V.int)) hx1 sm1 yx1 fc
  walk_at "rd"
  refine rd_af g2 TC.cl TC.n_comes (by show 1 < 1000; decide) ?_
  revert hx2 sm2 yx2 hc2 sy2
  show upd (upd H0 c (.lst ((hs.map (·.comes)).map V.int))) x (.ins C dx (putF "comes" (.ref c) [("ranks", .ref r)])) x = _ -> Same _ (upd (upd H0 c (.lst ((hs.map (·.comes)).map V.int))) x (.ins C dx (putF "comes" (.ref c) [("ranks", .ref r)]))) -> _
  generalize upd (upd H0 c (.lst ((hs.map (·.comes)).map V.int))) x (.ins C dx (putF "comes" (.ref c) [("ranks", .ref r)])) = H2
  generalize upd Y1 c (.lst ((hs.map (·.comes)).map V.int)) = Y2
  intro hx2 sm2 yx2 hc2 sy2
  have sy02 := sy1.trans sy2
  walk_at "rd"
  refine comp_lst (xs := ys) (fun n acc H' => Paired (StepsV Y) acc ((hs.take n).map (·.steps)) /\ H' = H2) (by rw [sizeLine_eq]; lia) ⟨.nil, rfl⟩ (fun n acc H' _ ⟨_, e⟩ => e ▸ .of (sm2 _ _ (sy02 _ _ hy))) ?_ ?_
  · rintro n y acc H' hn ⟨pa, rfl⟩
    obtain ⟨h, hh, b, v, rfl, hb, hst⟩ := Paired.get pr hn
    walk_at "rd"
    refine iteT ?_
    walk_at "rd"
    refine rd_ixT (.of (sm2 _ _ (sy02 _ _ hb))) rfl ?_
    refine ⟨?_, rfl⟩
    rw [tk hh, List.map_append]
    exact Paired.app pa (.cons hst .nil)
  rintro acc H0 ⟨pst, rfl⟩ st fst
  rw [ly, List.take_length] at pst
  have lacc := Paired.length pst
  rw [List.length_map] at lacc
  obtain ⟨g3, hx3, sm3, yx3, hs3, sy3, _, _⟩ := init_new (gs := [("ranks", .ref r), ("comes", .ref c), ("steps", .ref st)]) (o := .lst acc) hx2 sm2 yx2 fst
  walk_at "rd"
  refine rd_af g3 TC.cl TC.n_steps (by show 2 < 1000; decide) ?_
  revert hx3 sm3 yx3 hs3 sy3
  show upd (upd H0 st (.lst acc)) x (.ins C dx (putF "steps" (.ref st) [("ranks", .ref r), ("comes", .ref c)])) x = _ -> Same _ (upd (upd H0 st (.lst acc)) x (.ins C dx (putF "steps" (.ref st) [("ranks", .ref r), ("comes", .ref c)]))) -> _
  generalize upd (upd H0 st (.lst acc)) x (.ins C dx (putF "steps" (.ref st) [("ranks", .ref r), ("comes", .ref c)])) = H3
  generalize upd Y2 st (.lst acc) = Y3
  intro hx3 sm3 yx3 hs3 sy3
  have sy03 := sy02.trans sy3
  walk_at "rd"
  refine comp_lst (xs := ys) (fun n acc H' => acc = nV ((hs.take n).map fun _ => 0) /\ H' = H3) (by rw [sizeLine_eq]; lia) ⟨rfl, rfl⟩ (fun n acc H' _ ⟨_, e⟩ => e ▸ .of (sm3 _ _ (sy03 _ _ hy))) ?_ ?_
  · rintro n y acc H' hn ⟨rfl, rfl⟩
    obtain ⟨h, hh, b, v, rfl, hb, hst⟩ := Paired.get pr hn
    walk_at "rd"
    refine iteT ?_
    walk_at "rd"
    refine ⟨?_, rfl⟩
    rw [tk hh, List.map_append]
    exact (nV_snoc _ 0).symm
  rintro acc2 H0 ⟨rfl, rfl⟩ d fd0
  rw [ly, List.take_length]
  obtain ⟨g4, hx4, sm4, hd4, yd, _⟩ := init_mut (gs := [("ranks", .ref r), ("comes", .ref c), ("steps", .ref st), ("done", .ref d)]) (o := .lst (nV (hs.map fun _ => 0))) hx3 sm3 yx3 fd0
  have dx4 : d ≠ x := (ne_of_none hx3 fd0).symm
  walk_at "rd"
  refine rd_af g4 TC.cl TC.n_done (by show 3 < 1000; decide) ?_
  revert hx4 sm4 hd4
  show upd (upd H0 d (.lst (nV (hs.map fun _ => 0)))) x (.ins C dx (putF "done" (.ref d) [("ranks", .ref r), ("comes", .ref c), ("steps", .ref st)])) x = _ -> Same _ (upd (upd H0 d (.lst (nV (hs.map fun _ => 0)))) x (.ins C dx (putF "done" (.ref d) [("ranks", .ref r), ("comes", .ref c), ("steps", .ref st)]))) -> upd (upd H0 d (.lst (nV (hs.map fun _ => 0)))) x (.ins C dx (putF "done" (.ref d) [("ranks", .ref r), ("comes", .ref c), ("steps", .ref st)])) d = _ -> _
  generalize upd (upd H0 d (.lst (nV (hs.map fun _ => 0)))) x (.ins C dx (putF "done" (.ref d) [("ranks", .ref r), ("comes", .ref c), ("steps", .ref st)])) = H4
  intro hx4 sm4 hd4
  walk_at "rd"
  refine rd_af hx4 TC.cl TC.n_tick (by show 4 < 1000; decide) ?_
  have hx5 : upd H4 x (.ins C dx (putF "tick" (.int 0) [("ranks", .ref r), ("comes", .ref c), ("steps", .ref st), ("done", .ref d)])) x = some (.ins C dx [("ranks", .ref r), ("comes", .ref c), ("steps", .ref st), ("done", .ref d), ("tick", .int 0)]) := upd_same
  have sm5 := sm4.updF (o := .ins C dx (putF "tick" (.int 0) [("ranks", .ref r), ("comes", .ref c), ("steps", .ref st), ("done", .ref d)])) yx3
  have hd5 : upd H4 x (.ins C dx (putF "tick" (.int 0) [("ranks", .ref r), ("comes", .ref c), ("steps", .ref st), ("done", .ref d)])) d = some (.lst (nV (hs.map fun _ => 0))) := by rw [upd_ne dx4]; exact hd4
  revert hx5 sm5 hd5
  generalize upd H4 x (.ins C dx (putF "tick" (.int 0) [("ranks", .ref r), ("comes", .ref c), ("steps", .ref st), ("done", .ref d)])) = H5
  intro hx5 sm5 hd5
  walk_at "rd"
  refine rd_tDNew fun hh fh => ?_
  obtain ⟨g6, hx6, sm6, hh6, yh, kp6⟩ := init_mut (gs := [("ranks", .ref r), ("comes", .ref c), ("steps", .ref st), ("done", .ref d), ("tick", .int 0), ("holders", .ref hh)]) (o := .dK []) hx5 sm5 yx3 fh
  have hd6 := kp6 d _ dx4 hd5
  have hhx : hh ≠ x := (ne_of_none hx5 fh).symm
  walk_at "rd"
  refine rd_af g6 TC.cl TC.n_holders (by show 5 < 1000; decide) ?_
  revert hx6 sm6 hh6 hd6
  show upd (upd H5 hh (.dK [])) x (.ins C dx (putF "holders" (.ref hh) [("ranks", .ref r), ("comes", .ref c), ("steps", .ref st), ("done", .ref d), ("tick", .int 0)])) x = _ -> Same _ (upd (upd H5 hh (.dK [])) x (.ins C dx (putF "holders" (.ref hh) [("ranks", .ref r), ("comes", .ref c), ("steps", .ref st), ("done", .ref d), ("tick", .int 0)]))) -> upd (upd H5 hh (.dK [])) x (.ins C dx (putF "holders" (.ref hh) [("ranks", .ref r), ("comes", .ref c), ("steps", .ref st), ("done", .ref d), ("tick", .int 0)])) hh = _ -> upd (upd H5 hh (.dK [])) x (.ins C dx (putF "holders" (.ref hh) [("ranks", .ref r), ("comes", .ref c), ("steps", .ref st), ("done", .ref d), ("tick", .int 0)])) d = _ -> _
  generalize upd (upd H5 hh (.dK [])) x (.ins C dx (putF "holders" (.ref hh) [("ranks", .ref r), ("comes", .ref c), ("steps", .ref st), ("done", .ref d), ("tick", .int 0)])) = H6
  intro hx6 sm6 hh6 hd6
  walk_at "rd"
  refine rd_tDNew fun ww fw => ?_
  obtain ⟨g7, hx7, sm7, hw7, yw, kp7⟩ := init_mut (gs := [("ranks", .ref r), ("comes", .ref c), ("steps", .ref st), ("done", .ref d), ("tick", .int 0), ("holders", .ref hh), ("wanted", .ref ww)]) (o := .dK []) hx6 sm6 yx3 fw
  have hd7 := kp7 d _ dx4 hd6
  have hh7 := kp7 hh _ hhx hh6
  have hwx : ww ≠ x := (ne_of_none hx6 fw).symm
  have nhw : hh ≠ ww := ne_of_none hh6 fw
  walk_at "rd"
  refine rd_af g7 TC.cl TC.n_wanted (by show 6 < 1000; decide) ?_
  revert hx7 sm7 hw7 hd7 hh7
  show upd (upd H6 ww (.dK [])) x (.ins C dx (putF "wanted" (.ref ww) [("ranks", .ref r), ("comes", .ref c), ("steps", .ref st), ("done", .ref d), ("tick", .int 0), ("holders", .ref hh)])) x = _ -> Same _ (upd (upd H6 ww (.dK [])) x (.ins C dx (putF "wanted" (.ref ww) [("ranks", .ref r), ("comes", .ref c), ("steps", .ref st), ("done", .ref d), ("tick", .int 0), ("holders", .ref hh)]))) -> upd (upd H6 ww (.dK [])) x (.ins C dx (putF "wanted" (.ref ww) [("ranks", .ref r), ("comes", .ref c), ("steps", .ref st), ("done", .ref d), ("tick", .int 0), ("holders", .ref hh)])) ww = _ -> upd (upd H6 ww (.dK [])) x (.ins C dx (putF "wanted" (.ref ww) [("ranks", .ref r), ("comes", .ref c), ("steps", .ref st), ("done", .ref d), ("tick", .int 0), ("holders", .ref hh)])) d = _ -> upd (upd H6 ww (.dK [])) x (.ins C dx (putF "wanted" (.ref ww) [("ranks", .ref r), ("comes", .ref c), ("steps", .ref st), ("done", .ref d), ("tick", .int 0), ("holders", .ref hh)])) hh = _ -> _
  generalize upd (upd H6 ww (.dK [])) x (.ins C dx (putF "wanted" (.ref ww) [("ranks", .ref r), ("comes", .ref c), ("steps", .ref st), ("done", .ref d), ("tick", .int 0), ("holders", .ref hh)])) = H7
  intro hx7 sm7 hw7 hd7 hh7
  walk_at "rd"
  refine ⟨Nat.zero_le _, fun l fl0 => ?_⟩
  obtain ⟨g8, hx8, sm8, hl8, yl, kp8⟩ := init_mut (gs := [("ranks", .ref r), ("comes", .ref c), ("steps", .ref st), ("done", .ref d), ("tick", .int 0), ("holders", .ref hh), ("wanted", .ref ww), ("held", .ref l)]) (o := .lst []) hx7 sm7 yx3 fl0
  have hd8 := kp8 d _ dx4 hd7
  have hh8 := kp8 hh _ hhx hh7
  have hw8 := kp8 ww _ hwx hw7
  have hlx : l ≠ x := (ne_of_none hx7 fl0).symm
  have ndl : d ≠ l := ne_of_none hd7 fl0
  walk_at "rd"
  refine rd_af g8 TC.cl TC.n_held (by show 7 < 1000; decide) ?_
  revert hx8 sm8 hl8 hd8 hh8 hw8
  show upd (upd H7 l (.lst [])) x (.ins C dx (putF "held" (.ref l) [("ranks", .ref r), ("comes", .ref c), ("steps", .ref st), ("done", .ref d), ("tick", .int 0), ("holders", .ref hh), ("wanted", .ref ww)])) x = _ -> Same _ (upd (upd H7 l (.lst [])) x (.ins C dx (putF "held" (.ref l) [("ranks", .ref r), ("comes", .ref c), ("steps", .ref st), ("done", .ref d), ("tick", .int 0), ("holders", .ref hh), ("wanted", .ref ww)]))) -> upd (upd H7 l (.lst [])) x (.ins C dx (putF "held" (.ref l) [("ranks", .ref r), ("comes", .ref c), ("steps", .ref st), ("done", .ref d), ("tick", .int 0), ("holders", .ref hh), ("wanted", .ref ww)])) l = _ -> upd (upd H7 l (.lst [])) x (.ins C dx (putF "held" (.ref l) [("ranks", .ref r), ("comes", .ref c), ("steps", .ref st), ("done", .ref d), ("tick", .int 0), ("holders", .ref hh), ("wanted", .ref ww)])) d = _ -> upd (upd H7 l (.lst [])) x (.ins C dx (putF "held" (.ref l) [("ranks", .ref r), ("comes", .ref c), ("steps", .ref st), ("done", .ref d), ("tick", .int 0), ("holders", .ref hh), ("wanted", .ref ww)])) hh = _ -> upd (upd H7 l (.lst [])) x (.ins C dx (putF "held" (.ref l) [("ranks", .ref r), ("comes", .ref c), ("steps", .ref st), ("done", .ref d), ("tick", .int 0), ("holders", .ref hh), ("wanted", .ref ww)])) ww = _ -> _
  generalize upd (upd H7 l (.lst [])) x (.ins C dx (putF "held" (.ref l) [("ranks", .ref r), ("comes", .ref c), ("steps", .ref st), ("done", .ref d), ("tick", .int 0), ("holders", .ref hh), ("wanted", .ref ww)])) = H8
  intro hx8 sm8 hl8 hd8 hh8 hw8
  have pst3 : Paired (StepsV Y3) acc (hs.map (·.steps)) := Paired.mapP pst fun _ _ k => k.same sy03
  walk_at "rd"
  refine rd_lenL (.of (sm8 _ _ (sy03 _ _ hy))) ?_
  rw [ly]
  walk_at "rd"
  refine comp_rng (n := hs.length) (fun n acc H' => acc = nV ((List.range n).filter fun i => decide (stepsOf hs i ≠ [])) /\ H' = H8) (by rw [sizeLine_eq]; lia) ⟨rfl, rfl⟩ ?_ ?_
  · rintro n acc3 H' hn ⟨rfl, rfl⟩
    rw [show (0 : Int) + (n : Int) = (n : Int) by lia]
    walk_at "rd"
    refine rd_m hx8 rfl ?_
    walk_at "rd"
    refine ⟨x, dx, d, st, _, hs.map (fun _ => 0), acc, hs.map (·.steps), n, rfl, hx8, rfl, rfl, hd8, sm8 _ _ hs3, Paired.mapP pst3 fun _ _ k => k.same sm8, by simpa using hn, by simpa using hn, ?_⟩
    rw [zeros]
    walk_at "rd"
    by_cases e : stepsOf hs n = []
    · have e1 : ((hs.map (·.steps)).getD n []).length = 0 := by show (stepsOf hs n).length = 0; rw [e]; rfl
      refine iteN (by rw [e1]; simp) ?_
      refine ⟨?_, rfl⟩
      rw [List.range_succ, List.filter_append, List.filter_cons_of_neg (by simpa using e), List.filter_nil, List.append_nil]
    · have e1 : 0 ≠ ((hs.map (·.steps)).getD n []).length := fun z => e (List.length_eq_zero_iff.mp z.symm)
      refine iteP (by rw [decide_eq_false e1]; rfl) ?_
      walk_at "rd"
      refine ⟨?_, rfl⟩
      rw [List.range_succ, List.filter_append, List.filter_cons_of_pos (by simpa using e), List.filter_nil, nV_snoc]
  · rintro acc3 H' ⟨rfl, rfl⟩ g fg
    obtain ⟨g9, hx9, sm9, hg9, yg, kp9⟩ := init_mut (gs := [("ranks", .ref r), ("comes", .ref c), ("steps", .ref st), ("done", .ref d), ("tick", .int 0), ("holders", .ref hh), ("wanted", .ref ww), ("held", .ref l), ("going", .ref g)]) (o := .lst (nV ((List.range hs.length).filter fun i => decide (stepsOf hs i ≠ [])))) hx8 sm8 yx3 fg
    walk_at "rd"
    refine rd_af g9 TC.cl TC.n_going (by show 8 < 1000; decide) ?_
    refine q Y3 Y3 _ ⟨dx, r, c, st, d, hh, ww, l, g⟩ sy03 ?_
    exact ⟨hx9, sy3 _ _ (sy2 _ _ hr1), sy3 _ _ hc2, ⟨acc, hs3, pst3⟩, kp9 d _ dx4 hd8, kp9 hh _ hhx hh8, kp9 ww _ hwx hw8, ⟨[], kp9 l _ hlx hl8, .nil⟩, hg9, Same.refl _, sm9, yx3, yd, yh, yw, yl, yg, ndl, ne_of_none hd8 fg, ne_of_none hl8 fg, nhw⟩
theorem sc_begin : FnScope ["hands"] ["hands"] (defScope s_begin) := ⟨rfl, rfl, rfl, by decide +kernel, rfl, by decide +kernel, by decide +kernel⟩
theorem ok_begin (F : Fun K "begin" "begin" s_begin f fd) (T : Txt mg) (TC : TxtC K w mg C) (G_refuse_wrong : Cal P w K mg base "refuse_wrong" ["hands"] 2 (sp_refuse_wrong K)) (G_Floor___init__ : CalI P w K mg base C "Floor" ["self", "hands"] 2 (sp_Floor___init__ K C)) : FnOk P w K mg base CX0 4 f fd ["hands"] (sp_begin K C) := by
  refine F.okQ sc_begin (fun vs H Q E h => ?_) (fun cdv A outer s H E hr => ?_)
  · obtain ⟨a, hs, rfl, _⟩ := h
    rfl
  have hU := room200 hr
  refine ⟨_, (qss_cons (qs_expr (qe_callC G_refuse_wrong hr.up (qa_cons (qv 0) qa_nil)))
      (qss_one (qs_ret (qe_make G_Floor___init__ hr.up (qa_cons (qv 0) qa_nil))))), fun vs Q h => ?_⟩
  obtain ⟨a, hs, rfl, ha, hcm, h60, q⟩ := h
  refine st_eq (σ := [some _]) rfl ?_
  walk_at "rd"
  refine ⟨a, hs, rfl, ha, hcm, fun H1 s1 => ?_⟩
  walk_at "rd"
  intro x dx fx fdx ne
  have s2 : Same H1 (upd (upd H1 dx (.own x)) x (.ins C dx [])) := ((Same.refl H1).updF fdx).updF fx
  exact ⟨x, a, dx, hs, H1, rfl, upd_same, fx, ha.same s1, s2, h60, fun S Y H2 A sS fl => ⟨rfl, q x S Y H2 A (s1.trans sS) fl⟩⟩
theorem sc_pages_of : FnScope ["hands", "floor", "pages", "chain"] ["hands"] (defScope s_pages_of) := ⟨rfl, rfl, rfl, by decide +kernel, rfl, by decide +kernel, by decide +kernel⟩
theorem ok_pages_of (F : Fun K "pages_of" "pages_of" s_pages_of f fd) (T : Txt mg) (TC : TxtC K w mg C) (G_begin : Cal P w K mg base "begin" ["hands"] 4 (sp_begin K C)) (G_Floor_find_chain : CalM P w K mg base C "find_chain" ["self"] 3 (sp_Floor_find_chain K C)) (G_Floor_show_page : CalM P w K mg base C "show_page" ["self", "chain"] 1 (sp_Floor_show_page K C)) (G_Floor_pass_tick : CalM P w K mg base C "pass_tick" ["self", "chain"] 7 (sp_Floor_pass_tick K C)) : FnOk P w K mg base CX0 8 f fd ["hands"] (sp_pages_of K C) := by
  refine F.okQ sc_pages_of (fun vs H Q E h => ?_) (fun cdv A outer s H E hr => ?_)
  · obtain ⟨a, hs, rfl, _⟩ := h
    rfl
  have hU := room200 hr
  refine ⟨_, (qss_cons (qs_set 1 sc_pages_of.nd (qe_callC G_begin hr.up (qa_cons (qv 0) qa_nil)))
      (qss_cons (qs_set 2 sc_pages_of.nd (qe_lst qa_nil))
      (qss_cons (qs_while (qt_cmp qo_gt (qe_callB (qc_len K) T.b_len bt_len (qa_cons (qe_fld K (qv 1)) qa_nil)) qe_int (nomark _)) (qss_cons (qs_set 3 sc_pages_of.nd (qe_meth0 G_Floor_find_chain hr.up (qv 1)))
      (qss_cons (qs_expr (qe_bm K PySem.F.plainAttrs_list PySem.F.slot_list_append PySem.F.type_list_append qm_append (qv 2) (qa_cons (qe_meth G_Floor_show_page hr.up (qv 1) (qa_cons (qv 3) qa_nil)) qa_nil)))
      (qss_one (qs_expr (qe_meth G_Floor_pass_tick hr.up (qv 1) (qa_cons (qv 3) qa_nil)))))))
      (qss_cons (qs_expr (qe_bm K PySem.F.plainAttrs_list PySem.F.slot_list_append PySem.F.type_list_append qm_append (qv 2) (qa_cons (qe_meth G_Floor_show_page hr.up (qv 1) (qa_cons (qe_lst qa_nil) qa_nil)) qa_nil)))
      (qss_one (qs_ret (qv 2))))))), fun vs Q h => ?_⟩
  obtain ⟨a, hs, rfl, ha, hcm, sml, q⟩ := h
  refine st_eq (σ := [some _, none, none, none]) rfl ?_
  have h60 := sml.n
  walk_at "rd"
  refine ⟨a, hs, rfl, ha, hcm, h60, fun x S Y0 H1 A0 sS fl0 => ?_⟩
  walk_at "rd"
  refine ⟨Nat.zero_le _, fun pa fp => ?_⟩
  obtain ⟨fl1, sy1⟩ := fl0.new (o := .lst []) fp
  have hpa : upd Y0 pa (.lst []) pa = some (.lst []) := upd_same
  have Spa : S pa = none := fl0.SH.free fp
  have Hpa : H pa = none := sS.free Spa
  have sHY := sS.trans (fl0.ss.trans sy1)
  revert fl1 hpa sHY
  generalize upd H1 pa (.lst []) = H2
  generalize upd Y0 pa (.lst []) = Y1
  intro fl1 hpa sHY
  walk_at "rd"
  refine ⟨PagesI C hs S H a x pa, ⟨_, Y1, A0, 0, [], [], none, rfl, fl1, sHY, hpa, .nil, rfl, fun k z => by lia, fun k z => by lia, rfl, by lia⟩, ?_⟩
  rintro m σ H3 ⟨Y, A, n, ys, pgs, v, rfl, fl, sH, hp, pp, ln, all, on, rfl, bnd⟩
  have gd := dayAt_ok hs n
  obtain ⟨G, o⟩ := id gd
  have lys := Paired.length pp
  walk_at "rd"
  refine rd_f fl.ob TC.cl TC.n_going rfl ?_
  walk_at "rd"
  refine rd_lenL (.of fl.gg) ?_
  rw [List.length_map]
  walk_at "rd"
  by_cases hg : (dayAt hs n).going = []
  · refine iteN (by rw [hg]; simp) ?_
    walk_at "rd"
    refine rd_tyL (.of (fl.sm _ _ hp)) ?_
    walk_at "rd"
    refine rd_m fl.ob rfl ?_
    walk_at "rd"
    refine ⟨Nat.zero_le _, fun pc fpc => ?_⟩
    obtain ⟨fl2, sy2⟩ := fl.new (o := .lst []) fpc
    have hc2 : upd H3 pc (.lst []) pc = some (.lst (([] : List Int).map V.int)) := upd_same
    revert fl2 sy2 hc2
    generalize upd H3 pc (.lst []) = H4
    generalize upd Y pc (.lst []) = Y2
    intro fl2 sy2 hc2
    walk_at "rd"
    refine ⟨x, pc, hs, S, Y2, dayAt hs n, A, [], rfl, fl2, sml, gd, hc2, by simp, fun vp Y3 H5 pg sy3 fl3 pgo px => ?_⟩
    have hp3 := sy3 _ _ (sy2 _ _ hp)
    walk_at "rd"
    refine rd_append (fl3.sm _ _ hp3) (by rw [sizeLine_eq]; have := mu_small sml; lia) ?_
    have fl4 := fl3.mut (new := ys ++ [vp]) hp3 Spa
    have pp3 : Paired (PageX pa Y3) ys pgs := Paired.mapP pp fun _ _ k => k.same (sy2.trans sy3)
    have px3 := px pa _ (sy2 _ _ hp)
    walk_at "rd"
    have chn : chain hs (dayAt hs n) = [] := (chain_nil o.core.wf).mpr (by unfold here; rw [hg]; rfl)
    refine q pa (ys ++ [vp]) (pgs ++ [pg]) n _ (fun b u z => ?_) Hpa upd_same ?_ ⟨by simp [ln], fun k hk => ?_, on, hg⟩
    · have nb : b ≠ pa := fun w => by rw [w, Hpa] at z; cases z
      rw [upd_ne nb]
      exact fl3.sm _ _ (sy3 _ _ (sy2 _ _ (sH _ _ z)))
    · have pl : Paired (PageX pa (upd Y3 pa (.lst (ys ++ [vp])))) (ys ++ [vp]) (pgs ++ [pg]) := Paired.app (Paired.mapP pp3 fun _ _ k => k.mut hp3) (.cons (px3.mut hp3) .nil)
      exact Paired.mapP pl fun _ _ k => k.same fl4.sm
    · by_cases e : k = n
      · subst e
        refine ⟨pg, by rw [List.getElem?_append_right (by lia), ln, Nat.sub_self]; rfl, ?_⟩
        rw [chn]
        exact pgo
      · obtain ⟨pg', h1, h2⟩ := all k (by lia)
        exact ⟨pg', by rw [List.getElem?_append_left (by lia)]; exact h1, h2⟩
  · refine iteP (by
      have : (dayAt hs n).going.length ≠ 0 := fun z => hg (List.length_eq_zero_iff.mp z)
      simp
      lia) ?_
    have dec := mu_lt gd hg
    refine ⟨fun σ' H' => ∃ m', m' < mu hs (dayAt hs n) /\ PagesI C hs S H a x pa m' σ' H', fun σ' H' z => z, ?_⟩
    walk_at "rd"
    refine rd_m fl.ob rfl ?_
    walk_at "rd"
    refine ⟨x, hs, S, Y, dayAt hs n, A, rfl, fl, sml, gd, fun pc Y2 H4 sy2 ypc fl2 hc2 => ?_⟩
    walk_at "rd"
    refine rd_tyL (.of (fl2.sm _ _ (sy2 _ _ hp))) ?_
    walk_at "rd"
    refine rd_m fl2.ob rfl ?_
    walk_at "rd"
    have chl : (chain hs (dayAt hs n)).length <= 1000 := by
      unfold chain
      have wl := o.core.wantLen
      cases fm (ranksOf hs) (here hs (dayAt hs n)) with
      | none => simp
      | some f =>
        have := row_len o.core.wf (f : Int)
        show (rowFrom _ _ _).length <= _
        lia
    refine ⟨x, pc, hs, S, Y2, dayAt hs n, A, chain hs (dayAt hs n), rfl, fl2, sml, gd, fl2.sm _ _ hc2, chl, fun vp Y3 H5 pg sy3 fl3 pgo px => ?_⟩
    have hp3 := sy3 _ _ (sy2 _ _ hp)
    have npc : pc ≠ pa := fun z => by rw [z, hp] at ypc; cases ypc
    walk_at "rd"
    refine rd_append (fl3.sm _ _ hp3) (by rw [sizeLine_eq]; have := mu_small sml; lia) ?_
    have fl4 := fl3.mut (new := ys ++ [vp]) hp3 Spa
    have pp3 : Paired (PageX pa Y3) ys pgs := Paired.mapP pp fun _ _ k => k.same (sy2.trans sy3)
    have px3 := px pa _ (sy2 _ _ hp)
    have pl : Paired (PageX pa (upd Y3 pa (.lst (ys ++ [vp])))) (ys ++ [vp]) (pgs ++ [pg]) := Paired.app (Paired.mapP pp3 fun _ _ k => k.mut hp3) (.cons (px3.mut hp3) .nil)
    have hc4 : upd Y3 pa (.lst (ys ++ [vp])) pc = some (.lst ((chain hs (dayAt hs n)).map V.int)) := by rw [upd_ne npc]; exact sy3 _ _ hc2
    have hp4 : upd Y3 pa (.lst (ys ++ [vp])) pa = some (.lst (ys ++ [vp])) := upd_same
    have sH4 : Same H (upd Y3 pa (.lst (ys ++ [vp]))) := fun b u z => by
      have nb : b ≠ pa := fun w => by rw [w, Hpa] at z; cases z
      rw [upd_ne nb]
      exact sy3 _ _ (sy2 _ _ (sH _ _ z))
    revert fl4 pl hc4 hp4 sH4
    generalize upd H5 pa (.lst (ys ++ [vp])) = H6
    generalize upd Y3 pa (.lst (ys ++ [vp])) = Y4
    intro fl4 pl hc4 hp4 sH4
    walk_at "rd"
    refine rd_m fl4.ob rfl ?_
    walk_at "rd"
    refine ⟨x, pc, hs, S, Y4, dayAt hs n, A, rfl, fl4, sml, gd, hc4, fun pe Y5 H7 A5 sy5 fl5 he => ?_⟩
    walk_at "rd"
    refine ⟨mu hs (dayAt hs (n + 1)), dec, Y5, A5, n + 1, ys ++ [vp], pgs ++ [pg], _, rfl, fl5, sH4.trans sy5, sy5 _ _ hp4, Paired.mapP pl fun _ _ k => k.same sy5, by simp [ln], fun k hk => ?_, fun k hk => ?_, rfl, ?_⟩
    · by_cases e : k = n
      · subst e
        exact ⟨pg, by rw [List.getElem?_append_right (by lia), ln, Nat.sub_self]; rfl, pgo⟩
      · obtain ⟨pg', h1, h2⟩ := all k (by lia)
        exact ⟨pg', by rw [List.getElem?_append_left (by lia)]; exact h1, h2⟩
    · by_cases e : k = n
      · subst e; exact hg
      · exact on k (by lia)
    · have dec : mu hs (dayAt hs (n + 1)) < mu hs (dayAt hs n) := dec
      lia
theorem sc_diary : FnScope ["hands", "floor", "entries"] ["hands"] (defScope s_diary) := ⟨rfl, rfl, rfl, by decide +kernel, rfl, by decide +kernel, by decide +kernel⟩
theorem ok_diary (F : Fun K "diary" "diary" s_diary f fd) (T : Txt mg) (TC : TxtC K w mg C) (G_begin : Cal P w K mg base "begin" ["hands"] 4 (sp_begin K C)) (G_Floor_find_chain : CalM P w K mg base C "find_chain" ["self"] 3 (sp_Floor_find_chain K C)) (G_Floor_pass_tick : CalM P w K mg base C "pass_tick" ["self", "chain"] 7 (sp_Floor_pass_tick K C)) : FnOk P w K mg base CX0 8 f fd ["hands"] (sp_diary K C) := by
  refine F.okQ sc_diary (fun vs H Q E h => ?_) (fun cdv A outer s H E hr => ?_)
  · obtain ⟨a, hs, rfl, _⟩ := h
    rfl
  have hU := room200 hr
  refine ⟨_, (qss_cons (qs_set 1 sc_diary.nd (qe_callC G_begin hr.up (qa_cons (qv 0) qa_nil)))
      (qss_cons (qs_set 2 sc_diary.nd (qe_lst qa_nil))
      (qss_cons (qs_while (qt_cmp qo_gt (qe_callB (qc_len K) T.b_len bt_len (qa_cons (qe_fld K (qv 1)) qa_nil)) qe_int (nomark _)) (qss_one (qs_expr (qe_bm K PySem.F.plainAttrs_list PySem.F.slot_list_append PySem.F.type_list_append qm_append (qv 2) (qa_cons (qe_meth G_Floor_pass_tick hr.up (qv 1) (qa_cons (qe_meth0 G_Floor_find_chain hr.up (qv 1)) qa_nil)) qa_nil)))))
      (qss_one (qs_ret (qv 2)))))), fun vs Q h => ?_⟩
  obtain ⟨a, hs, rfl, ha, hcm, sml, q⟩ := h
  refine st_eq (σ := [some _, none, none]) rfl ?_
  have h60 := sml.n
  walk_at "rd"
  refine ⟨a, hs, rfl, ha, hcm, h60, fun x S Y0 H1 A0 sS fl0 => ?_⟩
  walk_at "rd"
  refine ⟨Nat.zero_le _, fun pa fp => ?_⟩
  obtain ⟨fl1, sy1⟩ := fl0.new (o := .lst []) fp
  have hpa : upd Y0 pa (.lst []) pa = some (.lst []) := upd_same
  have Spa : S pa = none := fl0.SH.free fp
  have Hpa : H pa = none := sS.free Spa
  have sHY := sS.trans (fl0.ss.trans sy1)
  revert fl1 hpa sHY
  generalize upd H1 pa (.lst []) = H2
  generalize upd Y0 pa (.lst []) = Y1
  intro fl1 hpa sHY
  walk_at "rd"
  refine ⟨DiaryI C hs S H a x pa, ⟨_, Y1, A0, 0, [], rfl, fl1, sHY, hpa, rfl, fun k z => by lia, fun k z => by lia, rfl, by lia⟩, ?_⟩
  rintro m σ H3 ⟨Y, A, n, ys, rfl, fl, sH, hp, ln, all, on, rfl, bnd⟩
  have gd := dayAt_ok hs n
  obtain ⟨G, o⟩ := id gd
  walk_at "rd"
  refine rd_f fl.ob TC.cl TC.n_going rfl ?_
  walk_at "rd"
  refine rd_lenL (.of fl.gg) ?_
  rw [List.length_map]
  walk_at "rd"
  by_cases hg : (dayAt hs n).going = []
  · refine iteN (by rw [hg]; simp) ?_
    walk_at "rd"
    exact q pa ys n H3 (sH.trans fl.sm) Hpa (fl.sm _ _ hp) ln (fun k hk => let ⟨b, h1, h2⟩ := all k hk; ⟨b, h1, fl.sm _ _ h2⟩) on hg
  · refine iteP (by
      have : (dayAt hs n).going.length ≠ 0 := fun z => hg (List.length_eq_zero_iff.mp z)
      simp
      lia) ?_
    have dec := mu_lt gd hg
    refine ⟨fun σ' H' => ∃ m', m' < mu hs (dayAt hs n) /\ DiaryI C hs S H a x pa m' σ' H', fun σ' H' z => z, ?_⟩
    walk_at "rd"
    refine rd_tyL (.of (fl.sm _ _ hp)) ?_
    walk_at "rd"
    refine rd_m fl.ob rfl ?_
    walk_at "rd"
    refine rd_m fl.ob rfl ?_
    walk_at "rd"
    refine ⟨x, hs, S, Y, dayAt hs n, A, rfl, fl, sml, gd, fun pc Y2 H4 sy2 ypc fl2 hc2 => ?_⟩
    walk_at "rd"
    refine ⟨x, pc, hs, S, Y2, dayAt hs n, A, rfl, fl2, sml, gd, hc2, fun pe Y5 H7 A5 sy5 fl5 he => ?_⟩
    have hp5 := sy5 _ _ (sy2 _ _ hp)
    walk_at "rd"
    refine rd_append (fl5.sm _ _ hp5) (by rw [sizeLine_eq]; have := mu_small sml; lia) ?_
    have fl6 := fl5.mut (new := ys ++ [.ref pe]) hp5 Spa
    have npe : pe ≠ pa := fun z => by rw [z, hp5] at he; cases he
    have dec : mu hs (dayAt hs (n + 1)) < mu hs (dayAt hs n) := dec
    refine ⟨mu hs (dayAt hs (n + 1)), dec, _, A5, n + 1, ys ++ [.ref pe], rfl, fl6, fun b u z => ?_, upd_same, by simp [ln], fun k hk => ?_, fun k hk => ?_, rfl, by lia⟩
    · have nb : b ≠ pa := fun w => by rw [w, Hpa] at z; cases z
      rw [upd_ne nb]
      exact sy5 _ _ (sy2 _ _ (sH _ _ z))
    · by_cases e : k = n
      · subst e
        exact ⟨pe, by rw [List.getElem?_append_right (by lia), ln, Nat.sub_self]; rfl, by rw [upd_ne npe]; exact he⟩
      · obtain ⟨b, h1, h2⟩ := all k (by lia)
        have nb : b ≠ pa := fun w => by rw [w, hp] at h2; cases h2
        exact ⟨b, by rw [List.getElem?_append_left (by lia)]; exact h1, by rw [upd_ne nb]; exact sy5 _ _ (sy2 _ _ h2)⟩
    · by_cases e : k = n
      · subst e; exact hg
      · exact on k (by lia)
theorem sc_rings : FnScope ["hands", "floor"] ["hands"] (defScope s_rings) := ⟨rfl, rfl, rfl, by decide +kernel, rfl, by decide +kernel, by decide +kernel⟩
theorem ok_rings (F : Fun K "rings" "rings" s_rings f fd) (T : Txt mg) (TC : TxtC K w mg C) (G_begin : Cal P w K mg base "begin" ["hands"] 4 (sp_begin K C)) (G_Floor_find_chain : CalM P w K mg base C "find_chain" ["self"] 3 (sp_Floor_find_chain K C)) (G_Floor_pass_tick : CalM P w K mg base C "pass_tick" ["self", "chain"] 7 (sp_Floor_pass_tick K C)) (G_Floor_find_rings : CalM P w K mg base C "find_rings" ["self"] 4 (sp_Floor_find_rings K C)) : FnOk P w K mg base CX0 8 f fd ["hands"] (sp_rings K C) := by
  refine F.okQ sc_rings (fun vs H Q E h => ?_) (fun cdv A outer s H E hr => ?_)
  · obtain ⟨a, hs, rfl, _⟩ := h
    rfl
  have hU := room200 hr
  refine ⟨_, (qss_cons (qs_set 1 sc_rings.nd (qe_callC G_begin hr.up (qa_cons (qv 0) qa_nil)))
      (qss_cons (qs_while (qt_cmp qo_gt (qe_callB (qc_len K) T.b_len bt_len (qa_cons (qe_fld K (qv 1)) qa_nil)) qe_int (nomark _)) (qss_one (qs_expr (qe_meth G_Floor_pass_tick hr.up (qv 1) (qa_cons (qe_meth0 G_Floor_find_chain hr.up (qv 1)) qa_nil)))))
      (qss_one (qs_ret (qe_meth0 G_Floor_find_rings hr.up (qv 1)))))), fun vs Q h => ?_⟩
  obtain ⟨a, hs, rfl, ha, hcm, sml, q⟩ := h
  refine st_eq (σ := [some _, none]) rfl ?_
  have h60 := sml.n
  walk_at "rd"
  refine ⟨a, hs, rfl, ha, hcm, h60, fun x S Y0 H1 A0 sS fl0 => ?_⟩
  walk_at "rd"
  refine ⟨RingsI C hs S H a x, ⟨_, Y0, A0, 0, rfl, fl0, sS.trans fl0.ss, fun k z => by lia, rfl⟩, ?_⟩
  rintro m σ H3 ⟨Y, A, n, rfl, fl, sH, on, rfl⟩
  have gd := dayAt_ok hs n
  walk_at "rd"
  refine rd_f fl.ob TC.cl TC.n_going rfl ?_
  walk_at "rd"
  refine rd_lenL (.of fl.gg) ?_
  rw [List.length_map]
  walk_at "rd"
  by_cases hg : (dayAt hs n).going = []
  · refine iteN (by rw [hg]; simp) ?_
    walk_at "rd"
    refine rd_m fl.ob rfl ?_
    walk_at "rd"
    refine ⟨x, hs, S, Y, dayAt hs n, A, rfl, fl, sml, gd, fun p ys Ls H4 s4 hp pr ok => ?_⟩
    exact q p ys Ls n H4 ((sH.trans fl.sm).trans s4) hp pr ok on hg
  · refine iteP (by
      have : (dayAt hs n).going.length ≠ 0 := fun z => hg (List.length_eq_zero_iff.mp z)
      simp
      lia) ?_
    have dec : mu hs (dayAt hs (n + 1)) < mu hs (dayAt hs n) := mu_lt gd hg
    refine ⟨fun σ' H' => ∃ m', m' < mu hs (dayAt hs n) /\ RingsI C hs S H a x m' σ' H', fun σ' H' z => z, ?_⟩
    walk_at "rd"
    refine rd_m fl.ob rfl ?_
    walk_at "rd"
    refine rd_m fl.ob rfl ?_
    walk_at "rd"
    refine ⟨x, hs, S, Y, dayAt hs n, A, rfl, fl, sml, gd, fun pc Y2 H4 sy2 ypc fl2 hc2 => ?_⟩
    walk_at "rd"
    refine ⟨x, pc, hs, S, Y2, dayAt hs n, A, rfl, fl2, sml, gd, hc2, fun pe Y5 H7 A5 sy5 fl5 he => ?_⟩
    walk_at "rd"
    refine ⟨mu hs (dayAt hs (n + 1)), dec, Y5, A5, n + 1, rfl, fl5, sH.trans (sy2.trans sy5), fun k hk => ?_, rfl⟩
    by_cases e : k = n
    · subst e; exact hg
    · exact on k (by lia)
theorem ok_is_step_g {P : Program} {w : World} {K : PySem.W.Frag} {mg : Str -> Option Value} {base : Heap} {f : Addr} {fd : FuncData} {C : Addr} (F : Fun K "is_step" "is_step" s_is_step f fd) (T : Txt mg) (TC : TxtC K w mg C) : FnOk P w K mg base CX0 1 f fd ["step"] (sp_is_step_g K) := by
  refine F.okQ sc_is_step (fun vs H Q E h => ?_) (fun cdv A outer s H E hr => ?_)
  · obtain ⟨b, s, rfl, _⟩ := h
    rfl
  have hU := room200 hr
  refine ⟨_, (qss_one (qs_ret (qe_and (qe_cmp qo_gt (qe_callB (qc_len K) T.b_len bt_len (qa_cons (qv 0) qa_nil)) qe_int (nomark _)) (qe_one (qe_cmp (qo_eq K hU) (qe_callB (qc_len K) T.b_len bt_len (qa_cons (qv 0) qa_nil)) (qe_kdget1 hU TC.k_PARTS (qe_ix K (qv 0) qe_int (fun _ _ => rfl))) (nomark _)))))), fun vs Q h => ?_⟩
  obtain ⟨b, s, rfl, hb, q⟩ := h
  refine st_eq (σ := [some _]) rfl ?_
  walk_at "rd"
  refine rd_lenT (.of hb) ?_
  walk_at "rd"
  refine iteP (by simp [rsL]) ?_
  walk_at "rd"
  refine rd_lenT (.of hb) ?_
  walk_at "rd"
  refine rd_ixT (.of hb) (atI_0 s) ?_
  refine ⟨Sum.inr s.1, rfl, ?_⟩
  have q2 : Q (.bl (decide (V.int ((rsL s).length : Nat) = (valV partsK (Sum.inr s.1)).getD .non))) H := q
  revert q2
  rcases parts_any s.1 with e | ⟨k, e⟩
  · rw [e]
    intro q2
    walk_at "rd"
    exact q2
  · rw [e]
    intro q2
    walk_at "rd"
    exact q2
theorem ok_refuse_wrong_x {P : Program} {w : World} {K : PySem.W.Frag} {mg : Str -> Option Value} {base : Heap} {f : Addr} {fd : FuncData} {C1 C2 : Addr} (F : Fun K "refuse_wrong" "refuse_wrong" s_refuse_wrong f fd) (T : Txt mg) (TE : TxtE K mg base C1 C2) (G_is_step_g : Cal P w K mg base "is_step" ["step"] 1 (sp_is_step_g K)) : FnOk P w K mg base (CX1 P w) 2 f fd ["hands"] (sp_bad C1 C2) := by
  refine F.okX sc_refuse_wrong (fun vs H Q E h => ?_) (fun cdv A outer s H E hr => ?_)
  · obtain ⟨a, hs, D, rfl, _⟩ := h
    rfl
  have hU := room200 hr
  refine ⟨_, (qss_cons (qs_for (qi_enum K T.b_enumerate (qa_cons (qv 0) qa_nil)) (qg_tup K (qgs_cons (qg_name 1 sc_refuse_wrong.nd) (qgs_cons (qg_name 2 sc_refuse_wrong.nd) qgs_nil))) (qss_one (qs_if (qt_cmp qo_lt (qe_ix K (qv 2) qe_int (fun _ _ => rfl)) qe_int (nomark _)) (qss_one (qs_raise TE.o1 PySem.F.excBase_ValueError (qa_cons (qe_f3 (qv 1)) qa_nil))) qss_nil)) PassesOwn.leaving)
      (qss_one (qs_for (qi_enum K T.b_enumerate (qa_cons (qv 0) qa_nil)) (qg_tup K (qgs_cons (qg_name 1 sc_refuse_wrong.nd) (qgs_cons (qg_name 2 sc_refuse_wrong.nd) qgs_nil))) (qss_one (qs_for (qi_list K (qe_ix K (qv 2) qe_int (fun _ _ => rfl))) (qg_name 3 sc_refuse_wrong.nd) (qss_one (qs_if (qt_not (qt_tru K (qe_callC G_is_step_g (hr.mono (by decide)) (qa_cons (qv 3) qa_nil)) (fun _ => rfl))) (qss_one (qs_raise TE.o2 PySem.F.excBase_ValueError (qa_cons (qe_f3 (qv 1)) qa_nil))) qss_nil)) PassesOwn.leaving)) PassesOwn.leaving))), fun vs Q h => ?_⟩
  obtain ⟨a, hs, D, rfl, ha, h30, rf, q⟩ := h
  refine st_eq (σ := [some _, none, none, none]) rfl ?_
  obtain ⟨ys, hy, pr⟩ := ha
  have ly := Paired.length pr
  walk_at "rd"
  refine for_enm (xs := ys) (fun n σ H' => (∃ v1 v2, σ = [some (.ref a), v1, v2, none] /\ Same H H') /\ ∀ k h, k < n -> hs[k]? = some h -> 0 <= h.comes) ⟨⟨none, none, rfl, Same.refl H⟩, fun _ _ z => by lia⟩ (fun n σ H' _ ⟨⟨_, _, _, s⟩, _⟩ => s _ _ hy) ?_ ?_
  · rintro n y σ H1 p hn ⟨⟨v1, v2, rfl, s1⟩, al⟩ fp
    obtain ⟨h, hh, hv⟩ := Paired.get pr hn
    have s2 := s1.updF (o := .tup [.int n, y]) (s1.free fp)
    have hp : upd H1 p (.tup [.int n, y]) p = some (.tup [.int n, y]) := upd_same
    revert s2 hp
    generalize upd H1 p (.tup [.int n, y]) = H2
    intro s2 hp
    obtain ⟨b, v, rfl, hb, hst⟩ := hv.same s2
    have nlt : n < 40 := by have := (List.getElem?_eq_some_iff.mp hh).1; lia
    refine rd_gtup (.of hp) rfl ?_
    walk_at "rd"
    refine rd_ixT (.of hb) rfl ?_
    walk_at "rd"
    by_cases hc : h.comes < 0
    · refine iteP (by simpa using hc) ?_
      walk_at "rd"
      refine ⟨.int n, rfl, n, rfl, nlt, fun y => ?_⟩
      walk_at "rd"
      refine ⟨(by rw [sizeLine_eq]; show 1 <= _; lia), fun e => ?_⟩
      rcases rf with ⟨_, rfl⟩ | ⟨hge, _⟩
      · exact q e H2 s2
      · exact absurd (hge h (List.mem_of_getElem? hh)) (by lia)
    · refine iteN (by simpa using hc) ?_
      walk_at "rd"
      refine ⟨⟨_, _, rfl, s2⟩, fun k g hk hg => ?_⟩
      by_cases e : k = n
      · subst e; rw [hh] at hg; cases hg; lia
      · exact al k g (by lia) hg
  · rintro σ H1 ⟨⟨v1, v2, rfl, s1⟩, al⟩
    rcases rf with ⟨⟨h, hm, hc⟩, _⟩ | ⟨hge, ⟨hB, hm, sB, smm, sb⟩, rfl⟩
    · obtain ⟨k, hk⟩ := List.getElem?_of_mem hm
      exact absurd (al k h (by have := (List.getElem?_eq_some_iff.mp hk).1; lia) hk) (by lia)
    walk_at "rd"
    refine for_enm (xs := ys) (fun n σ H' => (∃ v1 v2 v3, σ = [some (.ref a), v1, v2, v3] /\ Same H H') /\ ∀ k h, k < n -> hs[k]? = some h -> ∀ s ∈ h.steps, okS s = true) ⟨⟨v1, v2, none, rfl, s1⟩, fun _ _ z => by lia⟩ (fun n σ H' _ ⟨⟨_, _, _, _, s⟩, _⟩ => s _ _ hy) ?_ ?_
    · rintro n y σ H2 p hn ⟨⟨v1, v2, v3, rfl, s2⟩, al2⟩ fp
      obtain ⟨h, hh, hv⟩ := Paired.get pr hn
      have nlt : n < 40 := by have := (List.getElem?_eq_some_iff.mp hh).1; lia
      have s3 := s2.updF (o := .tup [.int n, y]) (s2.free fp)
      have hp : upd H2 p (.tup [.int n, y]) p = some (.tup [.int n, y]) := upd_same
      revert s3 hp
      generalize upd H2 p (.tup [.int n, y]) = H3
      intro s3 hp
      obtain ⟨b, v, rfl, hb, b2, zs, rfl, hz, pz⟩ := hv.same s3
      refine rd_gtup (.of hp) rfl ?_
      walk_at "rd"
      refine rd_ixT (.of hb) rfl ?_
      refine for_lst (xs := zs) (fun k σ H' => (∃ v3, σ = [some (.ref a), some (.int n), some (.ref b), v3] /\ H' = H3) /\ ∀ j s, j < k -> h.steps[j]? = some s -> okS s = true) ⟨⟨v3, rfl, rfl⟩, fun _ _ z => by lia⟩ (fun k σ H' _ ⟨⟨_, _, e⟩, _⟩ => e ▸ .of hz) ?_ ?_
      · rintro k z σ H4 hk ⟨⟨v3, rfl, rfl⟩, al3⟩
        obtain ⟨st, hs2, bs, rfl, e5⟩ := Paired.get pz hk
        walk_at "rd"
        refine ⟨bs, st, rfl, e5, ?_⟩
        walk_at "rd"
        cases ho : okS st with
        | false =>
          refine iteP (by simp) ?_
          walk_at "rd"
          refine ⟨.int n, rfl, n, rfl, nlt, fun y => ?_⟩
          walk_at "rd"
          exact ⟨(by rw [sizeLine_eq]; show 1 <= _; lia), fun e => q e _ s3⟩
        | true =>
          refine iteN (by simp) ?_
          walk_at "rd"
          refine ⟨⟨_, rfl, rfl⟩, fun j s hj hg => ?_⟩
          by_cases e : j = k
          · subst e; rw [hs2] at hg; cases hg; exact ho
          · exact al3 j s (by lia) hg
      · rintro σ H4 ⟨⟨v3, rfl, rfl⟩, al3⟩
        refine ⟨⟨_, _, _, rfl, s3⟩, fun k g hk hg s hsm => ?_⟩
        by_cases e : k = n
        · subst e
          rw [hh] at hg; cases hg
          obtain ⟨j, hj⟩ := List.getElem?_of_mem hsm
          exact al3 j s (by have := (List.getElem?_eq_some_iff.mp hj).1; have := Paired.length pz; lia) hj
        · exact al2 k g (by lia) hg s hsm
    · rintro σ H2 ⟨⟨v1, v2, v3, rfl, s2⟩, al2⟩
      obtain ⟨k, hk⟩ := List.getElem?_of_mem hm
      have := al2 k hB (by have := (List.getElem?_eq_some_iff.mp hk).1; lia) hk sB smm
      rw [sb] at this; cases this
theorem ok_begin_x {P : Program} {w : World} {K : PySem.W.Frag} {mg : Str -> Option Value} {base : Heap} {f : Addr} {fd : FuncData} {C1 C2 : Addr} (F : Fun K "begin" "begin" s_begin f fd) (T : Txt mg) (TE : TxtE K mg base C1 C2) (G_refuse_wrong_x : Cal1 P w K mg base "refuse_wrong" ["hands"] 2 (sp_bad C1 C2)) : FnOk P w K mg base (CX1 P w) 4 f fd ["hands"] (sp_bad C1 C2) := by
  refine F.okX sc_begin (fun vs H Q E h => ?_) (fun cdv A outer s H E hr => ?_)
  · obtain ⟨a, hs, D, rfl, _⟩ := h
    rfl
  have hU := room200 hr
  refine ⟨_, (qss_cons (qs_expr (qe_callX G_refuse_wrong_x (hr.mono (by decide)) (qa_cons (qv 0) qa_nil))) qss_no), fun vs Q h => ?_⟩
  obtain ⟨a, hs, D, rfl, ha, h30, rf, q⟩ := h
  refine st_eq (σ := [some _]) rfl ?_
  walk_at "rd"
  exact ⟨a, hs, D, rfl, ha, h30, rf, q⟩
theorem ok_pages_of_x {P : Program} {w : World} {K : PySem.W.Frag} {mg : Str -> Option Value} {base : Heap} {f : Addr} {fd : FuncData} {C1 C2 : Addr} (F : Fun K "pages_of" "pages_of" s_pages_of f fd) (T : Txt mg) (TE : TxtE K mg base C1 C2) (G_begin_x : Cal1 P w K mg base "begin" ["hands"] 4 (sp_bad C1 C2)) : FnOk P w K mg base (CX1 P w) 8 f fd ["hands"] (sp_bad C1 C2) := by
  refine F.okX sc_pages_of (fun vs H Q E h => ?_) (fun cdv A outer s H E hr => ?_)
  · obtain ⟨a, hs, D, rfl, _⟩ := h
    rfl
  have hU := room200 hr
  refine ⟨_, (qss_cons (qs_set 1 sc_pages_of.nd (qe_callX G_begin_x (hr.mono (by decide)) (qa_cons (qv 0) qa_nil))) qss_no), fun vs Q h => ?_⟩
  obtain ⟨a, hs, D, rfl, ha, h30, rf, q⟩ := h
  refine st_eq (σ := [some _, none, none, none]) rfl ?_
  walk_at "rd"
  exact ⟨a, hs, D, rfl, ha, h30, rf, q⟩
theorem ok_diary_x {P : Program} {w : World} {K : PySem.W.Frag} {mg : Str -> Option Value} {base : Heap} {f : Addr} {fd : FuncData} {C1 C2 : Addr} (F : Fun K "diary" "diary" s_diary f fd) (T : Txt mg) (TE : TxtE K mg base C1 C2) (G_begin_x : Cal1 P w K mg base "begin" ["hands"] 4 (sp_bad C1 C2)) : FnOk P w K mg base (CX1 P w) 8 f fd ["hands"] (sp_bad C1 C2) := by
  refine F.okX sc_diary (fun vs H Q E h => ?_) (fun cdv A outer s H E hr => ?_)
  · obtain ⟨a, hs, D, rfl, _⟩ := h
    rfl
  have hU := room200 hr
  refine ⟨_, (qss_cons (qs_set 1 sc_diary.nd (qe_callX G_begin_x (hr.mono (by decide)) (qa_cons (qv 0) qa_nil))) qss_no), fun vs Q h => ?_⟩
  obtain ⟨a, hs, D, rfl, ha, h30, rf, q⟩ := h
  refine st_eq (σ := [some _, none, none]) rfl ?_
  walk_at "rd"
  exact ⟨a, hs, D, rfl, ha, h30, rf, q⟩
theorem ok_rings_x {P : Program} {w : World} {K : PySem.W.Frag} {mg : Str -> Option Value} {base : Heap} {f : Addr} {fd : FuncData} {C1 C2 : Addr} (F : Fun K "rings" "rings" s_rings f fd) (T : Txt mg) (TE : TxtE K mg base C1 C2) (G_begin_x : Cal1 P w K mg base "begin" ["hands"] 4 (sp_bad C1 C2)) : FnOk P w K mg base (CX1 P w) 8 f fd ["hands"] (sp_bad C1 C2) := by
  refine F.okX sc_rings (fun vs H Q E h => ?_) (fun cdv A outer s H E hr => ?_)
  · obtain ⟨a, hs, D, rfl, _⟩ := h
    rfl
  have hU := room200 hr
  refine ⟨_, (qss_cons (qs_set 1 sc_rings.nd (qe_callX G_begin_x (hr.mono (by decide)) (qa_cons (qv 0) qa_nil))) qss_no), fun vs Q h => ?_⟩
  obtain ⟨a, hs, D, rfl, ha, h30, rf, q⟩ := h
  refine st_eq (σ := [some _, none]) rfl ?_
  walk_at "rd"
  exact ⟨a, hs, D, rfl, ha, h30, rf, q⟩
theorem sc__law_upto : FnScope ["_law_script", "_law_small", "_law_great"] ["_law_script", "_law_small", "_law_great"] (defScope s__law_upto) := ⟨rfl, rfl, rfl, by decide +kernel, rfl, by decide +kernel, by decide +kernel⟩
theorem ok__law_upto (F : Fun K "_law_upto" "_law_upto" s__law_upto f fd) (T : Txt mg) : FnOk P w K mg base CX0 1 f fd ["_law_script", "_law_small", "_law_great"] (sp__law_upto K) := by
  refine F.okQ sc__law_upto (fun vs H Q E h => ?_) (fun cdv A outer s H E hr => ?_)
  · obtain ⟨a, ns, x, y, rfl, _⟩ := h
    rfl
  have hU := room200 hr
  refine ⟨_, (qss_cons (qs_if (qt_cmp qo_gt (qe_callB (qc_len K) T.b_len bt_len (qa_cons (qv 0) qa_nil)) qe_int (nomark _)) (qss_one (qs_ret (qv 2))) qss_nil)
      (qss_one (qs_ret (qv 1)))), fun vs Q h => ?_⟩
  obtain ⟨a, ns, x, y, rfl, hS, hl, q⟩ := h
  refine st_eq (σ := [some _, some _, some _]) rfl ?_
  walk_at "rd"
  refine rd_lenL hS ?_
  walk_at "rd"
  refine iteN (fun z => by have := of_decide_eq_true z; simp at this; lia) ?_
  walk_at "rd"
  exact q
theorem sc__law_whole : FnScope ["_law_found"] ["_law_found"] (defScope s__law_whole) := ⟨rfl, rfl, rfl, by decide +kernel, rfl, by decide +kernel, by decide +kernel⟩
theorem ok__law_whole (F : Fun K "_law_whole" "_law_whole" s__law_whole f fd) (T : Txt mg) : FnOk P w K mg base CX0 1 f fd ["_law_found"] (sp__law_whole K) := by
  refine F.okQ sc__law_whole (fun vs H Q E h => ?_) (fun cdv A outer s H E hr => ?_)
  · obtain ⟨i, rfl, _⟩ := h
    rfl
  have hU := room200 hr
  refine ⟨_, (qss_one (qs_ret (qe_and (qe_callB (qc_isi K) T.b_isinstance bt_isinstance (qa_cons (qv 0) (qa_cons (qe_ty "int" T.b_int bt_int) qa_nil))) (qe_one (qe_not (qe_callB (qc_isi K) T.b_isinstance bt_isinstance (qa_cons (qv 0) (qa_cons (qe_ty "bool" T.b_bool bt_bool) qa_nil)))))))), fun vs Q h => ?_⟩
  obtain ⟨i, rfl, q⟩ := h
  refine st_eq (σ := [some _]) rfl ?_
  walk_at "rd"
  refine rd_isi (.int i) kit_ii ?_
  walk_at "rd"
  refine iteT ?_
  walk_at "rd"
  refine rd_isi (.int i) kit_ib ?_
  walk_at "rd"
  exact q
theorem sc__law_at : FnScope ["_law_script", "_law_k"] ["_law_script", "_law_k"] (defScope s__law_at) := ⟨rfl, rfl, rfl, by decide +kernel, rfl, by decide +kernel, by decide +kernel⟩
theorem ok__law_at (F : Fun K "_law_at" "_law_at" s__law_at f fd) (T : Txt mg) : FnOk P w K mg base CX0 1 f fd ["_law_script", "_law_k"] (sp__law_at K) := by
  refine F.okQ sc__law_at (fun vs H Q E h => ?_) (fun cdv A outer s H E hr => ?_)
  · obtain ⟨a, ns, k, rfl, _⟩ := h
    rfl
  have hU := room200 hr
  refine ⟨_, (qss_cons (qs_if (qt_cmp qo_lt (qv 1) (qe_callB (qc_len K) T.b_len bt_len (qa_cons (qv 0) qa_nil)) (nomark _)) (qss_one (qs_ret (qe_ixA K (qv 0) (qv 1)))) qss_nil)
      (qss_one (qs_ret qe_int))), fun vs Q h => ?_⟩
  obtain ⟨a, ns, k, rfl, hS, q⟩ := h
  refine st_eq (σ := [some _, some _]) rfl ?_
  walk_at "rd"
  refine rd_lenL hS ?_
  walk_at "rd"
  refine ite3 (fun e => ?_) (fun e => ?_)
  · have hk : k < ns.length := by simpa using e
    walk_at "rd"
    refine rd_ixL hS (atI_ints hk) ?_
    walk_at "rd"
    exact q
  · have hk : ¬ k < ns.length := by simpa using e
    walk_at "rd"
    rw [List.getD_eq_getElem?_getD, List.getElem?_eq_none (by lia)] at q
    exact q
theorem sc__law_hands_of : FnScope ["_law_cells", "_law_count", "_law_seed", "_law_scripts", "_law_taken", "_law_k", "_law_made", "_law_who", "_law_turn", "_law_tool", "_law_mine", "_law_rank", "_law_come"] ["_law_cells", "_law_count", "_law_seed"] (defScope s__law_hands_of) := ⟨rfl, rfl, rfl, by decide +kernel, rfl, by decide +kernel, by decide +kernel⟩
theorem ok__law_hands_of (F : Fun K "_law_hands_of" "_law_hands_of" s__law_hands_of f fd) (T : Txt mg) : FnOk P w K mg base CX0 1 f fd ["_law_cells", "_law_count", "_law_seed"] (sp__law_hands_of K) := by
  refine F.okQ sc__law_hands_of (fun vs H Q E h => ?_) (fun cdv A outer s H E hr => ?_)
  · obtain ⟨a, cs, c, sd, rfl, _⟩ := h
    rfl
  have hU := room200 hr
  refine ⟨_, (qss_cons (qs_setComp 3 sc__law_hands_of.nd noX (own := ["_law_k"]) (taken := []) (caps := []) (csc (defScope s__law_hands_of) ["_law_cells", "_law_count", "_law_seed", "_law_scripts", "_law_taken", "_law_k", "_law_made", "_law_who", "_law_turn", "_law_tool", "_law_mine", "_law_rank", "_law_come"] (by decide +kernel)) (qi_range1 T.b_range (qa_cons (qv 1) qa_nil)) ⟨fun _ _ _ _ _ => ⟨(qg_name 0 (show (["_law_k"] : List Str).Nodup by decide +kernel)), qif_nil, (qe_lst qa_nil)⟩, (gw_name (by decide))⟩)
      (qss_cons (qs_setComp 4 sc__law_hands_of.nd noX (own := ["_law_k"]) (taken := []) (caps := []) (csc (defScope s__law_hands_of) ["_law_cells", "_law_count", "_law_seed", "_law_scripts", "_law_taken", "_law_k", "_law_made", "_law_who", "_law_turn", "_law_tool", "_law_mine", "_law_rank", "_law_come"] (by decide +kernel)) (qi_range1 T.b_range (qa_cons (qv 1) qa_nil)) ⟨fun _ _ _ _ _ => ⟨(qg_name 0 (show (["_law_k"] : List Str).Nodup by decide +kernel)), qif_nil, (qe_lst qa_nil)⟩, (gw_name (by decide))⟩)
      (qss_cons (qs_for (qi_range1 T.b_range (qa_cons (qe_callB (qc_len K) T.b_len bt_len (qa_cons (qv 0) qa_nil)) qa_nil)) (qg_name 5 sc__law_hands_of.nd) (qss_cons (qs_set 7 sc__law_hands_of.nd (qe_op qo_mod (qe_op qo_add (qe_ixA K (qv 0) (qv 5)) (qv 5)) (qv 1)))
      (qss_cons (qs_set 8 sc__law_hands_of.nd (qe_op qo_mod (qe_op qo_fdiv (qe_ixA K (qv 0) (qv 5)) qe_int) qe_int))
      (qss_cons (qs_set 9 sc__law_hands_of.nd (qe_op qo_add (qe_ix K (qe_lst (qa_cons qe_int (qa_cons (qe_neg qe_int) (qa_cons (qe_op qo_pow qe_int qe_int) qa_nil)))) (qe_op qo_mod (qe_op qo_add (qe_ixA K (qv 0) (qe_op qo_sub (qv 5) qe_int)) (qv 5)) qe_int) (fun _ _ => rfl)) (qe_op qo_mod (qe_op qo_fdiv (qv 2) qe_int) (qe_op qo_pow qe_int qe_int))))
      (qss_cons (qs_set 10 sc__law_hands_of.nd (qe_ixA K (qv 4) (qv 7)))
      (qss_one (qs_if (qt_cmp qo_lt (qv 8) qe_int (nomark _)) (qss_one (qs_expr (qe_bm K PySem.F.plainAttrs_list PySem.F.slot_list_append PySem.F.type_list_append qm_append (qe_ixA K (qv 3) (qv 7)) (qa_cons (qe_tup (qa_cons qe_str qa_nil)) qa_nil)))) (qss_one (qs_if (qt_w (qw_and (qt_cmp qo_lt (qv 8) qe_int (nomark _)) (qw_and1 (qt_w (qw_or (qt_cmp (qo_notIn K) (qv 9) (qv 10) (by with_unfolding_all rfl)) (qw_or1 (qt_cmp (qo_eq K hU) (qe_op qo_mod (qe_ixA K (qv 0) (qv 5)) qe_int) qe_int (nomark _)))))))) (qss_cons (qs_expr (qe_bm K PySem.F.plainAttrs_list PySem.F.slot_list_append PySem.F.type_list_append qm_append (qe_ixA K (qv 3) (qv 7)) (qa_cons (qe_tup (qa_cons qe_str (qa_cons (qv 9) qa_nil))) qa_nil)))
      (qss_one (qs_expr (qe_bm K PySem.F.plainAttrs_list PySem.F.slot_list_append PySem.F.type_list_append qm_append (qv 10) (qa_cons (qv 9) qa_nil))))) (qss_one (qs_if (qt_cmp (qo_ne K hU) (qv 10) (qe_lst qa_nil) (nomark _)) (qss_one (qs_expr (qe_bm K PySem.F.plainAttrs_list PySem.F.slot_list_append PySem.F.type_list_append qm_append (qe_ixA K (qv 3) (qv 7)) (qa_cons (qe_tup (qa_cons qe_str (qa_cons (qe_bm0 K PySem.F.plainAttrs_list PySem.F.slot_list_pop PySem.F.type_list_pop qm_pop (qv 10)) qa_nil))) qa_nil)))) (qss_one (qs_expr (qe_bm K PySem.F.plainAttrs_list PySem.F.slot_list_append PySem.F.type_list_append qm_append (qe_ixA K (qv 3) (qv 7)) (qa_cons (qe_tup (qa_cons qe_str (qa_cons (qv 9) qa_nil))) qa_nil)))))))))))))))
      (qss_cons (qs_set 6 sc__law_hands_of.nd (qe_lst qa_nil))
      (qss_cons (qs_for (qi_range1 T.b_range (qa_cons (qv 1) qa_nil)) (qg_name 5 sc__law_hands_of.nd) (qss_cons (qs_set 11 sc__law_hands_of.nd (qe_op qo_add (qv 5) (qe_op qo_mod (qe_op qo_fdiv (qv 2) (qe_op qo_add (qv 5) qe_int)) qe_int)))
      (qss_cons (qs_if (qt_cmp (qo_eq K hU) (qe_op qo_mod (qv 2) qe_int) qe_int (nomark _)) (qss_one (qs_set 11 sc__law_hands_of.nd (qe_op qo_sub qe_int (qv 11)))) qss_nil)
      (qss_cons (qs_if (qt_cmp (qo_eq K hU) (qe_op qo_mod (qv 2) qe_int) qe_int (nomark _)) (qss_one (qs_set 11 sc__law_hands_of.nd (qe_op qo_mul (qv 11) (qe_op qo_pow qe_int qe_int)))) qss_nil)
      (qss_cons (qs_set 12 sc__law_hands_of.nd (qe_op qo_add (qe_op qo_mul qe_int (qv 5)) (qe_op qo_mod (qe_op qo_fdiv (qv 2) (qe_op qo_add (qv 5) qe_int)) qe_int)))
      (qss_cons (qs_if (qt_w (qw_and (qt_cmp (qo_eq K hU) (qv 5) (qe_op qo_sub (qv 1) qe_int) (nomark _)) (qw_and1 (qt_cmp (qo_eq K hU) (qe_op qo_mod (qv 2) qe_int) qe_int (nomark _))))) (qss_one (qs_set 12 sc__law_hands_of.nd (qe_op qo_add (qv 12) (qe_ix K (qe_lst (qa_cons qe_int (qa_cons qe_int qa_nil))) (qe_callTy qc_int T.b_int bt_int (qa_cons (qe_cmp qo_gt (qe_callB (qc_len K) T.b_len bt_len (qa_cons (qv 0) qa_nil)) qe_int (nomark _)) qa_nil)) (fun _ _ => rfl))))) qss_nil)
      (qss_one (qs_expr (qe_bm K PySem.F.plainAttrs_list PySem.F.slot_list_append PySem.F.type_list_append qm_append (qv 6) (qa_cons (qe_tup (qa_cons (qv 11) (qa_cons (qv 12) (qa_cons (qe_ixA K (qv 3) (qv 5)) qa_nil)))) qa_nil))))))))))
      (qss_one (qs_ret (qv 6)))))))), fun vs Q h => ?_⟩
  obtain ⟨a, cs, c, sd, rfl, hA, hcl, hc1, hc2, q⟩ := h
  refine st_eq (σ := [some _, some _, some _, none, none, none, none, none, none, none, none, none, none]) rfl ?_
  walk_at "rd"
  refine comp_rng (n := c) (HoE H) (by rw [sizeLine_eq]; lia) ⟨[], rfl, rfl, List.nodup_nil, fun b hb => (by cases hb), Same.refl H⟩ ?_ ?_
  · rintro n acc H1 hn ⟨sa, rfl, l1, nd, all, s1⟩
    walk_at "rd"
    refine iteT ?_
    walk_at "rd"
    refine ⟨Nat.zero_le _, fun p fp => ?_⟩
    have np : ¬ p ∈ sa := fun z => by rw [(all p z).2] at fp; cases fp
    refine ⟨sa ++ [p], by rw [List.map_append]; rfl, by rw [List.length_append, l1]; rfl, ?_, fun b hb => ?_, s1.updF (s1.free fp)⟩
    · rw [List.nodup_append]
      refine ⟨nd, by simp, fun x hx y hy z => ?_⟩
      have : y = p := by simpa using hy
      rw [z, this] at hx
      exact np hx
    · rcases List.mem_append.mp hb with hb | hb
      · exact ⟨(all b hb).1, by rw [upd_ne (fun z => np (by rw [<- z]; exact hb))]; exact (all b hb).2⟩
      · have : b = p := by simpa using hb
        subst this
        exact ⟨s1.free fp, upd_same⟩
  rintro acc H1 ⟨sa, rfl, la, nda, alla, s1⟩ sc fsc
  have s2 := s1.updF (o := .lst (sa.map V.ref)) (s1.free fsc)
  have hsc : upd H1 sc (.lst (sa.map V.ref)) sc = some (.lst (sa.map V.ref)) := upd_same
  have nsc : ¬ sc ∈ sa := fun z => by rw [(alla sc z).2] at fsc; cases fsc
  have alla2 : ∀ b ∈ sa, H b = none /\ upd H1 sc (.lst (sa.map V.ref)) b = some (.lst []) := fun b hb => ⟨(alla b hb).1, by rw [upd_ne (fun z => nsc (by rw [<- z]; exact hb))]; exact (alla b hb).2⟩
  have fsc0 := s1.free fsc
  revert s2 hsc alla2
  generalize upd H1 sc (.lst (sa.map V.ref)) = H2
  intro s2 hsc alla2
  walk_at "rd"
  refine comp_rng (n := c) (HoE H2) (by rw [sizeLine_eq]; lia) ⟨[], rfl, rfl, List.nodup_nil, fun b hb => (by cases hb), Same.refl H2⟩ ?_ ?_
  · rintro n acc H3 hn ⟨ta, rfl, l1, nd, all, s3⟩
    walk_at "rd"
    refine iteT ?_
    walk_at "rd"
    refine ⟨Nat.zero_le _, fun p fp => ?_⟩
    have np : ¬ p ∈ ta := fun z => by rw [(all p z).2] at fp; cases fp
    refine ⟨ta ++ [p], by rw [List.map_append]; rfl, by rw [List.length_append, l1]; rfl, ?_, fun b hb => ?_, s3.updF (s3.free fp)⟩
    · rw [List.nodup_append]
      refine ⟨nd, by simp, fun x hx y hy z => ?_⟩
      have : y = p := by simpa using hy
      rw [z, this] at hx
      exact np hx
    · rcases List.mem_append.mp hb with hb | hb
      · exact ⟨(all b hb).1, by rw [upd_ne (fun z => np (by rw [<- z]; exact hb))]; exact (all b hb).2⟩
      · have : b = p := by simpa using hb
        subst this
        exact ⟨s3.free fp, upd_same⟩
  rintro acc H3 ⟨ta, rfl, lt, ndt, allt, s3⟩ tk ftk
  have s4 := s3.updF (o := .lst (ta.map V.ref)) (s3.free ftk)
  have htk : upd H3 tk (.lst (ta.map V.ref)) tk = some (.lst (ta.map V.ref)) := upd_same
  have ntk : ¬ tk ∈ ta := fun z => by rw [(allt tk z).2] at ftk; cases ftk
  have allt4 : ∀ b ∈ ta, H2 b = none /\ upd H3 tk (.lst (ta.map V.ref)) b = some (.lst []) := fun b hb => ⟨(allt b hb).1, by rw [upd_ne (fun z => ntk (by rw [<- z]; exact hb))]; exact (allt b hb).2⟩
  have ftk2 := s3.free ftk
  revert s4 htk allt4
  generalize upd H3 tk (.lst (ta.map V.ref)) = H4
  intro s4 htk allt4
  have s04 := s2.trans s4
  have ftk0 : H tk = none := s2.free ftk2
  have hsc4 := s4 _ _ hsc
  have nst : sc ≠ tk := ne_of_none hsc ftk2
  have disj : ∀ b ∈ sa, ∀ b' ∈ ta, b ≠ b' := fun b hb b' hb' z => by
    have := (allt4 b' hb').1
    rw [<- z, (alla2 b hb).2] at this
    cases this
  have nsc' : ¬ sc ∈ sa ++ ta := fun z => by
    rcases List.mem_append.mp z with z | z
    · exact nsc z
    · have := (allt4 sc z).1
      rw [hsc] at this
      cases this
  have ntk' : ¬ tk ∈ sa ++ ta := fun z => by
    rcases List.mem_append.mp z with z | z
    · rw [(alla2 tk z).2] at ftk2
      cases ftk2
    · exact ntk z
  have scr0 : Scr (sd / 7 % 10 ^ 30) 0 H H4 sa ta (List.replicate c []) (List.replicate c []) := by
    refine ⟨by simp [la], by simp [lt], fun j b ss h1 h2 => ?_, fun j b ts h1 h2 => ?_, ?_, fun b hb => ?_, s04, fun ss hs => ?_, fun ts ht => ?_⟩
    · have : ss = [] := List.eq_of_mem_replicate (List.mem_of_getElem? h2)
      subst this
      exact ⟨[], s4 _ _ (alla2 b (List.mem_of_getElem? h1)).2, .nil⟩
    · have : ts = [] := List.eq_of_mem_replicate (List.mem_of_getElem? h2)
      subst this
      exact (allt4 b (List.mem_of_getElem? h1)).2
    · rw [List.nodup_append]
      exact ⟨nda, ndt, disj⟩
    · rcases List.mem_append.mp hb with hb | hb
      · exact (alla2 b hb).1
      · exact s2.free (allt4 b hb).1
    · have : ss = [] := List.eq_of_mem_replicate hs
      subst this
      exact ⟨Nat.le_refl _, fun s hs => by cases hs⟩
    · have : ts = [] := List.eq_of_mem_replicate ht
      subst this
      exact Nat.le_refl _
  walk_at "rd"
  refine rd_lenL (s04.seq hA) ?_
  rw [List.length_map]
  walk_at "rd"
  refine for_rng (HoS a sc tk c sd sa ta H)
    (by lia) ⟨_, _, none, none, none, none, none, rfl, scr0, by simp, by simp, hsc4, htk⟩ ?_ ?_
  · rintro n σ H5 hn ⟨sss, tss, v1, v2, v3, v4, v5, rfl, scr, ls, lts, hsc5, htk5⟩
    rw [show (0 : Int) + (n : Int) = (n : Int) by lia]
    have hA5 := scr.sm.seq hA
    walk_at "rd"
    refine rd_ixL hA5 (atI_ints hn) ?_
    walk_at "rd"
    refine rd_I (by show (0 : Int) < (c : Int); lia) ?_
    have hwb := Int.emod_lt_of_pos (cs.getD n 0 + (n : Int)) (show (0 : Int) < (c : Int) by lia)
    have hwa := Int.emod_nonneg (cs.getD n 0 + (n : Int)) (show (c : Int) ≠ 0 by lia)
    obtain ⟨who, hwho⟩ : ∃ who : Nat, (cs.getD n 0 + (n : Int)) % (c : Int) = (who : Int) := ⟨((cs.getD n 0 + (n : Int)) % (c : Int)).toNat, by lia⟩
    have whl : who < c := by lia
    rw [hwho]
    walk_at "rd"
    refine rd_ixL hA5 (atI_ints hn) ?_
    walk_at "rd"
    refine rd_I ⟨by decide, by decide⟩ ?_
    walk_at "rd"
    refine rd_I (by decide) ?_
    walk_at "rd"
    refine rd_I ⟨by decide, by decide, by decide⟩ ?_
    walk_at "rd"
    refine ⟨by rw [sizeLine_eq]; simp, fun p3 fp3 => ?_⟩
    have scr6 := scr.later ((Same.refl H5).updF (o := .lst [.int 0, .int (-1), .int (10 ^ (20 : Int).toNat)]) fp3)
    have hp3 : upd H5 p3 (.lst [.int 0, .int (-1), .int (10 ^ (20 : Int).toNat)]) p3 = some (.lst [.int 0, .int (-1), .int (10 ^ (20 : Int).toNat)]) := upd_same
    have hsc6 : upd H5 p3 (.lst [.int 0, .int (-1), .int (10 ^ (20 : Int).toNat)]) sc = some (.lst (sa.map V.ref)) := by rw [upd_ne (ne_of_none hsc5 fp3)]; exact hsc5
    have htk6 : upd H5 p3 (.lst [.int 0, .int (-1), .int (10 ^ (20 : Int).toNat)]) tk = some (.lst (ta.map V.ref)) := by rw [upd_ne (ne_of_none htk5 fp3)]; exact htk5
    revert scr6 hp3 hsc6 htk6
    generalize upd H5 p3 (.lst [.int 0, .int (-1), .int (10 ^ (20 : Int).toNat)]) = H6
    intro scr6 hp3 hsc6 htk6
    have hA6 := scr6.sm.seq hA
    walk_at "rd"
    obtain ⟨zp, hzp⟩ := atI_prev hn
    refine rd_ixL hA6 hzp ?_
    walk_at "rd"
    refine rd_I (by decide) ?_
    obtain ⟨z3, hz3, e3⟩ := atI_3 0 (-1) (10 ^ (20 : Int).toNat) (zp + (n : Int))
    refine rd_ixL (.of hp3) e3 ?_
    walk_at "rd"
    refine rd_I ⟨by decide, by decide⟩ ?_
    walk_at "rd"
    refine rd_I ⟨by decide, by decide, by decide⟩ ?_
    walk_at "rd"
    refine rd_I (by decide) ?_
    walk_at "rd"
    have h3t : three (sd / 7 % 10 ^ 30) (z3 + sd / 7 % 10 ^ (30 : Int).toNat) := by
      rcases hz3 with z | z | z <;> rw [z]
      · exact .inl rfl
      · exact .inr (.inl rfl)
      · exact .inr (.inr rfl)
    generalize z3 + sd / 7 % 10 ^ (30 : Int).toNat = tool at h3t
    obtain ⟨sw, hsw⟩ : ∃ x, sa[who]? = some x := ⟨_, List.getElem?_eq_getElem (by lia)⟩
    obtain ⟨tw, htw⟩ : ∃ x, ta[who]? = some x := ⟨_, List.getElem?_eq_getElem (by lia)⟩
    obtain ⟨ss, hss⟩ : ∃ x, sss[who]? = some x := ⟨_, List.getElem?_eq_getElem (by lia)⟩
    obtain ⟨ts, hts⟩ : ∃ x, tss[who]? = some x := ⟨_, List.getElem?_eq_getElem (by lia)⟩
    refine rd_ixL (.of htk6) (atI_refs htw) ?_
    have hmine := scr6.t who tw ts htw hts
    have tlen := scr6.b2 ts (List.mem_of_getElem? hts)
    have add : ∀ (H7 : Hp) (tss7 : List (List Int)) (s : Stp) (b : Addr), Scr (sd / 7 % 10 ^ 30) n H H7 sa ta sss tss7 -> tss7.length = c -> H7 sc = some (.lst (sa.map V.ref)) -> H7 tk = some (.lst (ta.map V.ref)) -> StpV H7 (.ref b) s -> stp3 (sd / 7 % 10 ^ 30) s ->
        ∃ zs, H7 sw = some (.lst zs) /\ zs.length < sizeLine /\ Scr (sd / 7 % 10 ^ 30) (n + 1) H (upd H7 sw (.lst (zs ++ [.ref b]))) sa ta (sss.set who (ss ++ [s])) tss7 /\ (sss.set who (ss ++ [s])).length = c /\ upd H7 sw (.lst (zs ++ [.ref b])) sc = some (.lst (sa.map V.ref)) /\ upd H7 sw (.lst (zs ++ [.ref b])) tk = some (.lst (ta.map V.ref)) := by
      intro H7 tss7 s b scr7 l7 hsc7 htk7 hb h3s
      obtain ⟨zs, hz, pz⟩ := scr7.s who sw ss hsw hss
      have lz := Paired.length pz
      have := (scr7.b1 ss (List.mem_of_getElem? hss)).1
      refine ⟨zs, hz, by rw [sizeLine_eq]; lia, scr7.step hsw hss hz pz hb h3s, by rw [List.length_set]; exact ls, ?_, ?_⟩
      · rw [upd_ne (fun z => nsc' (by rw [z]; exact List.mem_append_left _ (List.mem_of_getElem? hsw)))]
        exact hsc7
      · rw [upd_ne (fun z => ntk' (by rw [z]; exact List.mem_append_left _ (List.mem_of_getElem? hsw)))]
        exact htk7
    walk_at "rd"
    refine ite3 (fun e1 => ?_) (fun e1 => ?_)
    · walk_at "rd"
      refine rd_ixL (.of hsc6) (atI_refs hsw) ?_
      obtain ⟨zs0, hz0, _⟩ := scr6.s who sw ss hsw hss
      walk_at "rd"
      refine rd_tyL (.of hz0) ?_
      walk_at "rd"
      refine ⟨by rw [sizeLine_eq]; simp, fun b fb => ?_⟩
      have sN := (Same.refl H6).updF (o := .tup [.str "work"]) fb
      obtain ⟨zs, hz, zl, scr8, l8, hsc8, htk8⟩ := add _ tss .work b (scr6.later sN) lts (sN _ _ hsc6) (sN _ _ htk6) ⟨b, rfl, upd_same⟩ trivial
      walk_at "rd"
      refine rd_append hz zl ?_
      exact ⟨_, _, _, _, _, _, _, rfl, scr8, l8, lts, hsc8, htk8⟩
    · with_reducible refine L2.rd_ifG fun R hT hF => ?_
      have yes : R true H6 := by
        rw [hT]
        walk_at "rd"
        refine rd_ixL (.of hsc6) (atI_refs hsw) ?_
        obtain ⟨zs0, hz0, _⟩ := scr6.s who sw ss hsw hss
        walk_at "rd"
        refine rd_tyL (.of hz0) ?_
        walk_at "rd"
        refine ⟨by rw [sizeLine_eq]; simp, fun b fb => ?_⟩
        have sN := (Same.refl H6).updF (o := .tup [.str "take", .int tool]) fb
        obtain ⟨zs, hz, zl, scr8, l8, hsc8, htk8⟩ := add _ tss (.take tool) b (scr6.later sN) lts (sN _ _ hsc6) (sN _ _ htk6) ⟨b, rfl, upd_same⟩ h3t
        walk_at "rd"
        refine rd_append hz zl ?_
        have hm8 := scr8.t who tw ts htw hts
        walk_at "rd"
        refine rd_tyL (.of hm8) ?_
        walk_at "rd"
        refine rd_append hm8 (by rw [List.length_map, sizeLine_eq]; lia) ?_
        rw [show ts.map V.int ++ [V.int tool] = (ts ++ [tool]).map V.int by rw [List.map_append]; rfl]
        have scr9 := scr8.took (new := ts ++ [tool]) htw hts (by rw [List.length_append, List.length_singleton]; lia)
        refine ⟨_, _, _, _, _, _, _, rfl, scr9, l8, by rw [List.length_set]; exact lts, ?_, ?_⟩
        · rw [upd_ne (fun z => nsc' (by rw [z]; exact List.mem_append_right _ (List.mem_of_getElem? htw)))]
          exact hsc8
        · rw [upd_ne (fun z => ntk' (by rw [z]; exact List.mem_append_right _ (List.mem_of_getElem? htw)))]
          exact htk8
      have no : R false H6 := by
        rw [hF]
        walk_at "rd"
        refine ⟨Nat.zero_le _, fun pn fpn => ?_⟩
        have sn := (Same.refl H6).updF (o := .lst []) fpn
        have hpn : upd H6 pn (.lst []) pn = some (.lst (([] : List Int).map V.int)) := upd_same
        have scr7 := scr6.later sn
        have hsc7 := sn _ _ hsc6
        have htk7 := sn _ _ htk6
        revert scr7 hpn hsc7 htk7 sn
        generalize upd H6 pn (.lst []) = H7
        intro sn hpn scr7 hsc7 htk7
        have hm7 := scr7.t who tw ts htw hts
        refine rd_neD (rep_ints (.of hm7)) (rep_ints (ns := []) (.of hpn)) trivial (dp_ints ts) ?_
        rw [List.map_nil, eqD_nil]
        walk_at "rd"
        obtain ⟨zs0, hz0, _⟩ := scr7.s who sw ss hsw hss
        refine ite3 (fun e => ?_) (fun e => ?_)
        · have hne : ts ≠ [] := fun z => by rw [z] at e; simp at e
          obtain ⟨t0, l, rfl⟩ : ∃ t0 l, ts = t0 ++ [l] := ⟨ts.dropLast, ts.getLast hne, (List.dropLast_concat_getLast hne).symm⟩
          walk_at "rd"
          refine rd_ixL (.of hsc7) (atI_refs hsw) ?_
          walk_at "rd"
          refine rd_tyL (.of hz0) ?_
          walk_at "rd"
          refine rd_tyL (.of hm7) ?_
          walk_at "rd"
          refine rd_pop (xs := t0.map V.int) (y := .int l) (by rw [hm7, List.map_append]; rfl) ?_
          have scr8 := scr7.took (new := t0) htw hts (by rw [List.length_append, List.length_singleton] at tlen; lia)
          have hsc8 : upd H7 tw (.lst (t0.map V.int)) sc = some (.lst (sa.map V.ref)) := by
            rw [upd_ne (fun z => nsc' (by rw [z]; exact List.mem_append_right _ (List.mem_of_getElem? htw)))]
            exact hsc7
          have htk8 : upd H7 tw (.lst (t0.map V.int)) tk = some (.lst (ta.map V.ref)) := by
            rw [upd_ne (fun z => ntk' (by rw [z]; exact List.mem_append_right _ (List.mem_of_getElem? htw)))]
            exact htk7
          revert scr8 hsc8 htk8
          generalize upd H7 tw (.lst (t0.map V.int)) = H8
          intro scr8 hsc8 htk8
          walk_at "rd"
          refine ⟨by rw [sizeLine_eq]; simp, fun b fb => ?_⟩
          have sN := (Same.refl H8).updF (o := .tup [.str "give", .int l]) fb
          obtain ⟨zs, hz, zl, scr9, l9, hsc9, htk9⟩ := add _ (tss.set who t0) (.give l) b (scr8.later sN) (by rw [List.length_set]; exact lts) (sN _ _ hsc8) (sN _ _ htk8) ⟨b, rfl, upd_same⟩ trivial
          walk_at "rd"
          refine rd_append hz zl ?_
          exact ⟨_, _, _, _, _, _, _, rfl, scr9, l9, by rw [List.length_set]; exact lts, hsc9, htk9⟩
        · walk_at "rd"
          refine rd_ixL (.of hsc7) (atI_refs hsw) ?_
          walk_at "rd"
          refine rd_tyL (.of hz0) ?_
          walk_at "rd"
          refine ⟨by rw [sizeLine_eq]; simp, fun b fb => ?_⟩
          have sN := (Same.refl H7).updF (o := .tup [.str "give", .int tool]) fb
          obtain ⟨zs, hz, zl, scr9, l9, hsc9, htk9⟩ := add _ tss (.give tool) b (scr7.later sN) lts (sN _ _ hsc7) (sN _ _ htk7) ⟨b, rfl, upd_same⟩ trivial
          walk_at "rd"
          refine rd_append hz zl ?_
          exact ⟨_, _, _, _, _, _, _, rfl, scr9, l9, lts, hsc9, htk9⟩
      walk_at "rd"
      refine ite3 (fun e2 => ?_) (fun e2 => ?_)
      · walk_at "rd"
        refine rd_notIn (.of hmine) rfl (flat_int _) ?_
        walk_at "rd"
        refine ite3 (fun e3 => ?_) (fun e3 => ?_)
        · exact yes
        · walk_at "rd"
          refine rd_ixL hA6 (atI_ints hn) ?_
          walk_at "rd"
          refine rd_I (by decide) ?_
          walk_at "rd"
          cases decide (V.int (cs.getD n 0 % 11) = V.int 3) with
          | true => exact yes
          | false => exact no
      · exact no
  · rintro σ H5 ⟨sss, tss, v1, v2, v3, v4, v5, rfl, scr, ls, lts, hsc5, htk5⟩
    walk_at "rd"
    refine ⟨Nat.zero_le _, fun pm fpm => ?_⟩
    have sn := (Same.refl H5).updF (o := .lst []) fpm
    have hpm : upd H5 pm (.lst []) pm = some (.lst []) := upd_same
    have fpm0 : H pm = none := scr.sm.free fpm
    have scr7 := scr.later sn
    have hsc7 := sn _ _ hsc5
    have npm : ¬ pm ∈ sa := fun z => by
      obtain ⟨j, hj, e⟩ := List.mem_iff_getElem.mp z
      obtain ⟨zs, hz, _⟩ := scr.s j pm (sss[j]'(by rw [<- scr.l1]; exact hj)) (by rw [<- e]; exact List.getElem?_eq_getElem hj) (List.getElem?_eq_getElem _)
      rw [hz] at fpm
      cases fpm
    have nps : sc ≠ pm := ne_of_none hsc5 fpm
    revert hpm scr7 hsc7 sn
    generalize upd H5 pm (.lst []) = H6
    intro sn hpm scr6 hsc6
    walk_at "rd"
    have mk0 : Made (sd / 7 % 10 ^ 30) H H6 pm sc sa sss [] [] := ⟨scr6.sm, hpm, rfl, fun j y h e1 e2 => (by cases e1), hsc6, fun j b ss h1 h2 => (let ⟨zs, q1, q2⟩ := scr6.s j b ss h1 h2; ⟨b, zs, rfl, q1, q2⟩), fun h hh => (by cases hh)⟩
    refine for_rng (HoM a sc tk pm c sd sa sss H)
      (by lia) ⟨[], [], _, _, _, _, _, _, _, rfl, mk0, rfl⟩ ?_ ?_
    · rintro k σ H7 hk ⟨hs, ys, w1, w2, w3, w4, w5, w6, w7, rfl, mk, l7⟩
      rw [show (0 : Int) + (k : Int) = (k : Int) by lia]
      obtain ⟨sj, hsj⟩ : ∃ x, sa[hs.length]? = some x := ⟨_, List.getElem?_eq_getElem (by lia)⟩
      obtain ⟨ss, hss⟩ : ∃ x, sss[hs.length]? = some x := ⟨_, List.getElem?_eq_getElem (by lia)⟩
      walk_at "rd"
      refine rd_I ⟨by lia, by lia⟩ ?_
      walk_at "rd"
      refine rd_I (by decide) ?_
      refine rd_addI ?_
      apply L2.rd_nameE
      focus ((try simp only [List.set_cons_zero, List.set_cons_succ]); (exact rfl))
      try with_reducible refine L2.rd_nxE (by assumption) ?_
      with_reducible refine L2.rd_seqH fun R2 hR2 => ?_
      have t2 : ∀ rk : Int, -100 <= rk -> rk <= 100 -> R2 [some (.ref a), some (.int (c : Int)), some (.int sd), some (.ref sc), some (.ref tk), some (.int (k : Int)), some (.ref pm), w2, w3, w4, w5, some (.int rk), w7] H7 := by
        intro rk hr1 hr2
        rw [hR2.eq]
        try with_reducible refine L2.rd_nxE (by assumption) ?_
        with_reducible refine L2.rd_seqH fun R3 hR3 => ?_
        have t3 : ∀ rk : Int, R3 [some (.ref a), some (.int (c : Int)), some (.int sd), some (.ref sc), some (.ref tk), some (.int (k : Int)), some (.ref pm), w2, w3, w4, w5, some (.int rk), w7] H7 := by
          intro rk
          rw [hR3.eq]
          walk_at "rd"
          refine rd_mulI (.inl ⟨by decide, by decide⟩) ?_
          walk_at "rd"
          refine rd_I ⟨by lia, by lia⟩ ?_
          walk_at "rd"
          refine rd_I (by decide) ?_
          refine rd_addI ?_
          have cm1 := Int.emod_nonneg (sd / ((k : Int) + 3)) (show (4 : Int) ≠ 0 by decide)
          have cm2 := Int.emod_lt_of_pos (sd / ((k : Int) + 3)) (show (0 : Int) < 4 by decide)
          have cb1 : 0 <= 2 * (k : Int) + sd / ((k : Int) + 3) % 4 := by lia
          have cb2 : 2 * (k : Int) + sd / ((k : Int) + 3) % 4 <= 100 := by lia
          revert cb1 cb2
          generalize 2 * (k : Int) + sd / ((k : Int) + 3) % 4 = cm
          intro cb1 cb2
          apply L2.rd_nameE
          focus ((try simp only [List.set_cons_zero, List.set_cons_succ]); (exact rfl))
          try with_reducible refine L2.rd_nxE (by assumption) ?_
          with_reducible refine L2.rd_seqH fun R5 hR5 => ?_
          have t5 : ∀ (cm : Int) (H8 : Hp), Same H7 H8 -> 0 <= cm -> cm <= 10000 -> R5 [some (.ref a), some (.int (c : Int)), some (.int sd), some (.ref sc), some (.ref tk), some (.int (k : Int)), some (.ref pm), w2, w3, w4, w5, some (.int rk), some (.int cm)] H8 := by
            intro cm H8 s8 hc1 hc2
            rw [hR5.eq]
            have mk8 := mk.later s8
            walk_at "rd"
            refine rd_tyL (.of mk8.at_) ?_
            walk_at "rd"
            refine rd_ixL (.of mk8.sc) (by rw [<- l7]; exact atI_refs hsj) ?_
            walk_at "rd"
            refine ⟨by rw [sizeLine_eq]; simp, fun b fb => ?_⟩
            have mk9 := mk8.later ((Same.refl H8).updF (o := .tup [.int rk, .int cm, .ref sj]) fb)
            have hb9 : upd H8 b (.tup [.int rk, .int cm, .ref sj]) b = some (.tup [.int rk, .int cm, .ref sj]) := upd_same
            revert mk9 hb9
            generalize upd H8 b (.tup [.int rk, .int cm, .ref sj]) = H9
            intro mk9 hb9
            have ml := mk9.len
            walk_at "rd"
            refine rd_append mk9.at_ (by rw [sizeLine_eq]; lia) ?_
            exact ⟨hs ++ [⟨rk, cm, ss⟩], _, _, _, _, _, _, _, _, rfl, mk9.add (h := ⟨rk, cm, ss⟩) fpm0 npm nps hb9 hsj hss ⟨hc1, hc2⟩, by simp [l7]⟩
          walk_at "rd"
          refine ite3 (fun e1 => ?_) (fun e1 => ?_)
          · walk_at "rd"
            refine rd_I (by decide) ?_
            walk_at "rd"
            refine ite3 (fun e2 => ?_) (fun e2 => ?_)
            · walk_at "rd"
              refine ⟨by rw [sizeLine_eq]; simp, fun p9 fp9 => ?_⟩
              have s9 := (Same.refl H7).updF (o := .lst [.int 60, .int 900]) fp9
              have hp9 : upd H7 p9 (.lst [.int 60, .int 900]) p9 = some (.lst [.int 60, .int 900]) := upd_same
              revert s9 hp9
              generalize upd H7 p9 (.lst [.int 60, .int 900]) = H8
              intro s9 hp9
              walk_at "rd"
              refine rd_lenL ((mk.sm.trans s9).seq hA) ?_
              walk_at "rd"
              refine .inr ⟨_, rfl, ?_⟩
              refine rd_ixL (.of hp9) (atI_2 60 900 _) ?_
              walk_at "rd"
              refine t5 _ H8 s9 ?_ ?_
              · split <;> lia
              · split <;> lia
            · walk_at "rd"
              exact t5 cm H7 (Same.refl H7) cb1 (by lia)
          · refine iteF ?_
            walk_at "rd"
            exact t5 cm H7 (Same.refl H7) cb1 (by lia)
        walk_at "rd"
        refine rd_I (by decide) ?_
        walk_at "rd"
        refine ite3 (fun e => ?_) (fun e => ?_)
        · walk_at "rd"
          refine rd_I ⟨by decide, by decide, by decide⟩ ?_
          refine rd_mulI (.inl ⟨by lia, by lia⟩) ?_
          walk_at "rd"
          exact t3 _
        · walk_at "rd"
          exact t3 _
      have rm1 := Int.emod_nonneg (sd / ((k : Int) + 2)) (show (3 : Int) ≠ 0 by decide)
      have rm2 := Int.emod_lt_of_pos (sd / ((k : Int) + 2)) (show (0 : Int) < 3 by decide)
      walk_at "rd"
      refine rd_I (by decide) ?_
      walk_at "rd"
      refine ite3 (fun e => ?_) (fun e => ?_)
      · walk_at "rd"
        exact t2 _ (by lia) (by lia)
      · walk_at "rd"
        exact t2 _ (by lia) (by lia)
    · rintro σ H7 ⟨hs, ys, w1, w2, w3, w4, w5, w6, w7, rfl, mk, l7⟩
      walk_at "rd"
      exact q pm hs H7 mk.sm fpm0 mk.hands (small_of l7 hc2 (mk.bound scr hcl) mk.com)
theorem sc__law_spoilt : FnScope ["_law_hands", "_law_spot", "_law_odd", "_law_hand", "_law_steps", "_law_made"] ["_law_hands", "_law_spot", "_law_odd"] (defScope s__law_spoilt) := ⟨rfl, rfl, rfl, by decide +kernel, rfl, by decide +kernel, by decide +kernel⟩
theorem ok__law_spoilt (F : Fun K "_law_spoilt" "_law_spoilt" s__law_spoilt f fd) (T : Txt mg) : FnOk P w K mg base CX0 1 f fd ["_law_hands", "_law_spot", "_law_odd"] (sp__law_spoilt K) := by
  refine F.okQ sc__law_spoilt (fun vs H Q E h => ?_) (fun cdv A outer s H E hr => ?_)
  · obtain ⟨a, o, hs, sp, od, rfl, _⟩ := h
    rfl
  have hU := room200 hr
  refine ⟨_, (qss_cons (qs_set 3 sc__law_spoilt.nd (qe_ix K (qv 0) (qe_op qo_mod (qv 1) (qe_callB (qc_len K) T.b_len bt_len (qa_cons (qv 0) qa_nil))) (fun _ _ => rfl)))
      (qss_cons (qs_set 4 sc__law_spoilt.nd (qe_callTy (qc_list K) T.b_list bt_list (qa_cons (qe_ixA K (qv 3) qe_int) qa_nil)))
      (qss_cons (qs_expr (qe_bm K PySem.F.plainAttrs_list PySem.F.slot_list_insert PySem.F.type_list_insert qm_insert (qv 4) (qa_cons (qe_op qo_mod (qv 1) (qe_op qo_add (qe_callB (qc_len K) T.b_len bt_len (qa_cons (qv 4) qa_nil)) qe_int)) (qa_cons (qv 2) qa_nil))))
      (qss_cons (qs_set 5 sc__law_spoilt.nd (qe_callTy (qc_list K) T.b_list bt_list (qa_cons (qv 0) qa_nil)))
      (qss_cons (qs_asg (qe_tup (qa_cons (qe_ixA K (qv 3) qe_int) (qa_cons (qe_ixA K (qv 3) qe_int) (qa_cons (qv 4) qa_nil)))) (qg_sub (qv 5) (qe_op qo_mod (qv 1) (qe_callB (qc_len K) T.b_len bt_len (qa_cons (qv 0) qa_nil)))))
      (qss_one (qs_ret (qv 5)))))))), fun vs Q h => ?_⟩
  obtain ⟨a, o, hs, sp, od, rfl, ⟨ys, hy, pr⟩, sm, h0, h1, ho, q⟩ := h
  refine st_eq (σ := [some _, some _, some _, none, none, none]) rfl ?_
  have ly := Paired.length pr
  have n1 := sm.n1
  have n2 := sm.n
  have m0 := Int.emod_nonneg sp (show (ys.length : Int) ≠ 0 by lia)
  have m1 := Int.emod_lt_of_pos sp (show (0 : Int) < (ys.length : Int) by lia)
  obtain ⟨i, ei⟩ := Int.eq_ofNat_of_zero_le m0
  rw [ei] at m1
  have il : i < hs.length := by lia
  have eh : hs[i]? = some hs[i] := List.getElem?_eq_getElem il
  obtain ⟨y, hyi, hv⟩ := Paired.get' pr eh
  obtain ⟨b, v, rfl, hb, b2, zs, rfl, hz, pz⟩ := hv
  have lz := Paired.length pz
  have ls := sm.s hs[i] (List.getElem_mem il)
  walk_at "rd"
  refine rd_lenL (.of hy) ?_
  walk_at "rd"
  refine rd_I (by show (0 : Int) < (ys.length : Int); lia) ?_
  rw [ei]
  refine rd_ixL (.of hy) (atI_nat hyi) ?_
  walk_at "rd"
  refine rd_ixT (.of hb) rfl ?_
  walk_at "rd"
  refine rd_listL (.of hz) fun p2 fp2 => ?_
  have s2 := (Same.refl H).updF (o := .lst zs) fp2
  have hp2 : upd H p2 (.lst zs) p2 = some (.lst zs) := upd_same
  revert s2 hp2
  generalize upd H p2 (.lst zs) = H2
  intro s2 hp2
  walk_at "rd"
  refine ⟨.inl ⟨rfl, _, .of hp2⟩, ?_⟩
  walk_at "rd"
  refine rd_lenL (.of hp2) ?_
  walk_at "rd"
  refine rd_I (by show (0 : Int) < (zs.length : Int) + 1; lia) ?_
  have k0 := Int.emod_nonneg sp (show (zs.length : Int) + 1 ≠ 0 by lia)
  have k1 := Int.emod_lt_of_pos sp (show (0 : Int) < (zs.length : Int) + 1 by lia)
  obtain ⟨j, ej⟩ := Int.eq_ofNat_of_zero_le k0
  rw [ej]
  walk_at "rd"
  refine rd_insert hp2 (by lia) (by lia) (by rw [sizeLine_eq]; lia) ?_
  rw [Int.toNat_natCast]
  have s3 : Same H (upd H2 p2 (.lst (zs.take j ++ .ref o :: zs.drop j))) := s2.updF fp2
  have hp3 : upd H2 p2 (.lst (zs.take j ++ .ref o :: zs.drop j)) p2 = some (.lst (zs.take j ++ .ref o :: zs.drop j)) := upd_same
  revert s3 hp3
  generalize upd H2 p2 (.lst (zs.take j ++ .ref o :: zs.drop j)) = H3
  intro s3 hp3
  walk_at "rd"
  refine rd_listL (.of (s3 _ _ hy)) fun p4 fp4 => ?_
  have s4 : Same H3 (upd H3 p4 (.lst ys)) := (Same.refl H3).updF fp4
  have hp4 : upd H3 p4 (.lst ys) p4 = some (.lst ys) := upd_same
  have f4 := s3.free fp4
  revert s4 hp4
  generalize upd H3 p4 (.lst ys) = H4
  intro s4 hp4
  walk_at "rd"
  refine rd_ixT (.of (s4 _ _ (s3 _ _ hb))) rfl ?_
  walk_at "rd"
  refine rd_ixT (.of (s4 _ _ (s3 _ _ hb))) rfl ?_
  walk_at "rd"
  refine ⟨by rw [sizeLine_eq]; simp, fun p5 fp5 => ?_⟩
  have s5 : Same H4 (upd H4 p5 (.tup [.int hs[i].rank, .int hs[i].comes, .ref p2])) := (Same.refl H4).updF fp5
  have hp5 : upd H4 p5 (.tup [.int hs[i].rank, .int hs[i].comes, .ref p2]) p5 = some (.tup [.int hs[i].rank, .int hs[i].comes, .ref p2]) := upd_same
  revert s5 hp5
  generalize upd H4 p5 (.tup [.int hs[i].rank, .int hs[i].comes, .ref p2]) = H5
  intro s5 hp5
  have s35 := s4.trans s5
  have s05 := s3.trans s35
  walk_at "rd"
  refine rd_lenL (.of (s05 _ _ hy)) ?_
  walk_at "rd"
  refine rd_I (by show (0 : Int) < (ys.length : Int); lia) ?_
  rw [ei]
  refine rd_set (k := i) (s5 _ _ hp4) (by lia) ?_
  have s6 : Same H (upd H5 p4 (.lst (ys.set i (.ref p5)))) := s05.updF f4
  have hp6 : upd H5 p4 (.lst (ys.set i (.ref p5))) p4 = some (.lst (ys.set i (.ref p5))) := upd_same
  have n42 : p2 ≠ p4 := fun z => by rw [z, fp4] at hp3; cases hp3
  have n45 : p5 ≠ p4 := fun z => by rw [z, hp4] at fp5; cases fp5
  have h52 : upd H5 p4 (.lst (ys.set i (.ref p5))) p2 = some (.lst (zs.take j ++ .ref o :: zs.drop j)) := by rw [upd_ne n42]; exact s35 _ _ hp3
  have h55 : upd H5 p4 (.lst (ys.set i (.ref p5))) p5 = some (.tup [.int hs[i].rank, .int hs[i].comes, .ref p2]) := by rw [upd_ne n45]; exact hp5
  revert s6 hp6 h52 h55
  generalize upd H5 p4 (.lst (ys.set i (.ref p5))) = H6
  intro s6 hp6 h52 h55
  walk_at "rd"
  refine q p4 i j H6 s6 il ⟨_, hp6, ?_⟩
  unfold spoil
  rw [eh]
  refine Paired.setP i (Paired.mapP pr fun _ _ k => k.same s6) ⟨p5, _, rfl, h55, p2, _, rfl, h52, ?_⟩
  have pz6 := Paired.mapP pz fun _ _ k => RsV.same k s6
  exact Paired.app (Paired.takeP j pz6) (.cons ⟨o, rfl, s6 _ _ ho⟩ (Paired.dropP j pz6))
theorem sc__law_early : FnScope ["_law_hands", "_law_spot", "_law_hand", "_law_made"] ["_law_hands", "_law_spot"] (defScope s__law_early) := ⟨rfl, rfl, rfl, by decide +kernel, rfl, by decide +kernel, by decide +kernel⟩
theorem ok__law_early (F : Fun K "_law_early" "_law_early" s__law_early f fd) (T : Txt mg) : FnOk P w K mg base CX0 1 f fd ["_law_hands", "_law_spot"] (sp__law_early K) := by
  refine F.okQ sc__law_early (fun vs H Q E h => ?_) (fun cdv A outer s H E hr => ?_)
  · obtain ⟨a, hs, sp, rfl, _⟩ := h
    rfl
  have hU := room200 hr
  refine ⟨_, (qss_cons (qs_set 2 sc__law_early.nd (qe_ix K (qv 0) (qe_op qo_mod (qe_op qo_fdiv (qv 1) qe_int) (qe_callB (qc_len K) T.b_len bt_len (qa_cons (qv 0) qa_nil))) (fun _ _ => rfl)))
      (qss_cons (qs_set 3 sc__law_early.nd (qe_callTy (qc_list K) T.b_list bt_list (qa_cons (qv 0) qa_nil)))
      (qss_cons (qs_asg (qe_tup (qa_cons (qe_ixA K (qv 2) qe_int) (qa_cons (qe_op qo_sub (qe_neg qe_int) (qe_op qo_mod (qv 1) qe_int)) (qa_cons (qe_ixA K (qv 2) qe_int) qa_nil)))) (qg_sub (qv 3) (qe_op qo_mod (qe_op qo_fdiv (qv 1) qe_int) (qe_callB (qc_len K) T.b_len bt_len (qa_cons (qv 0) qa_nil)))))
      (qss_one (qs_ret (qv 3)))))), fun vs Q h => ?_⟩
  obtain ⟨a, hs, sp, rfl, ⟨ys, hy, pr⟩, sm, h0, h1, q⟩ := h
  refine st_eq (σ := [some _, some _, none, none]) rfl ?_
  have ly := Paired.length pr
  have n1 := sm.n1
  have n2 := sm.n
  have m0 := Int.emod_nonneg (sp / 2) (show (ys.length : Int) ≠ 0 by lia)
  have m1 := Int.emod_lt_of_pos (sp / 2) (show (0 : Int) < (ys.length : Int) by lia)
  obtain ⟨i, ei⟩ := Int.eq_ofNat_of_zero_le m0
  rw [ei] at m1
  have il : i < hs.length := by lia
  have eh : hs[i]? = some hs[i] := List.getElem?_eq_getElem il
  obtain ⟨y, hyi, hv⟩ := Paired.get' pr eh
  obtain ⟨b, v, rfl, hb, hst⟩ := hv
  walk_at "rd"
  refine rd_I (show 0 < (2 : Int) /\ (2 : Int) < 1073741824 by decide) ?_
  walk_at "rd"
  refine rd_lenL (.of hy) ?_
  walk_at "rd"
  refine rd_I (by show (0 : Int) < (ys.length : Int); lia) ?_
  rw [ei]
  refine rd_ixL (.of hy) (atI_nat hyi) ?_
  walk_at "rd"
  refine rd_listL (.of hy) fun p4 fp4 => ?_
  have s4 : Same H (upd H p4 (.lst ys)) := (Same.refl H).updF fp4
  have hp4 : upd H p4 (.lst ys) p4 = some (.lst ys) := upd_same
  revert s4 hp4
  generalize upd H p4 (.lst ys) = H4
  intro s4 hp4
  walk_at "rd"
  refine rd_ixT (.of (s4 _ _ hb)) rfl ?_
  walk_at "rd"
  refine rd_I (by decide) ?_
  walk_at "rd"
  refine rd_ixT (.of (s4 _ _ hb)) rfl ?_
  walk_at "rd"
  refine ⟨by rw [sizeLine_eq]; simp, fun p5 fp5 => ?_⟩
  have cneg : -1 - sp % 3 < 0 := by lia
  generalize -1 - sp % 3 = c at cneg
  have s5 : Same H4 (upd H4 p5 (.tup [.int hs[i].rank, .int c, v])) := (Same.refl H4).updF fp5
  have hp5 : upd H4 p5 (.tup [.int hs[i].rank, .int c, v]) p5 = some (.tup [.int hs[i].rank, .int c, v]) := upd_same
  revert s5 hp5
  generalize upd H4 p5 (.tup [.int hs[i].rank, .int c, v]) = H5
  intro s5 hp5
  have s05 := s4.trans s5
  walk_at "rd"
  refine rd_I (show 0 < (2 : Int) /\ (2 : Int) < 1073741824 by decide) ?_
  walk_at "rd"
  refine rd_lenL (.of (s05 _ _ hy)) ?_
  walk_at "rd"
  refine rd_I (by show (0 : Int) < (ys.length : Int); lia) ?_
  rw [ei]
  refine rd_set (k := i) (s5 _ _ hp4) (by lia) ?_
  have s6 : Same H (upd H5 p4 (.lst (ys.set i (.ref p5)))) := s05.updF fp4
  have hp6 : upd H5 p4 (.lst (ys.set i (.ref p5))) p4 = some (.lst (ys.set i (.ref p5))) := upd_same
  have n45 : p5 ≠ p4 := fun z => by rw [z, hp4] at fp5; cases fp5
  have h55 : upd H5 p4 (.lst (ys.set i (.ref p5))) p5 = some (.tup [.int hs[i].rank, .int c, v]) := by rw [upd_ne n45]; exact hp5
  revert s6 hp6 h55
  generalize upd H5 p4 (.lst (ys.set i (.ref p5))) = H6
  intro s6 hp6 h55
  walk_at "rd"
  refine q p4 i c H6 s6 il cneg ⟨_, hp6, ?_⟩
  unfold early
  rw [eh]
  exact Paired.setP i (Paired.mapP pr fun _ _ k => k.same s6) ⟨p5, _, rfl, h55, hst.same s6⟩
theorem sc__law_answer : FnScope ["_law_way", "_law_hands", "_law_told", "e"] ["_law_way", "_law_hands"] (defScope s__law_answer) := ⟨rfl, rfl, rfl, by decide +kernel, rfl, by decide +kernel, by decide +kernel⟩
theorem ok__law_answer {P : Program} {w : World} {K : PySem.W.Frag} {mg : Str -> Option Value} {base : Heap} {f : Addr} {fd : FuncData} {C R C1 C2 : Addr} (F : Fun K "_law_answer" "_law_answer" s__law_answer f fd) (T : Txt mg) (TR : TxtR K mg R C1 C2)
    (G_pages_of : Cal1 P w K mg base "pages_of" ["hands"] 8 (sp_ok_or_bad (sp_pages_of K C) C1 C2)) (G_diary : Cal1 P w K mg base "diary" ["hands"] 8 (sp_ok_or_bad (sp_diary K C) C1 C2)) (G_rings : Cal1 P w K mg base "rings" ["hands"] 8 (sp_ok_or_bad (sp_rings K C) C1 C2)) :
    FnOk P w K mg base CX0 9 f fd ["_law_way", "_law_hands"] (sp__law_answer C1 C2) := by
  refine F.ok sc__law_answer (fun vs H Q E h => ?_) (fun cdv A outer s H vs Q E hr h => ?_)
  · obtain ⟨k, a, D, rfl, _⟩ := h
    rfl
  have hU := room200 hr
  obtain ⟨k, a, D, rfl, fate, q⟩ := h
  have hd := TR
  let σ0 : St := [some (.int k), some (.ref a), some (.str "done"), none]
  let E0 : XK := fun _ C' H' => C' = D /\ Same H H'
  refine ⟨_, ((qss_cons (qs_set 2 sc__law_answer.nd qe_str)
      (qss_cons (qs_try (σ0 := σ0) (E := E0) 3 sc__law_answer.nd TR.r0 (fun xe pn hx => (qss_one (qs_if (qt_cmp (qo_eq K hU) (qv 0) qe_int (nomark _)) (qss_one (qs_expr (qe_callT G_pages_of (hr.mono (by decide)) hx (qa_cons (qv 1) qa_nil)))) (qss_one (qs_if (qt_cmp (qo_eq K hU) (qv 0) qe_int (nomark _)) (qss_one (qs_expr (qe_callT G_diary (hr.mono (by decide)) hx (qa_cons (qv 1) qa_nil)))) (qss_one (qs_expr (qe_callT G_rings (hr.mono (by decide)) hx (qa_cons (qv 1) qa_nil))))))))) (fun e => (qss_cons (qs_set 2 sc__law_answer.nd qe_str)
      (qss_cons (qs_if (qt_tru K (qe_callB (qc_isiE K) T.b_isinstance bt_isinstance (qa_cons (qv 3) (qa_cons (qe_cls TR.n1) qa_nil))) (fun _ => rfl)) (qss_one (qs_set 2 sc__law_answer.nd qe_str)) qss_nil)
      (qss_cons (qs_if (qt_tru K (qe_callB (qc_isiE K) T.b_isinstance bt_isinstance (qa_cons (qv 3) (qa_cons (qe_cls TR.n2) qa_nil))) (fun _ => rfl)) (qss_one (qs_set 2 sc__law_answer.nd (qe_ix K (qe_lst (qa_cons qe_str (qa_cons qe_str qa_nil))) (qe_callTy qc_int T.b_int bt_int (qa_cons (qe_cmp (qo_eq K (by exact hU)) (qv 2) qe_str (nomark _)) qa_nil)) (fun _ _ => rfl)))) qss_nil)
      (qss_one (qs_if (qt_not (qt_tru K (qe_callB (qc_isiE K) T.b_isinstance bt_isinstance (qa_cons (qv 3) (qa_cons (qe_ty "ValueError" TR.nv bt_ValueError) qa_nil))) (fun _ => rfl))) (qss_one (qs_set 2 sc__law_answer.nd qe_str)) qss_nil)))))))
      (qss_one (qs_ret (qv 2))))) : QSs _ _ _).run, ?_⟩
  refine st_eq (σ := [some _, some _, none, none]) rfl ?_
  have bad : ∀ {s : Sp} {Q : VK} {D' : Addr}, D = some D' -> sp_ok_or_bad s C1 C2 [.ref a] H Q E0 := fun {s Q D'} e => by
    subst e
    obtain ⟨hs, h1, h2, h3⟩ := fate
    exact .inr ⟨a, hs, D', rfl, h1, h2, h3, fun _ H' s => ⟨rfl, s⟩⟩
  walk_at "rd"
  rename_i R1 e1 R' eR
  refine ⟨?_, ?_⟩
  · have call : ∀ {s : Sp} {Q' : VK}, (∀ hs, HandsAt H a hs -> (∀ h ∈ hs, 0 <= h.comes) -> Small hs -> (∀ v H', Same H H' -> Q' v H') -> s [.ref a] H Q' E0) -> (∀ v H', Same H H' -> D = none -> Q' v H') -> sp_ok_or_bad s C1 C2 [.ref a] H Q' E0 := fun {s Q'} h1 h2 => by
      cases e : D with
      | some D' => exact bad e
      | none =>
        subst e
        obtain ⟨hs, h3, h4, h5⟩ := fate
        exact .inl (h1 hs h3 h4 h5 fun v H' s1 => h2 v H' s1 rfl)
    walk_at "rd"
    have fin : ∀ (v : V) (H' : Hp), Same H H' -> D = none -> R' [some (V.int k), some (V.ref a), some (V.str "done"), none] H' := fun v H' s1 e => by
      walk_at "rd"
      have := q H' s1
      rw [e] at this
      exact this
    split
    · walk_at "rd"
      refine ⟨rfl, ?_⟩
      walk_at "rd"
      refine call (fun hs h1 h2 h3 h4 => ⟨a, hs, rfl, h1, h2, h3, fun p ys pgs m H' s1 _ _ _ _ => h4 (.ref p) H' s1⟩) fin
    · walk_at "rd"
      split
      · walk_at "rd"
        refine ⟨rfl, ?_⟩
        walk_at "rd"
        refine call (fun hs h1 h2 h3 h4 => ⟨a, hs, rfl, h1, h2, h3, fun p ys m H' s1 _ _ _ _ _ _ => h4 (.ref p) H' s1⟩) fin
      · walk_at "rd"
        refine ⟨rfl, ?_⟩
        walk_at "rd"
        refine call (fun hs h1 h2 h3 h4 => ⟨a, hs, rfl, h1, h2, h3, fun p ys Ls m H' s1 _ _ _ _ _ => h4 (.ref p) H' s1⟩) fin
  · intro a' C' H1 hE fa
    obtain ⟨rfl, s1⟩ := hE
    obtain ⟨hs, h1, h2, h3⟩ := fate
    have s2 : Same H (upd H1 a' (ExcO a' C')) := s1.updF (s1.free fa)
    have ha' : upd H1 a' (ExcO a' C') a' = some (ExcO a' C') := upd_same
    have q2 := q _ s2
    revert s2 ha' q2
    generalize upd H1 a' (ExcO a' C') = H2
    intro s2 ha' q2
    have e12 : C1 ≠ C2 := fun e => by have z1 := TR.i11; have z2 := TR.i12; rw [<- e, z1] at z2; cases z2
    rcases h3 with ⟨_, rfl⟩ | ⟨_, _, rfl⟩
    · refine ⟨TR.x1, ?_⟩
      rw [show List.set σ0 3 (some (V.ref a')) = [some (.int k), some (.ref a), some (.str "done"), some (V.ref a')] from rfl]
      walk_at "rd"
      refine ⟨a', C', .ref C', .ref C', true, rfl, ha', TR.k1, rfl, fun _ h => h, TR.i11, ?_⟩
      walk_at "rd"
      refine iteT ?_
      walk_at "rd"
      refine ⟨a', C', .ref C2, .ref C2, false, rfl, ha', TR.k1, rfl, fun _ h => h, TR.i12, ?_⟩
      walk_at "rd"
      refine iteF ?_
      walk_at "rd"
      refine ⟨a', C', .ty "ValueError", .type "ValueError", true, rfl, ha', TR.k1, rfl, fun _ h => h, TR.v1, ?_⟩
      walk_at "rd"
      refine iteF ?_
      walk_at "rd"
      refine ⟨⟨_, rfl⟩, ?_⟩
      rw [eR]
      walk_at "rd"
      rw [toldS, if_pos rfl] at q2
      exact q2
    · refine ⟨TR.x2, ?_⟩
      rw [show List.set σ0 3 (some (V.ref a')) = [some (.int k), some (.ref a), some (.str "done"), some (V.ref a')] from rfl]
      walk_at "rd"
      refine ⟨a', C', .ref C1, .ref C1, false, rfl, ha', TR.k2, rfl, fun _ h => h, TR.i21, ?_⟩
      walk_at "rd"
      refine iteF ?_
      walk_at "rd"
      refine ⟨a', C', .ref C', .ref C', true, rfl, ha', TR.k2, rfl, fun _ h => h, TR.i22, ?_⟩
      walk_at "rd"
      refine iteT ?_
      walk_at "rd"
      refine ⟨by rw [sizeLine_eq]; show 2 <= _; lia, fun p fp => ?_⟩
      have hp : upd H2 p (.lst [.str "other", .str "no step"]) p = some (.lst [.str "other", .str "no step"]) := upd_same
      have s3 := s2.updF (o := .lst [.str "other", .str "no step"]) (s2.free fp)
      have ha3 : upd H2 p (.lst [.str "other", .str "no step"]) a' = some (ExcO a' C') := by rw [upd_ne (ne_of_none ha' fp)]; exact ha'
      have q3 := q _ s3
      revert hp s3 ha3 q3
      generalize upd H2 p (.lst [.str "other", .str "no step"]) = H3
      intro hp s3 ha3 q3
      walk_at "rd"
      refine .inr ⟨_, rfl, ?_⟩
      refine rd_ixL (.of hp) (v := .str "no step") ?_ ?_
      · decide +kernel
      walk_at "rd"
      refine ⟨a', C', .ty "ValueError", .type "ValueError", true, rfl, ha3, TR.k2, rfl, fun _ h => h, TR.v2, ?_⟩
      walk_at "rd"
      refine iteF ?_
      walk_at "rd"
      refine ⟨⟨_, rfl⟩, ?_⟩
      rw [eR]
      walk_at "rd"
      rw [toldS, if_neg (Ne.symm e12)] at q3
      exact q3
theorem sc_law : FnScope ["_law_script", "_law_count", "_law_hands", "_law_spoil", "_law_spot", "_law_odds", "_law_due", "_law_handed", "_law_way", "_law_k"] ["_law_script"] (defScope s_law) := ⟨rfl, rfl, rfl, by decide +kernel, rfl, by decide +kernel, by decide +kernel⟩
theorem ok_law {R C1 C2 : Addr} (F : Fun K "law" "law" s_law f fd) (T : Txt mg) (TR : TxtR K mg R C1 C2) (G__law_upto : Cal P w K mg base "_law_upto" ["_law_script", "_law_small", "_law_great"] 1 (sp__law_upto K)) (G__law_whole : Cal P w K mg base "_law_whole" ["_law_found"] 1 (sp__law_whole K)) (G__law_at : Cal P w K mg base "_law_at" ["_law_script", "_law_k"] 1 (sp__law_at K)) (G__law_hands_of : Cal P w K mg base "_law_hands_of" ["_law_cells", "_law_count", "_law_seed"] 1 (sp__law_hands_of K)) (G__law_spoilt : Cal P w K mg base "_law_spoilt" ["_law_hands", "_law_spot", "_law_odd"] 1 (sp__law_spoilt K)) (G__law_early : Cal P w K mg base "_law_early" ["_law_hands", "_law_spot"] 1 (sp__law_early K)) (G__law_answer : Cal P w K mg base "_law_answer" ["_law_way", "_law_hands"] 9 (sp__law_answer C1 C2)) : FnOk P w K mg base CX0 10 f fd ["_law_script"] (sp_law K) := by
  refine F.okQ sc_law (fun vs H Q E h => ?_) (fun cdv A outer s H E hr => ?_)
  · obtain ⟨a, ns, rfl, _⟩ := h
    rfl
  have hU := room200 hr
  refine ⟨_, (qss_cons (qs_set 0 sc_law.nd (qe_slice K (qv 0) qo_none (qo_some qe_int)))
      (qss_cons (qs_set 1 sc_law.nd (qe_op qo_add qe_int (qe_op qo_mod (qe_callC G__law_at hr.up (qa_cons (qv 0) (qa_cons qe_int qa_nil))) (qe_callC G__law_upto hr.up (qa_cons (qv 0) (qa_cons qe_int (qa_cons qe_int qa_nil)))))))
      (qss_cons (qs_set 2 sc_law.nd (qe_callC G__law_hands_of hr.up (qa_cons (qe_slice K (qv 0) (qo_some qe_int) qo_none) (qa_cons (qv 1) (qa_cons (qe_callC G__law_at hr.up (qa_cons (qv 0) (qa_cons qe_int qa_nil))) qa_nil)))))
      (qss_cons (qs_set 3 sc_law.nd (qe_op qo_mod (qe_callC G__law_at hr.up (qa_cons (qv 0) (qa_cons qe_int qa_nil))) qe_int))
      (qss_cons (qs_set 4 sc_law.nd (qe_op qo_mod (qe_op qo_fdiv (qe_callC G__law_at hr.up (qa_cons (qv 0) (qa_cons qe_int qa_nil))) qe_int) qe_int))
      (qss_cons (qs_set 5 sc_law.nd (qe_lst (qa_cons (qe_tup (qa_cons qe_str qa_nil)) (qa_cons (qe_tup (qa_cons qe_str qa_nil)) (qa_cons (qe_tup (qa_cons qe_str (qa_cons qe_int (qa_cons qe_int qa_nil)))) (qa_cons (qe_tup (qa_cons qe_str (qa_cons qe_int qa_nil))) (qa_cons (qe_tup (qa_cons qe_str qa_nil)) (qa_cons (qe_tup (qa_cons qe_str (qa_cons qe_int qa_nil))) (qa_cons (qe_tup (qa_cons qe_str (qa_cons qe_int (qa_cons qe_int qa_nil)))) qa_nil)))))))))
      (qss_cons (qs_set 5 sc_law.nd (qe_op qo_add (qv 5) (qe_lst (qa_cons (qe_tup (qa_cons qe_str qa_nil)) (qa_cons (qe_tup (qa_cons qe_str qa_nil)) (qa_cons (qe_tup (qa_cons qe_str (qa_cons qe_int qa_nil))) (qa_cons (qe_tup (qa_cons qe_str (qa_cons qe_int (qa_cons qe_int qa_nil)))) (qa_cons (qe_tup (qa_cons qe_str (qa_cons qe_int qa_nil))) qa_nil))))))))
      (qss_cons (qs_set 6 sc_law.nd qe_str)
      (qss_cons (qs_if (qt_w (qw_or (qt_cmp (qo_eq K hU) (qv 3) qe_int (nomark _)) (qw_or1 (qt_cmp (qo_eq K hU) (qv 3) qe_int (nomark _))))) (qss_cons (qs_set 2 sc_law.nd (qe_callC G__law_spoilt hr.up (qa_cons (qv 2) (qa_cons (qv 4) (qa_cons (qe_ix K (qv 5) (qe_op qo_mod (qe_callC G__law_at hr.up (qa_cons (qv 0) (qa_cons qe_int qa_nil))) qe_int) (fun _ _ => rfl)) qa_nil)))))
      (qss_one (qs_set 6 sc_law.nd qe_str))) qss_nil)
      (qss_cons (qs_if (qt_w (qw_or (qt_cmp (qo_eq K hU) (qv 3) qe_int (nomark _)) (qw_or1 (qt_cmp (qo_eq K hU) (qv 3) qe_int (nomark _))))) (qss_cons (qs_set 2 sc_law.nd (qe_callC G__law_early hr.up (qa_cons (qv 2) (qa_cons (qv 4) qa_nil))))
      (qss_one (qs_set 6 sc_law.nd qe_str))) qss_nil)
      (qss_cons (qs_setComp 7 sc_law.nd noX (own := ["_law_hand"]) (taken := []) (caps := []) (csc (defScope s_law) ["_law_script", "_law_count", "_law_hands", "_law_spoil", "_law_spot", "_law_odds", "_law_due", "_law_handed", "_law_way", "_law_k"] (by decide +kernel)) (qi_list K (qv 2)) ⟨fun _ _ _ _ _ => ⟨(qg_name 0 (show (["_law_hand"] : List Str).Nodup by decide +kernel)), qif_nil, (qe_tup (qa_cons (qe_ixA K (qv 0) qe_int) (qa_cons (qe_ixA K (qv 0) qe_int) (qa_cons (qe_callTy (qc_list K) T.b_list bt_list (qa_cons (qe_ixA K (qv 0) qe_int) qa_nil)) qa_nil))))⟩, (gw_name (by decide))⟩)
      (qss_cons (qs_for (qi_range1 T.b_range (qa_cons qe_int qa_nil)) (qg_name 8 sc_law.nd) (qss_one (qs_if (qt_cmp (qo_ne K hU) (qe_callC G__law_answer hr.up (qa_cons (qv 8) (qa_cons (qv 7) qa_nil))) (qv 6) (nomark _)) (qss_one (qs_ret qe_bl)) qss_nil)))
      (qss_cons (qs_if (qt_cmp (qo_ne K hU) (qe_callB (qc_len K) T.b_len bt_len (qa_cons (qv 7) qa_nil)) (qe_callB (qc_len K) T.b_len bt_len (qa_cons (qv 2) qa_nil)) (nomark _)) (qss_one (qs_ret qe_bl)) qss_nil)
      (qss_cons (qs_for (qi_range1 T.b_range (qa_cons (qe_callB (qc_len K) T.b_len bt_len (qa_cons (qv 2) qa_nil)) qa_nil)) (qg_name 9 sc_law.nd) (qss_one (qs_if (qt_w (qw_or (qt_not (qt_tru K (qe_callC G__law_whole hr.up (qa_cons (qe_ixA K (qe_ix K (qv 7) (qv 9) (fun _ _ => rfl)) qe_int) qa_nil)) (fun _ => rfl))) (qw_or1 (qt_cmp (qo_ne K hU) (qe_ixA K (qv 7) (qv 9)) (qe_ixA K (qv 2) (qv 9)) (nomark _))))) (qss_one (qs_ret qe_bl)) qss_nil)))
      (qss_one (qs_ret qe_bl)))))))))))))))), fun vs Q h => ?_⟩
  obtain ⟨a, ns, rfl, hS, hlen, q⟩ := h
  refine st_eq (σ := [some _, none, none, none, none, none, none, none, none, none]) rfl ?_
  have e12 : C1 ≠ C2 := fun e => by have z1 := TR.i11; have z2 := TR.i12; rw [<- e, z1] at z2; cases z2
  walk_at "rd"
  refine rd_slL hS fun p0 f0 => ?_
  rw [show (100 : Int) = ((100 : Nat) : Int) from rfl, cut_to, <- List.map_take, List.take_of_length_le (by lia)]
  obtain ⟨H1, e1, _, h0⟩ := alloc_ex f0 (.lst (ns.map V.int))
  rw [e1]
  walk_at "rd"
  refine ⟨p0, ns, 0, rfl, .of h0, ?_⟩
  walk_at "rd"
  refine ⟨p0, ns, _, _, rfl, .of h0, hlen, ?_⟩
  refine rd_I (by decide) ?_
  walk_at "rd"
  obtain ⟨c, hc⟩ : ∃ c : Nat, (c : Int) = 1 + ns.getD 0 0 % 6 := ⟨(1 + ns.getD 0 0 % 6).toNat, by lia⟩
  rw [<- hc]
  walk_at "rd"
  refine rd_slL (.of h0) fun p1 f1 => ?_
  rw [show (3 : Int) = ((3 : Nat) : Int) from rfl, cut_from, <- List.map_drop]
  obtain ⟨H2, e2, s2, g1⟩ := alloc_ex f1 (.lst ((ns.drop 3).map V.int))
  rw [e2]
  have g0 := s2 _ _ h0
  walk_at "rd"
  refine ⟨p0, ns, 1, rfl, .of g0, ?_⟩
  walk_at "rd"
  refine ⟨p1, ns.drop 3, c, _, rfl, .of g1, by simp; lia, by lia, by lia, fun ph hs H3 s3 fh hh ok => ?_⟩
  have g0 := s3 _ _ g0
  obtain ⟨rsm, rst, rcm⟩ := raw_sm ok (by lia) (by lia)
  have hr := hh.raw
  have fate0 : FateR C1 C2 (hs.map rawH) none := ⟨hs, rfl, ok.come, ok.small⟩
  revert rsm rst rcm hr fate0
  generalize hs.map rawH = rs
  intro rsm rst rcm hr fate0
  walk_at "rd"
  refine ⟨p0, ns, 2, rfl, .of g0, ?_⟩
  refine rd_I (by decide) ?_
  walk_at "rd"
  refine ⟨p0, ns, 2, rfl, .of g0, ?_⟩
  refine rd_I ⟨by decide, by decide⟩ ?_
  walk_at "rd"
  refine rd_I (by decide) ?_
  walk_at "rd"
  have sp0 : 0 <= ns.getD 2 0 / 5 % 100 := by lia
  have sp1 : ns.getD 2 0 / 5 % 100 < 100 := by lia
  have m0 : 0 <= ns.getD 2 0 % 5 := by lia
  have m1 : ns.getD 2 0 % 5 < 5 := by lia
  generalize ns.getD 2 0 / 5 % 100 = spot at sp0 sp1
  generalize ns.getD 2 0 % 5 = mode at m0 m1
  refine ⟨by rw [sizeLine_eq]; simp, fun o1 fo1 => ?_⟩
  obtain ⟨G1, eG1, t1, ho1⟩ := alloc_ex fo1 (.tup [.str "rest"])
  rw [eG1]
  walk_at "rd"
  refine ⟨by rw [sizeLine_eq]; simp, fun o2 fo2 => ?_⟩
  obtain ⟨G2, eG2, t2, ho2⟩ := alloc_ex fo2 (.tup [.str "take"])
  rw [eG2]
  walk_at "rd"
  refine ⟨by rw [sizeLine_eq]; simp, fun o3 fo3 => ?_⟩
  obtain ⟨G3, eG3, t3, ho3⟩ := alloc_ex fo3 (.tup [.str "give", .int 1, .int 2])
  rw [eG3]
  walk_at "rd"
  refine ⟨by rw [sizeLine_eq]; simp, fun o4 fo4 => ?_⟩
  obtain ⟨G4, eG4, t4, ho4⟩ := alloc_ex fo4 (.tup [.str "work", .int 1])
  rw [eG4]
  walk_at "rd"
  refine ⟨by rw [sizeLine_eq]; simp, fun o5 fo5 => ?_⟩
  obtain ⟨G5, eG5, t5, ho5⟩ := alloc_ex fo5 (.tup [.str "give"])
  rw [eG5]
  walk_at "rd"
  refine ⟨by rw [sizeLine_eq]; simp, fun o6 fo6 => ?_⟩
  obtain ⟨G6, eG6, t6, ho6⟩ := alloc_ex fo6 (.tup [.str "", .int 3])
  rw [eG6]
  walk_at "rd"
  refine ⟨by rw [sizeLine_eq]; simp, fun o7 fo7 => ?_⟩
  obtain ⟨G7, eG7, t7, ho7⟩ := alloc_ex fo7 (.tup [.str "take", .int 0, .int 0])
  rw [eG7]
  walk_at "rd"
  refine ⟨by rw [sizeLine_eq]; simp, fun l1 fl1 => ?_⟩
  obtain ⟨K1, eK1, sK1, hl1⟩ := alloc_ex fl1 (.lst [.ref o1, .ref o2, .ref o3, .ref o4, .ref o5, .ref o6, .ref o7])
  rw [eK1]
  walk_at "rd"
  refine ⟨by rw [sizeLine_eq]; simp, fun o8 fo8 => ?_⟩
  obtain ⟨G8, eG8, t8, ho8⟩ := alloc_ex fo8 (.tup [.str "Work"])
  rw [eG8]
  walk_at "rd"
  refine ⟨by rw [sizeLine_eq]; simp, fun o9 fo9 => ?_⟩
  obtain ⟨G9, eG9, t9, ho9⟩ := alloc_ex fo9 (.tup [.str "wait"])
  rw [eG9]
  walk_at "rd"
  refine ⟨by rw [sizeLine_eq]; simp, fun o10 fo10 => ?_⟩
  obtain ⟨G10, eG10, t10, ho10⟩ := alloc_ex fo10 (.tup [.str "takes", .int 1])
  rw [eG10]
  walk_at "rd"
  refine ⟨by rw [sizeLine_eq]; simp, fun o11 fo11 => ?_⟩
  obtain ⟨G11, eG11, t11, ho11⟩ := alloc_ex fo11 (.tup [.str "work", .int 0, .int 0])
  rw [eG11]
  walk_at "rd"
  refine ⟨by rw [sizeLine_eq]; simp, fun o12 fo12 => ?_⟩
  obtain ⟨G12, eG12, t12, ho12⟩ := alloc_ex fo12 (.tup [.str "give ", .int 1])
  rw [eG12]
  walk_at "rd"
  refine ⟨by rw [sizeLine_eq]; simp, fun l2 fl2 => ?_⟩
  obtain ⟨K2, eK2, sK2, hl2⟩ := alloc_ex fl2 (.lst [.ref o8, .ref o9, .ref o10, .ref o11, .ref o12])
  rw [eK2]
  have u12 : Same G12 K2 := sK2
  have u11 : Same G11 K2 := t12.trans u12
  have u10 : Same G10 K2 := t11.trans u11
  have u9 : Same G9 K2 := t10.trans u10
  have u8 : Same G8 K2 := t9.trans u9
  have uK : Same K1 K2 := t8.trans u8
  have u7 : Same G7 K2 := sK1.trans uK
  have u6 : Same G6 K2 := t7.trans u7
  have u5 : Same G5 K2 := t6.trans u6
  have u4 : Same G4 K2 := t5.trans u5
  have u3 : Same G3 K2 := t4.trans u4
  have u2 : Same G2 K2 := t3.trans u3
  have u1 : Same G1 K2 := t2.trans u2
  have u0 : Same H3 K2 := t1.trans u1
  have ho1 := u1 _ _ ho1
  have ho2 := u2 _ _ ho2
  have ho3 := u3 _ _ ho3
  have ho4 := u4 _ _ ho4
  have ho5 := u5 _ _ ho5
  have ho6 := u6 _ _ ho6
  have ho7 := u7 _ _ ho7
  have ho8 := u8 _ _ ho8
  have ho9 := u9 _ _ ho9
  have ho10 := u10 _ _ ho10
  have ho11 := u11 _ _ ho11
  have ho12 := u12 _ _ ho12
  walk_at "rd"
  refine rd_cat (uK _ _ hl1) hl2 (by rw [sizeLine_eq]; simp) fun lo flo => ?_
  obtain ⟨K3, eK3, sK3, hlo⟩ := alloc_ex flo (.lst ([.ref o1, .ref o2, .ref o3, .ref o4, .ref o5, .ref o6, .ref o7] ++ [.ref o8, .ref o9, .ref o10, .ref o11, .ref o12]))
  rw [eK3]
  have pick : ∀ r : Int, 0 <= r -> r < 12 -> ∃ o od, atI [V.ref o1, .ref o2, .ref o3, .ref o4, .ref o5, .ref o6, .ref o7, .ref o8, .ref o9, .ref o10, .ref o11, .ref o12] r = some (.ref o) /\ K3 o = some (.tup (rsL od)) /\ okS od = false := fun r h1 h2 => by
    have : r = 0 ∨ r = 1 ∨ r = 2 ∨ r = 3 ∨ r = 4 ∨ r = 5 ∨ r = 6 ∨ r = 7 ∨ r = 8 ∨ r = 9 ∨ r = 10 ∨ r = 11 := by lia
    rcases this with rfl | rfl | rfl | rfl | rfl | rfl | rfl | rfl | rfl | rfl | rfl | rfl
    · exact ⟨o1, ("rest", []), rfl, sK3 _ _ ho1, by decide +kernel⟩
    · exact ⟨o2, ("take", []), rfl, sK3 _ _ ho2, by decide +kernel⟩
    · exact ⟨o3, ("give", [1, 2]), rfl, sK3 _ _ ho3, by decide +kernel⟩
    · exact ⟨o4, ("work", [1]), rfl, sK3 _ _ ho4, by decide +kernel⟩
    · exact ⟨o5, ("give", []), rfl, sK3 _ _ ho5, by decide +kernel⟩
    · exact ⟨o6, ("", [3]), rfl, sK3 _ _ ho6, by decide +kernel⟩
    · exact ⟨o7, ("take", [0, 0]), rfl, sK3 _ _ ho7, by decide +kernel⟩
    · exact ⟨o8, ("Work", []), rfl, sK3 _ _ ho8, by decide +kernel⟩
    · exact ⟨o9, ("wait", []), rfl, sK3 _ _ ho9, by decide +kernel⟩
    · exact ⟨o10, ("takes", [1]), rfl, sK3 _ _ ho10, by decide +kernel⟩
    · exact ⟨o11, ("work", [0, 0]), rfl, sK3 _ _ ho11, by decide +kernel⟩
    · exact ⟨o12, ("give ", [1]), rfl, sK3 _ _ ho12, by decide +kernel⟩
  have s3K := u0.trans sK3
  have g0 := s3K _ _ g0
  have hr := hr.same s3K
  clear ho1 ho2 ho3 ho4 ho5 ho6 ho7 ho8 ho9 ho10 ho11 ho12
  walk_at "rd"
  rename_i R1 eR1
  have second : ∀ (ph' : Addr) (rs' : List Rh) (D : Option Addr) (H' : Hp), RawAt H' ph' rs' -> RSm rs' -> FateR C1 C2 rs' D ->
      R1 [some (.ref p0), some (.int (c : Int)), some (.ref ph'), some (.int mode), some (.int spot), some (.ref lo), some (.str (toldS C1 D)), none, none, none] H' := by
    intro ph' rs' D H' r1 sm1 ft1
    walk_at "rd"
    rename_i R2 eR2
    have third : ∀ (ph' : Addr) (rs' : List Rh) (D : Option Addr) (H' : Hp), RawAt H' ph' rs' -> RSm rs' -> FateR C1 C2 rs' D ->
        R2 [some (.ref p0), some (.int (c : Int)), some (.ref ph'), some (.int mode), some (.int spot), some (.ref lo), some (.str (toldS C1 D)), none, none, none] H' := by
      intro ph' rs' D H' r1 sm1 ft1
      obtain ⟨ys, hy, pr⟩ := r1
      have ly := Paired.length pr
      have n30 := sm1.n
      walk_at "rd"
      refine comp_lst (xs := ys) (fun n acc G => Same H' G /\ Paired (RhV G) acc (rs'.take n)) (by rw [sizeLine_eq]; lia) ⟨Same.refl H', .nil⟩ (fun n acc G _ ⟨s, _⟩ => .of (s _ _ hy)) ?_ ?_
      · rintro n y acc G1 hn ⟨s1, p1⟩
        obtain ⟨h, hh, hv⟩ := Paired.get pr hn
        have tk : rs'.take (n + 1) = rs'.take n ++ [h] := by rw [List.take_add_one, hh]; rfl
        obtain ⟨b, v, rfl, hb, b2, zs, rfl, hz, pz⟩ := hv.same s1
        walk_at "rd"
        refine iteT ?_
        walk_at "rd"
        refine rd_ixT (.of hb) rfl ?_
        walk_at "rd"
        refine rd_ixT (.of hb) rfl ?_
        walk_at "rd"
        refine rd_ixT (.of hb) rfl ?_
        walk_at "rd"
        refine rd_listL (.of hz) fun p2 fp2 => ?_
        obtain ⟨G2, eG2, s2, hp2⟩ := alloc_ex fp2 (.lst zs)
        rw [eG2]
        walk_at "rd"
        refine ⟨by rw [sizeLine_eq]; simp, fun p3 fp3 => ?_⟩
        have s3 := (Same.refl G2).updF (o := .tup [.int h.rank, .int h.comes, .ref p2]) fp3
        refine ⟨s1.trans (s2.trans s3), ?_⟩
        rw [tk]
        refine Paired.app (Paired.mapP p1 fun _ _ k => k.same (s2.trans s3)) (.cons ⟨p3, .ref p2, rfl, upd_same, p2, zs, rfl, s3 _ _ hp2, Paired.mapP pz fun _ _ k => k.same (s2.trans s3)⟩ .nil)
      rintro acc G1 ⟨s1, p1⟩ pc fpc
      rw [ly, List.take_length] at p1
      obtain ⟨G2, eG2, s2, hpc⟩ := alloc_ex fpc (.lst acc)
      rw [eG2]
      have p2 : Paired (RhV G2) acc rs' := Paired.mapP p1 fun _ _ k => k.same s2
      have la := Paired.length p2
      have hy2 := s2 _ _ (s1 _ _ hy)
      have pr2 : Paired (RhV G2) ys rs' := Paired.mapP pr fun _ _ k => k.same (s1.trans s2)
      walk_at "rd"
      refine for_rng (fun n σ G => ∃ v8, σ = [some (.ref p0), some (.int (c : Int)), some (.ref ph'), some (.int mode), some (.int spot), some (.ref lo), some (.str (toldS C1 D)), some (.ref pc), v8, none] /\ Same G2 G) (by decide) ⟨none, rfl, Same.refl G2⟩ ?_ ?_
      · rintro n σ G hn ⟨v8, rfl, s3⟩
        rw [show (0 : Int) + (n : Int) = (n : Int) by lia]
        walk_at "rd"
        refine ⟨n, pc, D, rfl, ft1.at (RawAt.same ⟨acc, hpc, p2⟩ s3) sm1, fun G3 s4 => ?_⟩
        walk_at "rd"
        refine iteN (by simp) ?_
        walk_at "rd"
        exact ⟨_, rfl, s3.trans s4⟩
      rintro σ G ⟨v8, rfl, s3⟩
      have hpc := s3 _ _ hpc
      have hy2 := s3 _ _ hy2
      walk_at "rd"
      refine rd_lenL (.of hpc) ?_
      walk_at "rd"
      refine rd_lenL (.of hy2) ?_
      walk_at "rd"
      refine iteN (by simp; lia) ?_
      walk_at "rd"
      refine rd_lenL (.of hy2) ?_
      walk_at "rd"
      refine for_rng (fun n σ G' => ∃ v9, σ = [some (.ref p0), some (.int (c : Int)), some (.ref ph'), some (.int mode), some (.int spot), some (.ref lo), some (.str (toldS C1 D)), some (.ref pc), v8, v9] /\ G' = G) (by lia) ⟨none, rfl, rfl⟩ ?_ ?_
      · rintro n σ G' hn ⟨v9, rfl, rfl⟩
        rw [show (0 : Int) + (n : Int) = (n : Int) by lia]
        have hp : rs'[n]? = some (rs'[n]'(by lia)) := List.getElem?_eq_getElem (by lia)
        obtain ⟨x, hx, px⟩ := Paired.get' (Paired.mapP p2 fun _ _ k => k.same s3) hp
        obtain ⟨y, hy', py⟩ := Paired.get' (Paired.mapP pr2 fun _ _ k => k.same s3) hp
        obtain ⟨bx, vx, rfl, tx, _⟩ := id px
        walk_at "rd"
        refine rd_ixL (.of hpc) (atI_nat hx) ?_
        walk_at "rd"
        refine rd_ixT (.of tx) rfl ?_
        walk_at "rd"
        refine ⟨_, rfl, ?_⟩
        walk_at "rd"
        refine iteF ?_
        walk_at "rd"
        refine rd_ixL (.of hpc) (atI_nat hx) ?_
        walk_at "rd"
        refine rd_ixL (.of hy2) (atI_nat hy') ?_
        refine rd_neD px.rep py.rep trivial (dp_rh _) ?_
        rw [eqD_refl]
        walk_at "rd"
        refine iteF ?_
        walk_at "rd"
        exact ⟨_, rfl, rfl⟩
      · rintro σ G' ⟨v9, rfl, rfl⟩
        walk_at "rd"
        exact q _
    clear eR2
    by_cases h2 : mode = 2
    · refine iteP (by simp [h2]) (iteT ?_)
      walk_at "rd"
      refine ⟨ph', rs', spot, rfl, r1, sm1, sp0, sp1, fun p i cc G s1 il hcc hr' => ?_⟩
      walk_at "rd"
      have z := third p _ (some C1) G hr' (early_sm sm1) (early_bad il hcc)
      rw [toldS, if_pos rfl] at z
      exact z
    · refine iteN (by simp [h2]) ?_
      walk_at "rd"
      by_cases h3 : mode = 3
      · refine iteP (by simp [h3]) ?_
        walk_at "rd"
        refine ⟨ph', rs', spot, rfl, r1, sm1, sp0, sp1, fun p i cc G s1 il hcc hr' => ?_⟩
        walk_at "rd"
        have z := third p _ (some C1) G hr' (early_sm sm1) (early_bad il hcc)
        rw [toldS, if_pos rfl] at z
        exact z
      · refine iteN (by simp [h3]) ?_
        walk_at "rd"
        exact third ph' rs' D H' r1 sm1 ft1
  clear eR1
  by_cases h1 : mode = 1
  · refine iteP (by simp [h1]) (iteT ?_)
    walk_at "rd"
    refine ⟨p0, ns, 6, rfl, .of g0, ?_⟩
    refine rd_I (by decide) ?_
    obtain ⟨o, od, hat, hod, hbad⟩ := pick (ns.getD 6 0 % 12) (by lia) (by lia)
    refine rd_ixL (.of hlo) hat ?_
    walk_at "rd"
    refine ⟨ph, o, rs, spot, od, rfl, hr, rsm, sp0, sp1, hod, fun p i j G s1 il hr' => ?_⟩
    walk_at "rd"
    have z := second p _ (some C2) G hr' (spoil_sm rsm rst) (spoil_bad rcm il hbad)
    rw [toldS, if_neg (Ne.symm e12)] at z
    exact z
  · refine iteN (by simp [h1]) ?_
    walk_at "rd"
    by_cases h3 : mode = 3
    · refine iteP (by simp [h3]) ?_
      walk_at "rd"
      refine ⟨p0, ns, 6, rfl, .of g0, ?_⟩
      refine rd_I (by decide) ?_
      obtain ⟨o, od, hat, hod, hbad⟩ := pick (ns.getD 6 0 % 12) (by lia) (by lia)
      refine rd_ixL (.of hlo) hat ?_
      walk_at "rd"
      refine ⟨ph, o, rs, spot, od, rfl, hr, rsm, sp0, sp1, hod, fun p i j G s1 il hr' => ?_⟩
      walk_at "rd"
      have z := second p _ (some C2) G hr' (spoil_sm rsm rst) (spoil_bad rcm il hbad)
      rw [toldS, if_neg (Ne.symm e12)] at z
      exact z
    · refine iteN (by simp [h3]) ?_
      walk_at "rd"
      exact second ph rs none K3 hr rsm fate0
open PySem.W in
theorem all_mk {l : OpenLaw} {w : World} {K : Frag} {h : Heap} {mg : Str -> Option Value} {fa f0 f1 f2 f3 f4 f5 f6 f7 f8 f9 f10 f11 f12 f13 f14 f15 f16 f17 f18 f19 f20 f21 f22 f23 f24 f25 f26 f27 f28 f29 f30 f31 f32 C d_PARTS d_WORDS : Addr} (X : K.In h) (G : h.Ns mainGlobals mg) (hfa : mg "law" = some (.ref fa))
    {od0 an0 od1 an1 od2 an2 od3 an3 od4 an4 od5 an5 od6 an6 od7 an7 od8 an8 od9 an9 od10 an10 od11 an11 od12 an12 od13 an13 od14 an14 od15 an15 od16 an16 od17 an17 od18 an18 od19 an19 od20 an20 od21 an21 od22 an22 od23 an23 od24 an24 od25 an25 od26 an26 od27 an27 od28 an28 od29 an29 od30 an30 od31 an31 od32 an32 : Option Addr} {sl0 sl1 sl2 sl3 sl4 sl5 sl6 sl7 sl8 sl9 sl10 sl11 sl12 sl13 sl14 sl15 sl16 sl17 sl18 sl19 sl20 sl21 sl22 sl23 sl24 sl25 sl26 sl27 sl28 sl29 sl30 sl31 sl32 : Array (Option Value)}
    {es_PARTS es_WORDS : Array DictEntry} {ep_PARTS ep_WORDS : Nat}
    {oc0 kV0 dc0 pm0 cd0 ct0 oc1 kV1 dc1 pm1 cd1 ct1 oc2 kV2 dc2 pm2 cd2 ct2 oc3 kV3 dc3 pm3 cd3 ct3 oc4 kV4 dc4 pm4 cd4 ct4 oc5 kV5 dc5 pm5 cd5 ct5 oc6 kV6 dc6 pm6 cd6 ct6 oc7 kV7 dc7 pm7 cd7 ct7 oc8 kV8 dc8 pm8 cd8 ct8 oc9 kV9 dc9 pm9 cd9 ct9 oc10 kV10 dc10 pm10 cd10 ct10 oc11 kV11 dc11 pm11 cd11 ct11 oc12 kV12 dc12 pm12 cd12 ct12 oc13 kV13 dc13 pm13 cd13 ct13 oc14 kV14 dc14 pm14 cd14 ct14 oc15 kV15 dc15 pm15 cd15 ct15 oc16 kV16 dc16 pm16 cd16 ct16 oc17 kV17 dc17 pm17 cd17 ct17 oc18 kV18 dc18 pm18 cd18 ct18 oc19 kV19 dc19 pm19 cd19 ct19 oc20 kV20 dc20 pm20 cd20 ct20 oc21 kV21 dc21 pm21 cd21 ct21 oc22 kV22 dc22 pm22 cd22 ct22 oc23 kV23 dc23 pm23 cd23 ct23 oc24 kV24 dc24 pm24 cd24 ct24 oc25 kV25 dc25 pm25 cd25 ct25 oc26 kV26 dc26 pm26 cd26 ct26 oc27 kV27 dc27 pm27 cd27 ct27 oc28 kV28 dc28 pm28 cd28 ct28 oc29 kV29 dc29 pm29 cd29 ct29 oc30 kV30 dc30 pm30 cd30 ct30 oc31 kV31 dc31 pm31 cd31 ct31 oc32 kV32 dc32 pm32 cd32 ct32 : Value}
    (aC : nsIn K mainGlobals "Floor" = some (some (.ref C)))
    (a0 : nsIn K mainGlobals "is_ahead" = some (some (.ref f0))) (l0 : K.lookup f0 = some ⟨oc0, od0, .func (fnQ "is_ahead" "is_ahead" s_is_ahead kV0 dc0 pm0 an0 cd0 ct0), sl0⟩) (c0 : codeIn K cd0 "is_ahead" = true) (k0 : keepIn K (.ref f0) = true)
    (a1 : nsIn K mainGlobals "foremost_of" = some (some (.ref f1))) (l1 : K.lookup f1 = some ⟨oc1, od1, .func (fnQ "foremost_of" "foremost_of" s_foremost_of kV1 dc1 pm1 an1 cd1 ct1), sl1⟩) (c1 : codeIn K cd1 "foremost_of" = true) (k1 : keepIn K (.ref f1) = true)
    (a2 : nsIn K mainGlobals "waited_for_by" = some (some (.ref f2))) (l2 : K.lookup f2 = some ⟨oc2, od2, .func (fnQ "waited_for_by" "waited_for_by" s_waited_for_by kV2 dc2 pm2 an2 cd2 ct2), sl2⟩) (c2 : codeIn K cd2 "waited_for_by" = true) (k2 : keepIn K (.ref f2) = true)
    (a3 : nsIn K mainGlobals "row_by" = some (some (.ref f3))) (l3 : K.lookup f3 = some ⟨oc3, od3, .func (fnQ "row_by" "row_by" s_row_by kV3 dc3 pm3 an3 cd3 ct3), sl3⟩) (c3 : codeIn K cd3 "row_by" = true) (k3 : keepIn K (.ref f3) = true)
    (a4 : nsIn K mainGlobals "ring_by" = some (some (.ref f4))) (l4 : K.lookup f4 = some ⟨oc4, od4, .func (fnQ "ring_by" "ring_by" s_ring_by kV4 dc4 pm4 an4 cd4 ct4), sl4⟩) (c4 : codeIn K cd4 "ring_by" = true) (k4 : keepIn K (.ref f4) = true)
    (a5 : nsIn K mainGlobals "heir_by" = some (some (.ref f5))) (l5 : K.lookup f5 = some ⟨oc5, od5, .func (fnQ "heir_by" "heir_by" s_heir_by kV5 dc5 pm5 an5 cd5 ct5), sl5⟩) (c5 : codeIn K cd5 "heir_by" = true) (k5 : keepIn K (.ref f5) = true)
    (a6 : nsIn K mainGlobals "place_for" = some (some (.ref f6))) (l6 : K.lookup f6 = some ⟨oc6, od6, .func (fnQ "place_for" "place_for" s_place_for kV6 dc6 pm6 an6 cd6 ct6), sl6⟩) (c6 : codeIn K cd6 "place_for" = true) (k6 : keepIn K (.ref f6) = true)
    (a7 : nsIn K mainGlobals "is_step" = some (some (.ref f7))) (l7 : K.lookup f7 = some ⟨oc7, od7, .func (fnQ "is_step" "is_step" s_is_step kV7 dc7 pm7 an7 cd7 ct7), sl7⟩) (c7 : codeIn K cd7 "is_step" = true) (k7 : keepIn K (.ref f7) = true)
    (a8 : nsIn K mainGlobals "refuse_wrong" = some (some (.ref f8))) (l8 : K.lookup f8 = some ⟨oc8, od8, .func (fnQ "refuse_wrong" "refuse_wrong" s_refuse_wrong kV8 dc8 pm8 an8 cd8 ct8), sl8⟩) (c8 : codeIn K cd8 "refuse_wrong" = true) (k8 : keepIn K (.ref f8) = true)
    (a9 : nsIn K mainGlobals "begin" = some (some (.ref f9))) (l9 : K.lookup f9 = some ⟨oc9, od9, .func (fnQ "begin" "begin" s_begin kV9 dc9 pm9 an9 cd9 ct9), sl9⟩) (c9 : codeIn K cd9 "begin" = true) (k9 : keepIn K (.ref f9) = true)
    (a10 : nsIn K mainGlobals "pages_of" = some (some (.ref f10))) (l10 : K.lookup f10 = some ⟨oc10, od10, .func (fnQ "pages_of" "pages_of" s_pages_of kV10 dc10 pm10 an10 cd10 ct10), sl10⟩) (c10 : codeIn K cd10 "pages_of" = true) (k10 : keepIn K (.ref f10) = true)
    (a11 : nsIn K mainGlobals "diary" = some (some (.ref f11))) (l11 : K.lookup f11 = some ⟨oc11, od11, .func (fnQ "diary" "diary" s_diary kV11 dc11 pm11 an11 cd11 ct11), sl11⟩) (c11 : codeIn K cd11 "diary" = true) (k11 : keepIn K (.ref f11) = true)
    (a12 : nsIn K mainGlobals "rings" = some (some (.ref f12))) (l12 : K.lookup f12 = some ⟨oc12, od12, .func (fnQ "rings" "rings" s_rings kV12 dc12 pm12 an12 cd12 ct12), sl12⟩) (c12 : codeIn K cd12 "rings" = true) (k12 : keepIn K (.ref f12) = true)
    (a13 : nsIn K mainGlobals "_law_upto" = some (some (.ref f13))) (l13 : K.lookup f13 = some ⟨oc13, od13, .func (fnQ "_law_upto" "_law_upto" s__law_upto kV13 dc13 pm13 an13 cd13 ct13), sl13⟩) (c13 : codeIn K cd13 "_law_upto" = true) (k13 : keepIn K (.ref f13) = true)
    (a14 : nsIn K mainGlobals "_law_whole" = some (some (.ref f14))) (l14 : K.lookup f14 = some ⟨oc14, od14, .func (fnQ "_law_whole" "_law_whole" s__law_whole kV14 dc14 pm14 an14 cd14 ct14), sl14⟩) (c14 : codeIn K cd14 "_law_whole" = true) (k14 : keepIn K (.ref f14) = true)
    (a15 : nsIn K mainGlobals "_law_at" = some (some (.ref f15))) (l15 : K.lookup f15 = some ⟨oc15, od15, .func (fnQ "_law_at" "_law_at" s__law_at kV15 dc15 pm15 an15 cd15 ct15), sl15⟩) (c15 : codeIn K cd15 "_law_at" = true) (k15 : keepIn K (.ref f15) = true)
    (a16 : nsIn K mainGlobals "_law_hands_of" = some (some (.ref f16))) (l16 : K.lookup f16 = some ⟨oc16, od16, .func (fnQ "_law_hands_of" "_law_hands_of" s__law_hands_of kV16 dc16 pm16 an16 cd16 ct16), sl16⟩) (c16 : codeIn K cd16 "_law_hands_of" = true) (k16 : keepIn K (.ref f16) = true)
    (a17 : nsIn K mainGlobals "_law_spoilt" = some (some (.ref f17))) (l17 : K.lookup f17 = some ⟨oc17, od17, .func (fnQ "_law_spoilt" "_law_spoilt" s__law_spoilt kV17 dc17 pm17 an17 cd17 ct17), sl17⟩) (c17 : codeIn K cd17 "_law_spoilt" = true) (k17 : keepIn K (.ref f17) = true)
    (a18 : nsIn K mainGlobals "_law_early" = some (some (.ref f18))) (l18 : K.lookup f18 = some ⟨oc18, od18, .func (fnQ "_law_early" "_law_early" s__law_early kV18 dc18 pm18 an18 cd18 ct18), sl18⟩) (c18 : codeIn K cd18 "_law_early" = true) (k18 : keepIn K (.ref f18) = true)
    (a19 : nsIn K mainGlobals "_law_answer" = some (some (.ref f19))) (l19 : K.lookup f19 = some ⟨oc19, od19, .func (fnQ "_law_answer" "_law_answer" s__law_answer kV19 dc19 pm19 an19 cd19 ct19), sl19⟩) (c19 : codeIn K cd19 "_law_answer" = true) (k19 : keepIn K (.ref f19) = true)
    (a20 : nsIn K mainGlobals "law" = some (some (.ref f20))) (l20 : K.lookup f20 = some ⟨oc20, od20, .func (fnQ "law" "law" s_law kV20 dc20 pm20 an20 cd20 ct20), sl20⟩) (c20 : codeIn K cd20 "law" = true) (k20 : keepIn K (.ref f20) = true)
    (a21 : findIn K (.ref C) "__init__" = some (some (.ref f21))) (i21 : isFn K (.ref f21) = true) (l21 : K.lookup f21 = some ⟨oc21, od21, .func (fnQ "__init__" "Floor.__init__" s_Floor___init__ kV21 dc21 pm21 an21 cd21 ct21), sl21⟩) (c21 : codeIn K cd21 "Floor.__init__" = true) (k21 : keepIn K (.ref f21) = true)
    (a22 : findIn K (.ref C) "is_finished" = some (some (.ref f22))) (i22 : isFn K (.ref f22) = true) (l22 : K.lookup f22 = some ⟨oc22, od22, .func (fnQ "is_finished" "Floor.is_finished" s_Floor_is_finished kV22 dc22 pm22 an22 cd22 ct22), sl22⟩) (c22 : codeIn K cd22 "Floor.is_finished" = true) (k22 : keepIn K (.ref f22) = true)
    (a23 : findIn K (.ref C) "find_chain" = some (some (.ref f23))) (i23 : isFn K (.ref f23) = true) (l23 : K.lookup f23 = some ⟨oc23, od23, .func (fnQ "find_chain" "Floor.find_chain" s_Floor_find_chain kV23 dc23 pm23 an23 cd23 ct23), sl23⟩) (c23 : codeIn K cd23 "Floor.find_chain" = true) (k23 : keepIn K (.ref f23) = true)
    (a24 : findIn K (.ref C) "show_page" = some (some (.ref f24))) (i24 : isFn K (.ref f24) = true) (l24 : K.lookup f24 = some ⟨oc24, od24, .func (fnQ "show_page" "Floor.show_page" s_Floor_show_page kV24 dc24 pm24 an24 cd24 ct24), sl24⟩) (c24 : codeIn K cd24 "Floor.show_page" = true) (k24 : keepIn K (.ref f24) = true)
    (a25 : findIn K (.ref C) "pass_tick" = some (some (.ref f25))) (i25 : isFn K (.ref f25) = true) (l25 : K.lookup f25 = some ⟨oc25, od25, .func (fnQ "pass_tick" "Floor.pass_tick" s_Floor_pass_tick kV25 dc25 pm25 an25 cd25 ct25), sl25⟩) (c25 : codeIn K cd25 "Floor.pass_tick" = true) (k25 : keepIn K (.ref f25) = true)
    (a26 : findIn K (.ref C) "serve" = some (some (.ref f26))) (i26 : isFn K (.ref f26) = true) (l26 : K.lookup f26 = some ⟨oc26, od26, .func (fnQ "serve" "Floor.serve" s_Floor_serve kV26 dc26 pm26 an26 cd26 ct26), sl26⟩) (c26 : codeIn K cd26 "Floor.serve" = true) (k26 : keepIn K (.ref f26) = true)
    (a27 : findIn K (.ref C) "begin_waiting" = some (some (.ref f27))) (i27 : isFn K (.ref f27) = true) (l27 : K.lookup f27 = some ⟨oc27, od27, .func (fnQ "begin_waiting" "Floor.begin_waiting" s_Floor_begin_waiting kV27 dc27 pm27 an27 cd27 ct27), sl27⟩) (c27 : codeIn K cd27 "Floor.begin_waiting" = true) (k27 : keepIn K (.ref f27) = true)
    (a28 : findIn K (.ref C) "begin_holding" = some (some (.ref f28))) (i28 : isFn K (.ref f28) = true) (l28 : K.lookup f28 = some ⟨oc28, od28, .func (fnQ "begin_holding" "Floor.begin_holding" s_Floor_begin_holding kV28 dc28 pm28 an28 cd28 ct28), sl28⟩) (c28 : codeIn K cd28 "Floor.begin_holding" = true) (k28 : keepIn K (.ref f28) = true)
    (a29 : findIn K (.ref C) "pass_on" = some (some (.ref f29))) (i29 : isFn K (.ref f29) = true) (l29 : K.lookup f29 = some ⟨oc29, od29, .func (fnQ "pass_on" "Floor.pass_on" s_Floor_pass_on kV29 dc29 pm29 an29 cd29 ct29), sl29⟩) (c29 : codeIn K cd29 "Floor.pass_on" = true) (k29 : keepIn K (.ref f29) = true)
    (a30 : findIn K (.ref C) "tools_of" = some (some (.ref f30))) (i30 : isFn K (.ref f30) = true) (l30 : K.lookup f30 = some ⟨oc30, od30, .func (fnQ "tools_of" "Floor.tools_of" s_Floor_tools_of kV30 dc30 pm30 an30 cd30 ct30), sl30⟩) (c30 : codeIn K cd30 "Floor.tools_of" = true) (k30 : keepIn K (.ref f30) = true)
    (a31 : findIn K (.ref C) "give_back" = some (some (.ref f31))) (i31 : isFn K (.ref f31) = true) (l31 : K.lookup f31 = some ⟨oc31, od31, .func (fnQ "give_back" "Floor.give_back" s_Floor_give_back kV31 dc31 pm31 an31 cd31 ct31), sl31⟩) (c31 : codeIn K cd31 "Floor.give_back" = true) (k31 : keepIn K (.ref f31) = true)
    (a32 : findIn K (.ref C) "find_rings" = some (some (.ref f32))) (i32 : isFn K (.ref f32) = true) (l32 : K.lookup f32 = some ⟨oc32, od32, .func (fnQ "find_rings" "Floor.find_rings" s_Floor_find_rings kV32 dc32 pm32 an32 cd32 ct32), sl32⟩) (c32 : codeIn K cd32 "Floor.find_rings" = true) (k32 : keepIn K (.ref f32) = true)
    (pg : plainGet K C Str.empty = true) (hd : hasDictIn K C = true) (po : plainOver K C = true) (sa : findIn K (.ref C) "__setattr__" = some (some (.builtin "object.__setattr__"))) (mk : makesIn K C = true) (kc : keepIn K (.ref C) = true)
    (n_ranks : findIn K (.ref C) "ranks" = some none)
    (n_comes : findIn K (.ref C) "comes" = some none)
    (n_steps : findIn K (.ref C) "steps" = some none)
    (n_done : findIn K (.ref C) "done" = some none)
    (n_tick : findIn K (.ref C) "tick" = some none)
    (n_holders : findIn K (.ref C) "holders" = some none)
    (n_wanted : findIn K (.ref C) "wanted" = some none)
    (n_held : findIn K (.ref C) "held" = some none)
    (n_going : findIn K (.ref C) "going" = some none)
    (a_PARTS : nsIn K mainGlobals "PARTS" = some (some (.ref d_PARTS))) (l_PARTS : K.lookup d_PARTS = some ⟨.type "dict", none, .dict es_PARTS ep_PARTS, #[]⟩) (e_PARTS : EntOk w es_PARTS.toList partsK) (s_PARTS : (d_PARTS == sysModules) = false)
    (a_WORDS : nsIn K mainGlobals "WORDS" = some (some (.ref d_WORDS))) (l_WORDS : K.lookup d_WORDS = some ⟨.type "dict", none, .dict es_WORDS ep_WORDS, #[]⟩) (e_WORDS : EntOk w es_WORDS.toList wordsK) (s_WORDS : (d_WORDS == sysModules) = false)
    (z0 : nsIn K mainGlobals "len" = some none)
    (z1 : nsIn K mainGlobals "isinstance" = some none)
    (z2 : nsIn K mainGlobals "int" = some none)
    (z3 : nsIn K mainGlobals "bool" = some none)
    (z4 : nsIn K mainGlobals "list" = some none)
    (z5 : nsIn K mainGlobals "tuple" = some none)
    (z6 : nsIn K mainGlobals "range" = some none)
    (z7 : nsIn K mainGlobals "reversed" = some none)
    (z8 : nsIn K mainGlobals "sorted" = some none)
    (z9 : nsIn K mainGlobals "min" = some none)
    (z10 : nsIn K mainGlobals "max" = some none)
    (z11 : nsIn K mainGlobals "sum" = some none)
    (z12 : nsIn K mainGlobals "str" = some none)
    (z13 : nsIn K mainGlobals "set" = some none)
    (z14 : nsIn K mainGlobals "dict" = some none)
    (z15 : nsIn K mainGlobals "enumerate" = some none)
    {R C1 C2 : Addr}
    (aR : nsIn K mainGlobals "RotaError" = some (some (.ref R)))
    (aE : nsIn K mainGlobals "NoComing" = some (some (.ref C1)))
    (aS : nsIn K mainGlobals "NoStep" = some (some (.ref C2)))
    (zV : nsIn K mainGlobals "ValueError" = some none)
    (mr1 : mroIn K C1 (.ref R) = some true)
    (ga1 : findIn K (.ref C1) "__getattribute__" = some (some (.builtin "BaseException.__getattribute__")))
    (gt1 : findIn K (.ref C1) "__getattr__" = some none)
    (ca1 : findIn K (.ref C1) "__class__" = some (some (.builtin "object.__class__")))
    (mo1 : mroIn K C1 (.type "object") = some true)
    (mb1 : mroIn K C1 (.type "BaseException") = some true)
    (mv1 : mroIn K C1 (.type "ValueError") = some true)
    (ty1 : typeIn K (.ref C1) = some (.type "type"))
    (ex1 : excIn K C1 [.type "ValueError", .type "Exception", .type "BaseException", .type "object"] "ValueError.__new__" = true)
    (mr2 : mroIn K C2 (.ref R) = some true)
    (ga2 : findIn K (.ref C2) "__getattribute__" = some (some (.builtin "BaseException.__getattribute__")))
    (gt2 : findIn K (.ref C2) "__getattr__" = some none)
    (ca2 : findIn K (.ref C2) "__class__" = some (some (.builtin "object.__class__")))
    (mo2 : mroIn K C2 (.type "object") = some true)
    (mb2 : mroIn K C2 (.type "BaseException") = some true)
    (mv2 : mroIn K C2 (.type "ValueError") = some true)
    (ty2 : typeIn K (.ref C2) = some (.type "type"))
    (ex2 : excIn K C2 [.type "ValueError", .type "Exception", .type "BaseException", .type "object"] "ValueError.__new__" = true)
    (m12 : mroIn K C1 (.ref C2) = some false)
    (m21 : mroIn K C2 (.ref C1) = some false)
    (ne12 : (C1 == C2) = false)
    (mbR : mroIn K R (.type "BaseException") = some true)
    (tyR : typeIn K (.ref R) = some (.type "type"))
    (spc : specialIn K (.builtin "object.__class__") "__get__" = some (some (.builtin "getset_descriptor.__get__")))
    (tkc : takesIn K (.builtin "object.__class__") = some true)
    : ∃ fd : FuncData, (∀ (s : Shared) (v : Value), BindsTo s fd ⟨[v], []⟩ [("_law_script", v)]) /\ ∀ base : Heap, K.In base -> base.Ns mainGlobals mg -> FnOk l.prog w K mg base CX0 10 fa fd ["_law_script"] (sp_law K) := by
  have e := hfa.symm.trans (mg_of X G a20)
  cases e
  have T : Txt mg := ⟨mg_none_of X G z0, mg_none_of X G z1, mg_none_of X G z2, mg_none_of X G z3, mg_none_of X G z4, mg_none_of X G z5, mg_none_of X G z6, mg_none_of X G z7, mg_none_of X G z8, mg_none_of X G z9, mg_none_of X G z10, mg_none_of X G z11, mg_none_of X G z12, mg_none_of X G z13, mg_none_of X G z14, mg_none_of X G z15⟩
  have TC : TxtC K w mg C := ⟨⟨pg, hd, po, sa⟩, n_ranks, n_comes, n_steps, n_done, n_tick, n_holders, n_wanted, n_held, n_going, kdict_mk X G a_WORDS l_WORDS e_WORDS s_WORDS (by decide +kernel), kdict_mk X G a_PARTS l_PARTS e_PARTS s_PARTS (by decide +kernel)⟩
  have TR : TxtR K mg R C1 C2 := ⟨mg_of X G aR, mg_of X G aE, mg_of X G aS, mg_none_of X G zV, exm_mk mbR tyR mr1, exm_mk mbR tyR mr2, ⟨ga1, gt1, cl_of mo1, ca1, spc, tkc, mo1, mb1⟩, ⟨ga2, gt2, cl_of mo2, ca2, spc, tkc, mo2, mb2⟩, kit_same, kit_mk ne12 ty2 mo2 m12, kit_mk (beq_sym ne12) ty1 mo1 m21, kit_same, kit_ve mv1, kit_ve mv2⟩
  have F0 := fun_mk (st := s_is_ahead) l0 c0 k0
  have b0 := F0.binds (ps := ["ranks", "one", "other"]) fun _ _ _ _ _ _ us hl => by obtain ⟨a0, a1, a2, rfl⟩ := ls3 hl; rfl
  have F1 := fun_mk (st := s_foremost_of) l1 c1 k1
  have b1 := F1.binds (ps := ["ranks", "some"]) fun _ _ _ _ _ _ us hl => by obtain ⟨a0, a1, rfl⟩ := ls2 hl; rfl
  have F2 := fun_mk (st := s_waited_for_by) l2 c2 k2
  have b2 := F2.binds (ps := ["holders", "wanted", "hand"]) fun _ _ _ _ _ _ us hl => by obtain ⟨a0, a1, a2, rfl⟩ := ls3 hl; rfl
  have F3 := fun_mk (st := s_row_by) l3 c3 k3
  have b3 := F3.binds (ps := ["holders", "wanted", "hand"]) fun _ _ _ _ _ _ us hl => by obtain ⟨a0, a1, a2, rfl⟩ := ls3 hl; rfl
  have F4 := fun_mk (st := s_ring_by) l4 c4 k4
  have b4 := F4.binds (ps := ["holders", "wanted", "hand"]) fun _ _ _ _ _ _ us hl => by obtain ⟨a0, a1, a2, rfl⟩ := ls3 hl; rfl
  have F5 := fun_mk (st := s_heir_by) l5 c5 k5
  have b5 := F5.binds (ps := ["ranks", "holders", "wanted", "tool"]) fun _ _ _ _ _ _ us hl => by obtain ⟨a0, a1, a2, a3, rfl⟩ := ls4 hl; rfl
  have F6 := fun_mk (st := s_place_for) l6 c6 k6
  have b6 := F6.binds (ps := ["held", "tool"]) fun _ _ _ _ _ _ us hl => by obtain ⟨a0, a1, rfl⟩ := ls2 hl; rfl
  have F7 := fun_mk (st := s_is_step) l7 c7 k7
  have b7 := F7.binds (ps := ["step"]) fun _ _ _ _ _ _ us hl => by obtain ⟨a0, rfl⟩ := ls1 hl; rfl
  have F8 := fun_mk (st := s_refuse_wrong) l8 c8 k8
  have b8 := F8.binds (ps := ["hands"]) fun _ _ _ _ _ _ us hl => by obtain ⟨a0, rfl⟩ := ls1 hl; rfl
  have F9 := fun_mk (st := s_begin) l9 c9 k9
  have b9 := F9.binds (ps := ["hands"]) fun _ _ _ _ _ _ us hl => by obtain ⟨a0, rfl⟩ := ls1 hl; rfl
  have F10 := fun_mk (st := s_pages_of) l10 c10 k10
  have b10 := F10.binds (ps := ["hands"]) fun _ _ _ _ _ _ us hl => by obtain ⟨a0, rfl⟩ := ls1 hl; rfl
  have F11 := fun_mk (st := s_diary) l11 c11 k11
  have b11 := F11.binds (ps := ["hands"]) fun _ _ _ _ _ _ us hl => by obtain ⟨a0, rfl⟩ := ls1 hl; rfl
  have F12 := fun_mk (st := s_rings) l12 c12 k12
  have b12 := F12.binds (ps := ["hands"]) fun _ _ _ _ _ _ us hl => by obtain ⟨a0, rfl⟩ := ls1 hl; rfl
  have F13 := fun_mk (st := s__law_upto) l13 c13 k13
  have b13 := F13.binds (ps := ["_law_script", "_law_small", "_law_great"]) fun _ _ _ _ _ _ us hl => by obtain ⟨a0, a1, a2, rfl⟩ := ls3 hl; rfl
  have F14 := fun_mk (st := s__law_whole) l14 c14 k14
  have b14 := F14.binds (ps := ["_law_found"]) fun _ _ _ _ _ _ us hl => by obtain ⟨a0, rfl⟩ := ls1 hl; rfl
  have F15 := fun_mk (st := s__law_at) l15 c15 k15
  have b15 := F15.binds (ps := ["_law_script", "_law_k"]) fun _ _ _ _ _ _ us hl => by obtain ⟨a0, a1, rfl⟩ := ls2 hl; rfl
  have F16 := fun_mk (st := s__law_hands_of) l16 c16 k16
  have b16 := F16.binds (ps := ["_law_cells", "_law_count", "_law_seed"]) fun _ _ _ _ _ _ us hl => by obtain ⟨a0, a1, a2, rfl⟩ := ls3 hl; rfl
  have F17 := fun_mk (st := s__law_spoilt) l17 c17 k17
  have b17 := F17.binds (ps := ["_law_hands", "_law_spot", "_law_odd"]) fun _ _ _ _ _ _ us hl => by obtain ⟨a0, a1, a2, rfl⟩ := ls3 hl; rfl
  have F18 := fun_mk (st := s__law_early) l18 c18 k18
  have b18 := F18.binds (ps := ["_law_hands", "_law_spot"]) fun _ _ _ _ _ _ us hl => by obtain ⟨a0, a1, rfl⟩ := ls2 hl; rfl
  have F19 := fun_mk (st := s__law_answer) l19 c19 k19
  have b19 := F19.binds (ps := ["_law_way", "_law_hands"]) fun _ _ _ _ _ _ us hl => by obtain ⟨a0, a1, rfl⟩ := ls2 hl; rfl
  have F20 := fun_mk (st := s_law) l20 c20 k20
  have F21 := fun_mk (st := s_Floor___init__) l21 c21 k21
  have b21 := F21.binds (ps := ["self", "hands"]) fun _ _ _ _ _ _ us hl => by obtain ⟨a0, a1, rfl⟩ := ls2 hl; rfl
  have F22 := fun_mk (st := s_Floor_is_finished) l22 c22 k22
  have b22 := F22.binds (ps := ["self", "hand"]) fun _ _ _ _ _ _ us hl => by obtain ⟨a0, a1, rfl⟩ := ls2 hl; rfl
  have F23 := fun_mk (st := s_Floor_find_chain) l23 c23 k23
  have b23 := F23.binds (ps := ["self"]) fun _ _ _ _ _ _ us hl => by obtain ⟨a0, rfl⟩ := ls1 hl; rfl
  have F24 := fun_mk (st := s_Floor_show_page) l24 c24 k24
  have b24 := F24.binds (ps := ["self", "chain"]) fun _ _ _ _ _ _ us hl => by obtain ⟨a0, a1, rfl⟩ := ls2 hl; rfl
  have F25 := fun_mk (st := s_Floor_pass_tick) l25 c25 k25
  have b25 := F25.binds (ps := ["self", "chain"]) fun _ _ _ _ _ _ us hl => by obtain ⟨a0, a1, rfl⟩ := ls2 hl; rfl
  have F26 := fun_mk (st := s_Floor_serve) l26 c26 k26
  have b26 := F26.binds (ps := ["self", "hand"]) fun _ _ _ _ _ _ us hl => by obtain ⟨a0, a1, rfl⟩ := ls2 hl; rfl
  have F27 := fun_mk (st := s_Floor_begin_waiting) l27 c27 k27
  have b27 := F27.binds (ps := ["self", "hand", "tool"]) fun _ _ _ _ _ _ us hl => by obtain ⟨a0, a1, a2, rfl⟩ := ls3 hl; rfl
  have F28 := fun_mk (st := s_Floor_begin_holding) l28 c28 k28
  have b28 := F28.binds (ps := ["self", "hand", "tool"]) fun _ _ _ _ _ _ us hl => by obtain ⟨a0, a1, a2, rfl⟩ := ls3 hl; rfl
  have F29 := fun_mk (st := s_Floor_pass_on) l29 c29 k29
  have b29 := F29.binds (ps := ["self", "tool"]) fun _ _ _ _ _ _ us hl => by obtain ⟨a0, a1, rfl⟩ := ls2 hl; rfl
  have F30 := fun_mk (st := s_Floor_tools_of) l30 c30 k30
  have b30 := F30.binds (ps := ["self", "hand"]) fun _ _ _ _ _ _ us hl => by obtain ⟨a0, a1, rfl⟩ := ls2 hl; rfl
  have F31 := fun_mk (st := s_Floor_give_back) l31 c31 k31
  have b31 := F31.binds (ps := ["self", "queue"]) fun _ _ _ _ _ _ us hl => by obtain ⟨a0, a1, rfl⟩ := ls2 hl; rfl
  have F32 := fun_mk (st := s_Floor_find_rings) l32 c32 k32
  have b32 := F32.binds (ps := ["self"]) fun _ _ _ _ _ _ us hl => by obtain ⟨a0, rfl⟩ := ls1 hl; rfl
  refine ⟨fnQ "law" "law" s_law kV20 dc20 pm20 an20 cd20 ct20, fun s v => .of_eq rfl, fun base KB _ => ?_⟩
  have TE : TxtE K mg base C1 C2 := ⟨own_in KB TR.n1 ex1, own_in KB TR.n2 ex2⟩
  have C_is_ahead : Cal l.prog w K mg base "is_ahead" ["ranks", "one", "other"] 1 (sp_is_ahead K) := cal_mk X G a0 k0 b0 (ok_is_ahead F0 T)
  have C_foremost_of : Cal l.prog w K mg base "foremost_of" ["ranks", "some"] 2 (sp_foremost_of K) := cal_mk X G a1 k1 b1 (ok_foremost_of F1 T C_is_ahead)
  have C_waited_for_by : Cal l.prog w K mg base "waited_for_by" ["holders", "wanted", "hand"] 1 (sp_waited_for_by K) := cal_mk X G a2 k2 b2 (ok_waited_for_by F2 T)
  have C_row_by : Cal l.prog w K mg base "row_by" ["holders", "wanted", "hand"] 2 (sp_row_by K) := cal_mk X G a3 k3 b3 (ok_row_by F3 T C_waited_for_by)
  have C_ring_by : Cal l.prog w K mg base "ring_by" ["holders", "wanted", "hand"] 3 (sp_ring_by K) := cal_mk X G a4 k4 b4 (ok_ring_by F4 T C_waited_for_by C_row_by)
  have C_heir_by : Cal l.prog w K mg base "heir_by" ["ranks", "holders", "wanted", "tool"] 3 (sp_heir_by K) := cal_mk X G a5 k5 b5 (ok_heir_by F5 T C_foremost_of C_row_by)
  have C_place_for : Cal l.prog w K mg base "place_for" ["held", "tool"] 1 (sp_place_for K) := cal_mk X G a6 k6 b6 (ok_place_for F6 T)
  have C_is_step : Cal l.prog w K mg base "is_step" ["step"] 1 (sp_is_step K) := cal_mk X G a7 k7 b7 (ok_is_step F7 T TC)
  have C_refuse_wrong : Cal l.prog w K mg base "refuse_wrong" ["hands"] 2 (sp_refuse_wrong K) := cal_mk X G a8 k8 b8 (ok_refuse_wrong F8 T C_is_step)
  have C__law_upto : Cal l.prog w K mg base "_law_upto" ["_law_script", "_law_small", "_law_great"] 1 (sp__law_upto K) := cal_mk X G a13 k13 b13 (ok__law_upto F13 T)
  have C__law_whole : Cal l.prog w K mg base "_law_whole" ["_law_found"] 1 (sp__law_whole K) := cal_mk X G a14 k14 b14 (ok__law_whole F14 T)
  have C__law_at : Cal l.prog w K mg base "_law_at" ["_law_script", "_law_k"] 1 (sp__law_at K) := cal_mk X G a15 k15 b15 (ok__law_at F15 T)
  have C__law_hands_of : Cal l.prog w K mg base "_law_hands_of" ["_law_cells", "_law_count", "_law_seed"] 1 (sp__law_hands_of K) := cal_mk X G a16 k16 b16 (ok__law_hands_of F16 T)
  have C__law_spoilt : Cal l.prog w K mg base "_law_spoilt" ["_law_hands", "_law_spot", "_law_odd"] 1 (sp__law_spoilt K) := cal_mk X G a17 k17 b17 (ok__law_spoilt F17 T)
  have C__law_early : Cal l.prog w K mg base "_law_early" ["_law_hands", "_law_spot"] 1 (sp__law_early K) := cal_mk X G a18 k18 b18 (ok__law_early F18 T)
  have C_Floor_is_finished : CalM l.prog w K mg base C "is_finished" ["self", "hand"] 1 (sp_Floor_is_finished K C) := ⟨⟨f22, _, ⟨pg, hd, po, sa⟩, ⟨a22, i22, k22⟩, b22, (ok_Floor_is_finished F22 T TC)⟩⟩
  have C_Floor_find_chain : CalM l.prog w K mg base C "find_chain" ["self"] 3 (sp_Floor_find_chain K C) := ⟨⟨f23, _, ⟨pg, hd, po, sa⟩, ⟨a23, i23, k23⟩, b23, (ok_Floor_find_chain F23 T TC C_foremost_of C_row_by)⟩⟩
  have C_Floor_show_page : CalM l.prog w K mg base C "show_page" ["self", "chain"] 1 (sp_Floor_show_page K C) := ⟨⟨f24, _, ⟨pg, hd, po, sa⟩, ⟨a24, i24, k24⟩, b24, (ok_Floor_show_page F24 T TC)⟩⟩
  have C_Floor_begin_waiting : CalM l.prog w K mg base C "begin_waiting" ["self", "hand", "tool"] 4 (sp_Floor_begin_waiting K C) := ⟨⟨f27, _, ⟨pg, hd, po, sa⟩, ⟨a27, i27, k27⟩, b27, (ok_Floor_begin_waiting F27 T TC C_ring_by)⟩⟩
  have C_Floor_begin_holding : CalM l.prog w K mg base C "begin_holding" ["self", "hand", "tool"] 2 (sp_Floor_begin_holding K C) := ⟨⟨f28, _, ⟨pg, hd, po, sa⟩, ⟨a28, i28, k28⟩, b28, (ok_Floor_begin_holding F28 T TC C_place_for)⟩⟩
  have C_Floor_pass_on : CalM l.prog w K mg base C "pass_on" ["self", "tool"] 4 (sp_Floor_pass_on K C) := ⟨⟨f29, _, ⟨pg, hd, po, sa⟩, ⟨a29, i29, k29⟩, b29, (ok_Floor_pass_on F29 T TC C_heir_by C_place_for C_Floor_begin_holding)⟩⟩
  have C_Floor_tools_of : CalM l.prog w K mg base C "tools_of" ["self", "hand"] 1 (sp_Floor_tools_of K C) := ⟨⟨f30, _, ⟨pg, hd, po, sa⟩, ⟨a30, i30, k30⟩, b30, (ok_Floor_tools_of F30 T TC)⟩⟩
  have C_Floor_give_back : CalM l.prog w K mg base C "give_back" ["self", "queue"] 5 (sp_Floor_give_back K C) := ⟨⟨f31, _, ⟨pg, hd, po, sa⟩, ⟨a31, i31, k31⟩, b31, (ok_Floor_give_back F31 T TC C_Floor_is_finished C_Floor_pass_on C_Floor_tools_of)⟩⟩
  have C_Floor_find_rings : CalM l.prog w K mg base C "find_rings" ["self"] 4 (sp_Floor_find_rings K C) := ⟨⟨f32, _, ⟨pg, hd, po, sa⟩, ⟨a32, i32, k32⟩, b32, (ok_Floor_find_rings F32 T TC C_ring_by)⟩⟩
  have C_Floor___init__ : CalI l.prog w K mg base C "Floor" ["self", "hands"] 2 (sp_Floor___init__ K C) := ⟨⟨f21, _, ⟨mk, a21, i21, kc⟩, mg_of X G aC, b21, (ok_Floor___init__ F21 T TC C_Floor_is_finished)⟩⟩
  have C_Floor_serve : CalM l.prog w K mg base C "serve" ["self", "hand"] 6 (sp_Floor_serve K C) := ⟨⟨f26, _, ⟨pg, hd, po, sa⟩, ⟨a26, i26, k26⟩, b26, (ok_Floor_serve F26 T TC C_Floor_begin_waiting C_Floor_begin_holding C_Floor_pass_on C_Floor_give_back)⟩⟩
  have C_begin : Cal l.prog w K mg base "begin" ["hands"] 4 (sp_begin K C) := cal_mk X G a9 k9 b9 (ok_begin F9 T TC C_refuse_wrong C_Floor___init__)
  have C_Floor_pass_tick : CalM l.prog w K mg base C "pass_tick" ["self", "chain"] 7 (sp_Floor_pass_tick K C) := ⟨⟨f25, _, ⟨pg, hd, po, sa⟩, ⟨a25, i25, k25⟩, b25, (ok_Floor_pass_tick F25 T TC C_Floor_serve)⟩⟩
  have C_pages_of : Cal l.prog w K mg base "pages_of" ["hands"] 8 (sp_pages_of K C) := cal_mk X G a10 k10 b10 (ok_pages_of F10 T TC C_begin C_Floor_find_chain C_Floor_show_page C_Floor_pass_tick)
  have C_diary : Cal l.prog w K mg base "diary" ["hands"] 8 (sp_diary K C) := cal_mk X G a11 k11 b11 (ok_diary F11 T TC C_begin C_Floor_find_chain C_Floor_pass_tick)
  have C_rings : Cal l.prog w K mg base "rings" ["hands"] 8 (sp_rings K C) := cal_mk X G a12 k12 b12 (ok_rings F12 T TC C_begin C_Floor_find_chain C_Floor_pass_tick C_Floor_find_rings)
  have C_is_step_g : Cal l.prog w K mg base "is_step" ["step"] 1 (sp_is_step_g K) := cal_mk X G a7 k7 b7 (ok_is_step_g F7 T TC)
  have C_refuse_wrong_x : Cal1 l.prog w K mg base "refuse_wrong" ["hands"] 2 (sp_bad C1 C2) := cal1_mk X G a8 k8 b8 (ok_refuse_wrong_x F8 T TE C_is_step_g)
  have C_begin_x : Cal1 l.prog w K mg base "begin" ["hands"] 4 (sp_bad C1 C2) := cal1_mk X G a9 k9 b9 (ok_begin_x F9 T TE C_refuse_wrong_x)
  have C_pages_of_x : Cal1 l.prog w K mg base "pages_of" ["hands"] 8 (sp_bad C1 C2) := cal1_mk X G a10 k10 b10 (ok_pages_of_x F10 T TE C_begin_x)
  have C_diary_x : Cal1 l.prog w K mg base "diary" ["hands"] 8 (sp_bad C1 C2) := cal1_mk X G a11 k11 b11 (ok_diary_x F11 T TE C_begin_x)
  have C_rings_x : Cal1 l.prog w K mg base "rings" ["hands"] 8 (sp_bad C1 C2) := cal1_mk X G a12 k12 b12 (ok_rings_x F12 T TE C_begin_x)
  have B_pages_of : Cal1 l.prog w K mg base "pages_of" ["hands"] 8 (sp_ok_or_bad (sp_pages_of K C) C1 C2) := cal1_mk X G a10 k10 b10 ((FnOk.up (ok_pages_of F10 T TC C_begin C_Floor_find_chain C_Floor_show_page C_Floor_pass_tick)).both (ok_pages_of_x F10 T TE C_begin_x))
  have B_diary : Cal1 l.prog w K mg base "diary" ["hands"] 8 (sp_ok_or_bad (sp_diary K C) C1 C2) := cal1_mk X G a11 k11 b11 ((FnOk.up (ok_diary F11 T TC C_begin C_Floor_find_chain C_Floor_pass_tick)).both (ok_diary_x F11 T TE C_begin_x))
  have B_rings : Cal1 l.prog w K mg base "rings" ["hands"] 8 (sp_ok_or_bad (sp_rings K C) C1 C2) := cal1_mk X G a12 k12 b12 ((FnOk.up (ok_rings F12 T TC C_begin C_Floor_find_chain C_Floor_pass_tick C_Floor_find_rings)).both (ok_rings_x F12 T TE C_begin_x))
  have C__law_answer : Cal l.prog w K mg base "_law_answer" ["_law_way", "_law_hands"] 9 (sp__law_answer C1 C2) := cal_mk X G a19 k19 b19 (ok__law_answer F19 T TR B_pages_of B_diary B_rings)
  exact ok_law F20 T TR C__law_upto C__law_whole C__law_at C__law_hands_of C__law_spoilt C__law_early C__law_answer
theorem walk {l : PySem.W.OpenLaw} {q : Program} {loose : List Str} {XP : (Str -> Option Value) -> Heap -> Prop} {YP : World -> Heap -> Prop} {d : DefRec} {K : Params -> PySem.W.Frag} (hn : l.most = some 63) (hdf : d.params.defaults = [])
    (hY : ∀ (w : World) (h : Heap), YP w h -> (K w.params).In h)
    (F : ∀ (w : World) (mg : Str -> Option Value) (fa : Addr) (h : Heap), (K w.params).In h -> h.Ns mainGlobals mg -> mg d.name = some (.ref fa) ->
      ∃ fd : FuncData, (∀ (s : Shared) (u : Value), BindsTo s fd ⟨[u], []⟩ [("_law_script", u)]) /\ ∀ base : Heap, (K w.params).In base -> base.Ns mainGlobals mg -> FnOk l.prog w (K w.params) mg base CX0 10 fa fd ["_law_script"] (sp_law (K w.params))) :
    PySem.W.WalkO q loose XP YP l.row.toRowW d [] (fun f vs => PySem.call f vs) :=
  L2.walk_of (n := 63) (k := 10) (x := "_law_script") (CX := fun _ => CX0) (sp := fun w => sp_law (K w.params)) hn (by decide) hdf ⟨rfl, by decide, by decide⟩ hY F (fun _ _ a ns hl _ hS => ⟨a, ns, rfl, hS, hl, fun _ => rfl⟩) fun _ _ _ _ _ z => z
end B
noncomputable def PySem.W.Fast.tw13252596320524625144 : Unit := ()
noncomputable def PySem.W.Fast.tw9352405921512851642 : PySem.Program := PySem.Challenge.pw_benchrota_k14_refused
theorem PySem.W.Fast.te9352405921512851642 : PySem.Challenge.pw_benchrota_k14_refused = PySem.W.Fast.tw9352405921512851642 := rfl
open PySem PySem.W PyProof.Rows
set_option maxRecDepth 100000 in
theorem PySem.Challenge.cw_benchrota_k14_refused_holds : PySem.Challenge.rw_benchrota_k14_refused.Holds := by
  w_on; o_law; k_head; (case hw => w_witness2)
  k_fill
  refine B.walk (l := PySem.Challenge.rw_benchrota_k14_refused) rfl rfl (fun w h Y => PySem.W.kIn_of Y) ?F
  case F =>
    intro w mg fa h KX G hmg
    refine' B.all_mk KX G hmg ?aC ?a0 ?l0 ?c0 ?k0 ?a1 ?l1 ?c1 ?k1 ?a2 ?l2 ?c2 ?k2 ?a3 ?l3 ?c3 ?k3 ?a4 ?l4 ?c4 ?k4 ?a5 ?l5 ?c5 ?k5 ?a6 ?l6 ?c6 ?k6 ?a7 ?l7 ?c7 ?k7 ?a8 ?l8 ?c8 ?k8 ?a9 ?l9 ?c9 ?k9 ?a10 ?l10 ?c10 ?k10 ?a11 ?l11 ?c11 ?k11 ?a12 ?l12 ?c12 ?k12 ?a13 ?l13 ?c13 ?k13 ?a14 ?l14 ?c14 ?k14 ?a15 ?l15 ?c15 ?k15 ?a16 ?l16 ?c16 ?k16 ?a17 ?l17 ?c17 ?k17 ?a18 ?l18 ?c18 ?k18 ?a19 ?l19 ?c19 ?k19 ?a20 ?l20 ?c20 ?k20 ?a21 ?i21 ?l21 ?c21 ?k21 ?a22 ?i22 ?l22 ?c22 ?k22 ?a23 ?i23 ?l23 ?c23 ?k23 ?a24 ?i24 ?l24 ?c24 ?k24 ?a25 ?i25 ?l25 ?c25 ?k25 ?a26 ?i26 ?l26 ?c26 ?k26 ?a27 ?i27 ?l27 ?c27 ?k27 ?a28 ?i28 ?l28 ?c28 ?k28 ?a29 ?i29 ?l29 ?c29 ?k29 ?a30 ?i30 ?l30 ?c30 ?k30 ?a31 ?i31 ?l31 ?c31 ?k31 ?a32 ?i32 ?l32 ?c32 ?k32 ?pg ?hd ?po ?sa ?mk ?kc ?n_ranks ?n_comes ?n_steps ?n_done ?n_tick ?n_holders ?n_wanted ?n_held ?n_going ?a_PARTS ?l_PARTS ?e_PARTS ?s_PARTS ?a_WORDS ?l_WORDS ?e_WORDS ?s_WORDS ?z0 ?z1 ?z2 ?z3 ?z4 ?z5 ?z6 ?z7 ?z8 ?z9 ?z10 ?z11 ?z12 ?z13 ?z14 ?z15 ?aR ?aE ?aS ?zV ?mr1 ?ga1 ?gt1 ?ca1 ?mo1 ?mb1 ?mv1 ?ty1 ?ex1 ?mr2 ?ga2 ?gt2 ?ca2 ?mo2 ?mb2 ?mv2 ?ty2 ?ex2 ?m12 ?m21 ?ne12 ?mbR ?tyR ?spc ?tkc
    (case aC => k_is); (case a0 => k_is); (case l0 => k_is); (case c0 => k_is); (case k0 => k_is); (case a1 => k_is)
    (case l1 => k_is); (case c1 => k_is); (case k1 => k_is); (case a2 => k_is); (case l2 => k_is); (case c2 => k_is)
    (case k2 => k_is); (case a3 => k_is); (case l3 => k_is); (case c3 => k_is); (case k3 => k_is); (case a4 => k_is)
    (case l4 => k_is); (case c4 => k_is); (case k4 => k_is); (case a5 => k_is); (case l5 => k_is); (case c5 => k_is)
    (case k5 => k_is); (case a6 => k_is); (case l6 => k_is); (case c6 => k_is); (case k6 => k_is); (case a7 => k_is)
    (case l7 => k_is); (case c7 => k_is); (case k7 => k_is); (case a8 => k_is); (case l8 => k_is); (case c8 => k_is)
    (case k8 => k_is); (case a9 => k_is); (case l9 => k_is); (case c9 => k_is); (case k9 => k_is); (case a10 => k_is)
    (case l10 => k_is); (case c10 => k_is); (case k10 => k_is); (case a11 => k_is); (case l11 => k_is); (case c11 => k_is)
    (case k11 => k_is); (case a12 => k_is); (case l12 => k_is); (case c12 => k_is); (case k12 => k_is); (case a13 => k_is)
    (case l13 => k_is); (case c13 => k_is); (case k13 => k_is); (case a14 => k_is); (case l14 => k_is); (case c14 => k_is)
    (case k14 => k_is); (case a15 => k_is); (case l15 => k_is); (case c15 => k_is); (case k15 => k_is); (case a16 => k_is)
    (case l16 => k_is); (case c16 => k_is); (case k16 => k_is); (case a17 => k_is); (case l17 => k_is); (case c17 => k_is)
    (case k17 => k_is); (case a18 => k_is); (case l18 => k_is); (case c18 => k_is); (case k18 => k_is); (case a19 => k_is)
    (case l19 => k_is); (case c19 => k_is); (case k19 => k_is); (case a20 => k_is); (case l20 => k_is); (case c20 => k_is)
    (case k20 => k_is); (case a21 => k_is); (case i21 => k_is); (case l21 => k_is); (case c21 => k_is); (case k21 => k_is)
    (case a22 => k_is); (case i22 => k_is); (case l22 => k_is); (case c22 => k_is); (case k22 => k_is); (case a23 => k_is)
    (case i23 => k_is); (case l23 => k_is); (case c23 => k_is); (case k23 => k_is); (case a24 => k_is); (case i24 => k_is)
    (case l24 => k_is); (case c24 => k_is); (case k24 => k_is); (case a25 => k_is); (case i25 => k_is); (case l25 => k_is)
    (case c25 => k_is); (case k25 => k_is); (case a26 => k_is); (case i26 => k_is); (case l26 => k_is); (case c26 => k_is)
    (case k26 => k_is); (case a27 => k_is); (case i27 => k_is); (case l27 => k_is); (case c27 => k_is); (case k27 => k_is)
    (case a28 => k_is); (case i28 => k_is); (case l28 => k_is); (case c28 => k_is); (case k28 => k_is); (case a29 => k_is)
    (case i29 => k_is); (case l29 => k_is); (case c29 => k_is); (case k29 => k_is); (case a30 => k_is); (case i30 => k_is)
    (case l30 => k_is); (case c30 => k_is); (case k30 => k_is); (case a31 => k_is); (case i31 => k_is); (case l31 => k_is)
    (case c31 => k_is); (case k31 => k_is); (case a32 => k_is); (case i32 => k_is); (case l32 => k_is); (case c32 => k_is)
    (case k32 => k_is); (case pg => k_is); (case hd => k_is); (case po => k_is); (case sa => k_is); (case mk => k_is)
    (case kc => k_is); (case n_ranks => k_is); (case n_comes => k_is); (case n_steps => k_is); (case n_done => k_is); (case n_tick => k_is)
    (case n_holders => k_is); (case n_wanted => k_is); (case n_held => k_is); (case n_going => k_is); (case a_PARTS => k_is); (case l_PARTS => k_is)
    (case a_WORDS => k_is); (case l_WORDS => k_is); (case z0 => k_is); (case z1 => k_is); (case z2 => k_is); (case z3 => k_is)
    (case z4 => k_is); (case z5 => k_is); (case z6 => k_is); (case z7 => k_is); (case z8 => k_is); (case z9 => k_is)
    (case z10 => k_is); (case z11 => k_is); (case z12 => k_is); (case z13 => k_is); (case z14 => k_is); (case z15 => k_is)
    (case aR => k_is)
    (case aE => k_is)
    (case aS => k_is)
    (case zV => k_is)
    (case mr1 => k_is)
    (case ga1 => k_is)
    (case gt1 => k_is)
    (case ca1 => k_is)
    (case mo1 => k_is)
    (case mb1 => k_is)
    (case mv1 => k_is)
    (case ty1 => k_is)
    (case ex1 => k_exc)
    (case mr2 => k_is)
    (case ga2 => k_is)
    (case gt2 => k_is)
    (case ca2 => k_is)
    (case mo2 => k_is)
    (case mb2 => k_is)
    (case mv2 => k_is)
    (case ty2 => k_is)
    (case ex2 => k_exc)
    (case m12 => k_is)
    (case m21 => k_is)
    (case ne12 => rfl)
    (case mbR => k_is)
    (case tyR => k_is)
    (case spc => k_is)
    (case tkc => k_is)
    (case e_PARTS => exact B.ent_PARTS rfl rfl rfl); (case s_PARTS => rfl)
    (case e_WORDS => exact B.ent_WORDS rfl rfl rfl); (case s_WORDS => rfl)
