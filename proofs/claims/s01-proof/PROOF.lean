import PyProof.Rows.All
import Wide.All
import OpenK.AllK
import Wide.FinOn
import PyProof.EqAt
import PyProof.EqKinds
import PyProof.TupleCall
import KE.BitLaws
import Open.SpecLaws
import KE.OsHead
import KE.OsGo
import KE.KLam
import KE.KNestM
import KE.KDictSum
import KE.KMinBuiltin
import PyProof.WalkInts
import PyProof.Rows.CallKwBuiltin
import PyProof.Rows.SortShell
import PySem.Challenge.RW_bendlorries_s01_answers
set_option Elab.async false
set_option linter.all false
set_option maxRecDepth 100000
set_option maxHeartbeats 8000000
section
namespace L2
open PySem PySem.Spec PyProof.Rows
abbrev Key := Sum Int Str
def keyIs : Key → Value → Bool
  | .inl k, v => Value.isInt k v
  | .inr x, v => Value.isStrOf x v
def keyH (w : World) : Key → Int
  | .inl k => hashInt k
  | .inr x => hashStr w x
theorem keyIs_shape : ∀ {k : Key} {v : Value}, keyIs k v = true → (∃ i t, k = Sum.inl i ∧ v = Value.int i t) ∨ (∃ x t, k = Sum.inr x ∧ v = Value.str x t)
  | .inl i, v, h => by
    obtain ⟨t, e⟩ := Value.isInt_shape (k := i) (v := v) h
    exact .inl ⟨i, t, rfl, e⟩
  | .inr x, v, h => by
    obtain ⟨t, e⟩ := Value.isStrOf_shape (x := x) (v := v) h
    exact .inr ⟨x, t, rfl, e⟩
theorem keyIs_int (i : Int) (t : Tok) : keyIs (.inl i) (.int i t) = true := by simp [keyIs, Value.isInt]
theorem keyIs_str (x : Str) (t : Tok) : keyIs (.inr x) (.str x t) = true := by simp [keyIs, Value.isStrOf]
theorem key_ll (a b : Int) : decide ((Sum.inl a : Key) = Sum.inl b) = (a == b) := by
  by_cases e : a = b
  · subst e; simp
  · have h : ¬ (Sum.inl a : Key) = Sum.inl b := fun q => e (Sum.inl.inj q)
    rw [decide_eq_false h]
    exact (beq_eq_false_iff_ne.mpr e).symm
theorem key_rr (a b : Str) : decide ((Sum.inr a : Key) = Sum.inr b) = decide (a = b) := by
  by_cases e : a = b
  · subst e; simp
  · have h : ¬ (Sum.inr a : Key) = Sum.inr b := fun q => e (Sum.inr.inj q)
    rw [decide_eq_false h, decide_eq_false e]
theorem key_lr (a : Int) (b : Str) : decide ((Sum.inl a : Key) = Sum.inr b) = false := decide_eq_false (fun q => nomatch q)
theorem key_rl (a : Str) (b : Int) : decide ((Sum.inr a : Key) = Sum.inl b) = false := decide_eq_false (fun q => nomatch q)
def mixKind (prog : Program) (w : World) : PySem.KeyKind prog w Key where
  is := keyIs
  hash := keyH w
  inj := fun v a b ha hb => by
    rcases keyIs_shape ha with ⟨i, t, rfl, rfl⟩ | ⟨x, t, rfl, rfl⟩
    · rcases keyIs_shape hb with ⟨j, u, rfl, e⟩ | ⟨y, u, rfl, e⟩
      · injection e with e1 _; rw [e1]
      · exact nomatch e
    · rcases keyIs_shape hb with ⟨j, u, rfl, e⟩ | ⟨y, u, rfl, e⟩
      · exact nomatch e
      · injection e with e1 _; rw [e1]
  byValue := fun k v h => by
    rcases keyIs_shape h with ⟨i, t, rfl, rfl⟩ | ⟨x, t, rfl, rfl⟩ <;> rfl
  pyHash := fun hv h => by
    rcases keyIs_shape hv with ⟨i, t, rfl, rfl⟩ | ⟨x, t, rfl, rfl⟩
    · exact wpAny_pyHash_int h
    · exact wpAny_pyHash_str h
  eqBool := fun hu hv h => by
    rcases keyIs_shape hu with ⟨i, t, rfl, rfl⟩ | ⟨x, t, rfl, rfl⟩
    · rcases keyIs_shape hv with ⟨j, u, rfl, rfl⟩ | ⟨y, u, rfl, rfl⟩
      · rw [key_ll] at h; exact wpAny_eqBool_int h
      · rw [key_lr] at h; exact SeqAt.EqAt.int_str i t y u _ _ _ _ h
    · rcases keyIs_shape hv with ⟨j, u, rfl, rfl⟩ | ⟨y, u, rfl, rfl⟩
      · rw [key_rl] at h; exact SeqAt.EqAt.str_int x t j u _ _ _ _ h
      · rw [key_rr] at h; exact wpAny_eqBool_str h
  «strs» := fun k x t v h => by
    rcases keyIs_shape h with ⟨i, u, rfl, e⟩ | ⟨y, u, rfl, e⟩
    · exact nomatch e
    · injection e with e1 _
      subst e1
      cases v <;> rfl
theorem mixKind_int (prog : Program) (w : World) (i : Int) (t : Tok) : (mixKind prog w).is (.inl i) (.int i t) = true := keyIs_int i t
theorem mixKind_str (prog : Program) (w : World) (x : Str) (t : Tok) : (mixKind prog w).is (.inr x) (.str x t) = true := keyIs_str x t
end L2
namespace L2
open PySem PySem.Spec PyProof.Rows
inductive V where
  | non | bl (b : Bool) | int (i : Int) | str (x : Str) | byt (b : Array UInt8) | flt (b : UInt64) | ref (a : Addr) | ty (n : String)
  deriving DecidableEq
def RelV : V → Value → Prop
  | .non, u => u = Value.none
  | .bl b, u => u = Value.bool b
  | .int i, u => ∃ t, u = Value.int i t
  | .str x, u => ∃ t, u = Value.str x t
  | .byt b, u => ∃ t, u = Value.bytes b t
  | .flt b, u => ∃ t, u = Value.float b t
  | .ref a, u => u = Value.ref a
  | .ty n, u => u = Value.type n
abbrev Vals : List V → List Value → Prop := Paired RelV
theorem Vals.length {xs : List V} {us : List Value} (r : Vals xs us) : xs.length = us.length := Paired.length r
theorem Vals.get : ∀ {xs : List V} {us : List Value} {i : Nat} {x : V}, Vals xs us → xs[i]? = some x → ∃ u, us[i]? = some u ∧ RelV x u
  | _, _, _, _, .nil, e => by simp at e
  | _, _, 0, _, .cons r _, e => by simp at e; subst e; exact ⟨_, rfl, r⟩
  | _, _, i + 1, x, .cons _ t, e => by
    obtain ⟨u, h1, h2⟩ := Vals.get (i := i) (x := x) t (by simpa using e)
    exact ⟨u, by simpa using h1, h2⟩
theorem Vals.append : ∀ {xs ys : List V} {us ws : List Value}, Vals xs us → Vals ys ws → Vals (xs ++ ys) (us ++ ws)
  | _, _, _, _, .nil, s => s
  | _, _, _, _, .cons r t, s => .cons r (Vals.append t s)
theorem Vals.take : ∀ {xs : List V} {us : List Value} (n : Nat), Vals xs us → Vals (xs.take n) (us.take n)
  | _, _, 0, _ => .nil
  | _, _, _ + 1, .nil => .nil
  | _, _, n + 1, .cons r t => .cons r (Vals.take n t)
theorem Vals.drop : ∀ {xs : List V} {us : List Value} (n : Nat), Vals xs us → Vals (xs.drop n) (us.drop n)
  | _, _, 0, r => r
  | _, _, _ + 1, .nil => .nil
  | _, _, n + 1, .cons _ t => Vals.drop n t
def RelO : Option V → Option Value → Prop
  | some v, some u => RelV v u
  | none, none => True
  | _, _ => False
def KV {κ : Type} : List (κ × V) → List (κ × Value) → Prop := Paired fun (p : κ × V) (q : κ × Value) => p.1 = q.1 ∧ RelV p.2 q.2
def kV : Key → V
  | .inl i => .int i
  | .inr x => .str x
inductive HO where
  | lst (xs : List V)
  | tup (xs : List V)
  | dK (kvs : List (Key × V)) | dT (kvs : List (List Key × V))
  | set (S : Int → Bool) (n : Nat)
  | ins (C dx : Addr) (fs : List (Str × V))
  | own (x : Addr)
  | xd (fs : List (Str × V))
  | met (f x : Addr)
  | rng (lo hi : Int)
  | frz (o : Obj) (u : HO)
  | tbl (ps : Array Value)
  | ext (φ : Heap → Prop)
abbrev Hp := Addr → Option HO
def upd (H : Hp) (a : Addr) (o : HO) : Hp := fun b => if b = a then some o else H b
theorem upd_same {H : Hp} {a : Addr} {o : HO} : upd H a o a = some o := by unfold upd; rw [if_pos rfl]
theorem upd_ne {H : Hp} {a b : Addr} {o : HO} (h : b ≠ a) : upd H a o b = H b := by unfold upd; rw [if_neg h]
theorem ne_of {H : Hp} {a b : Addr} {o u : HO} (h : H a = some o) (h' : H b = some u) (d : o ≠ u) : a ≠ b := by
  intro e; subst e; rw [h] at h'; exact d (Option.some.inj h')
theorem ne_of_none {H : Hp} {a b : Addr} {o : HO} (h : H a = some o) (h' : H b = none) : a ≠ b := by
  intro e; subst e; rw [h] at h'; cases h'
section
variable (P : Program) (w : World)
def ObjOk (H : Hp) (h : Heap) (a : Addr) : HO → Prop
  | .lst xs => xs.length ≤ sizeLine ∧ ∃ (its : List Value) (n : Nat), Vals xs its ∧ h.get? a = some { cls := .type "list", data := .seq its.toArray n }
  | .tup xs => xs.length ≤ sizeLine ∧ ∃ its : List Value, Vals xs its ∧ IsTup h a its.toArray
  | .dK kvs => kvs.length ≤ sizeLine ∧ (a == sysModules) = false ∧ ∃ vs, KV kvs vs ∧ h.DictOf (mixKind P w) a vs
  | .dT kvs => kvs.length ≤ sizeLine ∧ (a == sysModules) = false ∧ ∃ xs : List (List Key × Addr × Value),
      Paired (fun (p : List Key × V) (q : List Key × Addr × Value) => p.1 = q.1 ∧ H q.2.1 = some (.tup (p.1.map kV)) ∧ RelV p.2 q.2.2) kvs xs ∧
      ∃ o es ep, h.get? a = some o ∧ o.ExactDict ∧ o.data = .dict es ep ∧ es.toList = xs.map (entryOfKey (tupleKind (mixKind P w))) ∧ (xs.map (·.1)).Nodup
  | .set S n => h.SetOf (intKind P w) a S n
  | .ins C dx fs => H dx = some (.own a) ∧ fs.length ≤ 1000 ∧ dx ≠ a ∧ h.get? a = some (PySem.W.instObj C dx) ∧
      ∃ mA, h.Ns1 dx mA ∧ (∀ f, RelO (fs.lookup f) (mA f)) ∧ PySem.Within mA (fs.map (·.1))
  | .own _ => ∃ o, h.get? a = some o
  | .xd fs => ∃ mA, h.Ns1 a mA ∧ ∀ f, RelO (fs.lookup f) (mA f)
  | .rng lo hi => ∃ t u v, h.get? a = some { cls := .type "range", data := .fields #[.int lo t, .int hi u, .int 1 v] }
  | .frz o u => h.get? a = some o ∧ ObjOk H h a u
  | .tbl ps => h.get? a = some { cls := .none, data := .fields ps }
  | .met f x => h.get? a = some (PySem.W.methodObj (.ref f) (.ref x))
  | .ext φ => φ h ∧ (∃ o, h.get? a = some o) ∧ ∀ h1 h2 : Heap, φ h1 → (∀ o, h1.get? a = some o → h2.get? a = some o) → φ h2
def HOk (H : Hp) (h : Heap) : Prop := ∀ a o, H a = some o → ObjOk P w H h a o
end
section
variable {P : Program} {w : World} {H H' : Hp} {h h' : Heap} {a : Addr} {o : HO}
theorem ObjOk.lt (x : ObjOk P w H h a o) : a < h.objs.size := by
  cases o with
  | lst xs => obtain ⟨_, _, _, _, e⟩ := x; exact Heap.lt_size e
  | tup xs => obtain ⟨_, _, _, p⟩ := x; exact p.lt
  | dK kvs => obtain ⟨_, _, _, _, o, _, _, e, _⟩ := x; exact Heap.lt_size e
  | dT kvs => obtain ⟨_, _, _, _, o, _, _, e, _⟩ := x; exact Heap.lt_size e
  | set S n => obtain ⟨o, _, _, _, e, _⟩ := x; exact Heap.lt_size e
  | ins C dx fs => obtain ⟨_, _, _, e, _⟩ := x; exact Heap.lt_size e
  | own y => obtain ⟨_, e⟩ := x; exact Heap.lt_size e
  | xd fs => obtain ⟨_, ⟨_, _, _, e, _⟩, _⟩ := x; exact Heap.lt_size e
  | rng lo hi => obtain ⟨_, _, _, e⟩ := x; exact Heap.lt_size e
  | frz ob u => obtain ⟨e, _⟩ := x; exact Heap.lt_size e
  | tbl ps => exact Heap.lt_size (show h.get? a = some _ from x)
  | met f y => exact Heap.lt_size (show h.get? a = some _ from x)
  | ext φ => obtain ⟨_, ⟨_, e⟩, _⟩ := x; exact Heap.lt_size e
theorem Paired.mapP {α β : Type} {F G : α → β → Prop} : ∀ {l₁ : List α} {l₂ : List β}, Paired F l₁ l₂ → (∀ a b, F a b → G a b) → Paired G l₁ l₂
  | _, _, .nil, _ => .nil
  | _, _, .cons r t, f => .cons (f _ _ r) (Paired.mapP t f)
theorem ObjOk.stay (x : ObjOk P w H h a o) (k : ∀ b u, (b = a ∨ H b = some (.own a)) → h.get? b = some u → h'.get? b = some u)
    (ho : ∀ b, H b = some (.own a) → H' b = some (.own a)) (ht : ∀ b xs, H b = some (.tup xs) → H' b = some (.tup xs)) : ObjOk P w H' h' a o := by
  induction o with
  | lst xs => obtain ⟨z, its, n, r, e⟩ := x; exact ⟨z, its, n, r, k _ _ (.inl rfl) e⟩
  | tup xs => obtain ⟨z, its, r, ob, e, c⟩ := x; exact ⟨z, its, r, ob, k _ _ (.inl rfl) e, c⟩
  | dK kvs => obtain ⟨z, y, vs, r, ob, es, ep, e, c⟩ := x; exact ⟨z, y, vs, r, ob, es, ep, k _ _ (.inl rfl) e, c⟩
  | dT kvs =>
    obtain ⟨z, y, xs, r, ob, es, ep, e, c⟩ := x
    exact ⟨z, y, xs, Paired.mapP r fun p q z => ⟨z.1, ht _ _ z.2.1, z.2.2⟩, ob, es, ep, k _ _ (.inl rfl) e, c⟩
  | set S n => obtain ⟨ob, es, ep, t, e, c⟩ := x; exact ⟨ob, es, ep, t, k _ _ (.inl rfl) e, c⟩
  | ins C dx fs =>
    obtain ⟨d, z, ne, e, mA, ⟨od, es, ep, e2, c⟩, r⟩ := x
    exact ⟨ho _ d, z, ne, k _ _ (.inl rfl) e, mA, ⟨od, es, ep, k _ _ (.inr d) e2, c⟩, r⟩
  | own y => obtain ⟨ob, e⟩ := x; exact ⟨ob, k _ _ (.inl rfl) e⟩
  | xd fs => obtain ⟨mA, ⟨od, es, ep, e, c⟩, r⟩ := x; exact ⟨mA, ⟨od, es, ep, k _ _ (.inl rfl) e, c⟩, r⟩
  | rng lo hi => obtain ⟨t, u, v, e⟩ := x; exact ⟨t, u, v, k _ _ (.inl rfl) e⟩
  | frz ob u ih => obtain ⟨e, q⟩ := x; exact ⟨k _ _ (.inl rfl) e, ih q⟩
  | tbl ps =>
    have e : h.get? a = some { cls := .none, data := .fields ps } := x
    show h'.get? a = some { cls := .none, data := .fields ps }
    exact k a _ (.inl rfl) e
  | met f y =>
    have e : h.get? a = some (PySem.W.methodObj (.ref f) (.ref y)) := x
    show h'.get? a = some (PySem.W.methodObj (.ref f) (.ref y))
    exact k a _ (.inl rfl) e
  | ext φ => obtain ⟨p, ⟨o, e⟩, st⟩ := x; exact ⟨st _ _ p fun o q => k _ _ (.inl rfl) q, ⟨o, k _ _ (.inl rfl) e⟩, st⟩
theorem HOk.lt (x : HOk P w H h) (e : H a = some o) : a < h.objs.size := (x a o e).lt
theorem HOk.fresh (x : HOk P w H h) (e : h.objs.size ≤ a) : H a = none := by
  cases q : H a with
  | none => rfl
  | some u => exact absurd (Nat.lt_of_lt_of_le (x.lt q) e) (Nat.lt_irrefl _)
theorem HOk.kept (x : HOk P w H h) (k : ∀ b u, h.get? b = some u → h'.get? b = some u) : HOk P w H h' := fun a o e =>
  (x a o e).stay (fun b u _ q => k b u q) (fun _ q => q) fun _ _ q => q
theorem HOk.laid (x : HOk P w H h) (k : ∀ b u, h.get? b = some u → h'.get? b = some u) (hp : h.objs.size ≤ a) (new : ObjOk P w (upd H a o) h' a o) : HOk P w (upd H a o) h' := fun b u e => by
  have hn := x.fresh hp
  by_cases hb : b = a
  · subst hb; rw [upd_same] at e; cases e; exact new
  · rw [upd_ne hb] at e
    exact (x b u e).stay (fun c v _ q => k c v q) (fun c q => by rw [upd_ne (ne_of_none q hn)]; exact q) fun c xs q => by rw [upd_ne (ne_of_none q hn)]; exact q
end
def Rd (H : Hp) (a : Addr) (u : HO) : Prop := H a = some u ∨ ∃ o, H a = some (.frz o u)
theorem Rd.ok {P : Program} {w : World} {H : Hp} {h : Heap} {a : Addr} {u : HO} (r : Rd H a u) (x : HOk P w H h) : ObjOk P w H h a u := by
  rcases r with r | ⟨o, r⟩
  · exact x a u r
  · obtain ⟨_, q⟩ := x a _ r
    exact q
def Mut : Option HO → Prop
  | some (.lst _) => True
  | some (.dK _) => True
  | some (.dT _) => True
  | some (.set _ _) => True
  | some (.ins _ _ _) => True
  | some (.ext _) => True
  | _ => False
section
variable {P : Program} {w : World} {H : Hp} {h h' : Heap} {x e : Addr} {o' : HO}
theorem HOk.write (ok : HOk P w H h) (mu : Mut (H x)) (he : e = x ∨ H e = some (.own x)) (k : ∀ b u, b ≠ e → h.get? b = some u → h'.get? b = some u) (heo : ∃ u, h'.get? e = some u)
    (new : ObjOk P w (upd H x o') h' x o') : HOk P w (upd H x o') h' := fun b u q => by
  have nown : ∀ c y, H c = some (.own y) → c ≠ x := fun c y r z => by subst z; rw [r] at mu; exact mu
  have ntup : ∀ c xs, H c = some (.tup xs) → c ≠ x := fun c xs r z => by subst z; rw [r] at mu; exact mu
  by_cases hb : b = x
  · subst hb; rw [upd_same] at q; cases q; exact new
  · rw [upd_ne hb] at q
    by_cases hbe : b = e
    · have q' : H b = some (.own x) := by
        rcases he with z | z
        · exact absurd (hbe.trans z) hb
        · rw [hbe]; exact z
      rw [q] at q'; cases q'
      obtain ⟨v, hv⟩ := heo
      exact ⟨v, by rw [hbe]; exact hv⟩
    · refine (ok b u q).stay (fun c v hc r => k c v ?_ r) (fun c r => by rw [upd_ne (nown c b r)]; exact r) fun c xs r => by rw [upd_ne (ntup c xs r)]; exact r
      rcases hc with rfl | hc
      · exact hbe
      · rintro rfl
        rcases he with z | z
        · exact nown c b hc z
        · rw [hc] at z; cases z; exact hb rfl
end
structure Un (fs ex : List Addr) (H H' : Hp) (h h' : Heap) : Prop where
  keep : ∀ b o, h.get? b = some o → H b = none → b ∉ fs → b ∉ ex → h'.get? b = some o
  slot : ∀ b o, h.get? b = some o → H b = none → b ∈ fs → b ∉ ex → ∃ sl, h'.get? b = some { o with slots := sl }
  free : ∀ b o, h.get? b = some o → H b = none → b ∉ ex → H' b = none
  there : ∀ b o, h.get? b = some o → b ∉ ex → ∃ o', h'.get? b = some o'
  tups : ∀ b xs, H b = some (.tup xs) → H' b = some (.tup xs)
  frzs : ∀ b o u, H b = some (.frz o u) → H' b = some (.frz o u)
  tbls : ∀ b ps, H b = some (.tbl ps) → ∃ more, H' b = some (.tbl (ps ++ more))
section
variable {fs fs' ex ex' : List Addr} {H H1 H2 : Hp} {h h1 h2 h' : Heap} {a x e : Addr} {o : HO}
theorem Un.any (u : Un fs ex H H1 h h1) {b : Addr} {ob : Obj} (q : h.get? b = some ob) (n : H b = none) (hx : b ∉ ex) : ∃ sl, h1.get? b = some { ob with slots := sl } := by
  by_cases hb : b ∈ fs
  · exact u.slot b ob q n hb hx
  · exact ⟨ob.slots, u.keep b ob q n hb hx⟩
theorem Un.kept (k : ∀ b u, h.get? b = some u → h'.get? b = some u) : Un fs ex H H h h' :=
  ⟨fun b ob q _ _ _ => k b ob q, fun b ob q _ _ _ => ⟨ob.slots, k b ob q⟩, fun _ _ _ n _ => n, fun b ob q _ => ⟨ob, k b ob q⟩, fun _ _ q => q, fun _ _ _ q => q, fun _ ps q => ⟨#[], by rw [q]; simp⟩⟩
theorem Un.refl : Un fs ex H H h h := Un.kept fun _ _ q => q
theorem Un.laid (k : ∀ b u, h.get? b = some u → h'.get? b = some u) (hp : h.objs.size ≤ a) (hn : H a = none) : Un fs ex H (upd H a o) h h' where
  keep := fun b u q _ _ _ => k b u q
  slot := fun b u q _ _ _ => ⟨u.slots, k b u q⟩
  free := fun b u q n _ => by rw [upd_ne (Nat.ne_of_lt (Nat.lt_of_lt_of_le (Heap.lt_size q) hp))]; exact n
  there := fun b u q _ => ⟨u, k b u q⟩
  tups := fun b xs q => by rw [upd_ne (ne_of_none q hn)]; exact q
  frzs := fun b u xs q => by rw [upd_ne (ne_of_none q hn)]; exact q
  tbls := fun b ps q => ⟨#[], by rw [upd_ne (ne_of_none q hn), q]; simp⟩
theorem Un.write (mu : Mut (H x)) (he : e = x ∨ H e = some (.own x)) (k : ∀ b u, b ≠ e → h.get? b = some u → h'.get? b = some u) (heo : ∃ u, h'.get? e = some u) : Un fs ex H (upd H x o) h h' := by
  have hx : ∀ b, H b = none → b ≠ x := fun b n z => by subst z; rw [n] at mu; exact mu
  have hb : ∀ b, H b = none → b ≠ e := fun b n z => by
    subst z
    rcases he with r | r
    · exact hx b n r
    · rw [n] at r; cases r
  have hm : ∀ b u, H b = some u → ¬ Mut (some u) → b ≠ x := fun b u q nm z => by subst z; rw [q] at mu; exact nm mu
  refine ⟨fun b u q n _ _ => k b u (hb b n) q, fun b u q n _ _ => ⟨u.slots, k b u (hb b n) q⟩, fun b u q n _ => by rw [upd_ne (hx b n)]; exact n, fun b u q _ => ?_,
    fun b xs q => by rw [upd_ne (hm b _ q fun z => z)]; exact q, fun b u xs q => by rw [upd_ne (hm b _ q fun z => z)]; exact q, fun b ps q => ⟨#[], by rw [upd_ne (hm b _ q fun z => z), q]; simp⟩⟩
  by_cases hbe : b = e
  · subst hbe; exact heo
  · exact ⟨u, k b u hbe q⟩
end
def trk (h : Heap) (H : Hp) : List Addr := (List.range h.objs.size).filter fun a => (H a).isSome
def hidT (h : Heap) (H : Hp) : Heap := PySem.W.hideAll h (trk h H)
theorem hidT_size (h : Heap) (H : Hp) : (hidT h H).objs.size = h.objs.size := PySem.W.hideAll_size _ _
theorem hidT_get {h : Heap} {H : Hp} {b : Addr} {o : Obj} (e : h.get? b = some o) (n : H b = none) : (hidT h H).get? b = some o :=
  PySem.W.hideAll_get _ e fun hm => by
    have q : (H b).isSome = true := (List.mem_filter.mp hm).2
    rw [n] at q; simp at q
theorem of_hidT {h : Heap} {H : Hp} {b : Addr} {o : Obj} (e : (hidT h H).get? b = some o) : h.get? b = some o ∧ H b = none := by
  have e' : h.get? b = some o := PySem.W.of_hideAll (trk h H) e
  refine ⟨e', ?_⟩
  cases q : H b with
  | none => rfl
  | some x =>
    have hm : b ∈ trk h H := List.mem_filter.mpr ⟨List.mem_range.mpr (Heap.lt_size e'), by simp [q]⟩
    have z : (hidT h H).get? b = none := PySem.W.hideAll_none (trk h H) hm
    rw [z] at e; cases e
end L2
namespace L2
open PySem PySem.Spec PyProof.Rows
structure Mod (K : PySem.W.Frag) (mg : Str → Option Value) (base : Heap) : Prop where
  kin : K.In base
  glob : base.Ns mainGlobals mg
  blt : ∃ mb, base.Ns builtinsNs mb ∧ ∀ x : Str, x ≠ "__name__" → mb x = bootBuiltins x
  nolimit : base.NoLimit
/-- the context: a def's body (or a comprehension's block) running. base: fixed through the whole law; s₀, H₀: the entry; outer: the frames whose slots others may change (a def's callers); stack: all frames that run;
   ex: iterators that were made ahead of the entry and are walked here (a comprehension's); fn: the names whose cells were made at the entry (a def: all; a comprehension's block: its own); calm: not within an except suite; pn: pins that every state bears; xe: what is wanted of an exception that leaves the code -/
structure Cx where
  prog : Program
  w : World
  K : PySem.W.Frag
  mg : Str → Option Value
  base : Heap
  A : Around
  N : List Str
  s_0 : Shared
  H_0 : Hp
  env : Env
  outer : List Env
  stack : List Env
  ex : List Addr
  fn : Str → Bool
  calm : Bool
  pn : List (Addr × Obj)
  xe : Value → Shared → Prop
def frs (l : List Env) : List Addr := l.filterMap (·.frame)
abbrev Cx.fs (X : Cx) : List Addr := frs X.outer
def Vis (sc : Scope) (x : Str) : Prop := sc.names.lookup x = some .local ∨ sc.names.lookup x = some .cell ∨ sc.names.lookup x = some .free
def Loc (sc : Scope) (x : Str) : Prop := sc.names.lookup x = some .local ∨ sc.names.lookup x = some .cell
def Look (env : Env) (h : Heap) (m : Str → Option Value) (x : Str) (u : Value) : Prop :=
  (env.kindOf x = some .local ∧ m x = some u) ∨ ((env.kindOf x = some .cell ∨ env.kindOf x = some .free) ∧ ∃ c, env.cells.lookup x = some c ∧ h.IsCell c (some u))
structure Cx.Ok (X : Cx) : Prop where
  mod : Mod X.K X.mg X.base
  kind : X.env.scope.kind = .function
  glob : X.env.globals = mainGlobals
  blt : X.env.builtins = builtinsNs
  above : X.s_0.heap.objs.size ≤ X.env.locals
  inj : ∀ x y c, X.env.cells.lookup x = some c → X.env.cells.lookup y = some c → x = y
  has : ∀ x, (X.env.kindOf x = some .cell ∨ X.env.kindOf x = some .free) → ∃ c, X.env.cells.lookup x = some c
  cab : ∀ x c, X.fn x = true → X.env.cells.lookup x = some c → X.s_0.heap.objs.size ≤ c
  hd : X.calm = true → X.A.handled = none
  frames : X.A.frames = some X.stack
  stk : X.stack = X.outer ∨ (X.stack = X.env :: X.outer ∧ X.env.frame = some X.env.locals)
  exf : ∀ b ∈ X.ex, b ≠ X.env.locals ∧ ∀ x c, X.env.cells.lookup x = some c → c ≠ b
  bs : ∀ b o, X.base.get? b = some o → X.s_0.heap.get? b = some o ∧ X.H_0 b = none
  bsz : X.base.objs.size ≤ X.s_0.heap.objs.size
  noex : ∀ b o, X.base.get? b = some o → b ∉ X.ex
  exfs : ∀ b ∈ X.ex, b ∉ X.fs
  funs : X.s_0.heap.FunFrames X.base X.outer
  frf : ∀ b ∈ X.fs, X.H_0 b = none
structure Inv (X : Cx) (pins : List (Addr × Obj)) (σ : List (Option V)) (H : Hp) (s : Shared) : Prop where
  ok : X.Ok
  os : s.os = X.s_0.os
  bare : AllBare s.gens
  base : Un X.fs X.ex X.H_0 H X.s_0.heap s.heap
  loc : ∃ m, s.heap.Ns X.env.locals m ∧ ∀ (i : Nat) (x : Str) (v : V), X.N[i]? = some x → σ[i]? = some (some v) → Vis X.env.scope x → ∃ u, RelV v u ∧ Look X.env s.heap m x u
  cell : ∀ x c, X.env.cells.lookup x = some c → ∃ v, s.heap.IsCell c v
  free : H X.env.locals = none
  freeC : ∀ x c, X.env.cells.lookup x = some c → H c = none
  pin : ∀ p ∈ X.pn ++ pins, s.heap.get? p.1 = some p.2 ∧ H p.1 = none ∧ p.1 ≠ X.env.locals ∧ p.1 ∉ X.fs ∧ ∀ v, p.2.data ≠ .cell v
  hok : HOk X.prog X.w H s.heap
  len : σ.length = X.N.length
section
variable {X : Cx} {pins : List (Addr × Obj)} {σ : List (Option V)} {H H' : Hp} {s : Shared} {h' : Heap}
theorem Cx.Ok.nofr (ok : X.Ok) {b : Addr} {o : Obj} (e : X.base.get? b = some o) : b ∉ X.fs := fun hb => by
  have := (ok.funs.mem hb).1
  rw [e] at this; cases this
theorem Inv.bs (I : Inv X pins σ H s) : ∀ b o, X.base.get? b = some o → s.heap.get? b = some o ∧ H b = none := fun b o e =>
  ⟨I.base.keep b o (I.ok.bs b o e).1 (I.ok.bs b o e).2 (I.ok.nofr e) (I.ok.noex b o e), I.base.free b o (I.ok.bs b o e).1 (I.ok.bs b o e).2 (I.ok.noex b o e)⟩
theorem Inv.bk (I : Inv X pins σ H s) : ∀ b o, X.base.get? b = some o → s.heap.get? b = some o := fun b o e => (I.bs b o e).1
theorem Inv.mod (I : Inv X pins σ H s) : Mod X.K X.mg X.base := I.ok.mod
theorem Inv.kIn (I : Inv X pins σ H s) : X.K.In s.heap := I.ok.mod.kin.keeps I.bk
theorem Inv.fr (I : Inv X pins σ H s) : ∃ m, Fr X.base X.env.locals s.heap m :=
  let ⟨m, hn, _⟩ := I.loc
  ⟨m, hn, I.bk, Nat.le_trans I.ok.bsz I.ok.above⟩
theorem Inv.lt (I : Inv X pins σ H s) : X.env.locals < s.heap.objs.size := let ⟨_, hn, _⟩ := I.loc; hn.lt
theorem Inv.sz (I : Inv X pins σ H s) : X.s_0.heap.objs.size ≤ s.heap.objs.size := Nat.le_trans I.ok.above (Nat.le_of_lt I.lt)
theorem Inv.nofs (I : Inv X pins σ H s) {a : Addr} (h : s.heap.objs.size ≤ a) : a ∉ X.fs := fun hb => by
  obtain ⟨_, o, ho, _⟩ := I.ok.funs.mem hb
  exact absurd (Nat.lt_of_lt_of_le (Heap.lt_size ho) (Nat.le_trans I.sz h)) (Nat.lt_irrefl _)
theorem Inv.cne (I : Inv X pins σ H s) : ∀ x c, X.env.cells.lookup x = some c → c ≠ X.env.locals := fun x c e z => by
  obtain ⟨v, o, ho, hd⟩ := I.cell x c e
  obtain ⟨m, ⟨o', es, ep, ho', hd', _⟩, _⟩ := I.loc
  rw [z, ho'] at ho; cases ho; rw [hd'] at hd; cases hd
theorem Inv.funs (I : Inv X pins σ H s) : s.heap.FunFrames X.base X.outer := by
  have all : ∀ (l : List Env), (∀ b ∈ frs l, b ∈ X.fs) → X.s_0.heap.FunFrames X.base l → s.heap.FunFrames X.base l := by
    intro l
    induction l with
    | nil => intro _ _; trivial
    | cons env r ih =>
      intro hs hl
      obtain ⟨hk, ⟨L, o, hf, hn, ho, hd⟩, hr⟩ := hl
      have hL : L ∈ X.fs := hs L (by unfold frs; rw [List.filterMap_cons, hf]; exact List.mem_cons_self)
      obtain ⟨sl, e⟩ := I.base.slot L o ho (I.ok.frf L hL) hL fun z => I.ok.exfs L z hL
      exact ⟨hk, ⟨L, _, hf, hn, e, hd⟩, ih (fun b hb => hs b (by unfold frs; rw [List.filterMap_cons, hf]; exact List.mem_cons_of_mem _ hb)) hr⟩
  exact all X.outer (fun _ hb => hb) I.ok.funs
theorem Inv.stack (I : Inv X pins σ H s) : s.heap.FunFrames X.base X.stack := by
  rcases I.ok.stk with e | ⟨e, hf⟩
  · rw [e]; exact I.funs
  · rw [e]
    obtain ⟨m, hn, _⟩ := I.loc
    refine .cons (by rw [I.ok.kind]; decide) hf hn ?_ I.funs
    exact Heap.get?_none_of_le (Nat.le_trans I.ok.bsz I.ok.above)
theorem Inv.stkSub (I : Inv X pins σ H s) : ∀ b ∈ frs X.stack, b ∈ X.env.locals :: X.fs := fun b hb => by
  rcases I.ok.stk with e | ⟨e, hf⟩
  · rw [e] at hb; exact List.mem_cons_of_mem _ hb
  · rw [e] at hb
    unfold frs at hb
    rw [List.filterMap_cons, hf] at hb
    exact hb
theorem Inv.stkFree (I : Inv X pins σ H s) : ∀ b ∈ frs X.stack, H b = none := fun b hb => by
  rcases List.mem_cons.mp (I.stkSub b hb) with e | hb
  · rw [e]; exact I.free
  · obtain ⟨_, o, ho, _⟩ := I.ok.funs.mem hb
    exact I.base.free b o ho (I.ok.frf b hb) fun z => I.ok.exfs b z hb
theorem Inv.step {g' : Array GenState} {t' : Nat} {d' : Drawn} {ch : List Addr} (I : Inv X pins σ H s)
    (hch : ∀ b ∈ ch, (b ∈ X.ex ∨ X.s_0.heap.objs.size ≤ b) ∧ b ≠ X.env.locals ∧ (∀ x c, X.env.cells.lookup x = some c → c ≠ b) ∧ ∀ p ∈ X.pn ++ pins, p.1 ≠ b)
    (keep : ∀ b o, b ≠ X.env.locals → b ∉ X.fs → b ∉ ch → s.heap.get? b = some o → H b = none → h'.get? b = some o)
    (slot : ∀ b o, b ≠ X.env.locals → b ∈ X.fs → b ∉ ch → s.heap.get? b = some o → H b = none → ∃ sl, h'.get? b = some { o with slots := sl }) (free : ∀ b o, b ∉ ch → s.heap.get? b = some o → H b = none → H' b = none)
    (there : ∀ b o, b ∉ ch → s.heap.get? b = some o → ∃ o', h'.get? b = some o')
    (tups : ∀ b xs, H b = some (.tup xs) → H' b = some (.tup xs)) (frzs : ∀ b o u, H b = some (.frz o u) → H' b = some (.frz o u)) (tbls : ∀ b ps, H b = some (.tbl ps) → ∃ more, H' b = some (.tbl (ps ++ more)))
    (ns : ∀ m, s.heap.Ns X.env.locals m → h'.Ns X.env.locals m) (hok : HOk X.prog X.w H' h') (hg : AllBare g') :
    Inv X pins σ H' { s with heap := h', gens := g', drawn := d', toks := t' } := by
  have neL : ∀ b o, X.s_0.heap.get? b = some o → b ≠ X.env.locals := fun b o e => Nat.ne_of_lt (Nat.lt_of_lt_of_le (Heap.lt_size e) I.ok.above)
  have neC : ∀ b o, X.s_0.heap.get? b = some o → b ∉ X.ex → b ∉ ch := fun b o e hx hb => by
    rcases (hch b hb).1 with z | z
    · exact hx z
    · exact absurd (Nat.lt_of_lt_of_le (Heap.lt_size e) z) (Nat.lt_irrefl _)
  have cellK : ∀ x c, X.env.cells.lookup x = some c → ∀ v, s.heap.IsCell c v → h'.IsCell c v := fun x c e v ⟨o, ho, hd⟩ => by
    have nch : c ∉ ch := fun z => (hch c z).2.2.1 x c e rfl
    by_cases hc : c ∈ X.fs
    · obtain ⟨sl, q⟩ := slot c o (I.cne x c e) hc nch ho (I.freeC x c e)
      exact ⟨_, q, hd⟩
    · exact ⟨o, keep c o (I.cne x c e) hc nch ho (I.freeC x c e), hd⟩
  refine ⟨I.ok, I.os, hg, ⟨fun b o e n hb hx => ?_, fun b o e n hb hx => ?_, fun b o e n hx => ?_, fun b o e hx => ?_, fun b xs e => tups b xs (I.base.tups b xs e), fun b o xs e => frzs b o xs (I.base.frzs b o xs e), fun b ps e => ?_⟩, ?_, fun x c e => ?_, ?_, fun x c e => ?_, fun p hp => ?_, hok, I.len⟩
  · exact keep b o (neL b o e) hb (neC b o e hx) (I.base.keep b o e n hb hx) (I.base.free b o e n hx)
  · obtain ⟨sl, e1⟩ := I.base.slot b o e n hb hx
    obtain ⟨sl', e2⟩ := slot b _ (neL b o e) hb (neC b o e hx) e1 (I.base.free b o e n hx)
    exact ⟨sl', e2⟩
  · obtain ⟨o', e1⟩ := I.base.there b o e hx
    exact free b o' (neC b o e hx) e1 (I.base.free b o e n hx)
  · obtain ⟨o', e1⟩ := I.base.there b o e hx
    exact there b o' (neC b o e hx) e1
  · obtain ⟨m1, e1⟩ := I.base.tbls b ps e
    obtain ⟨m2, e2⟩ := tbls b _ e1
    exact ⟨m1 ++ m2, by rw [e2, Array.append_assoc]⟩
  · obtain ⟨m, hn, hl⟩ := I.loc
    refine ⟨m, ns m hn, fun i x v e1 e2 e3 => ?_⟩
    obtain ⟨u, r, l⟩ := hl i x v e1 e2 e3
    refine ⟨u, r, ?_⟩
    rcases l with l | ⟨k, c, e, z⟩
    · exact .inl l
    · exact .inr ⟨k, c, e, cellK x c e _ z⟩
  · obtain ⟨v, z⟩ := I.cell x c e
    exact ⟨v, cellK x c e v z⟩
  · obtain ⟨m, ⟨o, _, _, ho, _⟩, _⟩ := I.loc
    exact free _ o (fun z => (hch _ z).2.1 rfl) ho I.free
  · obtain ⟨v, o, ho, hd⟩ := I.cell x c e
    exact free c o (fun z => (hch c z).2.2.1 x c e rfl) ho (I.freeC x c e)
  · obtain ⟨e, n, ne, nf, d⟩ := I.pin p hp
    have nch : p.1 ∉ ch := fun z => (hch p.1 z).2.2.2 p hp rfl
    exact ⟨keep p.1 p.2 ne nf nch e n, free p.1 p.2 nch e n, ne, nf, d⟩
theorem Inv.un {t' : Nat} (I : Inv X pins σ H s) (u : Un X.fs [] H H' s.heap h') (hok : HOk X.prog X.w H' h') : Inv X pins σ H' { s with heap := h', toks := t' } := by
  obtain ⟨m, ⟨o, es, ep, ho, r⟩, _⟩ := id I.loc
  obtain ⟨sl, hL⟩ := u.any ho I.free (by simp)
  exact I.step (g' := s.gens) (d' := s.drawn) (ch := []) (fun _ z => nomatch z) (fun b o _ hb _ e n => u.keep b o e n hb (by simp)) (fun b o _ hb _ e n => u.slot b o e n hb (by simp)) (fun b o _ e n => u.free b o e n (by simp)) (fun b o _ e => u.there b o e (by simp)) u.tups u.frzs u.tbls (fun m' hm => by
    obtain ⟨o', es', ep', ho', r'⟩ := hm
    rw [ho] at ho'; cases ho'
    exact ⟨_, es', ep', hL, r'⟩) hok I.bare
theorem Inv.call {g' : Array GenState} {t' : Nat} {d' : Drawn} {ch : List Addr} (I : Inv X pins σ H s) (u : Un (frs X.stack) ch H H' s.heap h') (hok : HOk X.prog X.w H' h') (hg : AllBare g')
    (hch : ∀ b ∈ ch, (b ∈ X.ex ∨ X.s_0.heap.objs.size ≤ b) ∧ b ≠ X.env.locals ∧ (∀ x c, X.env.cells.lookup x = some c → c ≠ b) ∧ ∀ p ∈ X.pn ++ pins, p.1 ≠ b) :
    Inv X pins σ H' { s with heap := h', gens := g', drawn := d', toks := t' } := by
  obtain ⟨m, ⟨o, es, ep, ho, r⟩, _⟩ := id I.loc
  obtain ⟨sl, hL⟩ := u.any ho I.free fun z => (hch _ z).2.1 rfl
  exact I.step (ch := ch) hch (fun b o hL hb hc e n => u.keep b o e n (fun z => (List.mem_cons.mp (I.stkSub b z)).elim hL hb) hc) (fun b o _ _ hc e n => u.any e n hc) (fun b o hc e n => u.free b o e n hc) (fun b o hc e => u.there b o e hc) u.tups u.frzs u.tbls (fun m' hm => by
    obtain ⟨o', es', ep', ho', r'⟩ := hm
    rw [ho] at ho'; cases ho'
    exact ⟨_, es', ep', hL, r'⟩) hok hg
theorem Inv.turned {t' : Nat} {it : Addr} (I : Inv X pins σ H s) (k : ∀ b o, b ≠ it → s.heap.get? b = some o → h'.get? b = some o) (hn : H it = none) (hL : it ≠ X.env.locals)
    (h1 : it ∈ X.ex ∨ X.s_0.heap.objs.size ≤ it) (h2 : ∀ x c, X.env.cells.lookup x = some c → c ≠ it) (h3 : ∀ p ∈ X.pn ++ pins, p.1 ≠ it) : Inv X pins σ H { s with heap := h', toks := t' } := by
  have nit : ∀ b u, H b = some u → b ≠ it := fun b u e z => by rw [z, hn] at e; cases e
  refine I.step (g' := s.gens) (d' := s.drawn) (ch := [it]) (fun b hb => ?_) (fun b o _ _ hc e _ => k b o (fun z => hc (by simp [z])) e) (fun b o _ _ hc e _ => ⟨o.slots, k b o (fun z => hc (by simp [z])) e⟩) (fun _ _ _ _ n => n)
    (fun b o hc e => ⟨o, k b o (fun z => hc (by simp [z])) e⟩) (fun _ _ e => e) (fun _ _ _ e => e) (fun b ps e => ⟨#[], by rw [e]; simp⟩) (fun m hm => ?_) (fun b u e => ?_) I.bare
  · have e : b = it := by simpa using hb
    subst e
    exact ⟨h1, hL, h2, h3⟩
  · obtain ⟨o, es, ep, ho, r⟩ := hm
    exact ⟨o, es, ep, k _ o (Ne.symm hL) ho, r⟩
  · refine (I.hok b u e).stay (fun c v hc q => k c v ?_ q) (fun _ q => q) fun _ _ q => q
    rcases hc with z | z
    · rw [z]; exact nit b u e
    · exact nit c _ z
theorem Inv.tok (I : Inv X pins σ H s) (t : Nat) : Inv X pins σ H { s with toks := t } := I.un (h' := s.heap) (t' := t) Un.refl I.hok
theorem Inv.kept {t' : Nat} (I : Inv X pins σ H s) (k : ∀ b u, s.heap.get? b = some u → h'.get? b = some u) : Inv X pins σ H { s with heap := h', toks := t' } := I.un (Un.kept k) (I.hok.kept k)
theorem Inv.laid {a : Addr} {o : HO} {t' : Nat} (I : Inv X pins σ H s) (k : ∀ b u, s.heap.get? b = some u → h'.get? b = some u) (hp : s.heap.objs.size ≤ a) (new : ObjOk X.prog X.w (upd H a o) h' a o) :
    Inv X pins σ (upd H a o) { s with heap := h', toks := t' } := I.un (Un.laid k hp (I.hok.fresh hp)) (I.hok.laid k hp new)
theorem Inv.write {x e : Addr} {o : HO} {t' : Nat} (I : Inv X pins σ H s) (mu : Mut (H x)) (he : e = x ∨ H e = some (.own x)) (k : ∀ b u, b ≠ e → s.heap.get? b = some u → h'.get? b = some u) (heo : ∃ u, h'.get? e = some u)
    (new : ObjOk X.prog X.w (upd H x o) h' x o) : Inv X pins σ (upd H x o) { s with heap := h', toks := t' } := I.un (Un.write mu he k heo) (I.hok.write mu he k heo new)
theorem Inv.weak {σ' : List (Option V)} (I : Inv X pins σ H s) (hl : σ'.length = σ.length) (w : ∀ (i : Nat) v, σ'[i]? = some (some v) → σ[i]? = some (some v)) : Inv X pins σ' H s :=
  ⟨I.ok, I.os, I.bare, I.base, let ⟨m, hn, hl'⟩ := I.loc; ⟨m, hn, fun i x v e1 e2 e3 => hl' i x v e1 (w i v e2) e3⟩, I.cell, I.free, I.freeC, I.pin, I.hok, hl.trans I.len⟩
theorem Inv.pins_of {pins' : List (Addr × Obj)} (I : Inv X pins σ H s) (h : ∀ p ∈ pins', s.heap.get? p.1 = some p.2 ∧ H p.1 = none ∧ p.1 ≠ X.env.locals ∧ p.1 ∉ X.fs ∧ ∀ v, p.2.data ≠ .cell v) : Inv X pins' σ H s :=
  ⟨I.ok, I.os, I.bare, I.base, I.loc, I.cell, I.free, I.freeC, fun p hp => (List.mem_append.mp hp).elim (fun z => I.pin p (List.mem_append_left _ z)) (h p), I.hok, I.len⟩
theorem nodup_ix {N : List Str} (hN : N.Nodup) {i j : Nat} {x : Str} (a : N[i]? = some x) (b : N[j]? = some x) : i = j := by
  obtain ⟨h1, e1⟩ := List.getElem?_eq_some_iff.mp a
  obtain ⟨h2, e2⟩ := List.getElem?_eq_some_iff.mp b
  exact (List.getElem_inj hN).mp (e1.trans e2.symm)
theorem store_ok2 {M : Model} {A : Around} {E : Value → Shared → Prop} {i : Nat} {x : Str} {v : V} {u : Value} {Q : Unit → Shared → Prop} (I : Inv X pins σ H s) (hN : X.N.Nodup) (hi : X.N[i]? = some x) (hx : Loc X.env.scope x) (r : RelV v u)
    (h : ∀ s', Inv X pins (σ.set i (some v)) H s' → (∃ a, Heap.SameBut a s.heap s'.heap ∧ (a = X.env.locals ∨ X.env.cells.lookup x = some a)) → Q () s') (hf : X.fn x = true ∨ X.env.scope.names.lookup x = some .local := by first | exact .inl rfl | exact .inr rfl | assumption) : wpAny M A (storeName X.env x u) Q E s := by
  obtain ⟨m, hn, hl⟩ := id I.loc
  have hcls : (X.env.scope.kind == .class || (X.env.scope.kind == .module && X.env.locals != X.env.globals)) = false := by rw [I.ok.kind]; rfl
  have hiσ : i < σ.length := by rw [I.len]; exact (List.getElem?_eq_some_iff.mp hi).1
  have cne := I.cne
  have tracked : ∀ {a : Addr} {h' : Heap}, (∃ o, s.heap.get? a = some o ∧ H a = none) → Heap.SameBut a s.heap h' → HOk X.prog X.w H h' := fun {a h'} ha hs b ob e => by
    obtain ⟨_, _, hfree⟩ := ha
    refine (I.hok b ob e).stay (fun c w' hc q => (hs.2 c ?_).trans q) (fun _ q => q) fun _ _ q => q
    rintro rfl
    rcases hc with rfl | hc
    · rw [hfree] at e; cases e
    · rw [hfree] at hc; cases hc
  rcases hx with hk | hk
  · refine wpAny_storeName_local hk hn (fun h' hn' hs => ?_) hcls
    obtain ⟨oL, _, _, hoL, _⟩ := id hn
    refine h _ ⟨I.ok, I.os, I.bare, ⟨fun b o e n hb hx => ?_, fun b o e n hb hx => ?_, I.base.free, fun b o e hx => ?_, I.base.tups, I.base.frzs, I.base.tbls⟩, ⟨_, hn', fun j y v' e1 e2 e3 => ?_⟩, fun y c e => ?_, I.free, I.freeC, fun p hp => ?_, tracked ⟨oL, hoL, I.free⟩ hs, by simpa using I.len⟩ ⟨_, hs, .inl rfl⟩
    · exact (hs.2 b (Nat.ne_of_lt (Nat.lt_of_lt_of_le (Heap.lt_size e) I.ok.above))).trans (I.base.keep b o e n hb hx)
    · obtain ⟨sl, e1⟩ := I.base.slot b o e n hb hx
      exact ⟨sl, (hs.2 b (Nat.ne_of_lt (Nat.lt_of_lt_of_le (Heap.lt_size e) I.ok.above))).trans e1⟩
    · obtain ⟨o', e1⟩ := I.base.there b o e hx
      exact ⟨o', (hs.2 b (Nat.ne_of_lt (Nat.lt_of_lt_of_le (Heap.lt_size e) I.ok.above))).trans e1⟩
    · by_cases hj : j = i
      · subst hj
        rw [hi] at e1; cases e1
        rw [List.getElem?_set_self hiσ] at e2
        cases e2
        exact ⟨u, r, .inl ⟨hk, by simp⟩⟩
      · rw [List.getElem?_set_ne (Ne.symm hj)] at e2
        obtain ⟨u', r', q⟩ := hl j y v' e1 e2 e3
        refine ⟨u', r', ?_⟩
        rcases q with ⟨k, e⟩ | ⟨k, c, e, z⟩
        · refine .inl ⟨k, ?_⟩
          have : y ≠ x := fun e => hj (nodup_ix hN e1 (e ▸ hi))
          simp [this, e]
        · exact .inr ⟨k, c, e, z.sameBut hs (cne y c e)⟩
    · obtain ⟨w', z⟩ := I.cell y c e
      exact ⟨w', z.sameBut hs (cne y c e)⟩
    · obtain ⟨e, n, ne, nf, d⟩ := I.pin p hp
      exact ⟨(hs.2 p.1 ne).trans e, n, ne, nf, d⟩
  · have hfn : X.fn x = true := by
      rcases hf with z | z
      · exact z
      · rw [z] at hk; cases hk
    obtain ⟨c, hc⟩ := I.ok.has x (.inl hk)
    obtain ⟨w', z⟩ := I.cell x c hc
    refine wpAny_storeName_cell I.ok.kind hk hc z (fun h' hc' hs => ?_)
    obtain ⟨oc, hoc, hocd⟩ := id z
    refine h { s with heap := h' } ⟨I.ok, I.os, I.bare, ⟨fun b o e n hb hx => ?_, fun b o e n hb hx => ?_, I.base.free, fun b o e hx => ?_, I.base.tups, I.base.frzs, I.base.tbls⟩, ⟨m, hn.sameBut hs (Ne.symm (cne x c hc)), fun j y v' e1 e2 e3 => ?_⟩, fun y c' e => ?_, I.free, I.freeC, fun p hp => ?_, tracked ⟨oc, hoc, I.freeC x c hc⟩ hs, by simpa using I.len⟩ ⟨c, hs, .inr hc⟩
    · exact (hs.2 b (Nat.ne_of_lt (Nat.lt_of_lt_of_le (Heap.lt_size e) (I.ok.cab x c hfn hc)))).trans (I.base.keep b o e n hb hx)
    · obtain ⟨sl, e1⟩ := I.base.slot b o e n hb hx
      exact ⟨sl, (hs.2 b (Nat.ne_of_lt (Nat.lt_of_lt_of_le (Heap.lt_size e) (I.ok.cab x c hfn hc)))).trans e1⟩
    · obtain ⟨o', e1⟩ := I.base.there b o e hx
      exact ⟨o', (hs.2 b (Nat.ne_of_lt (Nat.lt_of_lt_of_le (Heap.lt_size e) (I.ok.cab x c hfn hc)))).trans e1⟩
    · by_cases hj : j = i
      · subst hj
        rw [hi] at e1; cases e1
        rw [List.getElem?_set_self hiσ] at e2
        cases e2
        exact ⟨u, r, .inr ⟨.inl hk, c, hc, hc'⟩⟩
      · rw [List.getElem?_set_ne (Ne.symm hj)] at e2
        obtain ⟨u', r', q⟩ := hl j y v' e1 e2 e3
        refine ⟨u', r', ?_⟩
        rcases q with q | ⟨k, c', e, z'⟩
        · exact .inl q
        · refine .inr ⟨k, c', e, z'.sameBut hs ?_⟩
          rintro rfl
          exact hj (nodup_ix hN e1 (I.ok.inj _ _ _ e hc ▸ hi))
    · by_cases hcc : c' = c
      · subst hcc; exact ⟨_, hc'⟩
      · obtain ⟨w2, z2⟩ := I.cell y c' e
        exact ⟨w2, z2.sameBut hs hcc⟩
    · obtain ⟨e, n, ne, nf, d⟩ := I.pin p hp
      refine ⟨(hs.2 p.1 ?_).trans e, n, ne, nf, d⟩
      intro q
      rw [q, hoc] at e
      have q' : oc = p.2 := Option.some.inj e
      exact d w' (by rw [← q']; exact hocd)
theorem store_ok {M : Model} {A : Around} {E : Value → Shared → Prop} {i : Nat} {x : Str} {v : V} {u : Value} {Q : Unit → Shared → Prop} (I : Inv X pins σ H s) (hN : X.N.Nodup) (hi : X.N[i]? = some x) (hx : Loc X.env.scope x) (r : RelV v u)
    (h : ∀ s', Inv X pins (σ.set i (some v)) H s' → Q () s') (hf : X.fn x = true ∨ X.env.scope.names.lookup x = some .local := by first | exact .inl rfl | exact .inr rfl | assumption) : wpAny M A (storeName X.env x u) Q E s :=
  store_ok2 I hN hi hx r (fun s' I' _ => h s' I') hf
theorem Inv.call' {s' : Shared} {ch : List Addr} (I : Inv X pins σ H s) (ho : s'.os = s.os) (u : Un (frs X.stack) ch H H' s.heap s'.heap) (hok : HOk X.prog X.w H' s'.heap) (hg : AllBare s'.gens)
    (hch : ∀ b ∈ ch, (b ∈ X.ex ∨ X.s_0.heap.objs.size ≤ b) ∧ b ≠ X.env.locals ∧ (∀ x c, X.env.cells.lookup x = some c → c ≠ b) ∧ ∀ p ∈ X.pn ++ pins, p.1 ≠ b) : Inv X pins σ H' s' := by
  obtain ⟨h', g', d', t', o'⟩ := s'
  have e : o' = s.os := ho
  subst e
  exact I.call (g' := g') (t' := t') (d' := d') u hok hg hch
end
abbrev XK := Value → Option Addr → Hp → Prop
abbrev St := List (Option V)
abbrev VK := V → Hp → Prop
abbrev TE := St → Hp → VK → Prop
abbrev TT := St → Hp → (Bool → Hp → Prop) → Prop
abbrev TA := St → Hp → (List V → Hp → Prop) → Prop
structure Ends where
  nx : St → Hp → Prop
  rt : VK
  bk : St → Hp → Prop := fun _ _ => False
  ct : St → Hp → Prop := fun _ _ => False
abbrev TS := Ends → St → Hp → Prop
def EP (X : Cx) (pins : List (Addr × Obj)) (σ : St) (Q : VK) (u : Value) (s' : Shared) : Prop := ∃ v H', Inv X pins σ H' s' ∧ RelV v u ∧ Q v H'
def TP (X : Cx) (pins : List (Addr × Obj)) (σ : St) (Q : Bool → Hp → Prop) (b : Bool) (s' : Shared) : Prop := ∃ H', Inv X pins σ H' s' ∧ Q b H'
def AP (X : Cx) (pins : List (Addr × Obj)) (σ : St) (Q : List V → Hp → Prop) (us : List Value) (s' : Shared) : Prop := ∃ vs H', Inv X pins σ H' s' ∧ Vals vs us ∧ Q vs H'
def SP (X : Cx) (pins : List (Addr × Obj)) (D : Ends) (f : Flow) (s' : Shared) : Prop :=
  match f with
  | .next => ∃ σ' H', Inv X pins σ' H' s' ∧ D.nx σ' H'
  | .brk => ∃ σ' H', Inv X pins σ' H' s' ∧ D.bk σ' H'
  | .cont => ∃ σ' H', Inv X pins σ' H' s' ∧ D.ct σ' H'
  | .ret u => ∃ v σ' H', Inv X pins σ' H' s' ∧ RelV v u ∧ D.rt v H'
def PE (X : Cx) (e : Expr) (t : TE) : Prop :=
  ∀ (pins : List (Addr × Obj)) (s : Shared) (σ : St) (H : Hp) (Q : VK), Inv X pins σ H s → t σ H Q → wpAny (model X.prog X.w) X.A (eval e X.env) (EP X pins σ Q) X.xe s
def PT (X : Cx) (e : Expr) (t : TT) : Prop :=
  ∀ (pins : List (Addr × Obj)) (s : Shared) (σ : St) (H : Hp) (Q : Bool → Hp → Prop), Inv X pins σ H s → t σ H Q → wpAny (model X.prog X.w) X.A (isTrue e X.env (eval e X.env)) (TP X pins σ Q) X.xe s
def PW (X : Cx) (e : Expr) (t : TT) : Prop :=
  ∀ (whole : Sem Value) (pins : List (Addr × Obj)) (s : Shared) (σ : St) (H : Hp) (Q : Bool → Hp → Prop), Inv X pins σ H s → t σ H Q → wpAny (model X.prog X.w) X.A (isTrue e X.env whole) (TP X pins σ Q) X.xe s
theorem PW.pt {X : Cx} {e : Expr} {t : TT} (h : PW X e t) : PT X e t := h _
def PA (X : Cx) (es : List Expr) (t : TA) : Prop :=
  ∀ (pos : Pos) (pins : List (Addr × Obj)) (s : Shared) (σ : St) (H : Hp) (Q : List V → Hp → Prop), Inv X pins σ H s → t σ H Q → wpAny (model X.prog X.w) X.A (spliced (backTo pos (starEach es X.env))) (AP X pins σ Q) X.xe s
def PS (X : Cx) (st : Stmt) (t : TS) : Prop :=
  ∀ (pins : List (Addr × Obj)) (s : Shared) (σ : St) (H : Hp) (D : Ends), Inv X pins σ H s → t D σ H → wpAny (model X.prog X.w) X.A (exec st X.env) (SP X pins D) X.xe s
def PSs (X : Cx) (st : List Stmt) (t : TS) : Prop :=
  ∀ (pins : List (Addr × Obj)) (s : Shared) (σ : St) (H : Hp) (D : Ends), Inv X pins σ H s → t D σ H → wpAny (model X.prog X.w) X.A (execs st X.env) (SP X pins D) X.xe s
theorem thn {α : Type} {t : Sem α} {Q Q' : α → Shared → Prop} {M : Model} {A : Around} {E : Value → Shared → Prop} {s : Shared} (h : wpAny M A t Q E s) (hQ : ∀ a s, Q a s → Q' a s) : wpAny M A t Q' E s := wpAny_mono h hQ fun _ _ x => x
end L2
namespace L2
open PySem PySem.Spec PyProof.Rows
section
variable {X : Cx}
theorem bin {a b : Expr} {ta tb : TE} (ha : PE X a ta) (hb : PE X b tb) {pins : List (Addr × Obj)} {s : Shared} {σ : St} {H : Hp} {R : V → V → Hp → Prop} (I : Inv X pins σ H s) (h : ta σ H fun x H1 => tb σ H1 fun y H2 => R x y H2)
    {α : Type} {Q : α → Shared → Prop} {f : Value → Value → Sem α}
    (hf : ∀ v u s2 x y H2, Inv X pins σ H2 s2 → RelV x v → RelV y u → R x y H2 → wpAny (model X.prog X.w) X.A (f v u) Q X.xe s2) :
    wpAny (model X.prog X.w) X.A (eval a X.env) (fun v s₁ => wpAny (model X.prog X.w) X.A (eval b X.env) (fun u s₂ => wpAny (model X.prog X.w) X.A (f v u) Q X.xe s₂) X.xe s₁) X.xe s := by
  refine thn (ha pins s σ H _ I h) fun v s1 ⟨x, H1, I1, r1, q1⟩ => ?_
  refine thn (hb pins s1 σ H1 _ I1 q1) fun u s2 ⟨y, H2, I2, r2, q2⟩ => ?_
  exact hf v u s2 x y H2 I2 r1 r2 q2
def tVar (i : Nat) : TE := fun σ H Q => ∃ v, σ[i]? = some (some v) ∧ Q v H
def tC (v : V) : TE := fun _ H Q => Q v H
theorem pe_var {i : Nat} {x : Str} {pos : Pos} (hN : X.N[i]? = some x) (hv : Vis X.env.scope x) (hd : (x == ("__debug__" : Str)) = false := by decide) (hcd : (x == ("__classdict__" : Str)) = false := by decide) : PE X (.Name x pos) (tVar i) := by
  intro pins s σ H Q I h
  obtain ⟨v, e, h⟩ := h
  obtain ⟨m, hn, hl⟩ := I.loc
  obtain ⟨u, r, l⟩ := hl i x v hN e hv
  have fin : EP X pins σ Q u s := ⟨v, H, I, r, h⟩
  rcases l with ⟨hk, hm⟩ | ⟨hk, c, hc, hcell⟩
  · exact wpAny_Name (wpAny_loadName_local I.ok.kind hk hn hm fin) hd
  · rcases hk with hk | hk
    · exact wpAny_Name (wpAny_loadName_cell I.ok.kind hk hc hcell fin) hd
    · exact wpAny_Name (wpAny_loadName_free I.ok.kind hk hc hcell fin hcd) hd
theorem pe_int {i j pos} : PE X (.Constant (.int i) j pos) (tC (.int i)) := fun _ _ _ H _ I h => wpAny_Constant_int ⟨.int i, H, I.tok _, ⟨_, rfl⟩, h⟩
theorem pe_bl {b j pos} : PE X (.Constant (.bool b) j pos) (tC (.bl b)) := fun _ _ _ H _ I h => Constant_bool ⟨.bl b, H, I, rfl, h⟩
theorem pe_non {j pos} : PE X (.Constant .none j pos) (tC .non) := fun _ _ _ H _ I h => Constant_none ⟨.non, H, I, rfl, h⟩
def Gl (X : Cx) (x : Str) : Prop := X.env.kindOf x = some .globalImplicit
theorem ld_glob {E : Value → Shared → Prop} {pins : List (Addr × Obj)} {s : Shared} {σ : St} {H : Hp} {x : Str} {u : Value} {pos : Pos} {Q : Value → Shared → Prop} (I : Inv X pins σ H s) (hg : Gl X x) (hm : X.mg x = some u) (h : Q u s)
    (hd : (x == ("__debug__" : Str)) = false := by decide) : wpAny (model X.prog X.w) X.A (eval (.Name x pos) X.env) Q E s :=
  Calls.Name_function_global I.ok.kind hg (Calls.loadGlobal_global (by rw [I.ok.glob]; exact I.mod.glob.keeps I.bk) hm h) hd
theorem ld_blt {E : Value → Shared → Prop} {pins : List (Addr × Obj)} {s : Shared} {σ : St} {H : Hp} {x : Str} {u : Value} {pos : Pos} {Q : Value → Shared → Prop} (I : Inv X pins σ H s) (hg : Gl X x) (hm : X.mg x = none) (hv : bootBuiltins x = some u) (h : Q u s)
    (hn : x ≠ "__name__" := by decide) (hd : (x == ("__debug__" : Str)) = false := by decide) : wpAny (model X.prog X.w) X.A (eval (.Name x pos) X.env) Q E s := by
  obtain ⟨mb, h1, h2⟩ := I.mod.blt
  exact Calls.Name_function_global I.ok.kind hg (Calls.loadGlobal_builtin (by rw [I.ok.glob]; exact I.mod.glob.keeps I.bk) hm (by rw [I.ok.blt]; exact h1.keeps I.bk) ((h2 x hn).trans hv) h) hd
theorem pe_glob {x : Str} {v : V} {u : Value} {pos : Pos} (hg : Gl X x) (hm : X.mg x = some u) (r : RelV v u) (hd : (x == ("__debug__" : Str)) = false := by decide) : PE X (.Name x pos) (tC v) :=
  fun _ _ _ H _ I h => ld_glob I hg hm ⟨v, H, I, r, h⟩ hd
variable {a b : Expr} {ta tb : TE} {pos : Pos}
def PC (X : Cx) (op : CmpOp) (a b : Expr) (t : TE) : Prop :=
  ∀ (pins : List (Addr × Obj)) (s : Shared) (σ : St) (H : Hp) (Q : VK), Inv X pins σ H s → t σ H Q →
    wpAny (model X.prog X.w) X.A (eval a X.env) (fun v s₁ => wpAny (model X.prog X.w) X.A (eval b X.env) (fun u s₂ => wpAny (model X.prog X.w) X.A (compareOp op v u) (EP X pins σ Q) X.xe s₂) X.xe s₁) X.xe s
def tB (t : TE) : TT := fun σ H Q => t σ H fun x H1 => ∃ c, x = .bl c ∧ Q c H1
theorem pe_cmp {op : CmpOp} {t : TE} (h : PC X op a b t) (h1 : behindInMarks op b = false := by first | exact nobehind _ (by decide) (by decide) | rfl) : PE X (.Compare a [op] [b] pos) t := fun pins s σ H Q I hw => wpAny_Compare1 (h pins s σ H Q I hw) h1
theorem pt_cmp {op : CmpOp} {t : TE} (h : PC X op a b t) (h1 : behindInMarks op b = false := by first | exact nobehind _ (by decide) (by decide) | rfl) : PT X (.Compare a [op] [b] pos) (tB t) := by
  intro pins s σ H Q I hw
  refine wpAny_isTrue_Compare1 (thn (h pins s σ H _ I hw) fun v s1 h1 => thn h1 fun u s2 h2 => thn h2 fun c s3 ⟨x, H1, I1, r1, q1⟩ => ?_) h1
  obtain ⟨d, rfl, q⟩ := q1
  cases r1
  exact wpAny_truthy_bool ⟨H1, I1, q⟩
theorem pt_val {e : Expr} {t : TE} (h : PE X e t) (he : ∀ whole, isTrue e X.env whole = (do let v ← whole; standAt e.pos; holding [v] (truthy v)) := by intro _; rfl) : PT X e (tB t) := by
  intro pins s σ H Q I hw
  refine isTrue_plain (thn (h pins s σ H _ I hw) fun v s1 ⟨x, H1, I1, r1, q1⟩ => ?_) (he _)
  obtain ⟨d, rfl, q⟩ := q1
  cases r1
  exact wpAny_truthy_bool ⟨H1, I1, q⟩
variable {tA tB' : TT} {rest : List Expr}
def tAnd (t u : TT) : TT := fun σ H Q => t σ H fun c H1 => if c = true then u σ H1 Q else Q false H1
def tOr (t u : TT) : TT := fun σ H Q => t σ H fun c H1 => if c = true then Q true H1 else u σ H1 Q
def tNot (t : TT) : TT := fun σ H Q => t σ H fun c H1 => Q (!c) H1
theorem pw_and1 (ha : PT X a tA) : PW X (.BoolOp .And [a] pos) tA := by
  intro wh pins s σ H Q I h
  refine isTrue_and (thn (ha pins s σ H Q I h) fun c s1 e => ?_)
  cases c with
  | true => exact isTrue_and_nil e
  | false => exact e
theorem pw_or1 (ha : PT X a tA) : PW X (.BoolOp .Or [a] pos) tA := by
  intro wh pins s σ H Q I h
  refine isTrue_or (thn (ha pins s σ H Q I h) fun c s1 e => ?_)
  cases c with
  | false => exact isTrue_or_nil e
  | true => exact e
theorem pw_and (ha : PT X a tA) (hb : PW X (.BoolOp .And (b :: rest) pos) tB') : PW X (.BoolOp .And (a :: b :: rest) pos) (tAnd tA tB') := by
  intro wh pins s σ H Q I h
  refine isTrue_and (thn (ha pins s σ H _ I h) fun c s1 ⟨H1, I1, q1⟩ => ?_)
  cases c with
  | true => exact hb wh pins s1 σ H1 Q I1 q1
  | false => exact ⟨H1, I1, q1⟩
theorem pw_or (ha : PT X a tA) (hb : PW X (.BoolOp .Or (b :: rest) pos) tB') : PW X (.BoolOp .Or (a :: b :: rest) pos) (tOr tA tB') := by
  intro wh pins s σ H Q I h
  refine isTrue_or (thn (ha pins s σ H _ I h) fun c s1 ⟨H1, I1, q1⟩ => ?_)
  cases c with
  | true => exact ⟨H1, I1, q1⟩
  | false => exact hb wh pins s1 σ H1 Q I1 q1
theorem pt_not (ha : PT X a tA) : PT X (.UnaryOp .Not a pos) (tNot tA) := by
  intro pins s σ H Q I h
  exact isTrue_not (ha pins s σ H (fun c H1 => Q (!c) H1) I h)
def tAndV (ta tb : TE) : TE := fun σ H Q => ta σ H fun x H1 => ∃ c, x = .bl c ∧ if c = true then tb σ H1 Q else Q (.bl false) H1
def tOrV (ta tb : TE) : TE := fun σ H Q => ta σ H fun x H1 => ∃ c, x = .bl c ∧ if c = true then Q (.bl true) H1 else tb σ H1 Q
theorem pe_one {op} {t : TE} (h : PE X a t) : PE X (.BoolOp op [a] pos) t := fun pins s σ H Q I hw => BoolOp_one (h pins s σ H Q I hw)
theorem pe_and (ha : PE X a ta) (hb : PE X (.BoolOp .And (b :: rest) pos) tb) : PE X (.BoolOp .And (a :: b :: rest) pos) (tAndV ta tb) := by
  intro pins s σ H Q I h
  refine BoolOp_and (thn (ha pins s σ H _ I h) fun v s1 ⟨x, H1, I1, r1, q1⟩ => ?_)
  obtain ⟨c, rfl, q1⟩ := q1
  cases r1
  refine wpAny_truthy_bool ?_
  cases c with
  | true => exact hb pins s1 σ H1 Q I1 q1
  | false => exact ⟨.bl false, H1, I1, rfl, q1⟩
theorem pe_or (ha : PE X a ta) (hb : PE X (.BoolOp .Or (b :: rest) pos) tb) : PE X (.BoolOp .Or (a :: b :: rest) pos) (tOrV ta tb) := by
  intro pins s σ H Q I h
  refine BoolOp_or (thn (ha pins s σ H _ I h) fun v s1 ⟨x, H1, I1, r1, q1⟩ => ?_)
  obtain ⟨c, rfl, q1⟩ := q1
  cases r1
  refine wpAny_truthy_bool ?_
  cases c with
  | false => exact hb pins s1 σ H1 Q I1 q1
  | true => exact ⟨.bl true, H1, I1, rfl, q1⟩
def tIf (t : TT) (ta tb : TE) : TE := fun σ H Q => t σ H fun c H1 => if c = true then ta σ H1 Q else tb σ H1 Q
theorem pe_ifExp {c : Expr} (hc : PT X c tA) (ha : PE X a ta) (hb : PE X b tb) : PE X (.IfExp c a b pos) (tIf tA ta tb) := by
  intro pins s σ H Q I h
  refine wpAny_IfExp (thn (hc pins s σ H _ I h) fun d s1 ⟨H1, I1, q1⟩ => ?_)
  cases d with
  | true => exact ha pins s1 σ H1 Q I1 q1
  | false => exact hb pins s1 σ H1 Q I1 q1
end
end L2
namespace L2
open PySem PySem.Spec PyProof.Rows
def SqL (K : PySem.W.Frag) (H : Hp) (a : Addr) (xs : List V) : Prop :=
  Rd H a (.lst xs) ∨
    ∃ (o : Obj) (its : Array Value) (n : Nat), K.lookup a = some o ∧ o.cls = .type "list" ∧ o.dict = none ∧ o.data = .seq its n ∧ its.size ≤ sizeLine ∧ Vals xs its.toList
def SqT (K : PySem.W.Frag) (H : Hp) (a : Addr) (xs : List V) : Prop :=
  Rd H a (.tup xs) ∨
    ∃ (o : Obj) (its : Array Value) (n : Nat), K.lookup a = some o ∧ o.cls = .type "tuple" ∧ o.data = .seq its n ∧ its.size ≤ sizeLine ∧ Vals xs its.toList
def absV : Value → Option V
  | .none => some .non
  | .bool b => some (.bl b)
  | .int i _ => some (.int i)
  | .str x _ => some (.str x)
  | .bytes b _ => some (.byt b)
  | .float b _ => some (.flt b)
  | .ref a => some (.ref a)
  | .type n => some (.ty n)
  | _ => none
theorem RelV.abs {x : V} {u : Value} (r : RelV x u) : absV u = some x := by
  cases x with
  | non => cases r; rfl
  | bl _ => cases r; rfl
  | int _ => obtain ⟨t, rfl⟩ := r; rfl
  | str _ => obtain ⟨t, rfl⟩ := r; rfl
  | byt _ => obtain ⟨t, rfl⟩ := r; rfl
  | flt _ => obtain ⟨t, rfl⟩ := r; rfl
  | ref _ => cases r; rfl
  | ty _ => cases r; rfl
theorem RelV.inj {x y : V} {u : Value} (r : RelV x u) (q : RelV y u) : x = y := Option.some.inj (r.abs.symm.trans q.abs)
theorem Vals.inj : ∀ {xs ys : List V} {us : List Value}, Vals xs us → Vals ys us → xs = ys
  | _, _, _, .nil, .nil => rfl
  | _, _, _, .cons r t, .cons r' t' => by rw [r.inj r', Vals.inj t t']
section
variable {X : Cx} {pins : List (Addr × Obj)} {σ : St} {H : Hp} {s : Shared} {a : Addr} {xs ys : List V}
theorem SqL.of {K : PySem.W.Frag} (h : H a = some (.lst xs)) : SqL K H a xs := .inl (.inl h)
theorem SqT.of {K : PySem.W.Frag} (h : H a = some (.tup xs)) : SqT K H a xs := .inl (.inl h)
theorem Inv.list (I : Inv X pins σ H s) (h : SqL X.K H a xs) : ∃ its : List Value, Vals xs its ∧ PlainL s.heap a its.toArray ∧ xs.length ≤ sizeLine := by
  rcases h with h | ⟨o, its, n, hk, hc, hd, hs, hz, r⟩
  · obtain ⟨z, its, n, r, e⟩ := h.ok I.hok
    exact ⟨its, r, ⟨_, n, e, rfl, rfl, rfl⟩, z⟩
  · refine ⟨its.toList, r, ⟨o, n, I.kIn a o hk, hc, hd, by simpa using hs⟩, ?_⟩
    have e := r.length
    simp only [Array.length_toList] at e
    omega
theorem Inv.tuple (I : Inv X pins σ H s) (h : SqT X.K H a xs) : ∃ its : List Value, Vals xs its ∧ IsTup s.heap a its.toArray ∧ xs.length ≤ sizeLine := by
  rcases h with h | ⟨o, its, n, hk, hc, hs, hz, r⟩
  · obtain ⟨z, its, r, p⟩ := h.ok I.hok
    exact ⟨its, r, p, z⟩
  · refine ⟨its.toList, r, ⟨o, I.kIn a o hk, hc, n, by simpa using hs⟩, ?_⟩
    have e := r.length
    simp only [Array.length_toList] at e
    omega
theorem Inv.list_inj (I : Inv X pins σ H s) (h : SqL X.K H a xs) (h' : SqL X.K H a ys) : xs = ys := by
  obtain ⟨its, r, ⟨o, n, e, _, _, d⟩, _⟩ := I.list h
  obtain ⟨its', r', ⟨o', n', e', _, _, d'⟩, _⟩ := I.list h'
  rw [e] at e'; cases e'
  rw [d] at d'
  injection d' with d1 _
  have : its = its' := by simpa using congrArg Array.toList d1
  subst this
  exact r.inj r'
end
abbrev Cx.wish (X : Cx) (E : Value → Shared → Prop) : Cx := { X with xe := E }
abbrev Cx.nox (X : Cx) : Cx := X.wish fun _ _ => False
theorem Cx.Ok.wish {X : Cx} (ok : X.Ok) (E : Value → Shared → Prop) : (X.wish E).Ok :=
  ⟨ok.mod, ok.kind, ok.glob, ok.blt, ok.above, ok.inj, ok.has, ok.cab, ok.hd, ok.frames, ok.stk, ok.exf, ok.bs, ok.bsz, ok.noex, ok.exfs, ok.funs, ok.frf⟩
theorem Cx.Ok.unwish {X : Cx} {E : Value → Shared → Prop} (ok : (X.wish E).Ok) : X.Ok :=
  ⟨ok.mod, ok.kind, ok.glob, ok.blt, ok.above, ok.inj, ok.has, ok.cab, ok.hd, ok.frames, ok.stk, ok.exf, ok.bs, ok.bsz, ok.noex, ok.exfs, ok.funs, ok.frf⟩
section
variable {X : Cx} {pins : List (Addr × Obj)} {σ : St} {H : Hp} {s : Shared} {E : Value → Shared → Prop}
theorem Inv.wish (I : Inv X pins σ H s) (E : Value → Shared → Prop) : Inv (X.wish E) pins σ H s := ⟨I.ok.wish E, I.os, I.bare, I.base, I.loc, I.cell, I.free, I.freeC, I.pin, I.hok, I.len⟩
theorem Inv.unwish (I : Inv (X.wish E) pins σ H s) : Inv X pins σ H s := ⟨I.ok.unwish, I.os, I.bare, I.base, I.loc, I.cell, I.free, I.freeC, I.pin, I.hok, I.len⟩
theorem SP.unwish {D : Ends} {f : Flow} {s' : Shared} (h : SP (X.wish E) pins D f s') : SP X pins D f s' := by
  cases f with
  | next => obtain ⟨σ', H', I, q⟩ := h; exact ⟨σ', H', I.unwish, q⟩
  | brk => obtain ⟨σ', H', I, q⟩ := h; exact ⟨σ', H', I.unwish, q⟩
  | cont => obtain ⟨σ', H', I, q⟩ := h; exact ⟨σ', H', I.unwish, q⟩
  | ret u => obtain ⟨v, σ', H', I, r, q⟩ := h; exact ⟨v, σ', H', I.unwish, r, q⟩
theorem PSs.nox {st : List Stmt} {t : TS} (h : PSs X.nox st t) : PSs X st t := fun pins s σ H D I hw =>
  wpAny_mono (h pins s σ H D (I.wish _) hw) (fun _ _ q => q.unwish) fun _ _ z => False.elim z
end
section
variable {X : Cx} {st : Stmt} {rest : List Stmt} {t u : TS} {e : Expr} {te : TE} {pos : Pos}
def tNext : TS := fun D σ H => D.nx σ H
def tSeq (t u : TS) : TS := fun D σ H => t { D with nx := u D } σ H
theorem pss_nil : PSs X [] tNext := fun _ _ σ H _ I h => wpAny_execs_nil ⟨σ, H, I, h⟩
theorem pss_cons (h1 : PS X st t) (h2 : PSs X rest u) : PSs X (st :: rest) (tSeq t u) := by
  intro pins s σ H D I h
  refine wpAny_execs_cons (thn (h1 pins s σ H { D with nx := u D } I h) fun f s1 q => ?_)
  cases f with
  | next =>
    obtain ⟨σ', H', I', q⟩ := q
    exact h2 pins s1 σ' H' D I' q
  | ret v => exact q
  | brk => exact q
  | cont => exact q
theorem pss_one (h1 : PS X st t) : PSs X [st] t := by
  intro pins s σ H D I h
  refine wpAny_execs_cons (thn (h1 pins s σ H D I h) fun f s1 q => ?_)
  cases f with
  | next => exact wpAny_execs_nil q
  | ret v => exact q
  | brk => exact q
  | cont => exact q
theorem Inv.quiet {pins : List (Addr × Obj)} {σ : St} {H : Hp} {s : Shared} (I : Inv X pins σ H s) : interactive X.env = false := by simp [interactive, I.ok.kind]
def tDrop (te : TE) : TS := fun D σ H => te σ H fun _ H1 => D.nx σ H1
theorem ps_expr (he : PE X e te) (hs : swapsWith e none pos.line X.env = pure false := by rfl) : PS X (.Expr e pos) (tDrop te) := by
  intro pins s σ H D I h
  exact wpAny_Expr_any (thn (he pins s σ H _ I h) fun v s1 ⟨x, H1, I1, r1, q1⟩ => ⟨σ, H1, I1, q1⟩) I.quiet hs
def tRet (te : TE) : TS := fun D σ H => te σ H D.rt
theorem ps_ret (he : PE X e te) : PS X (.Return (some e) pos) (tRet te) := by
  intro pins s σ H D I h
  exact wpAny_Return_some (thn (he pins s σ H _ I h) fun v s1 ⟨x, H1, I1, r1, q1⟩ => ⟨x, σ, H1, I1, r1, q1⟩)
def tIfS (c : TT) (t u : TS) : TS := fun D σ H => c σ H fun b H1 => if b = true then t D σ H1 else u D σ H1
theorem ps_if {c : Expr} {a b : List Stmt} {tc : TT} (hc : PT X c tc) (ha : PSs X a t) (hb : PSs X b u) : PS X (.If c a b pos) (tIfS tc t u) := by
  intro pins s σ H D I h
  refine wpAny_If (thn (hc pins s σ H _ I h) fun d s1 ⟨H1, I1, q1⟩ => ?_)
  cases d with
  | true => exact ha pins s1 σ H1 D I1 q1
  | false => exact hb pins s1 σ H1 D I1 q1
end
abbrev TG := V → St → Hp → (St → Hp → Prop) → Prop
abbrev TGs := List V → St → Hp → (St → Hp → Prop) → Prop
def PG (X : Cx) (target : Expr) (t : TG) : Prop :=
  ∀ (pins : List (Addr × Obj)) (s : Shared) (σ : St) (H : Hp) (v : V) (u : Value) (Q : St → Hp → Prop), Inv X pins σ H s → RelV v u → t v σ H Q →
    wpAny (model X.prog X.w) X.A (assign target X.env u) (fun _ s' => ∃ σ' H', Inv X pins σ' H' s' ∧ Q σ' H') X.xe s
def PGs (X : Cx) (ts : List Expr) (t : TGs) : Prop :=
  ∀ (pins : List (Addr × Obj)) (s : Shared) (σ : St) (H : Hp) (vs : List V) (us : List Value) (Q : St → Hp → Prop), Inv X pins σ H s → Vals vs us → t vs σ H Q →
    wpAny (model X.prog X.w) X.A (assignInOrder ((assignEach ts X.env).map (·.2)) us) (fun _ s' => ∃ σ' H', Inv X pins σ' H' s' ∧ Q σ' H') X.xe s
section
variable {X : Cx} {pos : Pos}
def gName (i : Nat) : TG := fun v σ H Q => Q (σ.set i (some v)) H
theorem pg_name {i : Nat} {x : Str} (hN : X.N.Nodup) (hi : X.N[i]? = some x) (hx : Loc X.env.scope x) (hf : X.fn x = true ∨ X.env.scope.names.lookup x = some .local := by first | exact .inl rfl | exact .inr rfl | assumption) : PG X (.Name x pos) (gName i) := by
  intro pins s σ H v u Q I r h
  exact wpAny_assign_Name (store_ok I hN hi hx r (fun s' I' => ⟨_, H, I', h⟩) hf)
def gNil : TGs := fun vs σ H Q => vs = [] ∧ Q σ H
def gCons (t : TG) (u : TGs) : TGs := fun vs σ H Q => ∃ v r, vs = v :: r ∧ t v σ H fun σ' H' => u r σ' H' Q
theorem pgs_nil : PGs X [] gNil := by
  intro pins s σ H vs us Q I r h
  obtain ⟨e, h⟩ := h
  subst e
  cases r
  exact assignInOrder_nil ⟨σ, H, I, h⟩
theorem pgs_cons {e : Expr} {es : List Expr} {t : TG} {u : TGs} (h1 : PG X e t) (h2 : PGs X es u)
    (hs : (assignEach (e :: es) X.env).map (·.2) = assign e X.env :: (assignEach es X.env).map (·.2) := by rfl) : PGs X (e :: es) (gCons t u) := by
  intro pins s σ H vs us Q I r h
  obtain ⟨v, vr, e1, h⟩ := h
  subst e1
  cases r with
  | cons r rr =>
    rw [hs]
    refine assignInOrder_cons (thn (h1 pins s σ H _ _ _ I r h) fun _ s1 ⟨σ1, H1, I1, q1⟩ => ?_)
    exact h2 pins s1 σ1 H1 _ _ Q I1 rr q1
def gTup (K : PySem.W.Frag) (n : Nat) (t : TGs) : TG := fun v σ H Q => ∃ a xs, v = .ref a ∧ SqT K H a xs ∧ xs.length = n ∧ t xs σ H Q
theorem pg_tup {es : List Expr} {k : Nat} {t : TGs} {n : Nat} (hc : X.calm = true) (h : PGs X es t)
    (hn : (assignEach es X.env).length = n := by rfl) (hst : (assignEach es X.env).findIdx? (·.1) = none := by rfl) : PG X (.Tuple es k pos) (gTup X.K n t) := by
  intro pins s σ H v u Q I r hw
  obtain ⟨a, xs, e1, hq, hl, hw⟩ := hw
  subst e1
  cases r
  obtain ⟨its, rv, ht, hz⟩ := I.tuple hq
  refine assign_Tuple_tuple (I.ok.hd hc) ht (by simp [hn, ← hl, rv.length]) hst fun h' hx => ?_
  have I1 : Inv X pins σ H { s with heap := h' } := I.kept (t' := s.toks) fun b o e => hx b o (Nat.ne_of_lt (Heap.lt_size e)) e
  exact h pins _ σ H xs _ Q I1 (by simpa using rv) hw
def tAsg (te : TE) (g : TG) : TS := fun D σ H => te σ H fun x H1 => g x σ H1 D.nx
theorem ps_set {i : Nat} {x : Str} {e : Expr} {te : TE} {pos' : Pos} (hN : X.N.Nodup) (hi : X.N[i]? = some x) (hx : Loc X.env.scope x) (he : PE X e te) (hs : swapsWith e (some (.Name x pos')) pos.line X.env = pure false := by rfl) (hf : X.fn x = true ∨ X.env.scope.names.lookup x = some .local := by first | exact .inl rfl | exact .inr rfl | assumption) :
    PS X (.Assign [.Name x pos'] e pos) (tAsg te (gName i)) := by
  intro pins s σ H D I h
  refine wpAny_Assign_Name (thn (he pins s σ H _ I h) fun v s1 ⟨y, H1, I1, r1, q1⟩ => ?_) hs
  exact store_ok I1 hN hi hx r1 (fun s2 I2 => ⟨_, H1, I2, q1⟩) hf
end
section
variable {X : Cx} {pos : Pos}
def tWhile (c : TT) (tb : TS) : TS := fun D σ H => ∃ W : Nat → St → Hp → Prop, (∃ m, W m σ H) ∧ ∀ m σ H, W m σ H →
  c σ H fun b H1 => if b = true then ∃ N : St → Hp → Prop, (∀ σ' H', N σ' H' → ∃ m', m' < m ∧ W m' σ' H') ∧ tb { D with nx := N, ct := N, bk := D.nx } σ H1 else D.nx σ H1
theorem ps_while {c : Expr} {body : List Stmt} {tc : TT} {tb : TS} (hp : PassesOwn (model X.prog X.w) X.A X.env X.xe) (hc : PT X c tc) (hb : PSs X body tb) : PS X (.While c body [] pos) (tWhile tc tb) := by
  intro pins s σ H D I h
  obtain ⟨W, ⟨m0, w0⟩, turn⟩ := h
  refine wpAny_While (codeAny_whileLoop (fun n s' => ∃ σ' H', Inv X pins σ' H' s' ∧ W n σ' H') ?_ m0 ⟨σ, H, I, w0⟩)
  rintro n s1 ⟨σ1, H1, I1, w1⟩
  refine wpAny_passesOwn hp (thn (hc pins s1 σ1 H1 _ I1 (turn n σ1 H1 w1)) fun b s2 ⟨H2, I2, q2⟩ => ?_)
  cases b with
  | true =>
    obtain ⟨N, hN, q2⟩ := q2
    rw [if_pos rfl]
    refine wpAny_passesOwn hp (thn (hb pins s2 σ1 H2 _ I2 q2) fun f s3 q3 => ?_)
    cases f with
    | next =>
      obtain ⟨σ3, H3, I3, n3⟩ := q3
      obtain ⟨m', hm, w3⟩ := hN σ3 H3 n3
      exact ⟨m', hm, σ3, H3, I3, w3⟩
    | cont =>
      obtain ⟨σ3, H3, I3, n3⟩ := q3
      obtain ⟨m', hm, w3⟩ := hN σ3 H3 n3
      exact ⟨m', hm, σ3, H3, I3, w3⟩
    | brk => exact q3
    | ret v => exact q3
  | false =>
    rw [if_neg Bool.false_ne_true]
    exact wpAny_execs_nil ⟨σ1, H2, I2, q2⟩
end
structure It where
  go : Nat → Hp → Prop
  yld : Nat → Hp → V → Hp → Prop
  stop : Nat → Hp → Prop
def FpOk (X : Cx) (pins : List (Addr × Obj)) (H : Hp) (b : Addr) : Prop :=
  H b = none ∧ b ≠ X.env.locals ∧ b ∉ X.fs ∧ (b ∈ X.ex ∨ X.s_0.heap.objs.size ≤ b) ∧ (∀ x c, X.env.cells.lookup x = some c → c ≠ b) ∧ ∀ p ∈ X.pn ++ pins, p.1 ≠ b
theorem Inv.fpOk {X : Cx} {pins : List (Addr × Obj)} {σ : St} {H H' : Hp} {s : Shared} {b : Addr} (I : Inv X pins σ H s) (hb : s.heap.objs.size ≤ b) (hn : H' b = none) : FpOk X pins H' b := by
  refine ⟨hn, Nat.ne_of_gt (Nat.lt_of_lt_of_le I.lt hb), I.nofs hb, .inr (Nat.le_trans I.sz hb), fun x c e z => ?_, fun p hp z => ?_⟩
  · obtain ⟨v, q⟩ := I.cell x c e
    exact absurd (Nat.lt_of_lt_of_le q.lt (by rw [z]; exact hb)) (Nat.lt_irrefl _)
  · exact absurd (Nat.lt_of_lt_of_le (Heap.lt_size (I.pin p hp).1) (by rw [z]; exact hb)) (Nat.lt_irrefl _)
structure Turn (P : Program) (w : World) (K : PySem.W.Frag) (tg : Expr) (J : It) (fp : List Addr) (it : Addr) (tn : Nat → Heap → Prop) : Prop where
  mem : it ∈ fp
  obj : ∀ i h, tn i h → ∀ b ∈ fp, ∃ o, h.get? b = some o ∧ ∀ v, o.data ≠ .cell v
  keep : ∀ i h h', tn i h → (∀ b ∈ fp, ∀ o, h.get? b = some o → h'.get? b = some o) → tn i h'
  item : ∀ (X : Cx), X.prog = P → X.w = w → X.K = K → X.calm = true → ∀ (i : Nat) (pins : List (Addr × Obj)) (s : Shared) (σ : St) (H : Hp) (E : Value → Shared → Prop), Inv X pins σ H s → (∀ b ∈ fp, FpOk X pins H b) → tn i s.heap → J.go i H →
    wpAny (model P w) X.A (pyNext (.ref it)) (fun r s1 => ∃ u, r = some u ∧
      wpAny (model P w) X.A (letOwnedTupleGo tg (.ref it) u) (fun _ s2 => ∃ x H', Inv X pins σ H' s2 ∧ RelV x u ∧ J.yld i H x H' ∧ tn (i + 1) s2.heap ∧ ∀ b ∈ fp, H' b = none) E s1) E s
  done : ∀ (X : Cx), X.prog = P → X.w = w → X.K = K → X.calm = true → ∀ (i : Nat) (pins : List (Addr × Obj)) (s : Shared) (σ : St) (H : Hp) (E : Value → Shared → Prop), Inv X pins σ H s → (∀ b ∈ fp, FpOk X pins H b) → tn i s.heap → J.stop i H →
    wpAny (model P w) X.A (pyNext (.ref it)) (fun r s1 => r = none ∧ Inv X pins σ H s1) E s
  self : ∀ (A : Around) (i : Nat) (s : Shared) (Q : Value → Shared → Prop) (E : Value → Shared → Prop), tn i s.heap → Q (.ref it) s → wpAny (model P w) A (pyIter (.ref it)) Q E s
abbrev TI := St → Hp → (It → Hp → Prop) → Prop
def PIE (X : Cx) (pins : List (Addr × Obj)) (σ : St) (tg : Expr) (R : It → Hp → Prop) (itv : Value) (s2 : Shared) : Prop :=
  ∃ (it : Addr) (fp : List Addr) (tn : Nat → Heap → Prop) (J : It) (H' : Hp), itv = .ref it ∧ Inv X pins σ H' s2 ∧ Turn X.prog X.w X.K tg J fp it tn ∧ tn 0 s2.heap ∧ (∀ b ∈ fp, FpOk X pins H' b) ∧ R J H'
def PI (X : Cx) (tg iter : Expr) (wi : TI) : Prop :=
  ∀ (pins : List (Addr × Obj)) (s : Shared) (σ : St) (H : Hp) (R : It → Hp → Prop), Inv X pins σ H s → wi σ H R →
    wpAny (model X.prog X.w) X.A (eval iter X.env) (fun v s1 => wpAny (model X.prog X.w) X.A (pyIter v) (PIE X pins σ tg R) X.xe s1) X.xe s
theorem go_of {M : Model} {A : Around} {E : Value → Shared → Prop} {s : Shared} {tg : Expr} {it : Addr} {u : Value} {o : Obj} {n : String} {vs : Array Value} {Q : Unit → Shared → Prop} (ho : s.heap.get? it = some o) (hc : o.cls = .type n) (hd : o.data = .fields vs)
    (hn : ["enumerate", "zip", "dict_itemiterator", "dict_reverseitemiterator", "odict_iterator", "itertools.zip_longest", "itertools.pairwise"].contains n = false) (hQ : Q () s) : wpAny M A (letOwnedTupleGo tg (.ref it) u) Q E s := by
  unfold letOwnedTupleGo
  cases tg <;> first
    | exact wpAny_pure hQ
    | (cases u <;> first
        | exact wpAny_pure hQ
        | (refine wpAny_bind (wpAny_load ho ?_)
           rw [hc, hd]
           show wpAny M A (if (["enumerate", "zip", "dict_itemiterator", "dict_reverseitemiterator", "odict_iterator", "itertools.zip_longest", "itertools.pairwise"].contains n && vs[0]? == some (rawInt _)) = true then _ else _) Q E s
           rw [if_neg (by intro h; rw [hn, Bool.false_and] at h; cases h)]
           exact wpAny_pure hQ))
def Itl (K : PySem.W.Frag) (a : Addr) : It :=
  ⟨fun i H => ∃ xs x, SqL K H a xs ∧ xs[i]? = some x, fun i H x H' => H' = H ∧ ∀ xs, SqL K H a xs → xs[i]? = some x, fun i H => ∃ xs, SqL K H a xs ∧ xs.length ≤ i⟩
def Itr (lo : Int) (n : Nat) : It := ⟨fun i _ => i < n, fun i H x H' => H' = H ∧ x = .int (lo + i), fun i _ => n ≤ i⟩
theorem turn_list {P : Program} {w : World} {K : PySem.W.Frag} {tg : Expr} (a it : Addr) : Turn P w K tg (Itl K a) [it] it (fun i h => h.IsListIter it a i) where
  mem := by simp
  obj := fun i h st b hb => by
    have e : b = it := by simpa using hb
    subst e
    obtain ⟨o, e, c, d⟩ := st
    exact ⟨o, e, fun v z => by rw [d] at z; cases z⟩
  keep := fun i h h' st k => st.at fun o e => k it (by simp) o e
  item := by
    intro X hP hw hK hc i pins s σ H E I hf st hg
    subst hP hw hK
    obtain ⟨xs, x, hq, hx⟩ := hg
    obtain ⟨its, rv, p, hz⟩ := I.list hq
    obtain ⟨u, hu, ru⟩ := rv.get hx
    obtain ⟨f0, f1, f2, f3, f4, f5⟩ := hf it (by simp)
    refine wpAny_pyNext_list_item st p.isList (x := u) (by simpa using hu) fun h' st' sb => ?_
    have I1 : Inv X pins σ H { s with heap := h' } := I.turned (t' := s.toks) (fun b o hb e => (sb.2 b hb).trans e) f0 f1 f3 f4 f5
    obtain ⟨o, e, c, d⟩ := id st'
    exact ⟨u, rfl, go_of (s := { s with heap := h' }) e c d (by decide) ⟨x, H, I1, ru, ⟨rfl, fun ys hy => by rw [I.list_inj hy hq]; exact hx⟩, st', fun b hb => (hf b hb).1⟩⟩
  done := by
    intro X hP hw hK hc i pins s σ H E I hf st hg
    subst hP hw hK
    obtain ⟨xs, hq, hx⟩ := hg
    obtain ⟨its, rv, p, hz⟩ := I.list hq
    obtain ⟨f0, f1, f2, f3, f4, f5⟩ := hf it (by simp)
    have hl := rv.length
    exact wpAny_pyNext_list_end (I.ok.hd hc) st p.isList (by simp; omega) fun h' eb => ⟨rfl, I.turned (t' := s.toks) (fun b o hb e => eb b o hb e) f0 f1 f3 f4 f5⟩
  self := fun _ _ _ _ _ st h => wpAny_pyIter_listiter st h
theorem turn_range {P : Program} {w : World} {K : PySem.W.Frag} {tg : Expr} (it : Addr) (lo : Int) (n : Nat) : Turn P w K tg (Itr lo n) [it] it (fun i h => IsRangeIter h it (lo + (i : Nat) * 1) ((n : Int) - (i : Nat)) 1) where
  mem := by simp
  obj := fun i h st b hb => by
    have e : b = it := by simpa using hb
    subst e
    exact ⟨_, st, fun v z => by
      have z' : Data.fields _ = Data.cell v := z
      cases z'⟩
  keep := fun i h h' st k => k it (by simp) _ st
  item := by
    intro X hP hw hK hc i pins s σ H E I hf st hg
    subst hP hw hK
    obtain ⟨f0, f1, f2, f3, f4, f5⟩ := hf it (by simp)
    have W := Walks.range (prog := X.prog) (w := X.w) (I.ok.hd hc) it lo 1 n
    refine W.item i s _ _ hg st fun v h' tk hv st' kk => ?_
    obtain ⟨t, rfl⟩ := hv
    have I1 : Inv X pins σ H { s with heap := h', toks := tk } := I.turned (fun b o hb e => kk b o (by simpa using hb) e) f0 f1 f3 f4 f5
    refine ⟨_, rfl, go_of (s := { s with heap := h', toks := tk }) (n := "range_iterator") st' rfl rfl (by decide) ⟨.int (lo + i), H, I1, ⟨t, ?_⟩, ⟨rfl, rfl⟩, st', fun b hb => (hf b hb).1⟩⟩
    rw [Int.mul_one]
  done := by
    intro X hP hw hK hc i pins s σ H E I hf st hg
    subst hP hw hK
    obtain ⟨f0, f1, f2, f3, f4, f5⟩ := hf it (by simp)
    exact wpAny_pyNext_range_end (I.ok.hd hc) st (by have : n ≤ i := hg; omega) fun h' eb => ⟨rfl, I.turned (t' := s.toks) (fun b o hb e => eb b o hb e) f0 f1 f3 f4 f5⟩
  self := fun _ _ _ _ _ st h => wpAny_pyIter_rangeiter st h
end L2
namespace L2
open PySem PySem.Spec PyProof.Rows
section
variable {X : Cx} {tg : Expr}
def iList (K : PySem.W.Frag) (tl : TE) : TI := fun σ H R => tl σ H fun x H1 => ∃ a, x = .ref a ∧ (∃ xs, SqL K H1 a xs) ∧ R (Itl K a) H1
theorem pi_list {l : Expr} {tl : TE} (hl : PE X l tl) : PI X tg l (iList X.K tl) := by
  intro pins s σ H R I h
  refine thn (hl pins s σ H _ I h) fun v s1 ⟨x, H1, I1, r1, q1⟩ => ?_
  obtain ⟨a, e, ⟨xs, hq⟩, q⟩ := q1
  subst e
  cases r1
  obtain ⟨its, rv, p, hz⟩ := I1.list hq
  refine wpAny_pyIter_list p.isList ?_
  refine ⟨s1.heap.objs.size, [s1.heap.objs.size], _, _, H1, rfl, I1.kept (t' := s1.toks) fun b o e => Heap.get?_push_of_some _ e, turn_list a _, ⟨_, Heap.get?_push_size _ rfl, rfl, rfl⟩, fun b hb => ?_, q⟩
  have e : b = s1.heap.objs.size := by simpa using hb
  subst e
  exact I1.fpOk (Nat.le_refl _) (I1.hok.fresh (Nat.le_refl _))
theorem range_it {pins : List (Addr × Obj)} {σ : St} {H : Hp} {s : Shared} {R : It → Hp → Prop} {E : Value → Shared → Prop} {lo hi : Int} {t u v : Tok} {tk : Nat} (I : Inv X pins σ H s) (h1 : -(2 ^ 62) ≤ lo) (h2 : lo < 2 ^ 62) (h3 : -(2 ^ 62) ≤ hi) (h4 : hi < 2 ^ 62)
    (q : R (Itr lo (hi - lo).toNat) H) : wpAny (model X.prog X.w) X.A (pyIter (.ref s.heap.objs.size)) (PIE X pins σ tg R) E { s with heap := s.heap.push { cls := .type "range", data := .fields #[.int lo t, .int hi u, .int 1 v] }, toks := tk } := by
  refine wpAny_pyIter_range (IsRange.new ..) (small_one h1 h2 h3 h4) ?_
  have I1 : Inv X pins σ H { s with heap := s.heap.push { cls := .type "range", data := .fields #[.int lo t, .int hi u, .int 1 v] }, toks := tk } := I.kept fun b o e => Heap.get?_push_of_some _ e
  refine ⟨(s.heap.push { cls := .type "range", data := .fields #[.int lo t, .int hi u, .int 1 v] }).objs.size, [(s.heap.push { cls := .type "range", data := .fields #[.int lo t, .int hi u, .int 1 v] }).objs.size], _, _, H, rfl,
    I1.kept (t' := tk) fun b o e => Heap.get?_push_of_some _ e, turn_range _ lo (hi - lo).toNat, ?_, fun b hb => ?_, q⟩
  · have e1 : lo + ((0 : Nat) : Int) * 1 = lo := by simp
    have e2 : (((hi - lo).toNat : Nat) : Int) - ((0 : Nat) : Int) = Builtin.Range.rangeSize lo hi 1 := by rw [rangeSize_one]; split <;> omega
    show IsRangeIter _ _ (lo + ((0 : Nat) : Int) * 1) ((((hi - lo).toNat : Nat) : Int) - ((0 : Nat) : Int)) 1
    rw [e1, e2]
    exact Heap.get?_push_size _ rfl
  · have e : b = (s.heap.push { cls := .type "range", data := .fields #[.int lo t, .int hi u, .int 1 v] }).objs.size := by simpa using hb
    subst e
    exact I1.fpOk (Nat.le_refl _) (I1.hok.fresh (Nat.le_refl _))
def iRng1 (ta : TA) : TI := fun σ H R => ta σ H fun vs H1 => ∃ j : Int, vs = [.int j] ∧ -(2 ^ 62) ≤ j ∧ j < 2 ^ 62 ∧ R (Itr 0 j.toNat) H1
theorem pi_range1 {a : Expr} {ta : TA} {p pos : Pos} (hg : Gl X "range") (hm : X.mg "range" = none) (ha : PA X [a] ta) (hs : starEach [a] X.env = [(false, eval a X.env)] := by rfl) : PI X tg (.Call (.Name "range" p) [a] [] pos) (iRng1 ta) := by
  intro pins s σ H R I h
  refine Call_ (ld_blt I hg hm boot_range (PyProof.Rows.callWith_type1 (thn (ha pos pins s σ H _ I h) fun us s1 ⟨vs, H1, I1, r1, q1⟩ => ?_) hs rfl))
  obtain ⟨j, e, q1, q2, q⟩ := q1
  subst e
  cases r1 with
  | cons r rr =>
    cases rr
    obtain ⟨t, rfl⟩ := r
    exact call_range_1 (range_it I1 (by omega) (by omega) q1 q2 (by simpa using q))
def tFor (wi : TI) (g : TG) (tb : TS) : TS := fun D σ H => wi σ H fun J H1 => ∃ W : Nat → Nat → St → Hp → Prop, (∃ m, W 0 m σ H1) ∧ ∀ i m σ H, W i m σ H →
  (J.stop i H ∧ D.nx σ H) ∨ (J.go i H ∧ ∃ N : St → Hp → Prop, (∀ σ' H', N σ' H' → ∃ m', m' < m ∧ W (i + 1) m' σ' H') ∧ ∀ x H', J.yld i H x H' → g x σ H' fun σ2 H2 => tb { D with nx := N, ct := N, bk := D.nx } σ2 H2)
def pinsAt (fp : List Addr) (h : Heap) : List (Addr × Obj) := fp.filterMap fun b => (h.get? b).map fun o => (b, o)
theorem mem_pinsAt {fp : List Addr} {h : Heap} {b : Addr} {o : Obj} (hb : b ∈ fp) (e : h.get? b = some o) : (b, o) ∈ pinsAt fp h := List.mem_filterMap.mpr ⟨b, hb, by rw [e]; rfl⟩
theorem of_pinsAt {fp : List Addr} {h : Heap} {p : Addr × Obj} (hp : p ∈ pinsAt fp h) : p.1 ∈ fp ∧ h.get? p.1 = some p.2 := by
  obtain ⟨b, hb, e⟩ := List.mem_filterMap.mp hp
  cases q : h.get? b with
  | none => rw [q] at e; cases e
  | some o =>
    rw [q] at e
    have e' : (b, o) = p := Option.some.inj e
    subst e'
    exact ⟨hb, q⟩
theorem Inv.pinned {pins : List (Addr × Obj)} {σ : St} {H : Hp} {s : Shared} {fp : List Addr} (I : Inv X pins σ H s) (hf : ∀ b ∈ fp, FpOk X pins H b) (ho : ∀ b ∈ fp, ∃ o, s.heap.get? b = some o ∧ ∀ v, o.data ≠ .cell v) : Inv X (pins ++ pinsAt fp s.heap) σ H s :=
  I.pins_of fun p hp => (List.mem_append.mp hp).elim (fun z => I.pin p (List.mem_append_right _ z)) fun z => by
    obtain ⟨hb, e⟩ := of_pinsAt z
    obtain ⟨f0, f1, f2, _⟩ := hf p.1 hb
    obtain ⟨o, e', d⟩ := ho p.1 hb
    rw [e] at e'; cases e'
    exact ⟨e, f0, f1, f2, d⟩
theorem Inv.unpinned {pins pl : List (Addr × Obj)} {σ : St} {H : Hp} {s : Shared} (I : Inv X (pins ++ pl) σ H s) : Inv X pins σ H s := I.pins_of fun p hp => I.pin p (List.mem_append_right _ (List.mem_append_left _ hp))
theorem ps_for {iter : Expr} {body : List Stmt} {wi : TI} {g : TG} {tb : TS} {pos : Pos} (hp : PassesOwn (model X.prog X.w) X.A X.env X.xe) (hc : X.calm = true) (hi : PI X tg iter wi) (hg : PG X tg g) (hb : PSs X body tb)
    (hs : ∀ x, foldedSetIterable iter X.env x = pure x := by intro _; rfl) : PS X (.For tg iter body [] pos) (tFor wi g tb) := by
  intro pins s σ H D I h
  refine wpAny_For (thn (hi pins s σ H _ I h) fun v s1 h1 => thn h1 fun itv s2 h2 => ?_) hs
  obtain ⟨it, fp, tn, J, H2, e, I2, T, st2, f2, W, ⟨m0, w0⟩, turn⟩ := h2
  subst e
  have stat : ∀ {H' : Hp}, (∀ b ∈ fp, H' b = none) → ∀ b ∈ fp, FpOk X pins H' b := fun hn b hb => ⟨hn b hb, (f2 b hb).2⟩
  refine codeAny_forLoop_any (fun n s' => ∃ i σ' H', Inv X pins σ' H' s' ∧ tn i s'.heap ∧ (∀ b ∈ fp, H' b = none) ∧ W i n σ' H') ?_ m0 ⟨0, σ, H2, I2, st2, fun b hb => (f2 b hb).1, w0⟩
  rintro n s3 ⟨i, σ3, H3, I3, st3, fr3, w3⟩
  rcases turn i n σ3 H3 w3 with ⟨stop, qn⟩ | ⟨go, N, hN, step⟩
  · refine wpAny_passesOwn hp (thn (T.done X rfl rfl rfl hc i pins s3 σ3 H3 X.xe I3 (stat fr3) st3 stop) fun r s4 ⟨hr, I4⟩ => ?_)
    subst hr
    exact wpAny_execs_nil ⟨σ3, H3, I4, qn⟩
  · refine wpAny_passesOwn hp (thn (T.item X rfl rfl rfl hc i pins s3 σ3 H3 X.xe I3 (stat fr3) st3 go) fun r s4 ⟨u, hr, h4⟩ => ?_)
    subst hr
    refine wpAny_passesOwn hp (thn h4 fun _ s5 ⟨x, H5, I5, r5, y5, st5, fr5⟩ => ?_)
    have I5' := I5.pinned (stat fr5) (T.obj _ _ st5)
    refine wpAny_passesOwn hp (thn (hg _ s5 σ3 H5 x u _ I5' r5 (step x H5 y5)) fun _ s6 ⟨σ6, H6, I6, q6⟩ => ?_)
    refine wpAny_passesOwn hp (thn (hb _ s6 σ6 H6 _ I6 q6) fun f s7 q7 => ?_)
    have again : ∀ {σ7 : St} {H7 : Hp}, Inv X (pins ++ pinsAt fp s5.heap) σ7 H7 s7 → N σ7 H7 → ∃ m, m < n ∧ ∃ i σ' H', Inv X pins σ' H' s7 ∧ tn i s7.heap ∧ (∀ b ∈ fp, H' b = none) ∧ W i m σ' H' := fun {σ7 H7} I7 n7 => by
      obtain ⟨m', hm, w7⟩ := hN σ7 H7 n7
      refine ⟨m', hm, i + 1, σ7, H7, I7.unpinned, T.keep _ _ _ st5 fun b hb o e => (I7.pin (b, o) (List.mem_append_right _ (List.mem_append_right _ (mem_pinsAt hb e)))).1, fun b hb => ?_, w7⟩
      obtain ⟨o, e, d⟩ := T.obj _ _ st5 b hb
      exact (I7.pin (b, o) (List.mem_append_right _ (List.mem_append_right _ (mem_pinsAt hb e)))).2.1
    cases f with
    | next => obtain ⟨σ7, H7, I7, n7⟩ := q7; exact again I7 n7
    | cont => obtain ⟨σ7, H7, I7, n7⟩ := q7; exact again I7 n7
    | brk => obtain ⟨σ7, H7, I7, q7⟩ := q7; exact ⟨σ7, H7, I7.unpinned, q7⟩
    | ret v => obtain ⟨x7, σ7, H7, I7, r7, q7⟩ := q7; exact ⟨x7, σ7, H7, I7.unpinned, r7, q7⟩
end
theorem for_list {K : PySem.W.Frag} {a : Addr} {xs : List V} {g : TG} {tb : TS} {D : Ends} {σ : St} {H : Hp} (Pv : Nat → St → Hp → Prop) (h0 : Pv 0 σ H) (hl : ∀ i σ H, i ≤ xs.length → Pv i σ H → SqL K H a xs)
    (hs : ∀ i x σ H, xs[i]? = some x → Pv i σ H → g x σ H fun σ2 H2 => tb { D with nx := Pv (i + 1), ct := Pv (i + 1), bk := D.nx } σ2 H2) (hd : ∀ σ H, Pv xs.length σ H → D.nx σ H) :
    ∃ W : Nat → Nat → St → Hp → Prop, (∃ m, W 0 m σ H) ∧ ∀ i m σ H, W i m σ H →
      ((Itl K a).stop i H ∧ D.nx σ H) ∨ ((Itl K a).go i H ∧ ∃ N : St → Hp → Prop, (∀ σ' H', N σ' H' → ∃ m', m' < m ∧ W (i + 1) m' σ' H') ∧ ∀ x H', (Itl K a).yld i H x H' → g x σ H' fun σ2 H2 => tb { D with nx := N, ct := N, bk := D.nx } σ2 H2) := by
  refine ⟨fun i m σ H => m = xs.length - i ∧ i ≤ xs.length ∧ Pv i σ H, ⟨xs.length, by simp, Nat.zero_le _, h0⟩, ?_⟩
  rintro i m σ H ⟨rfl, hi, p⟩
  have q := hl i σ H hi p
  by_cases hlt : i < xs.length
  · refine .inr ⟨⟨xs, xs[i], q, by simp [hlt]⟩, Pv (i + 1), fun σ' H' p' => ⟨xs.length - (i + 1), by omega, rfl, hlt, p'⟩, fun x H' y => ?_⟩
    obtain ⟨e, y⟩ := y
    subst e
    exact hs i x σ _ (y xs q) p
  · have e : i = xs.length := by omega
    subst e
    exact .inl ⟨⟨xs, q, Nat.le_refl _⟩, hd σ H p⟩
theorem for_range {lo : Int} {n : Nat} {g : TG} {tb : TS} {D : Ends} {σ : St} {H : Hp} (Pv : Nat → St → Hp → Prop) (h0 : Pv 0 σ H)
    (hs : ∀ i σ H, i < n → Pv i σ H → g (.int (lo + i)) σ H fun σ2 H2 => tb { D with nx := Pv (i + 1), ct := Pv (i + 1), bk := D.nx } σ2 H2) (hd : ∀ σ H, Pv n σ H → D.nx σ H) :
    ∃ W : Nat → Nat → St → Hp → Prop, (∃ m, W 0 m σ H) ∧ ∀ i m σ H, W i m σ H →
      ((Itr lo n).stop i H ∧ D.nx σ H) ∨ ((Itr lo n).go i H ∧ ∃ N : St → Hp → Prop, (∀ σ' H', N σ' H' → ∃ m', m' < m ∧ W (i + 1) m' σ' H') ∧ ∀ x H', (Itr lo n).yld i H x H' → g x σ H' fun σ2 H2 => tb { D with nx := N, ct := N, bk := D.nx } σ2 H2) := by
  refine ⟨fun i m σ H => m = n - i ∧ i ≤ n ∧ Pv i σ H, ⟨n, by simp, Nat.zero_le _, h0⟩, ?_⟩
  rintro i m σ H ⟨rfl, hi, p⟩
  by_cases hlt : i < n
  · refine .inr ⟨hlt, Pv (i + 1), fun σ' H' p' => ⟨n - (i + 1), by omega, rfl, hlt, p'⟩, fun x H' y => ?_⟩
    obtain ⟨e, y⟩ := y
    subst e y
    exact hs i σ _ hlt p
  · have e : i = n := by omega
    subst e
    exact .inl ⟨Nat.le_refl _, hd σ H p⟩
end L2
namespace L2
open PySem PySem.Spec PyProof.Rows
abbrev R2 := V → V → Hp → VK → Prop
def OpR (X : Cx) (f : Value → Value → Sem Value) (r : R2) : Prop :=
  ∀ (pins : List (Addr × Obj)) (s : Shared) (σ : St) (H : Hp) (x y : V) (v u : Value) (Q : VK), Inv X pins σ H s → RelV x v → RelV y u → r x y H Q →
    wpAny (model X.prog X.w) X.A (f v u) (EP X pins σ Q) X.xe s
def CallR (X : Cx) (f : Value) (r : List V → Hp → VK → Prop) : Prop :=
  ∀ (pins : List (Addr × Obj)) (s : Shared) (σ : St) (H : Hp) (xs : List V) (us : List Value) (Q : VK), Inv X pins σ H s → Vals xs us → r xs H Q →
    wpAny (model X.prog X.w) X.A (call f us) (EP X pins σ Q) X.xe s
def tOp (r : R2) (ta tb : TE) : TE := fun σ H Q => ta σ H fun x H1 => tb σ H1 fun y H2 => r x y H2 Q
def rI (C : Int → Int → Prop) (g : Int → Int → V) : R2 := fun x y H Q => ∃ i j, x = .int i ∧ y = .int j ∧ C i j ∧ Q (g i j) H
def rI0 (g : Int → Int → V) : R2 := fun x y H Q => ∃ i j, x = .int i ∧ y = .int j ∧ Q (g i j) H
section
variable {X : Cx} {a b c : Expr} {ta tb tc : TE} {pos : Pos}
theorem binT (ha : PE X a ta) (hb : PE X b tb) {pins : List (Addr × Obj)} {s : Shared} {σ : St} {H : Hp} {R : V → V → Hp → Prop} (I : Inv X pins σ H s)
    (h : ta σ H fun x H1 => tb σ H1 fun y H2 => R x y H2) {Q : Value → Shared → Prop} {f : Value → Value → Sem Value}
    (hf : ∀ v u s2 x y H2, Inv X pins σ H2 s2 → RelV x v → RelV y u → R x y H2 → wpAny (model X.prog X.w) X.A (f v u) Q X.xe s2) :
    wpAny (model X.prog X.w) X.A (eval a X.env) (fun v s₁ => wpAny (model X.prog X.w) X.A (eval b X.env) (fun u s₂ => wpAny (model X.prog X.w) X.A (f v u) Q X.xe s₂) X.xe s₁) X.xe s := by
  refine thn (ha pins s σ H _ I h) fun v s1 ⟨x, H1, I1, r1, q1⟩ => ?_
  refine thn (hb pins s1 σ H1 _ I1 q1) fun u s2 ⟨y, H2, I2, r2, q2⟩ => ?_
  exact hf v u s2 x y H2 I2 r1 r2 q2
theorem pe_op {op : Operator} {r : R2} (ho : OpR X (binaryOp op) r) (ha : PE X a ta) (hb : PE X b tb) : PE X (.BinOp a op b pos) (tOp r ta tb) := by
  intro pins s σ H Q I h
  exact wpAny_BinOp (binT ha hb I h fun v u s2 x y H2 I2 rx ry q => ho pins s2 σ H2 x y v u Q I2 rx ry q)
theorem opI {f : Value → Value → Sem Value} {C : Int → Int → Prop} {g : Int → Int → Int}
    (rule : ∀ (i j : Int) (t u : Tok) (s : Shared) (Q : Value → Shared → Prop) (E : Value → Shared → Prop), C i j → Q (.int (g i j) s.toks) { s with toks := s.toks + 1 } → wpAny (model X.prog X.w) X.A (f (.int i t) (.int j u)) Q E s) :
    OpR X f (rI C fun i j => .int (g i j)) := by
  intro pins s σ H x y v u Q I rx ry h
  obtain ⟨i, j, rfl, rfl, hc, q⟩ := h
  obtain ⟨t, rfl⟩ := rx
  obtain ⟨t', rfl⟩ := ry
  exact rule i j t t' s _ _ hc ⟨.int (g i j), H, I.tok _, ⟨_, rfl⟩, q⟩
theorem opI0 {f : Value → Value → Sem Value} {g : Int → Int → Int}
    (rule : ∀ (i j : Int) (t u : Tok) (s : Shared) (Q : Value → Shared → Prop) (E : Value → Shared → Prop), Q (.int (g i j) s.toks) { s with toks := s.toks + 1 } → wpAny (model X.prog X.w) X.A (f (.int i t) (.int j u)) Q E s) :
    OpR X f (rI0 fun i j => .int (g i j)) := by
  intro pins s σ H x y v u Q I rx ry h
  obtain ⟨i, j, rfl, rfl, q⟩ := h
  obtain ⟨t, rfl⟩ := rx
  obtain ⟨t', rfl⟩ := ry
  exact rule i j t t' s _ _ ⟨.int (g i j), H, I.tok _, ⟨_, rfl⟩, q⟩
theorem opB0 {f : Value → Value → Sem Value} {g : Int → Int → Bool}
    (rule : ∀ (i j : Int) (t u : Tok) (s : Shared) (Q : Value → Shared → Prop) (E : Value → Shared → Prop), Q (.bool (g i j)) s → wpAny (model X.prog X.w) X.A (f (.int i t) (.int j u)) Q E s) :
    OpR X f (rI0 fun i j => .bl (g i j)) := by
  intro pins s σ H x y v u Q I rx ry h
  obtain ⟨i, j, rfl, rfl, q⟩ := h
  obtain ⟨t, rfl⟩ := rx
  obtain ⟨t', rfl⟩ := ry
  exact rule i j t t' s _ _ ⟨.bl (g i j), H, I, rfl, q⟩
def CDiv (i j : Int) : Prop := 0 < j ∧ j < 1073741824
def CMul (i j : Int) : Prop := (-(2 ^ 64) < i ∧ i < 2 ^ 64) ∨ (-(2 ^ 64) < j ∧ j < 2 ^ 64)
theorem CMul.ok {i j : Int} (h : CMul i j) : IntMulOk i j := by
  rcases h with ⟨h1, h2⟩ | ⟨h1, h2⟩
  · exact .of_left (intBits_le_64 h1 h2)
  · exact .of_right (intBits_le_64 h1 h2)
theorem op_add : OpR X (binaryOp .Add) (rI0 fun i j => .int (i + j)) := opI0 fun _ _ _ _ _ _ _ q => add_int q
theorem op_sub : OpR X (binaryOp .Sub) (rI0 fun i j => .int (i - j)) := opI0 fun _ _ _ _ _ _ _ q => sub_int q
theorem op_mul : OpR X (binaryOp .Mult) (rI CMul fun i j => .int (i * j)) := opI fun _ _ _ _ _ _ _ hc q => mul_int q hc.ok
theorem op_fdiv : OpR X (binaryOp .FloorDiv) (rI CDiv fun i j => .int (i / j)) := opI fun i j _ _ _ _ _ hc q => by
  have h1 : (0 : Int) < j := hc.1
  have h2 : j < 1073741824 := hc.2
  exact floordiv_int (by omega) (by rw [Int.fdiv_eq_ediv_of_nonneg i (by omega)]; exact q) (.inl (PyProof.noPylong_small (by omega)))
end
def scal : V → V → Bool
  | .non, .non => true | .non, .int _ => true | .int _, .non => true | .non, .bl _ => true | .bl _, .non => true | .non, .str _ => true | .str _, .non => true
  | .int _, .int _ => true | .bl _, .bl _ => true | .str _, .str _ => true | .byt _, .byt _ => true
  | .int _, .str _ => true | .str _, .int _ => true | .bl _, .str _ => true | .str _, .bl _ => true
  | _, _ => false
def rEq : R2 := fun x y H Q => scal x y = true ∧ Q (.bl (decide (x = y))) H
def rNe : R2 := fun x y H Q => scal x y = true ∧ Q (.bl (!decide (x = y))) H
theorem dec_int {i j : Int} : decide (V.int i = V.int j) = (i == j) := by
  rw [Bool.eq_iff_iff]
  simp
theorem dec_bl {i j : Bool} : decide (V.bl i = V.bl j) = (i == j) := by
  rw [Bool.eq_iff_iff]
  simp
theorem dec_str {i j : Str} : decide (V.str i = V.str j) = (i == j) := by
  rw [Bool.eq_iff_iff]
  simp
theorem dec_byt {i j : Array UInt8} : decide (V.byt i = V.byt j) = (i.toList == j.toList) := by
  rw [Bool.eq_iff_iff]
  cases i
  cases j
  simp
section
variable {X : Cx} {a b c : Expr} {ta tb tc : TE} {pos : Pos}
theorem fin_bl {pins : List (Addr × Obj)} {σ : St} {H : Hp} {s : Shared} {Q : VK} {k k' : Bool} (I : Inv X pins σ H s) (q : Q (.bl k) H) (e : k = k') : EP X pins σ Q (.bool k') s := by
  subst e
  exact ⟨.bl k, H, I, rfl, q⟩
theorem op_eq : OpR X (compareOp .Eq) rEq := by
  intro pins s σ H x y v u Q I rx ry h
  obtain ⟨hs, q⟩ := h
  cases x with
  | non =>
    cases rx
    cases y with
    | non => cases ry; exact PySem.EqNone.eq_none_none (fin_bl I q (by simp))
    | bl j => cases ry; exact PySem.EqNone.eq_none_bool (fin_bl I q (by simp))
    | int j => obtain ⟨t', rfl⟩ := ry; exact PySem.EqNone.eq_none_int (fin_bl I q (by simp))
    | str j => obtain ⟨t', rfl⟩ := ry; exact PySem.EqNone.eq_none_str (fin_bl I q (by simp))
    | _ => exact absurd (show false = true from hs) Bool.false_ne_true
  | bl i =>
    cases rx
    cases y with
    | non => cases ry; exact PySem.EqNone.eq_bool_none (fin_bl I q (by simp))
    | bl j => cases ry; exact eq_bool (fin_bl I q dec_bl)
    | str j => obtain ⟨t', rfl⟩ := ry; exact PySem.EqMixed.eq_bool_str (fin_bl I q (by simp))
    | _ => exact absurd (show false = true from hs) Bool.false_ne_true
  | int i =>
    obtain ⟨t, rfl⟩ := rx
    cases y with
    | non => cases ry; exact PySem.EqNone.eq_int_none (fin_bl I q (by simp))
    | int j => obtain ⟨t', rfl⟩ := ry; exact eq_int (fin_bl I q dec_int)
    | str j => obtain ⟨t', rfl⟩ := ry; exact PySem.EqMixed.eq_int_str (fin_bl I q (by simp))
    | _ => exact absurd (show false = true from hs) Bool.false_ne_true
  | str i =>
    obtain ⟨t, rfl⟩ := rx
    cases y with
    | non => cases ry; exact PySem.EqNone.eq_str_none (fin_bl I q (by simp))
    | bl j => cases ry; exact PySem.EqMixed.eq_str_bool (fin_bl I q (by simp))
    | int j => obtain ⟨t', rfl⟩ := ry; exact PySem.EqMixed.eq_str_int (fin_bl I q (by simp))
    | str j => obtain ⟨t', rfl⟩ := ry; exact eq_str (fin_bl I q dec_str)
    | _ => exact absurd (show false = true from hs) Bool.false_ne_true
  | byt i =>
    obtain ⟨t, rfl⟩ := rx
    cases y with
    | byt j => obtain ⟨t', rfl⟩ := ry; exact PySem.W.eq_bytes (fin_bl I q dec_byt)
    | _ => exact absurd (show false = true from hs) Bool.false_ne_true
  | _ => cases y <;> exact absurd (show false = true from hs) Bool.false_ne_true
theorem op_ne : OpR X (compareOp .NotEq) rNe := by
  intro pins s σ H x y v u Q I rx ry h
  obtain ⟨hs, q⟩ := h
  cases x with
  | non =>
    cases rx
    cases y with
    | non => cases ry; exact PySem.EqNone.ne_none_none (fin_bl I q (by simp))
    | bl j => cases ry; exact PySem.EqNone.ne_none_bool (fin_bl I q (by simp))
    | int j => obtain ⟨t', rfl⟩ := ry; exact PySem.EqNone.ne_none_int (fin_bl I q (by simp))
    | str j => obtain ⟨t', rfl⟩ := ry; exact PySem.EqNone.ne_none_str (fin_bl I q (by simp))
    | _ => exact absurd (show false = true from hs) Bool.false_ne_true
  | bl i =>
    cases rx
    cases y with
    | non => cases ry; exact PySem.EqNone.ne_bool_none (fin_bl I q (by simp))
    | bl j => cases ry; exact ne_bool (fin_bl I q (congrArg not dec_bl))
    | str j => obtain ⟨t', rfl⟩ := ry; exact PySem.EqMixed.ne_bool_str (fin_bl I q (by simp))
    | _ => exact absurd (show false = true from hs) Bool.false_ne_true
  | int i =>
    obtain ⟨t, rfl⟩ := rx
    cases y with
    | non => cases ry; exact PySem.EqNone.ne_int_none (fin_bl I q (by simp))
    | int j => obtain ⟨t', rfl⟩ := ry; exact ne_int (fin_bl I q (congrArg not dec_int))
    | str j => obtain ⟨t', rfl⟩ := ry; exact PySem.EqMixed.ne_int_str (fin_bl I q (by simp))
    | _ => exact absurd (show false = true from hs) Bool.false_ne_true
  | str i =>
    obtain ⟨t, rfl⟩ := rx
    cases y with
    | non => cases ry; exact PySem.EqNone.ne_str_none (fin_bl I q (by simp))
    | bl j => cases ry; exact PySem.EqMixed.ne_str_bool (fin_bl I q (by simp))
    | int j => obtain ⟨t', rfl⟩ := ry; exact PySem.EqMixed.ne_str_int (fin_bl I q (by simp))
    | str j => obtain ⟨t', rfl⟩ := ry; exact ne_str (fin_bl I q (congrArg not dec_str))
    | _ => exact absurd (show false = true from hs) Bool.false_ne_true
  | byt i =>
    obtain ⟨t, rfl⟩ := rx
    cases y with
    | byt j => obtain ⟨t', rfl⟩ := ry; exact PySem.W.ne_bytes (fin_bl I q (congrArg not dec_byt))
    | _ => exact absurd (show false = true from hs) Bool.false_ne_true
  | _ => cases y <;> exact absurd (show false = true from hs) Bool.false_ne_true
theorem op_lt : OpR X (compareOp .Lt) (rI0 fun i j => .bl (decide (i < j))) := opB0 fun _ _ _ _ _ _ _ q => lt_int q
theorem op_le : OpR X (compareOp .LtE) (rI0 fun i j => .bl (decide (i ≤ j))) := opB0 fun _ _ _ _ _ _ _ q => le_int q
theorem op_gt : OpR X (compareOp .Gt) (rI0 fun i j => .bl (decide (j < i))) := opB0 fun _ _ _ _ _ _ _ q => gt_int q
theorem op_isN : OpR X (compareOp .Is) (fun x y H Q => y = .non ∧ Q (.bl (decide (x = .non))) H) := by
  intro pins s σ H x y v u Q I rx ry h
  obtain ⟨rfl, q⟩ := h
  cases ry
  refine is_none_gen (fin_bl I q ?_)
  cases x <;> first
    | (cases rx; rfl)
    | (obtain ⟨t, rfl⟩ := rx; rfl)
theorem op_notN : OpR X (compareOp .IsNot) (fun x y H Q => y = .non ∧ Q (.bl (!decide (x = .non))) H) := by
  intro pins s σ H x y v u Q I rx ry h
  obtain ⟨rfl, q⟩ := h
  cases ry
  refine isnot_none_gen (fin_bl I q ?_)
  cases x <;> first
    | (cases rx; rfl)
    | (obtain ⟨t, rfl⟩ := rx; rfl)
theorem nomark (b : Expr) {op : CmpOp} (h : op ≠ .In := by decide) (h2 : op ≠ .NotIn := by decide) : behindInMarks op b = false := by
  have e1 : (op == CmpOp.In) = false := by cases op <;> first | rfl | exact absurd rfl h
  have e2 : (op == CmpOp.NotIn) = false := by cases op <;> first | rfl | exact absurd rfl h2
  cases b <;> simp [behindInMarks, e1, e2]
theorem pe_cmpR {op : CmpOp} {r : R2} (ho : OpR X (compareOp op) r) (ha : PE X a ta) (hb : PE X b tb) (hm : behindInMarks op b = false) : PE X (.Compare a [op] [b] pos) (tOp r ta tb) := by
  intro pins s σ H Q I h
  exact wpAny_Compare1 (binT ha hb I h fun v u s2 x y H2 I2 rx ry q => ho pins s2 σ H2 x y v u Q I2 rx ry q) hm
def tTest (t : TE) : TT := fun σ H Q => t σ H fun x H' => ∃ k, x = .bl k ∧ Q k H'
theorem pt_cmpR {op : CmpOp} {r : R2} (ho : OpR X (compareOp op) r) (ha : PE X a ta) (hb : PE X b tb) (hm : behindInMarks op b = false) : PT X (.Compare a [op] [b] pos) (tTest (tOp r ta tb)) := by
  intro pins s σ H Q I h
  refine wpAny_isTrue_Compare1 (thn (ha pins s σ H _ I h) fun v s1 ⟨x, H1, I1, r1, q1⟩ => thn (hb pins s1 σ H1 _ I1 q1) fun u s2 ⟨y, H2, I2, r2, q2⟩ =>
    thn (ho pins s2 σ H2 x y v u _ I2 r1 r2 q2) fun c s3 ⟨z, H3, I3, r3, k, e, q3⟩ => ?_) hm
  subst e
  cases r3
  exact wpAny_truthy_bool ⟨H3, I3, q3⟩
theorem line63 : (sizeLine : Nat) < 2 ^ 63 := by rw [sizeLine_eq]; decide
theorem vals1 {x : V} {us : List Value} (r : Vals [x] us) : ∃ u, us = [u] ∧ RelV x u := by
  cases r with
  | cons r1 r2 => cases r2; exact ⟨_, rfl, r1⟩
end
end L2
namespace L2
open PySem PySem.Spec PyProof.Rows
structure ObjM (h : Heap) (x dx C : Addr) (mA : Str → Option Value) : Prop where
  obj : h.get? x = some (PySem.W.instObj C dx)
  ns : h.Ns1 dx mA
  ne : dx ≠ x
theorem lookIn_ns {h : Heap} {dx : Addr} {mA : Str → Option Value} (n : h.Ns1 dx mA) : ∃ od, h.get? dx = some od ∧ ∀ name, PySem.W.lookIn name od = some (mA name) := by
  obtain ⟨o, es, ep, ho, hd, hk, _, hm⟩ := n
  refine ⟨o, ho, fun name => ?_⟩
  have e := hm name
  unfold nsFind findBy at e
  rw [← Array.find?_toList] at e
  unfold PySem.W.lookIn
  rw [hd]
  dsimp only
  split
  · rename_i y q
    rw [q] at e
    exact congrArg some e
  · rename_i q
    rw [q] at e
    have a : es.toList.any (·.refKey) = false := by
      rw [List.any_eq_false]
      intro y hy
      obtain ⟨z, t, hkey⟩ := hk y (Array.mem_toList_iff.mp hy)
      simp [DictEntry.refKey, hkey]
    have a' : ¬ es.toList.any (·.refKey) = true := by rw [a]; exact Bool.false_ne_true
    rw [if_neg a']
    exact congrArg some e
theorem ObjM.look {h : Heap} {x dx C : Addr} {mA : Str → Option Value} (I : ObjM h x dx C mA) : ∃ od, PySem.W.InstAt h x (PySem.W.instObj C dx) C (some od) ∧ ∀ name, PySem.W.lookIn name od = some (mA name) :=
  let ⟨od, ho, hl⟩ := lookIn_ns I.ns
  ⟨od, ⟨I.obj, rfl, rfl, ho⟩, hl⟩
section
variable {prog : Program} {w : World} {A : Around} {E : Value → Shared → Prop} {s : Shared} {K : PySem.W.Frag} {x dx C f : Addr} {mA : Str → Option Value} {name : Str} {v : Value}
theorem get_map {expr : Bool} {Q : Value → Shared → Prop} (X : K.In s.heap) (I : ObjM s.heap x dx C mA) (hg : PySem.W.plainGet K C name = true) (hh : PySem.W.hasDictIn K C = true)
    (ha : PySem.W.findIn K (.ref C) name = some none) (hv : mA name = some v) (hv' : PySem.W.handedIn v = true) (h : Q v { s with toks := s.toks + 1 }) :
    wpAny (model prog w) A (getAttr (.ref x) name expr) Q E s := by
  obtain ⟨od, J, hl⟩ := I.look
  exact PySem.W.get_value X J (PySem.W.plainGet_of hg).1 (PySem.W.findObj_own hh ha rfl (by rw [hl, hv])) hv' h
theorem get_meth {pl : Sem Bool} {Q : Value × List Value → Shared → Prop} (X : K.In s.heap) (I : ObjM s.heap x dx C mA) (hg : PySem.W.plainGet K C name = true)
    (hf : PySem.W.findIn K (.ref C) name = some (some (.ref f))) (ht : PySem.W.isFn K (.ref f) = true) (hv : mA name = none) (h : Q (.ref f, [.ref x]) s) :
    wpAny (model prog w) A (getMethod (.ref x) name pl) Q E s := by
  obtain ⟨od, J, hl⟩ := I.look
  exact PySem.W.method_fn X J (PySem.W.plainGet_of hg).1 (PySem.W.plainGet_of hg).2 hf (beq_iff_eq.mp ht) (by show (PySem.W.lookIn name od).map (·.isSome) = some false; rw [hl, hv]; rfl) h
theorem set_map {ns : List Str} {Q : Unit → Shared → Prop} (X : K.In s.heap) (I : ObjM s.heap x dx C mA)
    (hs : PySem.W.findIn K (.ref C) "__setattr__" = some (some (.builtin "object.__setattr__"))) (hp : PySem.W.plainOver K C = true) (ht : PySem.W.takerIn K C name = some none) (hh : PySem.W.hasDictIn K C = true)
    (hw : PySem.Within mA ns) (hsz : ns.length ≤ sizeLine)
    (h : ∀ h', ObjM h' x dx C (fun y => if y = name then some v else mA y) → Heap.SameBut dx s.heap h' → Q () { s with heap := h', toks := s.toks + 2 }) :
    wpAny (model prog w) A (setAttr (.ref x) name v) Q E s := by
  obtain ⟨od, J, hl⟩ := I.look
  refine PySem.W.set_plain X J hs (PySem.W.osa_open (s := { s with toks := s.toks + 1 }) (r := none) X J hp ht fun b => ?_)
  obtain ⟨cd, hc, hd'⟩ := PySem.W.any_some hh
  have hx : s.heap.get? x = some ⟨.ref C, some dx, .plain, #[]⟩ := I.obj
  refine wpAny_bind (wpAny_pure (wpAny_bind (wpAny_bind (wpAny_loadPart hx (wpAny_bind (PySem.W.Looks.here (s := { s with toks := s.toks + 1 }) (PySem.W.looks_clsIn X hc) ?_))))))
  rw [hd']
  refine wpAny_pure (a := some dx) (wpAny_bind (wpAny_pure (wpAny_bind ?_)))
  refine wpAny_nsSet1 (s := { s with toks := s.toks + 1 }) I.ns fun h' hn2 hs2 => ?_
  obtain ⟨oD, esD, epD, hoD, hdD, hcD⟩ := hn2.count (PySem.Within.cons name v hw)
  refine wpAny_bind (wpAny_lookBehind hoD (by rw [hdD]; exact pastItsLine_dict (Nat.le_trans hcD (by rw [List.length_cons]; omega))) ?_)
  exact wpAny_pure (h _ ⟨(hs2.2 _ (Ne.symm I.ne)).trans I.obj, hn2, I.ne⟩ hs2)
theorem make_map {R : Result → Shared → Prop} {vs : List Value} {kw : List (Str × Value)} (X : K.In s.heap) (hm : PySem.W.makesIn K C = true)
    (hi : PySem.W.findIn K (.ref C) "__init__" = some (some (.ref f))) (hf : PySem.W.typeIn K (.ref f) = some (.type "function"))
    (h : codeAny (model prog w) (A.under (.builtin "type.__call__" ⟨.ref C :: vs, kw⟩)) (.call (.ref f) ⟨.ref (s.heap.objs.size + 1) :: vs, kw⟩) (PySem.W.InitBack (s.heap.objs.size + 1) R)
      { s with heap := (s.heap.push PySem.W.emptyDict).push (PySem.W.instObj C s.heap.objs.size) }) :
    codeAny (model prog w) A (.call (.ref C) ⟨vs, kw⟩) R s := by
  obtain ⟨hh, g, d, t, os⟩ := s
  exact PySem.W.make_core (PySem.W.makes_of X hm) (PySem.W.looks_findIn X hi) (fun self => PySem.W.bind_fn X self hf) (.inl rfl) h
end
def putF (f : Str) (v : V) : List (Str × V) → List (Str × V)
  | [] => [(f, v)]
  | (g, x) :: r => if g = f then (g, v) :: r else (g, x) :: putF f v r
theorem lookup_putF (f g : Str) (v : V) : ∀ fs : List (Str × V), (putF f v fs).lookup g = if g = f then some v else fs.lookup g
  | [] => by
    show List.lookup g [(f, v)] = _
    by_cases h : g = f
    · have hb : (g == f) = true := beq_iff_eq.mpr h
      simp only [List.lookup, hb, if_pos h]
    · have hb : (g == f) = false := beq_eq_false_iff_ne.mpr h
      simp only [List.lookup, hb, if_neg h]
  | (k, x) :: r => by
    have ih := lookup_putF f g v r
    rw [show putF f v ((k, x) :: r) = (if k = f then (k, v) :: r else (k, x) :: putF f v r) from rfl]
    by_cases hk : k = f
    · rw [if_pos hk]
      by_cases h : g = k
      · have hb : (g == k) = true := beq_iff_eq.mpr h
        simp only [List.lookup, hb, if_pos (h.trans hk)]
      · have hb : (g == k) = false := beq_eq_false_iff_ne.mpr h
        simp only [List.lookup, hb, if_neg (fun e : g = f => h (e.trans hk.symm))]
    · rw [if_neg hk]
      by_cases h : g = k
      · have hb : (g == k) = true := beq_iff_eq.mpr h
        simp only [List.lookup, hb, if_neg (fun e : g = f => hk (h.symm.trans e))]
      · have hb : (g == k) = false := beq_eq_false_iff_ne.mpr h
        simp only [List.lookup, hb]
        exact ih
theorem keys_putF (f : Str) (v : V) : ∀ fs : List (Str × V), f ∈ (putF f v fs).map (·.1) ∧ ∀ g, g ∈ fs.map (·.1) → g ∈ (putF f v fs).map (·.1)
  | [] => ⟨by simp [putF], fun g h => by simp at h⟩
  | (k, x) :: r => by
    obtain ⟨i1, i2⟩ := keys_putF f v r
    rw [show putF f v ((k, x) :: r) = (if k = f then (k, v) :: r else (k, x) :: putF f v r) from rfl]
    by_cases hk : k = f
    · rw [if_pos hk]
      subst hk
      exact ⟨by simp, fun g h => by simpa using h⟩
    · rw [if_neg hk]
      refine ⟨?_, fun g h => ?_⟩
      · rw [List.map_cons]
        exact List.mem_cons_of_mem _ i1
      · rw [List.map_cons] at h ⊢
        rcases List.mem_cons.mp h with e | e
        · exact List.mem_cons.mpr (.inl e)
        · exact List.mem_cons_of_mem _ (i2 g e)
theorem length_putF (f : Str) (v : V) : ∀ fs : List (Str × V), (putF f v fs).length ≤ fs.length + 1
  | [] => by simp [putF]
  | (k, x) :: r => by
    have ih := length_putF f v r
    rw [show putF f v ((k, x) :: r) = (if k = f then (k, v) :: r else (k, x) :: putF f v r) from rfl]
    by_cases hk : k = f
    · rw [if_pos hk, List.length_cons, List.length_cons]; omega
    · rw [if_neg hk, List.length_cons, List.length_cons]; omega
theorem RelO.some_of {v : V} {o : Option Value} (r : RelO (some v) o) : ∃ u, o = some u ∧ RelV v u := by
  cases o with
  | none => exact (show False from r).elim
  | some u => exact ⟨u, rfl, r⟩
theorem RelO.none_of {o : Option Value} (r : RelO none o) : o = none := by
  cases o with
  | none => rfl
  | some u => exact (show False from r).elim
theorem handed_of {v : V} {u : Value} (r : RelV v u) : PySem.W.handedIn u = true := by
  cases v with
  | non => cases (show u = Value.none from r); rfl
  | bl b => cases (show u = Value.bool b from r); rfl
  | int i => obtain ⟨t, e⟩ := (show ∃ t, u = Value.int i t from r); cases e; rfl
  | str x => obtain ⟨t, e⟩ := (show ∃ t, u = Value.str x t from r); cases e; rfl
  | byt b => obtain ⟨t, e⟩ := (show ∃ t, u = Value.bytes b t from r); cases e; rfl
  | flt b => obtain ⟨t, e⟩ := (show ∃ t, u = Value.float b t from r); cases e; rfl
  | ref a => cases (show u = Value.ref a from r); rfl
  | ty n => cases (show u = Value.type n from r); rfl
section
variable {P : Program} {w : World} {H H' : Hp} {h h' : Heap} {a C dx : Addr} {fs fs' : List (Str × V)}
theorem ins_get (hok : HOk P w H h) (e : H a = some (.ins C dx fs)) : ∃ mA, ObjM h a dx C mA ∧ (∀ f, RelO (fs.lookup f) (mA f)) ∧ PySem.Within mA (fs.map (·.1)) ∧ fs.length ≤ 1000 ∧ H dx = some (.own a) := by
  obtain ⟨d, z, ne, ob, mA, n, r, q⟩ := (show ObjOk P w H h a (.ins C dx fs) from hok a _ e)
  exact ⟨mA, ⟨ob, n, ne⟩, r, q, z, d⟩
end
structure Cls (K : PySem.W.Frag) (C : Addr) : Prop where
  pg : PySem.W.plainGet K C Str.empty = true
  hd : PySem.W.hasDictIn K C = true
  po : PySem.W.plainOver K C = true
  sa : PySem.W.findIn K (.ref C) "__setattr__" = some (some (.builtin "object.__setattr__"))
theorem Cls.get {K : PySem.W.Frag} {C : Addr} (c : Cls K C) (f : Str) : PySem.W.plainGet K C f = true := c.pg
def NoAttr (K : PySem.W.Frag) (C : Addr) (f : Str) : Prop := PySem.W.findIn K (.ref C) f = some none
theorem NoAttr.taker {K : PySem.W.Frag} {C : Addr} {f : Str} (n : NoAttr K C f) : PySem.W.takerIn K C f = some none := by
  unfold PySem.W.takerIn
  rw [show PySem.W.findIn K (.ref C) f = some none from n]
  rfl
structure Meth (K : PySem.W.Frag) (C : Addr) (m : Str) (f : Addr) : Prop where
  at_ : PySem.W.findIn K (.ref C) m = some (some (.ref f))
  fn : PySem.W.isFn K (.ref f) = true
  kp : PySem.W.keepIn K (.ref f) = true
section
variable {X : Cx} {pins : List (Addr × Obj)} {σ : St} {H : Hp} {s : Shared} {a C dx : Addr} {fs : List (Str × V)} {f : Str} {v : V} {A : Around} {E : Value → Shared → Prop}
theorem getattr_ok {b : Bool} {Q : Value → Shared → Prop} (I : Inv X pins σ H s) (e : H a = some (.ins C dx fs)) (c : Cls X.K C) (n : NoAttr X.K C f) (l : fs.lookup f = some v)
    (h : ∀ u s', Inv X pins σ H s' → RelV v u → Q u s') : wpAny (model X.prog X.w) A (getAttr (.ref a) f b) Q E s := by
  obtain ⟨mA, O, r, _, _, _⟩ := ins_get I.hok e
  obtain ⟨u, hu, ru⟩ := RelO.some_of (v := v) (o := mA f) (by rw [← l]; exact r f)
  exact get_map I.kIn O (c.get f) c.hd n hu (handed_of ru) (h u _ (I.tok _) ru)
theorem getmeth_ok {m : Str} {g : Addr} {pl : Sem Bool} {Q : Value × List Value → Shared → Prop} (I : Inv X pins σ H s) (e : H a = some (.ins C dx fs)) (c : Cls X.K C) (k : Meth X.K C m g) (l : fs.lookup m = none)
    (h : Q (.ref g, [.ref a]) s) : wpAny (model X.prog X.w) A (getMethod (.ref a) m pl) Q E s := by
  obtain ⟨mA, O, r, _, _, _⟩ := ins_get I.hok e
  have hn : mA m = none := RelO.none_of (by rw [← l]; exact r m)
  exact get_meth I.kIn O (c.get m) k.at_ k.fn hn h
theorem setattr_ok {y : V} {u : Value} {Q : Unit → Shared → Prop} (I : Inv X pins σ H s) (e : H a = some (.ins C dx fs)) (c : Cls X.K C) (n : NoAttr X.K C f) (hl : fs.length < 1000) (ry : RelV y u)
    (h : ∀ s', Inv X pins σ (upd H a (.ins C dx (putF f y fs))) s' → Q () s') : wpAny (model X.prog X.w) A (setAttr (.ref a) f u) Q E s := by
  obtain ⟨mA, O, r, wi, _, ho⟩ := ins_get I.hok e
  have hz : (fs.map (·.1)).length ≤ sizeLine := by rw [List.length_map, sizeLine_eq]; omega
  refine set_map I.kIn O c.sa c.po n.taker c.hd wi hz fun h' O' sb => h _ ?_
  have hd : ∃ o, h'.get? dx = some o := let ⟨o, _, _, e', _⟩ := O'.ns; ⟨o, e'⟩
  refine I.write (x := a) (e := dx) (by rw [e]; exact True.intro) (.inr ho) (fun b q hb z => (sb.2 b hb).trans z) hd ?_
  refine ⟨by rw [upd_ne O.ne]; exact ho, ?_, O.ne, O'.obj, _, O'.ns, fun g => ?_, fun g hg => ?_⟩
  · have := length_putF f y fs; omega
  · show RelO ((putF f y fs).lookup g) (if g = f then some u else mA g)
    rw [lookup_putF]
    by_cases q : g = f
    · rw [if_pos q, if_pos q]; exact ry
    · rw [if_neg q, if_neg q]; exact r g
  · by_cases q : g = f
    · rw [q]; exact (keys_putF f y fs).1
    · refine (keys_putF f y fs).2 g (wi g fun z => hg ?_)
      show (if g = f then some u else mA g) = none
      rw [if_neg q]; exact z
theorem Inv.made (I : Inv X pins σ H s) : Inv X pins σ (upd (upd H s.heap.objs.size (.own (s.heap.objs.size + 1))) (s.heap.objs.size + 1) (.ins C s.heap.objs.size []))
    { s with heap := (s.heap.push PySem.W.emptyDict).push (PySem.W.instObj C s.heap.objs.size) } := by
  have e1 : (s.heap.push PySem.W.emptyDict).get? s.heap.objs.size = some PySem.W.emptyDict := Heap.get?_push_size s.heap rfl
  have e2 : ((s.heap.push PySem.W.emptyDict).push (PySem.W.instObj C s.heap.objs.size)).get? (s.heap.objs.size + 1) = some (PySem.W.instObj C s.heap.objs.size) := by
    have := Heap.get?_push_size (s.heap.push PySem.W.emptyDict) (o := PySem.W.instObj C s.heap.objs.size) rfl
    rwa [Heap.size_push] at this
  have e3 : (s.heap.push PySem.W.emptyDict).Ns s.heap.objs.size (fun _ => none) := ⟨PySem.W.emptyDict, #[], _, e1, rfl, (fun e he => absurd he (by simp)), fun _ => rfl⟩
  have I1 := I.laid (a := s.heap.objs.size) (o := .own (s.heap.objs.size + 1)) (h' := s.heap.push PySem.W.emptyDict) (t' := s.toks) (fun b u q => Heap.get?_push_of_some _ q) (Nat.le_refl _) ⟨_, e1⟩
  refine I1.laid (a := s.heap.objs.size + 1) (o := .ins C s.heap.objs.size []) (t' := s.toks) (fun b u q => Heap.get?_push_of_some _ q) (Nat.le_of_eq (Heap.size_push _ _)) ?_
  have ne : s.heap.objs.size ≠ s.heap.objs.size + 1 := Nat.ne_of_lt (Nat.lt_succ_self _)
  refine ⟨by rw [upd_ne ne, upd_same], Nat.zero_le _, ne, e2, fun _ => none, (Heap.Ns1.of_empty e3).at fun o q => Heap.get?_push_of_some _ q, fun _ => True.intro, fun y hy => absurd rfl hy⟩
theorem attr_of {prog : Program} {w : World} {env : Env} {e : Expr} {f : Str} {pos : Pos} {s : Shared} {Q : Value → Shared → Prop} (hb : attributeBase e f env (eval e env) = eval e env)
    (h : wpAny (model prog w) A (eval e env) (fun o s₁ => wpAny (model prog w) A (getAttr o f true) Q E s₁) E s) : wpAny (model prog w) A (eval (.Attribute e f pos) env) Q E s :=
  Attribute_any_ h (by rw [arm_eval_Attribute, hb])
end
def tFld (K : PySem.W.Frag) (ta : TE) (f : Str) : TE := fun σ H Q => ta σ H fun x H1 => ∃ a C dx fs v, x = .ref a ∧ H1 a = some (.ins C dx fs) ∧ Cls K C ∧ NoAttr K C f ∧ fs.lookup f = some v ∧ Q v H1
def sFld (K : PySem.W.Frag) (ta tv : TE) (f : Str) : TS := fun D σ H => tv σ H fun y H1 => ta σ H1 fun x H2 => ∃ a C dx fs, x = .ref a ∧ H2 a = some (.ins C dx fs) ∧ Cls K C ∧ NoAttr K C f ∧ fs.length < 1000 ∧
  D.nx σ (upd H2 a (.ins C dx (putF f y fs)))
section
variable {X : Cx} {o e value : Expr} {f : Str} {pos pos' tpos : Pos} {ta tv : TE}
theorem pe_fld (he : PE X e ta) (hb : attributeBase e f X.env (eval e X.env) = eval e X.env) : PE X (.Attribute e f pos) (tFld X.K ta f) := by
  intro pins s σ H Q I h
  refine attr_of hb (thn (he pins s σ H _ I h) fun u s1 ⟨x, H1, I1, rx, a, C, dx, fs, v, ex, ea, c, n, l, q⟩ => ?_)
  subst ex
  obtain rfl : u = Value.ref a := rx
  exact getattr_ok I1 ea c n l fun u' s2 I2 ru => ⟨v, H1, I2, ru, q⟩
theorem ps_fld (ha : PE X o ta) (hv : PE X value tv) (hs : swapsWith value (some (.Attribute o f pos')) pos.line X.env = pure false) : PS X (.Assign [.Attribute o f pos'] value pos) (sFld X.K ta tv f) := by
  intro pins s σ H D I h
  refine plainObj_wpAny_Assign_Attribute (thn (hv pins s σ H _ I h) fun u s1 ⟨y, H1, I1, ry, q⟩ => thn (ha pins s1 σ H1 _ I1 q) fun ov s2 ⟨x, H2, I2, rx, a, C, dx, fs, ex, ea, c, n, l, q2⟩ => ?_) hs
  subst ex
  obtain rfl : ov = Value.ref a := rx
  exact setattr_ok I2 ea c n l ry fun s3 I3 => ⟨σ, _, I3, q2⟩
theorem methcall_of {pl : Sem Bool} {m : Str} {apos : Pos} {args : List Expr} {pins : List (Addr × Obj)} {s : Shared} {σ : St} {H : Hp} {Q : Value → Shared → Prop} {te : TE} (he : PE X e te) (I : Inv X pins σ H s)
    (h : te σ H fun x H1 => ∃ a C dx fs g, x = .ref a ∧ H1 a = some (.ins C dx fs) ∧ Cls X.K C ∧ Meth X.K C m g ∧ fs.lookup m = none ∧
      ∀ s1, Inv X pins σ H1 s1 → wpAny (model X.prog X.w) X.A (callWith pos (.ref g) [.ref a] (backTo pos (starEach args X.env)) (backToKw pos (keywordEach [] X.env))) Q X.xe s1)
    (ht : eval (.Call (.Attribute e m apos) args [] pos) X.env = (do
      let ov ← eval e X.env
      standAt apos.atName
      let (f, first) ← holding [ov] (getMethod ov m pl)
      callWith pos f first (backTo pos (starEach args X.env)) (backToKw pos (keywordEach [] X.env)))) :
    wpAny (model X.prog X.w) X.A (eval (.Call (.Attribute e m apos) args [] pos) X.env) Q X.xe s := by
  refine PySem.W.methodCall_KW (pl := pl) (thn (he pins s σ H _ I h) fun u s1 ⟨x, H1, I1, rx, a, C, dx, fs, g, ex, ea, c, k, l, q⟩ => ?_) ht
  subst ex
  obtain rfl : u = Value.ref a := rx
  exact getmeth_ok I1 ea c k l (q s1 I1)
end
section
variable {X : Cx} {pins : List (Addr × Obj)} {σ : St} {H : Hp} {s : Shared} {A : Around} {E : Value → Shared → Prop} {Q : Value → Shared → Prop} {c : Value} {b : Bool}
end
end L2
namespace L2
open PySem PySem.Spec PyProof.Rows
structure Room (k : Nat) (A : Around) : Prop where
  hd : A.handled = none
  dp : A.depth + 3 * k + 5 < recursionLimit
  un : A.units + 16 * k + 200 < cLine
theorem Room.mono {j k : Nat} {A : Around} (r : Room k A) (h : j ≤ k) : Room j A := ⟨r.hd, by have := r.dp; omega, by have := r.un; omega⟩
theorem Room.deeper {k : Nat} {A : Around} (r : Room (k + 1) A) (env : Env) : Room k (A.deeper env) :=
  ⟨r.hd, by have := r.dp; show A.depth + 1 + 3 * k + 5 < _; omega, by have := r.un; show A.units + 3 + 16 * k + 200 < _; omega⟩
theorem make_depth {A : Around} {C : Addr} {us : List Value} {kw : List (Str × Value)} : (A.under (.builtin "type.__call__" ⟨.ref C :: us, kw⟩)).depth = A.depth + 1 := by
  first | rfl | simp [Around.under, Code.weight, Code.isCreation, Code.isGuard, Code.isCaller, Code.frames, Code.isFrame, guardIds]
theorem make_units {A : Around} {C : Addr} {us : List Value} {kw : List (Str × Value)} : (A.under (.builtin "type.__call__" ⟨.ref C :: us, kw⟩)).units = A.units + 1 := by
  first | rfl | simp [Around.under, Code.cUnits, Code.frames, Code.isFrame]
theorem Room.make {k : Nat} {A : Around} (r : Room (k + 1) A) (C : Addr) (us : List Value) (kw : List (Str × Value)) : Room k (A.under (.builtin "type.__call__" ⟨.ref C :: us, kw⟩)) :=
  ⟨r.hd, by have := r.dp; rw [make_depth]; omega, by have := r.un; rw [make_units]; omega⟩
theorem Room.depth {k : Nat} {A : Around} (r : Room k A) : A.depth < recursionLimit := by have := r.dp; omega
theorem Room.units {k : Nat} {A : Around} (r : Room k A) : A.units + 64 < cLine := by have := r.un; omega
def tNil : TA := fun _ H Q => Q [] H
def tCons (ta : TE) (tr : TA) : TA := fun σ H Q => ta σ H fun x H1 => tr σ H1 fun xs H2 => Q (x :: xs) H2
section
variable {X : Cx} {e : Expr} {es : List Expr} {te : TE} {t : TA} {pos : Pos}
theorem pa_nil : PA X [] tNil := fun _ _ _ _ H Q I h => Calls.spliced_nil ⟨[], H, I, .nil, h⟩
theorem pa_cons (ha : PE X e te) (hr : PA X es t) (hs : starEach (e :: es) X.env = (false, eval e X.env) :: starEach es X.env := by rfl) : PA X (e :: es) (tCons te t) := by
  intro pos pins s σ H Q I h
  rw [hs]
  show wpAny _ _ (spliced ((false, eval e X.env) :: backTo pos (starEach es X.env))) _ _ s
  refine Calls.spliced_cons (thn (ha pins s σ H _ I h) fun u s1 ⟨x, H1, I1, r1, q1⟩ => ?_)
  exact thn (hr pos pins s1 σ H1 _ I1 q1) fun us s2 ⟨xs, H2, I2, r2, q2⟩ => ⟨x :: xs, H2, I2, .cons r1 r2, q2⟩
def tTup (t : TA) : TE := fun σ H Q => t σ H fun xs H1 => xs.length ≤ sizeLine ∧ ∀ p, H1 p = none → Q (.ref p) (upd H1 p (.tup xs))
def tLst (t : TA) : TE := fun σ H Q => t σ H fun xs H1 => xs.length ≤ sizeLine ∧ ∀ p, H1 p = none → Q (.ref p) (upd H1 p (.lst xs))
theorem pe_tup {x1} (h : PA X es t) : PE X (.Tuple es x1 pos) (tTup t) := by
  intro pins s σ H Q I hq
  refine wpAny_Tuple_spliced (thn (h pos pins s σ H _ I hq) fun us s1 ⟨xs, H1, I1, r, z, q⟩ => ⟨by rw [← r.length]; exact z, ?_⟩)
  have hf : H1 s1.heap.objs.size = none := I1.hok.fresh (Nat.le_refl _)
  refine ⟨.ref s1.heap.objs.size, upd H1 s1.heap.objs.size (.tup xs), I1.laid (t' := s1.toks) (fun b u e => Heap.get?_push_of_some _ e) (Nat.le_refl _) ?_, rfl, q _ hf⟩
  exact ⟨z, us, r, ⟨_, Heap.get?_push_size _ rfl, rfl, _, rfl⟩⟩
theorem pe_lst (h : PA X es t) : PE X (.List es pos) (tLst t) := by
  intro pins s σ H Q I hq
  refine wpAny_List_spliced (thn (h pos pins s σ H _ I hq) fun us s1 ⟨xs, H1, I1, r, z, q⟩ => ⟨by rw [← r.length]; exact z, ?_⟩)
  have hf : H1 s1.heap.objs.size = none := I1.hok.fresh (Nat.le_refl _)
  refine ⟨.ref s1.heap.objs.size, upd H1 s1.heap.objs.size (.lst xs), I1.laid (t' := s1.toks) (fun b u e => Heap.get?_push_of_some _ e) (Nat.le_refl _) ?_, rfl, q _ hf⟩
  exact ⟨z, us, 0, r, Heap.get?_push_size _ rfl⟩
end
abbrev Sp := List V → Hp → VK → XK → Prop
abbrev CXT := List Env → Hp → Shared → XK → Value → Shared → Prop
structure Env0 (P : Program) (w : World) (K : PySem.W.Frag) (mg : Str → Option Value) (base : Heap) (A : Around) (outer : List Env) (s : Shared) (H : Hp) : Prop where
  frames : A.frames = some outer
  mod : Mod K mg base
  bs : ∀ b o, base.get? b = some o → s.heap.get? b = some o ∧ H b = none
  bsz : base.objs.size ≤ s.heap.objs.size
  funs : s.heap.FunFrames base outer
  frf : ∀ b ∈ frs outer, H b = none
  hok : HOk P w H s.heap
  bare : AllBare s.gens
def CE (outer : List Env) (P : Program) (w : World) (H : Hp) (s : Shared) (Q : VK) (u : Value) (s' : Shared) : Prop :=
  ∃ v H', s'.os = s.os ∧ AllBare s'.gens ∧ Un (frs outer) [] H H' s.heap s'.heap ∧ HOk P w H' s'.heap ∧ RelV v u ∧ Q v H'
def CR (CX : CXT) (outer : List Env) (P : Program) (w : World) (H : Hp) (s : Shared) (Q : VK) (E : XK) (r : Result) (s' : Shared) : Prop :=
  match r with
  | .ok (.ret u) => CE outer P w H s Q u s'
  | .ok _ => False
  | .error e => CX outer H s E e s'
structure FnOk (P : Program) (w : World) (K : PySem.W.Frag) (mg : Str → Option Value) (base : Heap) (CX : CXT) (k : Nat) (f : Addr) (fd : FuncData) (ps : List Str) (sp : Sp) : Prop where
  len : ∀ vs H Q E, sp vs H Q E → vs.length = ps.length
  run : ∀ (A : Around) (outer : List Env) (s : Shared) (H : Hp) (args : Args) (us : List Value) (vs : List V) (Q : VK) (E : XK), Room k A → Env0 P w K mg base A outer s H → BindsTo s fd args (ps.zip us) → Vals vs us → sp vs H Q E →
    codeAny (model P w) A (.call (.ref f) args) (CR CX outer P w H s Q E) s
theorem FnOk.mono {P : Program} {w : World} {K : PySem.W.Frag} {mg : Str → Option Value} {base : Heap} {CX : CXT} {j k : Nat} {f : Addr} {fd : FuncData} {ps : List Str} {sp : Sp} (F : FnOk P w K mg base CX j f fd ps sp) (h : j ≤ k) :
    FnOk P w K mg base CX k f fd ps sp := ⟨F.len, fun A outer s H args us vs Q E hr => F.run A outer s H args us vs Q E (hr.mono h)⟩
theorem Env0.make {P : Program} {w : World} {K : PySem.W.Frag} {mg : Str → Option Value} {base : Heap} {A : Around} {outer : List Env} {s : Shared} {H : Hp} (e : Env0 P w K mg base A outer s H) (C : Addr) (us : List Value) (kw : List (Str × Value)) :
    Env0 P w K mg base (A.under (.builtin "type.__call__" ⟨.ref C :: us, kw⟩)) outer s H := ⟨by first | exact e.frames | (simpa [Around.under, Code.envs, Code.isFrame, pushEnvs] using e.frames), e.mod, e.bs, e.bsz, e.funs, e.frf, e.hok, e.bare⟩
section
variable {X : Cx} {pins : List (Addr × Obj)} {σ : St} {H : Hp} {s s' : Shared}
theorem Inv.env0 (I : Inv X pins σ H s) : Env0 X.prog X.w X.K X.mg X.base X.A X.stack s H :=
  ⟨I.ok.frames, I.ok.mod, I.bs, Nat.le_trans I.ok.bsz I.sz, I.stack, I.stkFree, I.hok, I.bare⟩
theorem Inv.after {Q : VK} {u : Value} (I : Inv X pins σ H s) (h : CE X.stack X.prog X.w H s Q u s') : EP X pins σ Q u s' := by
  obtain ⟨v, H', os, bare, un, hok, r, q⟩ := h
  obtain ⟨hh, g, d, t, os'⟩ := s'
  obtain rfl : os' = s.os := os
  exact ⟨v, H', I.call (h' := hh) (g' := g) (d' := d) (t' := t) (ch := []) un hok bare (fun b z => absurd z (by simp)), r, q⟩
end
def tCall (sp : Sp) (dvs : List V) (E : XK) (t : TA) : TE := fun σ H Q => t σ H fun vs H1 => sp (vs ++ dvs) H1 Q E
def tMeth (C : Addr) (m : Str) (sp : Sp) (dvs : List V) (E : XK) (ta : TE) (t : TA) : TE := fun σ H Q => ta σ H fun x H1 => ∃ a dx fs, x = .ref a ∧ H1 a = some (.ins C dx fs) ∧ fs.lookup m = none ∧
  t σ H1 fun vs H2 => sp (x :: (vs ++ dvs)) H2 Q E
def tMake (C : Addr) (sp : Sp) (dvs : List V) (E : XK) (t : TA) : TE := fun σ H Q => t σ H fun vs H1 => ∀ x dx, H1 x = none → H1 dx = none → dx ≠ x →
  sp (.ref x :: (vs ++ dvs)) (upd (upd H1 dx (.own x)) x (.ins C dx [])) (fun v H2 => v = .non ∧ Q (.ref x) H2) E
def Binds (K : PySem.W.Frag) (fd : FuncData) (ps : List Str) (ds : List Value) : Prop :=
  ∀ (s : Shared) (us : List Value), K.In s.heap → (us ++ ds).length = ps.length → BindsTo s fd ⟨us, []⟩ (ps.zip (us ++ ds))
theorem Binds.all {K : PySem.W.Frag} {fd : FuncData} {ps : List Str} (h : ∀ us : List Value, us.length = ps.length → bindArgs fd ⟨us, []⟩ = pure (ps.zip us)) : Binds K fd ps [] := fun s us _ hl => by
  rw [List.append_nil] at hl ⊢
  exact .of_eq (h us hl)
def Passes (CX : CXT) (X : Cx) (E : XK) : Prop := ∀ (pins : List (Addr × Obj)) (σ : St) (H : Hp) (s : Shared) (e : Value) (s' : Shared), Inv X pins σ H s → CX X.stack H s E e s' → X.xe e s'
section
variable {X : Cx} {CX : CXT} {k : Nat} {f C : Addr} {fd : FuncData} {ps : List Str} {sp : Sp} {dvs : List V} {ds : List Value} {E : XK} {x m : Str} {p pos apos : Pos} {e o : Expr} {es : List Expr} {ta : TE} {t : TA}
theorem run_fn {pins : List (Addr × Obj)} {σ : St} {H : Hp} {s : Shared} {Q : VK} {us : List Value} {vs : List V} (F : FnOk X.prog X.w X.K X.mg X.base CX k f fd ps sp) (hr : Room k X.A) (hb : Binds X.K fd ps ds) (hd : Vals dvs ds) (hx : Passes CX X E)
    (I : Inv X pins σ H s) (r : Vals vs us) (h : sp (vs ++ dvs) H Q E) : wpAny (model X.prog X.w) X.A (call (.ref f) us) (EP X pins σ Q) X.xe s := by
  have r2 : Vals (vs ++ dvs) (us ++ ds) := r.append hd
  have hl : (us ++ ds).length = ps.length := by rw [← r2.length]; exact F.len _ _ _ _ h
  refine wpAny_call (codeAny_mono (F.run X.A X.stack s H ⟨us, []⟩ (us ++ ds) (vs ++ dvs) Q E hr I.env0 (hb s us I.kIn hl) r2 h) fun r s' hq => ?_)
  cases r with
  | error e => exact hx pins σ H s e s' I hq
  | ok fl =>
    cases fl with
    | ret u => exact I.after hq
    | next => exact False.elim hq
    | brk => exact False.elim hq
    | cont => exact False.elim hq
theorem pe_call (F : FnOk X.prog X.w X.K X.mg X.base CX k f fd ps sp) (hr : Room k X.A) (hg : Gl X x) (hm : X.mg x = some (.ref f)) (hk : PySem.W.keepIn X.K (.ref f) = true) (hb : Binds X.K fd ps ds) (hd : Vals dvs ds) (hx : Passes CX X E)
    (ha : PA X (e :: es) t) (hdb : (x == ("__debug__" : Str)) = false := by decide) (he : starEach (e :: es) X.env = (false, eval e X.env) :: starEach es X.env := by rfl) (hpl : (backTo pos (starEach es X.env)).any (·.1) = false := by rfl) :
    PE X (.Call (.Name x p) (e :: es) [] pos) (tCall sp dvs E t) := by
  intro pins s σ H Q I h
  refine wpAny_Call_Name_kw (ld_glob I hg hm ?_ hdb)
  refine PySem.W.callWith_K (h₀ := X.base) I.ok.mod.kin hk (thn (ha pos pins s σ H _ I h) fun us s1 ⟨vs, H1, I1, r, q⟩ => ⟨I1.kIn, ?_⟩) he hpl
  exact run_fn F hr hb hd hx I1 r q
theorem pe_meth {pl : Sem Bool} (he : PE X o ta) (c : Cls X.K C) (hm : Meth X.K C m f) (F : FnOk X.prog X.w X.K X.mg X.base CX k f fd ps sp) (hr : Room k X.A) (hb : Binds X.K fd ps ds) (hd : Vals dvs ds) (hx : Passes CX X E) (ha : PA X (e :: es) t)
    (hst : starEach (e :: es) X.env = (false, eval e X.env) :: starEach es X.env := by rfl) (hpl : (backTo pos (starEach es X.env)).any (·.1) = false := by rfl)
    (ht : eval (.Call (.Attribute o m apos) (e :: es) [] pos) X.env = (do
      let ov ← eval o X.env
      standAt apos.atName
      let (f, first) ← holding [ov] (getMethod ov m pl)
      callWith pos f first (backTo pos (starEach (e :: es) X.env)) (backToKw pos (keywordEach [] X.env))) := by rfl) :
    PE X (.Call (.Attribute o m apos) (e :: es) [] pos) (tMeth C m sp dvs E ta t) := by
  intro pins s σ H Q I h
  refine PySem.W.methodCall_KW (pl := pl) (thn (he pins s σ H _ I h) fun u s1 ⟨x, H1, I1, rx, a, dx, fs, ex, ea, l, q⟩ => ?_) ht
  subst ex
  obtain rfl : u = Value.ref a := rx
  refine getmeth_ok I1 ea c hm l ?_
  refine PySem.W.callWith_K (first := [.ref a]) (h₀ := X.base) I.ok.mod.kin hm.kp (thn (ha pos pins s1 σ H1 _ I1 q) fun us s2 ⟨vs, H2, I2, r, q2⟩ => ⟨I2.kIn, ?_⟩) hst hpl
  exact run_fn (us := .ref a :: us) (vs := .ref a :: vs) F hr hb hd hx I2 (.cons rfl r) q2
theorem pe_meth0 {pl : Sem Bool} (he : PE X o ta) (c : Cls X.K C) (hm : Meth X.K C m f) (F : FnOk X.prog X.w X.K X.mg X.base CX k f fd ps sp) (hr : Room k X.A) (hb : Binds X.K fd ps ds) (hd : Vals dvs ds) (hx : Passes CX X E)
    (ht : eval (.Call (.Attribute o m apos) [] [] pos) X.env = (do
      let ov ← eval o X.env
      standAt apos.atName
      let (f, first) ← holding [ov] (getMethod ov m pl)
      callWith pos f first (backTo pos (starEach [] X.env)) (backToKw pos (keywordEach [] X.env))) := by rfl) :
    PE X (.Call (.Attribute o m apos) [] [] pos) (tMeth C m sp dvs E ta tNil) := by
  intro pins s σ H Q I h
  refine PySem.W.methodCall_KW (pl := pl) (thn (he pins s σ H _ I h) fun u s1 ⟨x, H1, I1, rx, a, dx, fs, ex, ea, l, q⟩ => ?_) ht
  subst ex
  obtain rfl : u = Value.ref a := rx
  refine getmeth_ok I1 ea c hm l ?_
  exact PySem.W.callWith_K0 (first := [.ref a]) I1.kIn hm.kp (run_fn (us := [.ref a]) (vs := [.ref a]) F hr hb hd hx I1 (.cons rfl .nil) q)
structure Mk (K : PySem.W.Frag) (C f : Addr) : Prop where
  makes : PySem.W.makesIn K C = true
  init : PySem.W.findIn K (.ref C) "__init__" = some (some (.ref f))
  fn : PySem.W.isFn K (.ref f) = true
  kp : PySem.W.keepIn K (.ref C) = true
theorem run_make {pins : List (Addr × Obj)} {σ : St} {H : Hp} {s : Shared} {Q : VK} {us : List Value} {vs : List V} (M : Mk X.K C f) (F : FnOk X.prog X.w X.K X.mg X.base CX k f fd ps sp) (hr : Room (k + 1) X.A) (hb : Binds X.K fd ps ds) (hd : Vals dvs ds)
    (hx : Passes CX X E) (I : Inv X pins σ H s) (r : Vals vs us)
    (h : ∀ x dx, H x = none → H dx = none → dx ≠ x → sp (.ref x :: (vs ++ dvs)) (upd (upd H dx (.own x)) x (.ins C dx [])) (fun v H2 => v = .non ∧ Q (.ref x) H2) E) :
    wpAny (model X.prog X.w) X.A (call (.ref C) us) (EP X pins σ Q) X.xe s := by
  have hq := h (s.heap.objs.size + 1) s.heap.objs.size (I.hok.fresh (Nat.le_succ _)) (I.hok.fresh (Nat.le_refl _)) (Nat.ne_of_lt (Nat.lt_succ_self _))
  have I2 := Inv.made (C := C) I
  have r2 : Vals (V.ref (s.heap.objs.size + 1) :: (vs ++ dvs)) (Value.ref (s.heap.objs.size + 1) :: (us ++ ds)) := .cons rfl (r.append hd)
  have hl : (Value.ref (s.heap.objs.size + 1) :: us ++ ds).length = ps.length := by
    have e := r2.length
    rw [F.len _ _ _ _ hq] at e
    exact e.symm
  refine wpAny_call (make_map (f := f) I.kIn M.makes M.init (beq_iff_eq.mp M.fn) (codeAny_mono (F.run _ X.stack _ _ ⟨Value.ref (s.heap.objs.size + 1) :: us, []⟩ (Value.ref (s.heap.objs.size + 1) :: (us ++ ds)) _ _ E (hr.make C us [])
    (I2.env0.make C us []) (hb _ (Value.ref (s.heap.objs.size + 1) :: us) I2.kIn hl) r2 hq) fun r s' hq' => ?_))
  cases r with
  | error e => exact hx pins σ _ _ e s' I2 hq'
  | ok fl =>
    cases fl with
    | ret u =>
      obtain ⟨v, H', I3, rv, ev, q3⟩ := I2.after hq'
      subst ev
      exact ⟨rv, ⟨V.ref (s.heap.objs.size + 1), H', I3, rfl, q3⟩⟩
    | next => exact False.elim hq'
    | brk => exact False.elim hq'
    | cont => exact False.elim hq'
theorem pe_make (M : Mk X.K C f) (F : FnOk X.prog X.w X.K X.mg X.base CX k f fd ps sp) (hr : Room (k + 1) X.A) (hg : Gl X x) (hm : X.mg x = some (.ref C)) (hb : Binds X.K fd ps ds) (hd : Vals dvs ds) (hx : Passes CX X E)
    (ha : PA X (e :: es) t) (hdb : (x == ("__debug__" : Str)) = false := by decide) (he : starEach (e :: es) X.env = (false, eval e X.env) :: starEach es X.env := by rfl) (hpl : (backTo pos (starEach es X.env)).any (·.1) = false := by rfl) :
    PE X (.Call (.Name x p) (e :: es) [] pos) (tMake C sp dvs E t) := by
  intro pins s σ H Q I h
  refine wpAny_Call_Name_kw (ld_glob I hg hm ?_ hdb)
  refine PySem.W.callWith_K (h₀ := X.base) I.ok.mod.kin M.kp (thn (ha pos pins s σ H _ I h) fun us s1 ⟨vs, H1, I1, r, q⟩ => ⟨I1.kIn, ?_⟩) he hpl
  exact run_make M F hr hb hd hx I1 r q
theorem pe_make0 (M : Mk X.K C f) (F : FnOk X.prog X.w X.K X.mg X.base CX k f fd ps sp) (hr : Room (k + 1) X.A) (hg : Gl X x) (hm : X.mg x = some (.ref C)) (hb : Binds X.K fd ps ds) (hd : Vals dvs ds) (hx : Passes CX X E)
    (hdb : (x == ("__debug__" : Str)) = false := by decide) : PE X (.Call (.Name x p) [] [] pos) (tMake C sp dvs E tNil) := by
  intro pins s σ H Q I h
  refine wpAny_Call_Name_kw (ld_glob I hg hm ?_ hdb)
  exact PySem.W.callWith_K0 I.kIn M.kp (run_make (us := []) M F hr hb hd hx I .nil h)
end
def PK (X : Cx) (kws : List Keyword) (t : TA) : Prop :=
  ∀ (pos : Pos) (pins : List (Addr × Obj)) (s : Shared) (σ : St) (H : Hp) (Q : List V → Hp → Prop), Inv X pins σ H s → t σ H Q → wpAny (model X.prog X.w) X.A (evalAll ((backToKw pos (keywordEach kws X.env)).map (·.2))) (AP X pins σ Q) X.xe s
section
variable {X : Cx} {CX : CXT} {k : Nat} {f C : Addr} {fd : FuncData} {ps ks : List Str} {sp : Sp} {E : XK} {x m : Str} {p pos apos kpos : Pos} {e o : Expr} {es : List Expr} {kws : List Keyword} {te ta : TE} {t tk : TA} {nm : Option Str}
theorem pk_nil : PK X [] tNil := fun _ _ _ _ H Q I h => wpAny_evalAll_nil ⟨[], H, I, .nil, h⟩
theorem pk_cons (ha : PE X e te) (hr : PK X kws t) : PK X (⟨nm, e, kpos⟩ :: kws) (tCons te t) := by
  intro pos pins s σ H Q I h
  show wpAny _ _ (evalAll ((do let v ← eval e X.env; standAt pos; pure v) :: (backToKw pos (keywordEach kws X.env)).map (·.2))) _ _ s
  refine wpAny_evalAll_cons (wpAny_bind (thn (ha pins s σ H _ I h) fun u s1 ⟨x, H1, I1, r1, q1⟩ => wpAny_bind (wpAny_standAt (wpAny_pure ?_))))
  exact thn (hr pos pins s1 σ H1 _ I1 q1) fun us s2 ⟨xs, H2, I2, r2, q2⟩ => ⟨x :: xs, H2, I2, .cons r1 r2, q2⟩
variable {g : List Value → List Value → List Value} {gV : List V → List V → List V}
end
structure FnScope (N P : List Str) (sc : Scope) : Prop where
  kind : sc.kind = .function
  co : sc.isCoroutine = false
  gen : sc.isGenerator = false
  nd : N.Nodup
  pre : N.take P.length = P
  par : ∀ x ∈ P, sc.names.lookup x = some .local ∨ sc.names.lookup x = some .cell
  nofree : ∀ y ∈ sc.names, y.2 ≠ .free
theorem bindL_out {kindOf : Str → Option NameKind} {x : Str} : ∀ {binds : List (Str × Value)} {m : Str → Option Value}, (∀ v, (x, v) ∉ binds) → bindL kindOf binds m x = m x
  | [], _, _ => rfl
  | (n, v) :: r, m, h => by
    unfold bindL
    rw [bindL_out fun w hw => h w (List.mem_cons_of_mem _ hw)]
    split
    · have : x ≠ n := by rintro rfl; exact h v List.mem_cons_self
      simp [this]
    · rfl
theorem bindC_out {kindOf : Str → Option NameKind} {x : Str} : ∀ {binds : List (Str × Value)} {m : Str → Option Value}, (∀ v, (x, v) ∉ binds) → bindC kindOf binds m x = m x
  | [], _, _ => rfl
  | (n, v) :: r, m, h => by
    unfold bindC
    rw [bindC_out fun w hw => h w (List.mem_cons_of_mem _ hw)]
    split
    · rfl
    · have : x ≠ n := by rintro rfl; exact h v List.mem_cons_self
      simp [this]
theorem bindL_get {kindOf : Str → Option NameKind} {x : Str} {v : Value} : ∀ {P : List Str} {vs : List Value} {i : Nat} {m : Str → Option Value}, P.Nodup → P[i]? = some x → vs[i]? = some v → kindOf x = some .local →
    bindL kindOf (P.zip vs) m x = some v
  | [], _, _, _, _, h, _, _ => by simp at h
  | _ :: _, [], _, _, _, _, h, _ => by simp at h
  | p :: P, w :: vs, 0, m, nd, h1, h2, hk => by
    simp at h1 h2; subst h1; subst h2
    show bindL kindOf ((p, w) :: P.zip vs) m p = _
    unfold bindL
    rw [bindL_out fun v hv => (List.nodup_cons.mp nd).1 (List.of_mem_zip hv).1, if_pos hk]
    simp
  | p :: P, w :: vs, i + 1, m, nd, h1, h2, hk => by
    show bindL kindOf ((p, w) :: P.zip vs) m x = _
    unfold bindL
    exact bindL_get (i := i) (List.nodup_cons.mp nd).2 (by simpa using h1) (by simpa using h2) hk
theorem bindC_get {kindOf : Str → Option NameKind} {x : Str} {v : Value} : ∀ {P : List Str} {vs : List Value} {i : Nat} {m : Str → Option Value}, P.Nodup → P[i]? = some x → vs[i]? = some v → kindOf x ≠ some .local →
    bindC kindOf (P.zip vs) m x = some v
  | [], _, _, _, _, h, _, _ => by simp at h
  | _ :: _, [], _, _, _, _, h, _ => by simp at h
  | p :: P, w :: vs, 0, m, nd, h1, h2, hk => by
    simp at h1 h2; subst h1; subst h2
    show bindC kindOf ((p, w) :: P.zip vs) m p = _
    unfold bindC
    rw [bindC_out fun v hv => (List.nodup_cons.mp nd).1 (List.of_mem_zip hv).1, if_neg hk]
    simp
  | p :: P, w :: vs, i + 1, m, nd, h1, h2, hk => by
    show bindC kindOf ((p, w) :: P.zip vs) m x = _
    unfold bindC
    exact bindC_get (i := i) (List.nodup_cons.mp nd).2 (by simpa using h1) (by simpa using h2) hk
def start (N : List Str) (vs : List V) : St := vs.map some ++ List.replicate (N.length - vs.length) none
def cxOf (CX : CXT) (P : Program) (w : World) (K : PySem.W.Frag) (mg : Str → Option Value) (base : Heap) (N : List Str) (qual : Str) (scope : Scope) (f : Addr) (cd : Value) (A : Around) (outer : List Env) (s : Shared) (H : Hp) (E : XK) : Cx where
  prog := P
  w := w
  K := K
  mg := mg
  base := base
  A := A.deeper (envOfC qual scope s.heap.objs.size f cd)
  N := N
  s_0 := s
  H_0 := H
  env := envOfC qual scope s.heap.objs.size f cd
  outer := outer
  stack := envOfC qual scope s.heap.objs.size f cd :: outer
  ex := []
  calm := true
  fn := fun _ => true
  pn := []
  xe := fun e s' => wpAny (model P w) (A.deeper (envOfC qual scope s.heap.objs.size f cd)) (leaving (envOfC qual scope s.heap.objs.size f cd) e) (fun _ s'' => CX outer H s E e s'') (fun e' s'' => CX outer H s E e' s'') s'
theorem cell_has {sc : Scope} {n : Nat} {x : Str} (h : sc.names.lookup x = some .cell) : ∃ c, (cellsFrom n sc.names []).lookup x = some c := by
  have q := PySem.W.cellsFrom_some sc.names n [] (.inl h)
  exact Option.isSome_iff_exists.mp q
theorem inv_start {CX : CXT} {P : Program} {w : World} {K : PySem.W.Frag} {mg : Str → Option Value} {base : Heap} {N ps : List Str} {qual : Str} {scope : Scope} {f : Addr} {cd : Value} {A : Around} {outer : List Env} {s s1 : Shared} {H : Hp} {E : XK} {us : List Value} {vs : List V}
    (S : FnScope N ps scope) (hd : A.handled = none) (e0 : Env0 P w K mg base A outer s H) (hl : vs.length = ps.length) (r : Vals vs us)
    (x : InCallC s s.heap.objs.size (bindL (envOfC qual scope s.heap.objs.size f cd).kindOf (ps.zip us) fun _ => none) (cellsFrom (s.heap.objs.size + 1) scope.names []) (bindC (envOfC qual scope s.heap.objs.size f cd).kindOf (ps.zip us) fun _ => none) s1) :
    Inv (cxOf CX P w K mg base N qual scope f cd A outer s H E) [] (start N vs) H s1 := by
  have hpl : ps.length ≤ N.length := by have := congrArg List.length S.pre; rw [List.length_take] at this; omega
  obtain ⟨h1, tk, rfl, hk⟩ := x.done
  have noA : ∀ b : Addr, b ∉ (cxOf CX P w K mg base N qual scope f cd A outer s H E).ex := fun b z => absurd (show b ∈ ([] : List Addr) from z) (by simp)
  refine ⟨⟨e0.mod, S.kind, rfl, rfl, Nat.le_refl _, fun y z c h1 h2 => ?_, fun y hy => ?_, fun y c _ h => ?_, fun _ => hd, Around.frames_deeper e0.frames, .inr ⟨rfl, rfl⟩, fun b z => absurd z (noA b), e0.bs, e0.bsz, fun b _ _ => noA b, fun b z => absurd z (noA b), e0.funs, e0.frf⟩,
    rfl, e0.bare, Un.kept hk, ⟨_, x.toInCall.ns, fun i y v h1 h2 h3 => ?_⟩, fun y c h => ⟨_, x.cell y c h⟩, e0.hok.fresh (Nat.le_refl _), fun y c h => ?_, fun p hp => absurd (show p ∈ ([] : List (Addr × Obj)) from hp) (by simp), e0.hok.kept hk, ?_⟩
  · exact name_of_addr x.apart (PySem.mem_of_lookup h1) (PySem.mem_of_lookup h2)
  · have hy : scope.names.lookup y = some .cell ∨ scope.names.lookup y = some .free := hy
    rcases hy with hy | hy
    · exact cell_has hy
    · exact absurd rfl (S.nofree _ (PySem.mem_of_lookup hy))
  · exact Nat.le_of_lt (x.above y c (PySem.mem_of_lookup h))
  · have hi : i < vs.length := by
      unfold start at h2
      by_cases hi : i < vs.length
      · exact hi
      · rw [List.getElem?_append_right (by simpa using hi)] at h2
        rw [List.getElem?_replicate] at h2
        split at h2 <;> cases h2
    have ha : vs[i]? = some v := by
      unfold start at h2
      rw [List.getElem?_append_left (by simpa using hi), List.getElem?_map] at h2
      cases e : vs[i]? with
      | none => rw [e] at h2; cases h2
      | some a => rw [e] at h2; cases h2; rfl
    obtain ⟨u, hu, rv⟩ := r.get ha
    have hp : ps[i]? = some y := by
      rw [← S.pre, List.getElem?_take_of_lt (by omega)]; exact h1
    have ndP : ps.Nodup := by rw [← S.pre]; exact S.nd.sublist (List.take_sublist _ _)
    refine ⟨u, rv, ?_⟩
    rcases S.par y (List.mem_of_getElem? hp) with k | k
    · exact .inl ⟨k, bindL_get ndP hp hu k⟩
    · obtain ⟨c, e⟩ := cell_has (n := s.heap.objs.size + 1) k
      refine .inr ⟨.inl k, c, e, ?_⟩
      have q := x.cell y c e
      rw [bindC_get ndP hp hu (by show scope.names.lookup y ≠ _; rw [k]; decide)] at q
      exact q
  · exact e0.hok.fresh (Nat.le_of_lt (x.above y c (PySem.mem_of_lookup h)))
  · unfold start
    show _ = N.length
    rw [List.length_append, List.length_map, List.length_replicate]
    omega
theorem fn_of {CX : CXT} {P : Program} {w : World} {K : PySem.W.Frag} {mg : Str → Option Value} {base : Heap} {k : Nat} {f : Addr} {name qual : Str} {params : Arguments} {body : List Stmt} {scope : Scope} {dV kV doc pm cdv ct oc : Value} {an od : Option Addr}
    {osl : Array (Option Value)} {N ps : List Str} {sp : Sp} (lk : K.lookup f = some ⟨oc, od, .func (PySem.W.fnOf name qual params body scope dV kV doc pm an cdv ct), osl⟩) (hcd : PySem.W.codeIn K cdv qual = true) (S : FnScope N ps scope)
    (len : ∀ vs H Q E, sp vs H Q E → vs.length = ps.length)
    (hbody : ∀ (A : Around) (outer : List Env) (s : Shared) (H : Hp) (vs : List V) (Q : VK) (E : XK), Room k (A.deeper (envOfC qual scope s.heap.objs.size f cdv)) → sp vs H Q E →
      ∃ t, PSs (cxOf CX P w K mg base N qual scope f cdv A outer s H E) body t ∧ t { nx := fun _ H' => Q .non H', rt := Q } (start N vs) H) :
    FnOk P w K mg base CX (k + 1) f (PySem.W.fnOf name qual params body scope dV kV doc pm an cdv ct) ps sp := by
  refine ⟨len, fun A outer s H args us vs Q E hr e0 hb r hsp => ?_⟩
  have hl := len _ _ _ _ hsp
  have KX : K.In s.heap := e0.mod.kin.keeps fun b o e => (e0.bs b o e).1
  have lim : s.heap.NoLimit := e0.mod.nolimit.keeps fun b o e => (e0.bs b o e).1
  have hkind : ∀ y ∈ ps.zip us, scope.names.lookup y.1 = some .local ∨ (scope.names.lookup y.1 = some .cell ∧ ((cellsFrom (s.heap.objs.size + 1) scope.names []).lookup y.1).isSome = true) := fun ⟨n, v⟩ hy => by
    rcases S.par n (List.of_mem_zip hy).1 with q | q
    · exact .inl q
    · exact .inr ⟨q, PySem.W.cellsFrom_some _ _ _ (.inl q)⟩
  refine codeAny_call_function hr.depth (KX _ _ lk) rfl S.co S.gen rfl (PySem.W.codeRec_of KX hcd) (hb _ _ _ _ ?_)
  refine wpAny_newFunctionEnv_cells S.kind hkind fun env he s1 x => ?_
  subst he
  refine ⟨lim.keeps x.toInCall.keep, codeAny_func ?_⟩
  obtain ⟨t, ht, hq⟩ := hbody A outer s H vs Q E (hr.deeper _) hsp
  have I : Inv (cxOf CX P w K mg base N qual scope f cdv A outer s H E) [] (start N vs) H s1 := inv_start S hr.hd e0 hl r x
  refine wpAny_mono (ht [] s1 (start N vs) H _ I hq) (fun fl s' hs => ?_) fun e s' hs => hs
  have fin : ∀ {σ' : St} {H' : Hp} {v : V} {u : Value}, Inv (cxOf CX P w K mg base N qual scope f cdv A outer s H E) [] σ' H' s' → RelV v u → Q v H' → CE outer P w H s Q u s' :=
    fun {σ' H' v u} J rv q => ⟨v, H', J.os, J.bare, J.base, J.hok, rv, q⟩
  cases fl with
  | ret u =>
    obtain ⟨v, σ', H', J, rv, q⟩ := hs
    exact fin J rv q
  | next =>
    obtain ⟨σ', H', J, q⟩ := hs
    exact fin (v := V.non) (u := Value.none) J rfl q
  | brk =>
    obtain ⟨_, _, _, q⟩ := hs
    exact False.elim q
  | cont =>
    obtain ⟨_, _, _, q⟩ := hs
    exact False.elim q
end L2
namespace L2
open PySem PySem.Spec PyProof.Rows
section
variable {X : Cx} {x : Str} {p pos : Pos} {e : Expr} {es : List Expr} {t : TA} {id T : String} {r : List V → Hp → VK → Prop}
def tCB (r : List V → Hp → VK → Prop) (t : TA) : TE := fun σ H Q => t σ H fun vs H1 => r vs H1 Q
theorem pe_callB (hc : CallR X (.builtin id) r) (hg : Gl X x) (hm : X.mg x = none) (hv : bootBuiltins x = some (.builtin id)) (ha : PA X (e :: es) t) (hn : x ≠ "__name__" := by decide) (hdb : (x == ("__debug__" : Str)) = false := by decide)
    (he : starEach (e :: es) X.env = (false, eval e X.env) :: starEach es X.env := by rfl) (hpl : (backTo pos (starEach es X.env)).any (·.1) = false := by rfl) : PE X (.Call (.Name x p) (e :: es) [] pos) (tCB r t) := by
  intro pins s σ H Q I h
  refine wpAny_Call_Name_kw (ld_blt I hg hm hv ?_ hn hdb)
  exact PyProof.Rows.callWith_builtin1 (thn (ha pos pins s σ H _ I h) fun us s1 ⟨vs, H1, I1, r1, q1⟩ => hc pins s1 σ H1 vs us Q I1 r1 q1) he hpl
end
end L2
namespace HT
open PySem PyProof.Rows
section
open PySem.SeqAt
open PySem.AutoSeq1 (wpAny_loadPart')
open PySem.MeetsSeq PySem.MeetsSeq2 PySem.MeetsSeq3
end
section
variable {prog : Program} {w : World} {A : Around} {E : Value → Shared → Prop} {s : Shared}
def sIx (n d : Nat) : Option Int → Nat
  | none => d
  | some v => if v < 0 then (v + (n : Int)).toNat else min v.toNat n
theorem sIx_nat (n d k : Nat) : sIx n d (some (k : Int)) = min k n := by
  show (if (k : Int) < 0 then ((k : Int) + (n : Int)).toNat else min (k : Int).toNat n) = min k n
  rw [if_neg (by omega), Int.toNat_natCast]
end
end HT
namespace L2
open PySem PySem.Spec PyProof.Rows
abbrev TO := St → Hp → (Option Int → Hp → Prop) → Prop
def PO (X : Cx) (e : Option Expr) (t : TO) : Prop :=
  ∀ (pins : List (Addr × Obj)) (s : Shared) (σ : St) (H : Hp) (Q : Option Int → Hp → Prop), Inv X pins σ H s → t σ H Q →
    wpAny (model X.prog X.w) X.A (evalPart e X.env) (fun u s' => ∃ o H', Inv X pins σ H' s' ∧ IsPart u o ∧ Q o H') X.xe s
def tPart (t : TE) : TO := fun σ H Q => t σ H fun x H1 => ∃ i, x = .int i ∧ Q (some i) H1
theorem intsAre_of {ns : List Int} : ∀ {us : List Value}, Vals (ns.map V.int) us → IntsAre us ns := by
  induction ns with
  | nil => intro us r; rw [List.map_nil] at r; cases r; exact .nil
  | cons n ns ih =>
    intro us r
    rw [List.map_cons] at r
    cases r with
    | cons r1 r2 =>
      obtain ⟨t, e⟩ := r1
      subst e
      exact .cons n t (ih r2)
section
variable {X : Cx} {e : Expr} {te : TE} {lo hi : Option Expr} {tl th : TO} {pos p2 : Pos}
theorem po_some (h : PE X e te) : PO X (some e) (tPart te) := by
  intro pins s σ H Q I hw
  rw [evalPart_some]
  refine thn (h pins s σ H _ I hw) fun u s1 ⟨x, H1, I1, r1, q1⟩ => ?_
  obtain ⟨i, rfl, q⟩ := q1
  obtain ⟨t, rfl⟩ := r1
  exact ⟨some i, H1, I1, .int i t, q⟩
def SlR (X : Cx) (r : V → Option Int → Option Int → Hp → VK → Prop) : Prop :=
  ∀ (pins : List (Addr × Obj)) (s : Shared) (σ : St) (H : Hp) (x : V) (v vl vu : Value) (lo hi : Option Int) (sl : Addr) (Q : VK), Inv X pins σ H s → RelV x v → s.heap.IsSliceOf sl vl vu .none → IsPart vl lo → IsPart vu hi → r x lo hi H Q →
    ∃ T id, typeLookup (.type T) "__getitem__" = pure (some (.builtin id)) ∧ s.TypeIs v T ∧ wpAny (model X.prog X.w) X.A (getItem v (.ref sl)) (EP X pins σ Q) X.xe s
def tSl (r : V → Option Int → Option Int → Hp → VK → Prop) (te : TE) (tl th : TO) : TE := fun σ H Q => te σ H fun x H1 => tl σ H1 fun l H2 => th σ H2 fun u H3 => r x l u H3 Q
theorem pe_slice {r : V → Option Int → Option Int → Hp → VK → Prop} (hr : SlR X r) (he : PE X e te) (hl : PO X lo tl) (hu : PO X hi th) : PE X (.Subscript e (.Slice lo hi none p2) pos) (tSl r te tl th) := by
  intro pins s σ H Q I h
  refine Subscript_ (thn (he pins s σ H _ I h) fun v s1 ⟨x, H1, I1, r1, q1⟩ => ?_)
  refine wpAny_Slice (thn (hl pins s1 σ H1 _ I1 q1) fun vl s2 ⟨l, H2, I2, pl, q2⟩ => thn (hu pins s2 σ H2 _ I2 q2) fun vu s3 ⟨u, H3, I3, pu, q3⟩ => ?_)
  rw [evalPart_none]
  refine wpAny_pure ?_
  have I4 : Inv X pins σ H3 { s3 with heap := s3.heap.push { cls := .type "slice", data := .fields #[vl, vu, .none] } } := I3.kept (t' := s3.toks) fun b ob q => Heap.get?_push_of_some _ q
  obtain ⟨T, id, hT, ht, hg⟩ := hr pins { s3 with heap := s3.heap.push { cls := .type "slice", data := .fields #[vl, vu, .none] } } σ H3 x v vl vu l u s3.heap.objs.size Q I4 r1 (Heap.IsSliceOf.new ..) pl pu q3
  show wpAny (model X.prog X.w) X.A (subscriptTail e (.Slice lo hi none p2) v (.ref s3.heap.objs.size)) (EP X pins σ Q) X.xe { s3 with heap := s3.heap.push { cls := .type "slice", data := .fields #[vl, vu, .none] } }
  exact tail_any (ops := [.ref s3.heap.objs.size, v]) ht hT hg (by with_unfolding_all rfl)
def cutV (xs : List V) (lo hi : Option Int) : List V := (xs.drop (HT.sIx xs.length 0 lo)).take (HT.sIx xs.length xs.length hi - HT.sIx xs.length 0 lo)
theorem cutV_length (xs : List V) (lo hi : Option Int) : (cutV xs lo hi).length ≤ xs.length := by
  unfold cutV
  rw [List.length_take, List.length_drop]
  omega
end
end L2
namespace L2
open PySem PySem.Spec PyProof.Rows
def ixN (n : Nat) (i : Int) : Option Nat := if 0 ≤ i then (if i < n then some i.toNat else none) else if -(n : Int) ≤ i then some (i + n).toNat else none
def atI {α : Type} (xs : List α) (i : Int) : Option α := (ixN xs.length i).bind fun j => xs[j]?
theorem ixN_seq {n : Nat} {i : Int} {j : Nat} (h : ixN n i = some j) : seqIndex? i n = some j ∧ j < n ∧ -(n : Int) ≤ i ∧ i < n := by
  unfold ixN at h
  by_cases h0 : 0 ≤ i
  · rw [if_pos h0] at h
    by_cases h1 : i < n
    · rw [if_pos h1] at h
      have e : i.toNat = j := Option.some.inj h
      exact ⟨by rw [seqIndex_of h0 h1, e], by omega, by omega, h1⟩
    · rw [if_neg h1] at h; cases h
  · rw [if_neg h0] at h
    by_cases h1 : -(n : Int) ≤ i
    · rw [if_pos h1] at h
      have e : (i + n).toNat = j := Option.some.inj h
      exact ⟨by rw [seqIndex_neg (by omega) h1, e], by omega, h1, by omega⟩
    · rw [if_neg h1] at h; cases h
theorem atI_get {α : Type} {xs : List α} {i : Int} {v : α} (h : atI xs i = some v) : ∃ j, seqIndex? i xs.length = some j ∧ xs[j]? = some v ∧ j < xs.length ∧ -(xs.length : Int) ≤ i ∧ i < xs.length := by
  unfold atI at h
  cases e : ixN xs.length i with
  | none => rw [e] at h; cases h
  | some j =>
    rw [e] at h
    obtain ⟨h1, h2, h3, h4⟩ := ixN_seq e
    exact ⟨j, h1, h, h2, h3, h4⟩
theorem atI_nat {α : Type} {xs : List α} {j : Nat} {v : α} (h : xs[j]? = some v) : atI xs (j : Int) = some v := by
  have hj : j < xs.length := (List.getElem?_eq_some_iff.mp h).1
  have e : ixN xs.length (j : Int) = some j := by
    unfold ixN
    rw [if_pos (by omega), if_pos (by omega)]; simp
  unfold atI; rw [e]; exact h
def PlainIx (b : Expr) : Prop := ∀ o i, subscripted b false o i = operate [o, i] (getItem o i)
def IxR (X : Cx) (r : R2) : Prop :=
  ∀ (value slice : Expr) (pins : List (Addr × Obj)) (s : Shared) (σ : St) (H : Hp) (x y : V) (v u : Value) (Q : VK), Inv X pins σ H s → RelV x v → RelV y u → r x y H Q →
    subscripted slice false v u = operate [v, u] (getItem v u) → wpAny (model X.prog X.w) X.A (subscriptTail value slice v u) (EP X pins σ Q) X.xe s
def MtR (X : Cx) (id : String) (r : V → List V → Hp → VK → Prop) : Prop :=
  ∀ (pins : List (Addr × Obj)) (s : Shared) (σ : St) (H : Hp) (x : V) (xs : List V) (v : Value) (us : List Value) (Q : VK), Inv X pins σ H s → RelV x v → Vals xs us → r x xs H Q →
    wpAny (model X.prog X.w) X.A (call (.builtin id) (v :: us)) (EP X pins σ Q) X.xe s
section
variable {X : Cx} {a b : Expr} {ta tb : TE} {pos : Pos}
theorem pe_ix {r : R2} (hr : IxR X r) (ha : PE X a ta) (hb : PE X b tb) (hs : PlainIx b) : PE X (.Subscript a b pos) (tOp r ta tb) := by
  intro pins s σ H Q I h
  exact Subscript_ (binT ha hb I h fun v u s2 x y H2 I2 rx ry q => hr a b pins s2 σ H2 x y v u Q I2 rx ry q (hs _ _))
def rIxL (K : PySem.W.Frag) : R2 := fun x y H Q => ∃ p xs i v, x = .ref p ∧ y = .int i ∧ SqL K H p xs ∧ atI xs i = some v ∧ Q v H
def rIxT (K : PySem.W.Frag) : R2 := fun x y H Q => ∃ p xs i v, x = .ref p ∧ y = .int i ∧ SqT K H p xs ∧ atI xs i = some v ∧ Q v H
theorem ix_list : IxR X (rIxL X.K) := by
  intro value slice pins s σ H x y v u Q I rx ry h hs
  obtain ⟨p, xs, i, z, rfl, rfl, hq, he, q⟩ := h
  cases rx
  obtain ⟨t, rfl⟩ := ry
  obtain ⟨its, r, pl, hz⟩ := I.list hq
  obtain ⟨j, h1, h2, h3, h4, h5⟩ := atI_get he
  obtain ⟨w, ew, rw'⟩ := r.get h2
  have hl := r.length
  have hn := line63
  have fin : EP X pins σ Q w s := ⟨z, H, I, rw', q⟩
  by_cases h0 : 0 ≤ i
  · have hj : i.toNat = j := by
      rw [seqIndex_of h0 h5] at h1
      exact Option.some.inj h1
    exact item_listR pl.isList h0 (by omega) (by rw [hj]; simpa using ew) fin hs
  · have hj : (i + (its.toArray.size : Int)).toNat = j := by
      rw [seqIndex_neg (by omega) h4] at h1
      rw [List.size_toArray, ← hl]
      exact Option.some.inj h1
    exact subscriptTail_builtinR (x := w) pl.isList.typeIs slot_list_getitem.lookup
      (wpAny_getItem_list_neg (Q := fun r s' => r = w ∧ EP X pins σ Q r s') pl.isList (by omega) (by rw [List.size_toArray] <;> omega) (by omega) (by rw [hj]; simpa using ew) ⟨rfl, fin⟩) hs
theorem ix_tup : IxR X (rIxT X.K) := by
  intro value slice pins s σ H x y v u Q I rx ry h hs
  obtain ⟨p, xs, i, z, rfl, rfl, hq, he, q⟩ := h
  cases rx
  obtain ⟨t, rfl⟩ := ry
  obtain ⟨its, r, pl, hz⟩ := I.tuple hq
  obtain ⟨j, h1, h2, h3, h4, h5⟩ := atI_get he
  obtain ⟨w, ew, rw'⟩ := r.get h2
  have hl := r.length
  have hn := line63
  have fin : EP X pins σ Q w s := ⟨z, H, I, rw', q⟩
  exact subscriptTail_builtinR (x := w) pl.typeIs slot_tuple_getitem.lookup
    (getItem_tuple (j := j) (Q := fun r s' => r = w ∧ EP X pins σ Q r s') pl (by omega) (by omega) (by rw [List.size_toArray, ← hl]; exact h1) (by simpa using ew) ⟨rfl, fin⟩) hs
theorem slice_bounds (lo hi : Option Int) (n : Nat) : (sliceBounds lo hi none n).1 = ((HT.sIx n 0 lo : Nat) : Int) ∧ (sliceBounds lo hi none n).2.1 = ((HT.sIx n n hi : Nat) : Int) ∧ (sliceBounds lo hi none n).2.2 = 1 := by
  refine ⟨?_, ?_, rfl⟩
  · cases lo with
    | none => simp [sliceBounds, HT.sIx]
    | some i =>
      simp only [sliceBounds, HT.sIx, Option.getD_none, show (1 : Int) > 0 by decide, if_true]
      by_cases h : i < 0
      · simp only [h, if_true] <;> omega
      · simp only [h, if_false] <;> omega
  · cases hi with
    | none => simp [sliceBounds, HT.sIx]
    | some i =>
      simp only [sliceBounds, HT.sIx, Option.getD_none, show (1 : Int) > 0 by decide, if_true]
      by_cases h : i < 0
      · simp only [h, if_true] <;> omega
      · simp only [h, if_false] <;> omega
theorem slicePick_cut (its : List Value) (lo hi : Option Int) : slicePick its.toArray lo hi none = ((its.drop (HT.sIx its.length 0 lo)).take (HT.sIx its.length its.length hi - HT.sIx its.length 0 lo)).toArray := by
  obtain ⟨h1, h2, h3⟩ := slice_bounds lo hi its.toArray.size
  unfold slicePick
  rw [h1, h2, h3]
  simp only [sliceRange_one, pick_run, List.size_toArray] <;> rfl
def rSlL (K : PySem.W.Frag) : V → Option Int → Option Int → Hp → VK → Prop := fun x lo hi H Q => ∃ a xs, x = .ref a ∧ SqL K H a xs ∧ ∀ p, H p = none → Q (.ref p) (upd H p (.lst (cutV xs lo hi)))
theorem sl_list : SlR X (rSlL X.K) := by
  intro pins s σ H x v vl vu lo hi sl Q I rx hs pl pu h
  obtain ⟨a, xs, rfl, hx, q⟩ := h
  cases rx
  obtain ⟨its, r, ht, hz⟩ := I.list hx
  have hlen := r.length
  refine ⟨"list", _, slot_list_getitem.lookup, ht.isList.typeIs, ?_⟩
  refine wpAny_getItem_list_slice ht.isList hs pl pu .none (by simp) ?_ (by rw [List.size_toArray] <;> omega)
  rw [slicePick_cut, ← hlen]
  refine ⟨.ref s.heap.objs.size, _, I.laid (t' := s.toks) (o := .lst (cutV xs lo hi)) (fun b ob q => Heap.get?_push_of_some _ q) (Nat.le_refl _) ?_, rfl, q _ (I.hok.fresh (Nat.le_refl _))⟩
  exact ⟨Nat.le_trans (cutV_length xs lo hi) hz, _, 0, (r.drop (HT.sIx xs.length 0 lo)).take (HT.sIx xs.length xs.length hi - HT.sIx xs.length 0 lo), Heap.get?_push_size _ rfl⟩
theorem call_len_seq : CallR X (.builtin "len") (fun xs H Q => ∃ p ys, xs = [.ref p] ∧ (SqL X.K H p ys ∨ SqT X.K H p ys) ∧ Q (.int ys.length) H) := by
  intro pins s σ H xs us Q I r h
  obtain ⟨p, ys, rfl, hq, q⟩ := h
  obtain ⟨u, rfl, rx⟩ := vals1 r
  cases rx
  have hn := line63
  rcases hq with hq | hq
  · obtain ⟨its, r', pl, hz⟩ := I.list hq
    have hlen := r'.length
    exact Calls.call_len_list pl.isList (by simp only [List.size_toArray] <;> omega) ⟨.int ys.length, H, I.tok _, ⟨s.toks + 1, by rw [List.size_toArray, hlen]⟩, q⟩
  · obtain ⟨its, r', pl, hz⟩ := I.tuple hq
    have hlen := r'.length
    exact len_tuple pl (by simp only [List.size_toArray] <;> omega) ⟨.int ys.length, H, I.tok _, ⟨s.toks + 1, by rw [List.size_toArray, hlen]⟩, q⟩
def tyV (K : PySem.W.Frag) (T : String) (x : V) (H : Hp) : Prop := match x with
  | .str _ => T = "str"
  | .int _ => T = "int"
  | .ref p => (T = "list" ∧ ∃ xs, SqL K H p xs) ∨ (T = "tuple" ∧ ∃ o, K.lookup p = some o ∧ o.cls = .type "tuple" ∧ o.dict = none) ∨
      (T = "dict" ∧ ((∃ kvs, H p = some (.dK kvs)) ∨ ∃ kvs, H p = some (.dT kvs))) ∨ (T = "set" ∧ ∃ S n, H p = some (.set S n))
  | _ => False
theorem tyV_is {pins : List (Addr × Obj)} {σ : St} {H : Hp} {s : Shared} {T : String} {x : V} {v : Value} (I : Inv X pins σ H s) (r : RelV x v) (ty : tyV X.K T x H) :
    s.TypeIs v T ∧ ∀ a, v = .ref a → ∃ ob, s.heap.get? a = some ob ∧ ob.dict = none := by
  cases x with
  | str z =>
    obtain ⟨t, rfl⟩ := r
    cases (show T = "str" from ty)
    exact ⟨typeIs_str s z t, fun _ e => nomatch e⟩
  | int i =>
    obtain ⟨t, rfl⟩ := r
    cases (show T = "int" from ty)
    exact ⟨typeIs_int s i t, fun _ e => nomatch e⟩
  | ref p =>
    cases r
    rcases ty with ⟨rfl, xs, hq⟩ | ⟨rfl, o, hk, hc, hd⟩ | ⟨rfl, hk⟩ | ⟨rfl, S, n, hk⟩
    · obtain ⟨its, _, pl, _⟩ := I.list hq
      refine ⟨pl.isList.typeIs, fun a e => ?_⟩
      cases e
      obtain ⟨o, n, e, c, hd, _⟩ := pl
      exact ⟨o, e, hd⟩
    · refine ⟨⟨o, I.kIn p o hk, hc⟩, fun a e => ?_⟩
      cases e
      exact ⟨o, I.kIn _ o hk, hd⟩
    · have z : ∃ o, s.heap.get? p = some o ∧ o.ExactDict := by
        rcases hk with ⟨kvs, hk⟩ | ⟨kvs, hk⟩
        · obtain ⟨_, _, _, _, o, _, _, e, ex, _⟩ := I.hok p _ hk
          exact ⟨o, e, ex⟩
        · obtain ⟨_, _, _, _, o, _, _, e, ex, _⟩ := I.hok p _ hk
          exact ⟨o, e, ex⟩
      obtain ⟨o, e, ex⟩ := z
      refine ⟨⟨o, e, ex.1⟩, fun a e2 => ?_⟩
      cases e2
      exact ⟨o, e, ex.2.1⟩
    · obtain ⟨o, _, _, _, e, ex, _⟩ := I.hok p _ hk
      refine ⟨⟨o, e, ex.1⟩, fun a e2 => ?_⟩
      cases e2
      exact ⟨o, e, ex.2.1⟩
  | _ => exact False.elim ty
def tBM (K : PySem.W.Frag) (T : String) (r : V → List V → Hp → VK → Prop) (to : TE) (t : TA) : TE := fun σ H Q => to σ H fun x H1 => tyV K T x H1 ∧ t σ H1 fun xs H2 => r x xs H2 Q
variable {o e : Expr} {es : List Expr} {to : TE} {t : TA} {name : Str} {apos cpos : Pos} {T id : String} {r : V → List V → Hp → VK → Prop}
theorem pe_bm (pa : PlainAttrs T) (slot : Slot T name id) (hty : typeOf (.builtin id) = pure (.type "method_descriptor")) (hm : MtR X id r) (ho : PE X o to) (ha : PA X (e :: es) t)
    (hbase : attributeBase o name X.env (eval o X.env) = eval o X.env := by rfl)
    (hfew : ((backTo cpos (starEach (e :: es) X.env)).all (fun x => !x.1) && (backToKw cpos (keywordEach [] X.env)).all (fun x => x.1.isSome)
      && decide ((e :: es).length + ([] : List Keyword).length + (if ([] : List Keyword).isEmpty then 0 else 1) < 30)) = true := by rfl)
    (hline : (apos.endLine == cpos.line) = true := by rfl) (hs : starEach (e :: es) X.env = (false, eval e X.env) :: starEach es X.env := by rfl) (hplain : (backTo cpos (starEach es X.env)).any (·.1) = false := by rfl) :
    PE X (.Call (.Attribute o name apos) (e :: es) [] cpos) (tBM X.K T r to t) := by
  intro pins s σ H Q I h
  refine wpAny_Call_method_late hbase hfew hline rfl (thn (ho pins s σ H _ I h) fun v s1 ⟨x, H1, I1, r1, ty, q1⟩ => ?_)
  obtain ⟨h1, h2⟩ := tyV_is I1 r1 ty
  refine ⟨T, id, pa, slot, hty, h1, h2, ?_⟩
  have hA := ha cpos pins s1 σ H1 _ I1 q1
  rw [hs] at hA ⊢
  refine Calls.callWith_builtin (by show (false || (backTo cpos (starEach es X.env)).any (·.1)) = false; rw [hplain] <;> rfl) (Calls.evalArgs_plain ?_)
  exact thn hA fun us s2 ⟨vs, H2, I2, r2, q2⟩ => hm pins s2 σ H2 x vs v us Q I2 r1 r2 q2
/- xs.append(e), list.index on a module's tuple .. are MtR facts of 06m -/
end
end L2
namespace L2
open PySem PySem.Spec PyProof.Rows
def MtM (X : Cx) (id : String) (r : V → List V → Hp → VK → Prop) : Prop :=
  ∀ (pins : List (Addr × Obj)) (s : Shared) (σ : St) (H : Hp) (x : V) (xs : List V) (v : Value) (us : List Value) (Q : VK), Inv X pins σ H s → RelV x v → Vals xs us → r x xs H Q →
    wpAny (model X.prog X.w) X.A (call (.builtin id) (v :: us)) (EP X pins σ Q) X.xe s
theorem Vals.one : ∀ {x : V} {us : List Value}, Vals [x] us → ∃ u, us = [u] ∧ RelV x u
  | _, _, .cons r .nil => ⟨_, rfl, r⟩
section
variable {X : Cx} {pins : List (Addr × Obj)} {σ : St} {H : Hp} {s : Shared} {l b : Addr} {xs ys zs : List V}
theorem Inv.lset {its its' : List Value} {n : Nat} {f : Array Value → Array Value} {t' : Nat} (I : Inv X pins σ H s) (hH : H l = some (.lst xs))
    (e : s.heap.get? l = some { cls := .type "list", data := .seq its.toArray n }) (hf : f its.toArray = its'.toArray) (hv : Vals ys its') (hz : ys.length ≤ sizeLine) :
    Inv X pins σ (upd H l (.lst ys)) { s with heap := s.heap.update l (Obj.mapSeq f), toks := t' } := by
  have q := PySem.IsL.update e f
  rw [hf] at q
  refine I.write (x := l) (e := l) (by rw [hH]; exact trivial) (.inl rfl) (fun b' u hb hu => (Heap.get?_update_other s.heap (Obj.mapSeq f) (Ne.symm hb)).trans hu) ⟨_, q⟩ ?_
  exact ⟨hz, its', _, hv, q⟩
theorem Inv.lnew {its : List Value} {t' : Nat} (I : Inv X pins σ H s) (hv : Vals ys its) (hz : ys.length ≤ sizeLine) :
    Inv X pins σ (upd H s.heap.objs.size (.lst ys)) { s with heap := s.heap.push { cls := .type "list", data := .seq its.toArray }, toks := t' } :=
  I.laid (fun _ _ q => Heap.get?_push_of_some _ q) (Nat.le_refl _) ⟨hz, its, 0, hv, Heap.get?_push_size _ rfl⟩
theorem Inv.fresh (I : Inv X pins σ H s) : H s.heap.objs.size = none := I.hok.fresh (Nat.le_refl _)
theorem Inv.lstM (I : Inv X pins σ H s) (hH : H l = some (.lst xs)) : xs.length ≤ sizeLine ∧ ∃ (its : List Value) (n : Nat), Vals xs its ∧ xs.length = its.length ∧ s.heap.get? l = some { cls := .type "list", data := .seq its.toArray n } := by
  obtain ⟨z, its, n, r, e⟩ := I.hok l _ hH
  exact ⟨z, its, n, r, r.length, e⟩
theorem notLongL {n : Nat} (h : n ≤ sizeLine) : Builtin.List.listTooLong n = false := by
  unfold Builtin.List.listTooLong
  exact decide_eq_false (by omega)
end
section
variable {X : Cx}
def rAppend : V → List V → Hp → VK → Prop := fun x vs H Q => ∃ l xs y, x = .ref l ∧ vs = [y] ∧ H l = some (.lst xs) ∧ xs.length < sizeLine ∧ Q .non (upd H l (.lst (xs ++ [y])))
theorem mt_append : MtM X "list.append" rAppend := by
  intro pins s σ H x vs v us Q I rx rv h
  obtain ⟨l, xs, y, rfl, rfl, hH, hz, q⟩ := h
  cases rx
  obtain ⟨u, rfl, ru⟩ := rv.one
  obtain ⟨z, its, n, r, hl, e⟩ := I.lstM hH
  refine call_meets F.slot_list_append ⟨_, e, rfl⟩ F.entry_list_append (F.args_list_append_2 _ _) (PySem.list_append l its.toArray n u (by rw [List.size_toArray]; omega)) ⟨e, ?_⟩
  refine ⟨.non, _, I.lset (its' := its ++ [u]) hH e (by simp) (r.append (.cons ru .nil)) ?_, rfl, q⟩
  rw [List.length_append, List.length_singleton]
  omega
def rExtend : V → List V → Hp → VK → Prop := fun x vs H Q => ∃ l b xs zs, x = .ref l ∧ vs = [.ref b] ∧ H l = some (.lst xs) ∧ H b = some (.lst zs) ∧ xs.length + zs.length ≤ sizeLine ∧ Q .non (upd H l (.lst (xs ++ zs)))
theorem mt_extend : MtM X "list.extend" rExtend := by
  intro pins s σ H x vs v us Q I rx rv h
  obtain ⟨l, b, xs, zs, rfl, rfl, hH, hB, hz, q⟩ := h
  cases rx
  obtain ⟨u, rfl, ru⟩ := rv.one
  cases ru
  obtain ⟨z, its, n, r, hl, e⟩ := I.lstM hH
  obtain ⟨z2, its2, n2, r2, hl2, e2⟩ := I.lstM hB
  have hsz : its.toArray.size + its2.toArray.size ≤ sizeLine := by rw [List.size_toArray, List.size_toArray]; omega
  have hlong : ¬ (!its.toArray.isEmpty && Builtin.List.listTooLong (its.toArray.size + its2.toArray.size)) = true := by
    rw [notLongL hsz, Bool.and_false]
    exact Bool.false_ne_true
  refine call_meets F.slot_list_extend ⟨_, e, rfl⟩ F.entry_list_extend (F.args_list_extend_2 _ _)
    (AutoSeq1.list_extend_list_list_0 l its.toArray n b its2.toArray n2 hlong (by rw [List.size_toArray]; omega) (by omega)) ⟨e, e2, ?_⟩
  refine ⟨.non, _, I.lset (its' := its ++ its2) hH e (by simp) (r.append r2) ?_, rfl, q⟩
  rw [List.length_append]
  omega
def rCat : R2 := fun x y H Q => ∃ l b xs zs, x = .ref l ∧ y = .ref b ∧ H l = some (.lst xs) ∧ H b = some (.lst zs) ∧ xs.length + zs.length ≤ sizeLine ∧ ∀ p, H p = none → Q (.ref p) (upd H p (.lst (xs ++ zs)))
theorem op_cat : OpR X (binaryOp .Add) rCat := by
  intro pins s σ H x y v u Q I rx ry h
  obtain ⟨l, b, xs, zs, rfl, rfl, hH, hB, hz, q⟩ := h
  cases rx
  cases ry
  obtain ⟨z, its, n, r, hl, e⟩ := I.lstM hH
  obtain ⟨z2, its2, n2, r2, hl2, e2⟩ := I.lstM hB
  refine PySem.P.add_list e e2 ?_ (by rw [List.size_toArray, List.size_toArray]; omega)
  have ea : its.toArray ++ its2.toArray = (its ++ its2).toArray := by simp
  rw [ea]
  exact ⟨.ref _, _, I.lnew (t' := s.toks) (r.append r2) (by rw [List.length_append]; omega), rfl, q _ I.fresh⟩
end
section
variable {prog : Program} {w : World} {A : Around} {E : Value → Shared → Prop} {s : Shared}
end
section
variable {X : Cx}
end
end L2
namespace L2
open PySem PySem.Spec PyProof.Rows
theorem Vals.ints : ∀ {ns : List Int} {us : List Value}, Vals (ns.map V.int) us → IntsAre us ns
  | [], us, h => by
    rw [List.map_nil] at h
    cases h
    exact IntsAre.nil
  | n :: ns, us, h => by
    rw [List.map_cons] at h
    cases h with
    | cons r t =>
      obtain ⟨k, rfl⟩ := r
      exact IntsAre.cons n k (Vals.ints t)
theorem vals_of_ints : ∀ {us : List Value} {ns : List Int}, IntsAre us ns → Vals (ns.map V.int) us
  | _, _, .nil => by rw [List.map_nil]; exact Paired.nil
  | _, _, .cons n t h => by rw [List.map_cons]; exact Paired.cons (show RelV (V.int n) (Value.int n t) from ⟨t, rfl⟩) (vals_of_ints h)
theorem Vals.ref1 {a : Addr} {us : List Value} (r : Vals [V.ref a] us) : us = [Value.ref a] := by
  cases r with
  | cons r t =>
    cases t
    cases r
    rfl
section
variable {prog : Program} {w : World} {A : Around} {E : Value → Shared → Prop} {s : Shared} {l : Addr} {its : List Value} {ns : List Int} {Q : Value → Shared → Prop}
theorem max_raw (hh : A.handled = none) (hl : s.heap.IsList l its.toArray) (hi : IntsAre its ns) (hne : 0 < ns.length)
    (h : ∀ h' tk M t', (∀ b o, s.heap.get? b = some o → h'.get? b = some o) → M ∈ ns → (∀ a, a ∈ ns → a ≤ M) → Q (.int M t') { s with heap := h', toks := tk }) : wpAny (model prog w) A (call (.builtin "max") [.ref l]) Q E s := by
  obtain ⟨xs, e⟩ := hi.allInts.items
  have hn : numsOf (intItems xs).toList = ns := by rw [← e]; exact hi.numsOf
  rw [nums_intItems] at hn
  subst hn
  rw [e] at hl
  have hsz : 0 < xs.size := by simpa using hne
  refine PySem.max_intList hh hl hsz fun v h' tk hv hk => ?_
  obtain ⟨t, rfl⟩ := intItems_at hv
  obtain ⟨h1, h2⟩ := argBest_gt (numAt xs) (xs.size - 1)
  refine h h' tk _ t hk ?_ fun a ha => ?_
  · rw [numAt_eq]; exact PySem.getD_mem (by rw [List.length_map, Array.length_toList]; omega)
  · obtain ⟨j, hj, rfl⟩ := mem_getD ha
    rw [List.length_map, Array.length_toList] at hj
    rw [← numAt_eq]; exact h2 j (by omega)
end
section
variable {X : Cx}
def rMax (K : PySem.W.Frag) : List V → Hp → VK → Prop := fun vs H Q => ∃ (a : Addr) (ns : List Int), vs = [V.ref a] ∧ SqL K H a (ns.map V.int) ∧ 0 < ns.length ∧ ∀ m, m ∈ ns → (∀ y, y ∈ ns → y ≤ m) → Q (.int m) H
theorem cr_max (hc : X.calm = true) : CallR X (.builtin "max") (rMax X.K) := by
  intro pins s σ H vs us Q I r h
  obtain ⟨a, ns, rfl, hs, hne, q⟩ := h
  obtain ⟨its, rv, hl, _⟩ := I.list hs
  rw [Vals.ref1 r]
  exact max_raw (I.ok.hd hc) hl.isList rv.ints hne fun h' tk m t' hk h1 h2 => ⟨.int _, H, I.kept hk, ⟨_, rfl⟩, q m h1 h2⟩
theorem small64 {n : Nat} (h : n < 64) : n ≤ sizeLine := by rw [sizeLine_eq]; omega
end
section
variable {X : Cx}
end
section
variable {X : Cx}
end
section
variable {X : Cx}
end
section
variable {X : Cx} {pins : List (Addr × Obj)} {σ : St} {H : Hp} {s : Shared}
end
section
variable {X : Cx}
end
end L2
namespace L2
open PySem PySem.Spec PyProof.Rows
abbrev CellAt (h : Heap) (c : Addr) (v : Option Value) : Prop := h.IsCell c v
def relS (scope sc : Scope) : Scope :=
  { scope with names := scope.names.map fun (n, k) => if (k == .free && sc.kind == .function && sc.names.lookup n == some .cell) then (n, .cell) else (n, k) }
def cloFrom (cells : List (Str × Addr)) : List (Str × NameKind) → List (Str × Addr) → List (Str × Addr)
  | [], acc => acc
  | (n, k) :: r, acc => if k == .free then cloFrom cells r ((n, (cells.lookup n).getD 0) :: acc) else cloFrom cells r acc
theorem closure_loop (env : Env) (f : Str × NameKind → List (Str × Addr) → Sem (ForInStep (List (Str × Addr))))
    (hf : ∀ n k c, f (n, k) c = if k == .free then (do let a ← cellOf env n; pure (.yield ((n, a) :: c))) else pure (.yield c)) :
    ∀ (names : List (Str × NameKind)) (acc : List (Str × Addr)), (∀ y ∈ names, y.2 = .free → ∃ c, env.cells.lookup y.1 = some c) → forIn names acc f = pure (cloFrom env.cells names acc)
  | [], acc, _ => by rw [List.forIn_nil]; rfl
  | (n, k) :: r, acc, h => by
    rw [List.forIn_cons, hf]
    have ih := fun acc => closure_loop env f hf r acc fun y hy => h y (List.mem_cons_of_mem _ hy)
    unfold cloFrom
    by_cases hk : (k == NameKind.free) = true
    · rw [if_pos hk, if_pos hk]
      obtain ⟨c, hc⟩ := h (n, k) List.mem_cons_self (by simpa using hk)
      have e : cellOf env n = pure c := by unfold cellOf; rw [hc]
      rw [e]
      have e2 : (env.cells.lookup n).getD 0 = c := by rw [hc]; rfl
      rw [e2]
      exact ih _
    · rw [if_neg hk, if_neg hk]
      exact ih _
theorem closure_ok {scope : Scope} {env : Env} (h : ∀ y ∈ scope.names, y.2 = .free → ∃ c, env.cells.lookup y.1 = some c) : closureFor scope env = pure (cloFrom env.cells scope.names []) := by
  simp only [closureFor]
  rw [closure_loop env _ (fun n k c => rfl) scope.names [] h]
  rfl
theorem mem_lookup {α : Type} : ∀ {l : List (Str × α)} {n : Str} {c : α}, (n, c) ∈ l → ∃ c', l.lookup n = some c'
  | (k, v) :: r, n, c, h => by
    rw [List.lookup_cons]
    cases hb : n == k with
    | true => exact ⟨_, rfl⟩
    | false =>
      rcases List.mem_cons.mp h with e | h
      · cases e; simp at hb
      · exact mem_lookup h
theorem cloFrom_mem {cells : List (Str × Addr)} : ∀ {names : List (Str × NameKind)} {acc : List (Str × Addr)} {n : Str} {c : Addr}, (n, c) ∈ cloFrom cells names acc → (n, c) ∈ acc ∨ ((n, .free) ∈ names ∧ c = (cells.lookup n).getD 0)
  | [], _, _, _, h => .inl h
  | (m, k) :: r, acc, n, c, h => by
    unfold cloFrom at h
    split at h
    · rename_i hk
      have hk : k = .free := by simpa using hk
      rcases cloFrom_mem h with h | ⟨h1, h2⟩
      · rcases List.mem_cons.mp h with e | h
        · cases e; exact .inr ⟨hk ▸ List.mem_cons_self, rfl⟩
        · exact .inl h
      · exact .inr ⟨List.mem_cons_of_mem _ h1, h2⟩
    · rcases cloFrom_mem h with h | ⟨h1, h2⟩
      · exact .inl h
      · exact .inr ⟨List.mem_cons_of_mem _ h1, h2⟩
theorem cloFrom_acc {cells : List (Str × Addr)} : ∀ {names : List (Str × NameKind)} {acc : List (Str × Addr)} {p : Str × Addr}, p ∈ acc → p ∈ cloFrom cells names acc
  | [], _, _, h => h
  | (m, k) :: r, acc, p, h => by
    unfold cloFrom
    split
    · exact cloFrom_acc (List.mem_cons_of_mem _ h)
    · exact cloFrom_acc h
theorem cloFrom_has {cells : List (Str × Addr)} : ∀ {names : List (Str × NameKind)} {acc : List (Str × Addr)} {n : Str}, (n, .free) ∈ names → (n, (cells.lookup n).getD 0) ∈ cloFrom cells names acc
  | (m, k) :: r, acc, n, h => by
    unfold cloFrom
    rcases List.mem_cons.mp h with e | h
    · cases e
      exact cloFrom_acc List.mem_cons_self
    · split
      · exact cloFrom_has h
      · exact cloFrom_has h
theorem cells_mem : ∀ {names : List (Str × NameKind)} {h : Heap} {acc : List (Str × Addr)} {x : Str} {c : Addr}, (x, c) ∈ cellsFrom h.objs.size names acc →
    (x, c) ∈ acc ∨ ((x, .cell) ∈ names ∧ h.objs.size ≤ c ∧ CellAt (pushCells h names) c none)
  | [], _, _, _, _, h => .inl h
  | (n, k) :: r, h, acc, x, c, hm => by
    unfold cellsFrom at hm
    unfold pushCells
    split at hm
    · rename_i hk
      rw [if_pos hk]
      have hk : k = .cell := by simpa using hk
      rw [← Heap.size_push h { cls := .type "cell", data := .cell none }] at hm
      rcases cells_mem hm with hm | ⟨h1, h2, h3⟩
      · rcases List.mem_cons.mp hm with e | hm
        · cases e
          exact .inr ⟨hk ▸ List.mem_cons_self, Nat.le_refl _, _, pushCells_keeps r _ _ _ (Heap.get?_push_size _ rfl), rfl⟩
        · exact .inl hm
      · rw [Heap.size_push] at h2
        exact .inr ⟨List.mem_cons_of_mem _ h1, Nat.le_of_succ_le h2, h3⟩
    · rename_i hk
      rw [if_neg hk]
      rcases cells_mem hm with hm | ⟨h1, h2, h3⟩
      · exact .inl hm
      · exact .inr ⟨List.mem_cons_of_mem _ h1, h2, h3⟩
theorem cells_acc : ∀ {names : List (Str × NameKind)} {n : Nat} {acc : List (Str × Addr)} {p : Str × Addr}, p ∈ acc → p ∈ cellsFrom n names acc
  | [], _, _, _, h => h
  | (m, k) :: r, n, acc, p, h => by
    unfold cellsFrom
    split
    · exact cells_acc (List.mem_cons_of_mem _ h)
    · exact cells_acc h
theorem cells_has : ∀ {names : List (Str × NameKind)} {n : Nat} {acc : List (Str × Addr)} {x : Str}, (x, .cell) ∈ names → ∃ c, (x, c) ∈ cellsFrom n names acc
  | (m, k) :: r, n, acc, x, h => by
    unfold cellsFrom
    rcases List.mem_cons.mp h with e | h
    · cases e
      exact ⟨n, cells_acc List.mem_cons_self⟩
    · split
      · exact cells_has h
      · exact cells_has h
theorem cells_inj : ∀ {names : List (Str × NameKind)} {h : Heap} {acc : List (Str × Addr)} {x y : Str} {c : Addr}, (∀ p ∈ acc, p.2 < h.objs.size) → (∀ x y c, (x, c) ∈ acc → (y, c) ∈ acc → x = y) →
    (x, c) ∈ cellsFrom h.objs.size names acc → (y, c) ∈ cellsFrom h.objs.size names acc → x = y
  | [], _, _, _, _, _, _, hi, h1, h2 => hi _ _ _ h1 h2
  | (n, k) :: r, h, acc, x, y, c, hl, hi, h1, h2 => by
    unfold cellsFrom at h1 h2
    split at h1
    · rename_i hk
      rw [if_pos hk] at h2
      rw [← Heap.size_push h { cls := .type "cell", data := .cell none }] at h1 h2
      refine cells_inj (h := h.push _) (fun p hp => ?_) (fun x y c a b => ?_) h1 h2
      · rw [Heap.size_push]
        rcases List.mem_cons.mp hp with rfl | hp
        · exact Nat.lt_succ_self _
        · exact Nat.lt_succ_of_lt (hl p hp)
      · rcases List.mem_cons.mp a with e | a <;> rcases List.mem_cons.mp b with e' | b
        · cases e; cases e'; rfl
        · cases e; exact absurd (hl _ b) (Nat.lt_irrefl _)
        · cases e'; exact absurd (hl _ a) (Nat.lt_irrefl _)
        · exact hi _ _ _ a b
    · rename_i hk
      rw [if_neg hk] at h2
      exact cells_inj hl hi h1 h2
theorem newEnv_comp {M : Model} {A : Around} {E : Value → Shared → Prop} {s : Shared} {scope : Scope} {globals : Addr} {closure : List (Str × Addr)} {qual : Str} {func : Option Addr} {code : Value} {around : Env} {builtins : Addr} {Q : Env → Shared → Prop}
    (h : Q (newEnv scope s.heap.objs.size globals (cellsFrom (s.heap.objs.size + 1) scope.names closure) qual func code (some around) builtins)
      { s with heap := pushCells (s.heap.push { cls := .type "dict", data := .dict #[] }) scope.names }) :
    wpAny M A (newFunctionEnv scope globals closure [] qual func code (some around) builtins) Q E s := by
  simp only [newFunctionEnv, Option.isSome_some, if_true]
  refine wpAny_bind (wpAny_alloc ?_)
  refine wpAny_bind (wpAny_layCells _ (fun n k c => rfl) scope.names closure _ _ ?_)
  rw [show ({ s with heap := s.heap.push { cls := .type "dict", data := .dict #[] } } : Shared).heap.objs.size = s.heap.objs.size + 1 from Heap.size_push ..]
  rw [List.forIn_nil]
  exact wpAny_bind (wpAny_pure (wpAny_pure h))
theorem lookup_relS {sc : Scope} : ∀ {names : List (Str × NameKind)} {x : Str} {k : NameKind},
    (names.map fun (n, k) => if (k == NameKind.free && sc.kind == .function && sc.names.lookup n == some .cell) then (n, NameKind.cell) else (n, k)).lookup x = some k →
    ∃ k', names.lookup x = some k' ∧ (k = k' ∨ (k' = .free ∧ k = .cell))
  | [], _, _, h => by simp at h
  | (n, k₀) :: r, x, k, h => by
    have ih := @lookup_relS sc r x k
    have h' : List.lookup x ((if (k₀ == NameKind.free && sc.kind == .function && sc.names.lookup n == some .cell) = true then (n, NameKind.cell) else (n, k₀)) :: (r.map _)) = some k := h
    cases hx : x == n with
    | true =>
      simp only [List.lookup_cons, hx]
      by_cases hc : (k₀ == NameKind.free && sc.kind == .function && sc.names.lookup n == some .cell) = true
      · rw [if_pos hc] at h'
        simp only [List.lookup_cons, hx] at h'
        cases h'
        simp only [Bool.and_eq_true, beq_iff_eq] at hc
        exact ⟨k₀, rfl, .inr ⟨hc.1.1, rfl⟩⟩
      · rw [if_neg hc] at h'
        simp only [List.lookup_cons, hx] at h'
        cases h'
        exact ⟨_, rfl, .inl rfl⟩
    | false =>
      simp only [List.lookup_cons, hx]
      by_cases hc : (k₀ == NameKind.free && sc.kind == .function && sc.names.lookup n == some .cell) = true
      · rw [if_pos hc] at h'
        simp only [List.lookup_cons, hx] at h'
        exact ih h'
      · rw [if_neg hc] at h'
        simp only [List.lookup_cons, hx] at h'
        exact ih h'
structure BlkOk (N : List Str) (sc scope : Scope) (own : List (Str × Nat)) : Prop where
  kind : scope.kind = .function
  uniq : ∀ y ∈ scope.names, scope.names.lookup y.1 = some y.2
  ix : ∀ p ∈ own, N[p.2]? = some p.1
  free : ∀ y ∈ scope.names, y.2 = .free → sc.names.lookup y.1 = some .cell ∨ sc.names.lookup y.1 = some .free
  own : ∀ y ∈ scope.names, y.2 = .local ∨ y.2 = .cell → y.1 ∈ own.map (·.1) ∨ y.1 ∉ N
def wipe (σ : St) : List Nat → St
  | [] => σ
  | v :: vs => (wipe σ vs).set v none
theorem wipe_length (σ : St) : ∀ vs : List Nat, (wipe σ vs).length = σ.length
  | [] => rfl
  | v :: vs => by unfold wipe; rw [List.length_set, wipe_length σ vs]
theorem wipe_some {σ : St} {i : Nat} {x : V} : ∀ {vs : List Nat}, (wipe σ vs)[i]? = some (some x) → σ[i]? = some (some x) ∧ i ∉ vs
  | [], h => ⟨h, by simp⟩
  | v :: vs, h => by
    unfold wipe at h
    by_cases hi : v = i
    · subst hi
      by_cases hv : v < (wipe σ vs).length
      · rw [List.getElem?_set_self hv] at h; cases h
      · rw [List.getElem?_eq_none (by simpa using hv)] at h; cases h
    · rw [List.getElem?_set_ne hi] at h
      obtain ⟨h1, h2⟩ := wipe_some h
      exact ⟨h1, by simp only [List.mem_cons, not_or]; exact ⟨fun e => hi e.symm, h2⟩⟩
abbrev Cx.blk (X : Cx) (s : Shared) (H : Hp) (scope : Scope) (cenv : Env) (fp : List Addr) : Cx := { X with s_0 := s, H_0 := H, env := cenv, outer := X.stack, ex := fp, fn := fun x => scope.names.lookup x == some .cell, pn := [], xe := fun _ _ => False }
section
variable {X : Cx} {pins : List (Addr × Obj)} {σ : St} {H : Hp} {s : Shared}
theorem block_start {scope : Scope} {own : List (Str × Nat)} {fp : List Addr} (I : Inv X pins σ H s) (ok : BlkOk X.N X.env.scope scope own) (hN : X.N.Nodup) (hfp : ∀ b ∈ fp, FpOk X pins H b ∧ b < s.heap.objs.size) :
    Inv (X.blk s H scope (compEnvC scope (cellsFrom (s.heap.objs.size + 1) scope.names (cloFrom X.env.cells scope.names [])) s.heap.objs.size X.env) fp) [] (wipe σ (own.map (·.2))) H { s with heap := pushCells (s.heap.push { cls := .type "dict", data := .dict #[] }) scope.names } := by
  have hfree : ∀ y ∈ scope.names, y.2 = .free → ∃ c, X.env.cells.lookup y.1 = some c := fun y hy e => by
    rcases ok.free y hy e with k | k
    · exact I.ok.has _ (.inl k)
    · exact I.ok.has _ (.inr k)
  generalize hcenv : compEnvC scope (cellsFrom (s.heap.objs.size + 1) scope.names (cloFrom X.env.cells scope.names [])) s.heap.objs.size X.env = cenv
  have kp : ∀ b o, s.heap.get? b = some o → (pushCells (s.heap.push { cls := .type "dict", data := .dict #[] }) scope.names).get? b = some o := fun b o e => pushCells_keeps _ _ _ _ (Heap.get?_push_of_some _ e)
  have hL : cenv.locals = s.heap.objs.size := by rw [← hcenv]; rfl
  have hcl : cenv.cells = cellsFrom (s.heap.objs.size + 1) scope.names (cloFrom X.env.cells scope.names []) := by rw [← hcenv]; rfl
  have hsc : cenv.scope = relS scope X.env.scope := by rw [← hcenv]; rfl
  rw [← Heap.size_push s.heap { cls := .type "dict", data := .dict #[] }] at hcl
  have cm : ∀ {y c}, (y, c) ∈ cloFrom X.env.cells scope.names [] → X.env.cells.lookup y = some c ∧ c < s.heap.objs.size := fun {y c} hm => by
    rcases cloFrom_mem hm with hm | ⟨h1, rfl⟩
    · cases hm
    · obtain ⟨c, hc⟩ := hfree _ h1 rfl
      rw [hc]
      obtain ⟨w, z⟩ := I.cell _ _ hc
      exact ⟨rfl, z.lt⟩
  have mem : ∀ {y c}, cenv.cells.lookup y = some c → (X.env.cells.lookup y = some c ∧ c < s.heap.objs.size) ∨ (s.heap.objs.size + 1 ≤ c ∧ CellAt (pushCells (s.heap.push { cls := .type "dict", data := .dict #[] }) scope.names) c none) := fun {y c} e => by
    rw [hcl] at e
    rcases cells_mem (PySem.mem_of_lookup e) with hm | ⟨_, h2, h3⟩
    · exact .inl (cm hm)
    · rw [Heap.size_push] at h2; exact .inr ⟨h2, h3⟩
  have look : ∀ {y}, scope.names.lookup y = some .free → ∃ c, cenv.cells.lookup y = some c ∧ X.env.cells.lookup y = some c := fun {y} hl => by
    have hy : (y, NameKind.free) ∈ scope.names := PySem.mem_of_lookup hl
    obtain ⟨c', e'⟩ := mem_lookup (cells_acc (names := scope.names) (n := (s.heap.push { cls := .type "dict", data := .dict #[] }).objs.size) (cloFrom_has (cells := X.env.cells) (acc := []) hy))
    rw [← hcl] at e'
    refine ⟨c', e', ?_⟩
    rw [hcl] at e'
    rcases cells_mem (PySem.mem_of_lookup e') with hm | ⟨h1, _, _⟩
    · exact (cm hm).1
    · have := ok.uniq _ h1
      rw [hl] at this; cases this
  have okB : (X.blk s H scope cenv fp).Ok := by
    refine ⟨I.ok.mod, by show cenv.scope.kind = _; rw [hsc]; exact ok.kind, by show cenv.globals = _; rw [← hcenv]; exact I.ok.glob, by show cenv.builtins = _; rw [← hcenv]; exact I.ok.blt, by show s.heap.objs.size ≤ cenv.locals; rw [hL]; exact Nat.le_refl _,
      fun y z c e1 e2 => ?_, fun y hy => ?_, fun y c z e => ?_, I.ok.hd, I.ok.frames, .inl rfl, fun b hb => ⟨?_, fun y c e z => ?_⟩, I.bs, Nat.le_trans I.ok.bsz I.sz, fun b o e hb => ?_, fun b hb z => ?_, I.stack, I.stkFree⟩
    · have e1 : cenv.cells.lookup y = some c := e1
      have e2 : cenv.cells.lookup z = some c := e2
      rw [hcl] at e1 e2
      refine cells_inj (fun p hp => ?_) (fun y z c a b => I.ok.inj y z c (cm a).1 (cm b).1) (PySem.mem_of_lookup e1) (PySem.mem_of_lookup e2)
      rw [Heap.size_push]
      exact Nat.lt_succ_of_lt (cm (y := p.1) (c := p.2) hp).2
    · show ∃ c, cenv.cells.lookup y = some c
      have key : ∀ k, cenv.kindOf y = some k → (k = .cell ∨ k = .free) → ∃ c, cenv.cells.lookup y = some c := fun k hk hk' => by
        unfold Env.kindOf at hk
        rw [hsc] at hk
        obtain ⟨k', e, r⟩ := lookup_relS hk
        have : k' = .cell ∨ k' = .free := by
          rcases r with rfl | ⟨rfl, _⟩
          · exact hk'
          · exact .inr rfl
        rcases this with rfl | rfl
        · obtain ⟨c, hm⟩ := cells_has (n := (s.heap.push { cls := .type "dict", data := .dict #[] }).objs.size) (acc := cloFrom X.env.cells scope.names []) (PySem.mem_of_lookup e)
          obtain ⟨c', e'⟩ := mem_lookup hm
          exact ⟨c', by rw [hcl]; exact e'⟩
        · obtain ⟨c, h1, _⟩ := look e
          exact ⟨c, h1⟩
      rcases hy with hy | hy
      · exact key _ hy (.inl rfl)
      · exact key _ hy (.inr rfl)
    · have z : (scope.names.lookup y == some NameKind.cell) = true := z
      have z : scope.names.lookup y = some .cell := by simpa using z
      have e : cenv.cells.lookup y = some c := e
      rw [hcl] at e
      rcases cells_mem (PySem.mem_of_lookup e) with hm | ⟨_, h2, _⟩
      · rcases cloFrom_mem hm with hm | ⟨h1, _⟩
        · cases hm
        · have q := ok.uniq _ h1
          rw [z] at q; cases q
      · rw [Heap.size_push] at h2
        exact Nat.le_of_succ_le h2
    · show b ≠ cenv.locals
      rw [hL]; exact Nat.ne_of_lt (hfp b hb).2
    · have e : cenv.cells.lookup y = some c := e
      rcases mem e with ⟨h1, _⟩ | ⟨h1, _⟩
      · exact (hfp b hb).1.2.2.2.2.1 y c h1 z
      · have h2 : s.heap.objs.size + 1 ≤ b := by rw [← z]; exact h1
        exact absurd (Nat.lt_of_lt_of_le (hfp b hb).2 (Nat.le_of_succ_le h2)) (Nat.lt_irrefl _)
    · rcases (hfp b hb).1.2.2.2.1 with z | z
      · exact I.ok.noex b o e z
      · exact absurd (Nat.lt_of_lt_of_le (Heap.lt_size e) (Nat.le_trans I.ok.bsz z)) (Nat.lt_irrefl _)
    · rcases List.mem_cons.mp (I.stkSub b z) with z | z
      · exact (hfp b hb).1.2.1 z
      · exact (hfp b hb).1.2.2.1 z
  refine ⟨okB, rfl, I.bare, Un.kept kp, ⟨fun _ => none, ?_, fun i y av e1 e2 e3 => ?_⟩, fun y c e => ?_, ?_, fun y c e => ?_, fun p hp => ?_, I.hok.kept kp, by rw [wipe_length]; exact I.len⟩
  · show Heap.Ns _ cenv.locals _
    rw [hL]
    exact Heap.Ns.keeps (Heap.Ns.new ..) fun b o e => pushCells_keeps _ _ _ _ e
  · obtain ⟨e2, hne⟩ := wipe_some e2
    have hfr : scope.names.lookup y = some .free ∧ (cenv.kindOf y = some .cell ∨ cenv.kindOf y = some .free) := by
      have key : ∀ k, cenv.scope.names.lookup y = some k → k = .local ∨ k = .cell ∨ k = .free → scope.names.lookup y = some .free ∧ (cenv.kindOf y = some .cell ∨ cenv.kindOf y = some .free) := fun k hk hk' => by
        have hk0 := hk
        rw [hsc] at hk
        obtain ⟨k', e, r⟩ := lookup_relS hk
        have no : ¬ (k' = .local ∨ k' = .cell) := fun hh => by
          rcases ok.own _ (PySem.mem_of_lookup e) hh with e' | e'
          · obtain ⟨p, hp, hpy⟩ := List.mem_map.mp e'
            have e3 := ok.ix p hp
            have : p.1 = y := hpy
            rw [this] at e3
            exact hne (List.mem_map.mpr ⟨p, hp, nodup_ix hN e3 e1⟩)
          · exact e' (List.mem_of_getElem? e1)
        rcases r with rfl | ⟨rfl, rfl⟩
        · rcases hk' with rfl | rfl | rfl
          · exact absurd (.inl rfl) no
          · exact absurd (.inr rfl) no
          · exact ⟨e, .inr hk0⟩
        · exact ⟨e, .inl hk0⟩
      have e3 : Vis cenv.scope y := e3
      rcases e3 with e3 | e3 | e3
      · exact key _ e3 (.inl rfl)
      · exact key _ e3 (.inr (.inl rfl))
      · exact key _ e3 (.inr (.inr rfl))
    obtain ⟨m, hn, hl⟩ := I.loc
    have hvis : Vis X.env.scope y := (ok.free _ (PySem.mem_of_lookup hfr.1) rfl).elim (fun k => .inr (.inl k)) (fun k => .inr (.inr k))
    obtain ⟨w, r, q⟩ := hl i y av e1 e2 hvis
    refine ⟨w, r, .inr ⟨hfr.2, ?_⟩⟩
    obtain ⟨c, h1, h2⟩ := look hfr.1
    rcases q with ⟨k, _⟩ | ⟨_, c', e', z⟩
    · have k : X.env.scope.names.lookup y = some .local := k
      rcases ok.free _ (PySem.mem_of_lookup hfr.1) rfl with k' | k' <;> rw [show X.env.scope.names.lookup y = _ from k'] at k <;> cases k
    · rw [h2] at e'; cases e'
      exact ⟨c, h1, z.keeps kp⟩
  · have e : cenv.cells.lookup y = some c := e
    rcases mem e with ⟨h1, _⟩ | ⟨_, z⟩
    · obtain ⟨w, z⟩ := I.cell y c h1
      exact ⟨w, z.keeps kp⟩
    · exact ⟨_, z⟩
  · show H cenv.locals = none
    rw [hL]; exact I.hok.fresh (Nat.le_refl _)
  · have e : cenv.cells.lookup y = some c := e
    rcases mem e with ⟨h1, _⟩ | ⟨h1, _⟩
    · exact I.freeC y c h1
    · exact I.hok.fresh (Nat.le_of_succ_le h1)
  · exact absurd (show p ∈ ([] : List (Addr × Obj)) ++ [] from hp) (by simp)
theorem app_ok {E : Value → Shared → Prop} {D : Addr} {xs : List V} {y : V} {v : Value} {Q : Value → Shared → Prop} (I : Inv X pins σ H s) (hD : H D = some (.lst xs)) (hz : xs.length < sizeLine) (r : RelV y v)
    (h : ∀ s', Inv X pins σ (upd H D (.lst (xs ++ [y]))) s' → Q .none s') : wpAny (model X.prog X.w) X.A (call (.builtin "list.append") [.ref D, v]) Q E s := by
  obtain ⟨hz', its, n, ri, e⟩ := I.hok D _ hD
  have hl := ri.length
  refine append_at (hsz := by rw [List.size_toArray]; omega) e fun h' sb ho' => ?_
  refine h { s with heap := h' } (I.write (t' := s.toks) (by rw [hD]; trivial) (.inl rfl) (fun b u hb q => (sb.2 b hb).trans q) ⟨_, ho'⟩ ⟨by rw [List.length_append]; exact hz, its ++ [v], n + 1, ri.append (.cons r .nil), ?_⟩)
  rw [ho']
  simp
def PTs (X : Cx) (ifs : List Expr) (t : TT) : Prop :=
  ∀ (pins : List (Addr × Obj)) (s : Shared) (σ : St) (H : Hp) (Q : Bool → Hp → Prop), Inv X pins σ H s → t σ H Q →
    wpAny (model X.prog X.w) X.A (forIn ifs true fun c r => if r = true then do let ok ← isTrue c X.env (eval c X.env); pure (ForInStep.yield ok) else pure (ForInStep.yield r)) (TP X pins σ Q) X.xe s
def tYes : TT := fun _ H Q => Q true H
theorem pts_nil : PTs X [] tYes := fun _ _ _ H _ I h => wpAny_tests_nil ⟨H, I, h⟩
theorem pts_one {c : Expr} {t : TT} (h : PT X c t) : PTs X [c] t := fun pins s σ H Q I hw => wpAny_tests_one (h pins s σ H Q I hw)
end
theorem thnF {α : Type} {t : Sem α} {Q Q' : α → Shared → Prop} {M : Model} {A : Around} {E : Value → Shared → Prop} {s : Shared} (h : wpAny M A t Q (fun _ _ => False) s) (hQ : ∀ a s, Q a s → Q' a s) : wpAny M A t Q' E s := wpAny_mono h hQ fun _ _ z => False.elim z
theorem compLoop_any {prog : Program} {w : World} {A : Around} {R : Result → Shared → Prop} {s : Shared} {elt target iter : Expr} {ifs : List Expr} {scope : Scope} {pos : Pos} {it acc : Value} {env : Env} (I : Nat → Shared → Prop)
    (turn : ∀ n s, I n s → wpAny (model prog w) A (pyNext it) (fun r s₁ => match r with
      | none => R (.ok .next) s₁
      | some v => wpAny (model prog w) A (letOwnedTupleGo target it v) (fun _ s₁' => wpAny (model prog w) A (assign target env v) (fun _ s₂ =>
          wpAny (model prog w) A (forIn ifs true fun c r => if r = true then do let ok ← isTrue c env (eval c env); pure (ForInStep.yield ok) else pure (ForInStep.yield r)) (fun ok s₃ =>
            if ok = true then wpAny (model prog w) A (eval elt env) (fun x s₄ =>
              wpAny (model prog w) A (call (.builtin "list.append") [acc, x]) (fun _ s₅ => ∃ m, m < n ∧ I m s₅) (notedBy (model prog w) A env fun e s' => R (.error e) s') s₄) (notedBy (model prog w) A env fun e s' => R (.error e) s') s₃
            else ∃ m, m < n ∧ I m s₃) (notedBy (model prog w) A env fun e s' => R (.error e) s') s₂) (notedBy (model prog w) A env fun e s' => R (.error e) s') s₁') (notedBy (model prog w) A env fun e s' => R (.error e) s') s₁) (notedBy (model prog w) A env fun e s' => R (.error e) s') s)
    (n : Nat) (h : I n s) :
    codeAny (model prog w) A (.compLoop (.ListComp elt [⟨target, iter, ifs, 0⟩] scope pos) 0 it acc env) R s := by
  refine codeAny_loop rfl I (fun n s hI => ?_) n h
  show wpAny _ A ((compTurn (.ListComp elt [⟨target, iter, ifs, 0⟩] scope pos) 0 it acc env).onRaise (fun x => do noteFrame x env; theTreesLotGoes x)) _ _ s
  refine wpAny_noted ?_
  rw [compTurn_list]
  refine wpAny_bind (wpAny_standAt (wpAny_bind (wpAny_mono (turn n s hI) (fun r s₁ h₁ => ?_) fun _ _ h' => h')))
  cases r with
  | none => exact wpAny_pure h₁
  | some v =>
    refine wpAny_bind (wpAny_mono h₁ (fun _ s₁' h₁' => ?_) fun _ _ h' => h')
    refine wpAny_bind (wpAny_mono h₁' (fun _ s₂ h₂ => wpAny_bind (wpAny_mono h₂ (fun ok s₃ h₃ => ?_) fun _ _ h' => h')) fun _ _ h' => h')
    cases ok with
    | false => exact wpAny_pure ⟨rfl, h₃⟩
    | true =>
      exact wpAny_bind (wpAny_bind (wpAny_mono h₃ (fun x s₄ h₄ => wpAny_bind (wpAny_mono h₄ (fun _ s₅ h₅ => wpAny_pure (wpAny_pure ⟨rfl, h₅⟩)) fun _ _ h' => h')) fun _ _ h' => h'))
section
variable {X : Cx}
def tLc (wi : TI) (g : TG) (tt : TT) (te : TE) (vs : List Nat) : TE := fun σ H Q => wi σ H fun J H1 => ∀ D, H1 D = none → ∃ W : Nat → Nat → Hp → Prop, (∃ m, W 0 m (upd H1 D (.lst []))) ∧ ∀ i m H, W i m H →
  (J.stop i H ∧ Q (.ref D) H) ∨ (J.go i H ∧ ∃ Nx : Hp → Prop, (∀ H', Nx H' → ∃ m', m' < m ∧ W (i + 1) m' H') ∧ ∀ x H', J.yld i H x H' → g x (wipe σ vs) H' fun σ2 H2 => wipe σ2 vs = wipe σ vs ∧ tt σ2 H2 fun b H3 =>
    if b = true then te σ2 H3 fun y H4 => ∃ acc, H4 D = some (.lst acc) ∧ acc.length < sizeLine ∧ Nx (upd H4 D (.lst (acc ++ [y]))) else Nx H3)
theorem lc_core {pins : List (Addr × Obj)} {s : Shared} {σ : St} {H : Hp} {Q : VK} {elt tg iter : Expr} {ifs : List Expr} {scope : Scope} {own : List (Str × Nat)} {pos pos' : Pos} {wi : TI} {g : TG} {tt : TT} {te : TE} {use : Option (Value → Sem Unit)} {Qf : Value → Shared → Prop}
    (hc : X.calm = true) (hN : X.N.Nodup) (I : Inv X pins σ H s) (hi : PI X tg iter wi) (ok : BlkOk X.N X.env.scope scope own)
    (hg : ∀ (s : Shared) (H : Hp) (C : Addr) (cl : List (Str × Addr)) (fp : List Addr), PG (X.blk s H scope (compEnvC scope cl C X.env) fp) tg g) (ht : ∀ (s : Shared) (H : Hp) (C : Addr) (cl : List (Str × Addr)) (fp : List Addr), PTs (X.blk s H scope (compEnvC scope cl C X.env) fp) ifs tt)
    (he : ∀ (s : Shared) (H : Hp) (C : Addr) (cl : List (Str × Addr)) (fp : List Addr), PE (X.blk s H scope (compEnvC scope cl C X.env) fp) elt te) (hs : ∀ x, foldedSetIterable iter X.env x = pure x)
    (h : tLc wi g tt te (own.map (·.2)) σ H Q)
    (hRR : ∀ D C s' m H', Inv X pins σ H' s' → Q (.ref D) H' → s'.heap.Ns C m → FpOk X pins H' C → compPost (model X.prog X.w) X.A X.xe use Qf (.ref D) C (.ok .next) s') :
    wpAny (model X.prog X.w) X.A (comprehension (.ListComp elt [⟨tg, iter, ifs, 0⟩] scope pos) scope X.env pos' (newList []) false (eval iter X.env) use) Qf X.xe s := by
  have hfree : ∀ y ∈ scope.names, y.2 = .free → ∃ c, X.env.cells.lookup y.1 = some c := fun y hy e => by
    rcases ok.free y hy e with k | k
    · exact I.ok.has _ (.inl k)
    · exact I.ok.has _ (.inr k)
  refine wpAny_comprehension_free (use := use) rfl hs (closure_ok hfree) ok.kind (fun y hy e => by rw [ok.uniq y hy, e])
    (thn (hi pins s σ H _ I h) fun xv s1 hx => thn hx fun itv s2 h2 => ?_)
  obtain ⟨it, fp, tn, J, H2, e, I2, T, st2, f2, q⟩ := h2
  subst e
  refine wpAny_newObj_type (newEnv_comp ?_) (by show 0 ≤ sizeLine; decide)
  generalize hD : s2.heap.objs.size = D
  have hDn : H2 D = none := I2.hok.fresh (Nat.le_of_eq hD)
  obtain ⟨W, ⟨m0, w0⟩, turn⟩ := q D hDn
  generalize hs3 : ({ s2 with heap := s2.heap.push { cls := .type "list", data := .seq ([] : List Value).toArray } } : Shared) = s3
  have I3 : Inv X pins σ (upd H2 D (.lst [])) s3 := by
    rw [← hs3]
    refine I2.laid (t' := s2.toks) (fun b o e => Heap.get?_push_of_some _ e) (Nat.le_of_eq hD) ⟨Nat.zero_le _, [], 0, .nil, ?_⟩
    rw [← hD]
    exact Heap.get?_push_size _ rfl
  have h3 : s3.heap = s2.heap.push { cls := .type "list", data := .seq ([] : List Value).toArray } := by rw [← hs3]
  have sz : ∀ b ∈ fp, b < s2.heap.objs.size := fun b hb => by
    obtain ⟨o, e, _⟩ := T.obj _ _ st2 b hb
    exact Heap.lt_size e
  have f3 : ∀ b ∈ fp, FpOk X pins (upd H2 D (.lst [])) b ∧ b < s3.heap.objs.size := fun b hb => by
    have hlt := sz b hb
    refine ⟨⟨?_, (f2 b hb).2⟩, by rw [h3, Heap.size_push]; exact Nat.lt_succ_of_lt hlt⟩
    rw [upd_ne (by rw [← hD]; exact Nat.ne_of_lt hlt)]
    exact (f2 b hb).1
  have st3 : tn 0 s3.heap := T.keep _ _ _ st2 fun b _ o e => by rw [h3]; exact Heap.get?_push_of_some _ e
  have I4 := block_start I3 ok hN f3
  have pg := hg s3 (upd H2 D (.lst [])) s3.heap.objs.size (cellsFrom (s3.heap.objs.size + 1) scope.names (cloFrom X.env.cells scope.names [])) fp
  have pt := ht s3 (upd H2 D (.lst [])) s3.heap.objs.size (cellsFrom (s3.heap.objs.size + 1) scope.names (cloFrom X.env.cells scope.names [])) fp
  have pe := he s3 (upd H2 D (.lst [])) s3.heap.objs.size (cellsFrom (s3.heap.objs.size + 1) scope.names (cloFrom X.env.cells scope.names [])) fp
  show codeAny _ _ (.compStart (.ListComp elt [⟨tg, iter, ifs, 0⟩] scope pos) 0 (.ref it) (.ref D) (compEnvC scope (cellsFrom (s3.heap.objs.size + 1) scope.names (cloFrom X.env.cells scope.names [])) s3.heap.objs.size X.env)) (compPost (model X.prog X.w) X.A X.xe use Qf (.ref D) s3.heap.objs.size) { s3 with heap := pushCells (s3.heap.push { cls := .type "dict", data := .dict #[] }) scope.names }
  have nfp : ∀ b ∈ fp, (upd H2 D (.lst [])) b = none := fun b hb => (f3 b hb).1.1
  generalize hce : compEnvC scope (cellsFrom (s3.heap.objs.size + 1) scope.names (cloFrom X.env.cells scope.names [])) s3.heap.objs.size X.env = ce at I4 pg pt pe ⊢
  have cL : ce.locals = s3.heap.objs.size := by subst hce; rfl
  generalize hH3 : upd H2 D (.lst []) = H3 at I3 I4 pg pt pe w0 nfp f3
  generalize hs4 : ({ s3 with heap := pushCells (s3.heap.push { cls := .type "dict", data := .dict #[] }) scope.names } : Shared) = s4 at I4 ⊢
  have st4 : tn 0 s4.heap := T.keep _ _ _ st3 fun b _ o e => by rw [← hs4]; exact pushCells_keeps _ _ _ _ (Heap.get?_push_of_some _ e)
  have stat : ∀ {σ' : St} {H' : Hp} {s' : Shared}, Inv (X.blk s3 H3 scope ce fp) [] σ' H' s' → (∀ b ∈ fp, H' b = none) → ∀ b ∈ fp, FpOk (X.blk s3 H3 scope ce fp) [] H' b := fun {σ' H' s'} I' hn b hb =>
    ⟨hn b hb, (I'.ok.exf b hb).1, I'.ok.exfs b hb, .inl hb, fun x c e => (I'.ok.exf b hb).2 x c e, fun p hp => absurd (show p ∈ ([] : List (Addr × Obj)) ++ [] from hp) (by simp)⟩
  have loop : codeAny (model X.prog X.w) X.A (.compLoop (.ListComp elt [⟨tg, iter, ifs, 0⟩] scope pos) 0 (.ref it) (.ref D) ce) (compPost (model X.prog X.w) X.A X.xe use Qf (.ref D) s3.heap.objs.size) s4 := by
    refine compLoop_any (fun n s' => ∃ i H', Inv (X.blk s3 H3 scope ce fp) [] (wipe σ (own.map (·.2))) H' s' ∧ tn i s'.heap ∧ (∀ b ∈ fp, H' b = none) ∧ W i n H') ?_ m0 ⟨0, H3, I4, st4, nfp, w0⟩
    rintro n s5 ⟨i, H5, I5, st5, n5, w5⟩
    rcases turn i n H5 w5 with ⟨stop, qq⟩ | ⟨go, Nx, hNx, step⟩
    · have td := T.done (X.blk s3 H3 scope ce fp) rfl rfl rfl hc i [] s5 _ H5 (fun _ _ => False) I5 (stat I5 n5) st5 stop
      refine thnF td fun r s6 ⟨hr, I6⟩ => ?_
      subst hr
      have I7 : Inv X pins σ H5 s6 := I3.call' (ch := fp) I6.os I6.base I6.hok I6.bare fun b hb => ⟨(f3 b hb).1.2.2.2.1, (f3 b hb).1.2.1, (f3 b hb).1.2.2.2.2.1, (f3 b hb).1.2.2.2.2.2⟩
      have nC : H5 s3.heap.objs.size = none := by
        have z : H5 ce.locals = none := I6.free
        rw [cL] at z
        exact z
      obtain ⟨m, hn, _⟩ := I6.loc
      have hn : s6.heap.Ns ce.locals m := hn
      rw [cL] at hn
      exact hRR D s3.heap.objs.size s6 m H5 I7 qq hn (I3.fpOk (Nat.le_refl _) nC)
    · have ti := T.item (X.blk s3 H3 scope ce fp) rfl rfl rfl hc i [] s5 _ H5 (fun _ _ => False) I5 (stat I5 n5) st5 go
      refine thnF ti fun r s6 ⟨u, hr, h6⟩ => ?_
      subst hr
      refine thnF h6 fun _ s7 ⟨x, H7, I7, r7, y7, st7, n7⟩ => ?_
      have I7' := I7.pinned (stat I7 n7) (T.obj _ _ st7)
      refine thnF (pg _ s7 _ H7 x u _ I7' r7 (step x H7 y7)) fun _ s8 ⟨σ8, H8, I8, hw8, q8⟩ => ?_
      refine thnF (pt _ s8 σ8 H8 _ I8 q8) fun b s9 ⟨H9, I9, q9⟩ => ?_
      have fin : ∀ {s' : Shared} {H' : Hp}, Inv (X.blk s3 H3 scope ce fp) ([] ++ pinsAt fp s7.heap) σ8 H' s' → Nx H' → ∃ m, m < n ∧ ∃ i H', Inv (X.blk s3 H3 scope ce fp) [] (wipe σ (own.map (·.2))) H' s' ∧ tn i s'.heap ∧ (∀ b ∈ fp, H' b = none) ∧ W i m H' := fun {s' H'} I' nx => by
        obtain ⟨m', hm, w'⟩ := hNx H' nx
        have pin' : ∀ b ∈ fp, ∀ o, s7.heap.get? b = some o → s'.heap.get? b = some o ∧ H' b = none := fun b hb o e =>
          let z := I'.pin (b, o) (List.mem_append_right _ (List.mem_append_right _ (mem_pinsAt hb e)))
          ⟨z.1, z.2.1⟩
        have hl : (wipe σ (own.map (·.2))).length = σ8.length := by rw [← hw8, wipe_length]
        refine ⟨m', hm, i + 1, H', (I'.unpinned (pins := [])).weak hl (fun j v e => ?_), T.keep _ _ _ st7 fun b hb o e => (pin' b hb o e).1, fun b hb => ?_, w'⟩
        · rw [← hw8] at e
          exact (wipe_some e).1
        · obtain ⟨o, e, _⟩ := T.obj _ _ st7 b hb
          exact (pin' b hb o e).2
      cases b with
      | false =>
        simp only [Bool.false_eq_true, if_false] at q9 ⊢
        exact fin I9 q9
      | true =>
        simp only [if_true] at q9 ⊢
        refine thnF (pe _ s9 σ8 H9 _ I9 q9) fun z s10 ⟨yv, H10, I10, r10, acc, hD10, hz10, nx⟩ => ?_
        exact app_ok (X := X.blk s3 H3 scope ce fp) I10 hD10 hz10 r10 fun s11 I11 => fin I11 nx
  exact codeAny_compStart_list loop (T.self X.A 0 _ _ _ st4 loop)
theorem pe_lc {elt tg iter : Expr} {ifs : List Expr} {scope : Scope} {own : List (Str × Nat)} {pos : Pos} {wi : TI} {g : TG} {tt : TT} {te : TE} (hc : X.calm = true) (hN : X.N.Nodup) (hi : PI X tg iter wi) (ok : BlkOk X.N X.env.scope scope own)
    (hg : ∀ (s : Shared) (H : Hp) (C : Addr) (cl : List (Str × Addr)) (fp : List Addr), PG (X.blk s H scope (compEnvC scope cl C X.env) fp) tg g) (ht : ∀ (s : Shared) (H : Hp) (C : Addr) (cl : List (Str × Addr)) (fp : List Addr), PTs (X.blk s H scope (compEnvC scope cl C X.env) fp) ifs tt)
    (he : ∀ (s : Shared) (H : Hp) (C : Addr) (cl : List (Str × Addr)) (fp : List Addr), PE (X.blk s H scope (compEnvC scope cl C X.env) fp) elt te) (hs : ∀ x, foldedSetIterable iter X.env x = pure x := by intro _; rfl) :
    PE X (.ListComp elt [⟨tg, iter, ifs, 0⟩] scope pos) (tLc wi g tt te (own.map (·.2))) := by
  intro pins s σ H Q I h
  rw [eval_ListComp]
  refine lc_core hc hN I hi ok hg ht he hs h fun D C s' m H' I' q hn f => ⟨m, hn, fun h'' sb => ?_⟩
  obtain ⟨f0, f1, f2, f3, f4, f5⟩ := f
  exact ⟨.ref D, H', I'.turned (t' := s'.toks) (fun b o hb e => (sb.2 b hb).trans e) f0 f1 f3 f4 f5, rfl, q⟩
theorem ps_setLc {i : Nat} {y : Str} {py : Pos} {elt tg iter : Expr} {ifs : List Expr} {scope : Scope} {own : List (Str × Nat)} {pos spos : Pos} {wi : TI} {g : TG} {tt : TT} {te : TE} (hc : X.calm = true) (hN : X.N.Nodup) (hy : X.N[i]? = some y) (hyl : X.env.scope.names.lookup y = some .local)
    (hsw : swapsWith (.ListComp elt [⟨tg, iter, ifs, 0⟩] scope pos) (some (.Name y py)) spos.line X.env = pure true) (hi : PI X tg iter wi) (ok : BlkOk X.N X.env.scope scope own)
    (hg : ∀ (s : Shared) (H : Hp) (C : Addr) (cl : List (Str × Addr)) (fp : List Addr), PG (X.blk s H scope (compEnvC scope cl C X.env) fp) tg g) (ht : ∀ (s : Shared) (H : Hp) (C : Addr) (cl : List (Str × Addr)) (fp : List Addr), PTs (X.blk s H scope (compEnvC scope cl C X.env) fp) ifs tt)
    (he : ∀ (s : Shared) (H : Hp) (C : Addr) (cl : List (Str × Addr)) (fp : List Addr), PE (X.blk s H scope (compEnvC scope cl C X.env) fp) elt te) (hs : ∀ x, foldedSetIterable iter X.env x = pure x := by intro _; rfl) :
    PS X (.Assign [.Name y py] (.ListComp elt [⟨tg, iter, ifs, 0⟩] scope pos) spos) (tAsg (tLc wi g tt te (own.map (·.2))) (gName i)) := by
  intro pins s σ H D I h
  rw [exec_Assign_Name_used _ _ _ _ hsw]
  refine wpAny_bind (wpAny_standAt (wpAny_bind ?_))
  show wpAny _ X.A (do let _ ← comprehension (.ListComp elt [⟨tg, iter, ifs, 0⟩] scope pos) scope X.env (firstIterPos [⟨tg, iter, ifs, 0⟩] pos) (newList []) false (eval iter X.env) (some (assign (.Name y py) X.env))) _ _ s
  have h : tLc wi g tt te (own.map (·.2)) σ H (fun x H1 => gName i x σ H1 D.nx) := h
  refine wpAny_bind (thn (lc_core (Qf := fun _ s' => SP X pins D .next s') hc hN I hi ok hg ht he hs h fun L C s' m H' I' q hn f => ?_) fun _ s' hq => wpAny_pure (wpAny_pure hq))
  show wpAny _ _ (assign (.Name y py) X.env (.ref L)) _ _ _
  refine wpAny_assign_Name (store_ok2 (v := V.ref L) I' hN hy (.inl hyl) rfl (fun s2 I2 ⟨a, sb, ha⟩ => ?_) (.inr hyl))
  obtain ⟨f0, f1, f2, f3, f4, f5⟩ := f
  have haC : C ≠ a := by
    rcases ha with z | z
    · rw [z]; exact f1
    · exact fun e => f4 y a z e.symm
  refine ⟨m, hn.sameBut sb haC, fun h3 sb3 => ?_⟩
  exact ⟨_, H', I2.turned (t' := s2.toks) (fun b o hb e => (sb3.2 b hb).trans e) f0 f1 f3 f4 f5, q⟩
theorem sw_true {elt : Expr} {gs : List Comprehension} {scope : Scope} {pos py : Pos} {y : Str} {l : Nat} {env : Env} (hk : env.scope.kind = .function) (hy : env.scope.names.lookup y = some .local) (hl : (py.line == pos.line) = true)
    (ha : (scope.names.any fun (n, k) => n == y && (k == .local || k == .cell)) = false) : swapsWith (.ListComp elt gs scope pos) (some (.Name y py)) l env = pure true := by
  have ky : env.kindOf y = some .local := hy
  have hb : env.blockKind = .function := by unfold Env.blockKind; rw [hk]; rfl
  unfold swapsWith
  simp only [hb, ky, ha, Expr.pos, hl]
  rfl
end
theorem lc_list {K : PySem.W.Frag} {a : Addr} {xs : List V} {g : TG} {tt : TT} {te : TE} {vs : List Nat} {σ : St} {H1 : Hp} {D : Addr} {Qd : Hp → Prop} (Pv : Nat → Hp → Prop) (h0 : Pv 0 (upd H1 D (.lst []))) (hl : ∀ i H, i ≤ xs.length → Pv i H → SqL K H a xs)
    (hs : ∀ i x H, xs[i]? = some x → Pv i H → g x (wipe σ vs) H fun σ2 H2 => wipe σ2 vs = wipe σ vs ∧ tt σ2 H2 fun b H3 =>
      if b = true then te σ2 H3 fun y H4 => ∃ acc, H4 D = some (.lst acc) ∧ acc.length < sizeLine ∧ Pv (i + 1) (upd H4 D (.lst (acc ++ [y]))) else Pv (i + 1) H3) (hd : ∀ H, Pv xs.length H → Qd H) :
    ∃ W : Nat → Nat → Hp → Prop, (∃ m, W 0 m (upd H1 D (.lst []))) ∧ ∀ i m H, W i m H →
      ((Itl K a).stop i H ∧ Qd H) ∨ ((Itl K a).go i H ∧ ∃ Nx : Hp → Prop, (∀ H', Nx H' → ∃ m', m' < m ∧ W (i + 1) m' H') ∧ ∀ x H', (Itl K a).yld i H x H' → g x (wipe σ vs) H' fun σ2 H2 => wipe σ2 vs = wipe σ vs ∧ tt σ2 H2 fun b H3 =>
        if b = true then te σ2 H3 fun y H4 => ∃ acc, H4 D = some (.lst acc) ∧ acc.length < sizeLine ∧ Nx (upd H4 D (.lst (acc ++ [y]))) else Nx H3) := by
  refine ⟨fun i m H => m = xs.length - i ∧ i ≤ xs.length ∧ Pv i H, ⟨xs.length, by simp, Nat.zero_le _, h0⟩, ?_⟩
  rintro i m H ⟨rfl, hi, p⟩
  have q := hl i H hi p
  by_cases hlt : i < xs.length
  · refine .inr ⟨⟨xs, xs[i], q, by simp [hlt]⟩, Pv (i + 1), fun H' p' => ⟨xs.length - (i + 1), by omega, rfl, hlt, p'⟩, fun x H' y => ?_⟩
    obtain ⟨e, y⟩ := y
    subst e
    exact hs i x _ (y xs q) p
  · have e : i = xs.length := by omega
    subst e
    exact .inl ⟨⟨xs, q, Nat.le_refl _⟩, hd H p⟩
def blkC (N : List Str) (sc scope : Scope) (own : List (Str × Nat)) : Bool :=
  (match scope.kind with | .function => true | _ => false) && (scope.names.all fun y => decide (scope.names.lookup y.1 = some y.2)) && (own.all fun p => decide (N[p.2]? = some p.1)) &&
    (scope.names.all fun y => match y.2 with
      | .free => (match sc.names.lookup y.1 with | some .cell => true | some .free => true | _ => false)
      | .local => decide (y.1 ∈ own.map (·.1)) || decide (y.1 ∉ N)
      | .cell => decide (y.1 ∈ own.map (·.1)) || decide (y.1 ∉ N)
      | _ => true)
theorem blkOk_by {N : List Str} {sc scope : Scope} {own : List (Str × Nat)} (h : blkC N sc scope own = true) : BlkOk N sc scope own := by
  unfold blkC at h
  simp only [Bool.and_eq_true, List.all_eq_true, decide_eq_true_eq] at h
  obtain ⟨⟨⟨h1, h2⟩, h3⟩, h4⟩ := h
  refine ⟨?_, h2, h3, fun y hy e => ?_, fun y hy e => ?_⟩
  · split at h1
    · assumption
    · cases h1
  · have q := h4 y hy
    simp only [e] at q
    split at q <;> first | exact .inl (by assumption) | exact .inr (by assumption) | cases q
  · have q := h4 y hy
    rcases e with e | e <;> (simp only [e, Bool.or_eq_true, decide_eq_true_eq] at q; exact q)
end L2
namespace L2
open PySem PySem.Spec PyProof.Rows
section
variable {prog : Program} {w : World} {A : Around} {R : Result → Shared → Prop} {s : Shared} {elt t0 i0 t1 i1 : Expr} {ifs0 ifs1 : List Expr} {scope : Scope} {pos : Pos} {it acc : Value} {env : Env}
end
section
variable {X : Cx}
end
end L2
namespace L2
open PySem PySem.Spec PyProof.Rows
section
variable {κ : Type} [DecidableEq κ]
def valV (kvs : List (κ × V)) (k : κ) : Option V := (kvs.find? fun kv => decide (kv.1 = k)).map (·.2)
def putK (kvs : List (κ × V)) (k : κ) (v : V) : List (κ × V) :=
  if (kvs.any fun kv => decide (kv.1 = k)) = true then kvs.map (fun kv => if kv.1 = k then (kv.1, v) else kv) else kvs ++ [(k, v)]
def dropK (kvs : List (κ × V)) (k : κ) : List (κ × V) := kvs.filter fun kv => decide (kv.1 ≠ k)
theorem valV_pos {p : κ × V} {r : List (κ × V)} {k : κ} (e : p.1 = k) : valV (p :: r) k = some p.2 := by simp [valV, List.find?_cons, e]
theorem valV_neg {p : κ × V} {r : List (κ × V)} {k : κ} (e : ¬ p.1 = k) : valV (p :: r) k = valV r k := by simp [valV, List.find?_cons, e]
theorem valV_any (k : κ) : ∀ kvs : List (κ × V), (kvs.any fun kv => decide (kv.1 = k)) = (valV kvs k).isSome
  | [] => rfl
  | p :: r => by
    rw [List.any_cons]
    by_cases e : p.1 = k
    · simp only [valV_pos e, decide_eq_true e, Bool.true_or, Option.isSome_some]
    · rw [valV_neg e, decide_eq_false e, Bool.false_or]; exact valV_any k r
theorem valV_map (k j : κ) (y : V) : ∀ kvs : List (κ × V), valV (kvs.map fun kv => if kv.1 = k then (kv.1, y) else kv) j = (valV kvs j).map fun x => if j = k then y else x
  | [] => rfl
  | p :: r => by
    have ih := valV_map k j y r
    rw [List.map_cons]
    by_cases h : p.1 = k
    · rw [if_pos h]
      by_cases e : p.1 = j
      · rw [valV_pos (p := (p.1, y)) e, valV_pos e, Option.map_some, if_pos (e.symm.trans h)]
      · rw [valV_neg (p := (p.1, y)) e, valV_neg e, ih]
    · rw [if_neg h]
      by_cases e : p.1 = j
      · rw [valV_pos (p := p) e, valV_pos e, Option.map_some, if_neg (fun z => h (e.trans z))]
      · rw [valV_neg (p := p) e, valV_neg e, ih]
theorem valV_snoc (k j : κ) (y : V) : ∀ kvs : List (κ × V), valV kvs k = none → valV (kvs ++ [(k, y)]) j = if j = k then some y else valV kvs j
  | [], _ => by
    by_cases e : k = j
    · rw [if_pos e.symm]; exact valV_pos (p := (k, y)) e
    · rw [if_neg (fun z => e z.symm)]; exact valV_neg (p := (k, y)) e
  | p :: r, hn => by
    rw [List.cons_append]
    have hk : ¬ p.1 = k := fun z => by rw [valV_pos z] at hn; cases hn
    rw [valV_neg hk] at hn
    have ih := valV_snoc k j y r hn
    by_cases e : p.1 = j
    · rw [valV_pos e, valV_pos e, if_neg (fun z => hk (e.trans z))]
    · rw [valV_neg e, valV_neg e, ih]
theorem valV_put (kvs : List (κ × V)) (k j : κ) (y : V) : valV (putK kvs k y) j = if j = k then some y else valV kvs j := by
  unfold putK
  by_cases a : (kvs.any fun kv => decide (kv.1 = k)) = true
  · rw [if_pos a, valV_map]
    rw [valV_any] at a
    by_cases e : j = k
    · obtain ⟨x, hx⟩ := Option.isSome_iff_exists.mp a
      rw [if_pos e, e, hx, Option.map_some, if_pos rfl]
    · rw [if_neg e]
      cases valV kvs j with
      | none => rfl
      | some x => rw [Option.map_some, if_neg e]
  · rw [if_neg a]
    refine valV_snoc k j y kvs ?_
    rw [valV_any] at a
    cases q : valV kvs k with
    | none => rfl
    | some x => rw [q] at a; exact (a rfl).elim
theorem length_putK (kvs : List (κ × V)) (k : κ) (v : V) : (putK kvs k v).length ≤ kvs.length + 1 := by
  unfold putK
  split
  · rw [List.length_map]; omega
  · rw [List.length_append, List.length_cons, List.length_nil]; omega
theorem RelO.isSome_eq {o : Option V} {u : Option Value} (r : RelO o u) : o.isSome = u.isSome := by
  cases o with
  | none => cases u with
    | none => rfl
    | some _ => exact (show False from r).elim
  | some _ => cases u with
    | none => exact (show False from r).elim
    | some _ => rfl
theorem RelO.getD {o : Option V} {u : Option Value} {d : V} {d' : Value} (r : RelO o u) (rd : RelV d d') : RelV (o.getD d) (u.getD d') := by
  cases o with
  | none => cases u with
    | none => exact rd
    | some _ => exact (show False from r).elim
  | some _ => cases u with
    | none => exact (show False from r).elim
    | some _ => exact r
theorem KV.val {kvs : List (κ × V)} {vs : List (κ × Value)} (r : KV kvs vs) (k : κ) : RelO (valV kvs k) (valueAt vs k) := by
  unfold KV at r
  induction r with
  | nil => exact True.intro
  | @cons p q ps qs h t ih =>
    obtain ⟨h1, h2⟩ := h
    by_cases e : p.1 = k
    · have e' : q.1 = k := h1.symm.trans e
      have b : valueAt (q :: qs) k = some q.2 := by simp [valueAt, List.find?_cons, e']
      rw [valV_pos e, b]; exact h2
    · have e' : ¬ q.1 = k := fun z => e (h1.trans z)
      have b : valueAt (q :: qs) k = valueAt qs k := by simp [valueAt, List.find?_cons, e']
      rw [valV_neg e, b]; exact ih
theorem KV.any {kvs : List (κ × V)} {vs : List (κ × Value)} (r : KV kvs vs) (k : κ) : (kvs.any fun kv => decide (kv.1 = k)) = vs.any fun kv => decide (kv.1 = k) := by
  unfold KV at r
  induction r with
  | nil => rfl
  | cons h t ih => rw [List.any_cons, List.any_cons, ih, h.1]
theorem KV.repl {kvs : List (κ × V)} {vs : List (κ × Value)} (r : KV kvs vs) (k : κ) {y : V} {u : Value} (ry : RelV y u) :
    KV (kvs.map fun kv => if kv.1 = k then (kv.1, y) else kv) (vs.map fun kv => if kv.1 = k then (kv.1, u) else kv) := by
  unfold KV at r ⊢
  induction r with
  | nil => exact .nil
  | @cons p q ps qs h t ih =>
    rw [List.map_cons, List.map_cons]
    refine .cons ?_ ih
    obtain ⟨h1, h2⟩ := h
    by_cases e : p.1 = k
    · rw [if_pos e, if_pos (h1.symm.trans e)]; exact ⟨h1, ry⟩
    · rw [if_neg e, if_neg (fun z => e (h1.trans z))]; exact ⟨h1, h2⟩
theorem KV.put {kvs : List (κ × V)} {vs : List (κ × Value)} (r : KV kvs vs) (k : κ) {y : V} {u : Value} (ry : RelV y u) : KV (putK kvs k y) (stored vs k u) := by
  unfold putK stored
  rw [r.any k]
  by_cases e : (vs.any fun kv => decide (kv.1 = k)) = true
  · rw [if_pos e, if_pos e]; exact r.repl k ry
  · rw [if_neg e, if_neg e]; exact Paired.snoc r ⟨rfl, ry⟩
theorem KV.drop {kvs : List (κ × V)} {vs : List (κ × Value)} (r : KV kvs vs) (k : κ) : KV (dropK kvs k) (without vs k) := by
  unfold KV at r ⊢
  unfold dropK without
  induction r with
  | nil => exact .nil
  | @cons p q ps qs h t ih =>
    obtain ⟨h1, h2⟩ := h
    rw [List.filter_cons, List.filter_cons]
    by_cases e : p.1 = k
    · have a : ¬ decide (p.1 ≠ k) = true := by simp [e]
      have b : ¬ decide (q.1 ≠ k) = true := by simp [h1.symm.trans e]
      rw [if_neg a, if_neg b]; exact ih
    · have e' : ¬ q.1 = k := fun z => e (h1.trans z)
      have a : decide (p.1 ≠ k) = true := by simp [e]
      have b : decide (q.1 ≠ k) = true := by simp [e']
      rw [if_pos a, if_pos b]; exact .cons ⟨h1, h2⟩ ih
theorem KV.length {kvs : List (κ × V)} {vs : List (κ × Value)} (r : KV kvs vs) : kvs.length = vs.length := Paired.length r
theorem dropK_le (kvs : List (κ × V)) (k : κ) : (dropK kvs k).length ≤ kvs.length := List.length_filter_le _ _
end
theorem kV_is {P : Program} {w : World} {k : Key} {u : Value} (r : RelV (kV k) u) : (mixKind P w).is k u = true := by
  cases k with
  | inl i => obtain ⟨t, e⟩ := (show ∃ t, u = Value.int i t from r); subst e; exact mixKind_int P w i t
  | inr x => obtain ⟨t, e⟩ := (show ∃ t, u = Value.str x t from r); subst e; exact mixKind_str P w x t
theorem items_are {P : Program} {w : World} : ∀ {ks : List Key} {us : List Value}, Vals (ks.map kV) us → ItemsAre (mixKind P w) ks us
  | [], _, r => by rw [List.map_nil] at r; cases r; exact .nil
  | k :: ks, _, r => by
    rw [List.map_cons] at r
    cases r with
    | cons h t => exact .cons (kV_is h) (items_are t)
abbrev KT (H : Hp) : List (List Key × V) → List (List Key × Addr × Value) → Prop := Paired fun p q => p.1 = q.1 ∧ H q.2.1 = some (.tup (p.1.map kV)) ∧ RelV p.2 q.2.2
theorem KT.val {H : Hp} {kvs : List (List Key × V)} {xs : List (List Key × Addr × Value)} (r : KT H kvs xs) (k : List Key) : RelO (valV kvs k) ((atKey xs k).map (·.2)) := by
  induction r with
  | nil => exact True.intro
  | @cons p q ps qs h t ih =>
    obtain ⟨h1, _, h2⟩ := h
    by_cases e : p.1 = k
    · have e' : q.1 = k := h1.symm.trans e
      have b : atKey (q :: qs) k = some q.2 := by simp [atKey, List.find?_cons, e']
      rw [valV_pos e, b]; exact h2
    · have e' : ¬ q.1 = k := fun z => e (h1.trans z)
      have b : atKey (q :: qs) k = atKey qs k := by simp [atKey, List.find?_cons, e']
      rw [valV_neg e, b]; exact ih
theorem KT.repl {H : Hp} {kvs : List (List Key × V)} {xs : List (List Key × Addr × Value)} (r : KT H kvs xs) (k : List Key) {y : V} {u : Value} (ry : RelV y u) :
    KT H (kvs.map fun kv => if kv.1 = k then (kv.1, y) else kv) (xs.map (putAt k u)) := by
  induction r with
  | nil => exact .nil
  | @cons p q ps qs h t ih =>
    rw [List.map_cons, List.map_cons]
    refine .cons ?_ ih
    obtain ⟨h1, h2, h3⟩ := h
    unfold putAt
    by_cases e : p.1 = k
    · rw [if_pos e, if_pos (h1.symm.trans e)]; exact ⟨h1, h2, ry⟩
    · rw [if_neg e, if_neg (fun z => e (h1.trans z))]; exact ⟨h1, h2, h3⟩
theorem KT.put {H : Hp} {kvs : List (List Key × V)} {xs : List (List Key × Addr × Value)} (r : KT H kvs xs) (k : List Key) {b : Addr} {y : V} {u : Value} (hb : H b = some (.tup (k.map kV))) (ry : RelV y u) :
    KT H (putK kvs k y) (storedH xs k b u) := by
  have e : (kvs.any fun kv => decide (kv.1 = k)) = (atKey xs k).isSome := by
    rw [valV_any, (r.val k).isSome_eq, Option.isSome_map]
  unfold putK storedH
  rw [e]
  by_cases q : (atKey xs k).isSome = true
  · rw [if_pos q, if_pos q]; exact r.repl k ry
  · rw [if_neg q, if_neg q]; exact Paired.snoc r ⟨rfl, hb, ry⟩
theorem KT.keeps {H H' : Hp} {kvs : List (List Key × V)} {xs : List (List Key × Addr × Value)} (r : KT H kvs xs) (ht : ∀ b ys, H b = some (.tup ys) → H' b = some (.tup ys)) : KT H' kvs xs :=
  Paired.mapP r fun _ _ z => ⟨z.1, ht _ _ z.2.1, z.2.2⟩
section
variable {P : Program} {w : World} {H : Hp} {h : Heap} {a : Addr}
theorem rd_of {u : HO} (ok : HOk P w H h) (e : Rd H a u) : ObjOk P w H h a u := e.ok ok
theorem dk_rd {kvs : List (Key × V)} (ok : HOk P w H h) (e : Rd H a (.dK kvs)) : kvs.length ≤ sizeLine ∧ (a == sysModules) = false ∧ ∃ vs, KV kvs vs ∧ h.DictOf (mixKind P w) a vs :=
  show ObjOk P w H h a (.dK kvs) from rd_of ok e
theorem dk_of {kvs : List (Key × V)} (ok : HOk P w H h) (e : H a = some (.dK kvs)) : kvs.length ≤ sizeLine ∧ (a == sysModules) = false ∧ ∃ vs, KV kvs vs ∧ h.DictOf (mixKind P w) a vs := dk_rd ok (.inl e)
theorem key_of {ks : List Key} (ok : HOk P w H h) (e : H a = some (.tup (ks.map kV))) : (tupleKind (mixKind P w)).is h ks a := by
  obtain ⟨_, its, r, o, h1, h2, n, h3⟩ := (show ObjOk P w H h a (.tup (ks.map kV)) from ok a _ e)
  exact ⟨o, its.toArray, n, h1, h2, h3, by simpa using items_are r⟩
theorem dt_rd {kvs : List (List Key × V)} (ok : HOk P w H h) (e : Rd H a (.dT kvs)) : kvs.length ≤ sizeLine ∧ (a == sysModules) = false ∧
    ∃ xs, KT H kvs xs ∧ h.DictOfH (tupleKind (mixKind P w)) a xs := by
  obtain ⟨z, y, xs, r, o, es, ep, h1, h2, h3, h4, h5⟩ := (show ObjOk P w H h a (.dT kvs) from rd_of ok e)
  refine ⟨z, y, xs, r, o, es, ep, h1, h2, h3, h4, fun x hx => ?_, h5⟩
  have all : ∀ {l : List (List Key × V)} {m : List (List Key × Addr × Value)}, KT H l m → ∀ x ∈ m, (tupleKind (mixKind P w)).is h x.1 x.2.1 := by
    intro l m q
    induction q with
    | nil => intro x hx; exact nomatch hx
    | @cons p q ps qs hq t ih =>
      intro x hx
      rcases List.mem_cons.mp hx with e | hx
      · subst e
        exact key_of ok (by rw [← hq.1]; exact hq.2.1)
      · exact ih x hx
  exact all r x hx
theorem dt_of {kvs : List (List Key × V)} (ok : HOk P w H h) (e : H a = some (.dT kvs)) : kvs.length ≤ sizeLine ∧ (a == sysModules) = false ∧
    ∃ xs, KT H kvs xs ∧ h.DictOfH (tupleKind (mixKind P w)) a xs := dt_rd ok (.inl e)
end
def DGet (H : Hp) (a : Addr) (y : V) (r : Option V) : Prop :=
  (∃ kvs k, Rd H a (.dK kvs) ∧ y = kV k ∧ r = valV kvs k) ∨ ∃ kvs k b, Rd H a (.dT kvs) ∧ y = .ref b ∧ H b = some (.tup (k.map kV)) ∧ r = valV kvs k
def DPut (H : Hp) (a : Addr) (y v : V) (H' : Hp) : Prop :=
  (∃ kvs k, H a = some (.dK kvs) ∧ y = kV k ∧ kvs.length < sizeLine ∧ H' = upd H a (.dK (putK kvs k v))) ∨
  ∃ kvs k b, H a = some (.dT kvs) ∧ y = .ref b ∧ H b = some (.tup (k.map kV)) ∧ kvs.length < sizeLine ∧ H' = upd H a (.dT (putK kvs k v))
theorem DGet.k {H : Hp} {a : Addr} {kvs : List (Key × V)} {k : Key} (e : H a = some (.dK kvs)) : DGet H a (kV k) (valV kvs k) := .inl ⟨kvs, k, .inl e, rfl, rfl⟩
theorem DPut.k {H : Hp} {a : Addr} {kvs : List (Key × V)} {k : Key} {v : V} (e : H a = some (.dK kvs)) (hl : kvs.length < sizeLine) : DPut H a (kV k) v (upd H a (.dK (putK kvs k v))) := .inl ⟨kvs, k, e, rfl, hl, rfl⟩
section
variable {X : Cx} {pins : List (Addr × Obj)} {σ : St} {H : Hp} {s : Shared} {a : Addr} {y v : V} {u r : Value} {o : Option V} {A : Around} {E : Value → Shared → Prop}
theorem Inv.big (I : Inv X pins σ H s) : sysModules < s.heap.objs.size := by
  have h : mainGlobals < s.heap.objs.size := (I.mod.glob.keeps I.bk).lt
  exact Nat.lt_trans (by decide) h
theorem d_getItem {Q : Value → Shared → Prop} (hu : A.units + 1 < cLine) (I : Inv X pins σ H s) (g : DGet H a y (some v)) (ry : RelV y u) (h : ∀ w' s', Inv X pins σ H s' → RelV v w' → Q w' s') :
    wpAny (model X.prog X.w) A (getItem (.ref a) u) Q E s := by
  rcases g with ⟨kvs, k, e, ey, l⟩ | ⟨kvs, k, b, e, ey, eb, l⟩
  · subst ey
    obtain ⟨z, hd, vs, rel, dd⟩ := dk_rd I.hok e
    obtain ⟨w', hw, rw'⟩ := RelO.some_of (v := v) (o := valueAt vs k) (by rw [l]; exact rel.val k)
    exact wpAny_getItem_of (kV_is ry) dd.mapOf hw (h w' _ (I.tok _) rw')
  · subst ey
    cases (show u = Value.ref b from ry)
    obtain ⟨z, hd, xs, rel, dd⟩ := dt_rd I.hok e
    obtain ⟨w', hw, rw'⟩ := RelO.some_of (v := v) (o := (atKey xs k).map (·.2)) (by rw [l]; exact rel.val k)
    obtain ⟨p, hp, hp2⟩ := Option.map_eq_some_iff.mp hw
    refine wpAny_getItem_heap (tupleKind_room_in1 hu) (key_of I.hok eb) dd hp ?_
    rw [hp2]
    exact h w' _ (I.tok _) rw'
theorem d_in {Q : Value → Shared → Prop} (hu : A.units + 1 < cLine) (I : Inv X pins σ H s) (g : DGet H a y o) (ry : RelV y u) (h : ∀ s', Inv X pins σ H s' → Q (.bool o.isSome) s') :
    wpAny (model X.prog X.w) A (compareOp .In u (.ref a)) Q E s := by
  rcases g with ⟨kvs, k, e, ey, l⟩ | ⟨kvs, k, b, e, ey, eb, l⟩
  · subst ey
    obtain ⟨z, hd, vs, rel, dd⟩ := dk_rd I.hok e
    refine wpAny_in_of (kV_is ry) hd dd.mapOf ?_
    rw [← (rel.val k).isSome_eq, ← l]
    exact h _ (I.tok _)
  · subst ey
    cases (show u = Value.ref b from ry)
    obtain ⟨z, hd, xs, rel, dd⟩ := dt_rd I.hok e
    refine wpAny_in_heap (tupleKind_room_in1 hu) (key_of I.hok eb) hd dd ?_
    have q := (rel.val k).isSome_eq
    rw [Option.isSome_map] at q
    rw [← q, ← l]
    exact h _ (I.tok _)
theorem d_notIn {Q : Value → Shared → Prop} (hu : A.units + 1 < cLine) (I : Inv X pins σ H s) (g : DGet H a y o) (ry : RelV y u) (h : ∀ s', Inv X pins σ H s' → Q (.bool (!o.isSome)) s') :
    wpAny (model X.prog X.w) A (compareOp .NotIn u (.ref a)) Q E s := by
  rcases g with ⟨kvs, k, e, ey, l⟩ | ⟨kvs, k, b, e, ey, eb, l⟩
  · subst ey
    obtain ⟨z, hd, vs, rel, dd⟩ := dk_rd I.hok e
    refine wpAny_notIn_of (kV_is ry) hd dd.mapOf ?_
    rw [← (rel.val k).isSome_eq, ← l]
    exact h _ (I.tok _)
  · subst ey
    cases (show u = Value.ref b from ry)
    obtain ⟨z, hd, xs, rel, dd⟩ := dt_rd I.hok e
    refine wpAny_notIn_heap (tupleKind_room_in1 hu) (key_of I.hok eb) hd dd ?_
    have q := (rel.val k).isSome_eq
    rw [Option.isSome_map] at q
    rw [← q, ← l]
    exact h _ (I.tok _)
theorem d_write {h' : Heap} {t' : Nat} {ob : HO} (I : Inv X pins σ H s) (mu : Mut (H a)) (hs : Heap.SameBut a s.heap h') (he : ∃ q, h'.get? a = some q) (new : ObjOk X.prog X.w (upd H a ob) h' a ob) :
    Inv X pins σ (upd H a ob) { s with heap := h', toks := t' } :=
  I.write (x := a) (e := a) mu (.inl rfl) (fun b q hb z => (hs.2 b hb).trans z) he new
theorem dk_new {P : Program} {w : World} {H' : Hp} {h' : Heap} {kvs : List (Key × V)} {vs : List (Key × Value)} (z : kvs.length ≤ sizeLine) (hd : (a == sysModules) = false) (rel : KV kvs vs) (dd : h'.DictOf (mixKind P w) a vs) :
    ObjOk P w H' h' a (.dK kvs) := ⟨z, hd, vs, rel, dd⟩
theorem d_setItem {H' : Hp} {Q : Unit → Shared → Prop} (hu : A.units + 1 < cLine) (I : Inv X pins σ H s) (g : DPut H a y v H') (ry : RelV y u) (rv : RelV v r) (h : ∀ s', Inv X pins σ H' s' → Q () s') :
    wpAny (model X.prog X.w) A (setItem (.ref a) u r) Q E s := by
  rcases g with ⟨kvs, k, e, ey, l, eH⟩ | ⟨kvs, k, b, e, ey, eb, l, eH⟩
  · subst ey eH
    obtain ⟨z, hd, vs, rel, dd⟩ := dk_of I.hok e
    have hz : vs.length ≤ sizeLine := by rw [← rel.length]; exact z
    have hl : (putK kvs k v).length ≤ sizeLine := by have := length_putK kvs k v; omega
    refine wpAny_setItem_pairs (hsz := hz) (kV_is ry) dd fun h' dd' hs => h _ ?_
    have he : ∃ q, h'.get? a = some q := let ⟨q, _, _, hq, _⟩ := dd'; ⟨q, hq⟩
    exact d_write I (by rw [e]; exact True.intro) hs he (dk_new hl hd (rel.put k rv) dd')
  · subst ey eH
    cases (show u = Value.ref b from ry)
    obtain ⟨z, hd, xs, rel, dd⟩ := dt_of I.hok e
    have hz : xs.length ≤ sizeLine := by rw [← Paired.length rel]; exact z
    have hl : (putK kvs k v).length ≤ sizeLine := by have := length_putK kvs k v; omega
    refine wpAny_setItem_heap (hsz := hz) (tupleKind_room_in1 hu) (key_of I.hok eb) dd fun h' dd' hs => h _ ?_
    obtain ⟨q, es, ep, hq, h2, h3, h4, _, h5⟩ := dd'
    refine d_write I (by rw [e]; exact True.intro) hs ⟨q, hq⟩ ⟨hl, hd, _, (rel.put k eb rv).keeps fun c ys ec => ?_, q, es, ep, hq, h2, h3, h4, h5⟩
    rw [upd_ne (ne_of ec e (fun z => nomatch z))]
    exact ec
end
section
variable {X : Cx} {pins : List (Addr × Obj)} {σ : St} {H : Hp} {s : Shared} {a : Addr} {kvs : List (Key × V)} {k : Key} {u : Value} {A : Around} {E : Value → Shared → Prop}
theorem d_delItem {Q : Unit → Shared → Prop} (I : Inv X pins σ H s) (e : H a = some (.dK kvs)) (ry : RelV (kV k) u) (l : (valV kvs k).isSome = true) (h : ∀ s', Inv X pins σ (upd H a (.dK (dropK kvs k))) s' → Q () s') :
    wpAny (model X.prog X.w) A (delItem (.ref a) u) Q E s := by
  obtain ⟨z, hd, vs, rel, dd⟩ := dk_of I.hok e
  refine wpAny_delItem_slot dd.typeIs (by decide) PySem.F.slot_dict_delitem
    (call_meetsIn PySem.F.slot_dict_delitem dd.typeIs PySem.F.entry_dict_delitem (PySem.F.args_dict_delitem_2 _ _) (meets_dict_delitem_pairs (mixKind X.prog X.w) a (kV_is ry)) ⟨vs, dd, by rw [← rel.length]; exact z, by rw [← (rel.val k).isSome_eq]; exact l, fun h' dd' hs => h _ ?_⟩)
  have he : ∃ q, h'.get? a = some q := let ⟨q, _, _, hq, _⟩ := dd'; ⟨q, hq⟩
  exact d_write I (by rw [e]; exact True.intro) hs he (dk_new (Nat.le_trans (dropK_le kvs k) z) hd (rel.drop k) dd')
theorem d_pop {v : V} {more : List Value} {Q : Value → Shared → Prop} (I : Inv X pins σ H s) (e : H a = some (.dK kvs)) (ry : RelV (kV k) u) (l : valV kvs k = some v) (hm : more = [] ∨ ∃ x, more = [x])
    (h : ∀ w' s', Inv X pins σ (upd H a (.dK (dropK kvs k))) s' → RelV v w' → Q w' s') : wpAny (model X.prog X.w) A (call (.builtin "dict.pop") (.ref a :: u :: more)) Q E s := by
  obtain ⟨z, hd, vs, rel, dd⟩ := dk_of I.hok e
  obtain ⟨w', hw, rw'⟩ := RelO.some_of (v := v) (o := valueAt vs k) (by rw [← l]; exact rel.val k)
  have hp : (keyPart u).isSome = true := by
    cases k with
    | inl i => obtain ⟨t, q⟩ := (show ∃ t, u = Value.int i t from ry); subst q; rfl
    | inr x => obtain ⟨t, q⟩ := (show ∃ t, u = Value.str x t from ry); subst q; rfl
  have ha : argsOk "dict.pop" ⟨.ref a :: u :: more, []⟩ := by
    rcases hm with q | ⟨x, q⟩
    · subst q; exact PySem.F.args_dict_pop_2 _ _
    · subst q; exact PySem.F.args_dict_pop_3 _ _ _
  refine call_meetsIn PySem.F.slot_dict_pop dd.typeIs PySem.F.entry_dict_pop ha (meets_dict_pop_there (mixKind X.prog X.w) a (kV_is ry) more hm hp)
    ⟨vs, w', dd, by rw [← rel.length]; exact z, hw, fun h' dd' hs => h w' _ ?_ rw'⟩
  have he : ∃ q, h'.get? a = some q := let ⟨q, _, _, hq, _⟩ := dd'; ⟨q, hq⟩
  exact d_write I (by rw [e]; exact True.intro) hs he (dk_new (Nat.le_trans (dropK_le kvs k) z) hd (rel.drop k) dd')
theorem d_len {Q : Value → Shared → Prop} (I : Inv X pins σ H s) (e : Rd H a (.dK kvs)) (h : ∀ t s', Inv X pins σ H s' → Q (.int kvs.length t) s') : wpAny (model X.prog X.w) A (call (.builtin "len") [.ref a]) Q E s := by
  obtain ⟨z, hd, vs, rel, dd⟩ := dk_rd I.hok e
  refine call_len_dict hd dd (by rw [← rel.length]; rw [sizeLine_eq] at z; omega) ?_
  rw [← rel.length]
  exact h _ _ (I.tok _)
end
def NoSl (i : Expr) : Prop := ∀ ov iv, subscripted i false ov iv = operate [ov, iv] (getItem ov iv)
theorem subD_of {prog : Program} {w : World} {A : Around} {E : Value → Shared → Prop} {s : Shared} {env : Env} {value slice : Expr} {pos : Pos} {T id : String} {Q : Value → Shared → Prop}
    (hl : typeLookup (.type T) "__getitem__" = pure (some (.builtin id))) (hs : NoSl slice)
    (h : wpAny (model prog w) A (eval value env) (fun o s₁ => wpAny (model prog w) A (eval slice env) (fun i s₂ => s₂.TypeIs o T ∧ wpAny (model prog w) A (getItem o i) Q E s₂) E s₁) E s) :
    wpAny (model prog w) A (eval (.Subscript value slice pos) env) Q E s := by
  refine Subscript_ (wpAny_mono h (fun o s₁ h₁ => wpAny_mono h₁ (fun i s₂ h₂ => ?_) fun _ _ x => x) fun _ _ x => x)
  obtain ⟨hT, h₂⟩ := h₂
  unfold subscriptTail
  refine wpAny_bind ?_
  rw [getitemInPython_of_ne hT.not_modules]
  refine wpAny_bind (wpAny_specialOf hT hl ?_)
  have fin : wpAny (model prog w) A (subscripted slice false o i) (fun r s₃ => wpAny (model prog w) A (letTemporaryGo value o r >>= fun _ => pure r) Q E s₃) E s₂ := by
    rw [hs o i]
    exact wpAny_operating (wpAny_mono h₂ (fun r s₃ h₃ => wpAny_bind (wpAny_letTemporaryGo (wpAny_pure h₃))) fun _ _ x => x)
  first
    | exact wpAny_pure (wpAny_bind fin)
    | exact wpAny_bind (wpAny_pure (wpAny_bind fin))
    | exact wpAny_bind fin
theorem dict_typeIs {X : Cx} {pins : List (Addr × Obj)} {σ : St} {H : Hp} {s : Shared} {a : Addr} {y : V} {o : Option V} (I : Inv X pins σ H s) (g : DGet H a y o) : s.TypeIs (.ref a) "dict" := by
  rcases g with ⟨kvs, k, e, _, _⟩ | ⟨kvs, k, b, e, _, _, _⟩
  · obtain ⟨_, _, vs, _, dd⟩ := dk_rd I.hok e
    exact dd.typeIs
  · obtain ⟨_, _, xs, _, dd⟩ := dt_rd I.hok e
    exact dd.typeIs
def tDGet (td ty : TE) : TE := fun σ H Q => td σ H fun x H1 => ty σ H1 fun y H2 => ∃ a v, x = .ref a ∧ DGet H2 a y (some v) ∧ Q v H2
def tDIn (ty td : TE) : TE := fun σ H Q => ty σ H fun y H1 => td σ H1 fun x H2 => ∃ a o, x = .ref a ∧ DGet H2 a y o ∧ Q (.bl o.isSome) H2
def tDNotIn (ty td : TE) : TE := fun σ H Q => ty σ H fun y H1 => td σ H1 fun x H2 => ∃ a o, x = .ref a ∧ DGet H2 a y o ∧ Q (.bl (!o.isSome)) H2
def sDPut (td ty tv : TE) : TS := fun D σ H => tv σ H fun v H1 => td σ H1 fun x H2 => ty σ H2 fun y H3 => ∃ a H4, x = .ref a ∧ DPut H3 a y v H4 ∧ D.nx σ H4
section
variable {X : Cx} {o i e value : Expr} {pos pos' tpos : Pos} {td ty tv : TE}
theorem pe_dget (hu : X.A.units + 1 < cLine) (ho : PE X o td) (hi : PE X i ty) (hs : NoSl i) : PE X (.Subscript o i pos) (tDGet td ty) := by
  intro pins s σ H Q I h
  refine subD_of PySem.F.slot_dict_getitem.lookup hs (thn (ho pins s σ H _ I h) fun u s1 ⟨x, H1, I1, rx, q1⟩ => thn (hi pins s1 σ H1 _ I1 q1) fun iv s2 ⟨y, H2, I2, ry, a, v, ex, g, q2⟩ => ?_)
  subst ex
  obtain rfl : u = Value.ref a := rx
  exact ⟨dict_typeIs I2 g, d_getItem hu I2 g ry fun w' s3 I3 rw' => ⟨v, H2, I3, rw', q2⟩⟩
theorem pc_din (hu : X.A.units + 1 < cLine) (hi : PE X i ty) (ho : PE X o td) : PC X .In i o (tDIn ty td) := by
  intro pins s σ H Q I h
  refine thn (hi pins s σ H _ I h) fun iv s1 ⟨y, H1, I1, ry, q1⟩ => thn (ho pins s1 σ H1 _ I1 q1) fun u s2 ⟨x, H2, I2, rx, a, ov, ex, g, q2⟩ => ?_
  subst ex
  obtain rfl : u = Value.ref a := rx
  exact d_in hu I2 g ry fun s3 I3 => ⟨.bl ov.isSome, H2, I3, rfl, q2⟩
theorem pc_dnotin (hu : X.A.units + 1 < cLine) (hi : PE X i ty) (ho : PE X o td) : PC X .NotIn i o (tDNotIn ty td) := by
  intro pins s σ H Q I h
  refine thn (hi pins s σ H _ I h) fun iv s1 ⟨y, H1, I1, ry, q1⟩ => thn (ho pins s1 σ H1 _ I1 q1) fun u s2 ⟨x, H2, I2, rx, a, ov, ex, g, q2⟩ => ?_
  subst ex
  obtain rfl : u = Value.ref a := rx
  exact d_notIn hu I2 g ry fun s3 I3 => ⟨.bl (!ov.isSome), H2, I3, rfl, q2⟩
theorem ps_dput (hu : X.A.units + 1 < cLine) (ho : PE X o td) (hi : PE X i ty) (hv : PE X value tv) (hs : swapsWith value (some (.Subscript o i pos')) pos.line X.env = pure false) :
    PS X (.Assign [.Subscript o i pos'] value pos) (sDPut td ty tv) := by
  intro pins s σ H D I h
  refine wpAny_Assign_Subscript (thn (hv pins s σ H _ I h) fun r s1 ⟨v, H1, I1, rv, q1⟩ => thn (ho pins s1 σ H1 _ I1 q1) fun u s2 ⟨x, H2, I2, rx, q2⟩ => thn (hi pins s2 σ H2 _ I2 q2) fun iv s3 ⟨y, H3, I3, ry, a, H4, ex, g, q3⟩ => ?_) hs
  subst ex
  obtain rfl : u = Value.ref a := rx
  exact d_setItem hu I3 g ry rv fun s4 I4 => ⟨σ, H4, I4, q3⟩
end
theorem dk_empty {P : Program} {w : World} {H : Hp} (h : Heap) (hb : sysModules < h.objs.size) : ObjOk P w H (h.push { cls := .type "dict", data := .dict #[] }) h.objs.size (.dK []) :=
  ⟨Nat.zero_le _, beq_eq_false_iff_ne.mpr (Ne.symm (Nat.ne_of_lt hb)), [], .nil, Heap.DictOf.new h⟩
def tDNewK : TE := fun _ H Q => ∀ p, H p = none → Q (.ref p) (upd H p (.dK []))
section
variable {X : Cx} {pos : Pos}
theorem pe_dnewK : PE X (.Dict [] [] pos) tDNewK := fun pins s σ H Q I h =>
  wpAny_Dict_empty ⟨.ref s.heap.objs.size, _, I.laid (a := s.heap.objs.size) (o := .dK []) (t' := s.toks) (fun _ _ q => Heap.get?_push_of_some _ q) (Nat.le_refl _) (dk_empty s.heap I.big), rfl, h _ (I.hok.fresh (Nat.le_refl _))⟩
end
def tPairs : List (TE × TE) → St → Hp → (List (V × V) → Hp → Prop) → Prop
  | [], _, H, Q => Q [] H
  | (tk, tv) :: r, σ, H, Q => tk σ H fun x H1 => tv σ H1 fun y H2 => tPairs r σ H2 fun ps H3 => Q ((x, y) :: ps) H3
abbrev VV : List (V × V) → List (Value × Value) → Prop := Paired fun p q => RelV p.1 q.1 ∧ RelV p.2 q.2
def PPs (X : Cx) (pos : Pos) (keys : List (Option Expr)) (values : List Expr) (trs : List (TE × TE)) : Prop :=
  ∀ (pins : List (Addr × Obj)) (s : Shared) (σ : St) (H : Hp) (Q : List (V × V) → Hp → Prop), Inv X pins σ H s → tPairs trs σ H Q →
    wpAny (model X.prog X.w) X.A (evalPairs (pairTrees keys values X.env pos)) (fun vs s' => ∃ ps H', Inv X pins σ H' s' ∧ VV ps vs ∧ Q ps H') X.xe s
theorem pps_nil {X : Cx} {pos : Pos} : PPs X pos [] [] [] := fun pins s σ H Q I h => pairTrees_nil_walk ⟨[], H, I, .nil, h⟩
theorem pps_cons {X : Cx} {pos : Pos} {k v : Expr} {ks : List (Option Expr)} {vs : List Expr} {tk tv : TE} {trs : List (TE × TE)} (hk : PE X k tk) (hv : PE X v tv) (hr : PPs X pos ks vs trs) :
    PPs X pos (some k :: ks) (v :: vs) ((tk, tv) :: trs) := fun pins s σ H Q I h =>
  pairTrees_cons_walk (thn (hk pins s σ H _ I h) fun u s1 ⟨x, H1, I1, rx, q1⟩ => thn (hv pins s1 σ H1 _ I1 q1) fun w2 s2 ⟨y, H2, I2, ry, q2⟩ =>
    thn (hr pins s2 σ H2 _ I2 q2) fun ws s3 ⟨ps, H3, I3, rel, q3⟩ => ⟨(x, y) :: ps, H3, I3, .cons ⟨rx, ry⟩ rel, q3⟩)
def mergeK (kvs more : List (Key × V)) : List (Key × V) := more.foldl (fun acc kv => putK acc kv.1 kv.2) kvs
theorem KV.merge : ∀ {more : List (Key × V)} {rs : List (Key × Value)} {kvs : List (Key × V)} {vs : List (Key × Value)}, KV more rs → KV kvs vs → KV (mergeK kvs more) (merged vs rs) := by
  intro more rs kvs vs r
  unfold KV at r
  induction r generalizing kvs vs with
  | nil => intro q; exact q
  | @cons p q ps qs h t ih =>
    intro r0
    have e : KV (putK kvs p.1 p.2) (stored vs q.1 q.2) := by
      have := r0.put p.1 h.2
      rw [← h.1]; exact this
    exact ih e
theorem length_mergeK : ∀ (more kvs : List (Key × V)), (mergeK kvs more).length ≤ kvs.length + more.length
  | [], kvs => by show kvs.length ≤ kvs.length + 0; omega
  | p :: r, kvs => by
    have h1 := length_mergeK r (putK kvs p.1 p.2)
    have h2 := length_putK kvs p.1 p.2
    show (mergeK (putK kvs p.1 p.2) r).length ≤ _
    rw [List.length_cons]; omega
theorem carries_of {P : Program} {w : World} : ∀ {kvs : List (Key × V)} {ws : List (Value × Value)}, VV (kvs.map fun kv => (kV kv.1, kv.2)) ws → ∃ rs, Carries (mixKind P w) ws rs ∧ KV kvs rs
  | [], _, r => by rw [List.map_nil] at r; cases r; exact ⟨[], True.intro, .nil⟩
  | p :: kvs, _, r => by
    rw [List.map_cons] at r
    cases r with
    | @cons a b as bs h t =>
      obtain ⟨rs, c, q⟩ := carries_of (P := P) (w := w) t
      obtain ⟨b1, b2⟩ := b
      exact ⟨(p.1, b2) :: rs, ⟨kV_is h.1, rfl, c⟩, .cons ⟨rfl, h.2⟩ q⟩
def tDisp (trs : List (TE × TE)) : TE := fun σ H Q => ∀ p, H p = none → tPairs trs σ (upd H p (.dK [])) fun ps H2 => H2 p = some (.dK []) ∧ ∃ kvs : List (Key × V), ps = kvs.map (fun kv => (kV kv.1, kv.2)) ∧ kvs.length ≤ 15 ∧ Q (.ref p) (upd H2 p (.dK (mergeK [] kvs)))
theorem pe_disp {X : Cx} {pos : Pos} {keys : List (Option Expr)} {values : List Expr} {trs : List (TE × TE)} (h : PPs X pos keys values trs) (hall : keys.all (·.isSome) = true) (hl : keys.length = values.length) (h0 : keys ≠ [])
    (h15 : keys.length ≤ 15) : PE X (.Dict keys values pos) (tDisp trs) := by
  intro pins s σ H Q I q
  have hn := I.hok.fresh (Nat.le_refl s.heap.objs.size)
  have I1 := I.laid (a := s.heap.objs.size) (o := .dK []) (h' := s.heap.push { cls := .type "dict", data := .dict #[] }) (t' := s.toks) (fun _ _ q => Heap.get?_push_of_some _ q) (Nat.le_refl _) (dk_empty s.heap I.big)
  refine wpAny_Dict_walk (knd := mixKind X.prog X.w) hall hl h0 h15 (thn (h pins _ σ _ _ I1 (q _ hn)) fun ws s2 ⟨ps, H2, I2, rel, e, kvs, ep, lk, q2⟩ => ?_)
  subst ep
  obtain ⟨rs, c, rk⟩ := carries_of (P := X.prog) (w := X.w) rel
  obtain ⟨z, hd, vs0, r0, dd⟩ := dk_of I2.hok e
  cases r0
  refine ⟨rs, c, dd, fun h' dd' hs => ⟨.ref s.heap.objs.size, _, ?_, rfl, q2⟩⟩
  have hz : (mergeK [] kvs).length ≤ sizeLine := by
    have h1 := length_mergeK kvs []
    rw [List.length_nil] at h1
    rw [sizeLine_eq]; omega
  have he : ∃ q, h'.get? s.heap.objs.size = some q := let ⟨q, _, _, hq, _⟩ := dd'; ⟨q, hq⟩
  exact d_write I2 (by rw [e]; exact True.intro) hs he (dk_new hz hd (rk.merge .nil) dd')
structure M1 (X : Cx) (o : Expr) (m : Str) (apos : Pos) (e : Expr) (cpos : Pos) : Prop where
  base : attributeBase o m X.env (eval o X.env) = eval o X.env
  few : ((backTo cpos (starEach [e] X.env)).all (fun x => !x.1) && (backToKw cpos (keywordEach [] X.env)).all (fun x => x.1.isSome)
    && decide (([e] : List Expr).length + ([] : List Keyword).length + (if ([] : List Keyword).isEmpty then 0 else 1) < 30)) = true
  line : (apos.endLine == cpos.line) = true
  trees : backTo cpos (starEach [e] X.env) = [(false, eval e X.env)]
def IsD (H : Hp) (a : Addr) : Prop := (∃ kvs, Rd H a (.dK kvs)) ∨ ∃ kvs, Rd H a (.dT kvs)
theorem isD_at {X : Cx} {pins : List (Addr × Obj)} {σ : St} {H : Hp} {s : Shared} {a : Addr} (I : Inv X pins σ H s) (d : IsD H a) :
    s.TypeIs (.ref a) "dict" ∧ (∀ b, Value.ref a = .ref b → ∃ ob, s.heap.get? b = some ob ∧ ob.dict = none) ∧ (a == sysModules) = false := by
  rcases d with ⟨kvs, e⟩ | ⟨kvs, e⟩
  · obtain ⟨_, hd, vs, _, dd⟩ := dk_rd I.hok e
    refine ⟨dd.typeIs, fun b q => ?_, hd⟩
    cases q
    obtain ⟨ob, _, _, h1, h2, _⟩ := dd
    exact ⟨ob, h1, h2.2.1⟩
  · obtain ⟨_, hd, xs, _, dd⟩ := dt_rd I.hok e
    refine ⟨dd.typeIs, fun b q => ?_, hd⟩
    cases q
    obtain ⟨ob, _, _, h1, h2, _⟩ := dd
    exact ⟨ob, h1, h2.2.1⟩
section
variable {X : Cx} {pins : List (Addr × Obj)} {σ : St} {H : Hp} {s : Shared} {a : Addr} {y d : V} {u r : Value} {o : Option V} {A : Around} {E : Value → Shared → Prop}
theorem d_get1 {Q : Value → Shared → Prop} (hu : A.units + 1 < cLine) (I : Inv X pins σ H s) (g : DGet H a y o) (ry : RelV y u) (h : ∀ w' s', Inv X pins σ H s' → RelV (o.getD .non) w' → Q w' s') :
    wpAny (model X.prog X.w) A (call (.builtin "dict.get") [.ref a, u]) Q E s := by
  rcases g with ⟨kvs, k, e, ey, l⟩ | ⟨kvs, k, b, e, ey, eb, l⟩
  · subst ey
    obtain ⟨z, hd, vs, rel, dd⟩ := dk_rd I.hok e
    refine call_meetsIn PySem.F.slot_dict_get dd.typeIs PySem.F.entry_dict_get (PySem.F.args_dict_get_2 _ _) (meets_dict_get (mixKind X.prog X.w) a (kV_is ry) hd) ⟨_, dd.mapOf, h _ _ (I.tok _) ?_⟩
    rw [l]
    exact (rel.val k).getD rfl
  · subst ey
    cases (show u = Value.ref b from ry)
    obtain ⟨z, hd, xs, rel, dd⟩ := dt_rd I.hok e
    refine call_meetsIn PySem.F.slot_dict_get dd.typeIs PySem.F.entry_dict_get (PySem.F.args_dict_get_2 _ _) (meetsH_dict_get (tupleKind (mixKind X.prog X.w)) a b hd) ⟨tupleKind_room_in1 hu, k, xs, key_of I.hok eb, dd, h _ _ (I.tok _) ?_⟩
    rw [l]
    exact (rel.val k).getD rfl
end
def tDGet1 (td ty : TE) : TE := fun σ H Q => td σ H fun x H1 => ∃ a, x = .ref a ∧ IsD H1 a ∧ ty σ H1 fun y H2 => ∃ o, DGet H2 a y o ∧ Q (o.getD .non) H2
def tDPop1 (td ty : TE) : TE := fun σ H Q => td σ H fun x H1 => ∃ a, x = .ref a ∧ IsD H1 a ∧ ty σ H1 fun y H2 => ∃ kvs k v, H2 a = some (.dK kvs) ∧ y = kV k ∧ valV kvs k = some v ∧ Q v (upd H2 a (.dK (dropK kvs k)))
section
variable {X : Cx} {o e f : Expr} {apos cpos : Pos} {td ty tx : TE}
theorem pe_dget1 (hu : X.A.units + 1 < cLine) (ho : PE X o td) (he : PE X e ty) (m : M1 X o "get" apos e cpos) : PE X (.Call (.Attribute o "get" apos) [e] [] cpos) (tDGet1 td ty) := by
  intro pins s σ H Q I h
  refine wpAny_Call_method m.base m.few m.line PySem.F.plainAttrs_dict PySem.F.slot_dict_get PySem.F.type_dict_get (thn (ho pins s σ H _ I h) fun u s1 ⟨x, H1, I1, rx, a, ex, d, q1⟩ => ?_)
  subst ex
  obtain rfl : u = Value.ref a := rx
  obtain ⟨t1, t2, _⟩ := isD_at I1 d
  refine ⟨t1, t2, ?_⟩
  rw [m.trees]
  refine Calls.callWith_builtin rfl (Calls.evalArgs_plain (Calls.spliced_cons (thn (he pins s1 σ H1 _ I1 q1) fun iv s2 ⟨y, H2, I2, ry, ov, g, q2⟩ => Calls.spliced_nil ?_)))
  exact d_get1 hu I2 g ry fun w' s3 I3 rw' => ⟨_, H2, I3, rw', q2⟩
theorem pe_dpop1 (ho : PE X o td) (he : PE X e ty) (m : M1 X o "pop" apos e cpos) : PE X (.Call (.Attribute o "pop" apos) [e] [] cpos) (tDPop1 td ty) := by
  intro pins s σ H Q I h
  refine wpAny_Call_method m.base m.few m.line PySem.F.plainAttrs_dict PySem.F.slot_dict_pop PySem.F.type_dict_pop (thn (ho pins s σ H _ I h) fun u s1 ⟨x, H1, I1, rx, a, ex, d, q1⟩ => ?_)
  subst ex
  obtain rfl : u = Value.ref a := rx
  obtain ⟨t1, t2, _⟩ := isD_at I1 d
  refine ⟨t1, t2, ?_⟩
  rw [m.trees]
  refine Calls.callWith_builtin rfl (Calls.evalArgs_plain (Calls.spliced_cons (thn (he pins s1 σ H1 _ I1 q1) fun iv s2 ⟨y, H2, I2, ry, kvs, k, v, ea, ey, l, q2⟩ => Calls.spliced_nil ?_)))
  subst ey
  exact d_pop I2 ea ry l (.inl rfl) fun w' s3 I3 rw' => ⟨v, _, I3, rw', q2⟩
end
section
variable {X : Cx} {pins : List (Addr × Obj)} {σ : St} {H : Hp} {s : Shared} {a : Addr} {kvs : List (Key × V)} {A : Around} {E : Value → Shared → Prop}
end
section
variable {X : Cx} {pins : List (Addr × Obj)} {σ : St} {H : Hp} {s : Shared} {a : Addr} {y : V} {u : Value} {A : Around} {E : Value → Shared → Prop}
end
end L2
namespace L2
open PySem PySem.Spec PyProof.Rows
section
variable {prog : Program} {w : World} {A : Around} {E : Value → Shared → Prop}
end
section
variable {X : Cx}
end
end L2
namespace L2
open PySem PySem.Spec PyProof.Rows
section
variable {X : Cx} {pins : List (Addr × Obj)} {σ : St} {H : Hp} {s : Shared} {h' : Heap}
theorem Inv.turnedNew {t' : Nat} {ch : List Addr} {T : Addr} {ob : HO} (I : Inv X pins σ H s) (k : ∀ b o, b ∉ ch → s.heap.get? b = some o → h'.get? b = some o) (hf : ∀ b ∈ ch, FpOk X pins H b) (hT : s.heap.objs.size ≤ T)
    (new : ObjOk X.prog X.w (upd H T ob) h' T ob) : Inv X pins σ (upd H T ob) { s with heap := h', toks := t' } := by
  have hn : H T = none := I.hok.fresh hT
  have nit : ∀ b u, H b = some u → b ∉ ch := fun b u e z => by
    have q := (hf b z).1
    rw [q] at e; cases e
  refine I.step (g' := s.gens) (d' := s.drawn) (ch := ch) (fun b hb => ⟨(hf b hb).2.2.2.1, (hf b hb).2.1, (hf b hb).2.2.2.2.1, (hf b hb).2.2.2.2.2⟩) (fun b o _ _ hc e _ => k b o hc e) (fun b o _ _ hc e _ => ⟨o.slots, k b o hc e⟩)
    (fun b o _ e n => ?_) (fun b o hc e => ⟨o, k b o hc e⟩) (fun b xs e => ?_) (fun b o u e => ?_) (fun b ps e => ⟨#[], ?_⟩) (fun m hm => ?_) (fun b u e => ?_) I.bare
  · rw [upd_ne (Nat.ne_of_lt (Nat.lt_of_lt_of_le (Heap.lt_size e) hT))]; exact n
  · rw [upd_ne (ne_of_none e hn)]; exact e
  · rw [upd_ne (ne_of_none e hn)]; exact e
  · rw [upd_ne (ne_of_none e hn), e]; simp
  · obtain ⟨o, es, ep, ho, r⟩ := hm
    exact ⟨o, es, ep, k _ o (fun z => (hf _ z).2.1 rfl) ho, r⟩
  · by_cases hb : b = T
    · subst hb
      rw [upd_same] at e
      cases e
      exact new
    · rw [upd_ne hb] at e
      refine (I.hok b u e).stay (fun c v hc q => k c v ?_ q) (fun c q => by rw [upd_ne (ne_of_none q hn)]; exact q) fun c xs q => by rw [upd_ne (ne_of_none q hn)]; exact q
      rcases hc with z | z
      · rw [z]; exact nit b u e
      · exact nit c _ z
theorem Inv.lock {d : Addr} {u : HO} (I : Inv X pins σ H s) (h : H d = some u) (mu : Mut (some u)) : ∃ od, Inv X pins σ (upd H d (.frz od u)) s := by
  have x := I.hok d u h
  have ex : ∃ od, s.heap.get? d = some od := by
    cases u with
    | lst xs => obtain ⟨_, _, _, _, e⟩ := x; exact ⟨_, e⟩
    | dK kvs => obtain ⟨_, _, _, _, o, _, _, e, _⟩ := x; exact ⟨o, e⟩
    | dT kvs => obtain ⟨_, _, _, _, o, _, _, e, _⟩ := x; exact ⟨o, e⟩
    | set S n => obtain ⟨o, _, _, _, e, _⟩ := x; exact ⟨o, e⟩
    | ins C dx fs => obtain ⟨_, _, _, e, _⟩ := x; exact ⟨_, e⟩
    | ext φ => obtain ⟨_, ⟨_, e⟩, _⟩ := x; exact ⟨_, e⟩
    | _ => exact False.elim mu
  obtain ⟨od, e⟩ := ex
  have new : ObjOk X.prog X.w (upd H d (.frz od u)) s.heap d (.frz od u) := by
    refine ⟨e, x.stay (fun b v _ q => q) (fun b q => ?_) fun b xs q => ?_⟩
    · rw [upd_ne (fun z => by rw [z, h] at q; cases q; exact mu)]; exact q
    · rw [upd_ne (fun z => by rw [z, h] at q; cases q; exact mu)]; exact q
  exact ⟨od, I.write (x := d) (e := d) (t' := s.toks) (h' := s.heap) (by rw [h]; exact mu) (.inl rfl) (fun b v _ q => q) ⟨od, e⟩ new⟩
theorem Inv.nofrz {d : Addr} {u : HO} (I : Inv X pins σ H s) (h : H d = some u) (mu : Mut (some u)) : ∀ o' u', X.H_0 d ≠ some (.frz o' u') := fun o' u' e => by
  have q := I.base.frzs d o' u' e
  rw [h] at q
  cases q
  exact mu
theorem Inv.unlock {d : Addr} {od : Obj} {u : HO} (I : Inv X pins σ H s) (h : H d = some (.frz od u)) (hn : ∀ o' u', X.H_0 d ≠ some (.frz o' u')) : Inv X pins σ (upd H d u) s := by
  have neH : ∀ b o, H b = some o → (∀ o' u', o ≠ .frz o' u') → b ≠ d := fun b o e hne z => by
    rw [z, h] at e
    cases e
    exact hne _ _ rfl
  have neN : ∀ b, H b = none → b ≠ d := fun b e z => by rw [z, h] at e; cases e
  refine ⟨I.ok, I.os, I.bare, ⟨I.base.keep, I.base.slot, fun b o e n hx => ?_, I.base.there, fun b xs e => ?_, fun b o x e => ?_, fun b ps e => ?_⟩, I.loc, I.cell, ?_, fun x c e => ?_, fun p hp => ?_, fun b o e => ?_, I.len⟩
  · rw [upd_ne (neN b (I.base.free b o e n hx))]; exact I.base.free b o e n hx
  · have q := I.base.tups b xs e
    rw [upd_ne (neH b _ q (fun _ _ z => nomatch z))]; exact q
  · have q := I.base.frzs b o x e
    rw [upd_ne (fun z => by rw [z] at e; exact hn _ _ e)]; exact q
  · obtain ⟨m, q⟩ := I.base.tbls b ps e
    exact ⟨m, by rw [upd_ne (neH b _ q (fun _ _ z => nomatch z))]; exact q⟩
  · rw [upd_ne (neN _ I.free)]; exact I.free
  · rw [upd_ne (neN c (I.freeC x c e))]; exact I.freeC x c e
  · obtain ⟨e, n, r⟩ := I.pin p hp
    exact ⟨e, by rw [upd_ne (neN _ n)]; exact n, r⟩
  · by_cases hb : b = d
    · rw [hb, upd_same] at e
      cases e
      rw [hb]
      obtain ⟨_, x⟩ := I.hok d _ h
      exact x.stay (fun c v _ q => q) (fun c q => by rw [upd_ne (neH c _ q (fun _ _ z => nomatch z))]; exact q) fun c xs q => by rw [upd_ne (neH c _ q (fun _ _ z => nomatch z))]; exact q
    · rw [upd_ne hb] at e
      exact (I.hok b o e).stay (fun c v _ q => q) (fun c q => by rw [upd_ne (neH c _ q (fun _ _ z => nomatch z))]; exact q) fun c xs q => by rw [upd_ne (neH c _ q (fun _ _ z => nomatch z))]; exact q
end
def tLockE (t : TE) : TE := fun σ H Q => ∃ d u, H d = some u ∧ Mut (some u) ∧ ∀ od, t σ (upd H d (.frz od u)) fun v H' => H' d = some (.frz od u) ∧ Q v (upd H' d u)
section
variable {X : Cx}
theorem pe_lock {e : Expr} {t : TE} (h : PE X e t) : PE X e (tLockE t) := by
  intro pins s σ H Q I hw
  obtain ⟨d, u, hd, mu, hw⟩ := hw
  obtain ⟨od, I1⟩ := I.lock hd mu
  refine thn (h pins s σ _ _ I1 (hw od)) fun v s1 ⟨x, H1, I2, r, e2, q⟩ => ?_
  exact ⟨x, _, I2.unlock e2 (I.nofrz hd mu), r, q⟩
theorem pi_one {tg : Expr} {pins : List (Addr × Obj)} {σ : St} {H : Hp} {s : Shared} {R : It → Hp → Prop} {J : It} {tn : Nat → Heap → Prop} {tk : Nat} (I : Inv X pins σ H s) (o : Obj)
    (T : Turn X.prog X.w X.K tg J [s.heap.objs.size] s.heap.objs.size tn) (st : tn 0 (s.heap.push o)) (q : R J H) : PIE X pins σ tg R (.ref s.heap.objs.size) { s with heap := s.heap.push o, toks := tk } := by
  refine ⟨s.heap.objs.size, [s.heap.objs.size], tn, J, H, rfl, I.kept fun b ob e => Heap.get?_push_of_some _ e, T, st, fun b hb => ?_, q⟩
  have e : b = s.heap.objs.size := by simpa using hb
  subst e
  exact I.fpOk (Nat.le_refl _) (I.hok.fresh (Nat.le_refl _))
end
section
variable {X : Cx} {tg : Expr}
end
section
variable {X : Cx} {tg : Expr}
end
section
variable {prog : Program} {w : World} {A : Around} {E : Value → Shared → Prop} {s : Shared}
end
theorem kv_get {κ : Type} {kvs : List (κ × V)} {vs : List (κ × Value)} (h : KV kvs vs) : ∀ {i : Nat} {k : κ} {v : V}, kvs[i]? = some (k, v) → ∃ u, vs[i]? = some (k, u) ∧ RelV v u := by
  unfold KV at h
  induction h with
  | nil => intro i k v e; simp at e
  | @cons a b l₁ l₂ r t ih =>
    intro i k v e
    cases i with
    | zero =>
      simp only [List.getElem?_cons_zero, Option.some.injEq] at e
      subst e
      refine ⟨b.2, ?_, r.2⟩
      simp only [List.getElem?_cons_zero]
      exact congrArg some (Prod.ext r.1.symm rfl)
    | succ j =>
      simp only [List.getElem?_cons_succ] at e ⊢
      exact ih e
section
variable {X : Cx} {pins : List (Addr × Obj)} {σ : St} {H : Hp} {s : Shared} {d : Addr} {o : Obj}
theorem Inv.frzK {kvs : List (Key × V)} (I : Inv X pins σ H s) (h : H d = some (.frz o (.dK kvs))) :
    (d == sysModules) = false ∧ s.heap.get? d = some o ∧ o.ExactDict ∧ ∃ (es : Array DictEntry) (ep : Nat) (vs : List (Key × Value)), o.data = .dict es ep ∧ es.size = kvs.length ∧ KV kvs vs ∧ s.heap.DictAt (mixKind X.prog X.w) d vs ep := by
  obtain ⟨hd, z, hs, vs, kv, o', es, ep, ho, hx, hdt, r⟩ := I.hok d _ h
  rw [hd] at ho
  cases ho
  refine ⟨hs, hd, hx, es, ep, vs, hdt, ?_, kv, o, es, hd, hx, hdt, r⟩
  have l1 := r.2.1.length
  have l2 : kvs.length = vs.length := Paired.length kv
  rw [Array.length_toList] at l1
  omega
end
def Itd (d : Addr) (o : Obj) (kvs : List (Key × V)) : It :=
  ⟨fun i H => H d = some (.frz o (.dK kvs)) ∧ i < kvs.length, fun i H x H' => H' = H ∧ ∃ k, kvs[i]? = some (k, x), fun i H => H d = some (.frz o (.dK kvs)) ∧ kvs.length ≤ i⟩
theorem dict_ep {o : Obj} {es es' : Array DictEntry} {ep ep' : Nat} (h : o.data = .dict es ep) (h' : o.data = .dict es' ep') : es' = es ∧ ep' = ep := by
  rw [h] at h'
  cases h'
  exact ⟨rfl, rfl⟩
section
variable {P : Program} {w : World} {K : PySem.W.Frag} {tg : Expr} {d : Addr} {o : Obj} {es : Array DictEntry} {ep : Nat}
theorem turn_vals {kvs : List (Key × V)} (it : Addr) (hod : o.data = .dict es ep) : Turn P w K tg (Itd d o kvs) [it] it (fun i h => h.IsValIter it d i kvs.length ep) where
  mem := by simp
  obj := fun i h st b hb => by
    have e : b = it := by simpa using hb
    subst e
    obtain ⟨oi, e, c, dd⟩ := st
    exact ⟨oi, e, fun v z => by rw [dd] at z; cases z⟩
  keep := fun i h h' st k => st.at fun oi e => k it (by simp) oi e
  item := by
    intro X hP hw hK hc i pins s σ H E I hf st hg
    subst hP hw hK
    obtain ⟨hd, hi⟩ := hg
    obtain ⟨f0, f1, f2, f3, f4, f5⟩ := hf it (by simp)
    obtain ⟨hs, hgd, hx, es', ep', vs, hdt, hsz, kv, hm⟩ := I.frzK hd
    obtain ⟨rfl, rfl⟩ := dict_ep hod hdt
    obtain ⟨⟨k, v⟩, hkv⟩ : ∃ p, kvs[i]? = some p := ⟨kvs[i], List.getElem?_eq_getElem hi⟩
    obtain ⟨u, hu, ru⟩ := kv_get kv hkv
    have hl : kvs.length = vs.length := Paired.length kv
    rw [hl] at st
    refine wpAny_pyNext_values_item st hm hu fun h' st' sb => ?_
    have I1 : Inv X pins σ H { s with heap := h' } := I.turned (t' := s.toks) (fun b ob hb e => (sb.2 b hb).trans e) f0 f1 f3 f4 f5
    obtain ⟨oi, e, c, dd⟩ := id st'
    refine ⟨u, rfl, go_of (s := { s with heap := h' }) e c dd (by decide) ⟨v, H, I1, ru, ⟨rfl, k, hkv⟩, ?_, fun b hb => (hf b hb).1⟩⟩
    show h'.IsValIter it d (i + 1) kvs.length _
    rw [hl]
    exact st'
  done := by
    intro X hP hw hK hc i pins s σ H E I hf st hg
    subst hP hw hK
    obtain ⟨hd, hi⟩ := hg
    obtain ⟨f0, f1, f2, f3, f4, f5⟩ := hf it (by simp)
    obtain ⟨hs, hgd, hx, es', ep', vs, hdt, hsz, kv, hm⟩ := I.frzK hd
    obtain ⟨rfl, rfl⟩ := dict_ep hod hdt
    have hl : kvs.length = vs.length := Paired.length kv
    rw [hl] at st
    exact wpAny_pyNext_values_end (I.ok.hd hc) st hm (List.getElem?_eq_none (by omega)) fun h' eb => ⟨rfl, I.turned (t' := s.toks) (fun b ob hb e => eb b ob hb e) f0 f1 f3 f4 f5⟩
  self := fun A i s Q E st h => wpAny_pyIter_valiter st h
end
def iVals (td : TE) : TI := fun σ H R => td σ H fun x H1 => ∃ d o kvs, x = .ref d ∧ H1 d = some (.frz o (.dK kvs)) ∧ R (Itd d o kvs) H1
section
variable {X : Cx} {tg e : Expr} {td : TE} {apos cpos : Pos}
theorem pi_values (he : PE X e td) (hbase : attributeBase e "values" X.env (eval e X.env) = eval e X.env := by rfl) (hline : (apos.endLine == cpos.line) = true := by rfl) : PI X tg (.Call (.Attribute e "values" apos) [] [] cpos) (iVals td) := by
  intro pins s σ H R I h
  refine wpAny_Call_method (T := "dict") (id := "dict.values") hbase rfl hline F.plainAttrs_dict F.slot_dict_values F.type_dict_values (thn (he pins s σ H _ I h) fun u s1 ⟨x, H1, I1, rx, d, o, kvs, ex, hd, q⟩ => ?_)
  subst ex
  obtain rfl : u = Value.ref d := rx
  obtain ⟨hs, hgd, hx, es, ep, vs, hdt, hsz, kv, hm⟩ := I1.frzK hd
  have hl : kvs.length = vs.length := Paired.length kv
  refine ⟨hm.dictOf.typeIs, hm.dictOf.mapOf.noDict, ?_⟩
  have I2 : Inv X pins σ H1 { s1 with heap := s1.heap.push { cls := .type "dict_values", data := .fields #[.ref d] } } := I1.kept (t' := s1.toks) fun b ob q => Heap.get?_push_of_some _ q
  have fin : wpAny (model X.prog X.w) X.A (pyIter (.ref s1.heap.objs.size)) (PIE X pins σ tg R) X.xe { s1 with heap := s1.heap.push { cls := .type "dict_values", data := .fields #[.ref d] } } := by
    refine wpAny_pyIter_values (d := d) (knd := mixKind X.prog X.w) ⟨_, Heap.get?_push_size _ rfl, rfl, rfl⟩ (hm.push _) (pi_one (tk := s1.toks) I2 _ (turn_vals _ hdt) ⟨_, Heap.get?_push_size _ rfl, rfl, ?_⟩ q)
    rw [hl] <;> rfl
  show wpAny _ _ (callWith cpos (.builtin "dict.values") [.ref d] [] []) _ X.xe s1
  exact method_meetsIn F.slot_dict_values F.entry_dict_values rfl (PySem.evalArgs_none ⟨rfl, hm.dictOf.typeIs, F.args_dict_values_1 _, _, meets_dict_values (mixKind X.prog X.w) d hs, ⟨vs, hm.dictOf⟩, fin⟩)
end
def Ite (K : PySem.W.Frag) (a : Addr) : It :=
  ⟨fun i H => ∃ (xs : List V) (x : V), SqL K H a xs ∧ xs[i]? = some x, fun i H v H' => ∃ T x, v = .ref T ∧ H T = none ∧ H' = upd H T (.tup [.int (i : Nat), x]) ∧ ∀ xs, SqL K H a xs → xs[i]? = some x, fun i H => ∃ xs : List V, SqL K H a xs ∧ xs.length ≤ i⟩
theorem turn_enum {P : Program} {w : World} {K : PySem.W.Frag} {elts : List Expr} {kk : Nat} {tpos : Pos} (a e it : Addr) :
    Turn P w K (.Tuple elts kk tpos) (Ite K a) [e, it] e (fun i h => (∃ old, IsEnum h e it ((i : Nat) : Int) old) ∧ h.IsListIter it a i ∧ e ≠ it) where
  mem := by simp
  obj := fun i h st b hb => by
    obtain ⟨⟨old, he⟩, ⟨o, ho, hc, hd⟩, _⟩ := st
    have e' : b = e ∨ b = it := by simpa using hb
    rcases e' with z | z
    · rw [z]; exact ⟨_, he, fun v q => nomatch q⟩
    · rw [z]; exact ⟨o, ho, fun v q => by rw [hd] at q; cases q⟩
  keep := fun i h h' st k => let ⟨⟨old, he⟩, hi, hne⟩ := st; ⟨⟨old, k e (by simp) _ he⟩, hi.at fun o q => k it (by simp) o q, hne⟩
  item := by
    intro X hP hw hK hc i pins s σ H E I hf st hg
    subst hP hw hK
    obtain ⟨⟨old, he⟩, hit, hne⟩ := st
    obtain ⟨xs, x, hq, hx⟩ := hg
    obtain ⟨its, rv, p, hz⟩ := I.list hq
    obtain ⟨u, hu, ru⟩ := rv.get hx
    have hel : e < s.heap.objs.size := Heap.lt_size he
    have hil : it < s.heap.objs.size := by obtain ⟨_, q, _⟩ := hit; exact Heap.lt_size q
    refine wpAny_pyNext_enum_item he hit p.isList (x := u) (by simpa using hu) hne fun h' ho hit' hT hsz hk => ?_
    refine ⟨_, rfl, wpAny_letOwnedTupleGo_enum (s := { s with heap := h', toks := s.toks + 1 }) ho fun h'' he' sb => ?_⟩
    have hT2 : h''.get? s.heap.objs.size = some { cls := .type "tuple", data := .seq #[.int i s.toks, u] } := (sb.2 _ (Nat.ne_of_gt hel)).trans hT
    have new : ObjOk X.prog X.w (upd H s.heap.objs.size (.tup [.int (i : Nat), x])) h'' s.heap.objs.size (.tup [.int (i : Nat), x]) :=
      ⟨by show 2 ≤ sizeLine; decide, [.int i s.toks, u], .cons ⟨_, rfl⟩ (.cons ru .nil), ⟨_, hT2, rfl, _, rfl⟩⟩
    have I1 : Inv X pins σ (upd H s.heap.objs.size (.tup [.int (i : Nat), x])) { s with heap := h'', toks := s.toks + 1 } :=
      I.turnedNew (ch := [e, it]) (fun b ob hb q => (sb.2 b (fun z => hb (by simp [z]))).trans (hk b ob (fun z => hb (by simp [z])) (fun z => hb (by simp [z])) q)) hf (Nat.le_refl _) new
    refine ⟨.ref s.heap.objs.size, _, I1, rfl, ⟨_, x, rfl, I.hok.fresh (Nat.le_refl _), rfl, fun ys hy => by rw [I.list_inj hy hq]; exact hx⟩, ⟨⟨u, ?_⟩, hit'.at fun o q => (sb.2 it (Ne.symm hne)).trans q, hne⟩, fun b hb => ?_⟩
    · have e1 : ((i + 1 : Nat) : Int) = (i : Int) + 1 := by omega
      rw [e1]; exact he'
    · have hb' : b < s.heap.objs.size := by
        have e' : b = e ∨ b = it := by simpa using hb
        rcases e' with z | z
        · rw [z]; exact hel
        · rw [z]; exact hil
      rw [upd_ne (Nat.ne_of_lt hb')]
      exact (hf b hb).1
  done := by
    intro X hP hw hK hc i pins s σ H E I hf st hg
    subst hP hw hK
    obtain ⟨⟨old, he⟩, hit, hne⟩ := st
    obtain ⟨xs, hq, hx⟩ := hg
    obtain ⟨its, rv, p, hz⟩ := I.list hq
    obtain ⟨f0, f1, f2, f3, f4, f5⟩ := hf it (by simp)
    have hl := rv.length
    exact wpAny_pyNext_enum_end (I.ok.hd hc) he hit p.isList (by simp; omega) fun h' eb => ⟨rfl, I.turned (t' := s.toks) (fun b o hb q => eb b o hb q) f0 f1 f3 f4 f5⟩
  self := fun A i s Q E st h => let ⟨⟨_, he⟩, _⟩ := st; wpAny_pyIter_enum he h
def iEnum (K : PySem.W.Frag) (ta : TA) : TI := fun σ H R => ta σ H fun vs H1 => ∃ a xs, vs = [.ref a] ∧ SqL K H1 a xs ∧ R (Ite K a) H1
theorem pi_enum {X : Cx} {e : Expr} {ta : TA} {p pos tpos : Pos} {elts : List Expr} {kk : Nat} (hg : Gl X "enumerate") (hm : X.mg "enumerate" = none) (ha : PA X [e] ta) (hs : starEach [e] X.env = [(false, eval e X.env)] := by rfl) :
    PI X (.Tuple elts kk tpos) (.Call (.Name "enumerate" p) [e] [] pos) (iEnum X.K ta) := by
  intro pins s σ H R I h
  refine Call_ (ld_blt I hg hm boot_enumerate (PyProof.Rows.callWith_type1 (thn (ha pos pins s σ H _ I h) fun us s1 ⟨vs, H1, I1, r1, q1⟩ => ?_) hs rfl))
  obtain ⟨a, xs, ex, hq, q⟩ := q1
  subst ex
  cases r1 with
  | cons r rr =>
    cases rr
    cases r
    obtain ⟨its, rv, p', hz⟩ := I1.list hq
    refine call_enumerate_list p'.isList fun h' he hit hsz hk => wpAny_pyIter_enum he ?_
    have I2 : Inv X pins σ H1 { s1 with heap := h' } := I1.kept (t' := s1.toks) hk
    refine ⟨s1.heap.objs.size + 1, [s1.heap.objs.size + 1, s1.heap.objs.size], _, _, H1, rfl, I2, turn_enum a (s1.heap.objs.size + 1) s1.heap.objs.size, ⟨⟨.none, he⟩, hit, Nat.succ_ne_self _⟩, fun b hb => ?_, q⟩
    have e' : b = s1.heap.objs.size + 1 ∨ b = s1.heap.objs.size := by simpa using hb
    have hle : s1.heap.objs.size ≤ b := by
      rcases e' with z | z
      · rw [z]; exact Nat.le_add_right _ _
      · rw [z]; exact Nat.le_refl _
    exact I1.fpOk hle (I1.hok.fresh hle)
end L2
section
namespace Bits
open PySem PyProof.Rows
end Bits
end
section
namespace TL
open PySem PySem.Builtin PySem.Builtin.Str PySem.StrLaws
end TL
end
namespace L2
open PySem PySem.Spec PyProof.Rows
section
variable {X : Cx} {pins : List (Addr × Obj)} {σ : St} {H : Hp} {s : Shared} {Q : VK}
end
section
variable {X : Cx}
end
section
variable {X : Cx} {o e : Expr} {to te : TE}
end
end L2
namespace L2
open PySem PySem.Spec PyProof.Rows
section
variable {X : Cx}
end
end L2
namespace Att
open PySem PySem.W PySem.Calls PyProof.Rows
section
variable {prog : Program} {w : World} {A : Around} {E : Value → Shared → Prop} {s : Shared} {K : Frag}
end
end Att
namespace L2
open PySem PySem.Spec PyProof.Rows
end L2
namespace L2
open PySem PySem.Spec PyProof.Rows
end L2
/- THE LAST THEOREM (shape; LID, My.* are yours):
   My.Adr: a structure of the addresses that your layer names (classes, functions); My.Txt K t: a structure (Prop) of the equations over K;
   My.txt_mk : {K} {implicit addresses ..} (e1 : nsIn K mainGlobals "law" = some (some (.ref f))) (e2 : K.lookup f = some ⟨oc, od, .func (fnOf "law" "law" params body scope dV kV doc pm an cdv ct), sl⟩) (e3 : codeIn K cdv "law" = true) .. : ∃ t, My.Txt K t
set_option maxRecDepth 100000 in
set_option maxHeartbeats 0 in
theorem PySem.Challenge.cw_LID_holds : PySem.Challenge.rw_LID.Holds := by
  w_on; o_law; k_head; (case hw => w_witness2)
  k_fill
  refine L2.walk_of (l := PySem.Challenge.rw_LID) (n := 63) (k := 40) (x := "script") (CX := fun w => ..) (sp := fun _ => My.sp_law) rfl (by decide) rfl ⟨rfl, by decide, by decide⟩ (fun w h Y => PySem.W.kIn_of Y) ?F ?S ?C
  case F =>
    intro w mg fa h KX G hmg
    have T : ∃ t, My.Txt (L2.KOf KX) t := by
      dsimp only [L2.KOf]                          -- K must stand as «<heap const> w.params» for k_is
      refine' My.txt_mk ?e1 ?e2 ?e3 ..
      (case e1 => PySem.W.k_is)                    -- in the order: a name -> its address -> its object -> its parts
      (case e2 => PySem.W.k_is)
      ..
    obtain ⟨t, T⟩ := T
    have e0 := hmg.symm.trans (PySem.W.mg_of KX G T.law)
    cases e0                                       -- fa is the law's own address
    exact ⟨_, fun s u => .of_eq rfl, fun base kb nb => My.law_fn T kb nb⟩     -- if «.of_eq rfl» comes too early: refine' ⟨_, ?b, fun base kb nb => My.law_fn T kb nb⟩; exact fun s u => .of_eq rfl
  case S => exact fun w H a ns hl hO hS => ..
  case C => exact ..
(the tactic k_is has no namespace: write k_is) -/
namespace L2
open PySem PySem.Spec PyProof.Rows
def inClass (s : Stmt) (j : Nat) : Stmt := match s with
  | .ClassDef _ _ _ body _ _ _ _ _ _ _ => body.getD j (.Pass ⟨0, 0, 0, 0⟩)
  | _ => .Pass ⟨0, 0, 0, 0⟩
def defArgs (s : Stmt) : Arguments := match s with
  | .FunctionDef _ a _ _ _ _ _ _ _ _ => a
  | _ => { posonlyargs := [], args := [], vararg := none, kwonlyargs := [], kw_defaults := [], kwarg := none, defaults := [] }
def defBody (s : Stmt) : List Stmt := match s with
  | .FunctionDef _ _ b _ _ _ _ _ _ _ => b
  | _ => []
def defScope (s : Stmt) : Scope := match s with
  | .FunctionDef _ _ _ _ _ _ sc _ _ _ => sc
  | _ => { kind := .function, names := [], isGenerator := false, isCoroutine := false }
abbrev CX0 : CXT := fun _ _ _ _ _ _ => False
abbrev E0 : XK := fun _ _ _ => False
theorem pass0 {X : Cx} : Passes CX0 X E0 := fun _ _ _ _ _ _ _ h => h.elim
structure Fun (K : PySem.W.Frag) (x qual : Str) (st : Stmt) (f : Addr) (fd : FuncData) : Prop where
  ex : ∃ (oc : Value) (od : Option Addr) (kV doc pm : Value) (an : Option Addr) (cdv ct : Value) (osl : Array (Option Value)),
    fd = PySem.W.fnOf x qual (defArgs st) (defBody st) (defScope st) .none kV doc pm an cdv ct ∧ K.lookup f = some ⟨oc, od, .func fd, osl⟩ ∧ PySem.W.codeIn K cdv qual = true
  kp : PySem.W.keepIn K (.ref f) = true
section
variable {P : Program} {w : World} {K : PySem.W.Frag} {mg : Str → Option Value} {base : Heap}
theorem Fun.ok {x qual : Str} {st : Stmt} {f : Addr} {fd : FuncData} {N ps : List Str} {k : Nat} {sp : Sp} (F : Fun K x qual st f fd) (S : FnScope N ps (defScope st)) (len : ∀ vs H Q E, sp vs H Q E → vs.length = ps.length)
    (hbody : ∀ (cdv : Value) (A : Around) (outer : List Env) (s : Shared) (H : Hp) (vs : List V) (Q : VK) (E : XK), Room k (A.deeper (envOfC qual (defScope st) s.heap.objs.size f cdv)) → sp vs H Q E →
      ∃ t, PSs (cxOf CX0 P w K mg base N qual (defScope st) f cdv A outer s H E).nox (defBody st) t ∧ t { nx := fun _ H' => Q .non H', rt := Q } (start N vs) H) : FnOk P w K mg base CX0 (k + 1) f fd ps sp := by
  obtain ⟨oc, od, kV, doc, pm, an, cdv, ct, osl, rfl, lk, hcd⟩ := F.ex
  refine fn_of lk hcd S len fun A outer s H vs Q E hr hsp => ?_
  obtain ⟨t, h, q⟩ := hbody cdv A outer s H vs Q E hr hsp
  exact ⟨t, h.nox, q⟩
theorem Fun.binds {x qual : Str} {st : Stmt} {f : Addr} {fd : FuncData} {ps : List Str} (F : Fun K x qual st f fd)
    (h : ∀ (kV doc pm : Value) (an : Option Addr) (cdv ct : Value) (us : List Value), us.length = ps.length → bindArgs (PySem.W.fnOf x qual (defArgs st) (defBody st) (defScope st) .none kV doc pm an cdv ct) ⟨us, []⟩ = pure (ps.zip us)) : Binds K fd ps [] := by
  obtain ⟨oc, od, kV, doc, pm, an, cdv, ct, osl, rfl, lk, hcd⟩ := F.ex
  exact .all (h kV doc pm an cdv ct)
theorem fun_mk {x qual : Str} {st : Stmt} {f : Addr} {oc : Value} {od an : Option Addr} {osl : Array (Option Value)} {kV doc pm cdv ct : Value} (l : K.lookup f = some ⟨oc, od, .func (PySem.W.fnOf x qual (defArgs st) (defBody st) (defScope st) .none kV doc pm an cdv ct), osl⟩)
    (c : PySem.W.codeIn K cdv qual = true) (k : PySem.W.keepIn K (.ref f) = true) : Fun K x qual st f (PySem.W.fnOf x qual (defArgs st) (defBody st) (defScope st) .none kV doc pm an cdv ct) := ⟨⟨oc, od, kV, doc, pm, an, cdv, ct, osl, rfl, l, c⟩, k⟩
end
theorem hu_of {A : Around} {k : Nat} (hr : Room k A) : A.units + 1 < cLine := Nat.lt_of_le_of_lt (Nat.add_le_add_left (by decide : 1 ≤ 64) _) hr.units
section
variable {X : Cx}
theorem pv (i : Nat) {x : Str} {pos : Pos} (hN : X.N[i]? = some x := by rfl) (hv : Vis X.env.scope x := by first | exact Or.inl rfl | exact Or.inr (Or.inl rfl) | exact Or.inr (Or.inr rfl)) (hd : (x == ("__debug__" : Str)) = false := by decide)
    (hcd : (x == ("__classdict__" : Str)) = false := by decide) : PE X (.Name x pos) (tVar i) := pe_var hN hv hd hcd
theorem call_lenD : CallR X (.builtin "len") (fun xs H Q => ∃ a kvs, xs = [V.ref a] ∧ H a = some (.dK kvs) ∧ Q (.int kvs.length) H) := by
  intro pins s σ H xs us Q I r h
  obtain ⟨a, kvs, rfl, ha, q⟩ := h
  obtain ⟨u, rfl, ru⟩ := vals1 r
  cases ru
  exact d_len I (.inl ha) fun t s' I' => ⟨.int kvs.length, H, I', ⟨t, rfl⟩, q⟩
end
theorem iteF {A B : Prop} (h : B) : if false = true then A else B := by
  rw [if_neg Bool.false_ne_true]
  exact h
theorem iteT {A B : Prop} (h : A) : if true = true then A else B := by
  rw [if_pos rfl]
  exact h
theorem ite2 {c A B : Prop} [Decidable c] (h1 : c → A) (h2 : ¬ c → B) : if c then A else B := by
  by_cases h : c
  · rw [if_pos h]
    exact h1 h
  · rw [if_neg h]
    exact h2 h
def Same (H H' : Hp) : Prop := ∀ b o, H b = some o → H' b = some o
theorem Same.refl (H : Hp) : Same H H := fun _ _ h => h
theorem Same.trans {H H1 H2 : Hp} (a : Same H H1) (b : Same H1 H2) : Same H H2 := fun c o h => b c o (a c o h)
theorem Same.free {H H' : Hp} (e : Same H H') {l : Addr} (h : H' l = Option.none) : H l = Option.none := by
  cases q : H l with
  | none => rfl
  | some o =>
    rw [e l o q] at h
    cases h
theorem Same.seq {K : PySem.W.Frag} {H H' : Hp} {a : Addr} {xs : List V} (e : Same H H') (h : SqL K H a xs) : SqL K H' a xs := by
  rcases h with (h | ⟨o, h⟩) | h
  · exact .inl (.inl (e _ _ h))
  · exact .inl (.inr ⟨o, e _ _ h⟩)
  · exact .inr h
section
variable {κ : Type} [DecidableEq κ]
theorem nd_snoc : ∀ {l : List κ} {k : κ}, l.Nodup → ¬ k ∈ l → (l ++ [k]).Nodup
  | [], k, _, _ => by simp
  | a :: r, k, h, hk => by
    obtain ⟨h1, h2⟩ := List.nodup_cons.mp h
    show (a :: (r ++ [k])).Nodup
    refine List.nodup_cons.mpr ⟨fun m => ?_, nd_snoc h2 fun m => hk (List.mem_cons.mpr (Or.inr m))⟩
    rcases List.mem_append.mp m with q | q
    · exact h1 q
    · exact hk (List.mem_cons.mpr (Or.inl (List.mem_singleton.mp q).symm))
end
theorem at_of {xs : List V} {z : Int} {j : Nat} {v : V} (e : z = (j : Int)) (h : xs[j]? = some v) : atI xs z = some v := by
  rw [e]
  exact atI_nat h
theorem nd_ix {α : Type} {l : List α} (hN : l.Nodup) {i j : Nat} {x : α} (a : l[i]? = some x) (b : l[j]? = some x) : i = j := by
  obtain ⟨h1, e1⟩ := List.getElem?_eq_some_iff.mp a
  obtain ⟨h2, e2⟩ := List.getElem?_eq_some_iff.mp b
  exact (List.getElem_inj hN).mp (e1.trans e2.symm)
theorem Same.made {H H1 : Hp} {x dx C : Addr} (nx : H x = Option.none) (nd : H dx = Option.none) (k : ∀ b o, (upd (upd H dx (.own x)) x (.ins C dx [])) b = some o → b ≠ x → H1 b = some o) : Same H H1 := fun b o e =>
  k b o (by rw [upd_ne (ne_of_none e nx), upd_ne (ne_of_none e nd)]; exact e) (ne_of_none e nx)
end L2
end
section
section
namespace L2
open PySem PySem.Spec PyProof.Rows
open PySem.W (WData Codec OpenSpec Well WellAll ReadsW ReadsAllW)
mutual
inductive Dw (K : PySem.W.Frag) (H : Hp) : V → WData → Prop
  | non : Dw K H .non .none
  | bl (b : Bool) : Dw K H (.bl b) (.bool b)
  | int (i : Int) : Dw K H (.int i) (.int i)
  | str (x : Str) : Dw K H (.str x) (.str x)
  | byt (b : Array UInt8) : Dw K H (.byt b) (.bytes b.toList)
  | lst {a : Addr} {xs : List V} {ds : List WData} : SqL K H a xs → DwAll K H xs ds → Dw K H (.ref a) (.list ds)
  | tup {a : Addr} {xs : List V} {ds : List WData} : SqT K H a xs → DwAll K H xs ds → Dw K H (.ref a) (.tuple ds)
inductive DwAll (K : PySem.W.Frag) (H : Hp) : List V → List WData → Prop
  | nil : DwAll K H [] []
  | cons {v : V} {vs : List V} {d : WData} {ds : List WData} : Dw K H v d → DwAll K H vs ds → DwAll K H (v :: vs) (d :: ds)
end
theorem dw_ints {K : PySem.W.Frag} {H : Hp} : ∀ ns : List Int, DwAll K H (ns.map V.int) (ns.map WData.int)
  | [] => .nil
  | n :: r => .cons (.int n) (dw_ints r)
theorem ints_dw {K : PySem.W.Frag} {H : Hp} : ∀ (ns : List Int) (xs : List V), DwAll K H xs (ns.map WData.int) → xs = ns.map V.int
  | [], xs, h => by
    cases h
    rfl
  | n :: r, xs, h => by
    cases h with
    | cons h1 h2 =>
      cases h1
      rw [ints_dw r _ h2] <;> rfl
section
variable {P : Program} {w : World} {K : PySem.W.Frag} {H : Hp} {h : Heap} {R : PySem.W.WRecords} {cl : Str → Option Addr}
theorem sqL_at {a : Addr} {xs : List V} (hok : HOk P w H h) (KX : K.In h) (q : SqL K H a xs) : ∃ (its : List Value) (o : Obj) (n : Nat), Vals xs its ∧ h.get? a = some o ∧ o.cls = .type "list" ∧ o.data = .seq its.toArray n := by
  rcases q with q | ⟨o, its, n, e, hc, _, hd, _, hv⟩
  · obtain ⟨_, its, n, hv, e⟩ := (show ObjOk P w H h a (.lst xs) from q.ok hok)
    exact ⟨its, _, n, hv, e, rfl, rfl⟩
  · exact ⟨its.toList, o, n, hv, KX _ _ e, hc, by simp [hd]⟩
theorem sqT_at {a : Addr} {xs : List V} (hok : HOk P w H h) (KX : K.In h) (q : SqT K H a xs) : ∃ (its : List Value) (o : Obj) (n : Nat), Vals xs its ∧ h.get? a = some o ∧ o.cls = .type "tuple" ∧ o.data = .seq its.toArray n := by
  rcases q with q | ⟨o, its, n, e, hc, hd, _, hv⟩
  · obtain ⟨_, its, hv, o, e, hc, n, hd⟩ := (show ObjOk P w H h a (.tup xs) from q.ok hok)
    exact ⟨its, o, n, hv, e, hc, hd⟩
  · exact ⟨its.toList, o, n, hv, KX _ _ e, hc, by simp [hd]⟩
mutual
theorem Dw.reads (hok : HOk P w H h) (KX : K.In h) : ∀ (d : WData) (v : V) (u : Value), Dw K H v d → RelV v u → ∃ as, ReadsW R cl h u d as
  | .none, _, _, x, r => by
    cases x
    cases r
    exact ⟨_, ReadsW.none⟩
  | .bool b, _, _, x, r => by
    cases x
    cases r
    exact ⟨_, ReadsW.bool b⟩
  | .int i, _, _, x, r => by
    cases x
    obtain ⟨t, rfl⟩ := r
    exact ⟨_, ReadsW.int i t⟩
  | .str s, _, _, x, r => by
    cases x
    obtain ⟨t, rfl⟩ := r
    exact ⟨_, ReadsW.str s t⟩
  | .bytes b, _, _, x, r => by
    cases x
    obtain ⟨t, rfl⟩ := r
    exact ⟨_, ReadsW.bytes _ t⟩
  | .list ds, _, _, x, r => by
    cases x with
    | lst hs ha =>
      cases r
      obtain ⟨its, o, n, rv, ho, hc, hd⟩ := sqL_at hok KX hs
      obtain ⟨as, hr⟩ := Dw.readsAll hok KX ds _ its ha rv
      exact ⟨_, ReadsW.list ho hc hd hr⟩
  | .tuple ds, _, _, x, r => by
    cases x with
    | tup hs ha =>
      cases r
      obtain ⟨its, o, n, rv, ho, hc, hd⟩ := sqT_at hok KX hs
      obtain ⟨as, hr⟩ := Dw.readsAll hok KX ds _ its ha rv
      exact ⟨_, ReadsW.tuple ho hc hd hr⟩
  | .float _, _, _, x, _ => by cases x
  | .dict _, _, _, x, _ => by cases x
  | .bytearray _, _, _, x, _ => by cases x
  | .set _, _, _, x, _ => by cases x
  | .frozenset _, _, _, x, _ => by cases x
  | .obj _ _, _, _, x, _ => by cases x
theorem Dw.readsAll (hok : HOk P w H h) (KX : K.In h) : ∀ (ds : List WData) (vs : List V) (us : List Value), DwAll K H vs ds → Vals vs us → ∃ as, ReadsAllW R cl h us ds as
  | [], _, _, x, r => by
    cases x
    cases r
    exact ⟨_, ReadsAllW.nil⟩
  | d :: ds, _, _, x, r => by
    cases x with
    | cons h1 h2 =>
      cases r with
      | cons r1 r2 =>
        obtain ⟨as, q1⟩ := Dw.reads hok KX d _ _ h1 r1
        obtain ⟨bs, q2⟩ := Dw.readsAll hok KX ds _ _ h2 r2
        exact ⟨_, ReadsAllW.cons q1 q2⟩
end
end
mutual
def plW : WData → Bool
  | .none => true
  | .bool _ => true
  | .int _ => true
  | .str _ => true
  | .bytes _ => true
  | .list xs => plWs xs
  | .tuple xs => plWs xs
  | _ => false
def plWs : List WData → Bool
  | [] => true
  | x :: r => plW x && plWs r
end
theorem plWs_map {α : Type} {f : α → WData} (h : ∀ a, plW (f a) = true) : ∀ l : List α, plWs (l.map f) = true
  | [] => rfl
  | x :: r => by
    show (plW (f x) && plWs (r.map f)) = true
    rw [h x, plWs_map h r] <;> rfl
theorem pl_enc : ∀ (c : Codec) (a : c.denote), plW (c.enc a) = true
  | .unit, _ => rfl
  | .bool, _ => rfl
  | .int _ _, _ => rfl
  | .nat _ _, _ => rfl
  | .u8, _ => rfl
  | .bytes _ _, _ => rfl
  | .text _ _ _ _, _ => rfl
  | .list _ _ c, a => plWs_map (fun x => pl_enc c x) a
  | .pair c d, a => by
    show (plW (c.enc a.1) && (plW (d.enc a.2) && true)) = true
    rw [pl_enc c a.1, pl_enc d a.2] <;> rfl
  | .triple c d e, a => by
    show (plW (c.enc a.1) && (plW (d.enc a.2.1) && (plW (e.enc a.2.2) && true))) = true
    rw [pl_enc c a.1, pl_enc d a.2.1, pl_enc e a.2.2] <;> rfl
  | .option c, none => rfl
  | .option c, some x => pl_enc c x
theorem pl_encAll : ∀ (cs : List Codec) (a : Codec.denoteAll cs), plWs (Codec.encAll cs a) = true
  | [], _ => rfl
  | c :: cs, a => by
    show (plW (c.enc a.1) && plWs (Codec.encAll cs a.2)) = true
    rw [pl_enc c a.1, pl_encAll cs a.2] <;> rfl
theorem weight_mem : ∀ {xs : List WData} {d : WData}, d ∈ xs → d.weight ≤ WData.weightAll xs
  | [], d, h => absurd h (by simp)
  | x :: r, d, h => by
    show d.weight ≤ x.weight + 1 + WData.weightAll r
    rcases List.mem_cons.mp h with e | m
    · rw [e]
      omega
    · have z := weight_mem m
      omega
def toV : Value → V
  | .none => .non
  | .bool b => .bl b
  | .int i _ => .int i
  | .str x _ => .str x
  | .bytes b _ => .byt b
  | .ref a => .ref a
  | _ => .non
def OkU (A : List Addr) : Value → Prop
  | .none => True
  | .bool _ => True
  | .int _ _ => True
  | .str _ _ => True
  | .bytes _ _ => True
  | .ref a => a ∈ A
  | _ => False
theorem OkU.mono {A B : List Addr} (h : ∀ a ∈ A, a ∈ B) : ∀ {u : Value}, OkU A u → OkU B u := fun {u} x => by
  cases u with
  | ref a => exact h a x
  | none => trivial
  | bool b => trivial
  | int i t => trivial
  | str s t => trivial
  | bytes b t => trivial
  | _ => exact False.elim x
theorem relV_toV {A : List Addr} {u : Value} (x : OkU A u) : RelV (toV u) u := by
  cases u with
  | ref a => rfl
  | none => rfl
  | bool b => rfl
  | int i t => exact ⟨t, rfl⟩
  | str s t => exact ⟨t, rfl⟩
  | bytes b t => exact ⟨t, rfl⟩
  | _ => exact False.elim x
theorem vals_toV {A : List Addr} : ∀ {vs : List Value}, (∀ u ∈ vs, OkU A u) → Vals (vs.map toV) vs
  | [], _ => .nil
  | u :: r, h => .cons (relV_toV (h u (List.mem_cons_self ..))) (vals_toV fun x hx => h x (List.mem_cons_of_mem _ hx))
def ArgOb (h : Heap) (A : List Addr) (a : Addr) : Prop := ∃ vs : List Value, vs.length ≤ sizeLine ∧ (∀ u ∈ vs, OkU A u) ∧
  (h.get? a = some { cls := .type "list", data := .seq vs.toArray } ∨ h.get? a = some { cls := .type "tuple", data := .seq vs.toArray })
theorem ArgOb.mono {h : Heap} {A B : List Addr} {a : Addr} (k : ∀ a ∈ A, a ∈ B) (x : ArgOb h A a) : ArgOb h B a := by
  obtain ⟨vs, h1, h2, h3⟩ := x
  exact ⟨vs, h1, fun u hu => (h2 u hu).mono k, h3⟩
theorem wellAll_len {P : Params} {h : Heap} : ∀ {vs : List Value} {ds : List WData}, WellAll P h vs ds → vs.length = ds.length
  | _, _, .nil => rfl
  | _, _, .cons _ b => by
    show _ + 1 = _ + 1
    rw [wellAll_len b]
theorem well_list {P : Params} {h : Heap} {v : Value} {ds : List WData} (x : Well P h v (.list ds)) : ∃ (a : Addr) (vs : List Value), v = .ref a ∧ h.get? a = some { cls := .type "list", data := .seq vs.toArray } ∧ WellAll P h vs ds := by
  cases x with
  | list ho hall => exact ⟨_, _, rfl, ho, hall⟩
theorem well_tuple {P : Params} {h : Heap} {v : Value} {ds : List WData} (x : Well P h v (.tuple ds)) : ∃ (a : Addr) (vs : List Value), v = .ref a ∧ h.get? a = some { cls := .type "tuple", data := .seq vs.toArray } ∧ WellAll P h vs ds := by
  cases x with
  | tuple ho hall => exact ⟨_, _, rfl, ho, hall⟩
theorem well_cons {P : Params} {h : Heap} {us : List Value} {d : WData} {ds : List WData} (x : WellAll P h us (d :: ds)) : ∃ (v : Value) (vs : List Value), us = v :: vs ∧ Well P h v d ∧ WellAll P h vs ds := by
  cases x with
  | cons a b => exact ⟨_, _, rfl, a, b⟩
theorem line_of {n : Nat} (h : n ≤ 1048576) : n ≤ sizeLine := Nat.le_trans h (by decide)
section
variable {P : Params} {h : Heap}
mutual
theorem area_one : ∀ (d : WData) (v : Value), Well P h v d → plW d = true → d.weight ≤ 1048576 → ∃ A : List Addr, OkU A v ∧ ∀ a ∈ A, ArgOb h A a
  | .none, _, x, _, _ => by
    cases x
    exact ⟨[], trivial, fun a m => absurd m (by simp)⟩
  | .bool b, _, x, _, _ => by
    cases x
    exact ⟨[], trivial, fun a m => absurd m (by simp)⟩
  | .int i, _, x, _, _ => by
    cases x
    exact ⟨[], trivial, fun a m => absurd m (by simp)⟩
  | .str s, _, x, _, _ => by
    cases x
    exact ⟨[], trivial, fun a m => absurd m (by simp)⟩
  | .bytes b, _, x, _, _ => by
    cases x
    exact ⟨[], trivial, fun a m => absurd m (by simp)⟩
  | .list ds, _, x, p, z => by
    obtain ⟨a, vs, rfl, ho, hall⟩ := well_list x
    have z2 : WData.weightAll ds ≤ 1048576 := z
    obtain ⟨A, h1, h2⟩ := area_all ds _ hall p fun d hd => Nat.le_trans (weight_mem hd) z2
    have k : ∀ b ∈ A, b ∈ a :: A := fun b hb => List.mem_cons_of_mem _ hb
    refine ⟨a :: A, List.mem_cons_self .., fun b hb => ?_⟩
    rcases List.mem_cons.mp hb with e | m
    · rw [e]
      exact ⟨vs, line_of (by rw [wellAll_len hall]; exact Nat.le_trans (PySem.W.length_le_weightAllW ds) z2), fun u hu => (h1 u hu).mono k, .inl ho⟩
    · exact (h2 b m).mono k
  | .tuple ds, _, x, p, z => by
    obtain ⟨a, vs, rfl, ho, hall⟩ := well_tuple x
    have z2 : WData.weightAll ds ≤ 1048576 := z
    obtain ⟨A, h1, h2⟩ := area_all ds _ hall p fun d hd => Nat.le_trans (weight_mem hd) z2
    have k : ∀ b ∈ A, b ∈ a :: A := fun b hb => List.mem_cons_of_mem _ hb
    refine ⟨a :: A, List.mem_cons_self .., fun b hb => ?_⟩
    rcases List.mem_cons.mp hb with e | m
    · rw [e]
      exact ⟨vs, line_of (by rw [wellAll_len hall]; exact Nat.le_trans (PySem.W.length_le_weightAllW ds) z2), fun u hu => (h1 u hu).mono k, .inr ho⟩
    · exact (h2 b m).mono k
  | .float _, _, _, p, _ => Bool.noConfusion (show false = true from p)
  | .dict _, _, _, p, _ => Bool.noConfusion (show false = true from p)
  | .bytearray _, _, _, p, _ => Bool.noConfusion (show false = true from p)
  | .set _, _, _, p, _ => Bool.noConfusion (show false = true from p)
  | .frozenset _, _, _, p, _ => Bool.noConfusion (show false = true from p)
  | .obj _ _, _, _, p, _ => Bool.noConfusion (show false = true from p)
theorem area_all : ∀ (ds : List WData) (vs : List Value), WellAll P h vs ds → plWs ds = true → (∀ d ∈ ds, d.weight ≤ 1048576) → ∃ A : List Addr, (∀ u ∈ vs, OkU A u) ∧ ∀ a ∈ A, ArgOb h A a
  | [], _, x, _, _ => by
    cases x
    exact ⟨[], fun u m => absurd m (by simp), fun a m => absurd m (by simp)⟩
  | d :: ds, _, x, p, z => by
    obtain ⟨v, vs, rfl, x1, x2⟩ := well_cons x
    have q : plW d = true ∧ plWs ds = true := Bool.and_eq_true_iff.mp p
    obtain ⟨A, a1, a2⟩ := area_one d v x1 q.1 (z d (List.mem_cons_self ..))
    obtain ⟨B, b1, b2⟩ := area_all ds vs x2 q.2 fun e he => z e (List.mem_cons_of_mem _ he)
    have kA : ∀ b ∈ A, b ∈ A ++ B := fun b hb => List.mem_append.mpr (.inl hb)
    have kB : ∀ b ∈ B, b ∈ A ++ B := fun b hb => List.mem_append.mpr (.inr hb)
    refine ⟨A ++ B, fun u hu => ?_, fun b hb => ?_⟩
    · rcases List.mem_cons.mp hu with e | m
      · rw [e]
        exact a1.mono kA
      · exact (b1 u m).mono kB
    · rcases List.mem_append.mp hb with m | m
      · exact (a2 b m).mono kA
      · exact (b2 b m).mono kB
end
end
def hoOf (o : Obj) : Option HO := match o.data with
  | .seq vs _ => if (o.cls == Value.type "list") = true then some (.frz o (.lst (vs.toList.map toV))) else some (.frz o (.tup (vs.toList.map toV)))
  | _ => none
def argH (K : PySem.W.Frag) (h : Heap) (A : List Addr) : Hp := fun b => if b ∈ A then (if (K.lookup b).isNone = true then (h.get? b).bind hoOf else none) else none
def OnlyF (H : Hp) : Prop := ∀ b, H b = none ∨ ∃ o u, H b = some (.frz o u)
theorem hoOf_lst (vs : List Value) : hoOf { cls := .type "list", data := .seq vs.toArray } = some (.frz { cls := .type "list", data := .seq vs.toArray } (.lst (vs.map toV))) := by
  show (if (Value.type "list" == Value.type "list") = true then some (HO.frz { cls := .type "list", data := .seq vs.toArray } (.lst (vs.toArray.toList.map toV))) else some (HO.frz { cls := .type "list", data := .seq vs.toArray } (.tup (vs.toArray.toList.map toV)))) = _
  rw [if_pos (beq_self_eq_true _)]
theorem hoOf_tup (vs : List Value) : hoOf { cls := .type "tuple", data := .seq vs.toArray } = some (.frz { cls := .type "tuple", data := .seq vs.toArray } (.tup (vs.map toV))) := by
  show (if (Value.type "tuple" == Value.type "list") = true then some (HO.frz { cls := .type "tuple", data := .seq vs.toArray } (.lst (vs.toArray.toList.map toV))) else some (HO.frz { cls := .type "tuple", data := .seq vs.toArray } (.tup (vs.toArray.toList.map toV)))) = _
  rw [if_neg (by decide)]
section
variable {P : Program} {w : World} {K : PySem.W.Frag} {h : Heap} {A : List Addr}
theorem argH_at {b : Addr} {o : Obj} (hb : b ∈ A) (hk : K.lookup b = none) (e : h.get? b = some o) : argH K h A b = hoOf o := by
  unfold argH
  rw [if_pos hb, hk, if_pos (show (none : Option Obj).isNone = true from rfl), e] <;> rfl
theorem of_argH {b : Addr} {u : HO} (q : argH K h A b = some u) : b ∈ A ∧ K.lookup b = none := by
  unfold argH at q
  by_cases hb : b ∈ A
  · rw [if_pos hb] at q
    cases hk : K.lookup b with
    | none => exact ⟨hb, rfl⟩
    | some o =>
      rw [hk, if_neg (by simp)] at q
      cases q
  · rw [if_neg hb] at q
    cases q
theorem argH_is (ar : ∀ a ∈ A, ArgOb h A a) {b : Addr} {u : HO} (q : argH K h A b = some u) : K.lookup b = none ∧ ∃ vs : List Value, vs.length ≤ sizeLine ∧ (∀ u ∈ vs, OkU A u) ∧
    ((h.get? b = some { cls := .type "list", data := .seq vs.toArray } ∧ u = .frz { cls := .type "list", data := .seq vs.toArray } (.lst (vs.map toV))) ∨
     (h.get? b = some { cls := .type "tuple", data := .seq vs.toArray } ∧ u = .frz { cls := .type "tuple", data := .seq vs.toArray } (.tup (vs.map toV)))) := by
  obtain ⟨hb, hk⟩ := of_argH q
  obtain ⟨vs, h1, h2, h3⟩ := ar b hb
  refine ⟨hk, vs, h1, h2, ?_⟩
  rcases h3 with e | e
  · rw [argH_at hb hk e, hoOf_lst] at q
    exact .inl ⟨e, (Option.some.inj q).symm⟩
  · rw [argH_at hb hk e, hoOf_tup] at q
    exact .inr ⟨e, (Option.some.inj q).symm⟩
theorem argH_only (ar : ∀ a ∈ A, ArgOb h A a) : OnlyF (argH K h A) := fun b => by
  cases q : argH K h A b with
  | none => exact .inl rfl
  | some u =>
    obtain ⟨_, vs, _, _, ⟨_, e⟩ | ⟨_, e⟩⟩ := argH_is ar q
    · exact .inr ⟨_, _, by rw [e]⟩
    · exact .inr ⟨_, _, by rw [e]⟩
theorem argH_ok (ar : ∀ a ∈ A, ArgOb h A a) : HOk P w (argH K h A) h := fun b u q => by
  obtain ⟨_, vs, h1, h2, ⟨e, rfl⟩ | ⟨e, rfl⟩⟩ := argH_is ar q
  · exact ⟨e, by rw [List.length_map]; exact h1, vs, _, vals_toV h2, e⟩
  · exact ⟨e, by rw [List.length_map]; exact h1, vs, vals_toV h2, _, e, rfl, _, rfl⟩
theorem seq_inj {c c' : Value} {vs us : List Value} (e : (some { cls := c, data := .seq vs.toArray } : Option Obj) = some { cls := c', data := .seq us.toArray }) : c = c' ∧ vs = us := by
  have e1 := Option.some.inj e
  have e2 : c = c' := congrArg Obj.cls e1
  have e3 : Data.seq vs.toArray = Data.seq us.toArray := congrArg Obj.data e1
  injection e3 with e4
  refine ⟨e2, ?_⟩
  have e5 := congrArg Array.toList e4
  simpa using e5
theorem argL (KX : K.In h) (ar : ∀ a ∈ A, ArgOb h A a) {a : Addr} {vs : List Value} (ha : a ∈ A) (e : h.get? a = some { cls := .type "list", data := .seq vs.toArray }) : (∀ u ∈ vs, OkU A u) ∧ SqL K (argH K h A) a (vs.map toV) := by
  obtain ⟨us, h1, h2, h3⟩ := ar a ha
  have hu : us = vs := by
    rcases h3 with q | q
    · rw [e] at q
      exact (seq_inj q).2.symm
    · rw [e] at q
      exact absurd (Value.type.inj (seq_inj q).1) (by decide)
  subst hu
  refine ⟨h2, ?_⟩
  cases hk : K.lookup a with
  | none => exact .inl (.inr ⟨_, by rw [argH_at ha hk e, hoOf_lst]⟩)
  | some o =>
    have e2 := KX a o hk
    rw [e] at e2
    obtain rfl := Option.some.inj e2
    exact .inr ⟨_, us.toArray, _, hk, rfl, rfl, rfl, by rw [List.size_toArray]; exact h1, by simpa using vals_toV h2⟩
theorem argT (KX : K.In h) (ar : ∀ a ∈ A, ArgOb h A a) {a : Addr} {vs : List Value} (ha : a ∈ A) (e : h.get? a = some { cls := .type "tuple", data := .seq vs.toArray }) : (∀ u ∈ vs, OkU A u) ∧ SqT K (argH K h A) a (vs.map toV) := by
  obtain ⟨us, h1, h2, h3⟩ := ar a ha
  have hu : us = vs := by
    rcases h3 with q | q
    · rw [e] at q
      exact absurd (Value.type.inj (seq_inj q).1) (by decide)
    · rw [e] at q
      exact (seq_inj q).2.symm
  subst hu
  refine ⟨h2, ?_⟩
  cases hk : K.lookup a with
  | none => exact .inl (.inr ⟨_, by rw [argH_at ha hk e, hoOf_tup]⟩)
  | some o =>
    have e2 := KX a o hk
    rw [e] at e2
    obtain rfl := Option.some.inj e2
    exact .inr ⟨_, us.toArray, _, hk, rfl, rfl, by rw [List.size_toArray]; exact h1, by simpa using vals_toV h2⟩
mutual
theorem dw_one {Pm : Params} (KX : K.In h) (ar : ∀ a ∈ A, ArgOb h A a) : ∀ (d : WData) (v : Value), Well Pm h v d → plW d = true → OkU A v → Dw K (argH K h A) (toV v) d
  | .none, _, x, _, _ => by
    cases x
    exact .non
  | .bool b, _, x, _, _ => by
    cases x
    exact .bl b
  | .int i, _, x, _, _ => by
    cases x
    exact .int i
  | .str s, _, x, _, _ => by
    cases x
    exact .str s
  | .bytes b, _, x, _, _ => by
    cases x
    have z := Dw.byt (K := K) (H := argH K h A) b.toArray
    exact z
  | .list ds, _, x, p, hu => by
    obtain ⟨a, vs, rfl, ho, hall⟩ := well_list x
    obtain ⟨h2, hs⟩ := argL KX ar hu ho
    exact .lst hs (dw_all KX ar ds _ hall p h2)
  | .tuple ds, _, x, p, hu => by
    obtain ⟨a, vs, rfl, ho, hall⟩ := well_tuple x
    obtain ⟨h2, hs⟩ := argT KX ar hu ho
    exact .tup hs (dw_all KX ar ds _ hall p h2)
  | .float _, _, _, p, _ => Bool.noConfusion (show false = true from p)
  | .dict _, _, _, p, _ => Bool.noConfusion (show false = true from p)
  | .bytearray _, _, _, p, _ => Bool.noConfusion (show false = true from p)
  | .set _, _, _, p, _ => Bool.noConfusion (show false = true from p)
  | .frozenset _, _, _, p, _ => Bool.noConfusion (show false = true from p)
  | .obj _ _, _, _, p, _ => Bool.noConfusion (show false = true from p)
theorem dw_all {Pm : Params} (KX : K.In h) (ar : ∀ a ∈ A, ArgOb h A a) : ∀ (ds : List WData) (vs : List Value), WellAll Pm h vs ds → plWs ds = true → (∀ u ∈ vs, OkU A u) → DwAll K (argH K h A) (vs.map toV) ds
  | [], _, x, _, _ => by
    cases x
    exact .nil
  | d :: ds, _, x, p, hu => by
    obtain ⟨v, vs, rfl, x1, x2⟩ := well_cons x
    have q : plW d = true ∧ plWs ds = true := Bool.and_eq_true_iff.mp p
    exact .cons (dw_one KX ar d v x1 q.1 (hu _ (List.mem_cons_self ..))) (dw_all KX ar ds vs x2 q.2 fun u m => hu u (List.mem_cons_of_mem _ m))
end
end
theorem layable_weight {ds : List WData} (h : WData.layableAll ds = true) : ∀ d ∈ ds, d.weight ≤ 1048576 := fun d hd =>
  (PySem.W.layableW_iff.mp (List.all_eq_true.mp h d hd)).2.2
theorem encAll_len : ∀ (cs : List Codec) (a : Codec.denoteAll cs), (Codec.encAll cs a).length = cs.length
  | [], _ => rfl
  | c :: cs, a => by
    show (Codec.encAll cs a.2).length + 1 = cs.length + 1
    rw [encAll_len cs a.2]
end L2
end
end
section
namespace LC
open PySem PyProof.Rows
open PySem.SeqAt
open PySem.AutoSeq1 (wpAny_loadPart')
open PySem.MeetsSeq PySem.MeetsSeq2 PySem.MeetsSeq3
def lexLe : List Int → List Int → Bool
  | [], _ => true
  | _ :: _, [] => false
  | x :: xs, y :: ys => if x = y then lexLe xs ys else decide (x ≤ y)
def LeAt (A : Around) (s : Shared) (x y : Value) (b : Bool) : Prop :=
  ∀ (prog : Program) (w : World) (E : Value → Shared → Prop) (Q : Value → Shared → Prop), Q (.bool b) s → wpAny (model prog w) A (richCompare .LtE x y) Q E s
theorem LeAt.int (A : Around) (s : Shared) (a : Int) (t : Tok) (c : Int) (u : Tok) : LeAt A s (.int a t) (.int c u) (decide (a ≤ c)) := fun prog w E Q h =>
  (PyProof.Rows.le_int h : wpAny (model prog w) A (compareOp .LtE (.int a t) (.int c u)) Q E s)
theorem eqAt_int (A : Around) (s : Shared) (a : Int) (t : Tok) (c : Int) (u : Tok) : ∃ e, SeqAt.EqAt A s (.int a t) (.int c u) e ∧ (e = true ↔ a = c) :=
  ⟨(a == c), SeqAt.EqAt.int_int a t c u, by simp⟩
inductive CmpLe (A : Around) (s : Shared) : List (Value × Value) → Bool → Prop
  | nil : CmpLe A s [] true
  | same {x y : Value} {r : List (Value × Value)} {v : Bool} : EqAt A s x y true → CmpLe A s r v → CmpLe A s ((x, y) :: r) v
  | diff {x y : Value} {r : List (Value × Value)} {v : Bool} : EqAt A s x y false → LeAt A s x y v → CmpLe A s ((x, y) :: r) v
theorem tuple_le_pairs (l b : Addr) (items items2 : Array Value) (n n2 : Nat) (dd dd2 : Option Addr) (sl sl2 : Array (Option Value)) (v : Bool) (hsz : items.size = items2.size) :
    Meets (Builtin.«tuple.__le__» ⟨[.ref l, .ref b], []⟩)
      (fun A R s => s.heap.get? l = some { cls := .type "tuple", dict := dd, data := .seq items n, slots := sl } ∧ s.heap.get? b = some { cls := .type "tuple", dict := dd2, data := .seq items2 n2, slots := sl2 } ∧
        CmpLe A.in1 s (items.toList.zip items2.toList) v ∧ R (.ok (.ret (.bool v))) s) :=
  .of_wp fun prog w A R s h => by
    obtain ⟨hp, g, d, tk, os⟩ := s; obtain ⟨hl, hb, hc, h⟩ := h
    have f2 := AutoSeq1.sub_tuple_tuple
    wp_walk using wpAny_loadPart' hl, wpAny_loadPart' hb, wpAny_forIn_list _ (fun rest b s' => b.1 = none ∧ s' = ⟨hp, g, d, tk, os⟩ ∧ CmpLe A.in1 ⟨hp, g, d, tk, os⟩ rest v) _
    case turn =>
      rintro ⟨y, x⟩ rest b s' ⟨hb', rfl, hR⟩
      cases hR with
      | same he hr =>
        refine wpAny_bind (he prog w _ _ ?_)
        wp_walk
        exact ⟨rfl, rfl, hr⟩
      | diff he hle =>
        refine wpAny_bind (he prog w _ _ ?_)
        have hri := hle prog w
        wp_walk using hri
        exact ⟨_, rfl, h⟩
    case fin =>
      rintro ⟨b1, b2⟩ s' ⟨hb', rfl, hR⟩
      simp only at hb'
      subst hb'
      cases hR
      wp_walk
      exact ⟨_, rfl, by simpa [Builtin.Tuple.tupleCompareSizes, hsz] using h⟩
    case h =>
      exact ⟨rfl, rfl, hc⟩
theorem le_tup {prog : Program} {w : World} {A : Around} {E : Value → Shared → Prop} {s : Shared} {l b : Addr} {items items2 : Array Value} {v : Bool} {Q : Value → Shared → Prop} (hl : IsTup s.heap l items) (hb : IsTup s.heap b items2) (hsz : items.size = items2.size)
    (hc : ∀ A', A'.units ≤ A.units + 8 → CmpLe A' s (items.toList.zip items2.toList) v) (hu : A.units + 16 < cLine) (h : Q (.bool v) s) : wpAny (model prog w) A (compareOp .LtE (.ref l) (.ref b)) Q E s := by
  obtain ⟨⟨cls, dd, data, sl⟩, ho, hc', n, hd⟩ := id hl
  obtain ⟨⟨cls2, dd2, data2, sl2⟩, ho2, hc2, n2, hd2⟩ := id hb
  simp only at hc' hd hc2 hd2
  subst hc' hd hc2 hd2
  refine richCompare_meets_room (op := .LtE) ⟨_, ho, rfl⟩ ⟨_, ho2, rfl⟩ PySem.F.slot_tuple_le PySem.F.entry_tuple_le (PySem.F.args_tuple_le_2 _ _) (tuple_le_pairs l b items items2 n n2 dd dd2 sl sl2 v hsz)
    ⟨ho, ho2, ?_, show Value.bool v ≠ Value.notImplemented ∧ Q (.bool v) s from ⟨(fun x => nomatch x), h⟩⟩ (by omega)
  exact hc _ (by show A.units + 1 ≤ A.units + 8; omega)
theorem le_loop (l b : Addr) (items items2 : Array Value) (n n2 : Nat) (dd dd2 : Option Addr) (sl sl2 : Array (Option Value)) (ns ms : List Int) (hi : IntsAre items.toList ns) (hj : IntsAre items2.toList ms) (k : Nat) :
    ∀ i : Nat, items.size - i = k → i ≤ items.size → i ≤ items2.size → Meets (Builtin.«list.__eq__.loop» ⟨[.ref l, .ref b, rawInt i, rawInt 1], []⟩)
      (fun A R s => s.heap.get? l = some { cls := .type "list", dict := dd, data := .seq items n, slots := sl } ∧ s.heap.get? b = some { cls := .type "list", dict := dd2, data := .seq items2 n2, slots := sl2 } ∧
        R (.ok (.ret (.bool (lexLe (ns.drop i) (ms.drop i))))) s) := by
  have z1 : items.size = ns.length := by rw [← hi.length]; simp
  have z2 : items2.size = ms.length := by rw [← hj.length]; simp
  induction k with
  | zero =>
    intro i hk hi1 hi2 prog w A R s h
    obtain ⟨hp, g, d, tk, os⟩ := s; obtain ⟨hl, hb, h⟩ := h
    wp_walk using wpAny_loadPart' hl, wpAny_loadPart' hb
    have q1 : items[((i : Nat) : Int).toNat]? = none := by simp; omega
    have hd : ns.drop i = [] := by simp; omega
    have e1 : lexLe (ns.drop i) (ms.drop i) = true := by rw [hd]; unfold lexLe; rfl
    rw [e1] at h
    rw [q1]
    wp_walk using wpAny_loadPart' hl, wpAny_loadPart' hb
    show R (.ok (.ret (.bool (decide (items.size ≤ items2.size))))) _
    rw [decide_eq_true (by omega)]
    exact h
  | succ k ih =>
    intro i hk hi1 hi2 prog w A R s h
    obtain ⟨hp, g, d, tk, os⟩ := s; obtain ⟨hl, hb, h⟩ := h
    wp_walk using wpAny_loadPart' hl, wpAny_loadPart' hb
    have hlt : i < items.size := by omega
    have q1 : items[((i : Nat) : Int).toNat]? = some items[i] := by simp [hlt]
    obtain ⟨a, t, ea, na⟩ := hi.at i items[i] (by simp [hlt])
    have dn : ns.drop i = a :: ns.drop (i + 1) := by
      have hl2 : i < ns.length := by omega
      rw [List.drop_eq_getElem_cons hl2]
      congr 1
      exact Option.some.inj ((List.getElem?_eq_getElem hl2).symm.trans na)
    by_cases h2 : i < items2.size
    · have q2 : items2[((i : Nat) : Int).toNat]? = some items2[i] := by simp [h2]
      obtain ⟨c, u, ec, nc⟩ := hj.at i items2[i] (by simp [h2])
      have dm : ms.drop i = c :: ms.drop (i + 1) := by
        have hl2 : i < ms.length := by omega
        rw [List.drop_eq_getElem_cons hl2]
        congr 1
        exact Option.some.inj ((List.getElem?_eq_getElem hl2).symm.trans nc)
      have hcst : ((i : Int) + 1) = ((i + 1 : Nat) : Int) := by push_cast; rfl
      have hv : lexLe (ns.drop i) (ms.drop i) = if a = c then lexLe (ns.drop (i + 1)) (ms.drop (i + 1)) else decide (a ≤ c) := by
        rw [dn, dm]
        rfl
      rw [hv] at h
      rw [q1, q2, ea, ec]
      obtain ⟨e, he, hiff⟩ := eqAt_int A.in1 ⟨hp, g, d, tk, os⟩ a t c u
      refine wpAny_bind (he prog w _ _ ?_)
      cases e with
      | true =>
        rw [if_pos (hiff.mp rfl)] at h
        wp_walk
        rw [hcst]
        exact ⟨plainId_quiet plain_eq_loop _, codeAny_builtin entry_eq_loop (by
          rw [Around.under_plainId plain_eq_loop _]
          exact ih (i + 1) (by omega) (by omega) (by omega) prog w A R _ ⟨hl, hb, h⟩)⟩
      | false =>
        rw [if_neg (fun q => absurd (hiff.mpr q) Bool.false_ne_true)] at h
        wp_walk using wpAny_loadPart' hl, wpAny_loadPart' hb
        rw [q1, q2, ea, ec]
        have hri := LeAt.int A.in1 ⟨hp, g, d, tk, os⟩ a t c u prog w
        wp_walk using hri
        exact h
    · have q2 : items2[((i : Nat) : Int).toNat]? = none := by simp; omega
      have dm : ms.drop i = [] := by simp; omega
      have e1 : lexLe (ns.drop i) (ms.drop i) = false := by rw [dn, dm]; rfl
      rw [e1] at h
      rw [q1, q2]
      wp_walk using wpAny_loadPart' hl, wpAny_loadPart' hb
      show R (.ok (.ret (.bool (decide (items.size ≤ items2.size))))) _
      rw [decide_eq_false (by omega)]
      exact h
theorem list_le (l b : Addr) (items items2 : Array Value) (n n2 : Nat) (dd dd2 : Option Addr) (sl sl2 : Array (Option Value)) (ns ms : List Int) (hi : IntsAre items.toList ns) (hj : IntsAre items2.toList ms) :
    Meets (Builtin.«list.__le__» ⟨[.ref l, .ref b], []⟩)
      (fun A R s => s.heap.get? l = some { cls := .type "list", dict := dd, data := .seq items n, slots := sl } ∧ s.heap.get? b = some { cls := .type "list", dict := dd2, data := .seq items2 n2, slots := sl2 } ∧
        R (.ok (.ret (.bool (lexLe ns ms)))) s) := by
  intro prog w A R s h
  obtain ⟨hp, g, d, tk, os⟩ := s; obtain ⟨hl, hb, h⟩ := h
  have f3 := AutoSeq1.sub_list_list
  wp_walk using wpAny_loadPart' hl, wpAny_loadPart' hb
  exact ⟨plainId_quiet plain_eq_loop _, codeAny_builtin entry_eq_loop (by
    rw [Around.under_plainId plain_eq_loop _]
    exact le_loop l b items items2 n n2 dd dd2 sl sl2 ns ms hi hj _ 0 rfl (Nat.zero_le _) (Nat.zero_le _) prog w A R _ ⟨hl, hb, h⟩)⟩
theorem LeAt.lists {A : Around} {s : Shared} {l b : Addr} {items items2 : Array Value} {ns ms : List Int} (hl : s.heap.IsList l items) (hb : s.heap.IsList b items2) (hi : IntsAre items.toList ns) (hj : IntsAre items2.toList ms) (hu : A.units < cLine) :
    LeAt A s (.ref l) (.ref b) (lexLe ns ms) := fun prog w E Q h => by
  obtain ⟨⟨cls, dd, data, sl⟩, ho, hc, n, hd⟩ := id hl
  obtain ⟨⟨cls2, dd2, data2, sl2⟩, ho2, hc2, n2, hd2⟩ := id hb
  simp only at hc hd hc2 hd2
  subst hc hd hc2 hd2
  exact richCompare_meets_room (op := .LtE) ⟨_, ho, rfl⟩ ⟨_, ho2, rfl⟩ F.slot_list_le F.entry_list_le (F.args_list_le_2 _ _) (list_le l b items items2 n n2 dd dd2 sl sl2 ns ms hi hj)
    ⟨ho, ho2, show Value.bool (lexLe ns ms) ≠ Value.notImplemented ∧ Q (.bool (lexLe ns ms)) s from ⟨(fun x => nomatch x), h⟩⟩ hu
theorem eqAt_lists {A : Around} {s : Shared} {l b : Addr} {items items2 : Array Value} {ns ms : List Int} (hl : s.heap.IsList l items) (hb : s.heap.IsList b items2) (hi : IntsAre items.toList ns) (hj : IntsAre items2.toList ms) (hu : A.units < cLine) :
    ∃ e, EqAt A s (.ref l) (.ref b) e ∧ (e = true ↔ ns = ms) := by
  have z1 : items.size = ns.length := by rw [← hi.length]; simp
  have z2 : items2.size = ms.length := by rw [← hj.length]; simp
  by_cases hlb : l = b
  · subst hlb
    refine ⟨true, EqAt.same _, fun _ => ?_, fun _ => rfl⟩
    obtain ⟨o, e1, _, n, d1⟩ := hl
    obtain ⟨o', e2, _, n', d2⟩ := hb
    rw [e1] at e2
    cases e2
    rw [d1] at d2
    cases d2
    have inj : ∀ {vs : List Value} {xs ys : List Int}, IntsAre vs xs → IntsAre vs ys → xs = ys := by
      intro vs
      induction vs with
      | nil => intro xs ys h1 h2; cases h1; cases h2; rfl
      | cons v vs ih =>
        intro xs ys h1 h2
        cases h1 with
        | cons a t h1 =>
          cases h2 with
          | cons _ _ h2 => rw [ih h1 h2]
    exact inj hi hj
  by_cases hsz : items.size = items2.size
  · refine ⟨_, EqAt.of_refs hlb (RcAt.lists (e := fun j => decide (ns[j]? = ms[j]?)) hl hb hsz hu fun j h1 h2 => ?_), ?_⟩
    · obtain ⟨a, t, ea, na⟩ := hi.at j items[j] (by simp [h1])
      obtain ⟨c, u, ec, nc⟩ := hj.at j items2[j] (by simp [h2])
      rw [ea, ec, na, nc]
      have e := EqAt.int_int (A := A.in1) (s := s) a t c u
      have q : (a == c) = decide (some a = some c) := by
        by_cases z : a = c
        · subst z; simp
        · rw [decide_eq_false (fun q => z (Option.some.inj q))]
          exact beq_eq_false_iff_ne.mpr z
      rw [q] at e
      exact e
    · rw [List.all_eq_true]
      constructor
      · intro h
        apply List.ext_getElem?
        intro j
        by_cases hj' : j < items.size
        · exact of_decide_eq_true (h j (List.mem_range.mpr hj'))
        · rw [List.getElem?_eq_none (by omega), List.getElem?_eq_none (by omega)]
      · rintro rfl j _
        simp
  · refine ⟨false, EqAt.of_refs hlb (RcAt.lists_lengths hl hb (by simp [hsz]) hu), fun h => (by cases h), fun h => ?_⟩
    subst h
    omega
end LC
end
section
namespace L2
open PySem PySem.Spec PyProof.Rows
open PySem.W (CodeHd tabObj kla_obj kla_fn)
def FunAt (K : PySem.W.Frag) (H : Hp) (f : Addr) : Prop := PySem.W.keepIn K (.ref f) = true ∨ ∃ o fd u, H f = some (.frz o u) ∧ o.data = .func fd
abbrev KeepP (M : Model) (f : Addr) (h : Heap) : Prop := ∃ k, (k = Keeper.frame ∨ k = Keeper.machine ∨ k = Keeper.boundFrame) ∧ PySem.W.Looks M h (keeperOf (.ref f)) k
theorem keep_fun {M : Model} {f : Addr} {h : Heap} {o : Obj} {fd : FuncData} (e : h.get? f = some o) (d : o.data = .func fd) : KeepP M f h := by
  refine ⟨.frame, .inl rfl, (PySem.W.Looks.ld (part := none) e).andThen ?_⟩
  rw [d]
  exact .now
section
variable {X : Cx} {pins : List (Addr × Obj)} {σ : St} {H : Hp} {s : Shared} {f : Addr} {M : Model}
theorem FunAt.keep (x : FunAt X.K H f) (I : Inv X pins σ H s) : KeepP M f s.heap := by
  rcases x with hk | ⟨o, fd, u, e, d⟩
  · exact PySem.W.keeps_K hk _ I.kIn
  · exact keep_fun (I.hok f _ e).1 d
end
def tCallL (X : Cx) (tf : TE) (t : TA) : TE := fun σ H Q => tf σ H fun x H1 => ∃ f, x = .ref f ∧ t σ H1 fun vs H2 => FunAt X.K H2 f ∧
  ∃ (k : Nat) (fd : FuncData) (ps : List Str) (sp : Sp), FnOk X.prog X.w X.K X.mg X.base CX0 k f fd ps sp ∧ Room k X.A ∧ Binds X.K fd ps [] ∧ sp vs H2 Q E0
theorem pe_callL {X : Cx} {x : Str} {p pos : Pos} {e : Expr} {es : List Expr} {tf : TE} {t : TA} (hf : PE X (.Name x p) tf) (ha : PA X (e :: es) t)
    (he : starEach (e :: es) X.env = (false, eval e X.env) :: starEach es X.env := by rfl) (hpl : (backTo pos (starEach es X.env)).any (·.1) = false := by rfl) :
    PE X (.Call (.Name x p) (e :: es) [] pos) (tCallL X tf t) := by
  intro pins s σ H Q I h
  refine wpAny_Call_Name_kw (thn (hf pins s σ H _ I h) fun u s1 ⟨v, H1, I1, r1, f, e1, q1⟩ => ?_)
  subst e1
  obtain rfl : u = Value.ref f := r1
  show wpAny _ _ (callWith pos (.ref f) [] (backTo pos (starEach (e :: es) X.env)) []) _ _ s1
  have hq := ha pos pins s1 σ H1 _ I1 q1
  rw [he] at hq ⊢
  refine PySem.W.callWith_of (P := KeepP (model X.prog X.w) f) (by show ((false || (backTo pos (starEach es X.env)).any (·.1)) || false) = false; rw [hpl]; rfl) (fun _ z => z) (Calls.evalArgs_plain ?_)
  exact thn hq fun us s2 ⟨vs, H2, I2, r, fa, k, fd, ps, sp, F, hr, hb, q⟩ => ⟨fa.keep I2, run_fn (dvs := []) (ds := []) F hr hb .nil pass0 I2 r (by rw [List.append_nil]; exact q)⟩
abbrev unT : HO := .ext fun _ => True
theorem unT_ok {P : Program} {w : World} {H : Hp} {h : Heap} {a : Addr} {o : Obj} (e : h.get? a = some o) : ObjOk P w H h a unT := ⟨trivial, ⟨o, e⟩, fun _ _ _ _ => trivial⟩
theorem frz_ok {P : Program} {w : World} {H : Hp} {h : Heap} {a : Addr} {o : Obj} (e : h.get? a = some o) : ObjOk P w H h a (.frz o unT) := ⟨e, unT_ok e⟩
def strip (cs : List Addr) (H : Hp) : Hp := fun b => if b ∈ cs then none else H b
theorem strip_in {cs : List Addr} {H : Hp} {b : Addr} (h : b ∈ cs) : strip cs H b = none := by unfold strip; rw [if_pos h]
theorem strip_out {cs : List Addr} {H : Hp} {b : Addr} (h : b ∉ cs) : strip cs H b = H b := by unfold strip; rw [if_neg h]
def froze (cs : List Addr) (h : Heap) (H : Hp) : Hp := fun b => if b ∈ cs then (h.get? b).map fun o => .frz o unT else H b
theorem froze_in {cs : List Addr} {h : Heap} {H : Hp} {b : Addr} {o : Obj} (hb : b ∈ cs) (e : h.get? b = some o) : froze cs h H b = some (.frz o unT) := by unfold froze; rw [if_pos hb, e]; rfl
theorem froze_out {cs : List Addr} {h : Heap} {H : Hp} {b : Addr} (hb : b ∉ cs) : froze cs h H b = H b := by unfold froze; rw [if_neg hb]
def OwnCells (X : Cx) (cs : List Addr) : Prop := ∀ b ∈ cs, ∃ x, X.env.cells.lookup x = some b ∧ X.fn x = true
structure Frozen (X : Cx) (cs : List Addr) (σ : St) (H Hf : Hp) : Prop where
  off : ∀ b, b ∉ cs → Hf b = H b
  on : ∀ b ∈ cs, H b = none
  cell : ∀ (i : Nat) (x : Str) (v : V) (c : Addr), X.N[i]? = some x → σ[i]? = some (some v) → X.env.scope.names.lookup x = some .cell → X.env.cells.lookup x = some c → c ∈ cs → ∃ o u, Hf c = some (.frz o unT) ∧ o.data = .cell (some u) ∧ RelV v u
section
variable {X : Cx} {cs : List Addr} {pins : List (Addr × Obj)} {σ : St} {H : Hp} {s : Shared}
theorem Inv.cell_at (I : Inv X pins σ H s) (hcs : OwnCells X cs) {b : Addr} (hb : b ∈ cs) : ∃ o, s.heap.get? b = some o := by
  obtain ⟨x, hx, _⟩ := hcs b hb
  obtain ⟨v, o, ho, _⟩ := I.cell x b hx
  exact ⟨o, ho⟩
theorem Inv.cell_none (I : Inv X pins σ H s) (hcs : OwnCells X cs) {b : Addr} (hb : b ∈ cs) : H b = none := by
  obtain ⟨x, hx, _⟩ := hcs b hb
  exact I.freeC x b hx
theorem Inv.frozenOk (I : Inv X pins σ H s) (hcs : OwnCells X cs) : HOk X.prog X.w (froze cs s.heap H) s.heap := fun a o e => by
  by_cases ha : a ∈ cs
  · obtain ⟨o', ho⟩ := I.cell_at hcs ha
    rw [froze_in ha ho] at e
    cases e
    exact frz_ok ho
  · rw [froze_out ha] at e
    have nc : ∀ b u, H b = some u → b ∉ cs := fun b u q hb => by rw [I.cell_none hcs hb] at q; cases q
    exact (I.hok a o e).stay (fun b u _ q => q) (fun b q => by rw [froze_out (nc b _ q)]; exact q) fun b xs q => by rw [froze_out (nc b _ q)]; exact q
theorem Inv.frozen (I : Inv X pins σ H s) (hcs : OwnCells X cs) : Frozen X cs σ H (froze cs s.heap H) := by
  refine ⟨fun b hb => froze_out hb, fun b hb => I.cell_none hcs hb, fun i x v c h1 h2 h3 h4 h5 => ?_⟩
  obtain ⟨m, _, hl⟩ := I.loc
  obtain ⟨u, r, l⟩ := hl i x v h1 h2 (.inr (.inl h3))
  have h3' : X.env.kindOf x = some .cell := h3
  rcases l with ⟨l, _⟩ | ⟨_, c', hc', o, ho, hd⟩
  · rw [h3'] at l; cases l
  · rw [h4] at hc'
    cases hc'
    exact ⟨o, u, froze_in h5 ho, hd, r⟩
theorem Inv.envZ (I : Inv X pins σ H s) (hcs : OwnCells X cs) : Env0 X.prog X.w X.K X.mg X.base X.A X.stack s (froze cs s.heap H) := by
  have big : ∀ b ∈ cs, X.s_0.heap.objs.size ≤ b := fun b hb => by
    obtain ⟨x, hx, hf⟩ := hcs b hb
    exact I.ok.cab x b hf hx
  refine ⟨I.ok.frames, I.ok.mod, fun b o e => ?_, Nat.le_trans I.ok.bsz I.sz, I.stack, fun b hb => ?_, I.frozenOk hcs, I.bare⟩
  · have nb : b ∉ cs := fun hb => absurd (Nat.lt_of_lt_of_le (Heap.lt_size (I.ok.bs b o e).1) (big b hb)) (Nat.lt_irrefl _)
    exact ⟨(I.bs b o e).1, by rw [froze_out nb]; exact (I.bs b o e).2⟩
  · have nb : b ∉ cs := fun hc => by
      rcases List.mem_cons.mp (I.stkSub b hb) with e | hb
      · obtain ⟨x, hx, _⟩ := hcs b hc
        exact I.cne x b hx e
      · obtain ⟨_, o, ho, _⟩ := I.ok.funs.mem hb
        exact absurd (Nat.lt_of_lt_of_le (Heap.lt_size ho) (big b hc)) (Nat.lt_irrefl _)
    rw [froze_out nb]
    exact I.stkFree b hb
theorem Inv.afterZ {Q : VK} {u : Value} {s' : Shared} (I : Inv X pins σ H s) (hcs : OwnCells X cs) (h : CE X.stack X.prog X.w (froze cs s.heap H) s (fun v H' => Q v (strip cs H')) u s') : EP X pins σ Q u s' := by
  obtain ⟨v, H', os, bare, un, hok, r, q⟩ := h
  have kept : ∀ b ∈ cs, ∀ o, s.heap.get? b = some o → H' b = some (.frz o unT) ∧ s'.heap.get? b = some o := fun b hb o ho => by
    have e := un.frzs b o unT (froze_in hb ho)
    exact ⟨e, (hok b _ e).1⟩
  have at' : ∀ b ∈ cs, ∃ o, H' b = some (.frz o unT) := fun b hb => by
    obtain ⟨o, ho⟩ := I.cell_at hcs hb
    exact ⟨o, (kept b hb o ho).1⟩
  have nc : ∀ b u, H b = some u → b ∉ cs := fun b u q hb => by rw [I.cell_none hcs hb] at q; cases q
  have un' : Un (frs X.stack) [] H (strip cs H') s.heap s'.heap := by
    refine ⟨fun b o e n hb hx => ?_, fun b o e n hb hx => ?_, fun b o e n hx => ?_, fun b o e hx => un.there b o e hx, fun b xs e => ?_, fun b o u e => ?_, fun b ps e => ?_⟩
    · by_cases hc : b ∈ cs
      · exact (kept b hc o e).2
      · exact un.keep b o e (by rw [froze_out hc]; exact n) hb hx
    · by_cases hc : b ∈ cs
      · exact ⟨o.slots, (kept b hc o e).2⟩
      · exact un.slot b o e (by rw [froze_out hc]; exact n) hb hx
    · by_cases hc : b ∈ cs
      · exact strip_in hc
      · rw [strip_out hc]
        exact un.free b o e (by rw [froze_out hc]; exact n) hx
    · rw [strip_out (nc b _ e)]
      exact un.tups b xs (by rw [froze_out (nc b _ e)]; exact e)
    · rw [strip_out (nc b _ e)]
      exact un.frzs b o u (by rw [froze_out (nc b _ e)]; exact e)
    · rw [strip_out (nc b _ e)]
      exact un.tbls b ps (by rw [froze_out (nc b _ e)]; exact e)
  have hok' : HOk X.prog X.w (strip cs H') s'.heap := fun a o e => by
    by_cases ha : a ∈ cs
    · rw [strip_in ha] at e; cases e
    · rw [strip_out ha] at e
      have ns : ∀ b y, H' b = some (.own y) → b ∉ cs := fun b y q hb => by
        obtain ⟨o', e'⟩ := at' b hb
        rw [q] at e'; cases e'
      have nt : ∀ b xs, H' b = some (.tup xs) → b ∉ cs := fun b xs q hb => by
        obtain ⟨o', e'⟩ := at' b hb
        rw [q] at e'; cases e'
      exact (hok a o e).stay (fun b u _ q => q) (fun b q => by rw [strip_out (ns b _ q)]; exact q) fun b xs q => by rw [strip_out (nt b _ q)]; exact q
  obtain ⟨hh, g, d, t, os'⟩ := s'
  obtain rfl : os' = s.os := os
  exact ⟨v, strip cs H', I.call (h' := hh) (g' := g) (d' := d) (t' := t) (ch := []) un' hok' bare (fun b z => absurd z (by simp)), r, q⟩
end
def tCallZ (X : Cx) (cs : List Addr) (sp : Sp) (t : TA) : TE := fun σ H Q => t σ H fun vs H1 => ∀ Hf, Frozen X cs σ H1 Hf → sp vs Hf (fun v H' => Q v (strip cs H')) E0
theorem pe_callZ {X : Cx} {cs : List Addr} {k : Nat} {f : Addr} {fd : FuncData} {ps : List Str} {sp : Sp} {x : Str} {p pos : Pos} {e : Expr} {es : List Expr} {t : TA} (hcs : OwnCells X cs) (F : FnOk X.prog X.w X.K X.mg X.base CX0 k f fd ps sp) (hr : Room k X.A)
    (hg : Gl X x) (hm : X.mg x = some (.ref f)) (hk : PySem.W.keepIn X.K (.ref f) = true) (hb : Binds X.K fd ps []) (ha : PA X (e :: es) t) (hdb : (x == ("__debug__" : Str)) = false := by decide)
    (he : starEach (e :: es) X.env = (false, eval e X.env) :: starEach es X.env := by rfl) (hpl : (backTo pos (starEach es X.env)).any (·.1) = false := by rfl) : PE X (.Call (.Name x p) (e :: es) [] pos) (tCallZ X cs sp t) := by
  intro pins s σ H Q I h
  refine wpAny_Call_Name_kw (ld_glob I hg hm ?_ hdb)
  refine PySem.W.callWith_K (h₀ := X.base) I.ok.mod.kin hk (thn (ha pos pins s σ H _ I h) fun us s1 ⟨vs, H1, I1, r, q⟩ => ⟨I1.kIn, ?_⟩) he hpl
  have hq := q _ (I1.frozen hcs)
  have hl : (us ++ []).length = ps.length := by rw [List.append_nil, ← r.length]; exact F.len _ _ _ _ hq
  have hbt := hb s1 us I1.kIn hl
  rw [List.append_nil] at hbt
  refine wpAny_call (codeAny_mono (F.run X.A X.stack s1 _ ⟨us, []⟩ us vs _ E0 hr (I1.envZ hcs) hbt r hq) fun r s' hq => ?_)
  cases r with
  | error e => exact False.elim hq
  | ok fl =>
    cases fl with
    | ret u => exact I1.afterZ hcs hq
    | next => exact False.elim hq
    | brk => exact False.elim hq
    | cont => exact False.elim hq
def CodeO (oc : Obj) (qual : Str) : Prop := ∃ vs t, oc.data = .fields vs ∧ vs[1]? = some (.str qual t)
def LamTab (H : Hp) (P : Addr) (pos : Pos) (qual : Str) : Prop :=
  ∃ ps, H P = some (.tbl ps) ∧ (ps = #[] ∨ ∃ c' oc, ps = #[rawInt pos.line, rawInt pos.col, .ref c'] ∧ H c' = some (.frz oc unT) ∧ CodeO oc qual)
def LamAt (H : Hp) (f : Addr) (qual : Str) (params : Arguments) (body : Expr) (scope : Scope) (clos : List (Str × Addr)) : Prop :=
  ∃ pm c' ctv oc, H f = some (.frz (kla_obj "<lambda>" qual params body scope clos pm c' ctv) unT) ∧ H c' = some (.frz oc unT) ∧ CodeO oc qual
def BMain (mg : Str → Option Value) (h : Heap) : Prop := ∃ bm ob, mg "__builtins__" = some (.ref bm) ∧ bm ≠ builtinsNs ∧ h.get? bm = some ob ∧ ob.cls = .type "module" ∧ ob.dict = some builtinsNs ∧ ob.data = .plain
def tLam (P : Addr) (pos : Pos) (qual : Str) (params : Arguments) (body : Expr) (scope : Scope) (clos : List (Str × Addr)) : TE := fun _ H Q =>
  LamTab H P pos qual ∧ ∀ (f : Addr) (H' : Hp), H f = none → LamAt H' f qual params body scope clos → LamTab H' P pos qual → (∀ b o, H b = some o → b ≠ P → H' b = some o) → Q (.ref f) H'
theorem pe_lam {X : Cx} {c P : Addr} {pos : Pos} {qual : Str} {params : Arguments} {body : Expr} {scope : Scope} {clos : List (Str × Addr)} (hcode : X.env.code = .ref c) (C : CodeHd X.base c P) (hbm : BMain X.mg X.base)
    (hcl : closureFor scope X.env = pure clos) (hdef : defaultsOf params X.env = ([], [])) (hq : X.env.qual ++ "<lambda>" = qual) : PE X (.Lambda params body scope pos) (tLam P pos qual params body scope clos) := by
  intro pins s σ H Q I h
  obtain ⟨⟨ps, hP, hps⟩, k⟩ := h
  subst hq
  refine PySem.W.kla_eval hdef ?_
  have hgs := I.mod.glob.keeps I.bk
  have hPo : s.heap.get? P = some (tabObj ps) := I.hok P _ hP
  have nbase : ∀ b o, X.base.get? b = some o → b ≠ P := fun b o e z => by
    have := (I.bs b o e).2
    rw [z, hP] at this
    cases this
  have hgP : mainGlobals ≠ P := by
    obtain ⟨o, es, ep, e, _⟩ := I.mod.glob
    exact nbase _ _ e
  have hb : s.heap.BuiltinsAt X.mg P := by
    obtain ⟨bm, ob, b1, b2, b3, b4, b5, b6⟩ := hbm
    refine ⟨bm, ob, b1, b2, fun q => ?_, nbase _ _ b3, I.bk _ _ b3, b4, b5, b6⟩
    obtain ⟨o, es, ep, e, hd, _⟩ := I.mod.glob
    rw [q, e] at b3; cases b3; rw [hd] at b6; cases b6
  rcases hps with rfl | ⟨c', oc, rfl, hc', hco⟩
  · refine PySem.W.kla_makeFunction (mg := X.mg) hcl I.ok.glob hgs hcode (C.keeps I.bk) hPo (show TriplesOk [] from trivial) rfl hgP hb fun c' ctv h' tk hx hge hlt hrec htb => ?_
    obtain ⟨c2, oc, vs, t, e2, hoc, hd, hv⟩ := hrec
    cases e2
    have fnew : H h'.objs.size = none := I.hok.fresh (Nat.le_trans hge (Nat.le_of_lt hlt))
    have cnew : H c' = none := I.hok.fresh hge
    have nPc : P ≠ c' := ne_of_none hP cnew
    have nPf : P ≠ h'.objs.size := ne_of_none hP fnew
    have ncf : c' ≠ h'.objs.size := Nat.ne_of_lt hlt
    let fo : Obj := kla_obj "<lambda>" (X.env.qual ++ "<lambda>") params body scope clos ((X.mg "__name__").getD .none) c' ctv
    let tb : Array Value := #[] ++ #[rawInt pos.line, rawInt pos.col, .ref c']
    let H' : Hp := upd (upd (upd H P (.tbl tb)) c' (.frz oc unT)) h'.objs.size (.frz fo unT)
    have a1 : H' h'.objs.size = some (.frz fo unT) := upd_same
    have a2 : H' c' = some (.frz oc unT) := by
      show upd _ _ _ c' = _
      rw [upd_ne ncf, upd_same]
    have a3 : H' P = some (.tbl tb) := by
      show upd _ _ _ P = _
      rw [upd_ne nPf, upd_ne nPc, upd_same]
    have a4 : ∀ b, b ≠ h'.objs.size → b ≠ c' → b ≠ P → H' b = H b := fun b h1 h2 h3 => by
      show upd _ _ _ b = _
      rw [upd_ne h1, upd_ne h2, upd_ne h3]
    have a5 : ∀ b o, H b = some o → b ≠ P → H' b = some o := fun b o e h3 => by rw [a4 b (ne_of_none e fnew) (ne_of_none e cnew) h3]; exact e
    have old : ∀ b o, b ≠ P → s.heap.get? b = some o → (h'.push fo).get? b = some o := fun b o hb e => Heap.get?_push_of_some _ (hx b o hb e)
    have hP' : (h'.push fo).get? P = some (tabObj tb) := Heap.get?_push_of_some _ htb
    have lt : ∀ b o, s.heap.get? b = some o → b ≠ h'.objs.size ∧ b ≠ c' := fun b o e => by
      have h1 := Heap.lt_size e
      exact ⟨Nat.ne_of_lt (Nat.lt_of_lt_of_le h1 (Nat.le_trans hge (Nat.le_of_lt hlt))), Nat.ne_of_lt (Nat.lt_of_lt_of_le h1 hge)⟩
    have un : Un X.fs [] H H' s.heap (h'.push fo) := by
      refine ⟨fun b o e n _ _ => old b o (fun z => by rw [z, hP] at n; cases n) e, fun b o e n _ _ => ⟨o.slots, old b o (fun z => by rw [z, hP] at n; cases n) e⟩, fun b o e n _ => ?_, fun b o e _ => ?_, fun b xs e => ?_, fun b o u e => ?_, fun b ps e => ?_⟩
      · rw [a4 b (lt b o e).1 (lt b o e).2 (fun z => by rw [z, hP] at n; cases n)]
        exact n
      · by_cases hb : b = P
        · exact ⟨_, by rw [hb]; exact hP'⟩
        · exact ⟨o, old b o hb e⟩
      · exact a5 b _ e (fun z => by rw [z, hP] at e; cases e)
      · exact a5 b _ e (fun z => by rw [z, hP] at e; cases e)
      · by_cases hb : b = P
        · subst hb
          rw [hP] at e
          cases e
          exact ⟨_, a3⟩
        · exact ⟨#[], by rw [a5 b _ e hb, Array.append_empty]⟩
    have hok : HOk X.prog X.w H' (h'.push fo) := fun b o e => by
      by_cases h1 : b = h'.objs.size
      · subst h1
        rw [a1] at e
        cases e
        exact frz_ok (Heap.get?_push_size _ rfl)
      by_cases h2 : b = c'
      · subst h2
        rw [a2] at e
        cases e
        exact frz_ok (Heap.get?_push_of_some _ hoc)
      by_cases h3 : b = P
      · subst h3
        rw [a3] at e
        cases e
        exact hP'
      rw [a4 b h1 h2 h3] at e
      refine (I.hok b o e).stay (fun d v hd q => old d v (fun z => ?_) q) (fun d q => a5 d _ q (fun z => by rw [z, hP] at q; cases q)) fun d xs q => a5 d _ q (fun z => by rw [z, hP] at q; cases q)
      rcases hd with hd | hd
      · exact h3 (hd.symm.trans z)
      · rw [z, hP] at hd; cases hd
    refine ⟨.ref h'.objs.size, H', I.un (h' := h'.push fo) (t' := tk) un hok, rfl, k _ H' fnew ⟨_, c', ctv, oc, a1, a2, vs, t, hd, hv⟩ ⟨tb, a3, .inr ⟨c', oc, rfl, a2, vs, t, hd, hv⟩⟩ a5⟩
  · have hf : codeAmong pos (#[rawInt pos.line, rawInt pos.col, .ref c'] : Array Value).toList = some (.ref c') := by
      show (if ((pos.line : Int) == (pos.line : Int) && (pos.col : Int) == (pos.col : Int)) = true then some (Value.ref c') else _) = _
      rw [if_pos (by simp)]
    refine PySem.W.kla_makeFunctionHit (mg := X.mg) (cv := .ref c') hcl I.ok.glob hgs hcode (C.keeps I.bk) hPo (show TriplesOk [rawInt pos.line, rawInt pos.col, .ref c'] from trivial) hf hb fun ctv h' tk hk hsz => ?_
    have fnew : H h'.objs.size = none := I.hok.fresh hsz
    let fo : Obj := kla_obj "<lambda>" (X.env.qual ++ "<lambda>") params body scope clos ((X.mg "__name__").getD .none) c' ctv
    have old : ∀ b o, s.heap.get? b = some o → (h'.push fo).get? b = some o := fun b o e => Heap.get?_push_of_some _ (hk b o e)
    have same : ∀ b o, H b = some o → upd H h'.objs.size (.frz fo unT) b = some o := fun b o e => by rw [upd_ne (ne_of_none e fnew)]; exact e
    refine ⟨.ref h'.objs.size, upd H h'.objs.size (.frz fo unT), I.laid (h' := h'.push fo) (t' := tk) old hsz (frz_ok (Heap.get?_push_size _ rfl)), rfl, k _ _ fnew ⟨_, c', ctv, oc, upd_same, same _ _ hc', hco⟩ ⟨_, same _ _ hP, .inr ⟨c', oc, rfl, same _ _ hc', hco⟩⟩ fun b o e _ => same b o e⟩
def cxL (P : Program) (w : World) (K : PySem.W.Frag) (mg : Str → Option Value) (base : Heap) (N : List Str) (qual : Str) (scope : Scope) (f : Addr) (cd : Value) (clos : List (Str × Addr)) (A : Around) (outer : List Env) (s : Shared) (H : Hp) : Cx where
  prog := P
  w := w
  K := K
  mg := mg
  base := base
  A := A.deeper (PySem.W.envX qual scope s.heap.objs.size f cd clos)
  N := N
  s_0 := s
  H_0 := H
  env := PySem.W.envX qual scope s.heap.objs.size f cd clos
  outer := outer
  stack := PySem.W.envX qual scope s.heap.objs.size f cd clos :: outer
  ex := []
  calm := true
  fn := fun _ => false
  pn := []
  xe := fun _ _ => False
structure LamScope (px : Str) (fvs : List Str) (clos : List (Str × Addr)) (sc : Scope) : Prop where
  kind : sc.kind = .function
  co : sc.isCoroutine = false
  gen : sc.isGenerator = false
  par : sc.names.lookup px = some .local
  nocell : ∀ y ∈ sc.names, y.2 ≠ .cell
  fv : ∀ x ∈ fvs, sc.names.lookup x = some .free
  has : ∀ x, sc.names.lookup x = some .free → ∃ c, clos.lookup x = some c
  inj : ∀ x y c, clos.lookup x = some c → clos.lookup y = some c → x = y
structure CellsAt (H : Hp) (cs : List Addr) (clos : List (Str × Addr)) (fvs : List Str) (fvals : List V) : Prop where
  all : ∀ x c, clos.lookup x = some c → c ∈ cs ∧ ∃ o v, H c = some (.frz o unT) ∧ o.data = .cell v
  of : ∀ b ∈ cs, ∃ x, clos.lookup x = some b
  val : ∀ (j : Nat) (x : Str) (v : V), fvs[j]? = some x → fvals[j]? = some v → ∃ c o u, clos.lookup x = some c ∧ H c = some (.frz o unT) ∧ o.data = .cell (some u) ∧ RelV v u
  len : fvals.length = fvs.length
def refroze (cs : List Addr) (H H' : Hp) : Hp := fun b => if b ∈ cs then H b else H' b
theorem fn_lam {P : Program} {w : World} {K : PySem.W.Frag} {mg : Str → Option Value} {base : Heap} {k : Nat} {f c' : Addr} {qual px : Str} {params : Arguments} {body : Expr} {scope : Scope} {clos : List (Str × Addr)} {pm ctv : Value} {oc : Obj} {fvs : List Str} {fvals : List V} {cs : List Addr} {sp : Sp}
    (S : LamScope px fvs clos scope) (hco : CodeO oc qual) (len : ∀ vs H Q E, sp vs H Q E → vs.length = 1)
    (hsp : ∀ vs H Q E, sp vs H Q E → H f = some (.frz (kla_obj "<lambda>" qual params body scope clos pm c' ctv) unT) ∧ H c' = some (.frz oc unT) ∧ CellsAt H cs clos fvs fvals)
    (hbody : ∀ (A : Around) (outer : List Env) (s : Shared) (H : Hp) (vs : List V) (Q : VK) (E : XK), Room k (A.deeper (PySem.W.envX qual scope s.heap.objs.size f (.ref c') clos)) → sp vs H Q E →
      ∃ t, PE (cxL P w K mg base (px :: fvs) qual scope f (.ref c') clos A outer s (strip cs H)) body t ∧ t ((vs ++ fvals).map some) (strip cs H) fun v H' => Q v (refroze cs H H')) :
    FnOk P w K mg base CX0 (k + 1) f (kla_fn "<lambda>" qual params body scope clos pm (.ref c') ctv) [px] sp := by
  refine ⟨fun vs H Q E h => len vs H Q E h, fun A outer s H args us vs Q E hr e0 hb r hs => ?_⟩
  obtain ⟨hf, hc', cz⟩ := hsp vs H Q E hs
  obtain ⟨v0, rfl⟩ : ∃ v0, vs = [v0] := by
    have := len vs H Q E hs
    match vs, this with
    | [v0], _ => exact ⟨v0, rfl⟩
  obtain ⟨u0, rfl, r0⟩ := vals1 r
  obtain ⟨vs', t', hd, hv⟩ := hco
  have hfo : s.heap.get? f = some _ := (e0.hok f _ hf).1
  have lim : s.heap.NoLimit := e0.mod.nolimit.keeps fun b o e => (e0.bs b o e).1
  refine PySem.W.kla_callFunE hr.depth hfo rfl S.co S.gen rfl ⟨c', oc, vs', t', rfl, (e0.hok c' _ hc').1, hd, hv⟩ (hb _ _ _ _ ?_)
  refine wpAny_newFunctionEnv S.nocell (fun y hy => ?_) (fun h₁ hns hsb => ⟨lim.fresh _ hsb, ?_⟩) S.kind
  · have e : y = (px, u0) := by simpa using hy
    rw [e]
    exact S.par
  show codeAny _ _ (.expr body (PySem.W.envX qual scope s.heap.objs.size f (.ref c') clos)) _ _
  obtain ⟨t, ht, hq⟩ := hbody A outer s H [v0] Q E (hr.deeper _) hs
  have hk : ∀ b o, s.heap.get? b = some o → h₁.get? b = some o := fun b o e => hsb.extBut b o (Nat.ne_of_lt (Heap.lt_size e)) (Heap.get?_push_of_some _ e)
  have frzc : ∀ b ∈ cs, ∃ o, H b = some (.frz o unT) := fun b hb => by
    obtain ⟨x, hx⟩ := cz.of b hb
    obtain ⟨_, o, v, e, _⟩ := cz.all x b hx
    exact ⟨o, e⟩
  have nn : ∀ b, H b = none → b ∉ cs := fun b e hb => by
    obtain ⟨o, e'⟩ := frzc b hb
    rw [e] at e'; cases e'
  have no : ∀ b y, H b = some (.own y) → b ∉ cs := fun b y e hb => by
    obtain ⟨o, e'⟩ := frzc b hb
    rw [e] at e'; cases e'
  have nt : ∀ b xs, H b = some (.tup xs) → b ∉ cs := fun b y e hb => by
    obtain ⟨o, e'⟩ := frzc b hb
    rw [e] at e'; cases e'
  have ntb : ∀ b ps, H b = some (.tbl ps) → b ∉ cs := fun b y e hb => by
    obtain ⟨o, e'⟩ := frzc b hb
    rw [e] at e'; cases e'
  have sn : ∀ b, H b = none → strip cs H b = none := fun b e => by rw [strip_out (nn b e)]; exact e
  have noA : ∀ b : Addr, b ∉ (cxL P w K mg base (px :: fvs) qual scope f (.ref c') clos A outer s (strip cs H)).ex := fun b z => absurd (show b ∈ ([] : List Addr) from z) (by simp)
  have I : Inv (cxL P w K mg base (px :: fvs) qual scope f (.ref c') clos A outer s (strip cs H)) [] (([v0] ++ fvals).map some) (strip cs H) { s with heap := h₁, toks := s.toks + ([px].zip [u0]).length } := by
    refine ⟨⟨e0.mod, S.kind, rfl, rfl, Nat.le_refl _, S.inj, fun y hy => ?_, fun y c h _ => (by cases h), fun _ => hr.hd, Around.frames_deeper e0.frames, .inr ⟨rfl, rfl⟩, fun b z => absurd z (noA b), fun b o e => ⟨(e0.bs b o e).1, sn b (e0.bs b o e).2⟩, e0.bsz, fun b _ _ => noA b, fun b z => absurd z (noA b), e0.funs, fun b hb => sn b (e0.frf b hb)⟩,
      rfl, e0.bare, Un.kept hk, ⟨_, hns, fun i y v h1 h2 h3 => ?_⟩, fun y c h => ?_, sn _ (e0.hok.fresh (Nat.le_refl _)), fun y c h => ?_, fun p hp => absurd (show p ∈ ([] : List (Addr × Obj)) from hp) (by simp), ?_, ?_⟩
    · have hy : scope.names.lookup y = some .cell ∨ scope.names.lookup y = some .free := hy
      rcases hy with hy | hy
      · exact absurd rfl (S.nocell _ (PySem.mem_of_lookup hy))
      · exact S.has y hy
    · match i, h1, h2 with
      | 0, h1, h2 =>
        have e1 : px = y := Option.some.inj h1
        have e2 : v0 = v := Option.some.inj (Option.some.inj h2)
        subst e1 e2
        exact ⟨u0, r0, .inl ⟨S.par, by simp⟩⟩
      | j + 1, h1, h2 =>
        have h1 : fvs[j]? = some y := h1
        have h2' : fvals[j]? = some v := by
          have h2 : (fvals.map some)[j]? = some (some v) := h2
          rw [List.getElem?_map] at h2
          cases e : fvals[j]? with
          | none => rw [e] at h2; cases h2
          | some z => rw [e] at h2; cases h2; rfl
        obtain ⟨c, o, u, q1, q2, q3, q4⟩ := cz.val j y v h1 h2'
        exact ⟨u, q4, .inr ⟨.inr (S.fv y (List.mem_of_getElem? h1)), c, q1, o, hk _ _ (e0.hok c _ q2).1, q3⟩⟩
    · obtain ⟨_, o, v, q1, q2⟩ := cz.all y c h
      exact ⟨v, o, hk _ _ (e0.hok c _ q1).1, q2⟩
    · exact strip_in (cz.all y c h).1
    · intro a o e
      by_cases ha : a ∈ cs
      · rw [strip_in ha] at e; cases e
      · rw [strip_out ha] at e
        exact (e0.hok a o e).stay (fun b u _ q => hk b u q) (fun b q => by rw [strip_out (no b _ q)]; exact q) fun b xs q => by rw [strip_out (nt b _ q)]; exact q
    · show (([v0] ++ fvals).map some).length = (px :: fvs).length
      rw [List.length_map, List.length_append, cz.len]
      simp
      omega
  refine PySem.W.kla_codeExpr (wpAny_mono (ht [] _ _ _ _ I hq) (fun u s' ⟨v, H', J, rv, q⟩ => ?_) fun e s' z => False.elim z)
  refine ⟨v, refroze cs H H', J.os, J.bare, ?_, ?_, rv, q⟩
  · have ub : Un (frs outer) [] (strip cs H) H' s.heap s'.heap := J.base
    have fo : ∀ b, b ∉ cs → refroze cs H H' b = H' b := fun b hb => by unfold refroze; rw [if_neg hb]
    have fi : ∀ b, b ∈ cs → refroze cs H H' b = H b := fun b hb => by unfold refroze; rw [if_pos hb]
    refine ⟨fun b o e n hb hx => ub.keep b o e (sn b n) hb hx, fun b o e n hb hx => ub.slot b o e (sn b n) hb hx, fun b o e n hx => ?_, fun b o e hx => ub.there b o e hx, fun b xs e => ?_, fun b o u e => ?_, fun b ps e => ?_⟩
    · rw [fo b (nn b n)]
      exact ub.free b o e (sn b n) hx
    · rw [fo b (nt b _ e)]
      exact ub.tups b xs (by rw [strip_out (nt b _ e)]; exact e)
    · by_cases hb : b ∈ cs
      · rw [fi b hb]; exact e
      · rw [fo b hb]
        exact ub.frzs b o u (by rw [strip_out hb]; exact e)
    · rw [fo b (ntb b _ e)]
      exact ub.tbls b ps (by rw [strip_out (ntb b _ e)]; exact e)
  · intro b o e
    unfold refroze at e
    by_cases hb : b ∈ cs
    · rw [if_pos hb] at e
      obtain ⟨o', e'⟩ := frzc b hb
      rw [e] at e'
      cases e'
      refine frz_ok (J.base.keep b o' (e0.hok b _ e).1 (strip_in hb) (fun z => ?_) (by simpa using noA b))
      have := e0.frf b z
      rw [e] at this; cases this
    · rw [if_neg hb] at e
      have cn : ∀ d ∈ cs, H' d = none := fun d hd => by
        obtain ⟨x, hx⟩ := cz.of d hd
        exact J.freeC x d hx
      have out : ∀ d u, H' d = some u → refroze cs H H' d = some u := fun d u q => by
        unfold refroze
        rw [if_neg (fun hd => by rw [cn d hd] at q; cases q)]
        exact q
      exact (J.hok b o e).stay (fun d u _ q => q) (fun d q => out d _ q) fun d xs q => out d _ q
end L2
end
section
namespace L2
open PySem PySem.Spec PyProof.Rows
open PySem.W (WData Codec OpenSpec Well WellAll ReadsW ReadsAllW CodeHd tabObj TabsAt noTabs)
theorem Same.seqT {K : PySem.W.Frag} {H H' : Hp} {a : Addr} {xs : List V} (e : Same H H') (h : SqT K H a xs) : SqT K H' a xs := by
  rcases h with (h | ⟨o, h⟩) | h
  · exact .inl (.inl (e _ _ h))
  · exact .inl (.inr ⟨o, e _ _ h⟩)
  · exact .inr h
mutual
theorem Dw.same {K : PySem.W.Frag} {H H' : Hp} (e : Same H H') : ∀ (d : WData) (v : V), Dw K H v d → Dw K H' v d
  | .none, _, x => by cases x; exact .non
  | .bool b, _, x => by cases x; exact .bl b
  | .int i, _, x => by cases x; exact .int i
  | .str s, _, x => by cases x; exact .str s
  | .bytes b, _, x => by cases x; exact .byt _
  | .list ds, _, x => by
    cases x with
    | lst hs ha => exact .lst (e.seq hs) (Dw.sameAll e ds _ ha)
  | .tuple ds, _, x => by
    cases x with
    | tup hs ha => exact .tup (e.seqT hs) (Dw.sameAll e ds _ ha)
  | .float _, _, x => by cases x
  | .dict _, _, x => by cases x
  | .bytearray _, _, x => by cases x
  | .set _, _, x => by cases x
  | .frozenset _, _, x => by cases x
  | .obj _ _, _, x => by cases x
theorem Dw.sameAll {K : PySem.W.Frag} {H H' : Hp} (e : Same H H') : ∀ (ds : List WData) (vs : List V), DwAll K H vs ds → DwAll K H' vs ds
  | [], _, x => by cases x; exact .nil
  | d :: ds, _, x => by
    cases x with
    | cons h1 h2 => exact .cons (Dw.same e d _ h1) (Dw.sameAll e ds _ h2)
end
def TabsH (tabs : List (Addr × Addr)) (H : Hp) : Prop := ∀ q ∈ tabs, H q.2 = some (.tbl #[])
def tabH (tabs : List (Addr × Addr)) (H : Hp) : Hp := fun b => if b ∈ tabs.map (·.2) then some (.tbl #[]) else H b
theorem tabH_in {tabs : List (Addr × Addr)} {H : Hp} {b : Addr} (h : b ∈ tabs.map (·.2)) : tabH tabs H b = some (.tbl #[]) := by unfold tabH; rw [if_pos h]
theorem tabH_out {tabs : List (Addr × Addr)} {H : Hp} {b : Addr} (h : b ∉ tabs.map (·.2)) : tabH tabs H b = H b := by unfold tabH; rw [if_neg h]
theorem spec_callT {P : Program} {w : World} {K : PySem.W.Frag} {mg mb : Str → Option Value} {k : Nat} {fa : Addr} {fd : FuncData} {ps : List Str} {sp : Sp} {s₁ : Shared} {vals : List Value} {ds : List WData} {R : PySem.W.WRecords} {cl : Str → Option Addr} {d0 : WData} {tabs : List (Addr × Addr)}
    (KX : K.In s₁.heap) (hns : s₁.heap.Ns mainGlobals mg) (hb : s₁.heap.Ns builtinsNs mb) (hbb : ∀ x : Str, x ≠ "__name__" → mb x = bootBuiltins x) (hlim : s₁.heap.NoLimit) (hg : s₁.gens = #[])
    (hT : TabsAt tabs s₁.heap) (hnt : noTabs K = true) (hbm : BMain mg s₁.heap)
    (hwl : WellAll w.params s₁.heap vals ds) (hpl : plWs ds = true) (hwt : ∀ d ∈ ds, d.weight ≤ 1048576) (hr : Room k callerA)
    (F : ∀ base : Heap, K.In base → base.Ns mainGlobals mg → BMain mg base → (∀ q ∈ tabs, CodeHd base q.1 q.2) → FnOk P w K mg base CX0 k fa fd ps sp) (hbind : ∀ (s : Shared) (us : List Value), us.length = ps.length → BindsTo s fd ⟨us, []⟩ (ps.zip us)) (hlen : ds.length = ps.length)
    (hsp : ∀ (H : Hp) (xs : List V), TabsH tabs H → DwAll K H xs ds → sp xs H (fun v H' => Dw K H' v d0) E0) :
    codeAny (model P w) callerA (.call (.ref fa) ⟨vals, []⟩) (fun r s' => ∃ u as, r = .ok (.ret u) ∧ ReadsW R cl s'.heap u d0 as ∧ OldK s₁.heap s'.heap ∧ s'.os = s₁.os ∧ AllBare s'.gens) s₁ := by
  obtain ⟨A, ho, ar⟩ := area_all ds vals hwl hpl hwt
  have hO : OnlyF (argH K s₁.heap A) := argH_only ar
  have hok : HOk P w (argH K s₁.heap A) s₁.heap := argH_ok ar
  have hS := dw_all KX ar ds vals hwl hpl ho
  have hV := vals_toV ho
  have hK : ∀ b u, argH K s₁.heap A b = some u → K.lookup b = none := fun b u q => (argH_is ar q).1
  have seqA : ∀ {b : Addr} {u : HO}, argH K s₁.heap A b = some u → ∃ o vs n, s₁.heap.get? b = some o ∧ o.data = .seq vs n := fun {b u} q => by
    obtain ⟨_, vs, _, _, ⟨e2, _⟩ | ⟨e2, _⟩⟩ := argH_is ar q
    · exact ⟨_, _, _, e2, rfl⟩
    · exact ⟨_, _, _, e2, rfl⟩
  generalize argH K s₁.heap A = H0 at hO hok hS hK seqA
  have tabO : ∀ b ∈ tabs.map (·.2), s₁.heap.get? b = some (tabObj #[]) ∧ isCodeTable s₁.heap b := fun b hb => by
    obtain ⟨q, hq, rfl⟩ := List.mem_map.mp hb
    exact ⟨(hT q hq).2, ((hT q hq).1.tab (hT q hq).2).isCodeTable⟩
  have nTab : ∀ {b : Addr} {o : Obj}, s₁.heap.get? b = some o → o ≠ tabObj #[] → b ∉ tabs.map (·.2) := fun {b o} e h hb => by
    rw [(tabO b hb).1] at e
    exact h (Option.some.inj e).symm
  have nTabA : ∀ {b : Addr} {u : HO}, H0 b = some u → b ∉ tabs.map (·.2) := fun {b u} q => by
    obtain ⟨o, vs, n, e, d⟩ := seqA q
    exact nTab e fun z => by rw [z] at d; cases d
  have same : Same H0 (tabH tabs H0) := fun b u q => by rw [tabH_out (nTabA q)]; exact q
  have hok1 : HOk P w (tabH tabs H0) s₁.heap := fun a o e => by
    by_cases ha : a ∈ tabs.map (·.2)
    · rw [tabH_in ha] at e
      cases e
      exact (tabO a ha).1
    · rw [tabH_out ha] at e
      exact (hok a o e).stay (fun b u _ q => q) (fun b q => same _ _ q) fun b xs q => same _ _ q
  have noneOf : ∀ {b : Addr} {o : Obj}, s₁.heap.get? b = some o → (∀ vs n, o.data ≠ .seq vs n) → o ≠ tabObj #[] → tabH tabs H0 b = none := fun {b o} e h1 h2 => by
    rw [tabH_out (nTab e h2)]
    cases q : H0 b with
    | none => rfl
    | some u =>
      obtain ⟨o', vs, n, e', d⟩ := seqA q
      rw [e] at e'
      cases e'
      exact absurd d (h1 _ _)
  have base_of : ∀ {b : Addr} {o : Obj}, s₁.heap.get? b = some o → tabH tabs H0 b = none → (hidT s₁.heap (tabH tabs H0)).get? b = some o := fun e n => hidT_get e n
  have nsK : ∀ {b : Addr} {m : Str → Option Value}, s₁.heap.Ns b m → (hidT s₁.heap (tabH tabs H0)).Ns b m := fun {b m} ⟨o, es, ep, e, d, r⟩ =>
    ⟨o, es, ep, base_of e (noneOf e (fun vs n z => by rw [z] at d; cases d) (fun z => by rw [z] at d; cases d)), d, r⟩
  have nK : ∀ b o, K.lookup b = some o → b ∉ tabs.map (·.2) ∧ tabH tabs H0 b = none := fun b o e => by
    have n1 : b ∉ tabs.map (·.2) := nTab (KX b o e) fun z => by
      have h2 := List.all_eq_true.mp hnt (b, o) (PySem.W.mem_of_lookupK e)
      subst z
      exact absurd (show false = true from h2) Bool.false_ne_true
    refine ⟨n1, ?_⟩
    rw [tabH_out n1]
    cases q : H0 b with
    | none => rfl
    | some u =>
      rw [hK b u q] at e
      cases e
  have hKb : K.In (hidT s₁.heap (tabH tabs H0)) := fun b o e => base_of (KX b o e) (nK b o e).2
  have hM : Mod K mg (hidT s₁.heap (tabH tabs H0)) := ⟨hKb, nsK hns, ⟨mb, nsK hb, hbb⟩, let ⟨mc, h1, h2⟩ := hlim; ⟨mc, nsK h1, h2⟩⟩
  have hBM : BMain mg (hidT s₁.heap (tabH tabs H0)) := by
    obtain ⟨bm, ob, b1, b2, b3, b4, b5, b6⟩ := hbm
    exact ⟨bm, ob, b1, b2, base_of b3 (noneOf b3 (fun vs n z => by rw [z] at b6; cases b6) (fun z => by rw [z] at b6; cases b6)), b4, b5, b6⟩
  have hCH : ∀ q ∈ tabs, CodeHd (hidT s₁.heap (tabH tabs H0)) q.1 q.2 := fun q hq => by
    obtain ⟨o, vs, file, tf, flags, tg, inF, text, tt, e1, r1, r2, r⟩ := (hT q hq).1
    exact ⟨o, vs, file, tf, flags, tg, inF, text, tt, base_of e1 (noneOf e1 (fun vs n z => by rw [z] at r2; cases r2) (fun z => by rw [z] at r1; cases r1)), r1, r2, r⟩
  have e0 : Env0 P w K mg (hidT s₁.heap (tabH tabs H0)) callerA [] s₁ (tabH tabs H0) := ⟨rfl, hM, fun b o e => of_hidT e, Nat.le_of_eq (hidT_size _ _), trivial, fun b hb => absurd (show b ∈ ([] : List Addr) from hb) (by simp), hok1, .of_eq hg⟩
  have hl : vals.length = ps.length := by rw [wellAll_len hwl]; exact hlen
  refine codeAny_mono ((F _ hKb (nsK hns) hBM hCH).run callerA [] s₁ (tabH tabs H0) ⟨vals, []⟩ vals (vals.map toV) _ _ hr e0 (hbind s₁ vals hl) hV (hsp _ _ (fun q hq => tabH_in (List.mem_map_of_mem hq)) (Dw.sameAll same ds _ hS))) fun r s' x => ?_
  cases r with
  | error e => exact False.elim x
  | ok fl =>
    cases fl with
    | next => exact False.elim x
    | brk => exact False.elim x
    | cont => exact False.elim x
    | ret u =>
      obtain ⟨v, H', os, bare, un, hok', r', q⟩ := x
      have kept : ∀ b o, b ∉ tabs.map (·.2) → s₁.heap.get? b = some o → s'.heap.get? b = some o := fun b o hb e => by
        cases q2 : H0 b with
        | none => exact un.keep b o e (by rw [tabH_out hb]; exact q2) (by intro z; exact absurd (show b ∈ ([] : List Addr) from z) (by simp)) (by simp)
        | some u2 =>
          rcases hO b with z | ⟨ob, u3, z⟩
          · rw [q2] at z
            cases z
          · have z2 := un.frzs b ob _ (same _ _ z)
            obtain ⟨e1, _⟩ := hok b _ z
            obtain ⟨e2, _⟩ := hok' b _ z2
            rw [e] at e1
            cases e1
            exact e2
      have grown : ∀ b ∈ tabs.map (·.2), ∃ more, s'.heap.get? b = some (tabObj more) := fun b hb => by
        obtain ⟨more, z⟩ := un.tbls b #[] (tabH_in hb)
        exact ⟨_, hok' b _ z⟩
      have KX' : K.In s'.heap := fun b o e => kept b o (nK b o e).1 (KX b o e)
      obtain ⟨as, hrd⟩ := Dw.reads (R := R) (cl := cl) hok' KX' d0 v u q r'
      refine ⟨u, as, rfl, hrd, ⟨fun b o e => ?_, fun b o e => ?_⟩, os, bare⟩
      · by_cases hb : b ∈ tabs.map (·.2)
        · obtain ⟨more, z⟩ := grown b hb
          have e2 := (tabO b hb).1
          rw [e] at e2
          cases e2
          exact .inr (.inl ⟨(tabO b hb).2, rfl, #[], more, rfl, by rw [Array.empty_append]; exact z⟩)
        · exact .inl (kept b o hb e)
      · by_cases hb : b ∈ tabs.map (·.2)
        · obtain ⟨more, z⟩ := grown b hb
          exact ⟨_, z⟩
        · exact ⟨o, kept b o hb e⟩
theorem walk_specT {r : OpenSpec} {k : Nat} {q : Program} {loose : List Str} {XP : (Str → Option Value) → Heap → Prop} {YP : World → Heap → Prop} {d : DefRec} {K : Params → PySem.W.Frag} {ps : List Str} {tabs : List (Addr × Addr)} {sp : PySem.W.Frag → Sp}
    (hwell : r.wellSaid = true) (hdf : d.params.defaults = []) (hlen : r.args.length = ps.length) (hr : Room k callerA)
    (hY : ∀ (w : World) (h : Heap), YP w h → (K w.params).In h)
    (hnt : ∀ w : World, noTabs (K w.params) = true)
    (hT : ∀ (w : World) (lo : List Str) (mean : ExcName → Option Value) (mg mb : Str → Option Value) (h : Heap), Top q lo mean mg mb h → YP w h → (K w.params).In h → TabsAt tabs h)
    (F : ∀ (w : World) (mg : Str → Option Value) (fa : Addr) (h : Heap), YP w h → (K w.params).In h → h.Ns mainGlobals mg → mg d.name = some (.ref fa) →
      ∃ fd : FuncData, (∀ (s : Shared) (us : List Value), us.length = ps.length → BindsTo s fd ⟨us, []⟩ (ps.zip us)) ∧
        ∀ base : Heap, (K w.params).In base → base.Ns mainGlobals mg → BMain mg base → (∀ q ∈ tabs, CodeHd base q.1 q.2) → FnOk r.prog w (K w.params) mg base CX0 k fa fd ps (sp (K w.params)))
    (hsp : ∀ (K : PySem.W.Frag) (H : Hp) (xs : List V) (a : Codec.denoteAll r.args), TabsH tabs H → Codec.withinAll r.args a = true → Codec.app r.args r.asked a = true → DwAll K H xs (Codec.encAll r.args a) →
      sp K xs H (fun v H' => Dw K H' v (r.ret.enc (Codec.app r.args r.f a))) fun _ _ _ => False) :
    PySem.W.WalkOS q loose XP YP r d [] (fun f vs => PySem.call f vs) := by
  intro w s_0 s₁ mg mb G Y fa o pm cd doc dV kV ho hd hcd hD hmg hg args vals as hpre hlay hrd hwl hlo
  obtain ⟨a, e1, e2⟩ := PySem.W.os_pre_some hpre
  obtain ⟨e3, hwi⟩ := Codec.encAll_of_decAll r.args args a e1
  subst e3
  have KX := hY w _ Y
  obtain ⟨fd, hb, hF⟩ := F w mg fa _ Y KX G.T.g hmg
  refine PySem.W.enter_call (codeAny_mono (spec_callT (R := []) (cl := classAt s_0.heap) (d0 := r.ret.enc (Codec.app r.args r.f a)) (tabs := tabs) KX G.T.g G.T.b G.T.builtins G.T.nolimit hg (hT w _ _ mg mb _ G.T Y KX) (hnt w) G.T.bmain hwl (pl_encAll _ _) (layable_weight hlay) hr hF hb (by rw [encAll_len]; exact hlen)
    (fun H xs hO hS => hsp (K w.params) H xs a hO hwi e2 hS)) fun r' s' hq => ?_)
  obtain ⟨u, as', rfl, h1, h2, h3, h4⟩ := hq
  exact ⟨.inl ⟨u, _, as', rfl, fun _ => rfl, h1, (OpenSpec.post_iff hwell hwi _ _).mpr rfl, fun z => Bool.noConfusion (show false = true from z)⟩, h2, h3, h4⟩
theorem tab_one {K : PySem.W.Frag} {q : Program} {lo : List Str} {mean : ExcName → Option Value} {mg mb : Str → Option Value} {h : Heap} {x : Str} {f c P : Addr} {oc oc2 : Value} {od od2 : Option Addr} {fd : FuncData} {sl sl2 : Array (Option Value)} {vs : Array Value}
    (T : Top q lo mean mg mb h) (X : K.In h) (h1 : PySem.W.nsIn K mainGlobals x = some (some (.ref f))) (h2 : K.lookup f = some ⟨oc, od, .func fd, sl⟩) (h3 : fd.code = .ref c) (h4 : K.lookup c = some ⟨oc2, od2, .fields vs, sl2⟩) (h5 : vs[11]? = some (.ref P))
    (hr : (recsOf q).any (fun e => e.name == x) = true) : CodeHd h c P ∧ h.get? P = some (tabObj #[]) := by
  obtain ⟨d, hd, hn⟩ := List.any_eq_true.mp hr
  have hn : d.name = x := beq_iff_eq.mp hn
  obtain ⟨a, o, fd', c', P', g1, g2, g3, g4, g5, g6⟩ := T.tab d hd
  have e1 := PySem.W.mg_of X T.g h1
  rw [hn, e1] at g1
  cases g1
  have e2 := X _ _ h2
  rw [g2] at e2
  cases e2
  cases g3
  rw [h3] at g4
  cases g4
  have e3 := X _ _ h4
  have g6' := g6
  obtain ⟨⟨oc', vs', k1, k2, k3, k4⟩, k5⟩ := g6'
  rw [e3] at k1
  cases k1
  cases k3
  rw [h5] at k4
  cases k4
  exact ⟨CodeHd.of g5 g6, k5⟩
end L2
end
section
namespace LM
open PySem PyProof.Rows
theorem args_maxD (a d : Value) : argsOk "max" ⟨[a], [(Str.ofString "default", d)]⟩ := by unfold argsOk; kernel_rfl
section
variable {prog : Program} {w : World} {A : Around} {R : Result → Shared → Prop} {I : Addr} {fp wr : List Addr} {n : Nat} {P : Nat → Value → Prop} {St : Nat → Heap → Prop} {kw : List (Str × Value)}
theorem mx_go (Wk : Walks prog w A.in1 I fp wr n P St) (bt : Nat → Nat → Bool) (cmp : CmpOf prog w A.in1 .Gt P bt) (S : Addr) (nS : S ∉ fp) :
    ∀ (k j : Nat) (s : Shared) (vB : Value) (c : Nat), n - (j + 1) = k → j + 1 ≤ n → St (j + 1) s.heap → P (argBest bt j) vB →
    s.heap.get? S = some { cls := .type "list", dict := none, data := .seq #[vB, vB] c, slots := #[] } →
    (∀ v h' tk, P (argBest bt (n - 1)) v → (∀ b o, b ∉ wr → b ≠ S → s.heap.get? b = some o → h'.get? b = some o) → R (.ok (.ret v)) { s with heap := h', toks := tk }) →
    codeAny (model prog w) A (.builtin "max.loop" ⟨[.ref I, .none, .ref S], kw⟩) R s := by
  have nSw : S ∉ wr := fun h => nS (Wk.sub _ h)
  have eN : (toString "max" ++ toString ".loop" : String) = "max.loop" := by decide
  intro k
  induction k with
  | zero =>
    intro j s vB c ek jn st pB gS out
    have e1 : j + 1 = n := by omega
    refine codeAny_builtin PySem.F.entry_max_loop ?_
    rw [Around.under_plainId PySem.F.plain_max_loop _]
    show wpAny _ A.in1 (seqItems? (.ref S) >>= _) _ _ s
    refine wpAny_bind (wpAny_seqItems gS rfl ?_)
    show wpAny _ A.in1 (tryCatch (pyNext (.ref I)) _ >>= _) _ _ s
    refine wpAny_bind (wpAny_tryCatch (Wk.done s _ _ (e1 ▸ st) fun h' tk kp => ?_))
    have gS' := kp S _ nSw gS
    show wpAny _ A.in1 (updateSeq S (fun _ => #[]) >>= _) _ _ _
    refine wpAny_bind ?_
    refine wpAny_updateSeq gS' rfl (wpAny_bind (wpAny_letGo (wpAny_pure ?_)))
    refine out vB _ tk (by rw [← e1]; exact pB) fun b o hw hb e => (Heap.get?_update_other _ _ (Ne.symm hb)).trans (kp b o hw e)
  | succ k ih =>
    intro j s vB c ek jn st pB gS out
    have lt : j + 1 < n := by omega
    refine codeAny_builtin PySem.F.entry_max_loop ?_
    rw [Around.under_plainId PySem.F.plain_max_loop _]
    show wpAny _ A.in1 (seqItems? (.ref S) >>= _) _ _ s
    refine wpAny_bind (wpAny_seqItems gS rfl ?_)
    show wpAny _ A.in1 (tryCatch (pyNext (.ref I)) _ >>= _) _ _ s
    refine wpAny_bind (wpAny_tryCatch (Wk.item (j + 1) s _ _ lt st fun v h' tk hP st' kp => ?_))
    have gS' := kp S _ nSw gS
    show wpAny _ A.in1 (tryCatch (holding [v, v] (richCompare .Gt v vB >>= _)) _ >>= _) _ _ _
    refine wpAny_bind (wpAny_tryCatch (wpAny_holding (wpAny_bind (cmp (j + 1) (argBest bt j) v vB _ _ _ hP pB ?_))))
    refine wpAny_bind (wpAny_holding (wpAny_truthy_bool ?_))
    refine wpAny_bind (wpAny_letGo (wpAny_pure ?_))
    cases hb : bt (j + 1) (argBest bt j) with
    | true =>
      simp only [if_true]
      refine wpAny_bind ?_
      refine wpAny_updateSeq gS' rfl (wpAny_bind (wpAny_letGo ?_))
      rw [eN]
      refine wpAny_pure ⟨plainId_quiet PySem.F.plain_max_loop _, ih (j + 1) _ v _ (by omega) lt (Wk.frame _ _ _ st' fun b hf o e => ?_) (by simp only [argBest, hb, if_true]; exact hP) (Heap.get?_update_self _ gS' rfl)
        fun v' h'' tk'' hP' kp'' => ?_⟩
      · exact (Heap.get?_update_other _ _ (fun h : S = b => nS (by rw [h]; exact hf))).trans e
      · exact out v' h'' tk'' hP' fun b o hw hS e => kp'' b o hw hS ((Heap.get?_update_other _ _ (Ne.symm hS)).trans (kp b o hw e))
    | false =>
      simp only [Bool.false_eq_true, if_false]
      refine wpAny_bind (wpAny_letGo ?_)
      rw [eN]
      refine wpAny_pure ⟨plainId_quiet PySem.F.plain_max_loop _, ih (j + 1) _ vB c (by omega) lt st' (by simp only [argBest, hb, Bool.false_eq_true, if_false]; exact pB) gS' fun v' h'' tk'' hP' kp'' => ?_⟩
      exact out v' h'' tk'' hP' fun b o hw hS e => kp'' b o hw hS (kp b o hw e)
theorem mx_first (Wk : Walks prog w A.in1 I fp wr n P St) (bt : Nat → Nat → Bool) (cmp : CmpOf prog w A.in1 .Gt P bt) (S : Addr) (nS : S ∉ fp) (hn : 0 < n) {s : Shared} {c : Nat} (st : St 0 s.heap)
    (gS : s.heap.get? S = some { cls := .type "list", dict := none, data := .seq #[] c, slots := #[] })
    (out : ∀ v h' tk, P (argBest bt (n - 1)) v → (∀ b o, b ∉ wr → b ≠ S → s.heap.get? b = some o → h'.get? b = some o) → R (.ok (.ret v)) { s with heap := h', toks := tk }) :
    codeAny (model prog w) A (.builtin "max.loop" ⟨[.ref I, .none, .ref S], kw⟩) R s := by
  have nSw : S ∉ wr := fun h => nS (Wk.sub _ h)
  have eN : (toString "max" ++ toString ".loop" : String) = "max.loop" := by decide
  refine codeAny_builtin PySem.F.entry_max_loop ?_
  rw [Around.under_plainId PySem.F.plain_max_loop _]
  show wpAny _ A.in1 (seqItems? (.ref S) >>= _) _ _ s
  refine wpAny_bind (wpAny_seqItems gS rfl ?_)
  show wpAny _ A.in1 (tryCatch (pyNext (.ref I)) _ >>= _) _ _ s
  refine wpAny_bind (wpAny_tryCatch (Wk.item 0 s _ _ hn st fun v h' tk hP st' kp => ?_))
  have gS' := kp S _ nSw gS
  show wpAny _ A.in1 (updateSeq S (fun _ => #[v, v]) >>= _) _ _ _
  refine wpAny_bind ?_
  refine wpAny_updateSeq gS' rfl ?_
  rw [eN]
  refine wpAny_pure ⟨plainId_quiet PySem.F.plain_max_loop _, mx_go Wk bt cmp S nS _ 0 _ v _ rfl hn (Wk.frame _ _ _ st' fun b hf o e => ?_) hP (Heap.get?_update_self _ gS' rfl) fun v' h'' tk'' hP' kp'' => ?_⟩
  · exact (Heap.get?_update_other _ _ (fun h : S = b => nS (by rw [h]; exact hf))).trans e
  · exact out v' h'' tk'' hP' fun b o hw hS e => kp'' b o hw hS ((Heap.get?_update_other _ _ (Ne.symm hS)).trans (kp b o hw e))
theorem mx_none (Wk : Walks prog w A.in1 I fp wr 0 P St) (S : Addr) (nS : S ∉ fp) {s : Shared} {c : Nat} {d : Value} (st : St 0 s.heap)
    (gS : s.heap.get? S = some { cls := .type "list", dict := none, data := .seq #[] c, slots := #[] })
    (out : ∀ h' tk, (∀ b o, b ∉ wr → s.heap.get? b = some o → h'.get? b = some o) → R (.ok (.ret d)) { s with heap := h', toks := tk }) :
    codeAny (model prog w) A (.builtin "max.loop" ⟨[.ref I, .none, .ref S], [("default", d)]⟩) R s := by
  refine codeAny_builtin PySem.F.entry_max_loop ?_
  rw [Around.under_plainId PySem.F.plain_max_loop _]
  show wpAny _ A.in1 (seqItems? (.ref S) >>= _) _ _ s
  refine wpAny_bind (wpAny_seqItems gS rfl ?_)
  show wpAny _ A.in1 (tryCatch (pyNext (.ref I)) _ >>= _) _ _ s
  refine wpAny_bind (wpAny_tryCatch (Wk.done s _ _ st fun h' tk kp => ?_))
  show wpAny _ A.in1 (rule _ >>= _) _ _ _
  exact wpAny_bind (wpAny_rule (wpAny_pure (out h' tk kp)))
end
section
variable {prog : Program} {w : World} {A : Around} {E : Value → Shared → Prop} {s : Shared} {l : Addr} {xs : Array (Int × Tok)} {d : Value} {Q : Value → Shared → Prop}
theorem call_maxD (hh : A.handled = none) (hl : s.heap.IsList l (intItems xs))
    (h0 : xs.size = 0 → ∀ h' tk, (∀ b o, s.heap.get? b = some o → h'.get? b = some o) → Q d { s with heap := h', toks := tk })
    (h1 : 0 < xs.size → ∀ v h' tk, (intItems xs)[argBest (fun i j => decide (numAt xs i > numAt xs j)) (xs.size - 1)]? = some v → (∀ b o, s.heap.get? b = some o → h'.get? b = some o) → Q v { s with heap := h', toks := tk }) :
    wpAny (model prog w) A (call (.builtin "max") [.ref l] [(Str.ofString "default", d)]) Q E s := by
  have eN : (toString "max" ++ toString ".loop" : String) = "max.loop" := by decide
  refine kmb_tree PySem.F.kind_max PySem.F.plain_max PySem.F.entry_max (args_maxD _ _) ?_
  show wpAny _ A.in1 (Builtin.Builtins.bindParams "max" ["key", "default"] 0 ⟨[], [(Str.ofString "default", d)]⟩ >>= _) _ _ s
  refine wpAny_bind (wpAny_of_eq (show Builtin.Builtins.bindParams "max" ["key", "default"] 0 ⟨[], [(Str.ofString "default", d)]⟩ = pure [none, some d] from rfl) ?_)
  refine wpAny_bind (wpAny_pure ?_)
  refine wpAny_bind (iter_intList hl fun s2 es st hfp hlI => ?_)
  subst es
  refine wpAny_bind (wpAny_newObj_type ?_)
  have nS : (s.heap.push { cls := .type "list_iterator", data := .fields #[.ref l, .int 0 0] }).objs.size ∉ [s.heap.objs.size, l] := fun hm => Nat.lt_irrefl _ (hfp _ hm)
  have Wk := Walks.list (prog := prog) (w := w) (A := A.in1) hh s.heap.objs.size l hlI (intItems xs)
  rw [eN]
  have hsz : (intItems xs).size = xs.size := by simp [intItems]
  by_cases hn : 0 < xs.size
  · refine wpAny_pure ⟨plainId_quiet PySem.F.plain_max_loop _, mx_first Wk (fun i j => decide (numAt xs i > numAt xs j)) (CmpOf.ints_gt (numAt xs) (fun _ _ => intItems_at)) _ nS (by rw [hsz]; exact hn) (Wk.frame _ _ _ st fun b _ o e => Heap.get?_push_of_some _ e) (Heap.get?_push_size _ rfl) fun v h' tk hP kp => ?_⟩
    refine h1 hn v h' tk (by rw [← hsz]; exact hP) (old_kept fun b o hb e => kp b o hb (Nat.ne_of_lt (Heap.lt_size e)) (Heap.get?_push_of_some _ e))
  · have hz : (intItems xs).size = 0 := by rw [hsz]; omega
    rw [hz] at Wk
    refine wpAny_pure ⟨plainId_quiet PySem.F.plain_max_loop _, mx_none Wk _ nS (Wk.frame _ _ _ st fun b _ o e => Heap.get?_push_of_some _ e) (Heap.get?_push_size _ rfl) fun h' tk kp => ?_⟩
    exact h0 (by omega) h' tk (old_kept fun b o hb e => kp b o hb (Heap.get?_push_of_some _ e))
theorem call_maxDI {its : List Value} {ns : List Int} (hh : A.handled = none) (hl : s.heap.IsList l its.toArray) (hi : IntsAre its ns)
    (h0 : ns = [] → ∀ h' tk, (∀ b o, s.heap.get? b = some o → h'.get? b = some o) → Q d { s with heap := h', toks := tk })
    (h1 : ∀ h' tk M t', (∀ b o, s.heap.get? b = some o → h'.get? b = some o) → M ∈ ns → (∀ a, a ∈ ns → a ≤ M) → Q (.int M t') { s with heap := h', toks := tk }) :
    wpAny (model prog w) A (call (.builtin "max") [.ref l] [(Str.ofString "default", d)]) Q E s := by
  obtain ⟨xs, e⟩ := hi.allInts.items
  have hn : numsOf (intItems xs).toList = ns := by rw [← e]; exact hi.numsOf
  rw [nums_intItems] at hn
  subst hn
  rw [e] at hl
  refine call_maxD hh hl (fun hz => h0 ?_) fun hz v h' tk hv hk => ?_
  · have : xs.toList.length = 0 := by rw [Array.length_toList]; exact hz
    rw [List.eq_nil_of_length_eq_zero this]
    rfl
  · obtain ⟨t, rfl⟩ := intItems_at hv
    obtain ⟨b1, b2⟩ := argBest_gt (numAt xs) (xs.size - 1)
    refine h1 h' tk _ t hk ?_ fun a ha => ?_
    · rw [numAt_eq]; exact PySem.getD_mem (by rw [List.length_map, Array.length_toList]; omega)
    · obtain ⟨j, hj, rfl⟩ := mem_getD ha
      rw [List.length_map, Array.length_toList] at hj
      rw [← numAt_eq]; exact b2 j (by omega)
end
end LM
namespace L2
open PySem PySem.Spec PyProof.Rows
section
variable {X : Cx}
def tMaxD (K : PySem.W.Frag) (ta tk : TA) : TE := fun σ H Q => ta σ H fun xs H1 => tk σ H1 fun ys H2 => ∃ (a : Addr) (ns : List Int) (y : V), xs = [V.ref a] ∧ ys = [y] ∧ SqL K H2 a (ns.map V.int) ∧ (ns = [] → Q y H2) ∧ ∀ m, m ∈ ns → (∀ y, y ∈ ns → y ≤ m) → Q (.int m) H2
theorem pe_maxD {e ed : Expr} {ta tk : TA} {p pos kp : Pos} (hc : X.calm = true) (hg : Gl X "max") (hm : X.mg "max" = none) (ha : PA X [e] ta) (hk : PK X [⟨some "default", ed, kp⟩] tk)
    (he : backTo pos (starEach [e] X.env) = (false, eval e X.env) :: backTo pos (starEach [] X.env) := by rfl) (hpl : (backTo pos (starEach [e] X.env)).any (·.1) = false := by rfl) :
    PE X (.Call (.Name "max" p) [e] [⟨some "default", ed, kp⟩] pos) (tMaxD X.K ta tk) := by
  intro pins s σ H Q I h
  refine wpAny_Call_Name_kw (ld_blt I hg hm PyProof.Rows.boot_max ?_)
  refine PyProof.Rows.callWith_kw (thn (ha pos pins s σ H _ I h) fun us s1 ⟨vs, H1, I1, r1, q1⟩ => thn (hk pos pins s1 σ H1 _ I1 q1) fun ws s2 ⟨zs, H2, I2, r2, q2⟩ => ?_) he hpl rfl rfl
  obtain ⟨a, ns, y, rfl, rfl, hs, h0, h1⟩ := q2
  rw [Vals.ref1 r1]
  obtain ⟨its, rv, hl, _⟩ := I2.list hs
  cases r2 with
  | cons ry rt =>
    cases rt
    exact LM.call_maxDI (I2.ok.hd hc) hl.isList rv.ints (fun e h' tk hk => ⟨y, H2, I2.kept hk, ry, h0 e⟩) fun h' tk M t' hk m1 m2 => ⟨.int M, H2, I2.kept hk, ⟨t', rfl⟩, h1 M m1 m2⟩
theorem intsAre_ix : ∀ {vs : List Value} {ns : List Int}, vs.length = ns.length → (∀ (j : Nat) (v : Value) (n : Int), vs[j]? = some v → ns[j]? = some n → ∃ t, v = .int n t) → IntsAre vs ns
  | [], [], _, _ => .nil
  | [], _ :: _, h, _ => by simp at h
  | _ :: _, [], h, _ => by simp at h
  | v :: vs, n :: ns, hl, h => by
    obtain ⟨t, rfl⟩ := h 0 v n rfl rfl
    exact .cons n t (intsAre_ix (by simpa using hl) fun j v n h1 h2 => h (j + 1) v n (by simpa using h1) (by simpa using h2))
def rSortedD : List V → Hp → VK → Prop := fun vs H Q => ∃ (a : Addr) (ks : List Int) (kvs : List (Key × V)), vs = [V.ref a] ∧ H a = some (.dK kvs) ∧ kvs.map (·.1) = ks.map (fun k => (Sum.inl k : Key)) ∧ ks.length < 64 ∧
  ∀ (ns : List Int) (p : Addr), ns.Perm ks → ns.Pairwise (· ≤ ·) → H p = none → Q (.ref p) (upd H p (.lst (ns.map V.int)))
theorem cr_sortedD (hc : X.calm = true) : CallR X (.builtin "sorted") rSortedD := by
  intro pins s σ H vs us Q I r h
  obtain ⟨a, ks, kvs, rfl, ha, hk, h64, q⟩ := h
  obtain ⟨hz, hS, xs, kv, hd⟩ := dk_rd I.hok (.inl ha)
  obtain ⟨ep, hat⟩ := hd.dictAt
  rw [Vals.ref1 r]
  have l1 : kvs.length = xs.length := Paired.length kv
  have l2 : kvs.length = ks.length := by have := congrArg List.length hk; rw [List.length_map, List.length_map] at this; exact this
  refine Calls.call_function_entry kind_sorted plain_sorted entry_sorted (args_sorted1 _) ?_
  unfold Builtin.«sorted»
  refine wpAny_bind (m := checkCount "sorted" 1 1 _) (wpAny_pure ?_)
  refine wpAny_bind (PySem.W.kdu_collect (A := X.A.in1) (PySem.W.kdl_dict (knd := mixKind X.prog X.w) (kvs := xs) (ep := ep) hS) (I.ok.hd hc) hat (by rw [← l1]; exact hz) fun h' tk acc hkeep hacc => ?_)
  have I1 : Inv X pins σ H { s with heap := h', toks := tk } := I.kept hkeep
  have hl : acc.toList.length = ks.length := by rw [Array.length_toList, hacc.1, ← l1, l2]
  have hI : IntsAre acc.toList ks := intsAre_ix hl fun j v n h1 h2 => by
    obtain ⟨k, x, e1, e2⟩ := hacc.2 j v (by rw [← Array.getElem?_toList]; exact h1)
    have hj : j < kvs.length := by rw [l2]; exact (List.getElem?_eq_some_iff.mp h2).1
    obtain ⟨⟨k', v'⟩, e3⟩ : ∃ p, kvs[j]? = some p := ⟨_, List.getElem?_eq_getElem hj⟩
    obtain ⟨u, e4, _⟩ := kv_get kv e3
    rw [e1] at e4
    have e5 : k = k' := congrArg Prod.fst (Option.some.inj e4)
    have e6 : (kvs.map (·.1))[j]? = some k' := by rw [List.getElem?_map, e3]; rfl
    rw [hk, List.getElem?_map, h2] at e6
    have e7 : (Sum.inl n : Key) = k' := Option.some.inj e6
    subst e5
    subst e7
    obtain ⟨t, e8⟩ := Value.isInt_shape (k := n) (v := v) e2
    exact ⟨t, e8⟩
  refine wpAny_bind (wpAny_newList ?_ (by rw [hl]; exact small64 h64))
  have hoL : (h'.push (seqObj "list" acc.toList.toArray 0)).get? h'.objs.size = some (seqObj "list" acc.toList.toArray 0) := Heap.get?_push_size _ rfl
  show wpAny _ _ _ _ _ { s with heap := h'.push (seqObj "list" acc.toList.toArray 0), toks := tk }
  refine wpAny_bind (wpAny_holding (wpAny_call_entry slot_list_sort ⟨_, hoL, rfl⟩ entry_list_sort (list_sort_tree hoL hI (by rw [hl]; exact h64) fun out ns' a1 a2 a3 => ⟨_, rfl, ?_⟩) (args_list_sort _)))
  refine wpAny_pure ⟨_, rfl, ?_⟩
  obtain ⟨ep', he'⟩ := sortedHeap_at (vs := acc.toList) (out := out) hoL
  have hlen : (ns'.map V.int).length ≤ sizeLine := by rw [List.length_map, a2.length_eq]; exact small64 h64
  refine ⟨.ref _, upd H h'.objs.size (.lst (ns'.map V.int)), I1.laid (t' := tk) (fun b u e => ?_) (Nat.le_refl _) ⟨hlen, out.toList, ep', vals_of_ints a1, he'⟩, rfl, q ns' _ a2 a3 (I1.hok.fresh (Nat.le_refl _))⟩
  have e2 := Heap.get?_push_of_some (seqObj "list" acc.toList.toArray 0) e
  rw [sortedHeap_old (Nat.ne_of_lt (Heap.lt_size e)) (Heap.lt_size e2)]
  exact e2
end
theorem lc_vals {d : Addr} {o : Obj} {kvs : List (Key × V)} {g : TG} {tt : TT} {te : TE} {vs : List Nat} {σ : St} {H1 : Hp} {D : Addr} {Qd : Hp → Prop} (Pv : Nat → Hp → Prop) (h0 : Pv 0 (upd H1 D (.lst []))) (hl : ∀ i H, i ≤ kvs.length → Pv i H → H d = some (.frz o (.dK kvs)))
    (hs : ∀ i k x H, kvs[i]? = some (k, x) → Pv i H → g x (wipe σ vs) H fun σ2 H2 => wipe σ2 vs = wipe σ vs ∧ tt σ2 H2 fun b H3 =>
      if b = true then te σ2 H3 fun y H4 => ∃ acc, H4 D = some (.lst acc) ∧ acc.length < sizeLine ∧ Pv (i + 1) (upd H4 D (.lst (acc ++ [y]))) else Pv (i + 1) H3) (hd : ∀ H, Pv kvs.length H → Qd H) :
    ∃ W : Nat → Nat → Hp → Prop, (∃ m, W 0 m (upd H1 D (.lst []))) ∧ ∀ i m H, W i m H →
      ((Itd d o kvs).stop i H ∧ Qd H) ∨ ((Itd d o kvs).go i H ∧ ∃ Nx : Hp → Prop, (∀ H', Nx H' → ∃ m', m' < m ∧ W (i + 1) m' H') ∧ ∀ x H', (Itd d o kvs).yld i H x H' → g x (wipe σ vs) H' fun σ2 H2 => wipe σ2 vs = wipe σ vs ∧ tt σ2 H2 fun b H3 =>
        if b = true then te σ2 H3 fun y H4 => ∃ acc, H4 D = some (.lst acc) ∧ acc.length < sizeLine ∧ Nx (upd H4 D (.lst (acc ++ [y]))) else Nx H3) := by
  refine ⟨fun i m H => m = kvs.length - i ∧ i ≤ kvs.length ∧ Pv i H, ⟨kvs.length, by simp, Nat.zero_le _, h0⟩, ?_⟩
  rintro i m H ⟨rfl, hi, p⟩
  have q := hl i H hi p
  by_cases hlt : i < kvs.length
  · refine .inr ⟨⟨q, hlt⟩, Pv (i + 1), fun H' p' => ⟨kvs.length - (i + 1), by omega, rfl, hlt, p'⟩, fun x H' y => ?_⟩
    obtain ⟨e, k, hk⟩ := y
    subst e
    exact hs i k x _ hk p
  · have e : i = kvs.length := by omega
    subst e
    exact .inl ⟨⟨q, Nat.le_refl _⟩, hd H p⟩
end L2
end
section
namespace Bend
open Kqv6
def rc (l a b : Nat) : Int := (l * l : Nat) - (a * a : Nat) - (b * b : Nat)
theorem round_iff (l a b : Nat) : round l a b = true ↔ rc l a b ≤ 0 ∨ rc l a b * rc l a b * rc l a b ≤ ((27 * (a * a) * (b * b) * (l * l) : Nat) : Int) := by
  unfold round rc
  simp
theorem round_zero (a b : Nat) : round 0 a b = true := by
  rw [round_iff]
  left
  unfold rc
  omega
theorem cube_frac {L M k : Int} (hk : 0 ≤ k) (hc : 0 < L - k) (h : L ≤ M) : (L - k) * (L - k) * (L - k) * M ≤ (M - k) * (M - k) * (M - k) * L := by
  have e1 : (L - k) * M ≤ (M - k) * L := by
    have q : k * L ≤ k * M := Int.mul_le_mul_of_nonneg_left h hk
    rw [Int.sub_mul, Int.sub_mul, Int.mul_comm M L]
    omega
  have e2 : (L - k) * (L - k) ≤ (M - k) * (M - k) := Int.mul_le_mul (by omega) (by omega) (by omega) (by omega)
  have hM : 0 ≤ M := by omega
  have e3 : (L - k) * (L - k) * ((L - k) * M) ≤ (M - k) * (M - k) * ((M - k) * L) :=
    Int.mul_le_mul e2 e1 (Int.mul_nonneg (by omega) hM) (Int.mul_nonneg (by omega) (by omega))
  rw [← Int.mul_assoc, ← Int.mul_assoc] at e3
  exact e3
theorem sq_le {l m : Nat} (h : l ≤ m) : l * l ≤ m * m := Nat.mul_le_mul h h
theorem round_mono {l m a b : Nat} (h : l ≤ m) (hm : round m a b = true) : round l a b = true := by
  rw [round_iff] at hm ⊢
  by_cases h0 : rc l a b ≤ 0
  · exact .inl h0
  right
  have hlm : ((l * l : Nat) : Int) ≤ ((m * m : Nat) : Int) := by exact_mod_cast sq_le h
  have hc : rc l a b ≤ rc m a b := by unfold rc; omega
  rcases hm with hm | hm
  · omega
  have e := cube_frac (L := ((l * l : Nat) : Int)) (M := ((m * m : Nat) : Int)) (k := ((a * a : Nat) : Int) + ((b * b : Nat) : Int)) (by omega) (by unfold rc at h0; omega) hlm
  have c1 : ((l * l : Nat) : Int) - (((a * a : Nat) : Int) + ((b * b : Nat) : Int)) = rc l a b := by unfold rc; omega
  have c2 : ((m * m : Nat) : Int) - (((a * a : Nat) : Int) + ((b * b : Nat) : Int)) = rc m a b := by unfold rc; omega
  rw [c1, c2] at e
  have hL : (0 : Int) ≤ ((l * l : Nat) : Int) := by omega
  have hMpos : (0 : Int) < ((m * m : Nat) : Int) := by unfold rc at h0; omega
  have f := Int.mul_le_mul_of_nonneg_right hm hL
  have g : rc l a b * rc l a b * rc l a b * ((m * m : Nat) : Int) ≤ ((27 * (a * a) * (b * b) * (l * l) : Nat) : Int) * ((m * m : Nat) : Int) := by
    refine Int.le_trans e (Int.le_trans f ?_)
    have : ((27 * (a * a) * (b * b) * (m * m) : Nat) : Int) * ((l * l : Nat) : Int) = ((27 * (a * a) * (b * b) * (l * l) : Nat) : Int) * ((m * m : Nat) : Int) := by
      rw [← Int.natCast_mul, ← Int.natCast_mul, Nat.mul_assoc, Nat.mul_comm (m * m) (l * l), ← Nat.mul_assoc]
    omega
  exact Int.le_of_mul_le_mul_right g hMpos
def Greatest (n : Nat) (f : Nat → Bool) (r : Nat) : Prop := r ≤ n ∧ f r = true ∧ ∀ k, r < k → k ≤ n → f k = false
theorem Greatest.uniq {n : Nat} {f : Nat → Bool} {r s : Nat} (h : Greatest n f r) (g : Greatest n f s) : r = s := by
  rcases Nat.lt_trichotomy r s with q | q | q
  · have := h.2.2 s q g.1
    rw [g.2.1] at this
    cases this
  · exact q
  · have := g.2.2 r q h.1
    rw [h.2.1] at this
    cases this
theorem find_rev (f : Nat → Bool) (h0 : f 0 = true) : ∀ n, Greatest n f (((List.range (n + 1)).reverse.find? f).getD 0)
  | 0 => by
    refine ⟨?_, ?_, fun k h1 h2 => ?_⟩
    · simp [List.range_succ, h0]
    · simp [List.range_succ, h0]
    · omega
  | n + 1 => by
    have ih := find_rev f h0 n
    rw [List.range_succ, List.reverse_append, List.reverse_singleton, List.singleton_append, List.find?_cons]
    cases e : f (n + 1) with
    | true => exact ⟨Nat.le_refl _, e, fun k h1 h2 => by simp at h1; omega⟩
    | false =>
      refine ⟨Nat.le_trans ih.1 (Nat.le_succ _), ih.2.1, fun k h1 h2 => ?_⟩
      by_cases q : k = n + 1
      · subst q; exact e
      · exact ih.2.2 k h1 (by omega)
theorem longest_greatest (a b : Nat) : Greatest 300 (fun l => round l a b) (longest a b) := find_rev _ (round_zero a b) 300
theorem before_irrefl : ∀ l : List Nat, before l l = false
  | [] => rfl
  | x :: l => by simp [before, before_irrefl l]
theorem before_trans : ∀ {a b c : List Nat}, before a b = true → before b c = true → before a c = true
  | _, _, [], _, h => by simp [before] at h
  | _, [], _ :: _, h, _ => by simp [before] at h
  | [], _ :: _, _ :: _, _, _ => rfl
  | x :: a, y :: b, z :: c, h1, h2 => by
    simp only [before, Bool.or_eq_true, Bool.and_eq_true, decide_eq_true_eq, beq_iff_eq] at h1 h2 ⊢
    rcases h1 with h1 | ⟨h1, h1'⟩ <;> rcases h2 with h2 | ⟨h2, h2'⟩
    · left; omega
    · left; omega
    · left; omega
    · right; exact ⟨by omega, before_trans h1' h2'⟩
theorem before_total : ∀ {a b : List Nat}, before a b = false → before b a = false → a = b
  | [], [], _, _ => rfl
  | [], _ :: _, h, _ => by simp [before] at h
  | _ :: _, [], _, h => by simp [before] at h
  | x :: a, y :: b, h1, h2 => by
    simp only [before, Bool.or_eq_false_iff, Bool.and_eq_false_iff, decide_eq_false_iff_not, beq_eq_false_iff_ne] at h1 h2
    have e : x = y := by omega
    subst e
    rcases h1.2 with q | q
    · exact absurd rfl q
    rcases h2.2 with q' | q'
    · exact absurd rfl q'
    rw [before_total q q']
theorem before_snoc (i : Nat) : ∀ {a b : List Nat}, a.length = b.length → before (a ++ [i]) (b ++ [i]) = before a b
  | [], [], _ => by simp [before]
  | x :: a, y :: b, h => by
    show before (x :: (a ++ [i])) (y :: (b ++ [i])) = before (x :: a) (y :: b)
    simp only [before]
    rw [before_snoc i (by simpa using h)]
def le (x y : Path) : Prop := better y x = false
theorem better_iff (x y : Path) : better x y = true ↔ x.1 < y.1 ∨ (x.1 = y.1 ∧ (x.2.length < y.2.length ∨ (x.2.length = y.2.length ∧ before x.2 y.2 = true))) := by
  simp [better]
theorem le_iff (x y : Path) : le x y ↔ x.1 < y.1 ∨ (x.1 = y.1 ∧ (x.2.length < y.2.length ∨ (x.2.length = y.2.length ∧ before y.2 x.2 = false))) := by
  unfold le
  rw [← Bool.not_eq_true, better_iff]
  constructor
  · intro h
    by_cases h1 : x.1 < y.1
    · exact .inl h1
    right
    have e : x.1 = y.1 := by
      apply Classical.byContradiction
      intro q
      exact h (.inl (by omega))
    refine ⟨e, ?_⟩
    by_cases h2 : x.2.length < y.2.length
    · exact .inl h2
    right
    have e2 : x.2.length = y.2.length := by
      apply Classical.byContradiction
      intro q
      exact h (.inr ⟨e.symm, .inl (by omega)⟩)
    refine ⟨e2, ?_⟩
    rw [← Bool.not_eq_true]
    exact fun q => h (.inr ⟨e.symm, .inr ⟨e2.symm, q⟩⟩)
  · rintro (h | ⟨h, h' | ⟨h', h''⟩⟩) (q | ⟨q, q' | ⟨q', q''⟩⟩)
    all_goals first
      | omega
      | (rw [h''] at q''; cases q'')
theorem le_refl (x : Path) : le x x := by
  rw [le_iff]
  exact .inr ⟨rfl, .inr ⟨rfl, before_irrefl _⟩⟩
theorem le_of_better {x y : Path} (h : better x y = true) : le x y := by
  rw [better_iff] at h
  rw [le_iff]
  rcases h with h | ⟨h, h' | ⟨h', h''⟩⟩
  · exact .inl h
  · exact .inr ⟨h, .inl h'⟩
  · refine .inr ⟨h, .inr ⟨h', ?_⟩⟩
    cases e : before y.2 x.2 with
    | false => rfl
    | true =>
      have := before_trans h'' e
      rw [before_irrefl] at this
      cases this
theorem le_trans {x y z : Path} (h1 : le x y) (h2 : le y z) : le x z := by
  rw [le_iff] at *
  rcases h1 with h1 | ⟨h1, h1' | ⟨h1', h1''⟩⟩ <;> rcases h2 with h2 | ⟨h2, h2' | ⟨h2', h2''⟩⟩
  all_goals first
    | (left; omega)
    | (right; refine ⟨by omega, .inl (by omega)⟩)
    | skip
  refine .inr ⟨by omega, .inr ⟨by omega, ?_⟩⟩
  cases e : before z.2 x.2 with
  | false => rfl
  | true =>
    cases e2 : before x.2 y.2 with
    | true =>
      have := before_trans e e2
      rw [h2''] at this
      cases this
    | false =>
      have := before_total e2 h1''
      rw [this] at e
      rw [h2''] at e
      cases e
theorem le_antisymm {x y : Path} (h1 : le x y) (h2 : le y x) : x = y := by
  rw [le_iff] at *
  rcases h1 with h1 | ⟨h1, h1' | ⟨h1', h1''⟩⟩ <;> rcases h2 with h2 | ⟨h2, h2' | ⟨h2', h2''⟩⟩
  all_goals first
    | omega
    | skip
  exact Prod.ext h1 (before_total h2'' h1'')
def ext (z : Path) (t i : Nat) : Path := (z.1 + t, z.2 ++ [i])
theorem le_ext {x y : Path} (t i : Nat) (h : le x y) : le (ext x t i) (ext y t i) := by
  rw [le_iff] at *
  unfold ext
  simp only [List.length_append, List.length_singleton]
  rcases h with h | ⟨h, h' | ⟨h', h''⟩⟩
  · left; omega
  · right; exact ⟨by omega, .inl (by omega)⟩
  · right; exact ⟨by omega, .inr ⟨by omega, by rw [before_snoc i h'.symm]; exact h''⟩⟩
theorem le_zero (x : Path) : le (0, []) x := by
  rw [le_iff]
  by_cases h : 0 < x.1
  · exact .inl h
  right
  refine ⟨by show (0 : Nat) = x.1; omega, ?_⟩
  cases e : x.2 with
  | nil => exact .inr ⟨rfl, rfl⟩
  | cons a l => exact .inl (by simp)
end Bend
end
section
namespace Bend
open Kqv6
structure Edge (roads : List Road) (x : Load) (u i v t : Nat) : Prop where
  ex : ∃ r, roads[i]? = some r ∧ why r x = 0 ∧ t = r.minutes ∧ ((r.p = u ∧ r.q = v) ∨ (r.q = u ∧ r.p = v))
inductive Run (roads : List Road) (x : Load) : Nat → List Nat → Nat → List Nat → Nat → Prop
  | nil (u : Nat) : Run roads x u [u] 0 [] u
  | cons {u i w t vs m l v} : Edge roads x u i w t → Run roads x w vs m l v → Run roads x u (u :: vs) (t + m) (i :: l) v
structure RoadsOk (roads : List Road) (n : Nat) : Prop where
  ok : ∀ r ∈ roads, 1 ≤ r.minutes ∧ r.p < n ∧ r.q < n ∧ r.p ≠ r.q
theorem Edge.ok {roads : List Road} {x : Load} {n u i v t : Nat} (R : RoadsOk roads n) (e : Edge roads x u i v t) : 1 ≤ t ∧ u < n ∧ v < n := by
  obtain ⟨r, h1, _, h3, h4⟩ := e.ex
  obtain ⟨a, b, c, _⟩ := R.ok r (List.mem_of_getElem? h1)
  omega
theorem Run.vs_len {roads : List Road} {x : Load} {u v m : Nat} {vs l : List Nat} (h : Run roads x u vs m l v) : vs.length = l.length + 1 := by
  induction h with
  | nil => rfl
  | cons _ _ ih => simp [ih]
theorem Run.lt {roads : List Road} {x : Load} {n u v m : Nat} {vs l : List Nat} (R : RoadsOk roads n) (h : Run roads x u vs m l v) (hu : u < n) : ∀ y ∈ vs, y < n := by
  induction h with
  | nil u => intro y hy; simp at hy; omega
  | cons e _ ih =>
    intro y hy
    have q := e.ok R
    rcases List.mem_cons.mp hy with h | h
    · omega
    · exact ih q.2.2 y h
theorem Run.cut {roads : List Road} {x : Load} {u v m : Nat} {vs l : List Nat} (h : Run roads x u vs m l v) :
    ∀ y ∈ vs, vs.Nodup → ∃ vs' m' l', Run roads x y vs' m' l' v ∧ vs'.Nodup ∧ m' ≤ m ∧ (∀ z ∈ vs', z ∈ vs) := by
  induction h with
  | nil u => intro y hy _; simp at hy; subst hy; exact ⟨_, _, _, .nil _, by simp, Nat.le_refl _, fun _ h => h⟩
  | @cons u i w t vs m l v e r ih =>
    intro y hy nd
    rcases List.mem_cons.mp hy with h | h
    · subst h; exact ⟨_, _, _, .cons e r, nd, Nat.le_refl _, fun _ h => h⟩
    · obtain ⟨vs', m', l', a, b, c, d⟩ := ih y h (List.nodup_cons.mp nd).2
      exact ⟨vs', m', l', a, b, by omega, fun z hz => List.mem_cons_of_mem _ (d z hz)⟩
theorem Run.simple {roads : List Road} {x : Load} {n u v m : Nat} {vs l : List Nat} (R : RoadsOk roads n) (h : Run roads x u vs m l v) :
    ∃ vs' m' l', Run roads x u vs' m' l' v ∧ vs'.Nodup ∧ ((m' = m ∧ l' = l) ∨ m' < m) := by
  induction h with
  | nil u => exact ⟨_, _, _, .nil u, by simp, .inl ⟨rfl, rfl⟩⟩
  | @cons u i w t vs m l v e r ih =>
    obtain ⟨vs', m', l', a, b, c⟩ := ih
    have q := e.ok R
    by_cases hu : u ∈ vs'
    · obtain ⟨vs2, m2, l2, a2, b2, c2, _⟩ := a.cut u hu b
      exact ⟨vs2, m2, l2, a2, b2, .inr (by rcases c with ⟨c, _⟩ | c <;> omega)⟩
    · refine ⟨_, _, _, .cons e a, List.nodup_cons.mpr ⟨hu, b⟩, ?_⟩
      rcases c with ⟨c, c'⟩ | c
      · exact .inl ⟨by omega, by rw [c']⟩
      · exact .inr (by omega)
theorem nodup_le : ∀ (n : Nat) (l : List Nat), l.Nodup → (∀ y ∈ l, y < n) → l.length ≤ n
  | 0, [], _, _ => Nat.le_refl _
  | 0, y :: l, _, h => absurd (h y (by simp)) (by omega)
  | n + 1, l, nd, h => by
    by_cases hn : n ∈ l
    · have q := nodup_le n (l.erase n) (nd.erase n) (fun y hy => by
        have h1 := List.mem_of_mem_erase hy
        have h2 : y ≠ n := fun e => by subst e; exact (List.Nodup.not_mem_erase nd) hy
        have := h y h1
        omega)
      rw [List.length_erase_of_mem hn] at q
      omega
    · exact Nat.le_succ_of_le (nodup_le n l nd fun y hy => by
        have := h y hy
        have h2 : y ≠ n := fun e => by subst e; exact hn hy
        omega)
theorem Run.short {roads : List Road} {x : Load} {n u v m : Nat} {vs l : List Nat} (R : RoadsOk roads n) (hu : u < n) (h : Run roads x u vs m l v) : ∃ vs' m' l', Run roads x u vs' m' l' v ∧ l'.length + 1 ≤ n ∧ le (m', l') (m, l) := by
  obtain ⟨vs', m', l', a, b, c⟩ := h.simple R
  refine ⟨vs', m', l', a, ?_, ?_⟩
  · rw [← a.vs_len]
    exact nodup_le n vs' b (a.lt R hu)
  · rcases c with ⟨rfl, rfl⟩ | c
    · exact le_refl _
    · rw [le_iff]; exact .inl c
theorem Run.snoc {roads : List Road} {x : Load} {u v m : Nat} {vs l : List Nat} (h : Run roads x u vs m l v) {i w t : Nat} (e : Edge roads x v i w t) : ∃ vs', Run roads x u vs' (m + t) (l ++ [i]) w := by
  induction h with
  | nil u => exact ⟨_, by have := Run.cons e (.nil w); rw [Nat.add_comm] at this; exact this⟩
  | cons e' _ ih =>
    obtain ⟨vs', a⟩ := ih e
    exact ⟨_, by have := Run.cons e' a; rw [← Nat.add_assoc] at this; exact this⟩
theorem Run.last {roads : List Road} {x : Load} {u v m : Nat} {vs l : List Nat} (h : Run roads x u vs m l v) : (u = v ∧ m = 0 ∧ l = []) ∨ ∃ vs' m' l' w i t, Run roads x u vs' m' l' w ∧ Edge roads x w i v t ∧ m = m' + t ∧ l = l' ++ [i] := by
  induction h with
  | nil u => exact .inl ⟨rfl, rfl, rfl⟩
  | @cons u i w t vs m l v e r ih =>
    right
    rcases ih with ⟨rfl, rfl, rfl⟩ | ⟨vs', m', l', w', i', t', a, b, rfl, rfl⟩
    · exact ⟨[u], 0, [], u, i, t, .nil u, e, by omega, rfl⟩
    · exact ⟨_, _, _, w', i', t', .cons e a, b, by omega, rfl⟩
abbrev Lab := Nat → Option Path
def Way (roads : List Road) (x : Load) (p v : Nat) (z : Path) : Prop := ∃ vs, Run roads x p vs z.1 z.2 v
theorem Way.ext {roads : List Road} {x : Load} {p u v i t : Nat} {z : Path} (h : Way roads x p u z) (e : Edge roads x u i v t) : Way roads x p v (Bend.ext z t i) := by
  obtain ⟨vs, h⟩ := h
  exact h.snoc e
theorem Way.last {roads : List Road} {x : Load} {p v : Nat} {z : Path} (h : Way roads x p v z) : (p = v ∧ z = (0, [])) ∨ ∃ z' u i t, Way roads x p u z' ∧ Edge roads x u i v t ∧ z = Bend.ext z' t i := by
  obtain ⟨vs, h⟩ := h
  rcases h.last with ⟨a, b, c⟩ | ⟨vs', m', l', w, i, t, a, b, c, d⟩
  · exact .inl ⟨a, Prod.ext b c⟩
  · exact .inr ⟨(m', l'), w, i, t, ⟨vs', a⟩, b, Prod.ext c d⟩
theorem Way.nil {roads : List Road} {x : Load} {p : Nat} : Way roads x p p (0, []) := ⟨_, .nil p⟩
def Sound (roads : List Road) (x : Load) (p : Nat) (L : Lab) : Prop := ∀ v z, L v = some z → Way roads x p v z
def Upto (roads : List Road) (x : Load) (p : Nat) (L : Lab) (k : Nat) : Prop := ∀ v z, Way roads x p v z → z.2.length ≤ k → ∃ y, L v = some y ∧ le y z
def Best (roads : List Road) (x : Load) (p v : Nat) (o : Option Path) : Prop := match o with
  | none => ∀ z, ¬ Way roads x p v z
  | some y => Way roads x p v y ∧ ∀ z, Way roads x p v z → le y z
theorem Best.uniq {roads : List Road} {x : Load} {p v : Nat} {o o' : Option Path} (h : Best roads x p v o) (h' : Best roads x p v o') : o = o' := by
  cases o with
  | none => cases o' with
    | none => rfl
    | some y => exact absurd h'.1 (h y)
  | some z => cases o' with
    | none => exact absurd h.1 (h' z)
    | some y => rw [le_antisymm (h.2 y h'.1) (h'.2 z h.1)]
theorem best_of {roads : List Road} {x : Load} {p : Nat} {L : Lab} (hs : Sound roads x p L) (hu : ∀ v z, Way roads x p v z → ∃ y, L v = some y ∧ le y z) (v : Nat) : Best roads x p v (L v) := by
  cases e : L v with
  | none =>
    intro z hz
    obtain ⟨y, q, _⟩ := hu v z hz
    rw [e] at q; cases q
  | some y =>
    refine ⟨hs v y e, fun z hz => ?_⟩
    obtain ⟨y', q, h⟩ := hu v z hz
    rw [e] at q; cases q
    exact h
theorem upto_all {roads : List Road} {x : Load} {n p k : Nat} {L : Lab} (R : RoadsOk roads n) (hp : p < n) (hk : n ≤ k + 1) (h : Upto roads x p L k) : ∀ v z, Way roads x p v z → ∃ y, L v = some y ∧ le y z := by
  intro v z ⟨vs, hz⟩
  obtain ⟨vs', m', l', a, b, c⟩ := hz.short R hp
  obtain ⟨y, q, hy⟩ := h v (m', l') ⟨vs', a⟩ (by show l'.length ≤ k; omega)
  exact ⟨y, q, le_trans hy c⟩
def LeO (o o' : Option Path) : Prop := ∀ y, o' = some y → ∃ z, o = some z ∧ le z y
theorem LeO.refl (o : Option Path) : LeO o o := fun y h => ⟨y, h, le_refl y⟩
theorem LeO.trans {a b c : Option Path} (h1 : LeO a b) (h2 : LeO b c) : LeO a c := fun y h => by
  obtain ⟨z, e, q⟩ := h2 y h
  obtain ⟨z', e', q'⟩ := h1 z e
  exact ⟨z', e', le_trans q' q⟩
theorem upto_succ {roads : List Road} {x : Load} {p k : Nat} {L L' : Lab} (h : Upto roads x p L k) (hm : ∀ v, LeO (L' v) (L v)) (he : ∀ u i v t z, Edge roads x u i v t → L u = some z → ∃ y, L' v = some y ∧ le y (ext z t i)) : Upto roads x p L' (k + 1) := by
  intro v z hz hl
  rcases hz.last with ⟨rfl, rfl⟩ | ⟨z', u, i, t, a, b, rfl⟩
  · obtain ⟨y, e, q⟩ := h p (0, []) hz (Nat.zero_le _)
    obtain ⟨y', e', q'⟩ := hm p y e
    exact ⟨y', e', le_trans q' q⟩
  · have hl' : z'.2.length ≤ k := by
      have : (z'.2 ++ [i]).length ≤ k + 1 := hl
      rw [List.length_append, List.length_singleton] at this
      omega
    obtain ⟨y, e, q⟩ := h u z' a hl'
    obtain ⟨y', e', q'⟩ := he u i v t y b e
    exact ⟨y', e', le_trans q' (le_ext t i q)⟩
theorem best_fix {roads : List Road} {x : Load} {p : Nat} {L : Lab} (hp : L p = some (0, [])) (he : ∀ u i v t z, Edge roads x u i v t → L u = some z → ∃ y, L v = some y ∧ le y (ext z t i)) : ∀ v z, Way roads x p v z → ∃ y, L v = some y ∧ le y z := by
  have all : ∀ k, Upto roads x p L k := by
    intro k
    induction k with
    | zero =>
      intro v z hz hl
      rcases hz.last with ⟨rfl, rfl⟩ | ⟨z', u, i, t, a, b, rfl⟩
      · exact ⟨_, hp, le_refl _⟩
      · have : (z'.2 ++ [i]).length ≤ 0 := hl
        rw [List.length_append, List.length_singleton] at this
        omega
    | succ k ih => exact upto_succ ih (fun v => LeO.refl _) he
  exact fun v z hz => all z.2.length v z hz (Nat.le_refl _)
theorem pick_le (o : Option Path) (y : Path) : LeO (pick o y) o ∧ (∃ z, pick o y = some z ∧ le z y) ∧ (pick o y = o ∨ pick o y = some y) := by
  cases o with
  | none => exact ⟨fun _ h => (by cases h), ⟨y, rfl, le_refl y⟩, .inr rfl⟩
  | some z =>
    unfold pick
    cases e : better y z with
    | true => exact ⟨fun w h => ⟨y, by simp [e], by cases h; exact le_of_better e⟩, ⟨y, by simp [e], le_refl y⟩, .inr (by simp [e])⟩
    | false => exact ⟨fun w h => ⟨z, by simp [e], by cases h; exact le_refl z⟩, ⟨z, by simp [e], e⟩, .inl (by simp [e])⟩
def stepAt (roads : List Road) (x : Load) (L : List (Option Path)) (v : Nat) (o : Option Path) (i : Nat) : Option Path := match roads[i]? with
  | none => o
  | some r => if why r x ≠ 0 then o else
    let from_ : Option Nat := if r.q = v then some r.p else if r.p = v then some r.q else none
    match from_.bind fun u => L.getD u none with
    | some z => pick o (z.1 + r.minutes, z.2 ++ [i])
    | none => o
theorem stepAt_ok {roads : List Road} {x : Load} {L : List (Option Path)} {v i n : Nat} {o : Option Path} (R : RoadsOk roads n) :
    LeO (stepAt roads x L v o i) o ∧ (∀ u t z, Edge roads x u i v t → L.getD u none = some z → ∃ y, stepAt roads x L v o i = some y ∧ le y (ext z t i)) ∧
    (stepAt roads x L v o i = o ∨ ∃ u t z, Edge roads x u i v t ∧ L.getD u none = some z ∧ stepAt roads x L v o i = some (ext z t i)) := by
  unfold stepAt
  cases er : roads[i]? with
  | none =>
    refine ⟨LeO.refl _, fun u t z e => ?_, .inl rfl⟩
    obtain ⟨r, h, _⟩ := e.ex
    rw [er] at h; cases h
  | some r =>
    have ok := R.ok r (List.mem_of_getElem? er)
    by_cases hw : why r x = 0
    · simp only [hw, ne_eq, not_true, if_false]
      by_cases hq : r.q = v
      · rw [if_pos hq]
        have ed : ∀ u t, Edge roads x u i v t → u = r.p ∧ t = r.minutes := fun u t e => by
          obtain ⟨r', h, _, h3, h4⟩ := e.ex
          rw [er] at h; cases h
          refine ⟨?_, h3⟩
          rcases h4 with ⟨a, b⟩ | ⟨a, b⟩
          · exact a.symm
          · exact absurd (b.trans hq.symm) ok.2.2.2
        have ee : Edge roads x r.p i v r.minutes := ⟨r, er, hw, rfl, .inl ⟨rfl, hq⟩⟩
        simp only [Option.bind_some]
        cases eL : L.getD r.p none with
        | none =>
          refine ⟨LeO.refl _, fun u t z e hz => ?_, .inl rfl⟩
          rw [(ed u t e).1, eL] at hz; cases hz
        | some z =>
          have p := pick_le o (z.1 + r.minutes, z.2 ++ [i])
          refine ⟨p.1, fun u t z' e hz => ?_, ?_⟩
          · rw [(ed u t e).1, eL] at hz
            cases hz
            rw [(ed u t e).2]
            exact p.2.1
          · rcases p.2.2 with q | q
            · exact .inl q
            · exact .inr ⟨r.p, r.minutes, z, ee, eL, q⟩
      · by_cases hp : r.p = v
        · rw [if_neg hq, if_pos hp]
          have ed : ∀ u t, Edge roads x u i v t → u = r.q ∧ t = r.minutes := fun u t e => by
            obtain ⟨r', h, _, h3, h4⟩ := e.ex
            rw [er] at h; cases h
            refine ⟨?_, h3⟩
            rcases h4 with ⟨a, b⟩ | ⟨a, b⟩
            · exact absurd b hq
            · exact a.symm
          have ee : Edge roads x r.q i v r.minutes := ⟨r, er, hw, rfl, .inr ⟨rfl, hp⟩⟩
          simp only [Option.bind_some]
          cases eL : L.getD r.q none with
          | none =>
            refine ⟨LeO.refl _, fun u t z e hz => ?_, .inl rfl⟩
            rw [(ed u t e).1, eL] at hz; cases hz
          | some z =>
            have p := pick_le o (z.1 + r.minutes, z.2 ++ [i])
            refine ⟨p.1, fun u t z' e hz => ?_, ?_⟩
            · rw [(ed u t e).1, eL] at hz
              cases hz
              rw [(ed u t e).2]
              exact p.2.1
            · rcases p.2.2 with q | q
              · exact .inl q
              · exact .inr ⟨r.q, r.minutes, z, ee, eL, q⟩
        · rw [if_neg hq, if_neg hp]
          refine ⟨LeO.refl _, fun u t z e => ?_, .inl rfl⟩
          obtain ⟨r', h, _, _, h4⟩ := e.ex
          rw [er] at h; cases h
          rcases h4 with ⟨_, b⟩ | ⟨_, b⟩
          · exact absurd b hq
          · exact absurd b hp
    · simp only [ne_eq, hw, not_false_eq_true, if_true]
      refine ⟨LeO.refl _, fun u t z e => ?_, .inl trivial⟩
      obtain ⟨r', h, h2, _⟩ := e.ex
      rw [er] at h; cases h
      exact absurd h2 hw
theorem fold_ok {roads : List Road} {x : Load} {L : List (Option Path)} {v n : Nat} (R : RoadsOk roads n) : ∀ (is : List Nat) (o : Option Path),
    LeO (is.foldl (stepAt roads x L v) o) o ∧ (∀ u i t z, i ∈ is → Edge roads x u i v t → L.getD u none = some z → ∃ y, is.foldl (stepAt roads x L v) o = some y ∧ le y (ext z t i)) ∧
    (is.foldl (stepAt roads x L v) o = o ∨ ∃ u i t z, Edge roads x u i v t ∧ L.getD u none = some z ∧ is.foldl (stepAt roads x L v) o = some (ext z t i))
  | [], o => ⟨LeO.refl _, fun _ _ _ _ h => (by simp at h), .inl rfl⟩
  | j :: is, o => by
    have h1 := stepAt_ok (x := x) (L := L) (v := v) (i := j) (o := o) R
    have h2 := fold_ok (x := x) (L := L) (v := v) R is (stepAt roads x L v o j)
    rw [List.foldl_cons]
    refine ⟨h2.1.trans h1.1, fun u i t z hi e hz => ?_, ?_⟩
    · rcases List.mem_cons.mp hi with q | q
      · subst q
        obtain ⟨y, e1, l1⟩ := h1.2.1 u t z e hz
        obtain ⟨y', e2, l2⟩ := h2.1 y e1
        exact ⟨y', e2, le_trans l2 l1⟩
      · exact h2.2.1 u i t z q e hz
    · rcases h2.2.2 with q | ⟨u, i, t, z, a, b, c⟩
      · rcases h1.2.2 with q' | ⟨u, t, z, a, b, c⟩
        · exact .inl (q.trans q')
        · exact .inr ⟨u, j, t, z, a, b, q.trans c⟩
      · exact .inr ⟨u, i, t, z, a, b, c⟩
def labOf (L : List (Option Path)) : Lab := fun v => L.getD v none
theorem spread_at {roads : List Road} {x : Load} {n v : Nat} {L : List (Option Path)} (hv : v < n) : labOf (spread roads x n L) v = (List.range roads.length).foldl (stepAt roads x L v) (labOf L v) := by
  unfold labOf spread
  rw [List.getD_eq_getElem?_getD, List.getElem?_map, List.getElem?_range hv]
  rfl
theorem spread_out {roads : List Road} {x : Load} {n v : Nat} {L : List (Option Path)} (hv : ¬ v < n) : labOf (spread roads x n L) v = none := by
  unfold labOf spread
  rw [List.getD_eq_getElem?_getD, List.getElem?_eq_none (by simp; omega)]
  rfl
theorem ways_ok {roads : List Road} {x : Load} {n p : Nat} (R : RoadsOk roads n) (hp : p < n) : ∀ (j k : Nat) (L : List (Option Path)), Sound roads x p (labOf L) → Upto roads x p (labOf L) k → (∀ v, ¬ v < n → labOf L v = none) →
    Sound roads x p (labOf (ways roads x n j L)) ∧ Upto roads x p (labOf (ways roads x n j L)) (k + j)
  | 0, k, L, hs, hu, _ => ⟨hs, hu⟩
  | j + 1, k, L, hs, hu, hn => by
    have f := fun v => fold_ok (x := x) (L := L) (v := v) R (List.range roads.length) (labOf L v)
    have s1 : Sound roads x p (labOf (spread roads x n L)) := by
      intro v z e
      by_cases hv : v < n
      · rw [spread_at hv] at e
        rcases (f v).2.2 with q | ⟨u, i, t, z', a, b, c⟩
        · exact hs v z (q.symm.trans e)
        · rw [c] at e
          cases e
          exact (hs u z' b).ext a
      · rw [spread_out hv] at e; cases e
    have u1 : Upto roads x p (labOf (spread roads x n L)) (k + 1) := by
      refine upto_succ hu (fun v => ?_) (fun u i v t z e hz => ?_)
      · by_cases hv : v < n
        · rw [spread_at hv]; exact (f v).1
        · rw [spread_out hv, hn v hv]; exact LeO.refl _
      · have hv := (e.ok R).2.2
        rw [spread_at hv]
        refine (f v).2.1 u i t z ?_ e hz
        obtain ⟨r, h, _⟩ := e.ex
        exact List.mem_range.mpr (List.getElem?_eq_some_iff.mp h).1
    have := ways_ok R hp j (k + 1) (spread roads x n L) s1 u1 (fun v hv => spread_out hv)
    rw [show k + (j + 1) = k + 1 + j by omega]
    exact this
theorem way_best {roads : List Road} {x : Load} {n p q : Nat} (R : RoadsOk roads n) (hp : p < n) : Best roads x p q (way roads n x p q) := by
  have l0 : ∀ v, labOf ((List.range n).map fun v => if v = p then some ((0, []) : Path) else none) v = if v = p then some (0, []) else none := fun v => by
    unfold labOf
    rw [List.getD_eq_getElem?_getD, List.getElem?_map]
    by_cases hv : v < n
    · rw [List.getElem?_range hv]; rfl
    · rw [List.getElem?_eq_none (by simp; omega)]
      show none = _
      rw [if_neg (by omega)]
  have h := ways_ok (x := x) R hp n 0 ((List.range n).map fun v => if v = p then some (0, []) else none)
    (fun v z e => by
      rw [l0] at e
      by_cases hv : v = p
      · rw [if_pos hv] at e; cases e; subst hv; exact Way.nil
      · rw [if_neg hv] at e; cases e)
    (fun v z hz hl => by
      rcases hz.last with ⟨rfl, rfl⟩ | ⟨z', u, i, t, a, b, rfl⟩
      · exact ⟨(0, []), by rw [l0, if_pos rfl], le_refl _⟩
      · have : (z'.2 ++ [i]).length ≤ 0 := hl
        rw [List.length_append, List.length_singleton] at this
        omega)
    (fun v hv => by rw [l0, if_neg (by omega)])
  exact best_of h.1 (upto_all R hp (by omega) h.2) q
end Bend
end
section
namespace Bend
open Kqv6
def put (L : Lab) (v : Nat) (z : Path) : Lab := fun w => if w = v then some z else L w
theorem put_same (L : Lab) (v : Nat) (z : Path) : put L v z v = some z := by unfold put; rw [if_pos rfl]
theorem put_ne {L : Lab} {v w : Nat} {z : Path} (h : w ≠ v) : put L v z w = L w := by unfold put; rw [if_neg h]
def gain (L : Lab) (u v i t : Nat) : Option Path := match L u with
  | none => none
  | some z => match L v with
    | none => some (ext z t i)
    | some y => if better (ext z t i) y then some (ext z t i) else none
def relax (L : Lab) (u v i t : Nat) : Lab := match gain L u v i t with
  | none => L
  | some z => put L v z
theorem gain_some {L : Lab} {u v i t : Nat} {z : Path} (h : gain L u v i t = some z) : ∃ y, L u = some y ∧ z = ext y t i ∧ LeO (some z) (L v) := by
  unfold gain at h
  cases e : L u with
  | none => rw [e] at h; cases h
  | some y =>
    rw [e] at h
    cases e2 : L v with
    | none =>
      rw [e2] at h
      cases h
      exact ⟨y, rfl, rfl, fun _ q => (by cases q)⟩
    | some w =>
      rw [e2] at h
      dsimp only at h
      cases b : better (ext y t i) w with
      | false => rw [b] at h; cases h
      | true =>
        rw [b] at h
        cases h
        exact ⟨y, rfl, rfl, fun _ q => (by cases q; exact ⟨_, rfl, le_of_better b⟩)⟩
theorem gain_none {L : Lab} {u v i t : Nat} (h : gain L u v i t = none) {z : Path} (hz : L u = some z) : ∃ y, L v = some y ∧ le y (ext z t i) := by
  unfold gain at h
  rw [hz] at h
  dsimp only at h
  cases e2 : L v with
  | none => rw [e2] at h; cases h
  | some w =>
    rw [e2] at h
    dsimp only at h
    cases b : better (ext z t i) w with
    | true => rw [b] at h; cases h
    | false => exact ⟨w, rfl, b⟩
theorem relax_le (L : Lab) (u v i t w : Nat) : LeO (relax L u v i t w) (L w) := by
  unfold relax
  cases e : gain L u v i t with
  | none => exact LeO.refl _
  | some z =>
    dsimp only
    by_cases hw : w = v
    · subst hw
      rw [put_same]
      obtain ⟨_, _, _, q⟩ := gain_some e
      exact q
    · rw [put_ne hw]
      exact LeO.refl _
theorem relax_edge {L : Lab} {u v i t : Nat} {z : Path} (hz : L u = some z) : ∃ y, relax L u v i t v = some y ∧ le y (ext z t i) := by
  unfold relax
  cases e : gain L u v i t with
  | none => exact gain_none e hz
  | some w =>
    obtain ⟨y, h1, h2, _⟩ := gain_some e
    rw [hz] at h1
    cases h1
    dsimp only
    rw [put_same]
    exact ⟨w, rfl, by rw [h2]; exact le_refl _⟩
theorem relax_sound {roads : List Road} {x : Load} {p u v i t : Nat} {L : Lab} (h : Sound roads x p L) (e : Edge roads x u i v t) : Sound roads x p (relax L u v i t) := by
  intro w z hz
  unfold relax at hz
  cases g : gain L u v i t with
  | none => rw [g] at hz; exact h w z hz
  | some y =>
    rw [g] at hz
    dsimp only at hz
    by_cases hw : w = v
    · subst hw
      rw [put_same] at hz
      cases hz
      obtain ⟨y', h1, h2, _⟩ := gain_some g
      rw [h2]
      exact (h u y' h1).ext e
    · rw [put_ne hw] at hz
      exact h w z hz
theorem relax_zero {L : Lab} {u v i t p : Nat} (h : L p = some (0, [])) : relax L u v i t p = some (0, []) := by
  obtain ⟨z, e, q⟩ := relax_le L u v i t p (0, []) h
  rw [e, le_antisymm q (le_zero z)]
theorem relax_none {L : Lab} {u v i t : Nat} (h : gain L u v i t = none) : relax L u v i t = L := by
  unfold relax
  rw [h]
theorem gain_best {roads : List Road} {x : Load} {p u v i t : Nat} {L : Lab} (hs : Sound roads x p L) (hu : ∀ v z, Way roads x p v z → ∃ y, L v = some y ∧ le y z) (e : Edge roads x u i v t) : gain L u v i t = none := by
  cases g : gain L u v i t with
  | none => rfl
  | some z =>
    unfold gain at g
    cases h1 : L u with
    | none => rw [h1] at g; cases g
    | some y =>
      rw [h1] at g
      dsimp only at g
      obtain ⟨w, h2, q⟩ := hu v _ ((hs u y h1).ext e)
      rw [h2] at g
      dsimp only at g
      rw [show better (ext y t i) w = false from q] at g
      cases g
structure Mid (roads : List Road) (x : Load) (p : Nat) (L0 : Lab) (is : List Nat) (L : Lab) (b : Bool) : Prop where
  sound : Sound roads x p L
  zero : L p = some (0, [])
  le : ∀ v, LeO (L v) (L0 v)
  edge : ∀ u i v t z, i ∈ is → Edge roads x u i v t → L0 u = some z → ∃ y, L v = some y ∧ Bend.le y (ext z t i)
  same : b = false → L = L0
  full : (∀ v z, Way roads x p v z → ∃ y, L0 v = some y ∧ Bend.le y z) → b = false
theorem Mid.start {roads : List Road} {x : Load} {p : Nat} {L0 : Lab} (hs : Sound roads x p L0) (hz : L0 p = some (0, [])) : Mid roads x p L0 [] L0 false :=
  ⟨hs, hz, fun _ => LeO.refl _, fun _ _ _ _ _ h => (by simp at h), fun _ => rfl, fun _ => rfl⟩
theorem Mid.turn {roads : List Road} {x : Load} {p i : Nat} {L0 L : Lab} {is : List Nat} {b : Bool} {r : Road} (M : Mid roads x p L0 is L b) (hr : roads[i]? = some r) (hw : why r x = 0) :
    Mid roads x p L0 (is ++ [i]) (relax (relax L r.p r.q i r.minutes) r.q r.p i r.minutes)
      (b || (gain L r.p r.q i r.minutes).isSome || (gain (relax L r.p r.q i r.minutes) r.q r.p i r.minutes).isSome) := by
  have e1 : Edge roads x r.p i r.q r.minutes := ⟨r, hr, hw, rfl, .inl ⟨rfl, rfl⟩⟩
  have e2 : Edge roads x r.q i r.p r.minutes := ⟨r, hr, hw, rfl, .inr ⟨rfl, rfl⟩⟩
  have l1 := relax_le L r.p r.q i r.minutes
  have l2 := relax_le (relax L r.p r.q i r.minutes) r.q r.p i r.minutes
  refine ⟨relax_sound (relax_sound M.sound e1) e2, relax_zero (relax_zero M.zero), fun v => (l2 v).trans ((l1 v).trans (M.le v)), fun u j v t z hj he hz => ?_, fun h => ?_, fun h => ?_⟩
  · rcases List.mem_append.mp hj with q | q
    · obtain ⟨y, h1, h2⟩ := M.edge u j v t z q he hz
      obtain ⟨y', h3, h4⟩ := ((l2 v).trans (l1 v)) y h1
      exact ⟨y', h3, le_trans h4 h2⟩
    · have q : j = i := by simpa using q
      subst q
      obtain ⟨r', h1, _, h3, h4⟩ := he.ex
      rw [hr] at h1
      cases h1
      subst h3
      obtain ⟨z1, a1, b1⟩ := M.le u z hz
      rcases h4 with ⟨rfl, rfl⟩ | ⟨rfl, rfl⟩
      · obtain ⟨y, h5, h6⟩ := relax_edge (v := r.q) (i := j) (t := r.minutes) a1
        obtain ⟨y', h7, h8⟩ := l2 r.q y h5
        exact ⟨y', h7, le_trans h8 (le_trans h6 (le_ext _ _ b1))⟩
      · obtain ⟨z2, a2, b2⟩ := l1 r.q z1 a1
        obtain ⟨y, h5, h6⟩ := relax_edge (v := r.p) (i := j) (t := r.minutes) a2
        exact ⟨y, h5, le_trans h6 (le_ext _ _ (le_trans b2 b1))⟩
  · rw [Bool.or_eq_false_iff, Bool.or_eq_false_iff] at h
    obtain ⟨⟨h1, h2⟩, h3⟩ := h
    have g1 : gain L r.p r.q i r.minutes = none := by simpa using h2
    rw [relax_none g1] at h3 ⊢
    have g2 : gain L r.q r.p i r.minutes = none := by simpa using h3
    rw [relax_none g2]
    exact M.same h1
  · have hb := M.full h
    have hL := M.same hb
    have hu : ∀ v z, Way roads x p v z → ∃ y, L v = some y ∧ Bend.le y z := by rw [hL]; exact h
    have g1 : gain L r.p r.q i r.minutes = none := gain_best M.sound hu e1
    rw [relax_none g1, hb, g1, gain_best M.sound hu e2]
    rfl
structure Rounds (roads : List Road) (x : Load) (n p k : Nat) (L : Lab) (b : Bool) : Prop where
  sound : Sound roads x p L
  zero : L p = some (0, [])
  upto : Upto roads x p L k
  fin : b = false → ∀ v, Best roads x p v (L v)
  more : b = true → k ≤ n
theorem Rounds.start {roads : List Road} {x : Load} {n p : Nat} : Rounds roads x n p 0 (put (fun _ => none) p (0, [])) true where
  sound := fun v z h => by
    by_cases hv : v = p
    · subst hv; rw [put_same] at h; cases h; exact Way.nil
    · rw [put_ne hv] at h; cases h
  zero := put_same _ _ _
  upto := fun v z hz hl => by
    rcases hz.last with ⟨rfl, rfl⟩ | ⟨z', u, i, t, a, b, rfl⟩
    · exact ⟨_, put_same _ _ _, le_refl _⟩
    · have : (z'.2 ++ [i]).length ≤ 0 := hl
      rw [List.length_append, List.length_singleton] at this
      omega
  fin := fun h => by cases h
  more := fun _ => Nat.zero_le _
theorem Mid.done {roads : List Road} {x : Load} {n p k : Nat} {L0 L : Lab} {is : List Nat} {b b0 : Bool} (R : RoadsOk roads n) (hp : p < n) (hi : ∀ i r, roads[i]? = some r → why r x = 0 → i ∈ is) (h : Rounds roads x n p k L0 b0) (M : Mid roads x p L0 is L b) :
    Rounds roads x n p (k + 1) L b where
  sound := M.sound
  zero := M.zero
  upto := upto_succ h.upto M.le fun u i v t z e hz => by
    obtain ⟨r, h1, h2, _⟩ := id e.ex
    exact M.edge u i v t z (hi i r h1 h2) e hz
  fin := fun hb v => by
    have e := M.same hb
    subst e
    refine best_of M.sound (best_fix M.zero fun u i v t z e hz => ?_) v
    obtain ⟨r, h1, h2, _⟩ := id e.ex
    exact M.edge u i v t z (hi i r h1 h2) e hz
  more := fun hb => by
    apply Classical.byContradiction
    intro q
    have := M.full (upto_all R hp (by omega) h.upto)
    rw [this] at hb
    cases hb
theorem way_some {roads : List Road} {x : Load} {n p q : Nat} (R : RoadsOk roads n) (hp : p < n) : (way roads n x p q).isSome = true ↔ ∃ z, Way roads x p q z := by
  have b := way_best (x := x) (q := q) R hp
  cases e : way roads n x p q with
  | none =>
    rw [e] at b
    exact ⟨fun h => (by cases h), fun ⟨z, hz⟩ => absurd hz (b z)⟩
  | some z =>
    rw [e] at b
    exact ⟨fun _ => ⟨z, b.1⟩, fun _ => rfl⟩
theorem Run.map {roads roads' : List Road} {x x' : Load} {u v m : Nat} {vs l : List Nat} (h : Run roads x u vs m l v) (k : ∀ u i v t, i ∈ l → Edge roads x u i v t → Edge roads' x' u i v t) : Run roads' x' u vs m l v := by
  induction h with
  | nil u => exact .nil u
  | cons e _ ih => exact .cons (k _ _ _ _ (by simp) e) (ih fun u i v t hi => k u i v t (List.mem_cons_of_mem _ hi))
theorem Way.map {roads roads' : List Road} {x x' : Load} {p q : Nat} {z : Path} (h : Way roads x p q z) (k : ∀ u i v t, i ∈ z.2 → Edge roads x u i v t → Edge roads' x' u i v t) : Way roads' x' p q z := by
  obtain ⟨vs, h⟩ := h
  exact ⟨vs, h.map k⟩
theorem why_zero (r : Road) (x : Load) : why r x = 0 ↔ r.closed = false ∧ x.high ≤ r.high ∧ x.heavy ≤ r.heavy ∧ ((r.a = 0 ∧ r.b = 0) ∨ round x.long r.a r.b = true) := by
  unfold why
  cases hc : r.closed with
  | true => simp
  | false =>
    by_cases h1 : r.high < x.high
    · simp [h1]; omega
    by_cases h2 : r.heavy < x.heavy
    · simp [h1, h2]; omega
    have h1' : x.high ≤ r.high := by omega
    have h2' : x.heavy ≤ r.heavy := by omega
    simp only [Bool.false_eq_true, if_false, h1, h2, h1', h2', true_and]
    by_cases ha : r.a = 0 <;> by_cases hb : r.b = 0 <;> cases hr : round x.long r.a r.b <;> simp [ha, hb, hr]
theorem why_mono {r : Road} {l l' h w : Nat} (hl : l' ≤ l) (q : why r ⟨l, h, w⟩ = 0) : why r ⟨l', h, w⟩ = 0 := by
  rw [why_zero] at *
  refine ⟨q.1, q.2.1, q.2.2.1, ?_⟩
  rcases q.2.2.2 with q | q
  · exact .inl q
  · exact .inr (round_mono hl q)
theorem way_shorter {roads : List Road} {n p q l l' h w : Nat} (R : RoadsOk roads n) (hp : p < n) (hl : l' ≤ l) (s : (way roads n ⟨l, h, w⟩ p q).isSome = true) : (way roads n ⟨l', h, w⟩ p q).isSome = true := by
  rw [way_some R hp] at *
  obtain ⟨z, hz⟩ := s
  refine ⟨z, hz.map fun u i v t _ e => ?_⟩
  obtain ⟨r, h1, h2, h3, h4⟩ := e.ex
  exact ⟨r, h1, why_mono hl h2, h3, h4⟩
theorem limit_fold (g : Nat → Bool) : ∀ (l : List Nat) (o : Option Nat), (∀ y, o = some y → g y = true) →
    match (l.filter g).foldl (fun (o : Option Nat) x => match o with
      | none => some x
      | some y => some (max x y)) o with
    | none => o = none ∧ ∀ y ∈ l, g y = false
    | some m => (o = some m ∨ m ∈ l) ∧ g m = true ∧ (∀ y, o = some y → y ≤ m) ∧ ∀ y ∈ l, g y = true → y ≤ m
  | [], none, _ => by simp
  | [], some y, h => by simp [h y rfl]
  | x :: l, o, h => by
    cases e : g x with
    | false =>
      rw [List.filter_cons_of_neg (by simp [e])]
      have ih := limit_fold g l o h
      generalize (l.filter g).foldl _ o = res at ih ⊢
      cases res with
      | none => exact ⟨ih.1, fun y hy => by rcases List.mem_cons.mp hy with q | q; (· rw [q]; exact e); exact ih.2 y q⟩
      | some m =>
        refine ⟨ih.1.imp id (List.mem_cons_of_mem _), ih.2.1, ih.2.2.1, fun y hy hg => ?_⟩
        rcases List.mem_cons.mp hy with q | q
        · rw [q, e] at hg; cases hg
        · exact ih.2.2.2 y q hg
    | true =>
      rw [List.filter_cons_of_pos e, List.foldl_cons]
      cases o with
      | none =>
        have ih := limit_fold g l (some x) (fun y q => by cases q; exact e)
        dsimp only at ih ⊢
        generalize (l.filter g).foldl _ (some x) = res at ih ⊢
        cases res with
        | none => exact absurd ih.1 (by simp)
        | some m =>
          refine ⟨.inr ?_, ih.2.1, fun y q => (by cases q), fun y hy hg => ?_⟩
          · rcases ih.1 with q | q
            · cases q; exact List.mem_cons_self
            · exact List.mem_cons_of_mem _ q
          · rcases List.mem_cons.mp hy with q | q
            · exact ih.2.2.1 y (by rw [q])
            · exact ih.2.2.2 y q hg
      | some o' =>
        have ho := h o' rfl
        have ih := limit_fold g l (some (max x o')) (fun y q => by cases q; rcases Nat.le_total x o' with q | q <;> simp [Nat.max_def] <;> split <;> assumption)
        dsimp only at ih ⊢
        generalize (l.filter g).foldl _ (some (max x o')) = res at ih ⊢
        cases res with
        | none => exact absurd ih.1 (by simp)
        | some m =>
          have hm := ih.2.2.1 _ rfl
          refine ⟨?_, ih.2.1, fun y q => (by cases q; omega), fun y hy hg => ?_⟩
          · rcases ih.1 with q | q
            · have q : max x o' = m := Option.some.inj q
              rcases Nat.le_total x o' with z | z
              · left; rw [← q, Nat.max_eq_right z]
              · right; rw [← q, Nat.max_eq_left z]; exact List.mem_cons_self
            · exact .inr (List.mem_cons_of_mem _ q)
          · rcases List.mem_cons.mp hy with q | q
            · omega
            · exact ih.2.2.2 y q hg
theorem limit_none {l : List Nat} {g : Nat → Bool} (h : ∀ y ∈ l, g y = false) : limit l g = none := by
  unfold limit
  rw [List.filter_eq_nil_iff.mpr fun y hy => by simp [h y hy]]
  rfl
theorem limit_some {l : List Nat} {g : Nat → Bool} {m : Nat} (h1 : m ∈ l) (h2 : g m = true) (h3 : ∀ y ∈ l, g y = true → y ≤ m) : limit l g = some m := by
  have ih := limit_fold g l none (fun _ q => by cases q)
  unfold limit
  generalize (l.filter g).foldl _ none = res at ih ⊢
  cases res with
  | none =>
    have := ih.2 m h1
    rw [h2] at this; cases this
  | some k =>
    have a := ih.2.2.2 m h1 h2
    rcases ih.1 with q | q
    · cases q
    · have b := h3 k q ih.2.1
      rw [Nat.le_antisymm b a]
theorem most_none {roads : List Road} {n p q h w : Nat} (R : RoadsOk roads n) (hp : p < n) (e : (way roads n ⟨0, h, w⟩ p q).isSome = false) : most roads n p q h w = none := by
  refine limit_none fun y _ => ?_
  cases s : (way roads n ⟨y, h, w⟩ p q).isSome with
  | false => rfl
  | true => rw [way_shorter R hp (Nat.zero_le y) s] at e; cases e
theorem most_some {roads : List Road} {n p q h w m : Nat} (R : RoadsOk roads n) (hp : p < n) (G : Greatest 300 (fun l => (way roads n ⟨l, h, w⟩ p q).isSome) m) : most roads n p q h w = some m := by
  unfold most
  refine limit_some ?_ G.2.1 fun y hy hg => ?_
  · by_cases hm : m = 300
    · subst hm; exact List.mem_append_right _ (by simp [LONG])
    apply List.mem_append_left
    apply Classical.byContradiction
    intro hno
    have hlt : m < 300 := by have := G.1; omega
    have g1 := G.2.2 (m + 1) (by omega) (by omega)
    have g2 : (way roads n ⟨m + 1, h, w⟩ p q).isSome = true := by
      obtain ⟨z, hz⟩ := (way_some R hp).mp G.2.1
      refine (way_some R hp).mpr ⟨z, hz.map fun u i v t _ e => ?_⟩
      obtain ⟨r, h1, h2, h3, h4⟩ := e.ex
      refine ⟨r, h1, ?_, h3, h4⟩
      rw [why_zero] at h2 ⊢
      refine ⟨h2.1, h2.2.1, h2.2.2.1, ?_⟩
      rcases h2.2.2.2 with k | k
      · exact .inl k
      by_cases z0 : r.a = 0 ∧ r.b = 0
      · exact .inl z0
      right
      show round (m + 1) r.a r.b = true
      cases e1 : round (m + 1) r.a r.b with
      | true => rfl
      | false =>
        exfalso
        apply hno
        have gl : Greatest 300 (fun l => round l r.a r.b) m := ⟨G.1, k, fun j h1 h2 => by
          show round j r.a r.b = false
          cases e2 : round j r.a r.b with
          | false => rfl
          | true => rw [round_mono (show m + 1 ≤ j by omega) e2] at e1; cases e1⟩
        have : longest r.a r.b = m := (longest_greatest r.a r.b).uniq gl
        exact List.mem_map.mpr ⟨r, List.mem_of_getElem? h1, by rw [if_neg z0]; exact this⟩
    have g1' : (way roads n ⟨m + 1, h, w⟩ p q).isSome = false := g1
    rw [g2] at g1'
    cases g1'
  · apply Classical.byContradiction
    intro hgt
    have hy300 : y ≤ 300 := by
      rcases List.mem_append.mp hy with q | q
      · obtain ⟨r, _, e⟩ := List.mem_map.mp q
        split at e
        · have : LONG = 300 := rfl
          omega
        · have := (longest_greatest r.a r.b).1
          omega
      · have : y = LONG := by simpa using q
        have : LONG = 300 := rfl
        omega
    have := G.2.2 y (by omega) hy300
    have this' : (way roads n ⟨y, h, w⟩ p q).isSome = false := this
    rw [this'] at hg
    cases hg
end Bend
end
section
namespace Bend
open Kqv6
theorem foldl_max_ge : ∀ (l : List Nat) (a : Nat), a ≤ l.foldl max a
  | [], a => Nat.le_refl a
  | x :: l, a => Nat.le_trans (Nat.le_max_left a x) (foldl_max_ge l (max a x))
theorem foldl_max_mem : ∀ (l : List Nat) (a x : Nat), x ∈ l → x ≤ l.foldl max a
  | y :: l, a, x, h => by
    rcases List.mem_cons.mp h with e | e
    · subst e
      exact Nat.le_trans (Nat.le_max_right a x) (foldl_max_ge l (max a x))
    · exact foldl_max_mem l (max a y) x e
theorem times_ge (m : Map_) : ∀ (l : List Nat) (t : Nat), ∀ x ∈ times m t l, t ≤ x.2.1
  | [], _, x, h => by simp [times] at h
  | r :: l, t, x, h => by
    unfold times at h
    rcases List.mem_cons.mp h with e | e
    · subst e; exact Nat.le_refl _
    · exact Nat.le_trans (Nat.le_add_right _ _) (times_ge m l _ x e)
theorem over_ge {m : Map_} {d : Nat × Convoy} (hd : d ∈ all m) {x : Nat × Nat × Nat} (hx : x ∈ spans m d.2) : x.2.2 ≤ over m := by
  unfold over
  have h1 : x.2.2 ≤ ((spans m d.2).map fun x => x.2.2).foldl max d.2.minute := foldl_max_mem _ _ _ (List.mem_map.mpr ⟨x, hx, rfl⟩)
  exact Nat.le_trans h1 (foldl_max_mem _ _ _ (List.mem_map.mpr ⟨d, hd, rfl⟩))
theorem free_over {m : Map_} {l : List Nat} {u : Nat} (h : over m ≤ u) : free m ⟨u, l⟩ = true := by
  unfold free
  rw [List.all_eq_true]
  intro d hd
  have : meet m ⟨u, l⟩ d.2 = false := by
    unfold meet
    rw [List.any_eq_false]
    intro x hx
    rw [Bool.not_eq_true, List.any_eq_false]
    intro y hy
    have h1 : u ≤ x.2.1 := times_ge m l u x hx
    have h2 := over_ge hd hy
    have : ¬ x.2.1 < y.2.2 := by omega
    simp [this]
  rw [this]
  rfl
theorem soonest_eq {m : Map_} {l : List Nat} {t s : Nat} (h1 : t ≤ s) (h2 : free m ⟨s, l⟩ = true) (h3 : ∀ u, t ≤ u → u < s → free m ⟨u, l⟩ = false) : soonest m l t = some s := by
  have hs : s ≤ max t (over m) := by
    apply Classical.byContradiction
    intro q
    have := h3 (max t (over m)) (Nat.le_max_left _ _) (by omega)
    rw [free_over (Nat.le_max_right _ _)] at this
    cases this
  have hin : s - t < over m - t + 1 := by omega
  unfold soonest
  have e : (List.range (over m - t + 1)).map (fun i => t + i) = (List.range (s - t)).map (fun i => t + i) ++ (s :: ((List.range (over m - t - (s - t))).map fun i => s + 1 + i)) := by
    have e1 : over m - t + 1 = (s - t) + (1 + (over m - t - (s - t))) := by omega
    rw [e1, List.range_add, List.map_append, List.map_map]
    congr 1
    rw [Nat.add_comm 1, List.range_succ_eq_map, List.map_cons, List.map_map]
    congr 1
    · show t + (s - t + 0) = s
      omega
    · refine List.map_congr_left fun i _ => ?_
      show t + (s - t + (i + 1)) = s + 1 + i
      omega
  rw [e, List.find?_append]
  have n : ((List.range (s - t)).map fun i => t + i).find? (fun s => free m ⟨s, l⟩) = none := by
    rw [List.find?_eq_none]
    intro u hu
    obtain ⟨i, hi, rfl⟩ := List.mem_map.mp hu
    have := List.mem_range.mp hi
    rw [h3 (t + i) (by omega) (by omega)]
    decide
  rw [n, Option.none_or, List.find?_cons, h2]
theorem filterMap_range {α β : Type} : ∀ (l : List α) (g : Nat → α → β), (List.range l.length).filterMap (fun i => (l[i]?).map (g i)) = l.mapIdx g
  | [], _ => rfl
  | a :: l, g => by
    have ih := filterMap_range l (fun i => g (i + 1))
    rw [List.length_cons, List.range_succ_eq_map, List.filterMap_cons, List.mapIdx_cons, List.filterMap_map, ← ih]
    rfl
theorem closed_eq {roads : List Road} {r : Nat} {x : Road} (h : roads[r]? = some x) : ((List.range roads.length).filterMap fun i => (roads[i]?).map fun x => if i = r then { x with closed := true } else x) = roads.set r { x with closed := true } := by
  have e := filterMap_range roads (fun i x => if i = r then { x with closed := true } else x)
  rw [e]
  apply List.ext_getElem?
  intro j
  rw [List.getElem?_mapIdx]
  by_cases hj : j = r
  · subst hj
    rw [List.getElem?_set_self (List.getElem?_eq_some_iff.mp h).1, h]
    show some (if j = j then _ else _) = _
    rw [if_pos rfl]
  · rw [List.getElem?_set_ne (fun q => hj q.symm)]
    cases roads[j]? with
    | none => rfl
    | some y =>
      show some (if j = r then _ else _) = _
      rw [if_neg hj]
theorem way_closed {roads : List Road} {n p q r : Nat} {y : Load} {x : Road} (R : RoadsOk roads n) (hp : p < n) (h : roads[r]? = some x) : (way (roads.set r { x with closed := true }) n y p q).isSome = true ↔ ∃ z, Way roads y p q z ∧ r ∉ z.2 := by
  have R' : RoadsOk (roads.set r { x with closed := true }) n := ⟨fun r' hr' => by
    rcases List.mem_or_eq_of_mem_set hr' with q | q
    · exact R.ok r' q
    · subst q; exact R.ok x (List.mem_of_getElem? h)⟩
  have hlt := (List.getElem?_eq_some_iff.mp h).1
  rw [way_some R' hp]
  constructor
  · rintro ⟨z, hz⟩
    have back : ∀ u i v t, Edge (roads.set r { x with closed := true }) y u i v t → i ≠ r ∧ Edge roads y u i v t := fun u i v t e => by
      obtain ⟨r', h1, h2, h3, h4⟩ := e.ex
      by_cases hi : i = r
      · subst hi
        rw [List.getElem?_set_self hlt] at h1
        cases h1
        rw [why_zero] at h2
        cases h2.1
      · rw [List.getElem?_set_ne (fun q => hi q.symm)] at h1
        exact ⟨hi, r', h1, h2, h3, h4⟩
    refine ⟨z, hz.map fun u i v t _ e => (back u i v t e).2, ?_⟩
    obtain ⟨vs, hz⟩ := hz
    have : ∀ {u v m : Nat} {vs l : List Nat}, Run (roads.set r { x with closed := true }) y u vs m l v → r ∉ l := by
      intro u v m vs l hrun
      induction hrun with
      | nil => simp
      | cons e _ ih =>
        intro hm
        rcases List.mem_cons.mp hm with q | q
        · exact (back _ _ _ _ e).1 q.symm
        · exact ih q
    exact this hz
  · rintro ⟨z, hz, hn⟩
    refine ⟨z, hz.map fun u i v t hi e => ?_⟩
    obtain ⟨r', h1, h2, h3, h4⟩ := e.ex
    have hir : i ≠ r := fun q => hn (by rw [← q]; exact hi)
    exact ⟨r', by rw [List.getElem?_set_ne (fun q => hir q.symm)]; exact h1, h2, h3, h4⟩
end Bend
end
section
namespace Bend
open Kqv6
abbrev Span := Nat × Nat × Nat
def meets (x y : Span) : Bool := x.1 == y.1 && decide (x.2.1 < y.2.2) && decide (y.2.1 < x.2.2)
theorem meets_iff (x y : Span) : meets x y = true ↔ x.1 = y.1 ∧ x.2.1 < y.2.2 ∧ y.2.1 < x.2.2 := by
  unfold meets
  simp only [Bool.and_eq_true, beq_iff_eq, decide_eq_true_eq, and_assoc]
theorem times_shift (m : Map_) (k : Nat) : ∀ (l : List Nat) (t : Nat), times m (t + k) l = (times m t l).map fun x => (x.1, x.2.1 + k, x.2.2 + k)
  | [], _ => rfl
  | r :: l, t => by
    unfold times
    rw [List.map_cons, show t + k + minutesOf m r = (t + minutesOf m r) + k from by omega, times_shift m k l (t + minutesOf m r)]
theorem times_congr {m m' : Map_} : ∀ {l : List Nat} (t : Nat), (∀ r ∈ l, minutesOf m' r = minutesOf m r) → times m' t l = times m t l
  | [], _, _ => rfl
  | r :: l, t, h => by
    unfold times
    rw [h r (by simp), times_congr (l := l) _ (fun r' h' => h r' (List.mem_cons_of_mem _ h'))]
theorem times_length (m : Map_) : ∀ (l : List Nat) (t : Nat), (times m t l).length = l.length
  | [], _ => rfl
  | r :: l, t => by
    unfold times
    rw [List.length_cons, List.length_cons, times_length m l]
theorem times_snoc (m : Map_) (r : Nat) : ∀ (l : List Nat) (t : Nat), ∃ u, times m t (l ++ [r]) = times m t l ++ [(r, u, u + minutesOf m r)] ∧ u = t + (l.map (minutesOf m)).sum
  | [], t => ⟨t, rfl, by simp⟩
  | q :: l, t => by
    obtain ⟨u, e1, e2⟩ := times_snoc m r l (t + minutesOf m q)
    refine ⟨u, ?_, ?_⟩
    · show (q, t, t + minutesOf m q) :: times m (t + minutesOf m q) (l ++ [r]) = _
      rw [e1]
      rfl
    · rw [e2, List.map_cons, List.sum_cons]
      omega
theorem free_false {m : Map_} {c : Convoy} {d : Nat × Convoy} {x y : Span} (hd : d ∈ all m) (hx : x ∈ spans m c) (hy : y ∈ spans m d.2) (h : meets x y = true) : free m c = false := by
  unfold free
  rw [List.all_eq_false]
  refine ⟨d, hd, ?_⟩
  have : meet m c d.2 = true := by
    unfold meet
    exact List.any_eq_true.mpr ⟨x, hx, List.any_eq_true.mpr ⟨y, hy, h⟩⟩
  rw [this]
  decide
theorem free_true {m : Map_} {c : Convoy} (h : ∀ d ∈ all m, ∀ x ∈ spans m c, ∀ y ∈ spans m d.2, meets x y = false) : free m c = true := by
  unfold free
  rw [List.all_eq_true]
  intro d hd
  have : meet m c d.2 = false := by
    unfold meet
    rw [List.any_eq_false]
    intro x hx
    rw [Bool.not_eq_true, List.any_eq_false]
    intro y hy
    have := h d hd x hx y hy
    unfold meets at this
    rw [this]
    decide
  rw [this]
  rfl
def Wait (m : Map_) (c : Convoy) (w : Nat) : Prop := (w = 0 ∧ free m c = true) ∨ (0 < w ∧ ∃ d ∈ all m, ∃ x ∈ spans m c, ∃ y ∈ spans m d.2, meets x y = true ∧ y.2.2 = x.2.1 + w)
theorem Wait.zero {m : Map_} {c : Convoy} {w : Nat} (h : Wait m c w) : w = 0 ↔ free m c = true := by
  rcases h with ⟨h1, h2⟩ | ⟨h1, d, hd, x, hx, y, hy, h2, _⟩
  · exact ⟨fun _ => h2, fun _ => h1⟩
  · have := free_false hd hx hy h2
    exact ⟨fun z => by omega, fun z => by rw [this] at z; cases z⟩
theorem Wait.within {m : Map_} {l : List Nat} {s w : Nat} (h : Wait m ⟨s, l⟩ w) : ∀ u, s ≤ u → u < s + w → free m ⟨u, l⟩ = false := by
  intro u h1 h2
  rcases h with ⟨rfl, _⟩ | ⟨_, d, hd, x, hx, y, hy, h3, h4⟩
  · omega
  · obtain ⟨k, rfl⟩ : ∃ k, u = s + k := ⟨u - s, by omega⟩
    rw [meets_iff] at h3
    refine free_false (x := (x.1, x.2.1 + k, x.2.2 + k)) hd ?_ hy ((meets_iff _ _).mpr ⟨h3.1, by dsimp only; omega, by dsimp only; omega⟩)
    show _ ∈ times m (s + k) l
    rw [times_shift]
    exact List.mem_map.mpr ⟨x, hx, rfl⟩
theorem Wait.less {m : Map_} {l : List Nat} {s w : Nat} (h : Wait m ⟨s, l⟩ w) (hw : 0 < w) : s < over m := by
  apply Classical.byContradiction
  intro q
  have h1 := free_over (m := m) (l := l) (u := s) (by omega)
  have := h.zero.mpr h1
  omega
theorem mem_all {m : Map_} {k : Nat} {c : Convoy} : (k, c) ∈ all m ↔ m.convoys.getD k none = some c := by
  unfold all
  rw [List.mem_filterMap]
  constructor
  · rintro ⟨i, _, h⟩
    cases e : m.convoys.getD i none with
    | none => rw [e] at h; cases h
    | some d =>
      rw [e] at h
      have h := Option.some.inj h
      have h1 : i = k := congrArg Prod.fst h
      have h2 : d = c := congrArg Prod.snd h
      rw [← h1, e, h2]
  · intro h
    have hk : k < m.convoys.length := by
      apply Classical.byContradiction
      intro q
      rw [List.getD_eq_getElem?_getD, List.getElem?_eq_none (by omega)] at h
      cases h
    exact ⟨k, List.mem_range.mpr hk, by rw [h]; rfl⟩
def isAt (m : Map_) (k : Nat) : Bool := (m.convoys.getD k none).isSome
def nums (m : Map_) : List Nat := (List.range m.convoys.length).filter (isAt m)
theorem all_fst (m : Map_) : (all m).map (·.1) = nums m := by
  unfold all nums
  generalize List.range m.convoys.length = l
  induction l with
  | nil => rfl
  | cons i l ih =>
    rw [List.filterMap_cons]
    cases e : m.convoys.getD i none with
    | none =>
      rw [List.filter_cons_of_neg (by unfold isAt; rw [e]; decide)]
      exact ih
    | some c =>
      rw [List.filter_cons_of_pos (by unfold isAt; rw [e]; rfl), ← ih]
      rfl
theorem mem_nums {m : Map_} {k : Nat} : k ∈ nums m ↔ isAt m k = true := by
  unfold nums
  rw [List.mem_filter]
  refine ⟨fun h => h.2, fun h => ⟨?_, h⟩⟩
  rw [List.mem_range]
  apply Classical.byContradiction
  intro q
  unfold isAt at h
  rw [List.getD_eq_getElem?_getD, List.getElem?_eq_none (by omega)] at h
  cases h
theorem nums_sorted (m : Map_) : (nums m).Pairwise (· < ·) := List.Pairwise.filter _ List.pairwise_lt_range
theorem nums_nodup (m : Map_) : (nums m).Nodup := (nums_sorted m).imp fun h => Nat.ne_of_lt h
theorem rising_eq : ∀ {a b : List Nat}, a.Pairwise (· < ·) → b.Pairwise (· < ·) → (∀ x, x ∈ a ↔ x ∈ b) → a = b
  | [], [], _, _, _ => rfl
  | [], y :: b, _, _, h => absurd ((h y).mpr (by simp)) (by simp)
  | x :: a, [], _, _, h => absurd ((h x).mp (by simp)) (by simp)
  | x :: a, y :: b, ha, hb, h => by
    rw [List.pairwise_cons] at ha hb
    have exy : x = y := by
      have h1 := (h x).mp (by simp)
      have h2 := (h y).mpr (by simp)
      rcases List.mem_cons.mp h1 with q | q
      · exact q
      · rcases List.mem_cons.mp h2 with q2 | q2
        · exact q2.symm
        · have := hb.1 x q
          have := ha.1 y q2
          omega
    subst exy
    rw [rising_eq ha.2 hb.2 fun z => ?_]
    constructor
    · intro hz
      have := ha.1 z hz
      rcases List.mem_cons.mp ((h z).mp (List.mem_cons_of_mem _ hz)) with q | q
      · omega
      · exact q
    · intro hz
      have := hb.1 z hz
      rcases List.mem_cons.mp ((h z).mpr (List.mem_cons_of_mem _ hz)) with q | q
      · omega
      · exact q
theorem all_length {m : Map_} {ks : List Nat} (hn : ks.Nodup) (h : ∀ k, k ∈ ks ↔ isAt m k = true) : ks.length = (all m).length := by
  have e : (all m).length = (nums m).length := by rw [← all_fst, List.length_map]
  rw [e]
  exact ((List.perm_ext_iff_of_nodup hn (nums_nodup m)).mpr fun k => by rw [h, mem_nums]).length_eq
theorem findIdx_none {α : Type} : ∀ (l : List (Option α)) (n : Nat), (∀ j, j < n → (l.getD j none).isSome = true) → (l.getD n none).isSome = false → (l.findIdx? Option.isNone).getD l.length = n
  | [], n, h1, _ => by
    cases n with
    | zero => rfl
    | succ n => have := h1 0 (by omega); simp at this
  | none :: l, n, h1, _ => by
    cases n with
    | zero => rfl
    | succ n => have := h1 0 (by omega); simp at this
  | some c :: l, n, h1, h2 => by
    cases n with
    | zero => simp at h2
    | succ n =>
      have ih := findIdx_none l n (fun j hj => by have := h1 (j + 1) (by omega); simpa using this) (by simpa using h2)
      rw [List.findIdx?_cons]
      show (Option.map (· + 1) (l.findIdx? Option.isNone)).getD (l.length + 1) = n + 1
      cases e : l.findIdx? Option.isNone with
      | none => rw [e] at ih; simp at ih; simp [ih]
      | some i => rw [e] at ih; simp at ih; simp [ih]
theorem slot_eq {α : Type} {l : List (Option α)} {n : Nat} (h1 : ∀ j, j < n → (l.getD j none).isSome = true) (h2 : (l.getD n none).isSome = false) : slot l = n := findIdx_none l n h1 h2
theorem slot_le {α : Type} (l : List (Option α)) : slot l ≤ l.length := by
  unfold slot
  cases e : l.findIdx? Option.isNone with
  | none => exact Nat.le_refl _
  | some i =>
    obtain ⟨h, _⟩ := List.findIdx?_eq_some_iff_getElem.mp e
    exact Nat.le_of_lt h
theorem putIn_get {α : Type} (l : List (Option α)) (x : α) (j : Nat) : (putIn l x).getD j none = if j = slot l then some x else l.getD j none := by
  unfold putIn
  by_cases h : slot l < l.length
  · rw [if_pos h, List.getD_eq_getElem?_getD, List.getElem?_set]
    by_cases e : j = slot l
    · rw [if_pos e, if_pos e.symm, if_pos h]; rfl
    · rw [if_neg e, if_neg (fun z => e z.symm), List.getD_eq_getElem?_getD]
  · have e0 : slot l = l.length := by have := slot_le l; omega
    rw [if_neg h, List.getD_eq_getElem?_getD]
    by_cases e : j = slot l
    · rw [if_pos e, e, e0, List.getElem?_append_right (Nat.le_refl _)]
      simp
    · rw [if_neg e, List.getD_eq_getElem?_getD]
      by_cases q : j < l.length
      · rw [List.getElem?_append_left q]
      · rw [List.getElem?_eq_none (by simp; omega), List.getElem?_eq_none (by omega)]
theorem set_get {α : Type} (l : List (Option α)) (k j : Nat) : (l.set k none).getD j none = if j = k then none else l.getD j none := by
  rw [List.getD_eq_getElem?_getD, List.getElem?_set]
  by_cases e : j = k
  · rw [if_pos e, if_pos e.symm]
    by_cases q : k < l.length
    · rw [if_pos q]; rfl
    · rw [if_neg q]; rfl
  · rw [if_neg e, if_neg (fun z => e z.symm), List.getD_eq_getElem?_getD]
def holds (t : Nat) (x : Span) : Bool := decide (x.2.1 ≤ t) && decide (t < x.2.2)
theorem holds_iff (t : Nat) (x : Span) : holds t x = true ↔ x.2.1 ≤ t ∧ t < x.2.2 := by
  unfold holds
  simp only [Bool.and_eq_true, decide_eq_true_eq]
theorem any_holds (m : Map_) (r t : Nat) : ∀ (l : List Nat) (s : Nat), ((times m s l).any fun x => x.1 == r && decide (x.2.1 ≤ t) && decide (t < x.2.2)) = (match (times m s l).find? (holds t) with
    | none => false
    | some x => x.1 == r)
  | [], _ => rfl
  | q :: l, s => by
    unfold times
    rw [List.any_cons, List.find?_cons]
    cases e : holds t (q, s, s + minutesOf m q) with
    | false =>
      dsimp only
      rw [← any_holds m r t l]
      unfold holds at e
      dsimp only at e
      rw [Bool.and_assoc, e, Bool.and_false, Bool.false_or]
    | true =>
      dsimp only
      have e' := (holds_iff _ _).mp e
      dsimp only at e'
      have e2 : (decide (s ≤ t) && decide (t < s + minutesOf m q)) = true := e
      have no : ((times m (s + minutesOf m q) l).any fun x => x.1 == r && decide (x.2.1 ≤ t) && decide (t < x.2.2)) = false := by
        rw [List.any_eq_false]
        intro x hx
        have := times_ge m l _ x hx
        have h : ¬ x.2.1 ≤ t := by omega
        simp [h]
      rw [no, Bool.or_false, Bool.and_assoc, e2, Bool.and_true]
theorem Run.may {roads : List Road} {x : Load} {u v m : Nat} {vs l : List Nat} (h : Run roads x u vs m l v) : ∀ i ∈ l, ∃ r, roads[i]? = some r ∧ why r x = 0 := by
  induction h with
  | nil => intro i hi; simp at hi
  | cons e _ ih =>
    intro i hi
    rcases List.mem_cons.mp hi with q | q
    · subst q
      obtain ⟨r, h1, h2, _⟩ := e.ex
      exact ⟨r, h1, h2⟩
    · exact ih i q
theorem way_roads {roads : List Road} {x : Load} {n p q : Nat} {z : Path} (R : RoadsOk roads n) (hp : p < n) (h : way roads n x p q = some z) : ∀ i ∈ z.2, i < roads.length := by
  have b := way_best (x := x) (q := q) R hp
  rw [h] at b
  obtain ⟨⟨vs, hr⟩, _⟩ := b
  intro i hi
  obtain ⟨r, h1, _⟩ := hr.may i hi
  exact (List.getElem?_eq_some_iff.mp h1).1
theorem not_needed {roads : List Road} {n p q r : Nat} {y : Load} {x : Road} (R : RoadsOk roads n) (hp : p < n) (h : roads[r]? = some x) (hw : why x y ≠ 0) (s : (way roads n y p q).isSome = true) : (way (roads.set r { x with closed := true }) n y p q).isSome = true := by
  rw [way_closed R hp h]
  obtain ⟨z, vs, hz⟩ := (way_some R hp).mp s
  refine ⟨z, ⟨vs, hz⟩, fun hr => ?_⟩
  obtain ⟨r', h1, h2⟩ := hz.may r hr
  rw [h] at h1
  cases h1
  exact hw h2
end Bend
end
section
namespace Bend
def ar (j : Nat) : Nat := [0, 0, 7, 2, 3, 3, 2, 2, 4, 5, 4, 4, 4, 5, 6, 6, 1, 2, 2, 1, 1, 0].getD j 0
theorem shape_cases {p : Int} {n k : Nat} (h : PyKqv6.shape p = some (n, k)) : k = 0 ∧ ∃ j : Nat, p = (j : Int) ∧ j < 22 ∧ n = ar j := by
  unfold PyKqv6.shape at h
  by_cases h0 : 0 ≤ p ∧ p < 22
  · obtain ⟨j, rfl⟩ : ∃ j : Nat, p = (j : Int) := ⟨p.toNat, by omega⟩
    have hj : j < 22 := by omega
    refine ⟨?_, j, rfl, hj, ?_⟩
    · match j, hj with
      | 0, _ | 1, _ | 2, _ | 3, _ | 4, _ | 5, _ | 6, _ | 7, _ | 8, _ | 9, _ | 10, _ | 11, _ | 12, _ | 13, _ | 14, _ | 15, _ | 16, _ | 17, _ | 18, _ | 19, _ | 20, _ | 21, _ => exact (Prod.mk.inj (Option.some.inj h)).2.symm
      | j + 22, hj => omega
    · match j, hj with
      | 0, _ | 1, _ | 2, _ | 3, _ | 4, _ | 5, _ | 6, _ | 7, _ | 8, _ | 9, _ | 10, _ | 11, _ | 12, _ | 13, _ | 14, _ | 15, _ | 16, _ | 17, _ | 18, _ | 19, _ | 20, _ | 21, _ => exact (Prod.mk.inj (Option.some.inj h)).1.symm
      | j + 22, hj => omega
  · have ne : ∀ k : Int, 0 ≤ k → k < 22 → ¬ p = k := fun k _ _ => by omega
    rw [if_neg (ne 0 (by decide) (by decide)), if_neg (ne 1 (by decide) (by decide)), if_neg (ne 2 (by decide) (by decide)), if_neg (ne 3 (by decide) (by decide)), if_neg (ne 4 (by decide) (by decide)), if_neg (ne 5 (by decide) (by decide)), if_neg (ne 6 (by decide) (by decide)), if_neg (ne 7 (by decide) (by decide)), if_neg (ne 8 (by decide) (by decide)), if_neg (ne 9 (by decide) (by decide)), if_neg (ne 10 (by decide) (by decide)), if_neg (ne 11 (by decide) (by decide)), if_neg (ne 12 (by decide) (by decide)), if_neg (ne 13 (by decide) (by decide)), if_neg (ne 14 (by decide) (by decide)), if_neg (ne 15 (by decide) (by decide)), if_neg (ne 16 (by decide) (by decide)), if_neg (ne 17 (by decide) (by decide)), if_neg (ne 18 (by decide) (by decide)), if_neg (ne 19 (by decide) (by decide)), if_neg (ne 20 (by decide) (by decide)), if_neg (ne 21 (by decide) (by decide))] at h
    cases h
theorem calls_step {f : Nat} {l : List Int} {cs : List (List (List Int))} (h : PyFlat.calls PyKqv6.shape f l = some cs) :
    (l = [] ∧ cs = []) ∨ ∃ (j f' : Nat) (r : List Int) (cs' : List (List (List Int))), l = (j : Int) :: r ∧ j < 22 ∧ ar j ≤ r.length ∧ cs = [(j : Int) :: r.take (ar j)] :: cs' ∧ PyFlat.calls PyKqv6.shape f' (r.drop (ar j)) = some cs' := by
  match f, l, h with
  | _, [], h =>
    unfold PyFlat.calls at h
    exact .inl ⟨rfl, (Option.some.inj h).symm⟩
  | 0, _ :: _, h =>
    unfold PyFlat.calls at h
    cases h
  | f + 1, p :: r, h =>
    right
    unfold PyFlat.calls at h
    unfold PyFlat.call at h
    dsimp only at h
    cases e : PyKqv6.shape p with
    | none => rw [e] at h; cases h
    | some nk =>
      obtain ⟨n, k⟩ := nk
      obtain ⟨rfl, j, rfl, hj, rfl⟩ := shape_cases e
      rw [e] at h
      dsimp only at h
      by_cases hl : r.length < ar j
      · rw [if_pos hl] at h; cases h
      · rw [if_neg hl] at h
        unfold PyFlat.rows at h
        dsimp only at h
        cases e2 : PyFlat.calls PyKqv6.shape f (r.drop (ar j)) with
        | none => rw [e2] at h; cases h
        | some cs' =>
          rw [e2] at h
          exact ⟨j, f, r, cs', rfl, hj, by omega, (Option.some.inj h).symm, e2⟩
def rest (s : Kqv6Neutral.S) (cs : List (List (List Int))) : List Int := PyFlat.told (PyFlat.played Kqv6Neutral.step s (cs.map PyKqv6.whole))
theorem rest_nil (s : Kqv6Neutral.S) : rest s [] = [] := rfl
theorem rest_cons (s : Kqv6Neutral.S) (c : List (List Int)) (cs : List (List (List Int))) :
    rest s (c :: cs) = (((Kqv6Neutral.step s (PyKqv6.whole c)).2.length : Int) :: (Kqv6Neutral.step s (PyKqv6.whole c)).2) ++ rest (Kqv6Neutral.step s (PyKqv6.whole c)).1 cs := by
  show PyFlat.told ((Kqv6Neutral.step s (PyKqv6.whole c)).2 :: PyFlat.played Kqv6Neutral.step (Kqv6Neutral.step s (PyKqv6.whole c)).1 (cs.map PyKqv6.whole)) = _
  unfold PyFlat.told
  rw [List.flatMap_cons]
  rfl
theorem answers_rest {l : List Int} {cs : List (List (List Int))} (h : PyFlat.calls PyKqv6.shape l.length l = some cs) : PyKqv6.answers l = rest Kqv6Neutral.start cs := by
  unfold PyKqv6.answers PyKqv6.calls
  rw [h]
  rfl
theorem asked_of {l : List Int} (h : PyKqv6.answers_asked l = true) : ∃ cs, PyFlat.calls PyKqv6.shape l.length l = some cs ∧ cs.length ≤ 200 ∧ (∀ c ∈ cs, Kqv6Neutral.asked1 (PyKqv6.whole c) = true) ∧ (PyKqv6.answers l).length ≤ 1000200 := by
  unfold PyKqv6.answers_asked at h
  cases e : PyFlat.calls PyKqv6.shape l.length l with
  | none => rw [e] at h; cases h
  | some cs =>
    rw [e] at h
    simp only [Bool.and_eq_true] at h
    obtain ⟨⟨⟨⟨_, h2⟩, _⟩, h4⟩, _⟩ := h
    have h2' : cs.length ≤ 200 := by simpa [PyFlat.atMost] using h2
    unfold Kqv6Neutral.asked at h4
    simp only [Bool.and_eq_true] at h4
    obtain ⟨⟨_, h5, _⟩, h6⟩ := h4
    refine ⟨cs, rfl, h2', fun c hc => List.all_eq_true.mp h5 _ (List.mem_map.mpr ⟨c, hc, rfl⟩), ?_⟩
    rw [answers_rest e]
    have key : ∀ (cs : List (List (List Int))) (s : Kqv6Neutral.S), (rest s cs).length = ((Kqv6Neutral.answersFrom s (cs.map PyKqv6.whole)).map List.length).sum + cs.length := by
      intro cs
      induction cs with
      | nil => intro s; rfl
      | cons c cs ih =>
        intro s
        rw [rest_cons, List.map_cons]
        unfold Kqv6Neutral.answersFrom
        simp only [List.length_append, List.length_cons, List.map_cons, List.sum_cons, ih]
        omega
    have fs : ∀ (l : List Nat) (a : Nat), l.foldl (fun (x y : Nat) => x + y) a = a + l.sum := by
      intro l
      induction l with
      | nil => intro a; simp
      | cons x l ih => intro a; rw [List.foldl_cons, ih, List.sum_cons]; omega
    unfold Kqv6Neutral.few_ at h6
    rw [decide_eq_true_eq, fs] at h6
    rw [key]
    unfold Kqv6Neutral.answers at h6
    omega
theorem asked_nums {j : Nat} {xs : List Int} (hj : j < 22) (hl : xs.length = ar j) (h : Kqv6Neutral.asked1 (PyKqv6.whole [(j : Int) :: xs]) = true) : ∀ x ∈ xs, 0 ≤ x ∧ x ≤ 4294967295 := by
  have nat : ∀ z : Int, Kqv6Neutral.natural z 32 = true → 0 ≤ z ∧ z ≤ 4294967295 := fun z q => by
    unfold Kqv6Neutral.natural at q
    simp only [Bool.and_eq_true, decide_eq_true_eq] at q
    have : (2 : Int) ^ 32 = 4294967296 := by decide
    omega
  have al : ∀ (ys : List Int), ys.foldl (fun o z => o && Kqv6Neutral.natural z 32) true = true → ys.all (fun z => Kqv6Neutral.natural z 32) = true := by
    have gen : ∀ (ys : List Int) (o : Bool), ys.foldl (fun o z => o && Kqv6Neutral.natural z 32) o = (o && ys.all (fun z => Kqv6Neutral.natural z 32)) := by
      intro ys
      induction ys with
      | nil => intro o; simp
      | cons y ys ih => intro o; rw [List.foldl_cons, ih, List.all_cons, Bool.and_assoc]
    intro ys hy
    rw [gen, Bool.true_and] at hy
    exact hy
  have key : xs.all (fun z => Kqv6Neutral.natural z 32) = true := by
    match j, hj, xs, hl, h with
    | 0, _, [], _, _ | 1, _, [], _, _ | 21, _, [], _, _ => rfl
    | 16, _, [a], _, h | 19, _, [a], _, h | 20, _, [a], _, h => exact al _ (by rw [show ([a].foldl (fun o z => o && Kqv6Neutral.natural z 32) true) = (true && Kqv6Neutral.natural a 32) from rfl, Bool.true_and]; exact h)
    | 3, _, [a, b], _, h | 6, _, [a, b], _, h | 7, _, [a, b], _, h | 17, _, [a, b], _, h | 18, _, [a, b], _, h => exact al _ (show (true && Kqv6Neutral.natural a 32 && Kqv6Neutral.natural b 32) = true from (by rw [Bool.true_and]; exact h))
    | 4, _, [a, b, c], _, h | 5, _, [a, b, c], _, h => exact al _ (show (true && Kqv6Neutral.natural a 32 && Kqv6Neutral.natural b 32 && Kqv6Neutral.natural c 32) = true from (by rw [Bool.true_and]; exact h))
    | 8, _, [a, b, c, d], _, h | 10, _, [a, b, c, d], _, h | 11, _, [a, b, c, d], _, h | 12, _, [a, b, c, d], _, h => exact al _ (show (true && Kqv6Neutral.natural a 32 && Kqv6Neutral.natural b 32 && Kqv6Neutral.natural c 32 && Kqv6Neutral.natural d 32) = true from (by rw [Bool.true_and]; exact h))
    | 9, _, [a, b, c, d, e], _, h | 13, _, [a, b, c, d, e], _, h => exact al _ (show (true && Kqv6Neutral.natural a 32 && Kqv6Neutral.natural b 32 && Kqv6Neutral.natural c 32 && Kqv6Neutral.natural d 32 && Kqv6Neutral.natural e 32) = true from (by rw [Bool.true_and]; exact h))
    | 14, _, [a, b, c, d, e, f], _, h | 15, _, [a, b, c, d, e, f], _, h => exact al _ (show (true && Kqv6Neutral.natural a 32 && Kqv6Neutral.natural b 32 && Kqv6Neutral.natural c 32 && Kqv6Neutral.natural d 32 && Kqv6Neutral.natural e 32 && Kqv6Neutral.natural f 32) = true from (by rw [Bool.true_and]; exact h))
    | 2, _, [a, b, c, d, e, f, g], _, h => exact al _ (show (true && Kqv6Neutral.natural a 32 && Kqv6Neutral.natural b 32 && Kqv6Neutral.natural c 32 && Kqv6Neutral.natural d 32 && Kqv6Neutral.natural e 32 && Kqv6Neutral.natural f 32 && Kqv6Neutral.natural g 32) = true from (by rw [Bool.true_and]; exact h))
  exact fun x hx => nat x (List.all_eq_true.mp key x hx)
end Bend
end
section
namespace BP
theorem zL1 : 1 ≤ PySem.sizeLine := by decide
theorem zL2 : 2 ≤ PySem.sizeLine := by decide
end BP
namespace BP
open PySem PySem.Spec PyProof.Rows L2
def top (i : Nat) : Stmt := PySem.Challenge.pw_bendlorries_s01_answers.main.body.getD i (.Pass ⟨0, 0, 0, 0⟩)
abbrev sGreatest : Stmt := top 10
abbrev sRound : Stmt := top 12
abbrev sLongest : Stmt := top 13
abbrev sNarrowest : Stmt := top 14
def CI (mg : Str → Option Value) (x : Str) (z : Int) : Prop := ∃ t, mg x = some (.int z t)
theorem pe_ci {X : Cx} {x : Str} {z : Int} {pos : Pos} (hg : Gl X x) (h : CI X.mg x z) (hd : (x == ("__debug__" : Str)) = false := by decide) : PE X (.Name x pos) (tC (.int z)) := by
  obtain ⟨t, e⟩ := h
  exact pe_glob hg e ⟨t, rfl⟩ hd
section
variable {P : Program} {w : World} {K : PySem.W.Frag} {mg : Str → Option Value} {base : Heap}
def spRound : Sp := fun vs H Q _ => ∃ l a b : Nat, vs = [.int l, .int a, .int b] ∧ l ≤ 300 ∧ a ≤ 200 ∧ b ≤ 200 ∧ Q (.bl (Kqv6.round l a b)) H
theorem scRound : FnScope ["length", "a", "b", "c"] ["length", "a", "b"] (defScope sRound) := ⟨rfl, rfl, rfl, by decide +kernel, rfl, by decide +kernel, by decide +kernel⟩
theorem nat_mul_le {a b m n : Nat} (h1 : a ≤ m) (h2 : b ≤ n) : a * b ≤ m * n := Nat.mul_le_mul h1 h2
theorem sml {z : Int} (h0 : 0 ≤ z) (h : z ≤ 1000000) : -(2 ^ 64) < z ∧ z < 2 ^ 64 := by
  have : (2 : Int) ^ 64 = 18446744073709551616 := by decide
  omega
theorem ok_round {f : Addr} {fd : FuncData} (F : Fun K "goes_round" "goes_round" sRound f fd) : FnOk P w K mg base CX0 1 f fd ["length", "a", "b"] spRound := by
  refine F.ok scRound (fun vs H Q E h => ?_) (fun cdv A outer s H vs Q E hr h => ?_)
  · obtain ⟨l, a, b, rfl, _⟩ := h
    rfl
  · obtain ⟨l, a, b, rfl, hl, ha, hb, k⟩ := h
    have L : -(2 ^ 64) < (l : Int) ∧ (l : Int) < 2 ^ 64 := sml (by omega) (by omega)
    have A' : -(2 ^ 64) < (a : Int) ∧ (a : Int) < 2 ^ 64 := sml (by omega) (by omega)
    have B : -(2 ^ 64) < (b : Int) ∧ (b : Int) < 2 ^ 64 := sml (by omega) (by omega)
    refine ⟨_, pss_cons (ps_set (i := 3) scRound.nd rfl (Or.inl rfl) (pe_op op_sub (pe_op op_sub (pe_op op_mul (pv 0) (pv 0)) (pe_op op_mul (pv 1) (pv 1))) (pe_op op_mul (pv 2) (pv 2))))
      (pss_one (ps_ret (pe_or (pe_cmpR op_le (pv 3) pe_int (nomark _)) (pe_one (pe_cmpR op_le (pe_op op_mul (pe_op op_mul (pv 3) (pv 3)) (pv 3))
        (pe_op op_mul (pe_op op_mul (pe_op op_mul (pe_op op_mul (pe_op op_mul (pe_op op_mul pe_int (pv 1)) (pv 1)) (pv 2)) (pv 2)) (pv 0)) (pv 0)) (nomark _)))))), ?_⟩
    have ec : (l : Int) * l - (a : Int) * a - (b : Int) * b = Bend.rc l a b := by
      unfold Bend.rc
      push_cast
      rfl
    have h1 : l * l ≤ 300 * 300 := nat_mul_le hl hl
    have h2 : a * a ≤ 200 * 200 := nat_mul_le ha ha
    have h3 : b * b ≤ 200 * 200 := nat_mul_le hb hb
    have C : -(2 ^ 64) < Bend.rc l a b ∧ Bend.rc l a b < 2 ^ 64 := by
      have : (2 : Int) ^ 64 = 18446744073709551616 := by decide
      unfold Bend.rc
      omega
    refine ⟨_, rfl, _, rfl, _, _, rfl, rfl, .inl L, _, rfl, _, rfl, _, _, rfl, rfl, .inl A', _, _, rfl, rfl, _, rfl, _, rfl, _, _, rfl, rfl, .inl B, _, _, rfl, rfl, ?_⟩
    refine ⟨_, rfl, _, _, rfl, rfl, _, rfl, ?_⟩
    rw [ec]
    refine ite2 (fun c0 => ?_) (fun c0 => ?_)
    · have e : Kqv6.round l a b = true := (Bend.round_iff l a b).mpr (.inl (of_decide_eq_true c0))
      rw [e] at k
      exact k
    · refine ⟨_, rfl, _, rfl, _, _, rfl, rfl, .inl C, _, rfl, _, _, rfl, rfl, .inr C, _, rfl, _, _, rfl, rfl, .inr A', _, rfl, _, _, rfl, rfl, .inr A', _, rfl, _, _, rfl, rfl, .inr B, _, rfl, _, _, rfl, rfl, .inr B, _, rfl, _, _, rfl, rfl, .inr L, _, rfl, _, _, rfl, rfl, .inr L, _, _, rfl, rfl, ?_⟩
      have e : decide (Bend.rc l a b * Bend.rc l a b * Bend.rc l a b ≤ 27 * (a : Int) * a * b * b * l * l) = Kqv6.round l a b := by
        have q := Bend.round_iff l a b
        have e2 : (27 * (a : Int) * a * b * b * l * l) = ((27 * (a * a) * (b * b) * (l * l) : Nat) : Int) := by
          push_cast
          simp only [Int.mul_assoc]
        rw [e2]
        have c1 : ¬ Bend.rc l a b ≤ 0 := fun z => c0 (decide_eq_true z)
        cases hR : Kqv6.round l a b with
        | true =>
          rw [hR] at q
          rcases q.mp rfl with z | z
          · exact absurd z c1
          · exact decide_eq_true z
        | false =>
          rw [hR] at q
          exact decide_eq_false fun z => by have := q.mpr (.inr z); cases this
      rw [← e] at k
      exact k
end
end BP
end
section
namespace BP
open PySem PySem.Spec PyProof.Rows L2
open PySem.W (CodeHd)
section
variable {P : Program} {w : World} {K : PySem.W.Frag} {mg : Str → Option Value} {base : Heap}
def Tells (P : Program) (w : World) (K : PySem.W.Frag) (mg : Str → Option Value) (base : Heap) (kf : Nat) (J : Hp → Prop) (f : Addr) (n : Nat) (g : Nat → Bool) : Prop :=
  ∃ (fd : FuncData) (ps : List Str) (spf : Sp), FnOk P w K mg base CX0 kf f fd ps spf ∧ Binds K fd ps [] ∧ ∀ H1, J H1 → FunAt K H1 f ∧ ∀ (z : Nat) (Q' : VK), z ≤ n → (∀ H2, J H2 → Q' (.bl (g z)) H2) → spf [.int z] H1 Q' E0
def spGreatest (P : Program) (w : World) (K : PySem.W.Frag) (mg : Str → Option Value) (base : Heap) (kf : Nat) : Sp := fun vs H Q _ => ∃ (n : Nat) (f : Addr) (g : Nat → Bool) (J : Hp → Prop), vs = [.int n, .ref f] ∧ n ≤ 1000 ∧ g 0 = true ∧
  (∀ i j, i ≤ j → g j = true → g i = true) ∧ J H ∧ Tells P w K mg base kf J f n g ∧ ∀ H', J H' → ∀ r : Nat, Bend.Greatest n g r → Q (.int r) H'
theorem scGreatest : FnScope ["limit", "will_do", "low", "high", "middle"] ["limit", "will_do"] (defScope sGreatest) := ⟨rfl, rfl, rfl, by decide +kernel, rfl, by decide +kernel, by decide +kernel⟩
theorem ok_greatest {f : Addr} {fd : FuncData} {kf : Nat} (F : Fun K "greatest" "greatest" sGreatest f fd) : FnOk P w K mg base CX0 (kf + 1) f fd ["limit", "will_do"] (spGreatest P w K mg base kf) := by
  refine F.ok scGreatest (fun vs H Q E h => ?_) (fun cdv A outer s H vs Q E hr h => ?_)
  · obtain ⟨n, f, g, J, rfl, _⟩ := h
    rfl
  · obtain ⟨n, fl, g, J, rfl, hn, g0, gm, hJ, ⟨fdl, psl, spl, FL, bl, tl⟩, k⟩ := h
    refine ⟨_, pss_cons (ps_set (i := 2) scGreatest.nd rfl (Or.inl rfl) pe_int) (pss_cons (ps_set (i := 3) scGreatest.nd rfl (Or.inl rfl) (pv 0))
      (pss_cons (ps_while PassesOwn.never (pt_cmpR op_lt (pv 2) (pv 3) (nomark _))
        (pss_cons (ps_set (i := 4) scGreatest.nd rfl (Or.inl rfl) (pe_op op_fdiv (pe_op op_add (pe_op op_add (pv 2) (pv 3)) pe_int) pe_int))
          (pss_one (ps_if (pt_val (pe_callL (pv 1) (pa_cons (pv 4) pa_nil))) (pss_one (ps_set (i := 2) scGreatest.nd rfl (Or.inl rfl) (pv 4))) (pss_one (ps_set (i := 3) scGreatest.nd rfl (Or.inl rfl) (pe_op op_sub (pv 4) pe_int)))))))
      (pss_one (ps_ret (pv 2))))), ?_⟩
    refine ⟨_, rfl, ?_⟩
    refine ⟨fun m σ H => ∃ (lo hi : Nat) (v4 : Option V), m = hi - lo ∧ σ = [some (.int n), some (.ref fl), some (.int lo), some (.int hi), v4] ∧ J H ∧ lo ≤ hi ∧ hi ≤ n ∧ g lo = true ∧ ∀ k, hi < k → k ≤ n → g k = false,
      ⟨_, 0, n, none, rfl, rfl, hJ, Nat.zero_le _, Nat.le_refl _, g0, fun k h1 h2 => by omega⟩, ?_⟩
    rintro m σ H' ⟨lo, hi, v4, rfl, rfl, hJ', hle, hin, hlo, hhi⟩
    refine ⟨_, rfl, _, rfl, _, _, rfl, rfl, _, rfl, ite2 (fun c => ?_) (fun c => ?_)⟩
    · have hlt : lo < hi := by have := of_decide_eq_true c; omega
      refine ⟨fun σ' H2 => ∃ (lo' hi' : Nat) (v4 : Option V), hi' - lo' < hi - lo ∧ σ' = [some (.int n), some (.ref fl), some (.int lo'), some (.int hi'), v4] ∧ J H2 ∧ lo' ≤ hi' ∧ hi' ≤ n ∧ g lo' = true ∧ ∀ k, hi' < k → k ≤ n → g k = false,
        fun σ' H2 ⟨lo', hi', v4', q1, q2, q3⟩ => ⟨_, q1, lo', hi', v4', rfl, q2, q3⟩, ?_⟩
      refine ⟨_, rfl, _, rfl, _, _, rfl, rfl, _, _, rfl, rfl, _, _, rfl, rfl, ⟨by decide, by decide⟩, ?_⟩
      obtain ⟨mi, hmi⟩ : ∃ mi : Nat, ((lo : Int) + hi + 1) / 2 = (mi : Int) := ⟨((lo : Int) + hi + 1).toNat / 2, by omega⟩
      have hm1 : lo < mi := by omega
      have hm2 : mi ≤ hi := by omega
      show gName 4 (V.int (((lo : Int) + hi + 1) / 2)) _ _ _
      rw [hmi]
      refine ⟨_, rfl, fl, rfl, _, rfl, (tl H' hJ').1, kf, fdl, psl, spl, FL, hr, bl, (tl H' hJ').2 mi _ (by omega) fun H2 hJ2 => ?_⟩
      refine ⟨_, rfl, ite2 (fun c => ?_) (fun c => ?_)⟩
      · exact ⟨_, rfl, mi, hi, _, by omega, rfl, hJ2, hm2, hin, c, hhi⟩
      · refine ⟨_, rfl, _, _, rfl, rfl, lo, mi - 1, some (.int mi), by omega, ?_, hJ2, by omega, by omega, hlo, fun k h1 h2 => ?_⟩
        · have e : ((mi : Int) - 1) = ((mi - 1 : Nat) : Int) := by omega
          show [some (V.int n), some (V.ref fl), some (V.int lo), some (V.int ((mi : Int) - 1)), some (V.int mi)] = _
          rw [e]
        · cases e : g k with
          | false => rfl
          | true => exact absurd (gm mi k (by omega) e) c
    · have he : lo = hi := by
        have : ¬ (lo : Int) < hi := fun z => c (decide_eq_true z)
        omega
      subst he
      exact ⟨_, rfl, k H' hJ' lo ⟨hin, hlo, hhi⟩⟩
abbrev lamLongest : Expr := match defBody sLongest with
  | [.Return (some (.Call _ [_, e] _ _)) _] => e
  | _ => .Constant .none 0 ⟨0, 0, 0, 0⟩
def lamArgs (e : Expr) : Arguments := match e with
  | .Lambda a _ _ _ => a
  | _ => { posonlyargs := [], args := [], vararg := none, kwonlyargs := [], kw_defaults := [], kwarg := none, defaults := [] }
def lamBody (e : Expr) : Expr := match e with
  | .Lambda _ b _ _ => b
  | e => e
def lamScope (e : Expr) : Scope := match e with
  | .Lambda _ _ sc _ => sc
  | _ => { kind := .function, names := [], isGenerator := false, isCoroutine := false }
def lamPos (e : Expr) : Pos := match e with
  | .Lambda _ _ _ p => p
  | _ => ⟨0, 0, 0, 0⟩
def SameT (Ps : List Addr) (H H' : Hp) : Prop := ∀ b o, H b = some o → b ∉ Ps → H' b = some o
def qLongest : Str := Str.ofString "longest_rod" ++ ".<locals>." ++ "<lambda>"
def spLongest (PL : Addr) : Sp := fun vs H Q _ => ∃ a b : Nat, vs = [.int a, .int b] ∧ a ≤ 200 ∧ b ≤ 200 ∧ LamTab H PL (lamPos lamLongest) qLongest ∧ ∀ H', LamTab H' PL (lamPos lamLongest) qLongest → SameT [PL] H H' → Q (.int (Kqv6.longest a b)) H'
theorem scLongest : FnScope ["a", "b"] ["a", "b"] (defScope sLongest) := ⟨rfl, rfl, rfl, by decide +kernel, rfl, by decide +kernel, by decide +kernel⟩
structure FunC (K : PySem.W.Frag) (x qual : Str) (st : Stmt) (f : Addr) (fd : FuncData) (c : Addr) : Prop where
  ex : ∃ (oc : Value) (od : Option Addr) (kV doc pm : Value) (an : Option Addr) (ct : Value) (osl : Array (Option Value)),
    fd = PySem.W.fnOf x qual (defArgs st) (defBody st) (defScope st) .none kV doc pm an (.ref c) ct ∧ K.lookup f = some ⟨oc, od, .func fd, osl⟩ ∧ PySem.W.codeIn K (.ref c) qual = true
  kp : PySem.W.keepIn K (.ref f) = true
theorem FunC.toFun {x qual : Str} {st : Stmt} {f c : Addr} {fd : FuncData} (F : FunC K x qual st f fd c) : Fun K x qual st f fd := by
  obtain ⟨oc, od, kV, doc, pm, an, ct, osl, e, l, cd⟩ := F.ex
  exact ⟨⟨oc, od, kV, doc, pm, an, .ref c, ct, osl, e, l, cd⟩, F.kp⟩
theorem FunC.ok {x qual : Str} {st : Stmt} {f c : Addr} {fd : FuncData} {N ps : List Str} {k : Nat} {sp : Sp} (F : FunC K x qual st f fd c) (S : FnScope N ps (defScope st)) (len : ∀ vs H Q E, sp vs H Q E → vs.length = ps.length)
    (hbody : ∀ (A : Around) (outer : List Env) (s : Shared) (H : Hp) (vs : List V) (Q : VK) (E : XK), Room k (A.deeper (envOfC qual (defScope st) s.heap.objs.size f (.ref c))) → sp vs H Q E →
      ∃ t, PSs (cxOf CX0 P w K mg base N qual (defScope st) f (.ref c) A outer s H E).nox (defBody st) t ∧ t { nx := fun _ H' => Q .non H', rt := Q } (start N vs) H) : FnOk P w K mg base CX0 (k + 1) f fd ps sp := by
  obtain ⟨oc, od, kV, doc, pm, an, ct, osl, rfl, lk, hcd⟩ := F.ex
  refine fn_of lk hcd S len fun A outer s H vs Q E hr hsp => ?_
  obtain ⟨t, h, q⟩ := hbody A outer s H vs Q E hr hsp
  exact ⟨t, h.nox, q⟩
theorem ok_longest {f fG fR c PL : Addr} {fd fdG fdR : FuncData} (F : FunC K "longest_rod" "longest_rod" sLongest f fd c) (CH : CodeHd base c PL) (BM : BMain mg base) (FG : Fun K "greatest" "greatest" sGreatest fG fdG) (mG : mg "greatest" = some (.ref fG)) (bG : Binds K fdG ["limit", "will_do"] [])
    (FR : Fun K "goes_round" "goes_round" sRound fR fdR) (mR : mg "goes_round" = some (.ref fR)) (bR : Binds K fdR ["length", "a", "b"] []) (mL : CI mg "MOST_LONG" 300) :
    FnOk P w K mg base CX0 4 f fd ["a", "b"] (spLongest PL) := by
  have GR : FnOk P w K mg base CX0 1 fR fdR ["length", "a", "b"] spRound := ok_round FR
  have GG : FnOk P w K mg base CX0 3 fG fdG ["limit", "will_do"] (spGreatest P w K mg base 2) := ok_greatest FG
  refine F.ok scLongest (fun vs H Q E h => ?_) (fun A outer s H vs Q E hr h => ?_)
  · obtain ⟨a, b, rfl, _⟩ := h
    rfl
  · obtain ⟨a, b, rfl, ha, hb, hT, k⟩ := h
    have hcs : OwnCells (cxOf CX0 P w K mg base ["a", "b"] "longest_rod" (defScope sLongest) f (.ref c) A outer s H E).nox [s.heap.objs.size + 1, s.heap.objs.size + 2] := fun x hx => by
      have hx : x = s.heap.objs.size + 1 ∨ x = s.heap.objs.size + 2 := by simpa using hx
      rcases hx with rfl | rfl
      · exact ⟨"a", rfl, rfl⟩
      · exact ⟨"b", rfl, rfl⟩
    refine ⟨_, pss_one (ps_ret (pe_callZ (cs := [s.heap.objs.size + 1, s.heap.objs.size + 2]) hcs GG hr rfl mG FG.kp bG (pa_cons (pe_ci rfl mL) (pa_cons (pe_lam (c := c) (P := PL) (clos := [("b", s.heap.objs.size + 2), ("a", s.heap.objs.size + 1)]) (qual := qLongest) rfl CH BM rfl rfl rfl) pa_nil)))), ?_⟩
    refine ⟨hT, fun fl H1 nfl hLam hT1 same Hf hF => ?_⟩
    obtain ⟨pm, c', ctv, oc, l1, l2, l3⟩ := hLam
    have eH : strip [s.heap.objs.size + 1, s.heap.objs.size + 2] Hf = H1 := by
      funext x
      by_cases hx : x ∈ [s.heap.objs.size + 1, s.heap.objs.size + 2]
      · rw [strip_in hx, hF.on x hx]
      · rw [strip_out hx, hF.off x hx]
    have nn : ∀ x o, H1 x = some o → x ∉ [s.heap.objs.size + 1, s.heap.objs.size + 2] := fun x o e hx => by rw [hF.on x hx] at e; cases e
    have f1 : Hf fl = _ := (hF.off fl (nn _ _ l1)).trans l1
    have f2 : Hf c' = _ := (hF.off c' (nn _ _ l2)).trans l2
    obtain ⟨oa, ua, a1, a2, a3⟩ := hF.cell 0 "a" (.int a) (s.heap.objs.size + 1) rfl rfl rfl rfl (by simp)
    obtain ⟨ob, ub, b1, b2, b3⟩ := hF.cell 1 "b" (.int b) (s.heap.objs.size + 2) rfl rfl rfl rfl (by simp)
    have cz : CellsAt Hf [s.heap.objs.size + 1, s.heap.objs.size + 2] [("b", s.heap.objs.size + 2), ("a", s.heap.objs.size + 1)] ["a", "b"] [.int a, .int b] := by
      refine ⟨fun x d h => ?_, fun x hx => ?_, fun j x v h1 h2 => ?_, rfl⟩
      · have m := PySem.mem_of_lookup h
        have m : (x = "b" ∧ d = s.heap.objs.size + 2) ∨ (x = "a" ∧ d = s.heap.objs.size + 1) := by simpa using m
        rcases m with ⟨rfl, rfl⟩ | ⟨rfl, rfl⟩
        · exact ⟨by simp, ob, _, b1, b2⟩
        · exact ⟨by simp, oa, _, a1, a2⟩
      · have hx : x = s.heap.objs.size + 1 ∨ x = s.heap.objs.size + 2 := by simpa using hx
        rcases hx with rfl | rfl
        · exact ⟨"a", rfl⟩
        · exact ⟨"b", rfl⟩
      · match j, h1, h2 with
        | 0, h1, h2 =>
          obtain rfl : ("a" : Str) = x := Option.some.inj h1
          obtain rfl : V.int a = v := Option.some.inj h2
          exact ⟨_, oa, ua, rfl, a1, a2, a3⟩
        | 1, h1, h2 =>
          obtain rfl : ("b" : Str) = x := Option.some.inj h1
          obtain rfl : V.int b = v := Option.some.inj h2
          exact ⟨_, ob, ub, rfl, b1, b2, b3⟩
        | j + 2, h1, _ => simp at h1
    have SL : LamScope "length" ["a", "b"] [("b", s.heap.objs.size + 2), ("a", s.heap.objs.size + 1)] (lamScope lamLongest) := by
      refine ⟨rfl, rfl, rfl, rfl, by decide +kernel, by decide +kernel, fun x h => ?_, fun x y d h1 h2 => ?_⟩
      · have m := PySem.mem_of_lookup h
        have m : (x, NameKind.free) ∈ ([("length", .local), ("a", .free), ("b", .free), ("goes_round", .globalImplicit)] : List (Str × NameKind)) := m
        have m : x = "a" ∨ x = "b" := by simpa using m
        rcases m with rfl | rfl
        · exact ⟨_, rfl⟩
        · exact ⟨_, rfl⟩
      · have m1 := PySem.mem_of_lookup h1
        have m2 := PySem.mem_of_lookup h2
        have m1 : (x = "b" ∧ d = s.heap.objs.size + 2) ∨ (x = "a" ∧ d = s.heap.objs.size + 1) := by simpa using m1
        have m2 : (y = "b" ∧ d = s.heap.objs.size + 2) ∨ (y = "a" ∧ d = s.heap.objs.size + 1) := by simpa using m2
        rcases m1 with ⟨rfl, e1⟩ | ⟨rfl, e1⟩ <;> rcases m2 with ⟨rfl, e2⟩ | ⟨rfl, e2⟩
        · rfl
        · exact absurd (e1.symm.trans e2) (by intro z; have : s.heap.objs.size + 2 = s.heap.objs.size + 1 := z; omega)
        · exact absurd (e1.symm.trans e2) (by intro z; have : s.heap.objs.size + 1 = s.heap.objs.size + 2 := z; omega)
        · rfl
    let spl : Sp := fun vs H2 Q' _ => ∃ z : Nat, vs = [.int z] ∧ z ≤ 300 ∧ H2 = Hf ∧ Q' (.bl (Kqv6.round z a b)) Hf
    have FL : FnOk P w K mg base CX0 2 fl (PySem.W.kla_fn "<lambda>" qLongest (lamArgs lamLongest) (lamBody lamLongest) (lamScope lamLongest) [("b", s.heap.objs.size + 2), ("a", s.heap.objs.size + 1)] pm (.ref c') ctv) ["length"] spl := by
      refine fn_lam (cs := [s.heap.objs.size + 1, s.heap.objs.size + 2]) (fvs := ["a", "b"]) (fvals := [.int a, .int b]) (oc := oc) SL l3 (fun vs H Q E ⟨z, e, _⟩ => by rw [e]; rfl) (fun vs H Q E ⟨z, _, _, e, _⟩ => by rw [e]; exact ⟨f1, f2, cz⟩) fun A' outer' s' H2 vs Q' E' hr' h' => ?_
      obtain ⟨z, rfl, hz, rfl, q⟩ := h'
      refine ⟨_, pe_call GR hr' rfl mR FR.kp bR .nil pass0 (pa_cons (pv 0) (pa_cons (pv 1) (pa_cons (pv 2) pa_nil))), ?_⟩
      refine ⟨_, rfl, _, rfl, _, rfl, z, a, b, rfl, hz, ha, hb, ?_⟩
      have e2 : refroze [s.heap.objs.size + 1, s.heap.objs.size + 2] H2 (strip [s.heap.objs.size + 1, s.heap.objs.size + 2] H2) = H2 := by
        funext x
        unfold refroze
        by_cases hx : x ∈ [s.heap.objs.size + 1, s.heap.objs.size + 2]
        · rw [if_pos hx]
        · rw [if_neg hx, strip_out hx]
      show Q' _ (refroze _ _ _)
      rw [e2]
      exact q
    refine ⟨300, fl, fun l => Kqv6.round l a b, fun H2 => H2 = Hf, rfl, by decide, Bend.round_zero a b, fun i j hij hj => Bend.round_mono hij hj, rfl, ⟨_, ["length"], spl, FL, .all (fun us hl => match us, hl with | [_], _ => rfl), fun H2 e => ?_⟩, fun H' e r hr => ?_⟩
    · rw [e]
      exact ⟨.inr ⟨_, _, _, f1, rfl⟩, fun z Q' hz hq => ⟨z, rfl, hz, rfl, hq Hf rfl⟩⟩
    · rw [e]
      show Q (V.int r) (strip _ Hf)
      rw [eH, hr.uniq (Bend.longest_greatest a b)]
      exact k H1 hT1 fun x o e hx => same x o e (by simpa using hx)
end
end BP
end
section
namespace BP
open PySem PySem.Spec PyProof.Rows L2
abbrev cLoad : Stmt := top 21
abbrev cRoad : Stmt := top 22
abbrev cNet : Stmt := top 23
abbrev cStretch : Stmt := top 31
abbrev cConvoy : Stmt := top 32
abbrev sLoadInit : Stmt := inClass cLoad 0
abbrev sLoadTold : Stmt := inClass cLoad 1
abbrev sRoadInit : Stmt := inClass cRoad 0
abbrev sHasBend : Stmt := inClass cRoad 1
abbrev sWhyNot : Stmt := inClass cRoad 2
abbrev sNetInit : Stmt := inClass cNet 0
abbrev sHasPlaces : Stmt := inClass cNet 1
abbrev sHasRoad : Stmt := inClass cNet 2
abbrev sHasConvoy : Stmt := inClass cNet 3
structure ClsA (K : PySem.W.Frag) (C : Addr) (ns : List Str) : Prop where
  cl : Cls K C
  no : ∀ f ∈ ns, NoAttr K C f
def lf (x : Kqv6.Load) : List (Str × V) := [("length", .int x.long), ("height", .int x.high), ("weight", .int x.heavy)]
def rf (r : Kqv6.Road) : List (Str × V) := [("p", .int r.p), ("q", .int r.q), ("minutes", .int r.minutes), ("high", .int r.high), ("heavy", .int r.heavy), ("a", .int r.a), ("b", .int r.b), ("closed", .bl r.closed)]
def nf (n : Nat) (l d : Addr) : List (Str × V) := [("places", .int n), ("roads", .ref l), ("convoys", .ref d)]
def LoadAt (C : Addr) (H : Hp) (a : Addr) (x : Kqv6.Load) : Prop := ∃ dx, H a = some (.ins C dx (lf x))
def RoadAt (C : Addr) (H : Hp) (a : Addr) (r : Kqv6.Road) : Prop := ∃ dx, H a = some (.ins C dx (rf r))
abbrev nsLoad : List Str := ["length", "height", "weight"]
abbrev nsRoad : List Str := ["p", "q", "minutes", "high", "heavy", "a", "b", "closed"]
abbrev nsNet : List Str := ["places", "roads", "convoys"]
section
variable {P : Program} {w : World} {K : PySem.W.Frag} {mg : Str → Option Value} {base : Heap}
def spLoadInit (C : Addr) : Sp := fun vs H Q _ => ∃ (p dx : Addr) (x : Kqv6.Load), vs = [.ref p, .int x.long, .int x.high, .int x.heavy] ∧ H p = some (.ins C dx []) ∧ ∀ H' : Hp, LoadAt C H' p x → (∀ b o, H b = some o → b ≠ p → H' b = some o) → Q .non H'
theorem scLoadInit : FnScope ["self", "length", "height", "weight"] ["self", "length", "height", "weight"] (defScope sLoadInit) := ⟨rfl, rfl, rfl, by decide +kernel, rfl, by decide +kernel, by decide +kernel⟩
theorem ok_loadInit {f C : Addr} {fd : FuncData} (F : Fun K "__init__" "Load.__init__" sLoadInit f fd) (T : ClsA K C nsLoad) : FnOk P w K mg base CX0 1 f fd ["self", "length", "height", "weight"] (spLoadInit C) := by
  refine F.ok scLoadInit (fun vs H Q E h => ?_) (fun cdv A outer s H vs Q E hr h => ?_)
  · obtain ⟨p, dx, x, rfl, _⟩ := h
    rfl
  · obtain ⟨p, dx, x, rfl, hp, k⟩ := h
    refine ⟨_, pss_cons (ps_fld (pv 0) (pv 1) rfl) (pss_cons (ps_fld (pv 0) (pv 2) rfl) (pss_one (ps_fld (pv 0) (pv 3) rfl))), ?_⟩
    refine ⟨_, rfl, _, rfl, p, C, dx, [], rfl, hp, T.cl, T.no _ (by simp), (by show 0 < 1000; decide), ?_⟩
    refine ⟨_, rfl, _, rfl, p, C, dx, _, rfl, upd_same, T.cl, T.no _ (by simp), (by show 1 < 1000; decide), ?_⟩
    refine ⟨_, rfl, _, rfl, p, C, dx, _, rfl, upd_same, T.cl, T.no _ (by simp), (by show 2 < 1000; decide), ?_⟩
    exact k _ ⟨dx, upd_same⟩ fun b o e hb => by rw [upd_ne hb, upd_ne hb, upd_ne hb]; exact e
def spLoadTold (C : Addr) : Sp := fun vs H Q _ => ∃ (a : Addr) (x : Kqv6.Load), vs = [.ref a] ∧ LoadAt C H a x ∧ Q (.bl (Kqv6.okLoad x)) H
theorem scLoadTold : FnScope ["self"] ["self"] (defScope sLoadTold) := ⟨rfl, rfl, rfl, by decide +kernel, rfl, by decide +kernel, by decide +kernel⟩
theorem dec_cast (a b : Nat) : decide ((a : Int) ≤ (b : Int)) = decide (a ≤ b) := by
  by_cases h : a ≤ b
  · rw [decide_eq_true h, decide_eq_true (by omega)]
  · rw [decide_eq_false h, decide_eq_false (by omega)]
theorem ok_loadTold {f C : Addr} {fd : FuncData} (F : Fun K "is_as_told" "Load.is_as_told" sLoadTold f fd) (T : ClsA K C nsLoad) (m1 : CI mg "MOST_LONG" 300) (m2 : CI mg "MOST_HIGH" 100) (m3 : CI mg "MOST_HEAVY" 1000) : FnOk P w K mg base CX0 1 f fd ["self"] (spLoadTold C) := by
  refine F.ok scLoadTold (fun vs H Q E h => ?_) (fun cdv A outer s H vs Q E hr h => ?_)
  · obtain ⟨a, x, rfl, _⟩ := h
    rfl
  · obtain ⟨a, x, rfl, ⟨dx, h1⟩, k⟩ := h
    refine ⟨_, pss_one (ps_ret (pe_and (pe_cmpR op_le (pe_fld (pv 0) rfl) (pe_ci rfl m1) (nomark _)) (pe_and (pe_cmpR op_le (pe_fld (pv 0) rfl) (pe_ci rfl m2) (nomark _)) (pe_one (pe_cmpR op_le (pe_fld (pv 0) rfl) (pe_ci rfl m3) (nomark _)))))), ?_⟩
    have e : Kqv6.okLoad x = (decide ((x.long : Int) ≤ 300) && decide ((x.high : Int) ≤ 100) && decide ((x.heavy : Int) ≤ 1000)) := by
      rw [show (300 : Int) = ((300 : Nat) : Int) from rfl, show (100 : Int) = ((100 : Nat) : Int) from rfl, show (1000 : Int) = ((1000 : Nat) : Int) from rfl, dec_cast, dec_cast, dec_cast]
      rfl
    rw [e] at k
    refine ⟨_, rfl, a, C, dx, _, _, rfl, h1, T.cl, T.no _ (by simp), rfl, _, _, rfl, rfl, _, rfl, ite2 (fun c => ?_) (fun c => ?_)⟩
    · refine ⟨_, rfl, a, C, dx, _, _, rfl, h1, T.cl, T.no _ (by simp), rfl, _, _, rfl, rfl, _, rfl, ite2 (fun c2 => ?_) (fun c2 => ?_)⟩
      · refine ⟨_, rfl, a, C, dx, _, _, rfl, h1, T.cl, T.no _ (by simp), rfl, _, _, rfl, rfl, ?_⟩
        rw [c, c2, Bool.true_and, Bool.true_and] at k
        exact k
      · rw [c, Bool.eq_false_iff.mpr c2, Bool.true_and, Bool.false_and] at k
        exact k
    · rw [Bool.eq_false_iff.mpr c, Bool.false_and, Bool.false_and] at k
      exact k
def spRoadInit (C : Addr) : Sp := fun vs H Q _ => ∃ (x dx : Addr) (r : Kqv6.Road), r.closed = false ∧ vs = [.ref x, .int r.p, .int r.q, .int r.minutes, .int r.high, .int r.heavy, .int r.a, .int r.b] ∧ H x = some (.ins C dx []) ∧ ∀ H' : Hp, RoadAt C H' x r → (∀ b o, H b = some o → b ≠ x → H' b = some o) → Q .non H'
theorem scRoadInit : FnScope ["self", "p", "q", "minutes", "high", "heavy", "a", "b"] ["self", "p", "q", "minutes", "high", "heavy", "a", "b"] (defScope sRoadInit) := ⟨rfl, rfl, rfl, by decide +kernel, rfl, by decide +kernel, by decide +kernel⟩
theorem ok_roadInit {f C : Addr} {fd : FuncData} (F : Fun K "__init__" "Road.__init__" sRoadInit f fd) (T : ClsA K C nsRoad) : FnOk P w K mg base CX0 1 f fd ["self", "p", "q", "minutes", "high", "heavy", "a", "b"] (spRoadInit C) := by
  refine F.ok scRoadInit (fun vs H Q E h => ?_) (fun cdv A outer s H vs Q E hr h => ?_)
  · obtain ⟨x, dx, r, _, rfl, _⟩ := h
    rfl
  · obtain ⟨x, dx, r, hc, rfl, hp, k⟩ := h
    refine ⟨_, pss_cons (ps_fld (pv 0) (pv 1) rfl) (pss_cons (ps_fld (pv 0) (pv 2) rfl) (pss_cons (ps_fld (pv 0) (pv 3) rfl) (pss_cons (ps_fld (pv 0) (pv 4) rfl) (pss_cons (ps_fld (pv 0) (pv 5) rfl) (pss_cons (ps_fld (pv 0) (pv 6) rfl) (pss_cons (ps_fld (pv 0) (pv 7) rfl) (pss_one (ps_fld (pv 0) pe_bl rfl)))))))), ?_⟩
    refine ⟨_, rfl, _, rfl, x, C, dx, [], rfl, hp, T.cl, T.no _ (by simp), (by show 0 < 1000; decide), ?_⟩
    refine ⟨_, rfl, _, rfl, x, C, dx, _, rfl, upd_same, T.cl, T.no _ (by simp), (by show 1 < 1000; decide), ?_⟩
    refine ⟨_, rfl, _, rfl, x, C, dx, _, rfl, upd_same, T.cl, T.no _ (by simp), (by show 2 < 1000; decide), ?_⟩
    refine ⟨_, rfl, _, rfl, x, C, dx, _, rfl, upd_same, T.cl, T.no _ (by simp), (by show 3 < 1000; decide), ?_⟩
    refine ⟨_, rfl, _, rfl, x, C, dx, _, rfl, upd_same, T.cl, T.no _ (by simp), (by show 4 < 1000; decide), ?_⟩
    refine ⟨_, rfl, _, rfl, x, C, dx, _, rfl, upd_same, T.cl, T.no _ (by simp), (by show 5 < 1000; decide), ?_⟩
    refine ⟨_, rfl, _, rfl, x, C, dx, _, rfl, upd_same, T.cl, T.no _ (by simp), (by show 6 < 1000; decide), ?_⟩
    refine ⟨_, rfl, x, C, dx, _, rfl, upd_same, T.cl, T.no _ (by simp), (by show 7 < 1000; decide), ?_⟩
    refine k _ ⟨dx, Eq.trans upd_same ?_⟩ fun b o e hb => by rw [upd_ne hb, upd_ne hb, upd_ne hb, upd_ne hb, upd_ne hb, upd_ne hb, upd_ne hb, upd_ne hb]; exact e
    unfold rf
    rw [hc]
    rfl
def spHasBend (C : Addr) : Sp := fun vs H Q _ => ∃ (a : Addr) (r : Kqv6.Road), vs = [.ref a] ∧ RoadAt C H a r ∧ Q (.bl (r.a != 0 || r.b != 0)) H
theorem scHasBend : FnScope ["self"] ["self"] (defScope sHasBend) := ⟨rfl, rfl, rfl, by decide +kernel, rfl, by decide +kernel, by decide +kernel⟩
theorem dec_pos (a : Nat) : decide ((0 : Int) < (a : Int)) = (a != 0) := by
  by_cases h : a = 0
  · subst h; rfl
  · rw [decide_eq_true (by omega)]
    exact (bne_iff_ne.mpr h).symm
theorem ok_hasBend {f C : Addr} {fd : FuncData} (F : Fun K "has_bend" "Road.has_bend" sHasBend f fd) (T : ClsA K C nsRoad) : FnOk P w K mg base CX0 1 f fd ["self"] (spHasBend C) := by
  refine F.ok scHasBend (fun vs H Q E h => ?_) (fun cdv A outer s H vs Q E hr h => ?_)
  · obtain ⟨a, x, rfl, _⟩ := h
    rfl
  · obtain ⟨a, r, rfl, ⟨dx, h1⟩, k⟩ := h
    refine ⟨_, pss_one (ps_ret (pe_or (pe_cmpR op_gt (pe_fld (pv 0) rfl) pe_int (nomark _)) (pe_one (pe_cmpR op_gt (pe_fld (pv 0) rfl) pe_int (nomark _))))), ?_⟩
    rw [← dec_pos, ← dec_pos] at k
    refine ⟨_, rfl, a, C, dx, _, _, rfl, h1, T.cl, T.no _ (by simp), rfl, _, _, rfl, rfl, _, rfl, ite2 (fun c => ?_) (fun c => ?_)⟩
    · rw [c, Bool.true_or] at k
      exact k
    · refine ⟨_, rfl, a, C, dx, _, _, rfl, h1, T.cl, T.no _ (by simp), rfl, _, _, rfl, rfl, ?_⟩
      rw [Bool.eq_false_iff.mpr c, Bool.false_or] at k
      exact k
end
end BP
end
section
namespace BP
open PySem PySem.Spec PyProof.Rows L2
section
variable {P : Program} {w : World} {K : PySem.W.Frag} {mg : Str → Option Value} {base : Heap}
def spWhy (CR CL : Addr) : Sp := fun vs H Q _ => ∃ (a l : Addr) (r : Kqv6.Road) (x : Kqv6.Load), vs = [.ref a, .ref l] ∧ RoadAt CR H a r ∧ LoadAt CL H l x ∧ r.a ≤ 200 ∧ r.b ≤ 200 ∧ x.long ≤ 300 ∧ Q (.int (Kqv6.why r x)) H
theorem scWhy : FnScope ["self", "load"] ["self", "load"] (defScope sWhyNot) := ⟨rfl, rfl, rfl, by decide +kernel, rfl, by decide +kernel, by decide +kernel⟩
theorem ok_why {f CR CL fB fR : Addr} {fd fdB fdR : FuncData} (F : Fun K "why_not" "Road.why_not" sWhyNot f fd) (TR : ClsA K CR nsRoad) (TL : ClsA K CL nsLoad) (FB : Fun K "has_bend" "Road.has_bend" sHasBend fB fdB) (mB : Meth K CR "has_bend" fB) (bB : Binds K fdB ["self"] [])
    (FR : Fun K "goes_round" "goes_round" sRound fR fdR) (mR : mg "goes_round" = some (.ref fR)) (bR : Binds K fdR ["length", "a", "b"] [])
    (c0 : CI mg "MAY_GO" 0) (c1 : CI mg "TOO_HIGH" 1) (c2 : CI mg "TOO_HEAVY" 2) (c3 : CI mg "NOT_ROUND" 3) (c4 : CI mg "IS_CLOSED" 4) : FnOk P w K mg base CX0 2 f fd ["self", "load"] (spWhy CR CL) := by
  have GB : FnOk P w K mg base CX0 1 fB fdB ["self"] (spHasBend CR) := ok_hasBend FB TR
  have GR : FnOk P w K mg base CX0 1 fR fdR ["length", "a", "b"] spRound := ok_round FR
  refine F.ok scWhy (fun vs H Q E h => ?_) (fun cdv A outer s H vs Q E hr h => ?_)
  · obtain ⟨a, l, r, x, rfl, _⟩ := h
    rfl
  · obtain ⟨a, l, r, x, rfl, ⟨dr, h1⟩, ⟨dl, h2⟩, ha, hb, hx, k⟩ := h
    refine ⟨_, pss_cons (ps_if (pt_val (pe_fld (pv 0) rfl)) (pss_one (ps_ret (pe_ci rfl c4))) pss_nil)
      (pss_cons (ps_if (pt_cmpR op_gt (pe_fld (pv 1) rfl) (pe_fld (pv 0) rfl) (nomark _)) (pss_one (ps_ret (pe_ci rfl c1))) pss_nil)
      (pss_cons (ps_if (pt_cmpR op_gt (pe_fld (pv 1) rfl) (pe_fld (pv 0) rfl) (nomark _)) (pss_one (ps_ret (pe_ci rfl c2))) pss_nil)
      (pss_cons (ps_if (PW.pt (pw_and (pt_val (pe_meth0 (pv 0) TR.cl mB GB hr bB .nil pass0)) (pw_and1 (pt_not (pt_val (pe_call GR hr rfl mR FR.kp bR .nil pass0 (pa_cons (pe_fld (pv 1) rfl) (pa_cons (pe_fld (pv 0) rfl) (pa_cons (pe_fld (pv 0) rfl) pa_nil))))))))) (pss_one (ps_ret (pe_ci rfl c3))) pss_nil)
      (pss_one (ps_ret (pe_ci rfl c0)))))), ?_⟩
    unfold Kqv6.why at k
    refine ⟨_, rfl, a, CR, dr, _, _, rfl, h1, TR.cl, TR.no _ (by simp), rfl, _, rfl, ite2 (fun q => ?_) (fun q => ?_)⟩
    · rw [if_pos q] at k
      exact k
    rw [if_neg q] at k
    refine ⟨_, rfl, l, CL, dl, _, _, rfl, h2, TL.cl, TL.no _ (by simp), rfl, _, rfl, a, CR, dr, _, _, rfl, h1, TR.cl, TR.no _ (by simp), rfl, _, _, rfl, rfl, _, rfl, ite2 (fun q => ?_) (fun q => ?_)⟩
    · rw [if_pos (by have := of_decide_eq_true q; omega)] at k
      exact k
    rw [if_neg (fun z => q (decide_eq_true (by omega)))] at k
    refine ⟨_, rfl, l, CL, dl, _, _, rfl, h2, TL.cl, TL.no _ (by simp), rfl, _, rfl, a, CR, dr, _, _, rfl, h1, TR.cl, TR.no _ (by simp), rfl, _, _, rfl, rfl, _, rfl, ite2 (fun q => ?_) (fun q => ?_)⟩
    · rw [if_pos (by have := of_decide_eq_true q; omega)] at k
      exact k
    rw [if_neg (fun z => q (decide_eq_true (by omega)))] at k
    refine ⟨_, rfl, a, dr, _, rfl, h1, rfl, a, r, rfl, ⟨dr, h1⟩, _, rfl, ite2 (fun q => ?_) (fun q => ?_)⟩
    · refine ⟨_, rfl, l, CL, dl, _, _, rfl, h2, TL.cl, TL.no _ (by simp), rfl, _, rfl, a, CR, dr, _, _, rfl, h1, TR.cl, TR.no _ (by simp), rfl, _, rfl, a, CR, dr, _, _, rfl, h1, TR.cl, TR.no _ (by simp), rfl, x.long, r.a, r.b, rfl, hx, ha, hb, _, rfl, ite2 (fun q2 => ?_) (fun q2 => ?_)⟩
      · rw [if_pos (by rw [q, q2]; rfl)] at k
        exact k
      · rw [if_neg (by rw [q, Bool.true_and]; exact q2)] at k
        exact k
    · refine iteF ?_
      rw [if_neg (by rw [Bool.eq_false_iff.mpr q]; simp)] at k
      exact k
def NetD (C : Addr) (H : Hp) (a : Addr) (n : Nat) (l d : Addr) : Prop := ∃ dx, H a = some (.ins C dx (nf n l d))
def NetAt (C : Addr) (H : Hp) (a : Addr) (n : Nat) (l : Addr) : Prop := ∃ d, NetD C H a n l d
structure RoadsAt (C : Addr) (H : Hp) (l : Addr) (as : List Addr) (rs : List Kqv6.Road) : Prop where
  lst : H l = some (.lst (as.map V.ref))
  nd : as.Nodup
  len : as.length = rs.length
  at_ : ∀ (j : Nat) (a : Addr) (r : Kqv6.Road), as[j]? = some a → rs[j]? = some r → RoadAt C H a r
def spNetInit (C : Addr) : Sp := fun vs H Q _ => ∃ (p dx : Addr), vs = [.ref p] ∧ H p = some (.ins C dx []) ∧ ∀ (H' : Hp) (l d : Addr), H l = none → H d = none → NetD C H' p 0 l d → H' l = some (.lst []) → H' d = some (.dK []) → (∀ b o, H b = some o → b ≠ p → H' b = some o) → Q .non H'
theorem scNetInit : FnScope ["self"] ["self"] (defScope sNetInit) := ⟨rfl, rfl, rfl, by decide +kernel, rfl, by decide +kernel, by decide +kernel⟩
theorem ok_netInit {f C : Addr} {fd : FuncData} (F : Fun K "__init__" "Network.__init__" sNetInit f fd) (T : ClsA K C nsNet) : FnOk P w K mg base CX0 1 f fd ["self"] (spNetInit C) := by
  refine F.ok scNetInit (fun vs H Q E h => ?_) (fun cdv A outer s H vs Q E hr h => ?_)
  · obtain ⟨p, dx, rfl, _⟩ := h
    rfl
  · obtain ⟨p, dx, rfl, hp, k⟩ := h
    refine ⟨_, pss_cons (ps_fld (pv 0) pe_int rfl) (pss_cons (ps_fld (pv 0) (pe_lst pa_nil) rfl) (pss_one (ps_fld (pv 0) pe_dnewK rfl))), ?_⟩
    refine ⟨_, rfl, p, C, dx, [], rfl, hp, T.cl, T.no _ (by simp), (by show 0 < 1000; decide), ?_⟩
    refine ⟨Nat.zero_le _, fun l hl => ?_⟩
    have npl : p ≠ l := ne_of_none upd_same hl
    refine ⟨_, rfl, p, C, dx, _, rfl, Eq.trans (upd_ne npl) upd_same, T.cl, T.no _ (by simp), (by show 1 < 1000; decide), ?_⟩
    refine fun d hd => ?_
    have npd : p ≠ d := ne_of_none upd_same hd
    have nld : l ≠ d := ne_of_none (by rw [upd_ne npl.symm, upd_same]) hd
    refine ⟨_, rfl, p, C, dx, _, rfl, Eq.trans (upd_ne npd) upd_same, T.cl, T.no _ (by simp), (by show 2 < 1000; decide), ?_⟩
    have hl0 : H l = none := by rw [upd_ne npl.symm] at hl; exact hl
    have hd0 : H d = none := by rw [upd_ne npd.symm, upd_ne nld.symm, upd_ne npd.symm] at hd; exact hd
    refine k _ l d hl0 hd0 ⟨dx, upd_same⟩ ?_ ?_ fun b o e hb => ?_
    · rw [upd_ne npl.symm, upd_ne nld, upd_ne npl.symm, upd_same]
    · rw [upd_ne npd.symm, upd_same]
    · rw [upd_ne hb, upd_ne (ne_of_none e hd0), upd_ne hb, upd_ne (ne_of_none e hl0), upd_ne hb]
      exact e
def spHasConvoy (C : Addr) : Sp := fun vs H Q _ => ∃ (a l d : Addr) (n k : Nat) (kvs : List (Key × V)), vs = [.ref a, .int k] ∧ NetD C H a n l d ∧ H d = some (.dK kvs) ∧ Q (.bl (valV kvs (Sum.inl (k : Int))).isSome) H
theorem scHasConvoy : FnScope ["self", "k"] ["self", "k"] (defScope sHasConvoy) := ⟨rfl, rfl, rfl, by decide +kernel, rfl, by decide +kernel, by decide +kernel⟩
theorem ok_hasConvoy {f C : Addr} {fd : FuncData} (F : Fun K "has_convoy" "Network.has_convoy" sHasConvoy f fd) (T : ClsA K C nsNet) : FnOk P w K mg base CX0 1 f fd ["self", "k"] (spHasConvoy C) := by
  refine F.ok scHasConvoy (fun vs H Q E h => ?_) (fun cdv A outer s H vs Q E hr h => ?_)
  · obtain ⟨a, l, d, n, k, kvs, rfl, _⟩ := h
    rfl
  · obtain ⟨a, l, d, n, k, kvs, rfl, ⟨dx, h1⟩, hd, q⟩ := h
    have hu := hu_of hr
    refine ⟨_, pss_one (ps_ret (pe_cmp (pc_din hu (pv 1) (pe_fld (pv 0) rfl)))), ?_⟩
    exact ⟨_, rfl, _, rfl, a, C, dx, _, _, rfl, h1, T.cl, T.no _ (by simp), rfl, d, _, rfl, DGet.k (k := Sum.inl (k : Int)) hd, q⟩
def spHasPlaces (C : Addr) : Sp := fun vs H Q _ => ∃ (a l : Addr) (n p q : Nat), vs = [.ref a, .int p, .int q] ∧ NetAt C H a n l ∧ Q (.bl (decide (p < n) && decide (q < n))) H
theorem scHasPlaces : FnScope ["self", "p", "q"] ["self", "p", "q"] (defScope sHasPlaces) := ⟨rfl, rfl, rfl, by decide +kernel, rfl, by decide +kernel, by decide +kernel⟩
theorem dec_lt (a b : Nat) : decide ((a : Int) < (b : Int)) = decide (a < b) := by
  by_cases h : a < b
  · rw [decide_eq_true h, decide_eq_true (by omega)]
  · rw [decide_eq_false h, decide_eq_false (by omega)]
theorem ok_hasPlaces {f C : Addr} {fd : FuncData} (F : Fun K "has_places" "Network.has_places" sHasPlaces f fd) (T : ClsA K C nsNet) : FnOk P w K mg base CX0 1 f fd ["self", "p", "q"] (spHasPlaces C) := by
  refine F.ok scHasPlaces (fun vs H Q E h => ?_) (fun cdv A outer s H vs Q E hr h => ?_)
  · obtain ⟨a, l, n, p, q, rfl, _⟩ := h
    rfl
  · obtain ⟨a, l, n, p, q, rfl, ⟨dd, dx, h1⟩, k⟩ := h
    refine ⟨_, pss_one (ps_ret (pe_and (pe_cmpR op_lt (pv 1) (pe_fld (pv 0) rfl) (nomark _)) (pe_one (pe_cmpR op_lt (pv 2) (pe_fld (pv 0) rfl) (nomark _))))), ?_⟩
    rw [← dec_lt, ← dec_lt] at k
    refine ⟨_, rfl, _, rfl, a, C, dx, _, _, rfl, h1, T.cl, T.no _ (by simp), rfl, _, _, rfl, rfl, _, rfl, ite2 (fun c => ?_) (fun c => ?_)⟩
    · refine ⟨_, rfl, _, rfl, a, C, dx, _, _, rfl, h1, T.cl, T.no _ (by simp), rfl, _, _, rfl, rfl, ?_⟩
      rw [c, Bool.true_and] at k
      exact k
    · rw [Bool.eq_false_iff.mpr c, Bool.false_and] at k
      exact k
def spHasRoad (C : Addr) : Sp := fun vs H Q _ => ∃ (a l : Addr) (n r : Nat) (xs : List V), vs = [.ref a, .int r] ∧ NetAt C H a n l ∧ H l = some (.lst xs) ∧ Q (.bl (decide (r < xs.length))) H
theorem scHasRoad : FnScope ["self", "r"] ["self", "r"] (defScope sHasRoad) := ⟨rfl, rfl, rfl, by decide +kernel, rfl, by decide +kernel, by decide +kernel⟩
theorem ok_hasRoad {f C : Addr} {fd : FuncData} (F : Fun K "has_road" "Network.has_road" sHasRoad f fd) (T : ClsA K C nsNet) (mlen : mg "len" = none) : FnOk P w K mg base CX0 1 f fd ["self", "r"] (spHasRoad C) := by
  refine F.ok scHasRoad (fun vs H Q E h => ?_) (fun cdv A outer s H vs Q E hr h => ?_)
  · obtain ⟨a, l, n, r, xs, rfl, _⟩ := h
    rfl
  · obtain ⟨a, l, n, r, xs, rfl, ⟨dd, dx, h1⟩, hl, k⟩ := h
    refine ⟨_, pss_one (ps_ret (pe_cmpR op_lt (pv 1) (pe_callB call_len_seq (by rfl) mlen PySem.boot_len (pa_cons (pe_fld (pv 0) rfl) pa_nil)) (nomark _))), ?_⟩
    rw [← dec_lt] at k
    exact ⟨_, rfl, _, rfl, a, C, dx, _, _, rfl, h1, T.cl, T.no _ (by simp), rfl, l, xs, rfl, .inl (SqL.of hl), _, _, rfl, rfl, k⟩
def spNarrow : Sp := fun vs H Q _ => ∃ l a : Nat, vs = [.int l, .int a] ∧ l ≤ 300 ∧ a ≤ 200 ∧ Q (match Kqv6.narrowest l a with | none => .non | some b => .int b) H
theorem scNarrow : FnScope ["length", "a", "b"] ["length", "a"] (defScope sNarrowest) := ⟨rfl, rfl, rfl, by decide +kernel, rfl, by decide +kernel, by decide +kernel⟩
theorem find_range {g : Nat → Bool} : ∀ (n m : Nat), (∀ k, k < n → g k = false) → n ≤ m → (List.range m).find? g = ((List.range (m - n)).map (fun k => n + k)).find? g := by
  intro n m h hn
  have e : List.range m = List.range n ++ (List.range (m - n)).map (fun k => n + k) := by
    rw [← List.range_add, Nat.add_sub_cancel' hn]
  have e2 : (List.range n).find? g = none := List.find?_eq_none.mpr fun x hx => by rw [h x (List.mem_range.mp hx)]; decide
  rw [e, List.find?_append, e2]
  rfl
theorem ok_narrow {f fR : Addr} {fd fdR : FuncData} (F : Fun K "narrowest_width" "narrowest_width" sNarrowest f fd) (FR : Fun K "goes_round" "goes_round" sRound fR fdR) (mR : mg "goes_round" = some (.ref fR)) (bR : Binds K fdR ["length", "a", "b"] []) (mW : CI mg "MOST_WIDE" 200) (mrange : mg "range" = none) :
    FnOk P w K mg base CX0 2 f fd ["length", "a"] spNarrow := by
  have GR : FnOk P w K mg base CX0 1 fR fdR ["length", "a", "b"] spRound := ok_round FR
  refine F.ok scNarrow (fun vs H Q E h => ?_) (fun cdv A outer s H vs Q E hr h => ?_)
  · obtain ⟨l, a, rfl, _⟩ := h
    rfl
  · obtain ⟨l, a, rfl, hl, ha, k⟩ := h
    refine ⟨_, pss_cons (ps_for PassesOwn.never rfl (pi_range1 rfl mrange (pa_cons (pe_op op_add (pe_ci rfl mW) pe_int) pa_nil)) (pg_name (i := 2) scNarrow.nd rfl (Or.inl rfl))
      (pss_one (ps_if (pt_val (pe_call GR hr rfl mR FR.kp bR .nil pass0 (pa_cons (pv 0) (pa_cons (pv 1) (pa_cons (pv 2) pa_nil))))) (pss_one (ps_ret (pv 2))) pss_nil))) (pss_one (ps_ret pe_non)), ?_⟩
    refine ⟨_, _, rfl, rfl, 201, rfl, by decide, by decide, for_range (n := 201) (fun i σ H' => H' = H ∧ (∃ v2 : Option V, σ = [some (.int l), some (.int a), v2]) ∧ ∀ j, j < i → Kqv6.round l a j = false) ⟨rfl, ⟨none, rfl⟩, fun j hj => by omega⟩ ?_ ?_⟩
    · rintro i σ H' hi ⟨rfl, ⟨v2, rfl⟩, hno⟩
      refine ⟨_, rfl, _, rfl, _, rfl, l, a, i, ?_, hl, ha, by omega, _, rfl, ite2 (fun c => ?_) (fun c => ?_)⟩
      · show [V.int l, V.int a, V.int ((0 : Int) + i)] = _
        rw [Int.zero_add]
      · refine ⟨_, rfl, ?_⟩
        have e : Kqv6.narrowest l a = some i := by
          unfold Kqv6.narrowest
          rw [find_range i 201 hno (by omega)]
          obtain ⟨m, hm⟩ : ∃ m, 201 - i = m + 1 := ⟨200 - i, by omega⟩
          rw [hm, List.range_succ_eq_map, List.map_cons, List.find?_cons]
          show (match Kqv6.round l a (i + 0) with | true => some (i + 0) | false => _) = _
          rw [Nat.add_zero, c]
        rw [e] at k
        show Q (V.int ((0 : Int) + i)) _
        rw [Int.zero_add]
        exact k
      · refine ⟨rfl, ⟨_, rfl⟩, fun j hj => ?_⟩
        by_cases q : j = i
        · subst q; exact Bool.eq_false_iff.mpr c
        · exact hno j (by omega)
    · rintro σ H' ⟨rfl, ⟨v2, rfl⟩, hno⟩
      have e : Kqv6.narrowest l a = none := by
        unfold Kqv6.narrowest
        exact List.find?_eq_none.mpr fun x hx => by rw [hno x (List.mem_range.mp hx)]; decide
      rw [e] at k
      exact k
end
end BP
end
section
namespace BP
open PySem PySem.Spec PyProof.Rows L2
open Bend (Lab gain relax)
abbrev sTry : Stmt := top 40
def leV (m1 c1 : Int) (ns : List Int) (m2 c2 : Int) (ms : List Int) : Bool := if m1 = m2 then (if c1 = c2 then LC.lexLe ns ms else decide (c1 ≤ c2)) else decide (m1 ≤ m2)
def rLeP (K : PySem.W.Frag) : R2 := fun x y H Q => ∃ (a b : Addr) (m1 c1 : Int) (l1 : Addr) (ns : List Int) (m2 c2 : Int) (l2 : Addr) (ms : List Int), x = .ref a ∧ y = .ref b ∧ SqT K H a [.int m1, .int c1, .ref l1] ∧ SqT K H b [.int m2, .int c2, .ref l2] ∧
  SqL K H l1 (ns.map V.int) ∧ SqL K H l2 (ms.map V.int) ∧ Q (.bl (leV m1 c1 ns m2 c2 ms)) H
theorem lexLe_refl : ∀ ns : List Int, LC.lexLe ns ns = true
  | [] => rfl
  | x :: xs => by
    show (if x = x then LC.lexLe xs xs else _) = true
    rw [if_pos rfl]
    exact lexLe_refl xs
theorem op_leP {X : Cx} (hu : X.A.units + 64 < cLine) : OpR X (compareOp .LtE) (rLeP X.K) := by
  intro pins s σ H x y v u Q I rx ry h
  obtain ⟨a, b, m1, c1, l1, ns, m2, c2, l2, ms, rfl, rfl, ha, hb, hn, hm, q⟩ := h
  cases rx
  cases ry
  obtain ⟨its, r1, p1, _⟩ := I.tuple ha
  obtain ⟨its2, r2, p2, _⟩ := I.tuple hb
  obtain ⟨xs, rn, pn, _⟩ := I.list hn
  obtain ⟨ys, rm, pm, _⟩ := I.list hm
  have i1 : IntsAre xs.toArray.toList ns := intsAre_of rn
  have i2 : IntsAre ys.toArray.toList ms := intsAre_of rm
  cases r1 with
  | cons e1 r1 => cases r1 with
    | cons e2 r1 => cases r1 with
      | cons e3 r1 =>
        cases r1
        cases r2 with
        | cons f1 r2 => cases r2 with
          | cons f2 r2 => cases r2 with
            | cons f3 r2 =>
              cases r2
              obtain ⟨t1, rfl⟩ := e1
              obtain ⟨t2, rfl⟩ := e2
              cases e3
              obtain ⟨u1, rfl⟩ := f1
              obtain ⟨u2, rfl⟩ := f2
              cases f3
              refine LC.le_tup p1 p2 rfl (v := leV m1 c1 ns m2 c2 ms) (fun A' hA' => ?_) (by omega) ⟨.bl _, H, I, rfl, q⟩
              show LC.CmpLe A' s [(.int m1 t1, .int m2 u1), (.int c1 t2, .int c2 u2), (.ref l1, .ref l2)] _
              unfold leV
              obtain ⟨g1, h1, k1⟩ := LC.eqAt_int A' s m1 t1 m2 u1
              cases g1 with
              | false =>
                rw [if_neg (fun z => absurd (k1.mpr z) (by decide))]
                exact .diff h1 (LC.LeAt.int A' s m1 t1 m2 u1)
              | true =>
                rw [if_pos (k1.mp rfl)]
                refine .same h1 ?_
                obtain ⟨g2, h2, k2⟩ := LC.eqAt_int A' s c1 t2 c2 u2
                cases g2 with
                | false =>
                  rw [if_neg (fun z => absurd (k2.mpr z) (by decide))]
                  exact .diff h2 (LC.LeAt.int A' s c1 t2 c2 u2)
                | true =>
                  rw [if_pos (k2.mp rfl)]
                  refine .same h2 ?_
                  obtain ⟨g3, h3, k3⟩ := LC.eqAt_lists (A := A') pn.isList pm.isList i1 i2 (by omega)
                  cases g3 with
                  | false => exact .diff h3 (LC.LeAt.lists pn.isList pm.isList i1 i2 (by omega))
                  | true =>
                    obtain rfl := k3.mp rfl
                    rw [lexLe_refl]
                    exact .same h3 .nil
theorem lexLe_before : ∀ {a b : List Nat}, a.length = b.length → LC.lexLe (a.map fun (i : Nat) => (i : Int)) (b.map fun (i : Nat) => (i : Int)) = !Kqv6.before b a
  | [], [], _ => rfl
  | x :: a, y :: b, h => by
    have ih := lexLe_before (a := a) (b := b) (by simpa using h)
    show (if (x : Int) = (y : Int) then LC.lexLe _ _ else decide ((x : Int) ≤ (y : Int))) = !(decide (y < x) || (y == x && Kqv6.before b a))
    rw [ih]
    by_cases e : x = y
    · subst e
      rw [if_pos rfl, decide_eq_false (Nat.lt_irrefl x), Bool.false_or, beq_self_eq_true, Bool.true_and]
    · rw [if_neg (fun z => e (by omega)), (beq_eq_false_iff_ne.mpr (fun z => e z.symm) : (y == x) = false), Bool.false_and, Bool.or_false]
      by_cases g : y < x
      · rw [decide_eq_true g, decide_eq_false (by omega)]; rfl
      · rw [decide_eq_false g, decide_eq_true (by omega)]; rfl
theorem leV_le (x y : Kqv6.Path) : leV x.1 x.2.length (x.2.map fun (i : Nat) => (i : Int)) y.1 y.2.length (y.2.map fun (i : Nat) => (i : Int)) = !Kqv6.better y x := by
  unfold leV
  by_cases e1 : x.1 = y.1
  · rw [if_pos (by omega)]
    by_cases e2 : x.2.length = y.2.length
    · rw [if_pos (by omega), lexLe_before e2]
      unfold Kqv6.better
      rw [e1, e2, decide_eq_false (Nat.lt_irrefl _), decide_eq_false (Nat.lt_irrefl _), beq_self_eq_true, beq_self_eq_true]
      simp
    · rw [if_neg (by omega)]
      unfold Kqv6.better
      rw [e1, decide_eq_false (Nat.lt_irrefl _), beq_self_eq_true, (beq_eq_false_iff_ne.mpr (fun z => e2 z.symm) : (y.2.length == x.2.length) = false)]
      simp only [Bool.false_or, Bool.true_and, Bool.false_and, Bool.or_false]
      by_cases g : y.2.length < x.2.length
      · rw [decide_eq_true g, decide_eq_false (by omega)]; rfl
      · rw [decide_eq_false g, decide_eq_true (by omega)]; rfl
  · rw [if_neg (by omega)]
    unfold Kqv6.better
    rw [(beq_eq_false_iff_ne.mpr (fun z => e1 z.symm) : (y.1 == x.1) = false), Bool.false_and, Bool.or_false]
    by_cases g : y.1 < x.1
    · rw [decide_eq_true g, decide_eq_false (by omega)]; rfl
    · rw [decide_eq_false g, decide_eq_true (by omega)]; rfl
def pl (l : List Nat) : List V := (l.map fun (i : Nat) => (i : Int)).map V.int
def PathAt (H : Hp) (t : Addr) (z : Kqv6.Path) : Prop := ∃ l, H t = some (.tup [.int z.1, .int z.2.length, .ref l]) ∧ H l = some (.lst (pl z.2))
structure BestAt (H : Hp) (d : Addr) (L : Lab) (B : Nat) : Prop where
  ex : ∃ kvs : List (Key × V), H d = some (.dK kvs) ∧ kvs.length ≤ B + 1 ∧ (∀ v : Nat, L v = none → valV kvs (Sum.inl (v : Int)) = none) ∧ (∀ (v : Nat) (z : Kqv6.Path), L v = some z → ∃ t, valV kvs (Sum.inl (v : Int)) = some (.ref t) ∧ PathAt H t z)
  short : ∀ v z, L v = some z → z.2.length ≤ B
def SameB (d : Addr) (H H' : Hp) : Prop := ∀ b o, H b = some o → b ≠ d → H' b = some o
theorem PathAt.keep {H H' : Hp} {d t : Addr} {z : Kqv6.Path} {kvs : List (Key × V)} (h : PathAt H t z) (hd : H d = some (.dK kvs)) (k : SameB d H H') : PathAt H' t z := by
  obtain ⟨l, h1, h2⟩ := h
  exact ⟨l, k t _ h1 (ne_of h1 hd (by intro q; cases q)), k l _ h2 (ne_of h2 hd (by intro q; cases q))⟩
section
variable {P : Program} {w : World} {K : PySem.W.Frag} {mg : Str → Option Value} {base : Heap}
def spTry : Sp := fun vs H Q _ => ∃ (d : Addr) (u v i t B : Nat) (L : Lab), vs = [.ref d, .int u, .int v, .int i, .int t] ∧ BestAt H d L B ∧ B ≤ 100000 ∧
  ∀ H', BestAt H' d (relax L u v i t) (B + 1) → SameB d H H' → Q (.bl (gain L u v i t).isSome) H'
theorem scTry : FnScope ["best", "here", "there", "r", "minutes", "so_far", "longer"] ["best", "here", "there", "r", "minutes"] (defScope sTry) := ⟨rfl, rfl, rfl, by decide +kernel, rfl, by decide +kernel, by decide +kernel⟩
theorem ok_try {f : Addr} {fd : FuncData} (F : Fun K "try_road" "try_road" sTry f fd) : FnOk P w K mg base CX0 1 f fd ["best", "here", "there", "r", "minutes"] spTry := by
  refine F.ok scTry (fun vs H Q E h => ?_) (fun cdv A outer s H vs Q E hr h => ?_)
  · obtain ⟨d, u, v, i, t, B, L, rfl, _⟩ := h
    rfl
  · obtain ⟨d, u, v, i, t, B, L, rfl, hB, hBB, k⟩ := h
    have hu := hu_of hr
    refine ⟨_, pss_cons (ps_if (pt_cmp (pc_dnotin hu (pv 1) (pv 0))) (pss_one (ps_ret pe_bl)) pss_nil)
      (pss_cons (ps_set (i := 5) scTry.nd rfl (Or.inl rfl) (pe_dget hu (pv 0) (pv 1) (fun _ _ => rfl)))
      (pss_cons (ps_set (i := 6) scTry.nd rfl (Or.inl rfl) (pe_tup (pa_cons (pe_op op_add (pe_ix ix_tup (pv 5) pe_int (fun _ _ => rfl)) (pv 4)) (pa_cons (pe_op op_add (pe_ix ix_tup (pv 5) pe_int (fun _ _ => rfl)) pe_int)
        (pa_cons (pe_op op_cat (pe_ix ix_tup (pv 5) pe_int (fun _ _ => rfl)) (pe_lst (pa_cons (pv 3) pa_nil))) pa_nil)))))
      (pss_cons (ps_if (PW.pt (pw_and (pt_cmp (pc_din hu (pv 2) (pv 0))) (pw_and1 (pt_cmpR (op_leP hr.units) (pe_dget hu (pv 0) (pv 2) (fun _ _ => rfl)) (pv 6) (nomark _))))) (pss_one (ps_ret pe_bl)) pss_nil)
      (pss_cons (ps_dput hu (pv 0) (pv 2) (pv 6) rfl) (pss_one (ps_ret pe_bl)))))), ?_⟩
    obtain ⟨kvs, hd, hlen, hnone, hsome⟩ := hB.ex
    have up : ∀ {L' : Lab} {H' : Hp}, BestAt H' d L' B → BestAt H' d L' (B + 1) := fun h => by
      obtain ⟨kvs, a, b, c, e⟩ := h.ex
      exact ⟨⟨kvs, a, by omega, c, e⟩, fun v z q => Nat.le_succ_of_le (h.short v z q)⟩
    have big : B + 3 < sizeLine := Nat.lt_of_le_of_lt (show B + 3 ≤ 200000 by omega) (by decide)
    cases hu' : L u with
    | none =>
      have g : gain L u v i t = none := by unfold gain; rw [hu']
      have e : relax L u v i t = L := Bend.relax_none g
      refine ⟨_, rfl, _, rfl, d, _, rfl, DGet.k (k := Sum.inl (u : Int)) hd, _, rfl, ?_⟩
      rw [hnone u hu']
      refine iteT ?_
      have := k H (by rw [e]; exact up hB) (fun b o e _ => e)
      rw [g] at this
      exact this
    | some z =>
      obtain ⟨t0, hv0, l0, ht0, hl0⟩ := hsome u z hu'
      refine ⟨_, rfl, _, rfl, d, _, rfl, DGet.k (k := Sum.inl (u : Int)) hd, _, rfl, ?_⟩
      rw [hv0]
      refine iteF ?_
      refine ⟨_, rfl, _, rfl, d, .ref t0, rfl, by rw [← hv0]; exact DGet.k (k := Sum.inl (u : Int)) hd, ?_⟩
      refine ⟨_, rfl, t0, _, _, _, rfl, rfl, SqT.of ht0, rfl, _, rfl, _, _, rfl, rfl, ?_⟩
      refine ⟨_, rfl, t0, _, _, _, rfl, rfl, SqT.of ht0, rfl, _, _, rfl, rfl, ?_⟩
      refine ⟨_, rfl, t0, _, _, _, rfl, rfl, SqT.of ht0, rfl, _, rfl, zL1, fun la hla => ?_⟩
      have n1 : l0 ≠ la := ne_of_none hl0 hla
      refine ⟨l0, la, _, _, rfl, rfl, Eq.trans (upd_ne n1) hl0, upd_same, ?_, fun lb hlb => ⟨(by show 3 ≤ sizeLine; decide), fun tp htp => ?_⟩⟩
      · have := hB.short u z hu'
        show (pl z.2).length + 1 ≤ sizeLine
        unfold pl
        rw [List.length_map, List.length_map]
        omega
      have eL : pl (Bend.ext z t i).2 = pl z.2 ++ [V.int i] := by
        show ((z.2 ++ [i]).map _).map _ = _
        rw [List.map_append, List.map_append]
        rfl
      have eN : (((Bend.ext z t i).2.length : Nat) : Int) = (z.2.length : Int) + 1 := by
        show (((z.2 ++ [i]).length : Nat) : Int) = _
        rw [List.length_append]
        rfl
      have same3 : ∀ b o, H b = some o → upd (upd (upd H la (.lst [V.int i])) lb (.lst (pl z.2 ++ [V.int i]))) tp (.tup [V.int ((z.1 : Int) + t), V.int ((z.2.length : Int) + 1), V.ref lb]) b = some o := fun b o e => by
        have b1 : upd H la (.lst [V.int i]) b = some o := by rw [upd_ne (ne_of_none e hla)]; exact e
        have b2 : upd (upd H la (.lst [V.int i])) lb (.lst (pl z.2 ++ [V.int i])) b = some o := by rw [upd_ne (ne_of_none b1 hlb)]; exact b1
        rw [upd_ne (ne_of_none b2 htp)]
        exact b2
      have hP3 : PathAt (upd (upd (upd H la (.lst [V.int i])) lb (.lst (pl z.2 ++ [V.int i]))) tp (.tup [V.int ((z.1 : Int) + t), V.int ((z.2.length : Int) + 1), V.ref lb])) tp (Bend.ext z t i) := by
        refine ⟨lb, ?_, ?_⟩
        · rw [upd_same, eN]
          rfl
        · rw [upd_ne (ne_of_none upd_same htp), upd_same, eL]
      have hd3 := same3 d _ hd
      show gName 6 (V.ref tp) _ (upd (upd (upd H la (.lst [V.int i])) lb (.lst (pl z.2 ++ [V.int i]))) tp (.tup [V.int ((z.1 : Int) + t), V.int ((z.2.length : Int) + 1), V.ref lb])) _
      generalize upd (upd (upd H la (.lst [V.int i])) lb (.lst (pl z.2 ++ [V.int i]))) tp (.tup [V.int ((z.1 : Int) + t), V.int ((z.2.length : Int) + 1), V.ref lb]) = H3 at same3 hP3 hd3 ⊢
      have fin : gain L u v i t = some (Bend.ext z t i) → Q (.bl true) (upd H3 d (.dK (putK kvs (Sum.inl (v : Int)) (.ref tp)))) := fun g => by
        have e : relax L u v i t = Bend.put L v (Bend.ext z t i) := by unfold relax; rw [g]
        have s4 : SameB d H3 (upd H3 d (.dK (putK kvs (Sum.inl (v : Int)) (.ref tp)))) := fun b o e hb => by rw [upd_ne hb]; exact e
        have kk := k (upd H3 d (.dK (putK kvs (Sum.inl (v : Int)) (.ref tp)))) ?_ (fun b o e hb => by rw [upd_ne hb]; exact same3 b o e)
        · rw [g] at kk
          exact kk
        · rw [e]
          refine ⟨⟨_, upd_same, ?_, fun v' h' => ?_, fun v' z' h' => ?_⟩, fun v' z' h' => ?_⟩
          · have := length_putK kvs (Sum.inl (v : Int)) (.ref tp)
            omega
          · by_cases q : v' = v
            · subst q; rw [Bend.put_same] at h'; cases h'
            · rw [Bend.put_ne q] at h'
              rw [valV_put, if_neg (fun z => q (by have := Sum.inl.inj z; omega))]
              exact hnone v' h'
          · by_cases q : v' = v
            · subst q
              rw [Bend.put_same] at h'
              cases h'
              exact ⟨tp, by rw [valV_put, if_pos rfl], hP3.keep hd3 s4⟩
            · rw [Bend.put_ne q] at h'
              obtain ⟨t1, q1, q2⟩ := hsome v' z' h'
              refine ⟨t1, by rw [valV_put, if_neg (fun z => q (by have := Sum.inl.inj z; omega))]; exact q1, ?_⟩
              exact q2.keep hd (fun b o e hb => s4 b o (same3 b o e) hb)
          · by_cases q : v' = v
            · subst q
              rw [Bend.put_same] at h'
              cases h'
              show (z.2 ++ [i]).length ≤ B + 1
              rw [List.length_append]
              have := hB.short u z hu'
              simp
              omega
            · rw [Bend.put_ne q] at h'
              have := hB.short v' z' h'
              omega
      have len3 : kvs.length < sizeLine := by omega
      cases hv' : L v with
      | none =>
        have g : gain L u v i t = some (Bend.ext z t i) := by unfold gain; rw [hu', hv']
        refine ⟨_, rfl, _, rfl, d, _, rfl, DGet.k (k := Sum.inl (v : Int)) hd3, _, rfl, ?_⟩
        rw [hnone v hv']
        refine iteF (iteF ?_)
        exact ⟨_, rfl, _, rfl, _, rfl, d, _, rfl, DPut.k (k := Sum.inl (v : Int)) hd3 len3, fin g⟩
      | some y =>
        obtain ⟨t1, hv1, l1, ht1, hl1⟩ := hsome v y hv'
        obtain ⟨lz, hz1, hz2⟩ := id hP3
        refine ⟨_, rfl, _, rfl, d, _, rfl, DGet.k (k := Sum.inl (v : Int)) hd3, _, rfl, ?_⟩
        rw [hv1]
        refine iteT ?_
        refine ⟨_, rfl, _, rfl, d, .ref t1, rfl, by rw [← hv1]; exact DGet.k (k := Sum.inl (v : Int)) hd3, _, rfl, t1, tp, (y.1 : Int), (y.2.length : Int), l1, y.2.map (fun (i : Nat) => (i : Int)), ((Bend.ext z t i).1 : Int), ((Bend.ext z t i).2.length : Int), lz, (Bend.ext z t i).2.map (fun (i : Nat) => (i : Int)),
          rfl, rfl, SqT.of (same3 _ _ ht1), SqT.of hz1, SqL.of (same3 _ _ hl1), SqL.of hz2, _, rfl, ?_⟩
        rw [leV_le y (Bend.ext z t i)]
        cases hb : Kqv6.better (Bend.ext z t i) y with
        | true =>
          have g : gain L u v i t = some (Bend.ext z t i) := by unfold gain; rw [hu', hv']; dsimp only; rw [hb]; rfl
          refine iteF ?_
          exact ⟨_, rfl, _, rfl, _, rfl, d, _, rfl, DPut.k (k := Sum.inl (v : Int)) hd3 len3, fin g⟩
        | false =>
          have g : gain L u v i t = none := by unfold gain; rw [hu', hv']; dsimp only; rw [hb]; rfl
          have e : relax L u v i t = L := Bend.relax_none g
          refine iteT ?_
          have kk := k H3 (by
            rw [e]
            exact ⟨⟨kvs, hd3, by omega, hnone, fun v' z' h' => by
              obtain ⟨t2, q1, q2⟩ := hsome v' z' h'
              exact ⟨t2, q1, q2.keep hd (fun b o e _ => same3 b o e)⟩⟩, fun v' z' h' => Nat.le_succ_of_le (hB.short v' z' h')⟩) (fun b o e _ => same3 b o e)
          rw [g] at kk
          exact kk
end
end BP
end
section
namespace BP
open PySem PySem.Spec PyProof.Rows L2
open Bend (Lab gain relax Mid Rounds RoadsOk)
abbrev sPass : Stmt := top 41
abbrev sQOver : Stmt := top 42
abbrev sQuick : Stmt := top 43
theorem lc_enum {K : PySem.W.Frag} {a : Addr} {xs : List V} {g : TG} {tt : TT} {te : TE} {vs : List Nat} {σ : L2.St} {H1 : Hp} {D : Addr} {Qd : Hp → Prop} (Pv : Nat → Hp → Prop) (h0 : Pv 0 (upd H1 D (.lst []))) (hl : ∀ i H, i ≤ xs.length → Pv i H → SqL K H a xs)
    (hs : ∀ i x T H, xs[i]? = some x → Pv i H → H T = none → g (.ref T) (wipe σ vs) (upd H T (.tup [.int (i : Nat), x])) fun σ2 H2 => wipe σ2 vs = wipe σ vs ∧ tt σ2 H2 fun b H3 =>
      if b = true then te σ2 H3 fun y H4 => ∃ acc, H4 D = some (.lst acc) ∧ acc.length < sizeLine ∧ Pv (i + 1) (upd H4 D (.lst (acc ++ [y]))) else Pv (i + 1) H3) (hd : ∀ H, Pv xs.length H → Qd H) :
    ∃ W : Nat → Nat → Hp → Prop, (∃ m, W 0 m (upd H1 D (.lst []))) ∧ ∀ i m H, W i m H →
      ((Ite K a).stop i H ∧ Qd H) ∨ ((Ite K a).go i H ∧ ∃ Nx : Hp → Prop, (∀ H', Nx H' → ∃ m', m' < m ∧ W (i + 1) m' H') ∧ ∀ x H', (Ite K a).yld i H x H' → g x (wipe σ vs) H' fun σ2 H2 => wipe σ2 vs = wipe σ vs ∧ tt σ2 H2 fun b H3 =>
        if b = true then te σ2 H3 fun y H4 => ∃ acc, H4 D = some (.lst acc) ∧ acc.length < sizeLine ∧ Nx (upd H4 D (.lst (acc ++ [y]))) else Nx H3) := by
  refine ⟨fun i m H => m = xs.length - i ∧ i ≤ xs.length ∧ Pv i H, ⟨xs.length, by simp, Nat.zero_le _, h0⟩, ?_⟩
  rintro i m H ⟨rfl, hi, p⟩
  have q := hl i H hi p
  by_cases hlt : i < xs.length
  · refine .inr ⟨⟨xs, xs[i], q, by simp [hlt]⟩, Pv (i + 1), fun H' p' => ⟨xs.length - (i + 1), by omega, rfl, hlt, p'⟩, fun x H' y => ?_⟩
    obtain ⟨T, x', rfl, hT, rfl, hx⟩ := y
    exact hs i x' T _ (hx xs q) p hT
  · have e : i = xs.length := by omega
    subst e
    exact .inl ⟨⟨xs, q, Nat.le_refl _⟩, hd H p⟩
def okAt (rs : List Kqv6.Road) (x : Kqv6.Load) (j : Nat) : Bool := match rs[j]? with
  | some r => Kqv6.why r x == 0
  | none => false
def pass (rs : List Kqv6.Road) (x : Kqv6.Load) (i : Nat) : List Nat := (List.range i).filter (okAt rs x)
theorem pass_succ (rs : List Kqv6.Road) (x : Kqv6.Load) (i : Nat) : pass rs x (i + 1) = pass rs x i ++ (if okAt rs x i = true then [i] else []) := by
  unfold pass
  rw [List.range_succ, List.filter_append]
  congr 1
  by_cases h : okAt rs x i = true
  · rw [if_pos h, List.filter_cons_of_pos h]; rfl
  · rw [if_neg h, List.filter_cons_of_neg h]; rfl
theorem pass_mem {rs : List Kqv6.Road} {x : Kqv6.Load} {i : Nat} (h : i ∈ pass rs x rs.length) : ∃ r, rs[i]? = some r ∧ Kqv6.why r x = 0 := by
  have q := (List.mem_filter.mp h).2
  unfold okAt at q
  cases e : rs[i]? with
  | none => rw [e] at q; cases q
  | some r => rw [e] at q; exact ⟨r, rfl, eq_of_beq q⟩
theorem pass_all {rs : List Kqv6.Road} {x : Kqv6.Load} {i : Nat} {r : Kqv6.Road} (h : rs[i]? = some r) (hw : Kqv6.why r x = 0) : i ∈ pass rs x rs.length := by
  refine List.mem_filter.mpr ⟨List.mem_range.mpr (List.getElem?_eq_some_iff.mp h).1, ?_⟩
  unfold okAt
  rw [h]
  exact beq_iff_eq.mpr hw
theorem pass_len (rs : List Kqv6.Road) (x : Kqv6.Load) (i : Nat) : (pass rs x i).length ≤ i := by
  have := List.length_filter_le (okAt rs x) (List.range i)
  rw [List.length_range] at this
  exact this
structure Fine (rs : List Kqv6.Road) (n : Nat) : Prop where
  ok : RoadsOk rs n
  few : rs.length ≤ 14
  n8 : n ≤ 8
  wide : ∀ r ∈ rs, r.a ≤ 200 ∧ r.b ≤ 200
section
variable {P : Program} {w : World} {K : PySem.W.Frag} {mg : Str → Option Value} {base : Heap}
theorem RoadsAt.same {C : Addr} {H H' : Hp} {l : Addr} {as : List Addr} {rs : List Kqv6.Road} (h : RoadsAt C H l as rs) (s : Same H H') : RoadsAt C H' l as rs :=
  ⟨s _ _ h.lst, h.nd, h.len, fun j a r h1 h2 => let ⟨dx, q⟩ := h.at_ j a r h1 h2; ⟨dx, s _ _ q⟩⟩
theorem NetAt.same {C : Addr} {H H' : Hp} {a l : Addr} {n : Nat} (h : NetAt C H a n l) (s : Same H H') : NetAt C H' a n l := let ⟨d, dx, e⟩ := h; ⟨d, dx, s _ _ e⟩
def spPass (CN CR CL : Addr) : Sp := fun vs H Q _ => ∃ (net ld l : Addr) (n : Nat) (as : List Addr) (rs : List Kqv6.Road) (x : Kqv6.Load), vs = [.ref net, .ref ld] ∧ NetAt CN H net n l ∧ RoadsAt CR H l as rs ∧ Fine rs n ∧ LoadAt CL H ld x ∧ x.long ≤ 300 ∧
  ∀ H' D, Same H H' → H D = none → H' D = some (.lst (pl (pass rs x rs.length))) → Q (.ref D) H'
theorem scPass : FnScope ["network", "load", "r", "road"] ["network", "load"] (defScope sPass) := ⟨rfl, rfl, rfl, by decide +kernel, rfl, by decide +kernel, by decide +kernel⟩
theorem ok_pass {f CN CR CL fW : Addr} {fd fdW : FuncData} (F : Fun K "passable_roads" "passable_roads" sPass f fd) (TN : ClsA K CN nsNet) (TR : ClsA K CR nsRoad)
    (mW : Meth K CR "why_not" fW) (bW : Binds K fdW ["self", "load"] []) (GW : FnOk P w K mg base CX0 2 fW fdW ["self", "load"] (spWhy CR CL)) (c0 : CI mg "MAY_GO" 0) (menum : mg "enumerate" = none) :
    FnOk P w K mg base CX0 3 f fd ["network", "load"] (spPass CN CR CL) := by
  refine F.ok scPass (fun vs H Q E h => ?_) (fun cdv A outer s H vs Q E hr h => ?_)
  · obtain ⟨net, ld, l, n, as, rs, x, rfl, _⟩ := h
    rfl
  · obtain ⟨net, ld, l, n, as, rs, x, rfl, ⟨dd, dn, hN⟩, hR, hF, ⟨dl, hL⟩, hx, k⟩ := h
    refine ⟨_, pss_one (ps_ret (pe_lc (own := [("r", 2), ("road", 3)]) (g := gTup K 2 (gCons (gName 2) (gCons (gName 3) gNil))) rfl scPass.nd (pi_enum rfl menum (pa_cons (pe_fld (pv 0) rfl) pa_nil)) (blkOk_by (N := ["network", "load", "r", "road"]) (sc := defScope sPass) (by decide +kernel))
        (fun s' H' C cl fp => pg_tup rfl (pgs_cons (pg_name (i := 2) scPass.nd rfl (Or.inl rfl)) (pgs_cons (pg_name (i := 3) scPass.nd rfl (Or.inl rfl)) pgs_nil)))
        (fun s' H' C cl fp => pts_one (pt_cmpR op_eq (pe_meth (pv 3) TR.cl mW GW hr bW .nil pass0 (pa_cons (pv 1) pa_nil)) (pe_ci rfl c0) (nomark _)))
        (fun s' H' C cl fp => pv 2))), ?_⟩
    refine ⟨_, rfl, net, CN, dn, _, _, rfl, hN, TN.cl, TN.no _ (by simp), rfl, l, _, rfl, SqL.of hR.lst, fun D hD => lc_enum (xs := as.map V.ref) (fun i H' => H' D = some (.lst (pl (pass rs x i))) ∧ Same H H') ⟨upd_same, fun b o e => by rw [upd_ne (ne_of_none e hD)]; exact e⟩ (fun i H' _ h => SqL.of (h.2 _ _ hR.lst)) ?_ ?_⟩
    · rintro i y T H' hi ⟨hD', s1⟩ hT
      obtain ⟨a, ha, rfl⟩ : ∃ a, as[i]? = some a ∧ y = V.ref a := by
        rw [List.getElem?_map] at hi
        cases e : as[i]? with
        | none => rw [e] at hi; cases hi
        | some a => rw [e] at hi; exact ⟨a, rfl, (Option.some.inj hi).symm⟩
      have hil : i < rs.length := by rw [← hR.len]; exact (List.getElem?_eq_some_iff.mp ha).1
      obtain ⟨r, hr'⟩ : ∃ r, rs[i]? = some r := ⟨_, List.getElem?_eq_getElem hil⟩
      obtain ⟨dr, hra⟩ := hR.at_ i a r ha hr'
      obtain ⟨w1, w2⟩ := hF.wide r (List.mem_of_getElem? hr')
      have s2 : Same H (upd H' T (.tup [.int (i : Nat), .ref a])) := fun b o e => by rw [upd_ne (ne_of_none (s1 b o e) hT)]; exact s1 b o e
      have hD2 : upd H' T (.tup [.int (i : Nat), .ref a]) D = some (.lst (pl (pass rs x i))) := by rw [upd_ne (ne_of_none hD' hT)]; exact hD'
      refine ⟨T, _, rfl, SqT.of upd_same, rfl, _, _, rfl, _, _, rfl, rfl, rfl, ?_⟩
      refine ⟨_, rfl, a, dr, _, rfl, s2 _ _ hra, rfl, _, rfl, a, ld, r, x, rfl, ⟨dr, s2 _ _ hra⟩, ⟨dl, s2 _ _ hL⟩, w1, w2, hx, rfl, _, rfl, ite2 (fun c => ?_) (fun c => ?_)⟩
      · have hw : Kqv6.why r x = 0 := by
          have := V.int.inj (of_decide_eq_true c)
          omega
        have e : pass rs x (i + 1) = pass rs x i ++ [i] := by rw [pass_succ, if_pos (by unfold okAt; rw [hr']; exact beq_iff_eq.mpr hw)]
        refine ⟨_, rfl, _, hD2, ?_, ?_, fun b o e => ?_⟩
        · unfold pl
          rw [List.length_map, List.length_map]
          exact Nat.lt_of_le_of_lt (Nat.le_trans (pass_len rs x i) (by have := hF.few; omega : i ≤ 14)) (by decide)
        · rw [upd_same, e]
          show some (HO.lst (pl (pass rs x i) ++ [V.int i])) = some (HO.lst (((pass rs x i ++ [i]).map _).map _))
          rw [List.map_append, List.map_append]
          rfl
        · rw [upd_ne (ne_of_none e hD)]
          exact s2 b o e
      · have hw : ¬ Kqv6.why r x = 0 := fun z => c (decide_eq_true (by rw [z]; rfl))
        have e : pass rs x (i + 1) = pass rs x i := by
          rw [pass_succ, if_neg, List.append_nil]
          unfold okAt
          rw [hr']
          exact fun z => hw (eq_of_beq z)
        rw [e]
        exact ⟨hD2, s2⟩
    · rintro H' ⟨hD', s1⟩
      rw [List.length_map, hR.len] at hD'
      exact k H' D s1 hD hD'
def Alike (rs rs' : List Kqv6.Road) : Prop := ∀ (i : Nat) (r' : Kqv6.Road), rs'[i]? = some r' → ∃ r, rs[i]? = some r ∧ r.p = r'.p ∧ r.q = r'.q ∧ r.minutes = r'.minutes
def spQOver (CN CR : Addr) : Sp := fun vs H Q _ => ∃ (net D l : Addr) (n p q : Nat) (as : List Addr) (rs rs' : List Kqv6.Road) (x : Kqv6.Load) (ps : List Nat), vs = [.ref net, .ref D, .int p, .int q] ∧ NetAt CN H net n l ∧ RoadsAt CR H l as rs ∧ H D = some (.lst (pl ps)) ∧ Alike rs rs' ∧ RoadsOk rs' n ∧ n ≤ 8 ∧ ps.length ≤ 14 ∧
  (∀ i ∈ ps, ∃ r, rs'[i]? = some r ∧ Kqv6.why r x = 0) ∧ (∀ (i : Nat) (r : Kqv6.Road), rs'[i]? = some r → Kqv6.why r x = 0 → i ∈ ps) ∧ p < n ∧
  ∀ H', Same H H' → (Kqv6.way rs' n x p q = none → Q .non H') ∧ ∀ z t, Kqv6.way rs' n x p q = some z → PathAt H' t z → Q (.ref t) H'
theorem scQOver : FnScope ["network", "passable", "p", "q", "best", "bettered", "r", "road"] ["network", "passable", "p", "q"] (defScope sQOver) := ⟨rfl, rfl, rfl, by decide +kernel, rfl, by decide +kernel, by decide +kernel⟩
theorem try_turn {CR : Addr} (TR : ClsA K CR nsRoad) {H5 H8 : Hp} {d a dr D net : Addr} {r : Kqv6.Road} {fu fv : Str} {u v i p q B : Nat} {L : Lab} {b : Bool} {D0 : Ends} (mu : fu ∈ nsRoad) (mv : fv ∈ nsRoad) (lu : (rf r).lookup fu = some (.int u)) (lv : (rf r).lookup fv = some (.int v))
    (ha : H5 a = some (.ins CR dr (rf r))) (hB : BestAt H8 d L B) (hBB : B ≤ 100000) (hs : SameB d H5 H8) (nad : a ≠ d)
    (k : ∀ H9, BestAt H9 d (relax L u v i r.minutes) (B + 1) → SameB d H5 H9 → D0.nx [some (.ref net), some (.ref D), some (.int p), some (.int q), some (.ref d), some (.bl (b || (gain L u v i r.minutes).isSome)), some (.int i), some (.ref a)] H9) :
    tIfS (tB (tCall spTry [] E0 (tCons (tVar 4) (tCons (tFld K (tVar 7) fu) (tCons (tFld K (tVar 7) fv) (tCons (tVar 6) (tCons (tFld K (tVar 7) "minutes") tNil))))))) (tAsg (tC (.bl true)) (gName 5)) tNext D0
      [some (.ref net), some (.ref D), some (.int p), some (.int q), some (.ref d), some (.bl b), some (.int i), some (.ref a)] H8 := by
  have ha8 := hs a _ ha nad
  refine ⟨_, rfl, _, rfl, a, CR, dr, _, _, rfl, ha8, TR.cl, TR.no _ mu, lu, _, rfl, a, CR, dr, _, _, rfl, ha8, TR.cl, TR.no _ mv, lv, _, rfl, _, rfl, a, CR, dr, _, _, rfl, ha8, TR.cl, TR.no _ (by simp), rfl, d, u, v, i, r.minutes, B, L, rfl, hB, hBB, fun H9 hB9 s9 => ?_⟩
  have s5 : SameB d H5 H9 := fun x o e hx => s9 x o (hs x o e hx) hx
  have kk := k H9 hB9 s5
  refine ⟨_, rfl, ite2 (fun c => ?_) (fun c => ?_)⟩
  · rw [c, Bool.or_true] at kk
    exact kk
  · rw [Bool.eq_false_iff.mpr c, Bool.or_false] at kk
    exact kk
set_option maxHeartbeats 8000000 in
theorem ok_qover {f CN CR fT : Addr} {fd fdT : FuncData} (F : Fun K "quickest_over" "quickest_over" sQOver f fd) (TN : ClsA K CN nsNet) (TR : ClsA K CR nsRoad)
    (FT : Fun K "try_road" "try_road" sTry fT fdT) (mT : mg "try_road" = some (.ref fT)) (bT : Binds K fdT ["best", "here", "there", "r", "minutes"] []) :
    FnOk P w K mg base CX0 3 f fd ["network", "passable", "p", "q"] (spQOver CN CR) := by
  have GT : FnOk P w K mg base CX0 2 fT fdT ["best", "here", "there", "r", "minutes"] spTry := (ok_try FT).mono (by decide)
  refine F.ok scQOver (fun vs H Q E h => ?_) (fun cdv A outer s H vs Q E hr h => ?_)
  · obtain ⟨net, D, l, n, p, q, as, rs, rs', x, ps, rfl, _⟩ := h
    rfl
  · obtain ⟨net, D, l, n, p, q, as, rs, rs', x, ps, rfl, ⟨dd, dn, hN⟩, hR, hD, hA, hok, hn8, hlen, hin, hall, hp, k⟩ := h
    have hu := hu_of hr
    refine ⟨_, pss_cons (ps_set (i := 4) scQOver.nd rfl (Or.inl rfl) (pe_disp (pps_cons (pv 2) (pe_tup (pa_cons pe_int (pa_cons pe_int (pa_cons (pe_lst pa_nil) pa_nil)))) pps_nil) rfl rfl (by simp) (by decide)))
      (pss_cons (ps_set (i := 5) scQOver.nd rfl (Or.inl rfl) pe_bl)
      (pss_cons (ps_while PassesOwn.never (pt_val (pv 5)) (pss_cons (ps_set (i := 5) scQOver.nd rfl (Or.inl rfl) pe_bl)
        (pss_one (ps_for PassesOwn.never rfl (pi_list (pv 1)) (pg_name (i := 6) scQOver.nd rfl (Or.inl rfl))
          (pss_cons (ps_set (i := 7) scQOver.nd rfl (Or.inl rfl) (pe_ix ix_list (pe_fld (pv 0) rfl) (pv 6) (fun _ _ => rfl)))
          (pss_cons (ps_if (pt_val (pe_call GT hr rfl mT FT.kp bT .nil pass0 (pa_cons (pv 4) (pa_cons (pe_fld (pv 7) rfl) (pa_cons (pe_fld (pv 7) rfl) (pa_cons (pv 6) (pa_cons (pe_fld (pv 7) rfl) pa_nil))))))) (pss_one (ps_set (i := 5) scQOver.nd rfl (Or.inl rfl) pe_bl)) pss_nil)
          (pss_one (ps_if (pt_val (pe_call GT hr rfl mT FT.kp bT .nil pass0 (pa_cons (pv 4) (pa_cons (pe_fld (pv 7) rfl) (pa_cons (pe_fld (pv 7) rfl) (pa_cons (pv 6) (pa_cons (pe_fld (pv 7) rfl) pa_nil))))))) (pss_one (ps_set (i := 5) scQOver.nd rfl (Or.inl rfl) pe_bl)) pss_nil))))))))
      (pss_one (ps_ret (pe_dget1 hu (pv 4) (pv 3) ⟨rfl, rfl, rfl, rfl⟩))))), ?_⟩
    refine fun d hd => ⟨_, rfl, Nat.zero_le _, fun l0 hl0 => ⟨(by show 3 ≤ sizeLine; decide), fun t0 ht0 => ?_⟩⟩
    have a1 : d ≠ l0 := ne_of_none upd_same hl0
    have b1 : upd (upd H d (.dK [])) l0 (.lst []) d = some (.dK []) := by rw [upd_ne a1, upd_same]
    have a2 : d ≠ t0 := ne_of_none b1 ht0
    have a3 : l0 ≠ t0 := ne_of_none upd_same ht0
    refine ⟨by rw [upd_ne a2]; exact b1, [(Sum.inl (p : Int), .ref t0)], rfl, (by show 1 ≤ 15; decide), ?_⟩
    have nHd : H d = none := hd
    have e5 : ∀ b o, H b = some o → upd (upd (upd (upd H d (.dK [])) l0 (.lst [])) t0 (.tup [.int 0, .int 0, .ref l0])) d (.dK (mergeK [] [(Sum.inl (p : Int), .ref t0)])) b = some o := fun b o e => by
      have n1 : b ≠ d := ne_of_none e hd
      have q1 : upd H d (.dK []) b = some o := by rw [upd_ne n1]; exact e
      have n2 : b ≠ l0 := ne_of_none q1 hl0
      have q2 : upd (upd H d (.dK [])) l0 (.lst []) b = some o := by rw [upd_ne n2]; exact q1
      rw [upd_ne n1, upd_ne (ne_of_none q2 ht0)]
      exact q2
    have B5 : BestAt (upd (upd (upd (upd H d (.dK [])) l0 (.lst [])) t0 (.tup [.int 0, .int 0, .ref l0])) d (.dK (mergeK [] [(Sum.inl (p : Int), .ref t0)]))) d (Bend.put (fun _ => none) p (0, [])) 0 := by
      have ev : ∀ v : Nat, valV (mergeK [] [((Sum.inl (p : Int) : Key), V.ref t0)]) (Sum.inl (v : Int)) = if v = p then some (.ref t0) else none := fun v => by
        show valV (putK [] (Sum.inl (p : Int)) (.ref t0)) _ = _
        rw [valV_put]
        by_cases e : v = p
        · rw [if_pos e, if_pos (by rw [e])]
        · rw [if_neg e, if_neg (fun z => e (by have := Sum.inl.inj z; omega))]
          rfl
      refine ⟨⟨_, upd_same, Nat.le_refl _, fun v h => ?_, fun v z h => ?_⟩, fun v z h => ?_⟩
      · rw [ev]
        by_cases e : v = p
        · subst e; rw [Bend.put_same] at h; cases h
        · rw [if_neg e]
      · by_cases e : v = p
        · subst e
          rw [Bend.put_same] at h
          cases h
          refine ⟨t0, by rw [ev, if_pos rfl], l0, ?_, ?_⟩
          · rw [upd_ne a2.symm, upd_same]; rfl
          · rw [upd_ne a1.symm, upd_ne a3, upd_same]; rfl
        · rw [Bend.put_ne e] at h; cases h
      · by_cases e : v = p
        · subst e
          rw [Bend.put_same] at h
          cases h
          exact Nat.le_refl _
        · rw [Bend.put_ne e] at h; cases h
    show gName 4 (V.ref d) _ (upd (upd (upd (upd H d (.dK [])) l0 (.lst [])) t0 (.tup [.int 0, .int 0, .ref l0])) d (.dK (mergeK [] [(Sum.inl (p : Int), .ref t0)]))) _
    have s5 : Same H _ := fun b o e => e5 b o e
    have hD5 := e5 _ _ hD
    have nDd : D ≠ d := ne_of_none hD hd
    generalize upd (upd (upd (upd H d (.dK [])) l0 (.lst [])) t0 (.tup [.int 0, .int 0, .ref l0])) d (.dK (mergeK [] [(Sum.inl (p : Int), .ref t0)])) = H5 at B5 s5 hD5 ⊢
    have same6 : ∀ {H6 : Hp}, SameB d H5 H6 → Same H H6 := fun h b o e => h b o (s5 b o e) (ne_of_none e nHd)
    refine ⟨fun m σ H6 => ∃ (kk : Nat) (L : Lab) (b : Bool) (B : Nat) (v7 v8 : Option V), m = n + 1 - kk ∧ σ = [some (.ref net), some (.ref D), some (.int p), some (.int q), some (.ref d), some (.bl b), v7, v8] ∧
      Rounds rs' x n p kk L b ∧ BestAt H6 d L B ∧ B ≤ 28 * kk ∧ SameB d H5 H6, ⟨_, 0, _, true, 0, none, none, rfl, rfl, Rounds.start, B5, Nat.zero_le _, fun b o e _ => e⟩, ?_⟩
    rintro m σ H6 ⟨kk, L0, b0, B, v7, v8, rfl, rfl, hRo, hB6, hBk, s6⟩
    refine ⟨_, rfl, _, rfl, ite2 (fun c => ?_) (fun c => ?_)⟩
    · subst c
      have hkn := hRo.more rfl
      refine ⟨fun σ' H' => ∃ (L : Lab) (b : Bool) (B : Nat) (v7 v8 : Option V), σ' = [some (.ref net), some (.ref D), some (.int p), some (.int q), some (.ref d), some (.bl b), v7, v8] ∧
        Rounds rs' x n p (kk + 1) L b ∧ BestAt H' d L B ∧ B ≤ 28 * (kk + 1) ∧ SameB d H5 H', fun σ' H' ⟨L, b, B, v7, v8, q1, q2, q3, q4, q5⟩ => ⟨n + 1 - (kk + 1), by omega, kk + 1, L, b, B, v7, v8, rfl, q1, q2, q3, q4, q5⟩, ?_⟩
      refine ⟨_, rfl, D, rfl, ⟨_, SqL.of (s6 _ _ hD5 nDd)⟩, for_list (K := K) (a := D) (xs := pl ps) (fun j σ' H7 => ∃ (L : Lab) (b : Bool) (v7 v8 : Option V), σ' = [some (.ref net), some (.ref D), some (.int p), some (.int q), some (.ref d), some (.bl b), v7, v8] ∧
        Mid rs' x p L0 (ps.take j) L b ∧ BestAt H7 d L (B + 2 * j) ∧ SameB d H5 H7) ⟨L0, false, v7, v8, rfl, Mid.start hRo.sound hRo.zero, hB6, s6⟩ (fun j σ' H7 _ ⟨_, _, _, _, _, _, _, s7⟩ => SqL.of (s7 _ _ hD5 nDd)) ?_ ?_⟩
      · rintro j y σ' H7 hy ⟨L, b, v7', v8', rfl, hM, hB7, s7⟩
        obtain ⟨i, hi, rfl⟩ : ∃ i : Nat, ps[j]? = some i ∧ y = V.int i := by
          unfold pl at hy
          rw [List.getElem?_map, List.getElem?_map] at hy
          cases e : ps[j]? with
          | none => rw [e] at hy; cases hy
          | some i => rw [e] at hy; exact ⟨i, rfl, (Option.some.inj hy).symm⟩
        have hj : j < ps.length := (List.getElem?_eq_some_iff.mp hi).1
        obtain ⟨r', hr', hw⟩ := hin i (List.mem_of_getElem? hi)
        obtain ⟨r, hr0, ep, eq, em⟩ := hA i r' hr'
        have hil : i < as.length := by rw [hR.len]; exact (List.getElem?_eq_some_iff.mp hr0).1
        obtain ⟨a, ha⟩ : ∃ a, as[i]? = some a := ⟨_, List.getElem?_eq_getElem hil⟩
        obtain ⟨dr, hra⟩ := hR.at_ i a r ha hr0
        have nad : a ≠ d := ne_of_none hra nHd
        have etk : ps.take (j + 1) = ps.take j ++ [i] := by
          rw [List.take_add_one, hi]
          rfl
        refine ⟨_, rfl, net, CN, dn, _, _, rfl, same6 s7 _ _ hN, TN.cl, TN.no _ (by simp), rfl, _, rfl, l, _, _, _, rfl, rfl, SqL.of (same6 s7 _ _ hR.lst), at_of (j := i) (v := V.ref a) rfl (by rw [List.getElem?_map, ha]; rfl), ?_⟩
        refine try_turn TR (fu := "p") (fv := "q") (u := r.p) (v := r.q) (by simp) (by simp) rfl rfl (s5 _ _ hra) hB7 (by omega) s7 nad fun H8 hB8 s8 => ?_
        refine try_turn TR (fu := "q") (fv := "p") (u := r.q) (v := r.p) (by simp) (by simp) rfl rfl (s5 _ _ hra) hB8 (by omega) s8 nad fun H9 hB9 s9 => ?_
        have hM' := hM.turn hr' hw
        rw [← etk, ← ep, ← eq, ← em] at hM'
        exact ⟨_, _, _, _, rfl, hM', hB9, s9⟩
      · rintro σ' H7 ⟨L, b, v7', v8', rfl, hM, hB7, s7⟩
        have elen : (pl ps).length = ps.length := by unfold pl; rw [List.length_map, List.length_map]
        rw [elen, List.take_length] at hM
        rw [elen] at hB7
        exact ⟨L, b, _, v7', v8', rfl, hM.done hok hp (fun i r h1 h2 => hall i r h1 h2) hRo, hB7, by omega, s7⟩
    · have c : b0 = false := Bool.eq_false_iff.mpr c
      subst c
      have hbest := hRo.fin rfl q
      have ew : L0 q = Kqv6.way rs' n x p q := hbest.uniq (Bend.way_best hok hp)
      obtain ⟨kvs, hd6, _, hnone, hsome⟩ := hB6.ex
      obtain ⟨k1, k2⟩ := k H6 (same6 s6)
      refine ⟨_, rfl, d, rfl, .inl ⟨_, .inl hd6⟩, _, rfl, _, DGet.k (k := Sum.inl (q : Int)) hd6, ?_⟩
      cases eL : L0 q with
      | none =>
        rw [hnone q eL]
        exact k1 (by rw [← ew]; exact eL)
      | some z =>
        obtain ⟨t, h1, h2⟩ := hsome q z eL
        rw [h1]
        exact k2 z t (by rw [← ew]; exact eL) h2
def spQuick (CN CR CL : Addr) : Sp := fun vs H Q _ => ∃ (net ld l : Addr) (n p q : Nat) (as : List Addr) (rs : List Kqv6.Road) (x : Kqv6.Load), vs = [.ref net, .int p, .int q, .ref ld] ∧ NetAt CN H net n l ∧ RoadsAt CR H l as rs ∧ Fine rs n ∧ LoadAt CL H ld x ∧ x.long ≤ 300 ∧ p < n ∧
  ∀ H', Same H H' → (Kqv6.way rs n x p q = none → Q .non H') ∧ ∀ z t, Kqv6.way rs n x p q = some z → PathAt H' t z → Q (.ref t) H'
theorem scQuick : FnScope ["network", "p", "q", "load"] ["network", "p", "q", "load"] (defScope sQuick) := ⟨rfl, rfl, rfl, by decide +kernel, rfl, by decide +kernel, by decide +kernel⟩
theorem ok_quick {f CN CR CL fP fO : Addr} {fd fdP fdO : FuncData} (F : Fun K "quickest" "quickest" sQuick f fd)
    (GP : FnOk P w K mg base CX0 3 fP fdP ["network", "load"] (spPass CN CR CL)) (kP : PySem.W.keepIn K (.ref fP) = true) (mP : mg "passable_roads" = some (.ref fP)) (bP : Binds K fdP ["network", "load"] [])
    (GO : FnOk P w K mg base CX0 3 fO fdO ["network", "passable", "p", "q"] (spQOver CN CR)) (kO : PySem.W.keepIn K (.ref fO) = true) (mO : mg "quickest_over" = some (.ref fO)) (bO : Binds K fdO ["network", "passable", "p", "q"] []) :
    FnOk P w K mg base CX0 4 f fd ["network", "p", "q", "load"] (spQuick CN CR CL) := by
  refine F.ok scQuick (fun vs H Q E h => ?_) (fun cdv A outer s H vs Q E hr h => ?_)
  · obtain ⟨net, ld, l, n, p, q, as, rs, x, rfl, _⟩ := h
    rfl
  · obtain ⟨net, ld, l, n, p, q, as, rs, x, rfl, hN, hR, hF, hL, hx, hp, k⟩ := h
    refine ⟨_, pss_one (ps_ret (pe_call GO hr rfl mO kO bO .nil pass0 (pa_cons (pv 0) (pa_cons (pe_call GP hr rfl mP kP bP .nil pass0 (pa_cons (pv 0) (pa_cons (pv 3) pa_nil))) (pa_cons (pv 1) (pa_cons (pv 2) pa_nil)))))), ?_⟩
    refine ⟨_, rfl, _, rfl, _, rfl, net, ld, l, n, as, rs, x, rfl, hN, hR, hF, hL, hx, fun H1 D s1 _ hD => ?_⟩
    refine ⟨_, rfl, _, rfl, net, D, l, n, p, q, as, rs, rs, x, pass rs x rs.length, rfl, hN.same s1, hR.same s1, hD, fun i r e => ⟨r, e, rfl, rfl, rfl⟩, hF.ok, hF.n8, Nat.le_trans (pass_len _ _ _) hF.few, fun i hi => pass_mem hi, fun i r h1 h2 => pass_all h1 h2, hp, fun H2 s2 => k H2 (s1.trans s2)⟩
end
end BP
end
section
namespace BP
open PySem PySem.Spec PyProof.Rows L2
open PySem.W (CodeHd)
abbrev sHasWay : Stmt := top 44
abbrev sLen : Stmt := top 45
abbrev lamLen : Expr := match defBody sLen with
  | [_, .Return (some (.Call _ [_, e] _ _)) _] => e
  | _ => .Constant .none 0 ⟨0, 0, 0, 0⟩
def qLen : Str := Str.ofString "greatest_length" ++ ".<locals>." ++ "<lambda>"
theorem cells_of {X : Cx} {cs : List Addr} {σ : L2.St} {H1 Hf : Hp} (hF : Frozen X cs σ H1 Hf) {clos : List (Str × Addr)} {fvs : List Str} {fvals : List V} (h : ∀ (x : Str) (c : Addr), (x, c) ∈ clos → ∃ (i : Nat) (v : V), X.N[i]? = some x ∧ σ[i]? = some (some v) ∧ X.env.scope.names.lookup x = some .cell ∧ X.env.cells.lookup x = some c ∧ c ∈ cs)
    (hof : ∀ b ∈ cs, ∃ x, clos.lookup x = some b) (hv : ∀ (j : Nat) (x : Str) (v : V), fvs[j]? = some x → fvals[j]? = some v → ∃ (i : Nat) (c : Addr), X.N[i]? = some x ∧ σ[i]? = some (some v) ∧ X.env.scope.names.lookup x = some .cell ∧ X.env.cells.lookup x = some c ∧ c ∈ cs ∧ clos.lookup x = some c)
    (len : fvals.length = fvs.length) : CellsAt Hf cs clos fvs fvals := by
  refine ⟨fun x c hx => ?_, hof, fun j x v h1 h2 => ?_, len⟩
  · obtain ⟨i, v, q1, q2, q3, q4, q5⟩ := h x c (PySem.mem_of_lookup hx)
    obtain ⟨o, u, a1, a2, _⟩ := hF.cell i x v c q1 q2 q3 q4 q5
    exact ⟨q5, o, _, a1, a2⟩
  · obtain ⟨i, c, q1, q2, q3, q4, q5, q6⟩ := hv j x v h1 h2
    obtain ⟨o, u, a1, a2, a3⟩ := hF.cell i x v c q1 q2 q3 q4 q5
    exact ⟨c, o, u, q6, a1, a2, a3⟩
theorem cellsAt_same {H H' : Hp} {cs : List Addr} {clos : List (Str × Addr)} {fvs : List Str} {fvals : List V} (h : CellsAt H cs clos fvs fvals) (s : Same H H') : CellsAt H' cs clos fvs fvals :=
  ⟨fun x c hx => let ⟨a, o, v, b, d⟩ := h.all x c hx; ⟨a, o, v, s _ _ b, d⟩, h.of, fun j x v h1 h2 => let ⟨c, o, u, a, b, d⟩ := h.val j x v h1 h2; ⟨c, o, u, a, s _ _ b, d⟩, h.len⟩
theorem lamTab_same {H H' : Hp} {P : Addr} {pos : Pos} {q : Str} (h : LamTab H P pos q) (s : Same H H') : LamTab H' P pos q := by
  obtain ⟨ps, h1, h2 | ⟨c, oc, e, h3, h4⟩⟩ := h
  · exact ⟨ps, s _ _ h1, .inl h2⟩
  · exact ⟨ps, s _ _ h1, .inr ⟨c, oc, e, s _ _ h3, h4⟩⟩
section
variable {P : Program} {w : World} {K : PySem.W.Frag} {mg : Str → Option Value} {base : Heap}
def spHasWay (CN CR CL : Addr) : Sp := fun vs H Q _ => ∃ (net ld l : Addr) (n p q : Nat) (as : List Addr) (rs : List Kqv6.Road) (x : Kqv6.Load), vs = [.ref net, .int p, .int q, .ref ld] ∧ NetAt CN H net n l ∧ RoadsAt CR H l as rs ∧ Fine rs n ∧ LoadAt CL H ld x ∧ x.long ≤ 300 ∧ p < n ∧
  ∀ H', Same H H' → Q (.bl (Kqv6.way rs n x p q).isSome) H'
theorem scHasWay : FnScope ["network", "p", "q", "load"] ["network", "p", "q", "load"] (defScope sHasWay) := ⟨rfl, rfl, rfl, by decide +kernel, rfl, by decide +kernel, by decide +kernel⟩
theorem ok_hasWay {f CN CR CL fQ : Addr} {fd fdQ : FuncData} (F : Fun K "has_way" "has_way" sHasWay f fd) (GQ : FnOk P w K mg base CX0 4 fQ fdQ ["network", "p", "q", "load"] (spQuick CN CR CL)) (kQ : PySem.W.keepIn K (.ref fQ) = true) (mQ : mg "quickest" = some (.ref fQ)) (bQ : Binds K fdQ ["network", "p", "q", "load"] []) :
    FnOk P w K mg base CX0 5 f fd ["network", "p", "q", "load"] (spHasWay CN CR CL) := by
  refine F.ok scHasWay (fun vs H Q E h => ?_) (fun cdv A outer s H vs Q E hr h => ?_)
  · obtain ⟨net, ld, l, n, p, q, as, rs, x, rfl, _⟩ := h
    rfl
  · obtain ⟨net, ld, l, n, p, q, as, rs, x, rfl, hN, hR, hF, hL, hx, hp, k⟩ := h
    refine ⟨_, pss_one (ps_ret (pe_cmpR op_notN (pe_call GQ hr rfl mQ kQ bQ .nil pass0 (pa_cons (pv 0) (pa_cons (pv 1) (pa_cons (pv 2) (pa_cons (pv 3) pa_nil))))) pe_non (nomark _))), ?_⟩
    refine ⟨_, rfl, _, rfl, _, rfl, _, rfl, net, ld, l, n, p, q, as, rs, x, rfl, hN, hR, hF, hL, hx, hp, fun H' hs => ⟨fun e => ⟨rfl, ?_⟩, fun z t e ht => ⟨rfl, ?_⟩⟩⟩
    · have kk := k H' hs
      rw [e] at kk
      exact kk
    · have kk := k H' hs
      rw [e] at kk
      exact kk
def spLen (CN CR PL : Addr) : Sp := fun vs H Q _ => ∃ (net l : Addr) (n p q h wt : Nat) (as : List Addr) (rs : List Kqv6.Road), vs = [.ref net, .int p, .int q, .int h, .int wt] ∧ NetAt CN H net n l ∧ RoadsAt CR H l as rs ∧ Fine rs n ∧ p < n ∧ LamTab H PL (lamPos lamLen) qLen ∧
  ∀ H', LamTab H' PL (lamPos lamLen) qLen → SameT [PL] H H' → Q (match Kqv6.most rs n p q h wt with | none => .non | some m => .int m) H'
theorem scLen : FnScope ["network", "p", "q", "height", "weight"] ["network", "p", "q", "height", "weight"] (defScope sLen) := ⟨rfl, rfl, rfl, by decide +kernel, rfl, by decide +kernel, by decide +kernel⟩
set_option maxHeartbeats 8000000 in
theorem ok_len {f CN CR CL fG fH fI c PL : Addr} {fd fdG fdH fdI : FuncData} (F : FunC K "greatest_length" "greatest_length" sLen f fd c) (CH : CodeHd base c PL) (BM : BMain mg base) (FG : Fun K "greatest" "greatest" sGreatest fG fdG) (mG : mg "greatest" = some (.ref fG)) (bG : Binds K fdG ["limit", "will_do"] [])
    (GH : FnOk P w K mg base CX0 5 fH fdH ["network", "p", "q", "load"] (spHasWay CN CR CL)) (kH : PySem.W.keepIn K (.ref fH) = true) (mH : mg "has_way" = some (.ref fH)) (bH : Binds K fdH ["network", "p", "q", "load"] [])
    (ML : Mk K CL fI) (mgL : mg "Load" = some (.ref CL)) (GI : FnOk P w K mg base CX0 1 fI fdI ["self", "length", "height", "weight"] (spLoadInit CL)) (bI : Binds K fdI ["self", "length", "height", "weight"] []) (mL : CI mg "MOST_LONG" 300) :
    FnOk P w K mg base CX0 8 f fd ["network", "p", "q", "height", "weight"] (spLen CN CR PL) := by
  have GG : FnOk P w K mg base CX0 7 fG fdG ["limit", "will_do"] (spGreatest P w K mg base 6) := ok_greatest FG
  refine F.ok scLen (fun vs H Q E h => ?_) (fun A outer s H vs Q E hr h => ?_)
  · obtain ⟨net, l, n, p, q, h, wt, as, rs, rfl, _⟩ := h
    rfl
  · obtain ⟨net, l, n, p, q, h, wt, as, rs, rfl, hN, hR, hF, hp, hT, k⟩ := h
    have r2 : Room 2 _ := hr.mono (by decide)
    have r4 : Room 5 _ := hr.mono (by decide)
    generalize hcsE : [s.heap.objs.size + 1, s.heap.objs.size + 2, s.heap.objs.size + 3, s.heap.objs.size + 4, s.heap.objs.size + 5] = cs
    have memcs : ∀ x, x ∈ cs ↔ (x = s.heap.objs.size + 1 ∨ x = s.heap.objs.size + 2 ∨ x = s.heap.objs.size + 3 ∨ x = s.heap.objs.size + 4 ∨ x = s.heap.objs.size + 5) := fun x => by rw [← hcsE]; simp
    have hcs : OwnCells (cxOf CX0 P w K mg base ["network", "p", "q", "height", "weight"] "greatest_length" (defScope sLen) f (.ref c) A outer s H E).nox cs := fun x hx => by
      rcases (memcs x).mp hx with rfl | rfl | rfl | rfl | rfl
      · exact ⟨"network", rfl, rfl⟩
      · exact ⟨"p", rfl, rfl⟩
      · exact ⟨"q", rfl, rfl⟩
      · exact ⟨"height", rfl, rfl⟩
      · exact ⟨"weight", rfl, rfl⟩
    refine ⟨_, pss_cons (ps_if (pt_not (pt_val (pe_call GH r4 rfl mH kH bH .nil pass0 (pa_cons (pv 0) (pa_cons (pv 1) (pa_cons (pv 2) (pa_cons (pe_make ML GI r2 rfl mgL bI .nil pass0 (pa_cons pe_int (pa_cons (pv 3) (pa_cons (pv 4) pa_nil)))) pa_nil))))))) (pss_one (ps_ret pe_non)) pss_nil)
      (pss_one (ps_ret (pe_callZ (cs := cs) hcs GG hr rfl mG FG.kp bG (pa_cons (pe_ci rfl mL) (pa_cons (pe_lam (c := c) (P := PL) (clos := [("weight", s.heap.objs.size + 5), ("q", s.heap.objs.size + 3), ("p", s.heap.objs.size + 2), ("network", s.heap.objs.size + 1), ("height", s.heap.objs.size + 4)]) (qual := qLen) rfl CH BM rfl rfl rfl) pa_nil))))), ?_⟩
    refine ⟨_, rfl, _, rfl, _, rfl, _, rfl, _, rfl, fun x0 d0 n0 m0 e0 => ⟨x0, d0, ⟨0, h, wt⟩, rfl, upd_same, fun H1 hL1 kp => ⟨rfl, ?_⟩⟩⟩
    have s1 : Same H H1 := Same.made n0 m0 kp
    refine ⟨net, x0, l, n, p, q, as, rs, ⟨0, h, wt⟩, rfl, hN.same s1, hR.same s1, hF, hL1, Nat.zero_le _, hp, fun H2 s2 => ?_⟩
    have s12 : Same H H2 := s1.trans s2
    refine ⟨_, rfl, ?_⟩
    cases hw : (Kqv6.way rs n ⟨0, h, wt⟩ p q).isSome with
    | false =>
      have em : Kqv6.most rs n p q h wt = none := Bend.most_none hF.ok hp hw
      have kk := k H2 (lamTab_same hT s12) (fun b o e _ => s12 b o e)
      rw [em] at kk
      exact iteT kk
    | true =>
      refine iteF ?_
      refine ⟨lamTab_same hT s12, fun fl H3 nfl hLam hT3 same Hf hFz => ?_⟩
      obtain ⟨pm, c', ctv, oc, l1, l2, l3⟩ := hLam
      have nn : ∀ x o, H3 x = some o → x ∉ cs := fun x o e hx => by rw [hFz.on x hx] at e; cases e
      have up : Same H3 Hf := fun x o e => (hFz.off x (nn x o e)).trans e
      have sT : SameT [PL] H H3 := fun x o e hx => same x o (s12 x o e) (by simpa using hx)
      obtain ⟨dd, dn, hN0⟩ := hN
      have nPnet : net ≠ PL := by
        obtain ⟨ps, hP, _⟩ := hT
        exact ne_of hN0 hP (by intro q; cases q)
      have nPl : l ≠ PL := by
        obtain ⟨ps, hP, _⟩ := hT
        exact ne_of hR.lst hP (by intro q; cases q)
      have hN3 : NetAt CN H3 net n l := ⟨dd, dn, sT _ _ hN0 (by simpa using nPnet)⟩
      have hR3 : RoadsAt CR H3 l as rs := ⟨sT _ _ hR.lst (by simpa using nPl), hR.nd, hR.len, fun j a r h1 h2 => by
        obtain ⟨dx, e⟩ := hR.at_ j a r h1 h2
        obtain ⟨ps, hP, _⟩ := hT
        exact ⟨dx, sT _ _ e (by have := ne_of e hP (by intro q; cases q); simpa using this)⟩⟩
      have cz : CellsAt Hf cs [("weight", s.heap.objs.size + 5), ("q", s.heap.objs.size + 3), ("p", s.heap.objs.size + 2), ("network", s.heap.objs.size + 1), ("height", s.heap.objs.size + 4)] ["network", "p", "q", "height", "weight"] [.ref net, .int p, .int q, .int h, .int wt] := by
        refine cells_of hFz (fun x d hm => ?_) (fun b hb => ?_) (fun j x v h1 h2 => ?_) rfl
        · have hm : (x = "weight" ∧ d = s.heap.objs.size + 5) ∨ (x = "q" ∧ d = s.heap.objs.size + 3) ∨ (x = "p" ∧ d = s.heap.objs.size + 2) ∨ (x = "network" ∧ d = s.heap.objs.size + 1) ∨ (x = "height" ∧ d = s.heap.objs.size + 4) := by simpa using hm
          rcases hm with ⟨rfl, rfl⟩ | ⟨rfl, rfl⟩ | ⟨rfl, rfl⟩ | ⟨rfl, rfl⟩ | ⟨rfl, rfl⟩
          · exact ⟨4, _, rfl, rfl, rfl, rfl, (memcs _).mpr (by simp)⟩
          · exact ⟨2, _, rfl, rfl, rfl, rfl, (memcs _).mpr (by simp)⟩
          · exact ⟨1, _, rfl, rfl, rfl, rfl, (memcs _).mpr (by simp)⟩
          · exact ⟨0, _, rfl, rfl, rfl, rfl, (memcs _).mpr (by simp)⟩
          · exact ⟨3, _, rfl, rfl, rfl, rfl, (memcs _).mpr (by simp)⟩
        · rcases (memcs b).mp hb with rfl | rfl | rfl | rfl | rfl
          · exact ⟨"network", rfl⟩
          · exact ⟨"p", rfl⟩
          · exact ⟨"q", rfl⟩
          · exact ⟨"height", rfl⟩
          · exact ⟨"weight", rfl⟩
        · match j, h1, h2 with
          | 0, h1, h2 =>
            obtain rfl : ("network" : Str) = x := Option.some.inj h1
            obtain rfl : V.ref net = v := Option.some.inj h2
            exact ⟨0, _, rfl, rfl, rfl, rfl, (memcs _).mpr (by simp), rfl⟩
          | 1, h1, h2 =>
            obtain rfl : ("p" : Str) = x := Option.some.inj h1
            obtain rfl : V.int p = v := Option.some.inj h2
            exact ⟨1, _, rfl, rfl, rfl, rfl, (memcs _).mpr (by simp), rfl⟩
          | 2, h1, h2 =>
            obtain rfl : ("q" : Str) = x := Option.some.inj h1
            obtain rfl : V.int q = v := Option.some.inj h2
            exact ⟨2, _, rfl, rfl, rfl, rfl, (memcs _).mpr (by simp), rfl⟩
          | 3, h1, h2 =>
            obtain rfl : ("height" : Str) = x := Option.some.inj h1
            obtain rfl : V.int h = v := Option.some.inj h2
            exact ⟨3, _, rfl, rfl, rfl, rfl, (memcs _).mpr (by simp), rfl⟩
          | 4, h1, h2 =>
            obtain rfl : ("weight" : Str) = x := Option.some.inj h1
            obtain rfl : V.int wt = v := Option.some.inj h2
            exact ⟨4, _, rfl, rfl, rfl, rfl, (memcs _).mpr (by simp), rfl⟩
          | j + 5, h1, _ => simp at h1
      have SL : LamScope "length" ["network", "p", "q", "height", "weight"] [("weight", s.heap.objs.size + 5), ("q", s.heap.objs.size + 3), ("p", s.heap.objs.size + 2), ("network", s.heap.objs.size + 1), ("height", s.heap.objs.size + 4)] (lamScope lamLen) := by
        refine ⟨rfl, rfl, rfl, rfl, by decide +kernel, by decide +kernel, fun x h => ?_, fun x y d h1 h2 => ?_⟩
        · have m := PySem.mem_of_lookup h
          have m : (x, NameKind.free) ∈ ([("length", .local), ("height", .free), ("network", .free), ("p", .free), ("q", .free), ("weight", .free), ("has_way", .globalImplicit), ("Load", .globalImplicit)] : List (Str × NameKind)) := m
          have m : x = "height" ∨ x = "network" ∨ x = "p" ∨ x = "q" ∨ x = "weight" := by simpa using m
          rcases m with rfl | rfl | rfl | rfl | rfl <;> exact ⟨_, rfl⟩
        · have m1 : (x = "weight" ∧ d = s.heap.objs.size + 5) ∨ (x = "q" ∧ d = s.heap.objs.size + 3) ∨ (x = "p" ∧ d = s.heap.objs.size + 2) ∨ (x = "network" ∧ d = s.heap.objs.size + 1) ∨ (x = "height" ∧ d = s.heap.objs.size + 4) := by simpa using PySem.mem_of_lookup h1
          have m2 : (y = "weight" ∧ d = s.heap.objs.size + 5) ∨ (y = "q" ∧ d = s.heap.objs.size + 3) ∨ (y = "p" ∧ d = s.heap.objs.size + 2) ∨ (y = "network" ∧ d = s.heap.objs.size + 1) ∨ (y = "height" ∧ d = s.heap.objs.size + 4) := by simpa using PySem.mem_of_lookup h2
          have ne : ∀ i j : Nat, i ≠ j → ¬ (d = s.heap.objs.size + i ∧ d = s.heap.objs.size + j) := fun i j hij ⟨a, b⟩ => hij (by have : s.heap.objs.size + i = s.heap.objs.size + j := a.symm.trans b; omega)
          rcases m1 with ⟨rfl, e1⟩ | ⟨rfl, e1⟩ | ⟨rfl, e1⟩ | ⟨rfl, e1⟩ | ⟨rfl, e1⟩ <;> rcases m2 with ⟨rfl, e2⟩ | ⟨rfl, e2⟩ | ⟨rfl, e2⟩ | ⟨rfl, e2⟩ | ⟨rfl, e2⟩
          all_goals first
            | rfl
            | exact absurd ⟨e1, e2⟩ (ne _ _ (by decide))
      let spl : Sp := fun vs H2 Q' _ => ∃ z : Nat, vs = [.int z] ∧ z ≤ 300 ∧ Same Hf H2 ∧ ∀ H4, Same Hf H4 → Q' (.bl (Kqv6.way rs n ⟨z, h, wt⟩ p q).isSome) H4
      have FL : FnOk P w K mg base CX0 6 fl (PySem.W.kla_fn "<lambda>" qLen (lamArgs lamLen) (lamBody lamLen) (lamScope lamLen) [("weight", s.heap.objs.size + 5), ("q", s.heap.objs.size + 3), ("p", s.heap.objs.size + 2), ("network", s.heap.objs.size + 1), ("height", s.heap.objs.size + 4)] pm (.ref c') ctv) ["length"] spl := by
        refine fn_lam (cs := cs) (fvs := ["network", "p", "q", "height", "weight"]) (fvals := [.ref net, .int p, .int q, .int h, .int wt]) (oc := oc) SL l3 (fun vs H Q E ⟨z, e, _⟩ => by rw [e]; rfl) (fun vs H Q E ⟨z, _, _, e, _⟩ => ⟨e _ _ (up _ _ l1), e _ _ (up _ _ l2), cellsAt_same cz e⟩) fun A' outer' s' H4 vs Q' E' hr' h' => ?_
        obtain ⟨z, rfl, hz, e4, q4⟩ := h'
        have q2 : Room 2 _ := hr'.mono (by decide)
        refine ⟨_, pe_call GH hr' rfl mH kH bH .nil pass0 (pa_cons (pv 1) (pa_cons (pv 2) (pa_cons (pv 3) (pa_cons (pe_make ML GI q2 rfl mgL bI .nil pass0 (pa_cons (pv 0) (pa_cons (pv 4) (pa_cons (pv 5) pa_nil)))) pa_nil)))), ?_⟩
        have sS : Same H3 (strip cs H4) := fun x o e => by rw [strip_out (nn x o e)]; exact e4 x o (up x o e)
        refine ⟨_, rfl, _, rfl, _, rfl, _, rfl, _, rfl, _, rfl, fun x1 d1 n1 m1 e1 => ⟨x1, d1, ⟨z, h, wt⟩, rfl, upd_same, fun H5 hL5 kp5 => ⟨rfl, ?_⟩⟩⟩
        have s5 : Same (strip cs H4) H5 := Same.made n1 m1 kp5
        refine ⟨net, x1, l, n, p, q, as, rs, ⟨z, h, wt⟩, rfl, hN3.same (sS.trans s5), hR3.same (sS.trans s5), hF, hL5, hz, hp, fun H6 s6 => ?_⟩
        refine q4 _ fun x o e => ?_
        unfold refroze
        by_cases hx : x ∈ cs
        · rw [if_pos hx]; exact e4 x o e
        · rw [if_neg hx]
          exact s6 x o (s5 x o (by rw [strip_out hx]; exact e4 x o e))
      refine ⟨300, fl, fun z => (Kqv6.way rs n ⟨z, h, wt⟩ p q).isSome, fun H4 => Same Hf H4, rfl, by decide, hw, fun i j hij hj => Bend.way_shorter hF.ok hp hij hj, Same.refl _, ⟨_, ["length"], spl, FL, .all (fun us hl => match us, hl with | [_], _ => rfl), fun H4 e4 => ?_⟩, fun H4 e4 r hg => ?_⟩
      · exact ⟨.inr ⟨_, _, _, e4 _ _ (up _ _ l1), rfl⟩, fun z Q' hz hq => ⟨z, rfl, hz, e4, hq⟩⟩
      · show Q (V.int r) (strip cs H4)
        have sS : Same H3 (strip cs H4) := fun x o e => by rw [strip_out (nn x o e)]; exact e4 x o (up x o e)
        have em : Kqv6.most rs n p q h wt = some r := Bend.most_some hF.ok hp hg
        have kk := k (strip cs H4) (lamTab_same hT3 sS) (fun x o e hx => sS x o (sT x o e hx))
        rw [em] at kk
        exact kk
end
end BP
end
section
namespace BP
open PySem PySem.Spec PyProof.Rows L2
abbrev sGWeight : Stmt := top 46
abbrev sGHeight : Stmt := top 47
abbrev sIsNeeded : Stmt := top 48
abbrev sNeeded : Stmt := top 49
theorem pl_snoc (l : List Nat) (i : Nat) : pl (l ++ [i]) = pl l ++ [V.int i] := by
  unfold pl
  rw [List.map_append, List.map_append]
  rfl
theorem pl_length (l : List Nat) : (pl l).length = l.length := by unfold pl; rw [List.length_map, List.length_map]
theorem pl_at {l : List Nat} {j : Nat} {y : V} (h : (pl l)[j]? = some y) : ∃ i : Nat, l[j]? = some i ∧ y = V.int i := by
  unfold pl at h
  rw [List.getElem?_map, List.getElem?_map] at h
  cases e : l[j]? with
  | none => rw [e] at h; cases h
  | some i => rw [e] at h; exact ⟨i, rfl, (Option.some.inj h).symm⟩
theorem take_snoc {α : Type} {l : List α} {j : Nat} {x : α} (h : l[j]? = some x) : l.take (j + 1) = l.take j ++ [x] := by
  rw [List.take_add_one, h]
  rfl
theorem filter_take_succ {l : List Nat} {g : Nat → Bool} {j x : Nat} (h : l[j]? = some x) : (l.take (j + 1)).filter g = (l.take j).filter g ++ (if g x = true then [x] else []) := by
  rw [take_snoc h, List.filter_append]
  congr 1
  by_cases q : g x = true
  · rw [if_pos q, List.filter_cons_of_pos q]; rfl
  · rw [if_neg q, List.filter_cons_of_neg q]; rfl
theorem limit_max {l : List Nat} {g : Nat → Bool} : ((l.filter g).map (fun (i : Nat) => (i : Int)) = [] → Kqv6.limit l g = none) ∧ ∀ m : Int, m ∈ (l.filter g).map (fun (i : Nat) => (i : Int)) → (∀ y, y ∈ (l.filter g).map (fun (i : Nat) => (i : Int)) → y ≤ m) → ∃ k : Nat, m = k ∧ Kqv6.limit l g = some k := by
  constructor
  · intro h
    have h : l.filter g = [] := List.map_eq_nil_iff.mp h
    refine Bend.limit_none fun y hy => ?_
    have := List.filter_eq_nil_iff.mp h y hy
    exact Bool.eq_false_iff.mpr this
  · intro m hm hle
    obtain ⟨k, hk, rfl⟩ := List.mem_map.mp hm
    obtain ⟨k1, k2⟩ := List.mem_filter.mp hk
    refine ⟨k, rfl, Bend.limit_some k1 k2 fun y hy hg => ?_⟩
    have := hle y (List.mem_map.mpr ⟨y, List.mem_filter.mpr ⟨hy, hg⟩, rfl⟩)
    omega
section
variable {P : Program} {w : World} {K : PySem.W.Frag} {mg : Str → Option Value} {base : Heap}
theorem as_at {as : List Addr} {j : Nat} {y : V} (h : (as.map V.ref)[j]? = some y) : ∃ a, as[j]? = some a ∧ y = V.ref a := by
  rw [List.getElem?_map] at h
  cases e : as[j]? with
  | none => rw [e] at h; cases h
  | some a => rw [e] at h; exact ⟨a, rfl, (Option.some.inj h).symm⟩
def spGMax (CN CR : Addr) (lim : Kqv6.Road → Nat) (ld : Nat → Nat → Nat → Kqv6.Load) : Sp := fun vs H Q _ => ∃ (net l : Addr) (n p q u v : Nat) (as : List Addr) (rs : List Kqv6.Road), vs = [.ref net, .int p, .int q, .int u, .int v] ∧ NetAt CN H net n l ∧ RoadsAt CR H l as rs ∧ Fine rs n ∧ p < n ∧ u ≤ 300 ∧
  ∀ H', Same H H' → Q (match Kqv6.limit (rs.map lim) (fun z => (Kqv6.way rs n (ld u v z) p q).isSome) with | none => .non | some m => .int m) H'
theorem scGWeight : FnScope ["network", "p", "q", "length", "height", "weights", "road", "weight"] ["network", "p", "q", "length", "height"] (defScope sGWeight) := ⟨rfl, rfl, rfl, by decide +kernel, rfl, by decide +kernel, by decide +kernel⟩
theorem scGHeight : FnScope ["network", "p", "q", "length", "weight", "heights", "road", "height"] ["network", "p", "q", "length", "weight"] (defScope sGHeight) := ⟨rfl, rfl, rfl, by decide +kernel, rfl, by decide +kernel, by decide +kernel⟩
set_option maxHeartbeats 8000000 in
theorem ok_gWeight {f CN CR CL fH fI : Addr} {fd fdH fdI : FuncData} (F : Fun K "greatest_weight" "greatest_weight" sGWeight f fd) (TN : ClsA K CN nsNet) (TR : ClsA K CR nsRoad)
    (GH : FnOk P w K mg base CX0 5 fH fdH ["network", "p", "q", "load"] (spHasWay CN CR CL)) (kH : PySem.W.keepIn K (.ref fH) = true) (mH : mg "has_way" = some (.ref fH)) (bH : Binds K fdH ["network", "p", "q", "load"] [])
    (ML : Mk K CL fI) (mgL : mg "Load" = some (.ref CL)) (GI : FnOk P w K mg base CX0 1 fI fdI ["self", "length", "height", "weight"] (spLoadInit CL)) (bI : Binds K fdI ["self", "length", "height", "weight"] []) (mmax : mg "max" = none) :
    FnOk P w K mg base CX0 6 f fd ["network", "p", "q", "length", "height"] (spGMax CN CR (fun r => r.heavy) fun u v z => ⟨u, v, z⟩) := by
  refine F.ok scGWeight (fun vs H Q E h => ?_) (fun cdv A outer s H vs Q E hr h => ?_)
  · obtain ⟨net, l, n, p, q, u, v, as, rs, rfl, _⟩ := h
    rfl
  · obtain ⟨net, l, n, p, q, u, v, as, rs, rfl, ⟨dd, dn, hN⟩, hR, hF, hp, hu3, k⟩ := h
    have r2 : Room 2 _ := hr.mono (by decide)
    refine ⟨_, pss_cons (ps_setLc (i := 5) (own := [("road", 6)]) (g := gName 6) (te := tFld K (tVar 6) "heavy") rfl scGWeight.nd rfl rfl (sw_true rfl rfl rfl (by decide +kernel)) (pi_list (pe_fld (pv 0) rfl)) (blkOk_by (N := ["network", "p", "q", "length", "height", "weights", "road", "weight"]) (sc := defScope sGWeight) (by decide +kernel))
        (fun s' H' C cl fp => pg_name (i := 6) scGWeight.nd rfl (Or.inl rfl)) (fun s' H' C cl fp => pts_nil) (fun s' H' C cl fp => pe_fld (pv 6) rfl))
      (pss_one (ps_ret (pe_maxD rfl rfl mmax (pa_cons (pe_lc (own := [("weight", 7)]) (g := gName 7) rfl scGWeight.nd (pi_list (pv 5)) (blkOk_by (N := ["network", "p", "q", "length", "height", "weights", "road", "weight"]) (sc := defScope sGWeight) (by decide +kernel))
        (fun s' H' C cl fp => pg_name (i := 7) scGWeight.nd rfl (Or.inl rfl))
        (fun s' H' C cl fp => pts_one (pt_val (pe_call GH hr rfl mH kH bH .nil pass0 (pa_cons (pv 0) (pa_cons (pv 1) (pa_cons (pv 2) (pa_cons (pe_make ML GI r2 rfl mgL bI .nil pass0 (pa_cons (pv 3) (pa_cons (pv 4) (pa_cons (pv 7) pa_nil)))) pa_nil)))))))
        (fun s' H' C cl fp => pv 7)) pa_nil) (pk_cons pe_non pk_nil)))), ?_⟩
    refine ⟨_, rfl, net, CN, dn, _, _, rfl, hN, TN.cl, TN.no _ (by simp), rfl, l, rfl, ⟨_, SqL.of hR.lst⟩, fun D hD => lc_list (K := K) (xs := as.map V.ref) (fun i H' => H' D = some (.lst (pl ((rs.take i).map fun r => r.heavy))) ∧ Same H H') ⟨upd_same, fun b o e => by rw [upd_ne (ne_of_none e hD)]; exact e⟩ (fun i H' _ h => SqL.of (h.2 _ _ hR.lst)) ?_ ?_⟩
    · rintro i y H' hi ⟨hD', s1⟩
      obtain ⟨a, ha, rfl⟩ := as_at hi
      have hil : i < rs.length := by rw [← hR.len]; exact (List.getElem?_eq_some_iff.mp ha).1
      obtain ⟨r, hr'⟩ : ∃ r, rs[i]? = some r := ⟨_, List.getElem?_eq_getElem hil⟩
      obtain ⟨dr, hra⟩ := hR.at_ i a r ha hr'
      refine ⟨rfl, ?_⟩
      unfold tYes
      refine iteT ?_
      refine ⟨_, rfl, a, CR, dr, _, _, rfl, s1 _ _ hra, TR.cl, TR.no _ (by simp), rfl, _, hD', ?_, ?_, fun b o e => ?_⟩
      · rw [pl_length, List.length_map, List.length_take]
        exact Nat.lt_of_le_of_lt (show min i rs.length ≤ 14 by have := hF.few; omega) (by decide)
      · rw [upd_same, take_snoc hr', List.map_append]
        show _ = some (HO.lst (pl (_ ++ [r.heavy])))
        rw [pl_snoc]
      · rw [upd_ne (ne_of_none e hD)]; exact s1 b o e
    · rintro H1 ⟨hD1, s1⟩
      rw [List.length_map, hR.len, List.take_length] at hD1
      have hF' := hF.few
      refine ⟨_, rfl, D, rfl, ⟨_, SqL.of hD1⟩, fun D2 hD2 => lc_list (K := K) (xs := pl (rs.map fun r => r.heavy)) (fun i H' => H' D2 = some (.lst (pl (((rs.map fun r => r.heavy).take i).filter fun z => (Kqv6.way rs n ⟨u, v, z⟩ p q).isSome))) ∧ Same H1 H') ⟨upd_same, fun b o e => by rw [upd_ne (ne_of_none e hD2)]; exact e⟩ (fun i H' _ h => SqL.of (h.2 _ _ hD1)) ?_ ?_⟩
      · rintro i y H' hi ⟨hD', s2⟩
        obtain ⟨z, hz, rfl⟩ := pl_at hi
        have s12 : Same H H' := s1.trans s2
        refine ⟨rfl, _, rfl, _, rfl, _, rfl, _, rfl, _, rfl, _, rfl, fun x0 d0 n0 m0 e0 => ⟨x0, d0, ⟨u, v, z⟩, rfl, upd_same, fun H3 hL3 kp => ⟨rfl, ?_⟩⟩⟩
        have s3 : Same H' H3 := Same.made n0 m0 kp
        have s13 : Same H H3 := s12.trans s3
        refine ⟨net, x0, l, n, p, q, as, rs, ⟨u, v, z⟩, rfl, ⟨dd, dn, s13 _ _ hN⟩, hR.same s13, hF, hL3, hu3, hp, fun H4 s4 => ⟨_, rfl, ?_⟩⟩
        have s34 : Same H' H4 := s3.trans s4
        have eS := filter_take_succ (g := fun z => (Kqv6.way rs n ⟨u, v, z⟩ p q).isSome) hz
        refine ite2 (fun c => ?_) (fun c => ?_)
        · refine ⟨_, rfl, _, s34 _ _ hD', ?_, ?_, fun b o e => ?_⟩
          · rw [pl_length]
            exact Nat.lt_of_le_of_lt (Nat.le_trans (List.length_filter_le _ _) (by rw [List.length_take, List.length_map]; omega : _ ≤ 14)) (by decide)
          · rw [upd_same, eS, if_pos c, pl_snoc]
          · rw [upd_ne (ne_of_none e hD2)]; exact s34 _ _ (s2 b o e)
        · rw [eS, if_neg c, List.append_nil]
          exact ⟨s34 _ _ hD', s2.trans s34⟩
      · rintro H2 ⟨hD2', s2⟩
        rw [pl_length, List.take_length] at hD2'
        obtain ⟨m1, m2⟩ := limit_max (l := rs.map fun r => r.heavy) (g := fun z => (Kqv6.way rs n ⟨u, v, z⟩ p q).isSome)
        have kk := k H2 (s1.trans s2)
        have hq : SqL K H2 D2 ((((rs.map fun r => r.heavy).filter fun z => (Kqv6.way rs n ⟨u, v, z⟩ p q).isSome).map (fun (i : Nat) => (i : Int))).map V.int) := SqL.of hD2'
        refine ⟨D2, _, .non, rfl, rfl, hq, fun e => ?_, fun m h1 h2 => ?_⟩
        · rw [m1 e] at kk
          exact kk
        · obtain ⟨kz, rfl, e⟩ := m2 m h1 h2
          rw [e] at kk
          exact kk
set_option maxHeartbeats 8000000 in
theorem ok_gHeight {f CN CR CL fH fI : Addr} {fd fdH fdI : FuncData} (F : Fun K "greatest_height" "greatest_height" sGHeight f fd) (TN : ClsA K CN nsNet) (TR : ClsA K CR nsRoad)
    (GH : FnOk P w K mg base CX0 5 fH fdH ["network", "p", "q", "load"] (spHasWay CN CR CL)) (kH : PySem.W.keepIn K (.ref fH) = true) (mH : mg "has_way" = some (.ref fH)) (bH : Binds K fdH ["network", "p", "q", "load"] [])
    (ML : Mk K CL fI) (mgL : mg "Load" = some (.ref CL)) (GI : FnOk P w K mg base CX0 1 fI fdI ["self", "length", "height", "weight"] (spLoadInit CL)) (bI : Binds K fdI ["self", "length", "height", "weight"] []) (mmax : mg "max" = none) :
    FnOk P w K mg base CX0 6 f fd ["network", "p", "q", "length", "weight"] (spGMax CN CR (fun r => r.high) fun u v z => ⟨u, z, v⟩) := by
  refine F.ok scGHeight (fun vs H Q E h => ?_) (fun cdv A outer s H vs Q E hr h => ?_)
  · obtain ⟨net, l, n, p, q, u, v, as, rs, rfl, _⟩ := h
    rfl
  · obtain ⟨net, l, n, p, q, u, v, as, rs, rfl, ⟨dd, dn, hN⟩, hR, hF, hp, hu3, k⟩ := h
    have r2 : Room 2 _ := hr.mono (by decide)
    refine ⟨_, pss_cons (ps_setLc (i := 5) (own := [("road", 6)]) (g := gName 6) (te := tFld K (tVar 6) "high") rfl scGHeight.nd rfl rfl (sw_true rfl rfl rfl (by decide +kernel)) (pi_list (pe_fld (pv 0) rfl)) (blkOk_by (N := ["network", "p", "q", "length", "weight", "heights", "road", "height"]) (sc := defScope sGHeight) (by decide +kernel))
        (fun s' H' C cl fp => pg_name (i := 6) scGHeight.nd rfl (Or.inl rfl)) (fun s' H' C cl fp => pts_nil) (fun s' H' C cl fp => pe_fld (pv 6) rfl))
      (pss_one (ps_ret (pe_maxD rfl rfl mmax (pa_cons (pe_lc (own := [("height", 7)]) (g := gName 7) rfl scGHeight.nd (pi_list (pv 5)) (blkOk_by (N := ["network", "p", "q", "length", "weight", "heights", "road", "height"]) (sc := defScope sGHeight) (by decide +kernel))
        (fun s' H' C cl fp => pg_name (i := 7) scGHeight.nd rfl (Or.inl rfl))
        (fun s' H' C cl fp => pts_one (pt_val (pe_call GH hr rfl mH kH bH .nil pass0 (pa_cons (pv 0) (pa_cons (pv 1) (pa_cons (pv 2) (pa_cons (pe_make ML GI r2 rfl mgL bI .nil pass0 (pa_cons (pv 3) (pa_cons (pv 7) (pa_cons (pv 4) pa_nil)))) pa_nil)))))))
        (fun s' H' C cl fp => pv 7)) pa_nil) (pk_cons pe_non pk_nil)))), ?_⟩
    refine ⟨_, rfl, net, CN, dn, _, _, rfl, hN, TN.cl, TN.no _ (by simp), rfl, l, rfl, ⟨_, SqL.of hR.lst⟩, fun D hD => lc_list (K := K) (xs := as.map V.ref) (fun i H' => H' D = some (.lst (pl ((rs.take i).map fun r => r.high))) ∧ Same H H') ⟨upd_same, fun b o e => by rw [upd_ne (ne_of_none e hD)]; exact e⟩ (fun i H' _ h => SqL.of (h.2 _ _ hR.lst)) ?_ ?_⟩
    · rintro i y H' hi ⟨hD', s1⟩
      obtain ⟨a, ha, rfl⟩ := as_at hi
      have hil : i < rs.length := by rw [← hR.len]; exact (List.getElem?_eq_some_iff.mp ha).1
      obtain ⟨r, hr'⟩ : ∃ r, rs[i]? = some r := ⟨_, List.getElem?_eq_getElem hil⟩
      obtain ⟨dr, hra⟩ := hR.at_ i a r ha hr'
      refine ⟨rfl, ?_⟩
      unfold tYes
      refine iteT ?_
      refine ⟨_, rfl, a, CR, dr, _, _, rfl, s1 _ _ hra, TR.cl, TR.no _ (by simp), rfl, _, hD', ?_, ?_, fun b o e => ?_⟩
      · rw [pl_length, List.length_map, List.length_take]
        exact Nat.lt_of_le_of_lt (show min i rs.length ≤ 14 by have := hF.few; omega) (by decide)
      · rw [upd_same, take_snoc hr', List.map_append]
        show _ = some (HO.lst (pl (_ ++ [r.high])))
        rw [pl_snoc]
      · rw [upd_ne (ne_of_none e hD)]; exact s1 b o e
    · rintro H1 ⟨hD1, s1⟩
      rw [List.length_map, hR.len, List.take_length] at hD1
      have hF' := hF.few
      refine ⟨_, rfl, D, rfl, ⟨_, SqL.of hD1⟩, fun D2 hD2 => lc_list (K := K) (xs := pl (rs.map fun r => r.high)) (fun i H' => H' D2 = some (.lst (pl (((rs.map fun r => r.high).take i).filter fun z => (Kqv6.way rs n ⟨u, z, v⟩ p q).isSome))) ∧ Same H1 H') ⟨upd_same, fun b o e => by rw [upd_ne (ne_of_none e hD2)]; exact e⟩ (fun i H' _ h => SqL.of (h.2 _ _ hD1)) ?_ ?_⟩
      · rintro i y H' hi ⟨hD', s2⟩
        obtain ⟨z, hz, rfl⟩ := pl_at hi
        have s12 : Same H H' := s1.trans s2
        refine ⟨rfl, _, rfl, _, rfl, _, rfl, _, rfl, _, rfl, _, rfl, fun x0 d0 n0 m0 e0 => ⟨x0, d0, ⟨u, z, v⟩, rfl, upd_same, fun H3 hL3 kp => ⟨rfl, ?_⟩⟩⟩
        have s3 : Same H' H3 := Same.made n0 m0 kp
        have s13 : Same H H3 := s12.trans s3
        refine ⟨net, x0, l, n, p, q, as, rs, ⟨u, z, v⟩, rfl, ⟨dd, dn, s13 _ _ hN⟩, hR.same s13, hF, hL3, hu3, hp, fun H4 s4 => ⟨_, rfl, ?_⟩⟩
        have s34 : Same H' H4 := s3.trans s4
        have eS := filter_take_succ (g := fun z => (Kqv6.way rs n ⟨u, z, v⟩ p q).isSome) hz
        refine ite2 (fun c => ?_) (fun c => ?_)
        · refine ⟨_, rfl, _, s34 _ _ hD', ?_, ?_, fun b o e => ?_⟩
          · rw [pl_length]
            exact Nat.lt_of_le_of_lt (Nat.le_trans (List.length_filter_le _ _) (by rw [List.length_take, List.length_map]; omega : _ ≤ 14)) (by decide)
          · rw [upd_same, eS, if_pos c, pl_snoc]
          · rw [upd_ne (ne_of_none e hD2)]; exact s34 _ _ (s2 b o e)
        · rw [eS, if_neg c, List.append_nil]
          exact ⟨s34 _ _ hD', s2.trans s34⟩
      · rintro H2 ⟨hD2', s2⟩
        rw [pl_length, List.take_length] at hD2'
        obtain ⟨m1, m2⟩ := limit_max (l := rs.map fun r => r.high) (g := fun z => (Kqv6.way rs n ⟨u, z, v⟩ p q).isSome)
        have kk := k H2 (s1.trans s2)
        have hq : SqL K H2 D2 ((((rs.map fun r => r.high).filter fun z => (Kqv6.way rs n ⟨u, z, v⟩ p q).isSome).map (fun (i : Nat) => (i : Int))).map V.int) := SqL.of hD2'
        refine ⟨D2, _, .non, rfl, rfl, hq, fun e => ?_, fun m h1 h2 => ?_⟩
        · rw [m1 e] at kk
          exact kk
        · obtain ⟨kz, rfl, e⟩ := m2 m h1 h2
          rw [e] at kk
          exact kk
theorem alike_set {rs : List Kqv6.Road} {r : Nat} {x : Kqv6.Road} (h : rs[r]? = some x) : Alike rs (rs.set r { x with closed := true }) := fun i r' e => by
  by_cases q : i = r
  · subst q
    rw [List.getElem?_set_self (List.getElem?_eq_some_iff.mp h).1] at e
    cases e
    exact ⟨x, h, rfl, rfl, rfl⟩
  · rw [List.getElem?_set_ne (fun z => q z.symm)] at e
    exact ⟨r', e, rfl, rfl, rfl⟩
theorem ok_set {rs : List Kqv6.Road} {n r : Nat} {x : Kqv6.Road} (R : Bend.RoadsOk rs n) (h : rs[r]? = some x) : Bend.RoadsOk (rs.set r { x with closed := true }) n := ⟨fun r' hr' => by
  rcases List.mem_or_eq_of_mem_set hr' with q | q
  · exact R.ok r' q
  · subst q; exact R.ok x (List.mem_of_getElem? h)⟩
def shut (rs : List Kqv6.Road) (r : Nat) : List Kqv6.Road := (List.range rs.length).filterMap fun i => (rs[i]?).map fun x => if i = r then { x with closed := true } else x
def need (rs : List Kqv6.Road) (n : Nat) (x : Kqv6.Load) (p q r : Nat) : Bool := (Kqv6.way (shut rs r) n x p q).isNone
def spIsNeeded (CN CR : Addr) : Sp := fun vs H Q _ => ∃ (net D l : Addr) (n p q r : Nat) (as : List Addr) (rs : List Kqv6.Road) (x : Kqv6.Load), vs = [.ref net, .ref D, .int p, .int q, .int r] ∧ NetAt CN H net n l ∧ RoadsAt CR H l as rs ∧ Fine rs n ∧ H D = some (.lst (pl (pass rs x rs.length))) ∧ r ∈ pass rs x rs.length ∧ p < n ∧
  ∀ H', Same H H' → Q (.bl (need rs n x p q r)) H'
theorem scIsNeeded : FnScope ["network", "passable", "p", "q", "r", "others", "other"] ["network", "passable", "p", "q", "r"] (defScope sIsNeeded) := ⟨rfl, rfl, rfl, by decide +kernel, rfl, by decide +kernel, by decide +kernel⟩
set_option maxHeartbeats 8000000 in
theorem ok_isNeeded {f CN CR fO : Addr} {fd fdO : FuncData} (F : Fun K "is_needed" "is_needed" sIsNeeded f fd)
    (GO : FnOk P w K mg base CX0 3 fO fdO ["network", "passable", "p", "q"] (spQOver CN CR)) (kO : PySem.W.keepIn K (.ref fO) = true) (mO : mg "quickest_over" = some (.ref fO)) (bO : Binds K fdO ["network", "passable", "p", "q"] []) :
    FnOk P w K mg base CX0 4 f fd ["network", "passable", "p", "q", "r"] (spIsNeeded CN CR) := by
  refine F.ok scIsNeeded (fun vs H Q E h => ?_) (fun cdv A outer s H vs Q E hr h => ?_)
  · obtain ⟨net, D, l, n, p, q, r, as, rs, x, rfl, _⟩ := h
    rfl
  · obtain ⟨net, D, l, n, p, q, r, as, rs, x, rfl, hN, hR, hF, hD, hrp, hp, k⟩ := h
    refine ⟨_, pss_cons (ps_setLc (i := 5) (own := [("other", 6)]) (g := gName 6) rfl scIsNeeded.nd rfl rfl (sw_true rfl rfl rfl (by decide +kernel)) (pi_list (pv 1)) (blkOk_by (N := ["network", "passable", "p", "q", "r", "others", "other"]) (sc := defScope sIsNeeded) (by decide +kernel))
        (fun s' H' C cl fp => pg_name (i := 6) scIsNeeded.nd rfl (Or.inl rfl)) (fun s' H' C cl fp => pts_one (pt_cmpR op_ne (pv 6) (pv 4) (nomark _))) (fun s' H' C cl fp => pv 6))
      (pss_one (ps_ret (pe_cmpR op_isN (pe_call GO hr rfl mO kO bO .nil pass0 (pa_cons (pv 0) (pa_cons (pv 5) (pa_cons (pv 2) (pa_cons (pv 3) pa_nil))))) pe_non (nomark _)))), ?_⟩
    obtain ⟨xr, hxr, hwr⟩ := pass_mem hrp
    have hlen : (pass rs x rs.length).length ≤ 14 := Nat.le_trans (pass_len _ _ _) hF.few
    refine ⟨_, rfl, D, rfl, ⟨_, SqL.of hD⟩, fun D2 hD2 => lc_list (K := K) (xs := pl (pass rs x rs.length)) (fun i H' => H' D2 = some (.lst (pl (((pass rs x rs.length).take i).filter fun z => z != r))) ∧ Same H H') ⟨upd_same, fun b o e => by rw [upd_ne (ne_of_none e hD2)]; exact e⟩ (fun i H' _ h => SqL.of (h.2 _ _ hD)) ?_ ?_⟩
    · rintro i y H' hi ⟨hD', s2⟩
      obtain ⟨z, hz, rfl⟩ := pl_at hi
      have eS := filter_take_succ (g := fun z => z != r) hz
      refine ⟨rfl, _, rfl, _, rfl, rfl, _, rfl, ite2 (fun c => ?_) (fun c => ?_)⟩
      · have c : ¬ z = r := fun e => by rw [e] at c; simp at c
        refine ⟨_, rfl, _, hD', ?_, ?_, fun b o e => ?_⟩
        · rw [pl_length]
          exact Nat.lt_of_le_of_lt (Nat.le_trans (List.length_filter_le _ _) (by rw [List.length_take]; omega : _ ≤ 14)) (by decide)
        · rw [upd_same, eS, if_pos (bne_iff_ne.mpr c), pl_snoc]
        · rw [upd_ne (ne_of_none e hD2)]; exact s2 b o e
      · have c : z = r := by
          apply Classical.byContradiction
          intro e
          exact c (by simp; omega)
        rw [eS, if_neg (by rw [c]; simp), List.append_nil]
        exact ⟨hD', s2⟩
    · rintro H1 ⟨hD1, s1⟩
      rw [pl_length, List.take_length] at hD1
      have esh : shut rs r = rs.set r { xr with closed := true } := Bend.closed_eq hxr
      refine ⟨_, rfl, _, rfl, _, rfl, _, rfl, net, D2, l, n, p, q, as, rs, rs.set r { xr with closed := true }, x, (pass rs x rs.length).filter (fun z => z != r), rfl, hN.same s1, hR.same s1, hD1, alike_set hxr, ok_set hF.ok hxr, hF.n8, Nat.le_trans (List.length_filter_le _ _) hlen, fun i hi => ?_, fun i r' h1 h2 => ?_, hp, fun H2 s2 => ⟨fun ew => ⟨rfl, ?_⟩, fun z t ew _ => ⟨rfl, ?_⟩⟩⟩
      · obtain ⟨i1, i2⟩ := List.mem_filter.mp hi
        obtain ⟨r', e1, e2⟩ := pass_mem i1
        exact ⟨r', by rw [List.getElem?_set_ne (fun z => (bne_iff_ne.mp i2) z.symm)]; exact e1, e2⟩
      · by_cases qq : i = r
        · subst qq
          rw [List.getElem?_set_self (List.getElem?_eq_some_iff.mp hxr).1] at h1
          cases h1
          rw [Bend.why_zero] at h2
          cases h2.1
        · rw [List.getElem?_set_ne (fun z => qq z.symm)] at h1
          exact List.mem_filter.mpr ⟨pass_all h1 h2, bne_iff_ne.mpr qq⟩
      · have kk := k H2 (s1.trans s2)
        unfold need at kk
        rw [esh, ew] at kk
        exact kk
      · have kk := k H2 (s1.trans s2)
        unfold need at kk
        rw [esh, ew] at kk
        exact kk
def spNeeded (CN CR CL : Addr) : Sp := fun vs H Q _ => ∃ (net ld l : Addr) (n p q : Nat) (as : List Addr) (rs : List Kqv6.Road) (x : Kqv6.Load), vs = [.ref net, .int p, .int q, .ref ld] ∧ NetAt CN H net n l ∧ RoadsAt CR H l as rs ∧ Fine rs n ∧ LoadAt CL H ld x ∧ x.long ≤ 300 ∧ p < n ∧
  ∀ H' D, Same H H' → H' D = some (.lst (pl ((pass rs x rs.length).filter (need rs n x p q)))) → Q (.ref D) H'
theorem scNeeded : FnScope ["network", "p", "q", "load", "passable", "r"] ["network", "p", "q", "load"] (defScope sNeeded) := ⟨rfl, rfl, rfl, by decide +kernel, rfl, by decide +kernel, by decide +kernel⟩
set_option maxHeartbeats 8000000 in
theorem ok_needed {f CN CR CL fP fN : Addr} {fd fdP fdN : FuncData} (F : Fun K "needed_roads" "needed_roads" sNeeded f fd)
    (GP : FnOk P w K mg base CX0 3 fP fdP ["network", "load"] (spPass CN CR CL)) (kP : PySem.W.keepIn K (.ref fP) = true) (mP : mg "passable_roads" = some (.ref fP)) (bP : Binds K fdP ["network", "load"] [])
    (GN : FnOk P w K mg base CX0 4 fN fdN ["network", "passable", "p", "q", "r"] (spIsNeeded CN CR)) (kN : PySem.W.keepIn K (.ref fN) = true) (mN : mg "is_needed" = some (.ref fN)) (bN : Binds K fdN ["network", "passable", "p", "q", "r"] []) :
    FnOk P w K mg base CX0 5 f fd ["network", "p", "q", "load"] (spNeeded CN CR CL) := by
  refine F.ok scNeeded (fun vs H Q E h => ?_) (fun cdv A outer s H vs Q E hr h => ?_)
  · obtain ⟨net, ld, l, n, p, q, as, rs, x, rfl, _⟩ := h
    rfl
  · obtain ⟨net, ld, l, n, p, q, as, rs, x, rfl, hN, hR, hF, hL, hx, hp, k⟩ := h
    have r3 : Room 3 _ := hr.mono (by decide)
    refine ⟨_, pss_cons (ps_set (i := 4) scNeeded.nd rfl (Or.inr rfl) (pe_call GP r3 rfl mP kP bP .nil pass0 (pa_cons (pv 0) (pa_cons (pv 3) pa_nil))))
      (pss_one (ps_ret (pe_lc (own := [("r", 5)]) (g := gName 5) rfl scNeeded.nd (pi_list (pv 4)) (blkOk_by (N := ["network", "p", "q", "load", "passable", "r"]) (sc := defScope sNeeded) (by decide +kernel))
        (fun s' H' C cl fp => pg_name (i := 5) scNeeded.nd rfl (Or.inl rfl))
        (fun s' H' C cl fp => pts_one (pt_val (pe_call GN hr rfl mN kN bN .nil pass0 (pa_cons (pv 0) (pa_cons (pv 4) (pa_cons (pv 1) (pa_cons (pv 2) (pa_cons (pv 5) pa_nil))))))))
        (fun s' H' C cl fp => pv 5)))), ?_⟩
    have hlen : (pass rs x rs.length).length ≤ 14 := Nat.le_trans (pass_len _ _ _) hF.few
    refine ⟨_, rfl, _, rfl, net, ld, l, n, as, rs, x, rfl, hN, hR, hF, hL, hx, fun H1 D s1 _ hD => ?_⟩
    refine ⟨_, rfl, D, rfl, ⟨_, SqL.of hD⟩, fun D2 hD2 => lc_list (K := K) (xs := pl (pass rs x rs.length)) (fun i H' => H' D2 = some (.lst (pl (((pass rs x rs.length).take i).filter (need rs n x p q)))) ∧ Same H1 H') ⟨upd_same, fun b o e => by rw [upd_ne (ne_of_none e hD2)]; exact e⟩ (fun i H' _ h => SqL.of (h.2 _ _ hD)) ?_ ?_⟩
    · rintro i y H' hi ⟨hD', s2⟩
      obtain ⟨z, hz, rfl⟩ := pl_at hi
      have eS := filter_take_succ (g := need rs n x p q) hz
      have s12 := s1.trans s2
      refine ⟨rfl, _, rfl, _, rfl, _, rfl, _, rfl, _, rfl, net, D, l, n, p, q, z, as, rs, x, rfl, hN.same s12, hR.same s12, hF, s2 _ _ hD, List.mem_of_getElem? hz, hp, fun H3 s3 => ⟨_, rfl, ite2 (fun c => ?_) (fun c => ?_)⟩⟩
      · refine ⟨_, rfl, _, s3 _ _ hD', ?_, ?_, fun b o e => ?_⟩
        · rw [pl_length]
          exact Nat.lt_of_le_of_lt (Nat.le_trans (List.length_filter_le _ _) (by rw [List.length_take]; omega : _ ≤ 14)) (by decide)
        · rw [upd_same, eS, if_pos c, pl_snoc]
        · rw [upd_ne (ne_of_none e hD2)]; exact s3 _ _ (s2 b o e)
      · rw [eS, if_neg c, List.append_nil]
        exact ⟨s3 _ _ hD', s2.trans s3⟩
    · rintro H2 ⟨hD2', s2⟩
      rw [pl_length, List.take_length] at hD2'
      exact k H2 D2 (s1.trans s2) hD2'
end
end BP
end
section
namespace BP
open PySem PySem.Spec PyProof.Rows L2
open Bend (Span)
abbrev sStretchInit : Stmt := inClass cStretch 0
abbrev sHolds : Stmt := inClass cStretch 1
abbrev sMeets : Stmt := inClass cStretch 2
abbrev sConvoyInit : Stmt := inClass cConvoy 0
abbrev sStretchIn : Stmt := inClass cConvoy 1
abbrev sConvoyBy : Stmt := top 33
abbrev sWaitB : Stmt := top 34
abbrev sLWait : Stmt := top 35
abbrev sFirst : Stmt := top 36
abbrev sLeast : Stmt := top 37
abbrev sOn : Stmt := top 38
def sf (x : Span) : List (Str × V) := [("road_number", .int x.1), ("comes", .int x.2.1), ("leaves", .int x.2.2)]
def cf (t : Nat) (l : Addr) : List (Str × V) := [("sets_out", .int t), ("stretches", .ref l)]
abbrev nsStretch : List Str := ["road_number", "comes", "leaves"]
abbrev nsConvoy : List Str := ["sets_out", "stretches"]
def StretchAt (C : Addr) (H : Hp) (a : Addr) (x : Span) : Prop := ∃ dx, H a = some (.ins C dx (sf x))
structure ConvAt (CC CS : Addr) (H : Hp) (a l : Addr) (as : List Addr) (t : Nat) (sp : List Span) : Prop where
  obj : ∃ dx, H a = some (.ins CC dx (cf t l))
  lst : H l = some (.lst (as.map V.ref))
  len : as.length = sp.length
  at_ : ∀ (j : Nat) (b : Addr) (x : Span), as[j]? = some b → sp[j]? = some x → StretchAt CS H b x
theorem ConvAt.keep {CC CS : Addr} {H H' : Hp} {a l : Addr} {as : List Addr} {t : Nat} {sp : List Span} (h : ConvAt CC CS H a l as t sp) (k : ∀ b o, H b = some o → (b = a ∨ b = l ∨ b ∈ as) → H' b = some o) : ConvAt CC CS H' a l as t sp :=
  ⟨let ⟨dx, e⟩ := h.obj; ⟨dx, k _ _ e (.inl rfl)⟩, k _ _ h.lst (.inr (.inl rfl)), h.len, fun j b x h1 h2 => let ⟨dx, e⟩ := h.at_ j b x h1 h2; ⟨dx, k _ _ e (.inr (.inr (List.mem_of_getElem? h1)))⟩⟩
theorem ConvAt.same {CC CS : Addr} {H H' : Hp} {a l : Addr} {as : List Addr} {t : Nat} {sp : List Span} (h : ConvAt CC CS H a l as t sp) (s : Same H H') : ConvAt CC CS H' a l as t sp := h.keep fun b o e _ => s b o e
theorem ConvAt.get {CC CS : Addr} {H : Hp} {a l : Addr} {as : List Addr} {t : Nat} {sp : List Span} (h : ConvAt CC CS H a l as t sp) {j : Nat} {b : Addr} (hb : as[j]? = some b) : ∃ x, sp[j]? = some x ∧ StretchAt CS H b x := by
  have hj : j < sp.length := by rw [← h.len]; exact (List.getElem?_eq_some_iff.mp hb).1
  exact ⟨_, List.getElem?_eq_getElem hj, h.at_ j b _ hb (List.getElem?_eq_getElem hj)⟩
theorem find_at {α : Type} {g : α → Bool} : ∀ {l : List α} {i : Nat} {x : α}, (∀ y ∈ l.take i, g y = false) → l[i]? = some x → g x = true → l.find? g = some x
  | [], i, x, _, h, _ => by simp at h
  | y :: l, 0, x, _, h, hg => by
    have e : y = x := by simpa using h
    subst e
    rw [List.find?_cons, hg]
  | y :: l, i + 1, x, hn, h, hg => by
    rw [List.find?_cons, hn y (by simp)]
    exact find_at (fun z hz => hn z (by rw [List.take_succ_cons]; exact List.mem_cons_of_mem _ hz)) (by simpa using h) hg
theorem take_mem {α : Type} {g : α → Prop} {l : List α} {i : Nat} {x : α} (h : l[i]? = some x) (h1 : ∀ y ∈ l.take i, g y) (h2 : g x) : ∀ y ∈ l.take (i + 1), g y := fun y hy => by
  rw [take_snoc h] at hy
  rcases List.mem_append.mp hy with q | q
  · exact h1 y q
  · obtain rfl : y = x := by simpa using q
    exact h2
section
variable {P : Program} {w : World} {K : PySem.W.Frag} {mg : Str → Option Value} {base : Heap}
def spStretchInit (C : Addr) : Sp := fun vs H Q _ => ∃ (p dx : Addr) (x : Span), vs = [.ref p, .int x.1, .int x.2.1, .int x.2.2] ∧ H p = some (.ins C dx []) ∧ ∀ H' : Hp, StretchAt C H' p x → (∀ b o, H b = some o → b ≠ p → H' b = some o) → Q .non H'
theorem scStretchInit : FnScope ["self", "road_number", "comes", "leaves"] ["self", "road_number", "comes", "leaves"] (defScope sStretchInit) := ⟨rfl, rfl, rfl, by decide +kernel, rfl, by decide +kernel, by decide +kernel⟩
theorem ok_stretchInit {f C : Addr} {fd : FuncData} (F : Fun K "__init__" "Stretch.__init__" sStretchInit f fd) (T : ClsA K C nsStretch) : FnOk P w K mg base CX0 1 f fd ["self", "road_number", "comes", "leaves"] (spStretchInit C) := by
  refine F.ok scStretchInit (fun vs H Q E h => ?_) (fun cdv A outer s H vs Q E hr h => ?_)
  · obtain ⟨p, dx, x, rfl, _⟩ := h
    rfl
  · obtain ⟨p, dx, x, rfl, hp, k⟩ := h
    refine ⟨_, pss_cons (ps_fld (pv 0) (pv 1) rfl) (pss_cons (ps_fld (pv 0) (pv 2) rfl) (pss_one (ps_fld (pv 0) (pv 3) rfl))), ?_⟩
    refine ⟨_, rfl, _, rfl, p, C, dx, [], rfl, hp, T.cl, T.no _ (by simp), (by show 0 < 1000; decide), ?_⟩
    refine ⟨_, rfl, _, rfl, p, C, dx, _, rfl, upd_same, T.cl, T.no _ (by simp), (by show 1 < 1000; decide), ?_⟩
    refine ⟨_, rfl, _, rfl, p, C, dx, _, rfl, upd_same, T.cl, T.no _ (by simp), (by show 2 < 1000; decide), ?_⟩
    exact k _ ⟨dx, upd_same⟩ fun b o e hb => by rw [upd_ne hb, upd_ne hb, upd_ne hb]; exact e
def spHolds (C : Addr) : Sp := fun vs H Q _ => ∃ (a : Addr) (x : Span) (t : Nat), vs = [.ref a, .int t] ∧ StretchAt C H a x ∧ Q (.bl (Bend.holds t x)) H
theorem scHolds : FnScope ["self", "minute"] ["self", "minute"] (defScope sHolds) := ⟨rfl, rfl, rfl, by decide +kernel, rfl, by decide +kernel, by decide +kernel⟩
theorem ok_holds {f C : Addr} {fd : FuncData} (F : Fun K "holds" "Stretch.holds" sHolds f fd) (T : ClsA K C nsStretch) : FnOk P w K mg base CX0 1 f fd ["self", "minute"] (spHolds C) := by
  refine F.ok scHolds (fun vs H Q E h => ?_) (fun cdv A outer s H vs Q E hr h => ?_)
  · obtain ⟨a, x, t, rfl, _⟩ := h
    rfl
  · obtain ⟨a, x, t, rfl, ⟨dx, h1⟩, k⟩ := h
    refine ⟨_, pss_one (ps_ret (pe_and (pe_cmpR op_le (pe_fld (pv 0) rfl) (pv 1) (nomark _)) (pe_one (pe_cmpR op_lt (pv 1) (pe_fld (pv 0) rfl) (nomark _))))), ?_⟩
    unfold Bend.holds at k
    rw [← dec_cast, ← dec_lt] at k
    refine ⟨_, rfl, a, C, dx, _, _, rfl, h1, T.cl, T.no _ (by simp), rfl, _, rfl, _, _, rfl, rfl, _, rfl, ite2 (fun c => ?_) (fun c => ?_)⟩
    · refine ⟨_, rfl, _, rfl, a, C, dx, _, _, rfl, h1, T.cl, T.no _ (by simp), rfl, _, _, rfl, rfl, ?_⟩
      rw [c, Bool.true_and] at k
      exact k
    · rw [Bool.eq_false_iff.mpr c, Bool.false_and] at k
      exact k
def spMeets (C : Addr) : Sp := fun vs H Q _ => ∃ (a b : Addr) (x y : Span), vs = [.ref a, .ref b] ∧ StretchAt C H a x ∧ StretchAt C H b y ∧ Q (.bl (Bend.meets x y)) H
theorem scMeets : FnScope ["self", "other"] ["self", "other"] (defScope sMeets) := ⟨rfl, rfl, rfl, by decide +kernel, rfl, by decide +kernel, by decide +kernel⟩
theorem dec_eqV (a b : Nat) : decide (V.int a = V.int b) = (a == b) := by
  by_cases h : a = b
  · subst h; simp
  · rw [(beq_eq_false_iff_ne.mpr h : (a == b) = false)]
    exact decide_eq_false fun z => h (by have := V.int.inj z; omega)
theorem ok_meets {f C : Addr} {fd : FuncData} (F : Fun K "meets" "Stretch.meets" sMeets f fd) (T : ClsA K C nsStretch) : FnOk P w K mg base CX0 1 f fd ["self", "other"] (spMeets C) := by
  refine F.ok scMeets (fun vs H Q E h => ?_) (fun cdv A outer s H vs Q E hr h => ?_)
  · obtain ⟨a, b, x, y, rfl, _⟩ := h
    rfl
  · obtain ⟨a, b, x, y, rfl, ⟨dx, h1⟩, ⟨dy, h2⟩, k⟩ := h
    refine ⟨_, pss_one (ps_ret (pe_and (pe_cmpR op_eq (pe_fld (pv 0) rfl) (pe_fld (pv 1) rfl) (nomark _)) (pe_and (pe_cmpR op_lt (pe_fld (pv 0) rfl) (pe_fld (pv 1) rfl) (nomark _)) (pe_one (pe_cmpR op_lt (pe_fld (pv 1) rfl) (pe_fld (pv 0) rfl) (nomark _)))))), ?_⟩
    unfold Bend.meets at k
    rw [← dec_eqV, ← dec_lt, ← dec_lt, Bool.and_assoc] at k
    refine ⟨_, rfl, a, C, dx, _, _, rfl, h1, T.cl, T.no _ (by simp), rfl, _, rfl, b, C, dy, _, _, rfl, h2, T.cl, T.no _ (by simp), rfl, rfl, _, rfl, ite2 (fun c => ?_) (fun c => ?_)⟩
    · rw [c, Bool.true_and] at k
      refine ⟨_, rfl, a, C, dx, _, _, rfl, h1, T.cl, T.no _ (by simp), rfl, _, rfl, b, C, dy, _, _, rfl, h2, T.cl, T.no _ (by simp), rfl, _, _, rfl, rfl, _, rfl, ite2 (fun c => ?_) (fun c => ?_)⟩
      · refine ⟨_, rfl, b, C, dy, _, _, rfl, h2, T.cl, T.no _ (by simp), rfl, _, rfl, a, C, dx, _, _, rfl, h1, T.cl, T.no _ (by simp), rfl, _, _, rfl, rfl, ?_⟩
        rw [c, Bool.true_and] at k
        exact k
      · rw [Bool.eq_false_iff.mpr c, Bool.false_and] at k
        exact k
    · rw [Bool.eq_false_iff.mpr c, Bool.false_and] at k
      exact k
def spConvoyInit (C : Addr) : Sp := fun vs H Q _ => ∃ (p dx : Addr) (t : Nat) (l : Addr), vs = [.ref p, .int t, .ref l] ∧ H p = some (.ins C dx []) ∧ ∀ H' : Hp, (∃ dx, H' p = some (.ins C dx (cf t l))) → (∀ b o, H b = some o → b ≠ p → H' b = some o) → Q .non H'
theorem scConvoyInit : FnScope ["self", "sets_out", "stretches"] ["self", "sets_out", "stretches"] (defScope sConvoyInit) := ⟨rfl, rfl, rfl, by decide +kernel, rfl, by decide +kernel, by decide +kernel⟩
theorem ok_convoyInit {f C : Addr} {fd : FuncData} (F : Fun K "__init__" "Convoy.__init__" sConvoyInit f fd) (T : ClsA K C nsConvoy) : FnOk P w K mg base CX0 1 f fd ["self", "sets_out", "stretches"] (spConvoyInit C) := by
  refine F.ok scConvoyInit (fun vs H Q E h => ?_) (fun cdv A outer s H vs Q E hr h => ?_)
  · obtain ⟨p, dx, t, l, rfl, _⟩ := h
    rfl
  · obtain ⟨p, dx, t, l, rfl, hp, k⟩ := h
    refine ⟨_, pss_cons (ps_fld (pv 0) (pv 1) rfl) (pss_one (ps_fld (pv 0) (pv 2) rfl)), ?_⟩
    refine ⟨_, rfl, _, rfl, p, C, dx, [], rfl, hp, T.cl, T.no _ (by simp), (by show 0 < 1000; decide), ?_⟩
    refine ⟨_, rfl, _, rfl, p, C, dx, _, rfl, upd_same, T.cl, T.no _ (by simp), (by show 1 < 1000; decide), ?_⟩
    exact k _ ⟨dx, upd_same⟩ fun b o e hb => by rw [upd_ne hb, upd_ne hb]; exact e
def spStretchIn (CC CS : Addr) : Sp := fun vs H Q _ => ∃ (a l : Addr) (as : List Addr) (t T : Nat) (sp : List Span), vs = [.ref a, .int T] ∧ ConvAt CC CS H a l as t sp ∧
  (∀ (b : Addr) (x : Span), StretchAt CS H b x → sp.find? (Bend.holds T) = some x → Q (.ref b) H) ∧ (sp.find? (Bend.holds T) = none → Q .non H)
theorem scStretchIn : FnScope ["self", "minute", "stretch"] ["self", "minute"] (defScope sStretchIn) := ⟨rfl, rfl, rfl, by decide +kernel, rfl, by decide +kernel, by decide +kernel⟩
theorem ok_stretchIn {f CC CS fH : Addr} {fd fdH : FuncData} (F : Fun K "stretch_in" "Convoy.stretch_in" sStretchIn f fd) (TC : ClsA K CC nsConvoy) (TS : ClsA K CS nsStretch) (FH : Fun K "holds" "Stretch.holds" sHolds fH fdH) (mH : Meth K CS "holds" fH) (bH : Binds K fdH ["self", "minute"] []) :
    FnOk P w K mg base CX0 2 f fd ["self", "minute"] (spStretchIn CC CS) := by
  have GH : FnOk P w K mg base CX0 1 fH fdH ["self", "minute"] (spHolds CS) := ok_holds FH TS
  refine F.ok scStretchIn (fun vs H Q E h => ?_) (fun cdv A outer s H vs Q E hr h => ?_)
  · obtain ⟨a, l, as, t, T, sp, rfl, _⟩ := h
    rfl
  · obtain ⟨a, l, as, t, T, sp, rfl, hC, k1, k2⟩ := h
    obtain ⟨dc, hobj⟩ := id hC.obj
    refine ⟨_, pss_cons (ps_for PassesOwn.never rfl (pi_list (pe_fld (pv 0) rfl)) (pg_name (i := 2) scStretchIn.nd rfl (Or.inl rfl)) (pss_one (ps_if (pt_val (pe_meth (pv 2) TS.cl mH GH hr bH .nil pass0 (pa_cons (pv 1) pa_nil))) (pss_one (ps_ret (pv 2))) pss_nil))) (pss_one (ps_ret pe_non)), ?_⟩
    refine ⟨_, rfl, a, CC, dc, _, _, rfl, hobj, TC.cl, TC.no _ (by simp), rfl, l, rfl, ⟨_, SqL.of hC.lst⟩, for_list (K := K) (a := l) (xs := as.map V.ref) (fun i σ H' => H' = H ∧ (∃ v2 : Option V, σ = [some (.ref a), some (.int T), v2]) ∧ ∀ x ∈ sp.take i, Bend.holds T x = false) ⟨rfl, ⟨none, rfl⟩, fun x hx => by simp at hx⟩ (fun i σ H' _ h => by rw [h.1]; exact SqL.of hC.lst) ?_ ?_⟩
    · rintro i y σ H' hy ⟨rfl, ⟨v2, rfl⟩, hno⟩
      obtain ⟨b, hb, rfl⟩ := as_at hy
      obtain ⟨x, hx, ⟨db, hs⟩⟩ := hC.get hb
      refine ⟨_, rfl, b, db, _, rfl, hs, rfl, _, rfl, b, x, T, rfl, ⟨db, hs⟩, _, rfl, ite2 (fun c => ?_) (fun c => ?_)⟩
      · exact ⟨_, rfl, k1 b x ⟨db, hs⟩ (find_at hno hx c)⟩
      · exact ⟨rfl, ⟨_, rfl⟩, take_mem hx hno (Bool.eq_false_iff.mpr c)⟩
    · rintro σ H' ⟨rfl, ⟨v2, rfl⟩, hno⟩
      refine k2 (List.find?_eq_none.mpr fun x hx => ?_)
      rw [List.length_map, hC.len, List.take_length] at hno
      rw [hno x hx]
      decide
def spConvoyBy (CN CR CC CS : Addr) : Sp := fun vs H Q _ => ∃ (net lr l : Addr) (t : Nat) (ps : List Nat) (as : List Addr) (m : Kqv6.Map_), vs = [.ref net, .ref lr, .int t] ∧ NetAt CN H net m.places l ∧ RoadsAt CR H l as m.roads ∧ H lr = some (.lst (pl ps)) ∧ (∀ r ∈ ps, r < m.roads.length) ∧ ps.length < 100 ∧
  ∀ (H' : Hp) (c lc : Addr) (cs : List Addr), Same H H' → H c = none → H lc = none → (∀ b ∈ cs, H b = none) → ConvAt CC CS H' c lc cs t (Kqv6.times m t ps) → Q (.ref c) H'
theorem scConvoyBy : FnScope ["network", "roads", "sets_out", "stretches", "minute", "r", "leaves"] ["network", "roads", "sets_out"] (defScope sConvoyBy) := ⟨rfl, rfl, rfl, by decide +kernel, rfl, by decide +kernel, by decide +kernel⟩
set_option maxHeartbeats 8000000 in
theorem ok_convoyBy {f CN CR CC CS fS fC : Addr} {fd fdS fdC : FuncData} (F : Fun K "convoy_by" "convoy_by" sConvoyBy f fd) (TN : ClsA K CN nsNet) (TR : ClsA K CR nsRoad)
    (MS : Mk K CS fS) (mgS : mg "Stretch" = some (.ref CS)) (GS : FnOk P w K mg base CX0 1 fS fdS ["self", "road_number", "comes", "leaves"] (spStretchInit CS)) (bS : Binds K fdS ["self", "road_number", "comes", "leaves"] [])
    (MC : Mk K CC fC) (mgC : mg "Convoy" = some (.ref CC)) (GC : FnOk P w K mg base CX0 1 fC fdC ["self", "sets_out", "stretches"] (spConvoyInit CC)) (bC : Binds K fdC ["self", "sets_out", "stretches"] []) :
    FnOk P w K mg base CX0 3 f fd ["network", "roads", "sets_out"] (spConvoyBy CN CR CC CS) := by
  refine F.ok scConvoyBy (fun vs H Q E h => ?_) (fun cdv A outer s H vs Q E hr h => ?_)
  · obtain ⟨net, lr, l, t, ps, as, m, rfl, _⟩ := h
    rfl
  · obtain ⟨net, lr, l, t, ps, as, m, rfl, ⟨dd, dn, hN⟩, hR, hlr, hps, hlen, k⟩ := h
    refine ⟨_, pss_cons (ps_set (i := 3) scConvoyBy.nd rfl (Or.inl rfl) (pe_lst pa_nil)) (pss_cons (ps_set (i := 4) scConvoyBy.nd rfl (Or.inl rfl) (pv 2))
      (pss_cons (ps_for PassesOwn.never rfl (pi_list (pv 1)) (pg_name (i := 5) scConvoyBy.nd rfl (Or.inl rfl))
        (pss_cons (ps_set (i := 6) scConvoyBy.nd rfl (Or.inl rfl) (pe_op op_add (pv 4) (pe_fld (pe_ix ix_list (pe_fld (pv 0) rfl) (pv 5) (fun _ _ => rfl)) rfl)))
        (pss_cons (ps_expr (pe_bm PySem.F.plainAttrs_list PySem.F.slot_list_append PySem.F.type_list_append mt_append (pv 3) (pa_cons (pe_make MS GS hr rfl mgS bS .nil pass0 (pa_cons (pv 5) (pa_cons (pv 4) (pa_cons (pv 6) pa_nil)))) pa_nil)))
        (pss_one (ps_set (i := 4) scConvoyBy.nd rfl (Or.inl rfl) (pv 6))))))
      (pss_one (ps_ret (pe_make MC GC hr rfl mgC bC .nil pass0 (pa_cons (pv 2) (pa_cons (pv 3) pa_nil))))))), ?_⟩
    refine ⟨Nat.zero_le _, fun D hD => ⟨_, rfl, _, rfl, lr, rfl, ⟨_, SqL.of (by rw [upd_ne (ne_of_none hlr hD)]; exact hlr)⟩, for_list (K := K) (a := lr) (xs := pl ps) (fun j σ H' => ∃ (bs : List Addr) (u : Nat) (v5 v6 : Option V), σ = [some (.ref net), some (.ref lr), some (.int t), some (.ref D), some (.int u), v5, v6] ∧ u = t + ((ps.take j).map (Kqv6.minutesOf m)).sum ∧
      H' D = some (.lst (bs.map V.ref)) ∧ bs.length = j ∧ Same H H' ∧ (∀ b ∈ bs, H b = none) ∧ ∀ (i : Nat) (b : Addr) (x : Span), bs[i]? = some b → (Kqv6.times m t (ps.take j))[i]? = some x → StretchAt CS H' b x)
      ⟨[], t, none, none, rfl, by simp, upd_same, rfl, fun b o e => by rw [upd_ne (ne_of_none e hD)]; exact e, fun b hb => by simp at hb, fun i b x h _ => by simp at h⟩ (fun j σ H' _ ⟨_, _, _, _, _, _, _, _, s', _⟩ => SqL.of (s' _ _ hlr)) ?_ ?_⟩⟩
    · rintro j y σ H' hy ⟨bs, u, v5, v6, rfl, hu, hD', hbl, s1, hfr, hat⟩
      obtain ⟨r, hr', rfl⟩ := pl_at hy
      have hrl : r < m.roads.length := hps r (List.mem_of_getElem? hr')
      have hj : j < ps.length := (List.getElem?_eq_some_iff.mp hr').1
      obtain ⟨x, ex⟩ : ∃ x, m.roads[r]? = some x := ⟨_, List.getElem?_eq_getElem hrl⟩
      obtain ⟨ar, ea⟩ : ∃ ar, as[r]? = some ar := ⟨_, List.getElem?_eq_getElem (by rw [hR.len]; exact hrl)⟩
      obtain ⟨dr, hra⟩ := hR.at_ r ar x ea ex
      have em : Kqv6.minutesOf m r = x.minutes := by unfold Kqv6.minutesOf; rw [ex]; rfl
      refine ⟨_, rfl, _, rfl, net, CN, dn, _, _, rfl, s1 _ _ hN, TN.cl, TN.no _ (by simp), rfl, _, rfl, l, _, _, _, rfl, rfl, SqL.of (s1 _ _ hR.lst), at_of (j := r) (v := V.ref ar) rfl (by rw [List.getElem?_map, ea]; rfl), ar, CR, dr, _, _, rfl, s1 _ _ hra, TR.cl, TR.no _ (by simp), rfl, _, _, rfl, rfl, ?_⟩
      have eL : ((u : Int) + (x.minutes : Int)) = ((u + x.minutes : Nat) : Int) := by omega
      show gName 6 (V.int ((u : Int) + (x.minutes : Int))) _ _ _
      rw [eL]
      refine ⟨_, rfl, .inl ⟨rfl, _, SqL.of hD'⟩, _, rfl, _, rfl, _, rfl, fun x0 d0 n0 m0 e0 => ⟨x0, d0, (r, u, u + x.minutes), rfl, upd_same, fun H1 hS1 kp => ⟨rfl, ?_⟩⟩⟩
      have s2 : Same H' H1 := Same.made n0 m0 kp
      have hD1 : H1 D = some (.lst (bs.map V.ref)) := s2 _ _ hD'
      have nxD : x0 ≠ D := fun z => by rw [z, hD'] at n0; cases n0
      refine ⟨D, _, _, rfl, rfl, hD1, by rw [List.length_map, hbl]; exact Nat.lt_of_lt_of_le (show j < 100 by omega) (by decide), ?_⟩
      obtain ⟨u', t1, t2⟩ := Bend.times_snoc m r (ps.take j) t
      have eu : u' = u := by rw [t2, hu]
      subst eu
      have etk := take_snoc hr'
      refine ⟨_, rfl, bs ++ [x0], u' + x.minutes, _, _, rfl, ?_, ?_, ?_, fun b o e => ?_, fun b hb => ?_, fun i b z h1 h2 => ?_⟩
      · rw [etk, List.map_append, List.sum_append, hu]
        show _ = t + (_ + (Kqv6.minutesOf m r + 0))
        rw [em]
        omega
      · rw [upd_same, List.map_append]
        rfl
      · rw [List.length_append, hbl]
        rfl
      · rw [upd_ne (ne_of_none e hD)]
        exact s2 _ _ (s1 b o e)
      · rcases List.mem_append.mp hb with q | q
        · exact hfr b q
        · obtain rfl : b = x0 := by simpa using q
          exact s1.free n0
      · rw [etk, t1] at h2
        have tl : (Kqv6.times m t (ps.take j)).length = j := by rw [Bend.times_length, List.length_take]; omega
        by_cases hi : i < bs.length
        · rw [List.getElem?_append_left hi] at h1
          rw [List.getElem?_append_left (by rw [tl, ← hbl]; exact hi)] at h2
          obtain ⟨dz, ez⟩ := hat i b z h1 h2
          exact ⟨dz, by rw [upd_ne (ne_of ez hD' (by intro q; cases q))]; exact s2 _ _ ez⟩
        · have hi2 : i = bs.length := by
            have := (List.getElem?_eq_some_iff.mp h1).1
            rw [List.length_append] at this
            simp at this
            omega
          subst hi2
          rw [List.getElem?_append_right (Nat.le_refl _), Nat.sub_self] at h1
          rw [List.getElem?_append_right (by rw [tl, hbl]; exact Nat.le_refl _), tl, hbl, Nat.sub_self] at h2
          have e1 : x0 = b := Option.some.inj h1
          have e2 : (r, u', u' + Kqv6.minutesOf m r) = z := Option.some.inj h2
          rw [em] at e2
          subst e1 e2
          obtain ⟨dz, ez⟩ := hS1
          exact ⟨dz, by rw [upd_ne nxD]; exact ez⟩
    · rintro σ H' ⟨bs, u, v5, v6, rfl, hu, hD', hbl, s1, hfr, hat⟩
      rw [pl_length] at hbl hat
      rw [List.take_length] at hat
      refine ⟨_, rfl, _, rfl, fun x0 d0 n0 m0 e0 => ⟨x0, d0, t, D, rfl, upd_same, fun H1 hC1 kp => ⟨rfl, ?_⟩⟩⟩
      have s2 : Same H' H1 := Same.made n0 m0 kp
      refine k H1 x0 D bs (s1.trans s2) (s1.free n0) hD hfr ⟨hC1, s2 _ _ hD', by rw [hbl, Bend.times_length], fun i b z h1 h2 => ?_⟩
      obtain ⟨dz, ez⟩ := hat i b z h1 h2
      exact ⟨dz, s2 _ _ ez⟩
end
end BP
end
section
namespace BP
open PySem PySem.Spec PyProof.Rows L2
open Bend (Span)
def cd (ks : List Nat) (ca : Nat → Addr) : List (Key × V) := ks.map fun (k : Nat) => ((Sum.inl (k : Int) : Key), V.ref (ca k))
theorem cd_val (ca : Nat → Addr) (k : Nat) : ∀ ks : List Nat, valV (cd ks ca) (Sum.inl (k : Int)) = if k ∈ ks then some (.ref (ca k)) else none
  | [] => rfl
  | j :: ks => by
    have ih := cd_val ca k ks
    by_cases h : j = k
    · subst h
      rw [if_pos (by simp)]
      exact valV_pos rfl
    · have e : valV (cd (j :: ks) ca) (Sum.inl (k : Int)) = valV (cd ks ca) (Sum.inl (k : Int)) := valV_neg fun z => h (by have := Sum.inl.inj z; omega)
      rw [e, ih]
      by_cases q : k ∈ ks
      · rw [if_pos q, if_pos (List.mem_cons_of_mem _ q)]
      · rw [if_neg q, if_neg (fun z => by rcases List.mem_cons.mp z with y | y; (· exact h y.symm); exact q y)]
theorem cd_length (ks : List Nat) (ca : Nat → Addr) : (cd ks ca).length = ks.length := by unfold cd; rw [List.length_map]
theorem cd_at {ks : List Nat} {ca : Nat → Addr} {i : Nat} {k : Key} {x : V} (h : (cd ks ca)[i]? = some (k, x)) : ∃ n : Nat, ks[i]? = some n ∧ x = V.ref (ca n) := by
  unfold cd at h
  rw [List.getElem?_map] at h
  cases e : ks[i]? with
  | none => rw [e] at h; cases h
  | some n =>
    rw [e] at h
    exact ⟨n, rfl, (congrArg Prod.snd (Option.some.inj h)).symm⟩
theorem cd_keys (ks : List Nat) (ca : Nat → Addr) : (cd ks ca).map (·.1) = (ks.map fun (k : Nat) => (k : Int)).map (fun k => (Sum.inl k : Key)) := by
  unfold cd
  rw [List.map_map, List.map_map]
  rfl
structure ConvsAt (CC CS : Addr) (H : Hp) (d : Addr) (m : Kqv6.Map_) (ks : List Nat) (ca cl : Nat → Addr) (cs : Nat → List Addr) : Prop where
  dict : H d = some (.dK (cd ks ca))
  nd : ks.Nodup
  few : ks.length ≤ 8
  mem : ∀ k, k ∈ ks ↔ Bend.isAt m k = true
  at_ : ∀ (k : Nat) (c : Kqv6.Convoy), m.convoys.getD k none = some c → ConvAt CC CS H (ca k) (cl k) (cs k) c.minute (Kqv6.spans m c)
  ok : ∀ (k : Nat) (c : Kqv6.Convoy), m.convoys.getD k none = some c → (∀ r ∈ c.roads, r < m.roads.length) ∧ c.roads.length < 100
def cvs (ks : List Nat) (ca cl : Nat → Addr) (cs : Nat → List Addr) : List Addr := ks.flatMap fun k => ca k :: cl k :: cs k
theorem mem_cvs {ks : List Nat} {ca cl : Nat → Addr} {cs : Nat → List Addr} {b : Addr} : b ∈ cvs ks ca cl cs ↔ ∃ k ∈ ks, b = ca k ∨ b = cl k ∨ b ∈ cs k := by
  unfold cvs
  rw [List.mem_flatMap]
  constructor
  · rintro ⟨k, h1, h2⟩
    refine ⟨k, h1, ?_⟩
    simpa using h2
  · rintro ⟨k, h1, h2⟩
    exact ⟨k, h1, by simpa using h2⟩
theorem isAt_some {m : Kqv6.Map_} {k : Nat} (h : Bend.isAt m k = true) : ∃ c, m.convoys.getD k none = some c := by
  unfold Bend.isAt at h
  exact Option.isSome_iff_exists.mp h
theorem isAt_of {m : Kqv6.Map_} {k : Nat} {c : Kqv6.Convoy} (h : m.convoys.getD k none = some c) : Bend.isAt m k = true := by
  unfold Bend.isAt
  rw [h]
  rfl
theorem ConvsAt.move {CC CS : Addr} {H H' : Hp} {d : Addr} {m m' : Kqv6.Map_} {ks : List Nat} {ca cl : Nat → Addr} {cs : Nat → List Addr} (h : ConvsAt CC CS H d m ks ca cl cs) (k : ∀ b o, H b = some o → (b = d ∨ b ∈ cvs ks ca cl cs) → H' b = some o)
    (hc : m'.convoys = m.convoys) (hm : ∀ r, r < m.roads.length → Kqv6.minutesOf m' r = Kqv6.minutesOf m r) (hl : m.roads.length ≤ m'.roads.length) : ConvsAt CC CS H' d m' ks ca cl cs := by
  refine ⟨k _ _ h.dict (.inl rfl), h.nd, h.few, fun j => ?_, fun j c e => ?_, fun j c e => ?_⟩
  · rw [h.mem]
    unfold Bend.isAt
    rw [hc]
  · rw [hc] at e
    have e1 := h.at_ j c e
    have e2 : Kqv6.spans m' c = Kqv6.spans m c := Bend.times_congr _ fun r hr => hm r ((h.ok j c e).1 r hr)
    rw [e2]
    exact e1.keep fun b o q hb => k b o q (.inr (mem_cvs.mpr ⟨j, (h.mem j).mpr (isAt_of e), hb⟩))
  · rw [hc] at e
    obtain ⟨a1, a2⟩ := h.ok j c e
    exact ⟨fun r hr => Nat.lt_of_lt_of_le (a1 r hr) hl, a2⟩
theorem ConvsAt.same {CC CS : Addr} {H H' : Hp} {d : Addr} {m : Kqv6.Map_} {ks : List Nat} {ca cl : Nat → Addr} {cs : Nat → List Addr} (h : ConvsAt CC CS H d m ks ca cl cs) (s : Same H H') : ConvsAt CC CS H' d m ks ca cl cs :=
  h.move (fun b o e _ => s b o e) rfl (fun _ _ => rfl) (Nat.le_refl _)
theorem ConvsAt.kind {CC CS : Addr} {H : Hp} {d : Addr} {m : Kqv6.Map_} {ks : List Nat} {ca cl : Nat → Addr} {cs : Nat → List Addr} (h : ConvsAt CC CS H d m ks ca cl cs) {b : Addr} (hb : b ∈ cvs ks ca cl cs) :
    (∃ C dx t l, H b = some (.ins C dx (cf t l))) ∨ (∃ C dx x, H b = some (.ins C dx (sf x))) ∨ (∃ k ∈ ks, b = cl k ∧ ∃ xs, H b = some (.lst xs)) := by
  obtain ⟨k, hk, hb⟩ := mem_cvs.mp hb
  obtain ⟨c, hc⟩ := isAt_some ((h.mem k).mp hk)
  have hC := h.at_ k c hc
  rcases hb with rfl | rfl | hb
  · obtain ⟨dx, e⟩ := hC.obj
    exact .inl ⟨_, dx, _, _, e⟩
  · exact .inr (.inr ⟨k, hk, rfl, _, hC.lst⟩)
  · obtain ⟨j, hj⟩ := List.getElem?_of_mem hb
    obtain ⟨x, _, dx, e⟩ := hC.get hj
    exact .inr (.inl ⟨_, dx, x, e⟩)
theorem ConvsAt.some {CC CS : Addr} {H : Hp} {d : Addr} {m : Kqv6.Map_} {ks : List Nat} {ca cl : Nat → Addr} {cs : Nat → List Addr} (h : ConvsAt CC CS H d m ks ca cl cs) {b : Addr} (hb : b ∈ cvs ks ca cl cs) : ∃ o, H b = some o := by
  rcases h.kind hb with ⟨_, _, _, _, e⟩ | ⟨_, _, _, e⟩ | ⟨_, _, _, _, e⟩
  · exact ⟨_, e⟩
  · exact ⟨_, e⟩
  · exact ⟨_, e⟩
def WaitB (a b : List Span) (w : Nat) : Prop := (w = 0 ∧ ∀ p ∈ a, ∀ q ∈ b, Bend.meets p q = false) ∨ (0 < w ∧ ∃ p ∈ a, ∃ q ∈ b, Bend.meets p q = true ∧ q.2.2 = p.2.1 + w)
structure WsOk (a b : List Span) (i j : Nat) (ws : List Int) : Prop where
  zero : (0 : Int) ∈ ws
  all : ∀ w ∈ ws, w = 0 ∨ ∃ p ∈ a, ∃ q ∈ b, Bend.meets p q = true ∧ w = (q.2.2 : Int) - p.2.1
  got : ∀ (i' j' : Nat) (p q : Span), a[i']? = some p → b[j']? = some q → (i' < i ∨ (i' = i ∧ j' < j)) → Bend.meets p q = true → ((q.2.2 : Int) - p.2.1) ∈ ws
  len : ws.length ≤ 1 + i * b.length + j
theorem WsOk.start (a b : List Span) : WsOk a b 0 0 [0] := ⟨by simp, fun w hw => .inl (by simpa using hw), fun i' j' p q _ _ h => by omega, by simp⟩
theorem WsOk.yes {a b : List Span} {i j : Nat} {ws : List Int} {p q : Span} (h : WsOk a b i j ws) (hp : a[i]? = some p) (hq : b[j]? = some q) (c : Bend.meets p q = true) : WsOk a b i (j + 1) (ws ++ [(q.2.2 : Int) - p.2.1]) := by
  refine ⟨List.mem_append_left _ h.zero, fun w hw => ?_, fun i' j' p' q' h1 h2 h3 h4 => ?_, ?_⟩
  · rcases List.mem_append.mp hw with z | z
    · exact h.all w z
    · exact .inr ⟨p, List.mem_of_getElem? hp, q, List.mem_of_getElem? hq, c, by simpa using z⟩
  · by_cases z : i' = i ∧ j' = j
    · obtain ⟨rfl, rfl⟩ := z
      rw [hp] at h1
      rw [hq] at h2
      cases h1
      cases h2
      simp
    · exact List.mem_append_left _ (h.got i' j' p' q' h1 h2 (by omega) h4)
  · have := h.len
    rw [List.length_append]
    simp
    omega
theorem WsOk.no {a b : List Span} {i j : Nat} {ws : List Int} {p q : Span} (h : WsOk a b i j ws) (hp : a[i]? = some p) (hq : b[j]? = some q) (c : ¬ Bend.meets p q = true) : WsOk a b i (j + 1) ws := by
  refine ⟨h.zero, h.all, fun i' j' p' q' h1 h2 h3 h4 => ?_, by have := h.len; omega⟩
  by_cases z : i' = i ∧ j' = j
  · obtain ⟨rfl, rfl⟩ := z
    rw [hp] at h1
    rw [hq] at h2
    cases h1
    cases h2
    exact absurd h4 c
  · exact h.got i' j' p' q' h1 h2 (by omega) h4
theorem WsOk.next {a b : List Span} {i : Nat} {ws : List Int} (h : WsOk a b i b.length ws) : WsOk a b (i + 1) 0 ws := by
  refine ⟨h.zero, h.all, fun i' j' p' q' h1 h2 h3 h4 => h.got i' j' p' q' h1 h2 ?_ h4, ?_⟩
  · have := (List.getElem?_eq_some_iff.mp h2).1
    omega
  · have := h.len
    rw [Nat.succ_mul]
    omega
theorem WsOk.max {a b : List Span} {j : Nat} {ws : List Int} {m : Int} (h : WsOk a b a.length j ws) (h1 : m ∈ ws) (h2 : ∀ y, y ∈ ws → y ≤ m) : ∃ w : Nat, m = w ∧ WaitB a b w := by
  have h0 := h2 0 h.zero
  by_cases hz : m = 0
  · refine ⟨0, hz, .inl ⟨rfl, fun p hp q hq => ?_⟩⟩
    apply Bool.eq_false_iff.mpr
    intro c
    obtain ⟨i', hi⟩ := List.getElem?_of_mem hp
    obtain ⟨j', hj⟩ := List.getElem?_of_mem hq
    have g := h2 _ (h.got i' j' p q hi hj (.inl (List.getElem?_eq_some_iff.mp hi).1) c)
    have c' := (Bend.meets_iff p q).mp c
    omega
  · rcases h.all m h1 with z | ⟨p, hp, q, hq, c, e⟩
    · exact absurd z hz
    · exact ⟨m.toNat, by omega, .inr ⟨by omega, p, hp, q, hq, c, by omega⟩⟩
theorem wait_all {m : Kqv6.Map_} {c : Kqv6.Convoy} {ks : List Nat} {ws : List Int} (hks : ∀ k, k ∈ ks ↔ Bend.isAt m k = true) (hl : ws.length = ks.length)
    (hw : ∀ (j : Nat) (w : Int), ws[j]? = some w → ∃ (k : Nat) (d : Kqv6.Convoy) (n : Nat), ks[j]? = some k ∧ m.convoys.getD k none = some d ∧ w = n ∧ WaitB (Kqv6.spans m c) (Kqv6.spans m d) n) :
    (ws = [] → Bend.Wait m c 0) ∧ ∀ x, x ∈ ws → (∀ y, y ∈ ws → y ≤ x) → ∃ n : Nat, x = n ∧ Bend.Wait m c n := by
  have none_meets : (∀ y, y ∈ ws → y ≤ 0) → Bend.Wait m c 0 := fun h => by
    refine .inl ⟨rfl, Bend.free_true fun d hd x hx y hy => ?_⟩
    obtain ⟨k, d⟩ := d
    have hk := Bend.mem_all.mp hd
    obtain ⟨j, hj⟩ := List.getElem?_of_mem ((hks k).mpr (isAt_of hk))
    have hjl : j < ws.length := by rw [hl]; exact (List.getElem?_eq_some_iff.mp hj).1
    obtain ⟨k', d', n, e1, e2, e3, e4⟩ := hw j _ (List.getElem?_eq_getElem hjl)
    rw [hj] at e1
    cases e1
    rw [hk] at e2
    cases e2
    have hn := h _ (List.getElem_mem hjl)
    rcases e4 with ⟨_, e4⟩ | ⟨e4, _⟩
    · exact e4 x hx y hy
    · omega
  constructor
  · intro h
    exact none_meets fun y hy => by rw [h] at hy; simp at hy
  · intro x hx hle
    obtain ⟨j, hj⟩ := List.getElem?_of_mem hx
    obtain ⟨k, d, n, e1, e2, e3, e4⟩ := hw j x hj
    refine ⟨n, e3, ?_⟩
    rcases e4 with ⟨z, _⟩ | ⟨z, p, hp, q, hq, c1, c2⟩
    · subst z
      exact none_meets fun y hy => by have := hle y hy; omega
    · exact .inr ⟨z, (k, d), Bend.mem_all.mpr e2, p, hp, q, hq, c1, c2⟩
section
variable {P : Program} {w : World} {K : PySem.W.Frag} {mg : Str → Option Value} {base : Heap}
def spWaitB (CC CS : Addr) : Sp := fun vs H Q _ => ∃ (a la b lb : Addr) (as bs : List Addr) (ta tb : Nat) (sa sb : List Span), vs = [.ref a, .ref b] ∧ ConvAt CC CS H a la as ta sa ∧ ConvAt CC CS H b lb bs tb sb ∧ sa.length < 100 ∧ sb.length < 100 ∧
  ∀ (H' : Hp) (n : Nat), Same H H' → WaitB sa sb n → Q (.int n) H'
theorem scWaitB : FnScope ["convoy", "other", "waits", "stretch", "taken"] ["convoy", "other"] (defScope sWaitB) := ⟨rfl, rfl, rfl, by decide +kernel, rfl, by decide +kernel, by decide +kernel⟩
set_option maxHeartbeats 8000000 in
theorem ok_waitB {f CC CS fM : Addr} {fd fdM : FuncData} (F : Fun K "wait_behind" "wait_behind" sWaitB f fd) (TC : ClsA K CC nsConvoy) (TS : ClsA K CS nsStretch) (FM : Fun K "meets" "Stretch.meets" sMeets fM fdM) (mM : Meth K CS "meets" fM) (bM : Binds K fdM ["self", "other"] []) (mmax : mg "max" = none) :
    FnOk P w K mg base CX0 2 f fd ["convoy", "other"] (spWaitB CC CS) := by
  have GM : FnOk P w K mg base CX0 1 fM fdM ["self", "other"] (spMeets CS) := ok_meets FM TS
  refine F.ok scWaitB (fun vs H Q E h => ?_) (fun cdv A outer s H vs Q E hr h => ?_)
  · obtain ⟨a, la, b, lb, as, bs, ta, tb, sa, sb, rfl, _⟩ := h
    rfl
  · obtain ⟨a, la, b, lb, as, bs, ta, tb, sa, sb, rfl, hA, hB, la1, lb1, k⟩ := h
    obtain ⟨da, oa⟩ := id hA.obj
    obtain ⟨db, ob⟩ := id hB.obj
    refine ⟨_, pss_cons (ps_set (i := 2) scWaitB.nd rfl (Or.inl rfl) (pe_lst (pa_cons pe_int pa_nil)))
      (pss_cons (ps_for PassesOwn.never rfl (pi_list (pe_fld (pv 0) rfl)) (pg_name (i := 3) scWaitB.nd rfl (Or.inl rfl))
        (pss_one (ps_for PassesOwn.never rfl (pi_list (pe_fld (pv 1) rfl)) (pg_name (i := 4) scWaitB.nd rfl (Or.inl rfl))
          (pss_one (ps_if (pt_val (pe_meth (pv 3) TS.cl mM GM hr bM .nil pass0 (pa_cons (pv 4) pa_nil)))
            (pss_one (ps_expr (pe_bm PySem.F.plainAttrs_list PySem.F.slot_list_append PySem.F.type_list_append mt_append (pv 2) (pa_cons (pe_op op_sub (pe_fld (pv 4) rfl) (pe_fld (pv 3) rfl)) pa_nil)))) pss_nil)))))
      (pss_one (ps_ret (pe_callB (cr_max rfl) (by rfl) mmax PyProof.Rows.boot_max (pa_cons (pv 2) pa_nil))))), ?_⟩
    refine ⟨zL1, fun D hD => ?_⟩
    have s0 : Same H (upd H D (.lst [V.int 0])) := fun b o e => by rw [upd_ne (ne_of_none e hD)]; exact e
    refine ⟨_, rfl, a, CC, da, _, _, rfl, s0 _ _ oa, TC.cl, TC.no _ (by simp), rfl, la, rfl, ⟨_, SqL.of (s0 _ _ hA.lst)⟩, for_list (K := K) (a := la) (xs := as.map V.ref) (fun i σ H' => ∃ (ws : List Int) (v3 v4 : Option V), σ = [some (.ref a), some (.ref b), some (.ref D), v3, v4] ∧ H' D = some (.lst (ws.map V.int)) ∧ WsOk sa sb i 0 ws ∧ Same H H')
      ⟨[0], none, none, rfl, upd_same, WsOk.start sa sb, s0⟩ (fun i σ H' _ ⟨_, _, _, _, _, _, s'⟩ => SqL.of (s' _ _ hA.lst)) ?_ ?_⟩
    · rintro i y σ H1 hy ⟨ws, v3, v4, rfl, hD1, hW, s1⟩
      obtain ⟨x, hx, rfl⟩ := as_at hy
      obtain ⟨p, hp, ⟨dp, ep⟩⟩ := hA.get hx
      have hi : i < sa.length := (List.getElem?_eq_some_iff.mp hp).1
      refine ⟨_, rfl, b, CC, db, _, _, rfl, s1 _ _ ob, TC.cl, TC.no _ (by simp), rfl, lb, rfl, ⟨_, SqL.of (s1 _ _ hB.lst)⟩, for_list (K := K) (a := lb) (xs := bs.map V.ref) (fun j σ H' => ∃ (ws : List Int) (v4 : Option V), σ = [some (.ref a), some (.ref b), some (.ref D), some (.ref x), v4] ∧ H' D = some (.lst (ws.map V.int)) ∧ WsOk sa sb i j ws ∧ Same H H')
        ⟨ws, v4, rfl, hD1, hW, s1⟩ (fun j σ H' _ ⟨_, _, _, _, _, s'⟩ => SqL.of (s' _ _ hB.lst)) ?_ ?_⟩
      · rintro j y σ H2 hy ⟨ws, v4, rfl, hD2, hW, s2⟩
        obtain ⟨z, hz, rfl⟩ := as_at hy
        obtain ⟨q, hq, ⟨dq, eq⟩⟩ := hB.get hz
        have hj : j < sb.length := (List.getElem?_eq_some_iff.mp hq).1
        refine ⟨_, rfl, x, dp, _, rfl, s2 _ _ ep, rfl, _, rfl, x, z, p, q, rfl, ⟨dp, s2 _ _ ep⟩, ⟨dq, s2 _ _ eq⟩, _, rfl, ite2 (fun c => ?_) (fun c => ?_)⟩
        · refine ⟨_, rfl, .inl ⟨rfl, _, SqL.of hD2⟩, _, rfl, z, CS, dq, _, _, rfl, s2 _ _ eq, TS.cl, TS.no _ (by simp), rfl, _, rfl, x, CS, dp, _, _, rfl, s2 _ _ ep, TS.cl, TS.no _ (by simp), rfl, _, _, rfl, rfl, D, _, _, rfl, rfl, hD2, ?_, ?_⟩
          · rw [List.length_map]
            have h1 := hW.len
            have h2 : i * sb.length ≤ 100 * 100 := Nat.mul_le_mul (by omega) (by omega)
            exact Nat.lt_of_le_of_lt (show ws.length ≤ 20000 by omega) (by decide)
          · refine ⟨ws ++ [(q.2.2 : Int) - p.2.1], _, rfl, ?_, hW.yes hp hq c, fun b o e => by rw [upd_ne (ne_of_none e hD)]; exact s2 b o e⟩
            rw [upd_same, List.map_append]
            rfl
        · exact ⟨ws, _, rfl, hD2, hW.no hp hq c, s2⟩
      · rintro σ H2 ⟨ws, v4, rfl, hD2, hW, s2⟩
        rw [List.length_map, hB.len] at hW
        exact ⟨ws, _, _, rfl, hD2, hW.next, s2⟩
    · rintro σ H1 ⟨ws, v3, v4, rfl, hD1, hW, s1⟩
      rw [List.length_map, hA.len] at hW
      refine ⟨_, rfl, D, ws, rfl, SqL.of hD1, List.length_pos_of_mem hW.zero, fun m h1 h2 => ?_⟩
      obtain ⟨n, rfl, hn⟩ := hW.max h1 h2
      exact k H1 n s1 hn
def spLWait (CN CC CS : Addr) : Sp := fun vs H Q _ => ∃ (net c lc l d : Addr) (bs : List Addr) (t : Nat) (ps : List Nat) (m : Kqv6.Map_) (ks : List Nat) (ca cl : Nat → Addr) (cs : Nat → List Addr), vs = [.ref net, .ref c] ∧ NetD CN H net m.places l d ∧ ConvsAt CC CS H d m ks ca cl cs ∧ ConvAt CC CS H c lc bs t (Kqv6.spans m ⟨t, ps⟩) ∧ ps.length < 100 ∧
  ∀ (H' : Hp) (n : Nat), Same H H' → Bend.Wait m ⟨t, ps⟩ n → Q (.int n) H'
theorem scLWait : FnScope ["network", "convoy", "other"] ["network", "convoy"] (defScope sLWait) := ⟨rfl, rfl, rfl, by decide +kernel, rfl, by decide +kernel, by decide +kernel⟩
set_option maxHeartbeats 8000000 in
theorem ok_lWait {f CN CC CS fW : Addr} {fd fdW : FuncData} (F : Fun K "longest_wait" "longest_wait" sLWait f fd) (TN : ClsA K CN nsNet) (GW : FnOk P w K mg base CX0 2 fW fdW ["convoy", "other"] (spWaitB CC CS)) (kW : PySem.W.keepIn K (.ref fW) = true) (mW : mg "wait_behind" = some (.ref fW)) (bW : Binds K fdW ["convoy", "other"] []) (mmax : mg "max" = none) :
    FnOk P w K mg base CX0 3 f fd ["network", "convoy"] (spLWait CN CC CS) := by
  refine F.ok scLWait (fun vs H Q E h => ?_) (fun cdv A outer s H vs Q E hr h => ?_)
  · obtain ⟨net, c, lc, l, d, bs, t, ps, m, ks, ca, cl, cs, rfl, _⟩ := h
    rfl
  · obtain ⟨net, c, lc, l, d, bs, t, ps, m, ks, ca, cl, cs, rfl, ⟨dn, hN⟩, hC, hc, hlen, k⟩ := h
    refine ⟨_, pss_one (ps_ret (pe_lock (pe_maxD rfl rfl mmax (pa_cons (pe_lc (own := [("other", 2)]) (g := gName 2) rfl scLWait.nd (pi_values (pe_fld (pv 0) rfl)) (blkOk_by (N := ["network", "convoy", "other"]) (sc := defScope sLWait) (by decide +kernel))
        (fun s' H' C cl fp => pg_name (i := 2) scLWait.nd rfl (Or.inl rfl)) (fun s' H' C cl fp => pts_nil)
        (fun s' H' C cl fp => pe_call GW hr rfl mW kW bW .nil pass0 (pa_cons (pv 1) (pa_cons (pv 2) pa_nil)))) pa_nil) (pk_cons pe_int pk_nil)))), ?_⟩
    refine ⟨d, _, hC.dict, trivial, fun od => ?_⟩
    have nd : ∀ b o, H b = some o → (∀ kvs, o ≠ .dK kvs) → upd H d (.frz od (.dK (cd ks ca))) b = some o := fun b o e h => by rw [upd_ne (ne_of e hC.dict (fun z => h _ z))]; exact e
    have convN : ∀ {a l : Addr} {as : List Addr} {t : Nat} {sp : List Span}, ConvAt CC CS H a l as t sp → ConvAt CC CS (upd H d (.frz od (.dK (cd ks ca)))) a l as t sp := fun {a l as t sp} h =>
      ⟨let ⟨dx, e⟩ := h.obj; ⟨dx, nd _ _ e (by intro kvs z; cases z)⟩, nd _ _ h.lst (by intro kvs z; cases z), h.len, fun j b x h1 h2 => let ⟨dx, e⟩ := h.at_ j b x h1 h2; ⟨dx, nd _ _ e (by intro kvs z; cases z)⟩⟩
    refine ⟨_, rfl, net, CN, dn, _, _, rfl, nd _ _ hN (by intro kvs z; cases z), TN.cl, TN.no _ (by simp), rfl, d, od, cd ks ca, rfl, upd_same, fun D hD => lc_vals (fun i H' => ∃ ws : List Int, H' D = some (.lst (ws.map V.int)) ∧ ws.length = i ∧ Same (upd H d (.frz od (.dK (cd ks ca)))) H' ∧
      ∀ (j : Nat) (w : Int), ws[j]? = some w → ∃ (k : Nat) (e : Kqv6.Convoy) (n : Nat), ks[j]? = some k ∧ m.convoys.getD k none = some e ∧ w = n ∧ WaitB (Kqv6.spans m ⟨t, ps⟩) (Kqv6.spans m e) n)
      ⟨[], upd_same, rfl, fun b o e => by rw [upd_ne (ne_of_none e hD)]; exact e, fun j w h => by simp at h⟩ (fun i H' _ ⟨_, _, _, s', _⟩ => s' _ _ upd_same) ?_ ?_⟩
    · rintro i kk y H1 hy ⟨ws, hD1, hwl, s1, hws⟩
      obtain ⟨kn, hk, rfl⟩ := cd_at hy
      have hkm : kn ∈ ks := List.mem_of_getElem? hk
      obtain ⟨e, he⟩ := isAt_some ((hC.mem kn).mp hkm)
      have hi : i < ks.length := (List.getElem?_eq_some_iff.mp hk).1
      have hE := (convN (hC.at_ kn e he)).same s1
      refine ⟨rfl, ?_⟩
      unfold tYes
      refine iteT ?_
      refine ⟨_, rfl, _, rfl, c, lc, ca kn, cl kn, bs, cs kn, t, e.minute, Kqv6.spans m ⟨t, ps⟩, Kqv6.spans m e, rfl, (convN hc).same s1, hE, ?_, ?_, fun H2 n s2 hn => ⟨_, s2 _ _ hD1, ?_, ws ++ [(n : Int)], ?_, ?_, fun b o q => ?_, fun j w hj => ?_⟩⟩
      · unfold Kqv6.spans; rw [Bend.times_length]; exact hlen
      · unfold Kqv6.spans; rw [Bend.times_length]; exact (hC.ok kn e he).2
      · rw [List.length_map, hwl]
        have := hC.few
        exact Nat.lt_of_lt_of_le (show i < 100 by omega) (by decide)
      · rw [upd_same, List.map_append]
        rfl
      · rw [List.length_append, hwl]
        rfl
      · rw [upd_ne (ne_of_none q hD)]
        exact s2 _ _ (s1 b o q)
      · by_cases hj' : j < ws.length
        · rw [List.getElem?_append_left hj'] at hj
          exact hws j w hj
        · have hj2 : j = ws.length := by
            have := (List.getElem?_eq_some_iff.mp hj).1
            rw [List.length_append] at this
            simp at this
            omega
          subst hj2
          rw [List.getElem?_append_right (Nat.le_refl _), Nat.sub_self] at hj
          have e1 : (n : Int) = w := Option.some.inj hj
          exact ⟨kn, e, n, by rw [hwl]; exact hk, he, e1.symm, hn⟩
    · rintro H1 ⟨ws, hD1, hwl, s1, hws⟩
      rw [cd_length] at hwl
      obtain ⟨w1, w2⟩ := wait_all hC.mem hwl hws
      have fin : Same H (upd H1 d (.dK (cd ks ca))) := fun b o q => by
        by_cases z : b = d
        · subst z
          rw [hC.dict] at q
          rw [upd_same, q]
        · rw [upd_ne z]
          exact s1 b o (by rw [upd_ne z]; exact q)
      refine ⟨D, ws, .int 0, rfl, rfl, SqL.of hD1, fun e => ⟨s1 _ _ upd_same, k _ 0 fin (w1 e)⟩, fun x h1 h2 => ⟨s1 _ _ upd_same, ?_⟩⟩
      obtain ⟨n, rfl, hn⟩ := w2 x h1 h2
      exact k _ n fin hn
end
end BP
end
section
namespace BP
open PySem PySem.Spec PyProof.Rows L2
open Bend (Span)
section
variable {P : Program} {w : World} {K : PySem.W.Frag} {mg : Str → Option Value} {base : Heap}
def spFirst (CN CR CC CS : Addr) : Sp := fun vs H Q _ => ∃ (net lr l d : Addr) (t : Nat) (ps : List Nat) (as : List Addr) (m : Kqv6.Map_) (ks : List Nat) (ca cl : Nat → Addr) (cs : Nat → List Addr), vs = [.ref net, .ref lr, .int t] ∧ NetD CN H net m.places l d ∧ RoadsAt CR H l as m.roads ∧ ConvsAt CC CS H d m ks ca cl cs ∧ H lr = some (.lst (pl ps)) ∧ (∀ r ∈ ps, r < m.roads.length) ∧ ps.length < 100 ∧
  ∀ (H' : Hp) (u : Nat), Same H H' → Kqv6.soonest m ps t = some u → Q (.int u) H'
theorem scFirst : FnScope ["network", "roads", "minute", "sets_out", "wait"] ["network", "roads", "minute"] (defScope sFirst) := ⟨rfl, rfl, rfl, by decide +kernel, rfl, by decide +kernel, by decide +kernel⟩
set_option maxHeartbeats 8000000 in
theorem ok_first {f CN CR CC CS fB fW : Addr} {fd fdB fdW : FuncData} (F : Fun K "first_clear_minute" "first_clear_minute" sFirst f fd)
    (GB : FnOk P w K mg base CX0 3 fB fdB ["network", "roads", "sets_out"] (spConvoyBy CN CR CC CS)) (kB : PySem.W.keepIn K (.ref fB) = true) (mB : mg "convoy_by" = some (.ref fB)) (bB : Binds K fdB ["network", "roads", "sets_out"] [])
    (GW : FnOk P w K mg base CX0 3 fW fdW ["network", "convoy"] (spLWait CN CC CS)) (kW : PySem.W.keepIn K (.ref fW) = true) (mW : mg "longest_wait" = some (.ref fW)) (bW : Binds K fdW ["network", "convoy"] []) :
    FnOk P w K mg base CX0 4 f fd ["network", "roads", "minute"] (spFirst CN CR CC CS) := by
  refine F.ok scFirst (fun vs H Q E h => ?_) (fun cdv A outer s H vs Q E hr h => ?_)
  · obtain ⟨net, lr, l, d, t, ps, as, m, ks, ca, cl, cs, rfl, _⟩ := h
    rfl
  · obtain ⟨net, lr, l, d, t, ps, as, m, ks, ca, cl, cs, rfl, ⟨dn, hN⟩, hR, hC, hlr, hps, hlen, k⟩ := h
    refine ⟨_, pss_cons (ps_set (i := 3) scFirst.nd rfl (Or.inl rfl) (pv 2))
      (pss_cons (ps_set (i := 4) scFirst.nd rfl (Or.inl rfl) (pe_call GW hr rfl mW kW bW .nil pass0 (pa_cons (pv 0) (pa_cons (pe_call GB hr rfl mB kB bB .nil pass0 (pa_cons (pv 0) (pa_cons (pv 1) (pa_cons (pv 3) pa_nil)))) pa_nil))))
      (pss_cons (ps_while PassesOwn.never (pt_cmpR op_gt (pv 4) pe_int (nomark _))
        (pss_cons (ps_set (i := 3) scFirst.nd rfl (Or.inl rfl) (pe_op op_add (pv 3) (pv 4)))
        (pss_one (ps_set (i := 4) scFirst.nd rfl (Or.inl rfl) (pe_call GW hr rfl mW kW bW .nil pass0 (pa_cons (pv 0) (pa_cons (pe_call GB hr rfl mB kB bB .nil pass0 (pa_cons (pv 0) (pa_cons (pv 1) (pa_cons (pv 3) pa_nil)))) pa_nil)))))))
      (pss_one (ps_ret (pv 3))))), ?_⟩
    refine ⟨_, rfl, _, rfl, _, rfl, _, rfl, _, rfl, net, lr, l, t, ps, as, m, rfl, ⟨d, dn, hN⟩, hR, hlr, hps, hlen, fun Ha c lc bs sa _ _ _ hc => ⟨net, c, lc, l, d, bs, t, ps, m, ks, ca, cl, cs, rfl, ⟨dn, sa _ _ hN⟩, hC.same sa, hc, hlen, fun H1 n1 sb hn1 => ?_⟩⟩
    have s1 : Same H H1 := sa.trans sb
    refine ⟨fun mm σ H' => ∃ (u n : Nat), mm = Kqv6.over m - u ∧ σ = [some (.ref net), some (.ref lr), some (.int t), some (.int u), some (.int n)] ∧ Same H H' ∧ t ≤ u ∧ Bend.Wait m ⟨u, ps⟩ n ∧ ∀ v, t ≤ v → v < u → Kqv6.free m ⟨v, ps⟩ = false,
      ⟨_, t, n1, rfl, rfl, s1, Nat.le_refl _, hn1, fun v h1 h2 => by omega⟩, ?_⟩
    rintro mm σ H2 ⟨u, n, rfl, rfl, s2, htu, hn, hno⟩
    refine ⟨_, rfl, _, _, rfl, rfl, _, rfl, ite2 (fun c => ?_) (fun c => ?_)⟩
    · have hpos : 0 < n := by have := of_decide_eq_true c; omega
      have hov := hn.less hpos
      have hin := hn.within
      refine ⟨fun σ' H' => ∃ (u' n' : Nat), Kqv6.over m - u' < Kqv6.over m - u ∧ σ' = [some (.ref net), some (.ref lr), some (.int t), some (.int u'), some (.int n')] ∧ Same H H' ∧ t ≤ u' ∧ Bend.Wait m ⟨u', ps⟩ n' ∧ ∀ v, t ≤ v → v < u' → Kqv6.free m ⟨v, ps⟩ = false,
        fun σ' H' ⟨u', n', q1, q2, q3⟩ => ⟨_, q1, u', n', rfl, q2, q3⟩, ?_⟩
      refine ⟨_, rfl, _, rfl, _, _, rfl, rfl, ?_⟩
      have eu : ((u : Int) + (n : Int)) = ((u + n : Nat) : Int) := by omega
      show gName 3 (V.int ((u : Int) + (n : Int))) _ _ _
      rw [eu]
      refine ⟨_, rfl, _, rfl, _, rfl, _, rfl, net, lr, l, u + n, ps, as, m, rfl, ⟨d, dn, s2 _ _ hN⟩, hR.same s2, s2 _ _ hlr, hps, hlen, fun Ha c lc bs sa _ _ _ hc => ⟨net, c, lc, l, d, bs, u + n, ps, m, ks, ca, cl, cs, rfl, ⟨dn, sa _ _ (s2 _ _ hN)⟩, hC.same (s2.trans sa), hc, hlen, fun H3 n3 sb hn3 => ?_⟩⟩
      have s3 : Same H H3 := (s2.trans sa).trans sb
      refine ⟨u + n, n3, by omega, rfl, s3, by omega, hn3, fun v h1 h2 => ?_⟩
      by_cases q : v < u
      · exact hno v h1 q
      · exact hin v (by omega) h2
    · have hz : n = 0 := by
        have : ¬ (0 : Int) < n := fun z => c (decide_eq_true z)
        omega
      exact ⟨_, rfl, k H2 u s2 (Bend.soonest_eq htu (hn.zero.mp hz) hno)⟩
def spLeast (CN CC CS : Addr) : Sp := fun vs H Q _ => ∃ (net l d : Addr) (m : Kqv6.Map_) (ks : List Nat) (ca cl : Nat → Addr) (cs : Nat → List Addr), vs = [.ref net] ∧ NetD CN H net m.places l d ∧ ConvsAt CC CS H d m ks ca cl cs ∧ Q (.int (Kqv6.slot m.convoys)) H
theorem scLeast : FnScope ["network", "number"] ["network"] (defScope sLeast) := ⟨rfl, rfl, rfl, by decide +kernel, rfl, by decide +kernel, by decide +kernel⟩
theorem ok_least {f CN CC CS : Addr} {fd : FuncData} (F : Fun K "least_free_number" "least_free_number" sLeast f fd) (TN : ClsA K CN nsNet) : FnOk P w K mg base CX0 1 f fd ["network"] (spLeast CN CC CS) := by
  refine F.ok scLeast (fun vs H Q E h => ?_) (fun cdv A outer s H vs Q E hr h => ?_)
  · obtain ⟨net, l, d, m, ks, ca, cl, cs, rfl, _⟩ := h
    rfl
  · obtain ⟨net, l, d, m, ks, ca, cl, cs, rfl, ⟨dn, hN⟩, hC, k⟩ := h
    have hu := hu_of hr
    refine ⟨_, pss_cons (ps_set (i := 1) scLeast.nd rfl (Or.inl rfl) pe_int) (pss_cons (ps_while PassesOwn.never (pt_cmp (pc_din hu (pv 1) (pe_fld (pv 0) rfl))) (pss_one (ps_set (i := 1) scLeast.nd rfl (Or.inl rfl) (pe_op op_add (pv 1) pe_int)))) (pss_one (ps_ret (pv 1)))), ?_⟩
    refine ⟨fun mm σ H' => ∃ n : Nat, mm = m.convoys.length - n ∧ σ = [some (.ref net), some (.int n)] ∧ H' = H ∧ ∀ j, j < n → (m.convoys.getD j none).isSome = true, ⟨_, 0, rfl, rfl, rfl, fun j hj => by omega⟩, ?_⟩
    rintro mm σ H' ⟨n, rfl, rfl, rfl, hall⟩
    refine ⟨_, rfl, _, rfl, net, CN, dn, _, _, rfl, hN, TN.cl, TN.no _ (by simp), rfl, d, _, rfl, DGet.k (k := Sum.inl (n : Int)) hC.dict, _, rfl, ?_⟩
    rw [cd_val]
    by_cases hn : n ∈ ks
    · rw [if_pos hn]
      have hat : (m.convoys.getD n none).isSome = true := (hC.mem n).mp hn
      have hnl : n < m.convoys.length := by
        apply Classical.byContradiction
        intro q
        rw [List.getD_eq_getElem?_getD, List.getElem?_eq_none (by omega)] at hat
        cases hat
      refine iteT ⟨fun σ' H2 => ∃ n' : Nat, m.convoys.length - n' < m.convoys.length - n ∧ σ' = [some (.ref net), some (.int n')] ∧ H2 = H' ∧ ∀ j, j < n' → (m.convoys.getD j none).isSome = true, fun σ' H2 ⟨n', q1, q2, q3⟩ => ⟨_, q1, n', rfl, q2, q3⟩, ?_⟩
      refine ⟨_, rfl, _, _, rfl, rfl, n + 1, by omega, rfl, rfl, fun j hj => ?_⟩
      by_cases q : j = n
      · rw [q]; exact hat
      · exact hall j (by omega)
    · rw [if_neg hn]
      refine iteF ⟨_, rfl, ?_⟩
      have e : Kqv6.slot m.convoys = n := Bend.slot_eq hall (Bool.eq_false_iff.mpr fun z => hn ((hC.mem n).mpr z))
      rw [e] at k
      exact k
def onIt (m : Kqv6.Map_) (r t : Nat) (e : Nat × Kqv6.Convoy) : Bool := (Kqv6.spans m e.2).any fun x => x.1 == r && decide (x.2.1 ≤ t) && decide (t < x.2.2)
def spOn (CN CC CS : Addr) : Sp := fun vs H Q _ => ∃ (net l d : Addr) (r t : Nat) (m : Kqv6.Map_) (ks : List Nat) (ca cl : Nat → Addr) (cs : Nat → List Addr), vs = [.ref net, .int r, .int t] ∧ NetD CN H net m.places l d ∧ ConvsAt CC CS H d m ks ca cl cs ∧
  ∀ H', Same H H' → Q (match (Kqv6.all m).find? (onIt m r t) with | none => .non | some e => .int e.1) H'
theorem scOn : FnScope ["network", "r", "minute", "number", "stretch"] ["network", "r", "minute"] (defScope sOn) := ⟨rfl, rfl, rfl, by decide +kernel, rfl, by decide +kernel, by decide +kernel⟩
theorem sorted_nums {m : Kqv6.Map_} {ks : List Nat} {ns : List Int} (hn : ks.Nodup) (hk : ∀ k, k ∈ ks ↔ Bend.isAt m k = true) (h1 : ns.Perm (ks.map fun (k : Nat) => (k : Int))) (h2 : ns.Pairwise (· ≤ ·)) : ns = (Bend.nums m).map fun (k : Nat) => (k : Int) := by
  have hcast : ∀ x ∈ ns, ((x.toNat : Nat) : Int) = x := fun x hx => by
    obtain ⟨k, _, rfl⟩ := List.mem_map.mp (h1.mem_iff.mp hx)
    rfl
  have e1 : (ns.map Int.toNat).map (fun (k : Nat) => (k : Int)) = ns := by
    rw [List.map_map]
    conv => rhs; rw [← List.map_id ns]
    exact List.map_congr_left fun x hx => hcast x hx
  have p1 : (ns.map Int.toNat).Perm ks := by
    have := h1.map Int.toNat
    rw [List.map_map] at this
    have e : ks.map (Int.toNat ∘ fun (k : Nat) => (k : Int)) = ks := by
      conv => rhs; rw [← List.map_id ks]
      exact List.map_congr_left fun x _ => rfl
    rw [e] at this
    exact this
  have nd1 : (ns.map Int.toNat).Nodup := p1.nodup_iff.mpr hn
  have le1 : (ns.map Int.toNat).Pairwise (· ≤ ·) := List.pairwise_map.mpr (h2.imp fun h => by omega)
  have lt1 : (ns.map Int.toNat).Pairwise (· < ·) := by
    have both := List.Pairwise.and le1 nd1
    exact both.imp fun h => by have := h.1; have := h.2; omega
  have e2 : ns.map Int.toNat = Bend.nums m := Bend.rising_eq lt1 (Bend.nums_sorted m) fun x => by rw [p1.mem_iff, hk, Bend.mem_nums]
  rw [← e1, e2]
set_option maxHeartbeats 8000000 in
theorem ok_on {f CN CC CS fI : Addr} {fd fdI : FuncData} (F : Fun K "convoy_on" "convoy_on" sOn f fd) (TN : ClsA K CN nsNet) (TC : ClsA K CC nsConvoy) (TS : ClsA K CS nsStretch) (GI : FnOk P w K mg base CX0 2 fI fdI ["self", "minute"] (spStretchIn CC CS)) (mI : Meth K CC "stretch_in" fI) (bI : Binds K fdI ["self", "minute"] []) (msorted : mg "sorted" = none) :
    FnOk P w K mg base CX0 3 f fd ["network", "r", "minute"] (spOn CN CC CS) := by
  refine F.ok scOn (fun vs H Q E h => ?_) (fun cdv A outer s H vs Q E hr h => ?_)
  · obtain ⟨net, l, d, r, t, m, ks, ca, cl, cs, rfl, _⟩ := h
    rfl
  · obtain ⟨net, l, d, r, t, m, ks, ca, cl, cs, rfl, ⟨dn, hN⟩, hC, k⟩ := h
    have hu := hu_of hr
    refine ⟨_, pss_cons (ps_for PassesOwn.never rfl (pi_list (pe_callB (cr_sortedD rfl) (by rfl) msorted PyProof.Rows.boot_sorted (pa_cons (pe_fld (pv 0) rfl) pa_nil))) (pg_name (i := 3) scOn.nd rfl (Or.inl rfl))
        (pss_cons (ps_set (i := 4) scOn.nd rfl (Or.inl rfl) (pe_meth (pe_dget hu (pe_fld (pv 0) rfl) (pv 3) (fun _ _ => rfl)) TC.cl mI GI hr bI .nil pass0 (pa_cons (pv 2) pa_nil)))
        (pss_one (ps_if (PW.pt (pw_and (pt_cmpR op_notN (pv 4) pe_non (nomark _)) (pw_and1 (pt_cmpR op_eq (pe_fld (pv 4) rfl) (pv 1) (nomark _))))) (pss_one (ps_ret (pv 3))) pss_nil))))
      (pss_one (ps_ret pe_non)), ?_⟩
    refine ⟨_, rfl, net, CN, dn, _, _, rfl, hN, TN.cl, TN.no _ (by simp), rfl, d, ks.map (fun (k : Nat) => (k : Int)), _, rfl, hC.dict, cd_keys ks ca, by rw [List.length_map]; have := hC.few; omega, fun ns p hperm hsort hp => ?_⟩
    have ens := sorted_nums hC.nd hC.mem hperm hsort
    subst ens
    have enum : (Kqv6.all m).map (·.1) = Bend.nums m := Bend.all_fst m
    have s0 : Same H (upd H p (.lst (((Bend.nums m).map fun (k : Nat) => (k : Int)).map V.int))) := fun b o e => by rw [upd_ne (ne_of_none e hp)]; exact e
    generalize hH1 : upd H p (.lst (((Bend.nums m).map fun (k : Nat) => (k : Int)).map V.int)) = H1 at s0
    have hp1 : H1 p = some (.lst (pl (Bend.nums m))) := by rw [← hH1, upd_same]; rfl
    refine ⟨p, rfl, ⟨_, SqL.of hp1⟩, for_list (K := K) (a := p) (xs := pl (Bend.nums m)) (fun i σ H' => (∃ v3 v4 : Option V, σ = [some (.ref net), some (.int r), some (.int t), v3, v4]) ∧ H' = H1 ∧ ∀ e ∈ (Kqv6.all m).take i, onIt m r t e = false) ⟨⟨none, none, rfl⟩, rfl, fun e he => by simp at he⟩ (fun i σ H' _ ⟨_, h, _⟩ => by rw [h]; exact SqL.of hp1) ?_ ?_⟩
    · rintro i y σ H' hy ⟨⟨v3, v4, rfl⟩, rfl, hno⟩
      obtain ⟨kn, hk, rfl⟩ := pl_at hy
      have hil : i < (Kqv6.all m).length := by
        have := (List.getElem?_eq_some_iff.mp hk).1
        rw [← enum, List.length_map] at this
        exact this
      obtain ⟨⟨k', e⟩, he⟩ : ∃ e, (Kqv6.all m)[i]? = some e := ⟨_, List.getElem?_eq_getElem hil⟩
      have ek : k' = kn := by
        rw [← enum, List.getElem?_map, he] at hk
        exact Option.some.inj hk
      subst ek
      have hcv := Bend.mem_all.mp (List.mem_of_getElem? he)
      have hkm : k' ∈ ks := (hC.mem k').mpr (isAt_of hcv)
      have hE := (hC.at_ k' e hcv).same s0
      obtain ⟨de, oe⟩ := id hE.obj
      have on_eq : onIt m r t (k', e) = (match (Kqv6.spans m e).find? (Bend.holds t) with | none => false | some x => x.1 == r) := Bend.any_holds m r t e.roads e.minute
      refine ⟨_, rfl, net, CN, dn, _, _, rfl, s0 _ _ hN, TN.cl, TN.no _ (by simp), rfl, _, rfl, d, .ref (ca k'), rfl, ?_, ca k', de, _, rfl, oe, rfl, _, rfl, ca k', cl k', cs k', e.minute, t, Kqv6.spans m e, rfl, hE, fun b x hx hf => ?_, fun hf => ?_⟩
      · have := DGet.k (H := H') (k := Sum.inl (k' : Int)) (s0 _ _ hC.dict)
        rw [cd_val, if_pos hkm] at this
        exact this
      · obtain ⟨dx, hx⟩ := hx
        rw [hf] at on_eq
        refine ⟨_, rfl, rfl, _, rfl, iteT ⟨_, rfl, b, CS, dx, _, _, rfl, hx, TS.cl, TS.no _ (by simp), rfl, _, rfl, rfl, _, rfl, ?_⟩⟩
        rw [dec_eqV]
        refine ite2 (fun c => ?_) (fun c => ?_)
        · refine ⟨_, rfl, ?_⟩
          have kk := k H' s0
          rw [find_at hno he (by rw [on_eq]; exact c)] at kk
          exact kk
        · exact ⟨⟨_, _, rfl⟩, rfl, take_mem (g := fun e => onIt m r t e = false) he hno (by rw [on_eq]; exact Bool.eq_false_iff.mpr c)⟩
      · rw [hf] at on_eq
        exact ⟨_, rfl, rfl, _, rfl, iteF (iteF ⟨⟨_, _, rfl⟩, rfl, take_mem (g := fun e => onIt m r t e = false) he hno on_eq⟩)⟩
    · rintro σ H' ⟨⟨v3, v4, rfl⟩, rfl, hno⟩
      have elen : (pl (Bend.nums m)).length = (Kqv6.all m).length := by rw [pl_length, ← enum, List.length_map]
      rw [elen, List.take_length] at hno
      have kk := k H' s0
      rw [List.find?_eq_none.mpr fun e he => by rw [hno e he]; decide] at kk
      exact kk
end
end BP
end
section
namespace BP
open PySem PySem.Spec PyProof.Rows L2
structure Adr where
  CN : Addr
  CR : Addr
  CL : Addr
  P1 : Addr
  P2 : Addr
  CC : Addr
  CS : Addr
structure Parts (a : Adr) (H : Hp) (net l d : Addr) (as : List Addr) (ks : List Nat) (ca cl : Nat → Addr) (cs : Nat → List Addr) (m : Kqv6.Map_) : Prop where
  net : NetD a.CN H net m.places l d
  roads : RoadsAt a.CR H l as m.roads
  conv : ConvsAt a.CC a.CS H d m ks ca cl cs
  sep : ∀ k ∈ ks, cl k ≠ l
structure StateAt (a : Adr) (H : Hp) (net : Addr) (m : Kqv6.Map_) (fp : List Addr) : Prop where
  ex : ∃ (l d : Addr) (as : List Addr) (ks : List Nat) (ca cl : Nat → Addr) (cs : Nat → List Addr), Parts a H net l d as ks ca cl cs m ∧ fp = net :: l :: d :: a.P1 :: a.P2 :: (as ++ cvs ks ca cl cs)
  fine : Fine m.roads m.places
  t1 : LamTab H a.P1 (lamPos lamLongest) qLongest
  t2 : LamTab H a.P2 (lamPos lamLen) qLen
structure Ret (a : Adr) (H H' : Hp) (fp fp' : List Addr) (l net : Addr) (m' : Kqv6.Map_) (ans : List Int) : Prop where
  new : H l = none
  lst : H' l = some (.lst (ans.map V.int))
  st : StateAt a H' net m' fp'
  out : l ∉ fp'
  sub : ∀ b ∈ fp', b ∈ fp ∨ H b = none
  keep : ∀ b o, H b = some o → b ∉ fp → H' b = some o
def numsV (xs : List Nat) : List V := xs.map fun (i : Nat) => V.int (i : Int)
def spHand (a : Adr) (n : Nat) (g : Kqv6.Map_ → List Nat → Kqv6.Map_ × List Int) : Sp := fun vs H Q _ => ∃ (net : Addr) (m : Kqv6.Map_) (fp : List Addr) (xs : List Nat), vs = .ref net :: numsV xs ∧ xs.length = n ∧ StateAt a H net m fp ∧
  ∀ H' fp' l, Ret a H H' fp fp' l net (g m xs).1 (g m xs).2 → Q (.ref l) H'
section
variable {a : Adr} {H H' : Hp} {net l d : Addr} {as : List Addr} {ks : List Nat} {ca cl : Nat → Addr} {cs : Nat → List Addr} {m : Kqv6.Map_}
theorem Parts.same (h : Parts a H net l d as ks ca cl cs m) (s : Same H H') : Parts a H' net l d as ks ca cl cs m :=
  ⟨let ⟨dx, e⟩ := h.net; ⟨dx, s _ _ e⟩, h.roads.same s, h.conv.same s, h.sep⟩
theorem Parts.road (h : Parts a H net l d as ks ca cl cs m) {b : Addr} (hb : b ∈ as) : ∃ dx r, H b = some (.ins a.CR dx (rf r)) := by
  obtain ⟨j, hj⟩ := List.getElem?_of_mem hb
  have hl : j < m.roads.length := by rw [← h.roads.len]; exact (List.getElem?_eq_some_iff.mp hj).1
  obtain ⟨dx', e⟩ := h.roads.at_ j b _ hj (List.getElem?_eq_getElem hl)
  exact ⟨dx', _, e⟩
theorem ne_len {b c : Addr} {C D dx dy : Addr} {f g : List (Str × V)} (h1 : H b = some (.ins C dx f)) (h2 : H c = some (.ins D dy g)) (h : f.length ≠ g.length) : b ≠ c := ne_of h1 h2 fun z => h (congrArg List.length (HO.ins.inj z).2.2)
theorem nf_sf {n : Nat} {l d : Addr} {x : Bend.Span} : nf n l d ≠ sf x := fun z => by
  have := congrArg (fun l : List (Str × V) => (l[2]?).map (·.2)) z
  cases this
structure Apart (H : Hp) (net l d : Addr) (as : List Addr) (cv : List Addr) : Prop where
  ln : l ≠ net
  dn : d ≠ net
  dl : d ≠ l
  an : ∀ b ∈ as, b ≠ net
  al : ∀ b ∈ as, b ≠ l
  ad : ∀ b ∈ as, b ≠ d
  cn : ∀ b ∈ cv, b ≠ net
  cl : ∀ b ∈ cv, b ≠ l
  cd : ∀ b ∈ cv, b ≠ d
  ca : ∀ b ∈ cv, b ∉ as
theorem Parts.apart (h : Parts a H net l d as ks ca cl cs m) : Apart H net l d as (cvs ks ca cl cs) := by
  obtain ⟨dx, hN⟩ := h.net
  refine ⟨ne_of h.roads.lst hN (by intro z; cases z), ne_of h.conv.dict hN (by intro z; cases z), ne_of h.conv.dict h.roads.lst (by intro z; cases z), fun b hb => ?_, fun b hb => ?_, fun b hb => ?_, fun b hb => ?_, fun b hb => ?_, fun b hb => ?_, fun b hb hb2 => ?_⟩
  · obtain ⟨dr, r, e⟩ := h.road hb
    exact ne_len e hN (by show ¬ 8 = 3; decide)
  · obtain ⟨dr, r, e⟩ := h.road hb
    exact ne_of e h.roads.lst (by intro z; cases z)
  · obtain ⟨dr, r, e⟩ := h.road hb
    exact ne_of e h.conv.dict (by intro z; cases z)
  · rcases h.conv.kind hb with ⟨C, dy, t, l', e⟩ | ⟨C, dy, x, e⟩ | ⟨k, _, _, xs, e⟩
    · exact ne_len e hN (by show ¬ 2 = 3; decide)
    · exact ne_of e hN fun z => nf_sf (HO.ins.inj z).2.2.symm
    · exact ne_of e hN (by intro z; cases z)
  · rcases h.conv.kind hb with ⟨C, dy, t, l', e⟩ | ⟨C, dy, x, e⟩ | ⟨k, hk, e1, xs, e⟩
    · exact ne_of e h.roads.lst (by intro z; cases z)
    · exact ne_of e h.roads.lst (by intro z; cases z)
    · rw [e1]; exact h.sep k hk
  · rcases h.conv.kind hb with ⟨C, dy, t, l', e⟩ | ⟨C, dy, x, e⟩ | ⟨k, _, _, xs, e⟩
    · exact ne_of e h.conv.dict (by intro z; cases z)
    · exact ne_of e h.conv.dict (by intro z; cases z)
    · exact ne_of e h.conv.dict (by intro z; cases z)
  · obtain ⟨dr, r, e2⟩ := h.road hb2
    rcases h.conv.kind hb with ⟨C, dy, t, l', e⟩ | ⟨C, dy, x, e⟩ | ⟨k, _, _, xs, e⟩
    · exact ne_len e e2 (by show ¬ 2 = 8; decide) rfl
    · exact ne_len e e2 (by show ¬ 3 = 8; decide) rfl
    · exact ne_of e e2 (by intro z; cases z) rfl
theorem Parts.tabs (h : Parts a H net l d as ks ca cl cs m) (k : ∀ b o, H b = some o → (∀ ps, o ≠ .tbl ps) → H' b = some o) : Parts a H' net l d as ks ca cl cs m := by
  refine ⟨let ⟨dx, e⟩ := h.net; ⟨dx, k _ _ e (by intro ps z; cases z)⟩, ⟨k _ _ h.roads.lst (by intro ps z; cases z), h.roads.nd, h.roads.len, fun j b r e1 e2 => ?_⟩, h.conv.move (fun b o e hb => k b o e ?_) rfl (fun _ _ => rfl) (Nat.le_refl _), h.sep⟩
  · obtain ⟨dx', e⟩ := h.roads.at_ j b r e1 e2
    exact ⟨dx', k _ _ e (by intro ps z; cases z)⟩
  · rcases hb with rfl | hb
    · rw [h.conv.dict] at e
      cases e
      intro ps z; cases z
    · rcases h.conv.kind hb with ⟨C, dy, t, l', e'⟩ | ⟨C, dy, x, e'⟩ | ⟨k, _, _, xs, e'⟩
      all_goals
        rw [e'] at e
        cases e
        intro ps z; cases z
end
theorem StateAt.same {a : Adr} {H H' : Hp} {net : Addr} {m : Kqv6.Map_} {fp : List Addr} (S : StateAt a H net m fp) (s : Same H H') : StateAt a H' net m fp := by
  obtain ⟨l, d, as, ks, ca, cl, cs, h, h3⟩ := S.ex
  exact ⟨⟨l, d, as, ks, ca, cl, cs, h.same s, h3⟩, S.fine, lamTab_same S.t1 s, lamTab_same S.t2 s⟩
theorem StateAt.some {a : Adr} {H : Hp} {net : Addr} {m : Kqv6.Map_} {fp : List Addr} (S : StateAt a H net m fp) : ∀ b ∈ fp, ∃ o, H b = some o := by
  obtain ⟨l, d, as, ks, ca, cl, cs, h, rfl⟩ := S.ex
  obtain ⟨dx, h1⟩ := h.net
  obtain ⟨ps1, q1, _⟩ := S.t1
  obtain ⟨ps2, q2, _⟩ := S.t2
  intro b hb
  rcases List.mem_cons.mp hb with rfl | hb
  · exact ⟨_, h1⟩
  rcases List.mem_cons.mp hb with rfl | hb
  · exact ⟨_, h.roads.lst⟩
  rcases List.mem_cons.mp hb with rfl | hb
  · exact ⟨_, h.conv.dict⟩
  rcases List.mem_cons.mp hb with rfl | hb
  · exact ⟨_, q1⟩
  rcases List.mem_cons.mp hb with rfl | hb
  · exact ⟨_, q2⟩
  rcases List.mem_append.mp hb with hb | hb
  · obtain ⟨dx, r, e⟩ := h.road hb
    exact ⟨_, e⟩
  · exact h.conv.some hb
theorem StateAt.old {a : Adr} {H : Hp} {net : Addr} {m : Kqv6.Map_} {fp : List Addr} (S : StateAt a H net m fp) : ∃ (l : Addr) (as : List Addr) (d dx : Addr), H net = Option.some (.ins a.CN dx (nf m.places l d)) ∧ RoadsAt a.CR H l as m.roads := by
  obtain ⟨l, d, as, ks, ca, cl, cs, h, _⟩ := S.ex
  obtain ⟨dx, e⟩ := h.net
  exact ⟨l, as, d, dx, e, h.roads⟩
theorem ret_same {a : Adr} {H H1 : Hp} {net l : Addr} {m : Kqv6.Map_} {fp : List Addr} (S : StateAt a H net m fp) (s : Same H H1) (hl : H1 l = none) (ans : List Int) : Ret a H (upd H1 l (.lst (ans.map V.int))) fp fp l net m ans := by
  have s2 : Same H (upd H1 l (.lst (ans.map V.int))) := fun b o e => by rw [upd_ne (ne_of_none (s b o e) hl)]; exact s b o e
  refine ⟨s.free hl, upd_same, S.same s2, fun hb => ?_, fun b hb => .inl hb, fun b o e _ => s2 b o e⟩
  obtain ⟨o, e⟩ := S.some l hb
  rw [s.free hl] at e
  cases e
theorem ret_tab {a : Adr} {H H1 : Hp} {net l : Addr} {m : Kqv6.Map_} {fp : List Addr} (S : StateAt a H net m fp) (Ps : List Addr) (hP : ∀ p ∈ Ps, p = a.P1 ∨ p = a.P2) (s : SameT Ps H H1) (h1 : LamTab H1 a.P1 (lamPos lamLongest) qLongest) (h2 : LamTab H1 a.P2 (lamPos lamLen) qLen) (hl : H1 l = none) (ans : List Int) :
    Ret a H (upd H1 l (.lst (ans.map V.int))) fp fp l net m ans := by
  obtain ⟨ll, d, as, ks, ca, cl, cs, h, rfl⟩ := S.ex
  obtain ⟨ps1, q1, _⟩ := S.t1
  obtain ⟨ps2, q2, _⟩ := S.t2
  have isT : ∀ p ∈ Ps, ∃ ps, H p = some (.tbl ps) := fun p hp => by
    rcases hP p hp with rfl | rfl
    · exact ⟨_, q1⟩
    · exact ⟨_, q2⟩
  have s' : ∀ b o, H b = some o → (∀ ps, o ≠ .tbl ps) → H1 b = some o := fun b o e ht => s b o e fun hb => by
    obtain ⟨ps, e'⟩ := isT b hb
    rw [e] at e'
    exact ht ps (Option.some.inj e')
  have up : ∀ b o, H1 b = some o → upd H1 l (.lst (ans.map V.int)) b = some o := fun b o e => by rw [upd_ne (ne_of_none e hl)]; exact e
  have nl : H l = none := by
    cases e : H l with
    | none => rfl
    | some o =>
      by_cases hb : l ∈ Ps
      · rcases hP l hb with z | z
        · obtain ⟨ps, e1, _⟩ := h1
          rw [← z, hl] at e1; cases e1
        · obtain ⟨ps, e1, _⟩ := h2
          rw [← z, hl] at e1; cases e1
      · rw [s l o e hb] at hl; cases hl
  refine ⟨nl, upd_same, ⟨⟨ll, d, as, ks, ca, cl, cs, h.tabs fun b o e ht => up _ _ (s' b o e ht), rfl⟩, S.fine, lamTab_same h1 up, lamTab_same h2 up⟩, fun hb => ?_, fun b hb => .inl hb, fun b o e hb => ?_⟩
  · obtain ⟨o, e⟩ := S.some l hb
    rw [nl] at e
    cases e
  · refine up _ _ (s b o e fun hp => hb ?_)
    rcases hP b hp with rfl | rfl <;> simp
abbrev sNumOr : Stmt := top 53
abbrev sAStart : Stmt := top 54
abbrev sAPlace : Stmt := top 55
abbrev sATold : Stmt := top 56
abbrev sARoad : Stmt := top 57
abbrev sAClose : Stmt := top 58
abbrev sAWiden : Stmt := top 59
abbrev sARound : Stmt := top 60
abbrev sALongest : Stmt := top 61
abbrev sANarrow : Stmt := top 62
abbrev sAMay : Stmt := top 63
abbrev sRLoad : Stmt := top 64
abbrev sAWay : Stmt := top 65
abbrev sRGreat : Stmt := top 66
abbrev sAMost : Stmt := top 67
abbrev sAHeavy : Stmt := top 68
abbrev sAHigh : Stmt := top 69
abbrev sANeeds : Stmt := top 70
abbrev sRStart : Stmt := top 71
abbrev sASoon : Stmt := top 72
abbrev sASend : Stmt := top 73
abbrev sADrop : Stmt := top 74
abbrev sAWhere : Stmt := top 75
abbrev sABusy : Stmt := top 76
abbrev sAConvoy : Stmt := top 77
abbrev sALook : Stmt := top 78
abbrev sAState : Stmt := top 79
section
variable {P : Program} {w : World} {K : PySem.W.Frag} {mg : Str → Option Value} {base : Heap}
theorem spHand_len {a : Adr} {n : Nat} {g : Kqv6.Map_ → List Nat → Kqv6.Map_ × List Int} {ps : List Str} (hp : ps.length = n + 1) : ∀ vs H Q E, spHand a n g vs H Q E → vs.length = ps.length := by
  intro vs H Q E h
  obtain ⟨net, m, fp, xs, rfl, hl, _⟩ := h
  rw [hp, ← hl]
  show (numsV xs).length + 1 = xs.length + 1
  unfold numsV
  rw [List.length_map]
theorem scAStart : FnScope ["network"] ["network"] (defScope sAStart) := ⟨rfl, rfl, rfl, by decide +kernel, rfl, by decide +kernel, by decide +kernel⟩
theorem ok_aStart {a : Adr} {f : Addr} {fd : FuncData} (F : Fun K "answer_start" "answer_start" sAStart f fd) : FnOk P w K mg base CX0 1 f fd ["network"] (spHand a 0 fun m _ => (m, [0])) := by
  refine F.ok scAStart (spHand_len rfl) (fun cdv A outer s H vs Q E hr h => ?_)
  obtain ⟨net, m, fp, xs, rfl, hl, S, k⟩ := h
  obtain rfl : xs = [] := List.eq_nil_of_length_eq_zero hl
  refine ⟨_, pss_one (ps_ret (pe_lst (pa_cons pe_int pa_nil))), ?_⟩
  exact ⟨zL1, fun l hl => k _ fp l (ret_same S (Same.refl H) hl [0])⟩
def gPlace : Kqv6.Map_ → List Nat → Kqv6.Map_ × List Int := fun m _ => if 8 ≤ m.places then (m, [-28]) else ({ m with places := m.places + 1 }, [(m.places : Int)])
theorem scAPlace : FnScope ["network"] ["network"] (defScope sAPlace) := ⟨rfl, rfl, rfl, by decide +kernel, rfl, by decide +kernel, by decide +kernel⟩
theorem ok_aPlace {a : Adr} {f : Addr} {fd : FuncData} (F : Fun K "answer_place" "answer_place" sAPlace f fd) (TN : ClsA K a.CN nsNet) (m8 : CI mg "MOST_PLACES" 8) (m28 : CI mg "FULL" (-28)) : FnOk P w K mg base CX0 1 f fd ["network"] (spHand a 0 gPlace) := by
  refine F.ok scAPlace (spHand_len rfl) (fun cdv A outer s H vs Q E hr h => ?_)
  obtain ⟨net, m, fp, xs, rfl, hl, S, k⟩ := h
  obtain rfl : xs = [] := List.eq_nil_of_length_eq_zero hl
  obtain ⟨l, dd, as, ks, ca, cl, cs, hP, efp⟩ := id S.ex
  obtain ⟨dx, hN⟩ := id hP.net
  have hR := hP.roads
  have hC := hP.conv
  have ap := hP.apart
  refine ⟨_, pss_cons (ps_if (pt_cmpR op_eq (pe_fld (pv 0) rfl) (pe_ci rfl m8) (nomark _)) (pss_one (ps_ret (pe_lst (pa_cons (pe_ci rfl m28) pa_nil)))) pss_nil)
    (pss_cons (ps_fld (pv 0) (pe_op op_add (pe_fld (pv 0) rfl) pe_int) rfl) (pss_one (ps_ret (pe_lst (pa_cons (pe_op op_sub (pe_fld (pv 0) rfl) pe_int) pa_nil))))), ?_⟩
  have n8 := S.fine.n8
  refine ⟨_, rfl, net, a.CN, dx, _, _, rfl, hN, TN.cl, TN.no _ (by simp), rfl, rfl, _, rfl, ite2 (fun c => ?_) (fun c => ?_)⟩
  · have e : m.places = 8 := by have := V.int.inj (of_decide_eq_true c); omega
    refine ⟨zL1, fun r hr => k _ fp r ?_⟩
    unfold gPlace
    rw [if_pos (by omega)]
    exact ret_same S (Same.refl H) hr [-28]
  · have e : m.places < 8 := by
      have : ¬ m.places = 8 := fun z => c (decide_eq_true (by rw [z]; rfl))
      omega
    refine ⟨_, rfl, net, a.CN, dx, _, _, rfl, hN, TN.cl, TN.no _ (by simp), rfl, _, _, rfl, rfl, _, rfl, net, a.CN, dx, _, rfl, hN, TN.cl, TN.no _ (by simp), (by show 3 < 1000; decide), ?_⟩
    refine ⟨_, rfl, net, a.CN, dx, _, _, rfl, upd_same, TN.cl, TN.no _ (by simp), rfl, _, _, rfl, rfl, zL1, fun r hr => k _ fp r ?_⟩
    unfold gPlace
    rw [if_neg (by omega)]
    have nrn : net ≠ r := ne_of_none upd_same hr
    have hr0 : H r = none := by rw [upd_ne nrn.symm] at hr; exact hr
    have e1 : ((m.places : Int) + 1 - 1) = (m.places : Int) := by omega
    have sb : ∀ b o, H b = some o → b ≠ net → upd (upd H net (.ins a.CN dx (putF "places" (.int ((m.places : Int) + 1)) (nf m.places l dd)))) r (.lst [V.int ((m.places : Int) + 1 - 1)]) b = some o := fun b o e hb => by
      rw [upd_ne (ne_of_none e hr0), upd_ne hb]; exact e
    have nln : l ≠ net := ne_of hR.lst hN (by intro q; cases q)
    have tn : ∀ {p : Addr} {pos : Pos} {q : Str}, LamTab H p pos q → LamTab (upd (upd H net (.ins a.CN dx (putF "places" (.int ((m.places : Int) + 1)) (nf m.places l dd)))) r (.lst [V.int ((m.places : Int) + 1 - 1)])) p pos q := fun {p pos q} h => by
      obtain ⟨ps, h1, h2 | ⟨c, oc, e, h3, h4⟩⟩ := h
      · exact ⟨ps, sb _ _ h1 (ne_of h1 hN (by intro q; cases q)), .inl h2⟩
      · exact ⟨ps, sb _ _ h1 (ne_of h1 hN (by intro q; cases q)), .inr ⟨c, oc, e, sb _ _ h3 (ne_of h3 hN (by intro q; cases q)), h4⟩⟩
    refine ⟨hr0, ?_, ⟨⟨l, dd, as, ks, ca, cl, cs, ⟨⟨dx, ?_⟩, ⟨sb _ _ hR.lst nln, hR.nd, hR.len, fun j b rr h1 h2 => ?_⟩, hC.move (fun b o e hb => sb b o e (hb.elim (fun z => by rw [z]; exact ap.dn) (ap.cn b))) rfl (fun _ _ => rfl) (Nat.le_refl _), hP.sep⟩, efp⟩, ?_, tn S.t1, tn S.t2⟩, fun hb => ?_, fun b hb => .inl hb, fun b o e hb => sb b o e fun z => hb (by rw [efp, z]; exact List.mem_cons_self)⟩
    · show upd _ r _ r = _
      rw [upd_same]
      show some (HO.lst [V.int ((m.places : Int) + 1 - 1)]) = some (HO.lst [V.int (m.places : Int)])
      rw [e1]
    · show upd _ r _ net = _
      rw [upd_ne nrn, upd_same]
      rfl
    · obtain ⟨dx', e⟩ := hR.at_ j b rr h1 h2
      exact ⟨dx', sb _ _ e (fun z => by
        subst z
        rw [hN] at e
        have e' := HO.ins.inj (Option.some.inj e)
        exact absurd (congrArg List.length e'.2.2) (by show ¬ 3 = 8; decide))⟩
    · exact ⟨⟨fun rr hrr => by have := S.fine.ok.ok rr hrr; exact ⟨this.1, by show rr.p < m.places + 1; omega, by show rr.q < m.places + 1; omega, this.2.2.2⟩⟩, S.fine.few, by show m.places + 1 ≤ 8; omega, S.fine.wide⟩
    · obtain ⟨o, e⟩ := S.some r hb
      rw [hr0] at e
      cases e
end
end BP
end
section
namespace BP
open PySem PySem.Spec PyProof.Rows L2
def optV (o : Option Nat) : V := match o with
  | none => .non
  | some n => .int n
def optI (o : Option Nat) : Int := match o with
  | none => -33
  | some n => n
def refV (o : Option Int) : V := match o with
  | none => .non
  | some z => .int z
def refL (m : Kqv6.Map_) (p q : Nat) (x : Kqv6.Load) : Option Int := if Kqv6.okEnds m p q = false then some (-2) else if Kqv6.okLoad x = false then some (-22) else none
def refG (m : Kqv6.Map_) (p q : Nat) (x : Kqv6.Load) : Option Int := match refL m p q x with
  | none => if p = q then some (-22) else none
  | some z => some z
def refS (m : Kqv6.Map_) (p q : Nat) (x : Kqv6.Load) (t : Nat) : Option Int := match refL m p q x with
  | none => if 5000 < t then some (-22) else none
  | some z => some z
theorem refL_some {α : Type} {m : Kqv6.Map_} {p q : Nat} {x : Kqv6.Load} {z : Int} (h : refL m p q x = some z) (f : Int → α) (r : α) : (if Kqv6.okEnds m p q = false then f (-2) else if Kqv6.okLoad x = false then f (-22) else r) = f z := by
  unfold refL at h
  by_cases c1 : Kqv6.okEnds m p q = false
  · rw [if_pos c1] at h ⊢; rw [Option.some.inj h]
  · rw [if_neg c1] at h ⊢
    by_cases c2 : Kqv6.okLoad x = false
    · rw [if_pos c2] at h ⊢; rw [Option.some.inj h]
    · rw [if_neg c2] at h; cases h
theorem refL_none {m : Kqv6.Map_} {p q : Nat} {x : Kqv6.Load} (h : refL m p q x = none) : ¬ Kqv6.okEnds m p q = false ∧ ¬ Kqv6.okLoad x = false := by
  unfold refL at h
  by_cases c1 : Kqv6.okEnds m p q = false
  · rw [if_pos c1] at h; cases h
  · rw [if_neg c1] at h
    by_cases c2 : Kqv6.okLoad x = false
    · rw [if_pos c2] at h; cases h
    · exact ⟨c1, c2⟩
theorem refG_some {α : Type} {m : Kqv6.Map_} {p q : Nat} {x : Kqv6.Load} {z : Int} (h : refG m p q x = some z) (f : Int → α) (r : α) : (if Kqv6.okEnds m p q = false then f (-2) else if p = q ∨ Kqv6.okLoad x = false then f (-22) else r) = f z := by
  unfold refG refL at h
  by_cases c1 : Kqv6.okEnds m p q = false
  · rw [if_pos c1] at h ⊢; rw [Option.some.inj h]
  · rw [if_neg c1] at h ⊢
    by_cases c2 : Kqv6.okLoad x = false
    · rw [if_pos c2] at h; rw [if_pos (.inr c2), Option.some.inj h]
    · rw [if_neg c2] at h
      dsimp only at h
      by_cases c3 : p = q
      · rw [if_pos c3] at h; rw [if_pos (.inl c3), Option.some.inj h]
      · rw [if_neg c3] at h; cases h
theorem refG_none {m : Kqv6.Map_} {p q : Nat} {x : Kqv6.Load} (h : refG m p q x = none) : ¬ Kqv6.okEnds m p q = false ∧ ¬ (p = q ∨ Kqv6.okLoad x = false) := by
  unfold refG at h
  cases e : refL m p q x with
  | some z => rw [e] at h; cases h
  | none =>
    rw [e] at h
    obtain ⟨c1, c2⟩ := refL_none e
    refine ⟨c1, fun z => z.elim (fun c3 => ?_) c2⟩
    dsimp only at h
    rw [if_pos c3] at h
    cases h
theorem refS_some {α : Type} {m : Kqv6.Map_} {p q t : Nat} {x : Kqv6.Load} {z : Int} (h : refS m p q x t = some z) (f : Int → α) (r : α) : (if Kqv6.okEnds m p q = false then f (-2) else if Kqv6.okLoad x = false ∨ 5000 < t then f (-22) else r) = f z := by
  unfold refS refL at h
  by_cases c1 : Kqv6.okEnds m p q = false
  · rw [if_pos c1] at h ⊢; rw [Option.some.inj h]
  · rw [if_neg c1] at h ⊢
    by_cases c2 : Kqv6.okLoad x = false
    · rw [if_pos c2] at h; rw [if_pos (.inl c2), Option.some.inj h]
    · rw [if_neg c2] at h
      dsimp only at h
      by_cases c3 : 5000 < t
      · rw [if_pos c3] at h; rw [if_pos (.inr c3), Option.some.inj h]
      · rw [if_neg c3] at h; cases h
theorem refS_none {m : Kqv6.Map_} {p q t : Nat} {x : Kqv6.Load} (h : refS m p q x t = none) : ¬ Kqv6.okEnds m p q = false ∧ ¬ (Kqv6.okLoad x = false ∨ 5000 < t) := by
  unfold refS at h
  cases e : refL m p q x with
  | some z => rw [e] at h; cases h
  | none =>
    rw [e] at h
    obtain ⟨c1, c2⟩ := refL_none e
    refine ⟨c1, fun z => z.elim c2 fun c3 => ?_⟩
    dsimp only at h
    rw [if_pos c3] at h
    cases h
theorem okEnds_lt {m : Kqv6.Map_} {p q : Nat} (h : ¬ Kqv6.okEnds m p q = false) : p < m.places ∧ q < m.places := by
  have h : Kqv6.okEnds m p q = true := by cases e : Kqv6.okEnds m p q with | true => rfl | false => exact absurd e h
  unfold Kqv6.okEnds at h
  simpa using h
section
variable {P : Program} {w : World} {K : PySem.W.Frag} {mg : Str → Option Value} {base : Heap}
def spNumOr : Sp := fun vs H Q _ => ∃ o : Option Nat, vs = [optV o] ∧ ∀ l, H l = none → Q (.ref l) (upd H l (.lst [V.int (optI o)]))
theorem scNumOr : FnScope ["number"] ["number"] (defScope sNumOr) := ⟨rfl, rfl, rfl, by decide +kernel, rfl, by decide +kernel, by decide +kernel⟩
theorem ok_numOr {f : Addr} {fd : FuncData} (F : Fun K "number_or_none_found" "number_or_none_found" sNumOr f fd) (c33 : CI mg "NONE_FOUND" (-33)) : FnOk P w K mg base CX0 1 f fd ["number"] spNumOr := by
  refine F.ok scNumOr (fun vs H Q E h => ?_) (fun cdv A outer s H vs Q E hr h => ?_)
  · obtain ⟨o, rfl, _⟩ := h
    rfl
  · obtain ⟨o, rfl, k⟩ := h
    refine ⟨_, pss_one (ps_ret (pe_ifExp (pt_cmpR op_isN (pv 0) pe_non (nomark _)) (pe_lst (pa_cons (pe_ci rfl c33) pa_nil)) (pe_lst (pa_cons (pv 0) pa_nil)))), ?_⟩
    cases o with
    | none => exact ⟨_, rfl, rfl, _, rfl, iteT ⟨zL1, fun l hl => k l hl⟩⟩
    | some n => exact ⟨_, rfl, rfl, _, rfl, iteF ⟨_, rfl, zL1, fun l hl => k l hl⟩⟩
def spRLoad (CN CL : Addr) : Sp := fun vs H Q _ => ∃ (net ld l : Addr) (m : Kqv6.Map_) (p q : Nat) (x : Kqv6.Load), vs = [.ref net, .int p, .int q, .ref ld] ∧ NetAt CN H net m.places l ∧ LoadAt CL H ld x ∧ Q (refV (refL m p q x)) H
theorem scRLoad : FnScope ["network", "p", "q", "load"] ["network", "p", "q", "load"] (defScope sRLoad) := ⟨rfl, rfl, rfl, by decide +kernel, rfl, by decide +kernel, by decide +kernel⟩
theorem ok_rLoad {f CN CL fH fT : Addr} {fd fdH fdT : FuncData} (F : Fun K "refusal_of_load" "refusal_of_load" sRLoad f fd) (TN : ClsA K CN nsNet) (TL : ClsA K CL nsLoad) (c2 : CI mg "NO_SUCH" (-2)) (c22 : CI mg "NOT_AS_TOLD" (-22))
    (GH : FnOk P w K mg base CX0 1 fH fdH ["self", "p", "q"] (spHasPlaces CN)) (mH : Meth K CN "has_places" fH) (bH : Binds K fdH ["self", "p", "q"] []) (GT : FnOk P w K mg base CX0 1 fT fdT ["self"] (spLoadTold CL)) (mT : Meth K CL "is_as_told" fT) (bT : Binds K fdT ["self"] []) :
    FnOk P w K mg base CX0 2 f fd ["network", "p", "q", "load"] (spRLoad CN CL) := by
  refine F.ok scRLoad (fun vs H Q E h => ?_) (fun cdv A outer s H vs Q E hr h => ?_)
  · obtain ⟨net, ld, l, m, p, q, x, rfl, _⟩ := h
    rfl
  · obtain ⟨net, ld, l, m, p, q, x, rfl, ⟨dd, dx, hN⟩, ⟨d1, hL1⟩, k⟩ := h
    refine ⟨_, pss_cons (ps_if (pt_not (pt_val (pe_meth (pv 0) TN.cl mH GH hr bH .nil pass0 (pa_cons (pv 1) (pa_cons (pv 2) pa_nil))))) (pss_one (ps_ret (pe_ci rfl c2))) pss_nil)
      (pss_cons (ps_if (pt_not (pt_val (pe_meth0 (pv 3) TL.cl mT GT hr bT .nil pass0))) (pss_one (ps_ret (pe_ci rfl c22))) pss_nil)
      (pss_one (ps_ret pe_non))), ?_⟩
    unfold refL at k
    refine ⟨_, rfl, net, dx, _, rfl, hN, rfl, _, rfl, _, rfl, net, l, m.places, p, q, rfl, ⟨dd, dx, hN⟩, _, rfl, ?_⟩
    cases he : Kqv6.okEnds m p q with
    | false =>
      have he' : (decide (p < m.places) && decide (q < m.places)) = false := he
      rw [he']
      rw [if_pos he] at k
      exact iteT k
    | true =>
      have he' : (decide (p < m.places) && decide (q < m.places)) = true := he
      rw [he']
      rw [if_neg (by rw [he]; decide)] at k
      refine iteF ⟨_, rfl, ld, d1, _, rfl, hL1, rfl, ld, x, rfl, ⟨d1, hL1⟩, _, rfl, ?_⟩
      cases ho : Kqv6.okLoad x with
      | false =>
        rw [if_pos ho] at k
        exact iteT k
      | true =>
        rw [if_neg (by rw [ho]; decide)] at k
        exact iteF k
def spRGreat (CN CL : Addr) : Sp := fun vs H Q _ => ∃ (net ld l : Addr) (m : Kqv6.Map_) (p q : Nat) (x : Kqv6.Load), vs = [.ref net, .int p, .int q, .ref ld] ∧ NetAt CN H net m.places l ∧ LoadAt CL H ld x ∧ Q (refV (refG m p q x)) H
theorem scRGreat : FnScope ["network", "p", "q", "load", "refusal"] ["network", "p", "q", "load"] (defScope sRGreat) := ⟨rfl, rfl, rfl, by decide +kernel, rfl, by decide +kernel, by decide +kernel⟩
theorem ok_rGreat {f CN CL fR : Addr} {fd fdR : FuncData} (F : Fun K "refusal_of_greatest" "refusal_of_greatest" sRGreat f fd) (c22 : CI mg "NOT_AS_TOLD" (-22))
    (GR : FnOk P w K mg base CX0 2 fR fdR ["network", "p", "q", "load"] (spRLoad CN CL)) (kR : PySem.W.keepIn K (.ref fR) = true) (mR : mg "refusal_of_load" = some (.ref fR)) (bR : Binds K fdR ["network", "p", "q", "load"] []) :
    FnOk P w K mg base CX0 3 f fd ["network", "p", "q", "load"] (spRGreat CN CL) := by
  refine F.ok scRGreat (fun vs H Q E h => ?_) (fun cdv A outer s H vs Q E hr h => ?_)
  · obtain ⟨net, ld, l, m, p, q, x, rfl, _⟩ := h
    rfl
  · obtain ⟨net, ld, l, m, p, q, x, rfl, hN, hL, k⟩ := h
    refine ⟨_, pss_cons (ps_set (i := 4) scRGreat.nd rfl (Or.inl rfl) (pe_call GR hr rfl mR kR bR .nil pass0 (pa_cons (pv 0) (pa_cons (pv 1) (pa_cons (pv 2) (pa_cons (pv 3) pa_nil))))))
      (pss_cons (ps_if (PW.pt (pw_and (pt_cmpR op_isN (pv 4) pe_non (nomark _)) (pw_and1 (pt_cmpR op_eq (pv 1) (pv 2) (nomark _))))) (pss_one (ps_ret (pe_ci rfl c22))) pss_nil)
      (pss_one (ps_ret (pv 4)))), ?_⟩
    refine ⟨_, rfl, _, rfl, _, rfl, _, rfl, net, ld, l, m, p, q, x, rfl, hN, hL, ?_⟩
    unfold refG at k
    cases e : refL m p q x with
    | some z =>
      rw [e] at k
      exact ⟨_, rfl, rfl, _, rfl, iteF (iteF ⟨_, rfl, k⟩)⟩
    | none =>
      rw [e] at k
      dsimp only at k
      refine ⟨_, rfl, rfl, _, rfl, iteT ⟨_, rfl, _, rfl, rfl, _, rfl, ?_⟩⟩
      rw [dec_eqV]
      refine ite2 (fun c => ?_) (fun c => ?_)
      · rw [if_pos (beq_iff_eq.mp c)] at k
        exact k
      · rw [if_neg (fun z => c (beq_iff_eq.mpr z))] at k
        exact ⟨_, rfl, k⟩
def spRStart (CN CL : Addr) : Sp := fun vs H Q _ => ∃ (net ld l : Addr) (m : Kqv6.Map_) (p q t : Nat) (x : Kqv6.Load), vs = [.ref net, .int p, .int q, .ref ld, .int t] ∧ NetAt CN H net m.places l ∧ LoadAt CL H ld x ∧ Q (refV (refS m p q x t)) H
theorem scRStart : FnScope ["network", "p", "q", "load", "t", "refusal"] ["network", "p", "q", "load", "t"] (defScope sRStart) := ⟨rfl, rfl, rfl, by decide +kernel, rfl, by decide +kernel, by decide +kernel⟩
theorem ok_rStart {f CN CL fR : Addr} {fd fdR : FuncData} (F : Fun K "refusal_of_start" "refusal_of_start" sRStart f fd) (c22 : CI mg "NOT_AS_TOLD" (-22)) (late : CI mg "LATEST_START" 5000)
    (GR : FnOk P w K mg base CX0 2 fR fdR ["network", "p", "q", "load"] (spRLoad CN CL)) (kR : PySem.W.keepIn K (.ref fR) = true) (mR : mg "refusal_of_load" = some (.ref fR)) (bR : Binds K fdR ["network", "p", "q", "load"] []) :
    FnOk P w K mg base CX0 3 f fd ["network", "p", "q", "load", "t"] (spRStart CN CL) := by
  refine F.ok scRStart (fun vs H Q E h => ?_) (fun cdv A outer s H vs Q E hr h => ?_)
  · obtain ⟨net, ld, l, m, p, q, t, x, rfl, _⟩ := h
    rfl
  · obtain ⟨net, ld, l, m, p, q, t, x, rfl, hN, hL, k⟩ := h
    refine ⟨_, pss_cons (ps_set (i := 5) scRStart.nd rfl (Or.inl rfl) (pe_call GR hr rfl mR kR bR .nil pass0 (pa_cons (pv 0) (pa_cons (pv 1) (pa_cons (pv 2) (pa_cons (pv 3) pa_nil))))))
      (pss_cons (ps_if (PW.pt (pw_and (pt_cmpR op_isN (pv 5) pe_non (nomark _)) (pw_and1 (pt_cmpR op_gt (pv 4) (pe_ci rfl late) (nomark _))))) (pss_one (ps_ret (pe_ci rfl c22))) pss_nil)
      (pss_one (ps_ret (pv 5)))), ?_⟩
    refine ⟨_, rfl, _, rfl, _, rfl, _, rfl, net, ld, l, m, p, q, x, rfl, hN, hL, ?_⟩
    unfold refS at k
    cases e : refL m p q x with
    | some z =>
      rw [e] at k
      exact ⟨_, rfl, rfl, _, rfl, iteF (iteF ⟨_, rfl, k⟩)⟩
    | none =>
      rw [e] at k
      dsimp only at k
      refine ⟨_, rfl, rfl, _, rfl, iteT ⟨_, rfl, _, _, rfl, rfl, _, rfl, ite2 (fun c => ?_) (fun c => ?_)⟩⟩
      · have c : 5000 < t := by have := of_decide_eq_true c; omega
        rw [if_pos c] at k
        exact k
      · have c : ¬ 5000 < t := fun z => c (decide_eq_true (by omega))
        rw [if_neg c] at k
        exact ⟨_, rfl, k⟩
end
end BP
end
section
namespace BP
open PySem PySem.Spec PyProof.Rows L2
section
variable (P : Program) (w : World) (K : PySem.W.Frag) (mg : Str → Option Value) (base : Heap)
def Callable (name : Str) (k : Nat) (ps : List Str) (sp : Sp) : Prop := ∃ f fd, FnOk P w K mg base CX0 k f fd ps sp ∧ mg name = some (.ref f) ∧ PySem.W.keepIn K (.ref f) = true ∧ Binds K fd ps []
def MethodC (C : Addr) (name : Str) (k : Nat) (ps : List Str) (sp : Sp) : Prop := ∃ f fd, FnOk P w K mg base CX0 k f fd ps sp ∧ Meth K C name f ∧ Binds K fd ps []
def MakeC (C : Addr) (name : Str) (k : Nat) (ps : List Str) (sp : Sp) : Prop := ∃ f fd, FnOk P w K mg base CX0 k f fd ps sp ∧ Mk K C f ∧ mg name = some (.ref C) ∧ Binds K fd ps []
structure Known (a : Adr) : Prop where
  TN : ClsA K a.CN nsNet
  TR : ClsA K a.CR nsRoad
  TL : ClsA K a.CL nsLoad
  TC : ClsA K a.CC nsConvoy
  TS : ClsA K a.CS nsStretch
  ne : a.P1 ≠ a.P2
  c17 : CI mg "WOULD_MEET" (-17)
  most8 : CI mg "MOST_CONVOYS" 8
  c2 : CI mg "NO_SUCH" (-2)
  c22 : CI mg "NOT_AS_TOLD" (-22)
  c28 : CI mg "FULL" (-28)
  c33 : CI mg "NONE_FOUND" (-33)
  long : CI mg "MOST_LONG" 300
  wide : CI mg "MOST_WIDE" 200
  high : CI mg "MOST_HIGH" 100
  heavy : CI mg "MOST_HEAVY" 1000
  minutes : CI mg "MOST_MINUTES" 200
  roads : CI mg "MOST_ROADS" 14
  places : CI mg "MOST_PLACES" 8
  len : mg "len" = none
  round : Callable P w K mg base "goes_round" 1 ["length", "a", "b"] spRound
  longest : Callable P w K mg base "longest_rod" 4 ["a", "b"] (spLongest a.P1)
  narrowest : Callable P w K mg base "narrowest_width" 2 ["length", "a"] spNarrow
  quick : Callable P w K mg base "quickest" 4 ["network", "p", "q", "load"] (spQuick a.CN a.CR a.CL)
  gl : Callable P w K mg base "greatest_length" 8 ["network", "p", "q", "height", "weight"] (spLen a.CN a.CR a.P2)
  numOr : Callable P w K mg base "number_or_none_found" 1 ["number"] spNumOr
  gw : Callable P w K mg base "greatest_weight" 6 ["network", "p", "q", "length", "height"] (spGMax a.CN a.CR (fun r => r.heavy) fun u v z => ⟨u, v, z⟩)
  gh : Callable P w K mg base "greatest_height" 6 ["network", "p", "q", "length", "weight"] (spGMax a.CN a.CR (fun r => r.high) fun u v z => ⟨u, z, v⟩)
  needed : Callable P w K mg base "needed_roads" 5 ["network", "p", "q", "load"] (spNeeded a.CN a.CR a.CL)
  rload : Callable P w K mg base "refusal_of_load" 2 ["network", "p", "q", "load"] (spRLoad a.CN a.CL)
  rgreat : Callable P w K mg base "refusal_of_greatest" 3 ["network", "p", "q", "load"] (spRGreat a.CN a.CL)
  rstart : Callable P w K mg base "refusal_of_start" 3 ["network", "p", "q", "load", "t"] (spRStart a.CN a.CL)
  cby : Callable P w K mg base "convoy_by" 3 ["network", "roads", "sets_out"] (spConvoyBy a.CN a.CR a.CC a.CS)
  lwait : Callable P w K mg base "longest_wait" 3 ["network", "convoy"] (spLWait a.CN a.CC a.CS)
  first : Callable P w K mg base "first_clear_minute" 4 ["network", "roads", "minute"] (spFirst a.CN a.CR a.CC a.CS)
  least : Callable P w K mg base "least_free_number" 1 ["network"] (spLeast a.CN a.CC a.CS)
  con : Callable P w K mg base "convoy_on" 3 ["network", "r", "minute"] (spOn a.CN a.CC a.CS)
  sin : MethodC P w K mg base a.CC "stretch_in" 2 ["self", "minute"] (spStretchIn a.CC a.CS)
  hasConvoy : MethodC P w K mg base a.CN "has_convoy" 1 ["self", "k"] (spHasConvoy a.CN)
  load : MakeC P w K mg base a.CL "Load" 1 ["self", "length", "height", "weight"] (spLoadInit a.CL)
  road : MakeC P w K mg base a.CR "Road" 1 ["self", "p", "q", "minutes", "high", "heavy", "a", "b"] (spRoadInit a.CR)
  told : MethodC P w K mg base a.CL "is_as_told" 1 ["self"] (spLoadTold a.CL)
  bend : MethodC P w K mg base a.CR "has_bend" 1 ["self"] (spHasBend a.CR)
  why : MethodC P w K mg base a.CR "why_not" 2 ["self", "load"] (spWhy a.CR a.CL)
  hasPlaces : MethodC P w K mg base a.CN "has_places" 1 ["self", "p", "q"] (spHasPlaces a.CN)
  hasRoad : MethodC P w K mg base a.CN "has_road" 1 ["self", "r"] (spHasRoad a.CN)
end
theorem lamTab_sameT {H H1 : Hp} {Ps : List Addr} {p : Addr} {pos : Pos} {q : Str} (h : LamTab H p pos q) (hp : p ∉ Ps) (isT : ∀ p ∈ Ps, ∃ ps, H p = some (.tbl ps)) (s : SameT Ps H H1) : LamTab H1 p pos q := by
  obtain ⟨ps, h1, h2 | ⟨c, oc, e, h3, h4⟩⟩ := h
  · exact ⟨ps, s _ _ h1 hp, .inl h2⟩
  · refine ⟨ps, s _ _ h1 hp, .inr ⟨c, oc, e, s _ _ h3 (fun hc => ?_), h4⟩⟩
    obtain ⟨ps', e'⟩ := isT c hc
    rw [h3] at e'; cases e'
theorem gt_iff {a b : Nat} : decide ((b : Int) < (a : Int)) = true ↔ b < a := by rw [decide_eq_true_iff]; omega
section
variable {P : Program} {w : World} {K : PySem.W.Frag} {mg : Str → Option Value} {base : Heap}
def gRound : Kqv6.Map_ → List Nat → Kqv6.Map_ × List Int := fun m xs => match xs with
  | [l, a, b] => (m, [if 300 < l ∨ 200 < a ∨ 200 < b then -22 else if Kqv6.round l a b then 1 else 0])
  | _ => (m, [])
theorem scARound : FnScope ["network", "length", "a", "b"] ["network", "length", "a", "b"] (defScope sARound) := ⟨rfl, rfl, rfl, by decide +kernel, rfl, by decide +kernel, by decide +kernel⟩
theorem len3 {xs : List Nat} (h : xs.length = 3) : ∃ a b c, xs = [a, b, c] := match xs, h with | [a, b, c], _ => ⟨a, b, c, rfl⟩
theorem len2 {xs : List Nat} (h : xs.length = 2) : ∃ a b, xs = [a, b] := match xs, h with | [a, b], _ => ⟨a, b, rfl⟩
theorem len4 {xs : List Nat} (h : xs.length = 4) : ∃ a b c d, xs = [a, b, c, d] := match xs, h with | [a, b, c, d], _ => ⟨a, b, c, d, rfl⟩
theorem len5 {xs : List Nat} (h : xs.length = 5) : ∃ a b c d e, xs = [a, b, c, d, e] := match xs, h with | [a, b, c, d, e], _ => ⟨a, b, c, d, e, rfl⟩
theorem len7 {xs : List Nat} (h : xs.length = 7) : ∃ a b c d e f g, xs = [a, b, c, d, e, f, g] := match xs, h with | [a, b, c, d, e, f, g], _ => ⟨a, b, c, d, e, f, g, rfl⟩
theorem ok_aRound {a : Adr} {f : Addr} {fd : FuncData} (F : Fun K "answer_round" "answer_round" sARound f fd) (g : Known P w K mg base a) : FnOk P w K mg base CX0 2 f fd ["network", "length", "a", "b"] (spHand a 3 gRound) := by
  refine F.ok scARound (spHand_len rfl) (fun cdv A outer s H vs Q E hr h => ?_)
  obtain ⟨net, m, fp, xs, rfl, hl, S, k⟩ := h
  obtain ⟨l, wa, wb, rfl⟩ := len3 hl
  obtain ⟨fR, fdR, GR, mR, kR, bR⟩ := g.round
  refine ⟨_, pss_cons (ps_if (PW.pt (pw_or (pt_cmpR op_gt (pv 1) (pe_ci rfl g.long) (nomark _)) (pw_or (pt_cmpR op_gt (pv 2) (pe_ci rfl g.wide) (nomark _)) (pw_or1 (pt_cmpR op_gt (pv 3) (pe_ci rfl g.wide) (nomark _)))))) (pss_one (ps_ret (pe_lst (pa_cons (pe_ci rfl g.c22) pa_nil)))) pss_nil)
    (pss_one (ps_ret (pe_lst (pa_cons (pe_ifExp (pt_val (pe_call GR hr rfl mR kR bR .nil pass0 (pa_cons (pv 1) (pa_cons (pv 2) (pa_cons (pv 3) pa_nil))))) pe_int pe_int) pa_nil)))), ?_⟩
  have bad : (300 < l ∨ 200 < wa ∨ 200 < wb) → ∀ r, H r = none → Q (.ref r) (upd H r (.lst [V.int (-22)])) := fun c r hr => k _ fp r (by
    show Ret a H _ fp fp r net m [if 300 < l ∨ 200 < wa ∨ 200 < wb then -22 else _]
    rw [if_pos c]
    exact ret_same S (Same.refl H) hr [-22])
  refine ⟨_, rfl, _, _, rfl, rfl, _, rfl, ite2 (fun c => ?_) (fun c => ?_)⟩
  · exact iteT ⟨zL1, fun r hr => bad (.inl (gt_iff.mp c)) r hr⟩
  refine ⟨_, rfl, _, _, rfl, rfl, _, rfl, ite2 (fun c2 => ?_) (fun c2 => ?_)⟩
  · exact iteT ⟨zL1, fun r hr => bad (.inr (.inl (gt_iff.mp c2))) r hr⟩
  refine ⟨_, rfl, _, _, rfl, rfl, _, rfl, ite2 (fun c3 => ?_) (fun c3 => ?_)⟩
  · exact ⟨zL1, fun r hr => bad (.inr (.inr (gt_iff.mp c3))) r hr⟩
  have c : ¬ 300 < l := fun z => c (gt_iff.mpr z)
  have c2 : ¬ 200 < wa := fun z => c2 (gt_iff.mpr z)
  have c3 : ¬ 200 < wb := fun z => c3 (gt_iff.mpr z)
  refine ⟨_, rfl, _, rfl, _, rfl, l, wa, wb, rfl, by omega, by omega, by omega, _, rfl, ite2 (fun q => ?_) (fun q => ?_)⟩
  · refine ⟨zL1, fun r hr => k _ fp r ?_⟩
    show Ret a H _ fp fp r net m [if 300 < l ∨ 200 < wa ∨ 200 < wb then -22 else if Kqv6.round l wa wb then 1 else 0]
    rw [if_neg (by omega), if_pos q]
    exact ret_same S (Same.refl H) hr [1]
  · refine ⟨zL1, fun r hr => k _ fp r ?_⟩
    show Ret a H _ fp fp r net m [if 300 < l ∨ 200 < wa ∨ 200 < wb then -22 else if Kqv6.round l wa wb then 1 else 0]
    rw [if_neg (by omega), if_neg q]
    exact ret_same S (Same.refl H) hr [0]
def gLongest : Kqv6.Map_ → List Nat → Kqv6.Map_ × List Int := fun m xs => match xs with
  | [a, b] => (m, [if 200 < a ∨ 200 < b then -22 else (Kqv6.longest a b : Int)])
  | _ => (m, [])
theorem scALongest : FnScope ["network", "a", "b"] ["network", "a", "b"] (defScope sALongest) := ⟨rfl, rfl, rfl, by decide +kernel, rfl, by decide +kernel, by decide +kernel⟩
theorem ok_aLongest {a : Adr} {f : Addr} {fd : FuncData} (F : Fun K "answer_longest" "answer_longest" sALongest f fd) (g : Known P w K mg base a) : FnOk P w K mg base CX0 5 f fd ["network", "a", "b"] (spHand a 2 gLongest) := by
  refine F.ok scALongest (spHand_len rfl) (fun cdv A outer s H vs Q E hr h => ?_)
  obtain ⟨net, m, fp, xs, rfl, hl, S, k⟩ := h
  obtain ⟨wa, wb, rfl⟩ := len2 hl
  obtain ⟨fR, fdR, GR, mR, kR, bR⟩ := g.longest
  refine ⟨_, pss_cons (ps_if (PW.pt (pw_or (pt_cmpR op_gt (pv 1) (pe_ci rfl g.wide) (nomark _)) (pw_or1 (pt_cmpR op_gt (pv 2) (pe_ci rfl g.wide) (nomark _))))) (pss_one (ps_ret (pe_lst (pa_cons (pe_ci rfl g.c22) pa_nil)))) pss_nil)
    (pss_one (ps_ret (pe_lst (pa_cons (pe_call GR hr rfl mR kR bR .nil pass0 (pa_cons (pv 1) (pa_cons (pv 2) pa_nil))) pa_nil)))), ?_⟩
  have bad : (200 < wa ∨ 200 < wb) → ∀ r, H r = none → Q (.ref r) (upd H r (.lst [V.int (-22)])) := fun c r hr => k _ fp r (by
    show Ret a H _ fp fp r net m [if 200 < wa ∨ 200 < wb then -22 else _]
    rw [if_pos c]
    exact ret_same S (Same.refl H) hr [-22])
  refine ⟨_, rfl, _, _, rfl, rfl, _, rfl, ite2 (fun c => ?_) (fun c => ?_)⟩
  · exact iteT ⟨zL1, fun r hr => bad (.inl (gt_iff.mp c)) r hr⟩
  refine ⟨_, rfl, _, _, rfl, rfl, _, rfl, ite2 (fun c2 => ?_) (fun c2 => ?_)⟩
  · exact ⟨zL1, fun r hr => bad (.inr (gt_iff.mp c2)) r hr⟩
  have c : ¬ 200 < wa := fun z => c (gt_iff.mpr z)
  have c2 : ¬ 200 < wb := fun z => c2 (gt_iff.mpr z)
  refine ⟨_, rfl, _, rfl, wa, wb, rfl, by omega, by omega, S.t1, fun H1 hT1 sT => ⟨zL1, fun r hr => k _ fp r ?_⟩⟩
  show Ret a H _ fp fp r net m [if 200 < wa ∨ 200 < wb then -22 else (Kqv6.longest wa wb : Int)]
  rw [if_neg (by omega)]
  refine ret_tab S [a.P1] (fun p hp => .inl (by simpa using hp)) sT hT1 (lamTab_sameT S.t2 (by simpa using g.ne.symm) (fun p hp => ?_) sT) hr [(Kqv6.longest wa wb : Int)]
  obtain rfl : p = a.P1 := by simpa using hp
  obtain ⟨ps, e, _⟩ := S.t1
  exact ⟨ps, e⟩
def gNarrow : Kqv6.Map_ → List Nat → Kqv6.Map_ × List Int := fun m xs => match xs with
  | [l, a] => (m, [if 300 < l ∨ 200 < a then -22 else match Kqv6.narrowest l a with | none => -33 | some b => (b : Int)])
  | _ => (m, [])
theorem scANarrow : FnScope ["network", "length", "a"] ["network", "length", "a"] (defScope sANarrow) := ⟨rfl, rfl, rfl, by decide +kernel, rfl, by decide +kernel, by decide +kernel⟩
theorem len1 {xs : List Nat} (h : xs.length = 1) : ∃ a, xs = [a] := match xs, h with | [a], _ => ⟨a, rfl⟩
theorem len6 {xs : List Nat} (h : xs.length = 6) : ∃ a b c d e f, xs = [a, b, c, d, e, f] := match xs, h with | [a, b, c, d, e, f], _ => ⟨a, b, c, d, e, f, rfl⟩
theorem ok_aNarrow {a : Adr} {f : Addr} {fd : FuncData} (F : Fun K "answer_narrowest" "answer_narrowest" sANarrow f fd) (g : Known P w K mg base a) : FnOk P w K mg base CX0 3 f fd ["network", "length", "a"] (spHand a 2 gNarrow) := by
  refine F.ok scANarrow (spHand_len rfl) (fun cdv A outer s H vs Q E hr h => ?_)
  obtain ⟨net, m, fp, xs, rfl, hl, S, k⟩ := h
  obtain ⟨l, wa, rfl⟩ := len2 hl
  obtain ⟨fR, fdR, GR, mR, kR, bR⟩ := g.narrowest
  obtain ⟨fN, fdN, GN, mN, kN, bN⟩ := g.numOr
  have r1 : Room 1 _ := hr.mono (by decide)
  refine ⟨_, pss_cons (ps_if (PW.pt (pw_or (pt_cmpR op_gt (pv 1) (pe_ci rfl g.long) (nomark _)) (pw_or1 (pt_cmpR op_gt (pv 2) (pe_ci rfl g.wide) (nomark _))))) (pss_one (ps_ret (pe_lst (pa_cons (pe_ci rfl g.c22) pa_nil)))) pss_nil)
    (pss_one (ps_ret (pe_call GN r1 rfl mN kN bN .nil pass0 (pa_cons (pe_call GR hr rfl mR kR bR .nil pass0 (pa_cons (pv 1) (pa_cons (pv 2) pa_nil))) pa_nil)))), ?_⟩
  have bad : (300 < l ∨ 200 < wa) → ∀ r, H r = none → Q (.ref r) (upd H r (.lst [V.int (-22)])) := fun c r hr => k _ fp r (by
    show Ret a H _ fp fp r net m [if 300 < l ∨ 200 < wa then -22 else _]
    rw [if_pos c]
    exact ret_same S (Same.refl H) hr [-22])
  refine ⟨_, rfl, _, _, rfl, rfl, _, rfl, ite2 (fun c => ?_) (fun c => ?_)⟩
  · exact iteT ⟨zL1, fun r hr => bad (.inl (gt_iff.mp c)) r hr⟩
  refine ⟨_, rfl, _, _, rfl, rfl, _, rfl, ite2 (fun c2 => ?_) (fun c2 => ?_)⟩
  · exact ⟨zL1, fun r hr => bad (.inr (gt_iff.mp c2)) r hr⟩
  have c : ¬ 300 < l := fun z => c (gt_iff.mpr z)
  have c2 : ¬ 200 < wa := fun z => c2 (gt_iff.mpr z)
  refine ⟨_, rfl, _, rfl, l, wa, rfl, by omega, by omega, Kqv6.narrowest l wa, rfl, fun r hr => k _ fp r ?_⟩
  show Ret a H _ fp fp r net m [if 300 < l ∨ 200 < wa then -22 else match Kqv6.narrowest l wa with | none => -33 | some b => (b : Int)]
  rw [if_neg (by omega)]
  exact ret_same S (Same.refl H) hr [optI (Kqv6.narrowest l wa)]
end
end BP
end
section
namespace BP
open PySem PySem.Spec PyProof.Rows L2
section
variable {P : Program} {w : World} {K : PySem.W.Frag} {mg : Str → Option Value} {base : Heap}
theorem okLoad_long {x : Kqv6.Load} (h : Kqv6.okLoad x = true) : x.long ≤ 300 ∧ x.high ≤ 100 ∧ x.heavy ≤ 1000 := by
  unfold Kqv6.okLoad at h
  simp only [Bool.and_eq_true, decide_eq_true_eq] at h
  have : Kqv6.LONG = 300 := rfl
  omega
theorem not_false_of {b : Bool} (h : ¬ b = true) : b = false := Bool.eq_false_iff.mpr h
def gMay : Kqv6.Map_ → List Nat → Kqv6.Map_ × List Int := fun m xs => match xs with
  | [r, l, h, wt] => (m, [match m.roads[r]? with | none => -2 | some x => if Kqv6.okLoad ⟨l, h, wt⟩ = false then -22 else (Kqv6.why x ⟨l, h, wt⟩ : Int)])
  | _ => (m, [])
theorem scAMay : FnScope ["network", "r", "length", "height", "weight", "load"] ["network", "r", "length", "height", "weight"] (defScope sAMay) := ⟨rfl, rfl, rfl, by decide +kernel, rfl, by decide +kernel, by decide +kernel⟩
theorem ok_aMay {a : Adr} {f : Addr} {fd : FuncData} (F : Fun K "answer_may" "answer_may" sAMay f fd) (g : Known P w K mg base a) : FnOk P w K mg base CX0 3 f fd ["network", "r", "length", "height", "weight"] (spHand a 4 gMay) := by
  refine F.ok scAMay (spHand_len rfl) (fun cdv A outer s H vs Q E hr h => ?_)
  obtain ⟨net, m, fp, xs, rfl, hl, S, k⟩ := h
  obtain ⟨r, l, h, wt, rfl⟩ := len4 hl
  obtain ⟨fI, fdI, GI, MI, mI, bI⟩ := g.load
  obtain ⟨fT, fdT, GT, mT, bT⟩ := g.told
  obtain ⟨fH, fdH, GH, mH, bH⟩ := g.hasRoad
  obtain ⟨fW, fdW, GW, mW, bW⟩ := g.why
  have r1 : Room 1 _ := hr.mono (by decide)
  obtain ⟨ll, as, dd, dx, hN, hR⟩ := S.old
  refine ⟨_, pss_cons (ps_set (i := 5) scAMay.nd rfl (Or.inl rfl) (pe_make MI GI hr rfl mI bI .nil pass0 (pa_cons (pv 2) (pa_cons (pv 3) (pa_cons (pv 4) pa_nil)))))
    (pss_cons (ps_if (pt_not (pt_val (pe_meth (pv 0) g.TN.cl mH GH r1 bH .nil pass0 (pa_cons (pv 1) pa_nil)))) (pss_one (ps_ret (pe_lst (pa_cons (pe_ci rfl g.c2) pa_nil)))) pss_nil)
    (pss_cons (ps_if (pt_not (pt_val (pe_meth0 (pv 5) g.TL.cl mT GT r1 bT .nil pass0))) (pss_one (ps_ret (pe_lst (pa_cons (pe_ci rfl g.c22) pa_nil)))) pss_nil)
    (pss_one (ps_ret (pe_lst (pa_cons (pe_meth (pe_ix ix_list (pe_fld (pv 0) rfl) (pv 1) (fun _ _ => rfl)) g.TR.cl mW GW hr bW .nil pass0 (pa_cons (pv 5) pa_nil)) pa_nil)))))), ?_⟩
  refine ⟨_, rfl, _, rfl, _, rfl, fun x0 d0 n0 m0 e0 => ⟨x0, d0, ⟨l, h, wt⟩, rfl, upd_same, fun H1 hL1 kp => ⟨rfl, ?_⟩⟩⟩
  have s1 : Same H H1 := Same.made n0 m0 kp
  obtain ⟨d1, hL1⟩ := hL1
  have fin : ∀ (z : Int) (v : Addr), H1 v = none → (match m.roads[r]? with | none => (-2 : Int) | some x => if Kqv6.okLoad ⟨l, h, wt⟩ = false then -22 else (Kqv6.why x ⟨l, h, wt⟩ : Int)) = z → Q (.ref v) (upd H1 v (.lst [V.int z])) := fun z v hv e => k _ fp v (by
    show Ret a H _ fp fp v net m [_]
    rw [e]
    exact ret_same S s1 hv [z])
  refine ⟨_, rfl, net, dx, _, rfl, s1 _ _ hN, rfl, _, rfl, net, ll, m.places, r, _, rfl, ⟨dd, dx, s1 _ _ hN⟩, s1 _ _ hR.lst, _, rfl, ?_⟩
  rw [List.length_map, hR.len]
  by_cases hr' : r < m.roads.length
  · rw [decide_eq_true hr']
    refine iteF ?_
    obtain ⟨x, ex⟩ : ∃ x, m.roads[r]? = some x := ⟨_, List.getElem?_eq_getElem hr'⟩
    obtain ⟨ar, ea⟩ : ∃ ar, as[r]? = some ar := ⟨_, List.getElem?_eq_getElem (by rw [hR.len]; exact hr')⟩
    obtain ⟨dr, hra⟩ := hR.at_ r ar x ea ex
    refine ⟨_, rfl, x0, d1, _, rfl, hL1, rfl, x0, ⟨l, h, wt⟩, rfl, ⟨d1, hL1⟩, _, rfl, ?_⟩
    cases ho : Kqv6.okLoad ⟨l, h, wt⟩ with
    | false =>
      refine iteT ⟨zL1, fun v hv => fin (-22) v hv ?_⟩
      rw [ex]
      show (if Kqv6.okLoad ⟨l, h, wt⟩ = false then (-22 : Int) else _) = -22
      rw [if_pos ho]
    | true =>
      have hb := S.fine.wide x (List.mem_of_getElem? ex)
      refine iteF ⟨_, rfl, net, a.CN, dx, _, _, rfl, s1 _ _ hN, g.TN.cl, g.TN.no _ (by simp), rfl, _, rfl, ll, _, _, _, rfl, rfl, SqL.of (s1 _ _ hR.lst), at_of (j := r) (v := V.ref ar) rfl (by rw [List.getElem?_map, ea]; rfl), ar, dr, _, rfl, s1 _ _ hra, rfl, _, rfl,
        ar, x0, x, ⟨l, h, wt⟩, rfl, ⟨dr, s1 _ _ hra⟩, ⟨d1, hL1⟩, hb.1, hb.2, (okLoad_long ho).1, zL1, fun v hv => fin _ v hv ?_⟩
      rw [ex]
      show (if Kqv6.okLoad ⟨l, h, wt⟩ = false then (-22 : Int) else _) = _
      rw [if_neg (by rw [ho]; decide)]
  · rw [decide_eq_false hr']
    refine iteT ⟨zL1, fun v hv => fin (-2) v hv ?_⟩
    rw [List.getElem?_eq_none (by omega)]
def gWay : Kqv6.Map_ → List Nat → Kqv6.Map_ × List Int := fun m xs => match xs with
  | [p, q, l, h, wt] => (m, if Kqv6.okEnds m p q = false then [-2] else if Kqv6.okLoad ⟨l, h, wt⟩ = false then [-22] else match Kqv6.way m.roads m.places ⟨l, h, wt⟩ p q with | none => [-33] | some z => (z.1 : Int) :: z.2.map fun (i : Nat) => (i : Int))
  | _ => (m, [])
theorem scAWay : FnScope ["network", "p", "q", "length", "height", "weight", "load", "refusal", "way"] ["network", "p", "q", "length", "height", "weight"] (defScope sAWay) := ⟨rfl, rfl, rfl, by decide +kernel, rfl, by decide +kernel, by decide +kernel⟩
theorem way_short {rs : List Kqv6.Road} {n p q : Nat} {x : Kqv6.Load} {z : Kqv6.Path} (hF : Fine rs n) (hp : p < n) (e : Kqv6.way rs n x p q = some z) : z.2.length < 8 := by
  have b := Bend.way_best (x := x) (q := q) hF.ok hp
  rw [e] at b
  obtain ⟨⟨vs, hz⟩, hmin⟩ := b
  obtain ⟨vs', m', l', a, b', c⟩ := hz.simple hF.ok
  rcases c with ⟨c1, c2⟩ | c
  · rw [← c2]
    have h1 := a.vs_len
    have h2 := Bend.nodup_le n vs' b' (a.lt hF.ok hp)
    have := hF.n8
    omega
  · have h3 := hmin (m', l') ⟨vs', a⟩
    rw [Bend.le_iff] at h3
    rcases h3 with h3 | ⟨h3, _⟩
    · have : z.1 < m' := h3
      omega
    · have : z.1 = m' := h3
      omega
theorem okLoad_true {x : Kqv6.Load} (h : ¬ Kqv6.okLoad x = false) : Kqv6.okLoad x = true := by
  cases e : Kqv6.okLoad x with
  | true => rfl
  | false => exact absurd e h
theorem ok_aWay {a : Adr} {f : Addr} {fd : FuncData} (F : Fun K "answer_way" "answer_way" sAWay f fd) (g : Known P w K mg base a) : FnOk P w K mg base CX0 5 f fd ["network", "p", "q", "length", "height", "weight"] (spHand a 5 gWay) := by
  refine F.ok scAWay (spHand_len rfl) (fun cdv A outer s H vs Q E hr h => ?_)
  obtain ⟨net, m, fp, xs, rfl, hl, S, k⟩ := h
  obtain ⟨p, q, l, h, wt, rfl⟩ := len5 hl
  obtain ⟨fI, fdI, GI, MI, mI, bI⟩ := g.load
  obtain ⟨fR, fdR, GR, mR, kR, bR⟩ := g.rload
  obtain ⟨fQ, fdQ, GQ, mQ, kQ, bQ⟩ := g.quick
  have r2 : Room 2 _ := hr.mono (by decide)
  obtain ⟨ll, as, dd, dx, hN, hR⟩ := S.old
  refine ⟨_, pss_cons (ps_set (i := 6) scAWay.nd rfl (Or.inl rfl) (pe_make MI GI r2 rfl mI bI .nil pass0 (pa_cons (pv 3) (pa_cons (pv 4) (pa_cons (pv 5) pa_nil)))))
    (pss_cons (ps_set (i := 7) scAWay.nd rfl (Or.inl rfl) (pe_call GR r2 rfl mR kR bR .nil pass0 (pa_cons (pv 0) (pa_cons (pv 1) (pa_cons (pv 2) (pa_cons (pv 6) pa_nil))))))
    (pss_cons (ps_if (pt_cmpR op_notN (pv 7) pe_non (nomark _)) (pss_one (ps_ret (pe_lst (pa_cons (pv 7) pa_nil)))) pss_nil)
    (pss_cons (ps_set (i := 8) scAWay.nd rfl (Or.inl rfl) (pe_call GQ hr rfl mQ kQ bQ .nil pass0 (pa_cons (pv 0) (pa_cons (pv 1) (pa_cons (pv 2) (pa_cons (pv 6) pa_nil))))))
    (pss_one (ps_ret (pe_ifExp (pt_cmpR op_isN (pv 8) pe_non (nomark _)) (pe_lst (pa_cons (pe_ci rfl g.c33) pa_nil)) (pe_op op_cat (pe_lst (pa_cons (pe_ix ix_tup (pv 8) pe_int (fun _ _ => rfl)) pa_nil)) (pe_ix ix_tup (pv 8) pe_int (fun _ _ => rfl))))))))), ?_⟩
  refine ⟨_, rfl, _, rfl, _, rfl, fun x0 d0 n0 m0 e0 => ⟨x0, d0, ⟨l, h, wt⟩, rfl, upd_same, fun H1 hL1 kp => ⟨rfl, ?_⟩⟩⟩
  have s1 : Same H H1 := Same.made n0 m0 kp
  have fin : ∀ (H2 : Hp) (zs : List Int) (v : Addr), Same H H2 → H2 v = none → (gWay m [p, q, l, h, wt]).2 = zs → Q (.ref v) (upd H2 v (.lst (zs.map V.int))) := fun H2 zs v s2 hv e => k _ fp v (by
    rw [e]
    exact ret_same S s2 hv zs)
  have hg2 : (gWay m [p, q, l, h, wt]).2 = if Kqv6.okEnds m p q = false then [-2] else if Kqv6.okLoad ⟨l, h, wt⟩ = false then [-22] else match Kqv6.way m.roads m.places ⟨l, h, wt⟩ p q with | none => [-33] | some z => (z.1 : Int) :: z.2.map fun (i : Nat) => (i : Int) := rfl
  rw [hg2] at fin
  refine ⟨_, rfl, _, rfl, _, rfl, _, rfl, net, x0, ll, m, p, q, ⟨l, h, wt⟩, rfl, ⟨dd, dx, s1 _ _ hN⟩, hL1, ?_⟩
  cases er : refL m p q ⟨l, h, wt⟩ with
  | some z => exact ⟨_, rfl, rfl, _, rfl, iteT ⟨_, rfl, zL1, fun v hv => fin H1 [z] v s1 hv (refL_some er (fun z => [z]) _)⟩⟩
  | none =>
    obtain ⟨he, ho⟩ := refL_none er
    have hp := (okEnds_lt he).1
    refine ⟨_, rfl, rfl, _, rfl, iteF ⟨_, rfl, _, rfl, _, rfl, _, rfl, net, x0, ll, m.places, p, q, as, m.roads, ⟨l, h, wt⟩, rfl, ⟨dd, dx, s1 _ _ hN⟩, hR.same s1, S.fine, hL1, (okLoad_long (okLoad_true ho)).1, hp, fun H2 s2 => ⟨fun ew => ?_, fun z t ew ht => ?_⟩⟩⟩
    · refine ⟨_, rfl, rfl, _, rfl, iteT ⟨zL1, fun v hv => fin H2 [-33] v (s1.trans s2) hv ?_⟩⟩
      rw [if_neg he, if_neg ho, ew]
    · obtain ⟨lz, ht1, ht2⟩ := ht
      have hsh := way_short S.fine hp ew
      refine ⟨_, rfl, rfl, _, rfl, iteF ⟨_, rfl, t, _, _, _, rfl, rfl, SqT.of ht1, rfl, zL1, fun v0 hv0 => ⟨_, rfl, t, _, _, _, rfl, rfl, SqT.of (by rw [upd_ne (ne_of_none ht1 hv0)]; exact ht1), rfl, ?_⟩⟩⟩
      refine ⟨v0, lz, _, _, rfl, rfl, upd_same, (by rw [upd_ne (ne_of_none ht2 hv0)]; exact ht2), ?_, fun v hv => ?_⟩
      · show 1 + (pl z.2).length ≤ sizeLine
        rw [pl_length]
        exact Nat.le_trans (show 1 + z.2.length ≤ 8 by omega) (by decide)
      · have s3 : Same H (upd H2 v0 (.lst [V.int z.1])) := fun b o e => by rw [upd_ne (ne_of_none (s2 _ _ (s1 _ _ e)) hv0)]; exact s2 _ _ (s1 _ _ e)
        exact fin _ ((z.1 : Int) :: z.2.map fun (i : Nat) => (i : Int)) v s3 hv (by rw [if_neg he, if_neg ho, ew])
def gMost : Kqv6.Map_ → List Nat → Kqv6.Map_ × List Int := fun m xs => match xs with
  | [p, q, h, wt] => (m, [if Kqv6.okEnds m p q = false then -2 else if p = q ∨ Kqv6.okLoad ⟨0, h, wt⟩ = false then -22 else optI (Kqv6.most m.roads m.places p q h wt)])
  | _ => (m, [])
theorem scAMost : FnScope ["network", "p", "q", "height", "weight", "refusal"] ["network", "p", "q", "height", "weight"] (defScope sAMost) := ⟨rfl, rfl, rfl, by decide +kernel, rfl, by decide +kernel, by decide +kernel⟩
theorem ok_aMost {a : Adr} {f : Addr} {fd : FuncData} (F : Fun K "answer_most" "answer_most" sAMost f fd) (g : Known P w K mg base a) : FnOk P w K mg base CX0 9 f fd ["network", "p", "q", "height", "weight"] (spHand a 4 gMost) := by
  refine F.ok scAMost (spHand_len rfl) (fun cdv A outer s H vs Q E hr h => ?_)
  obtain ⟨net, m, fp, xs, rfl, hl, S, k⟩ := h
  obtain ⟨p, q, h, wt, rfl⟩ := len4 hl
  obtain ⟨fI, fdI, GI, MI, mI, bI⟩ := g.load
  obtain ⟨fR, fdR, GR, mR, kR, bR⟩ := g.rgreat
  obtain ⟨fQ, fdQ, GQ, mQ, kQ, bQ⟩ := g.gl
  obtain ⟨fN, fdN, GN, mN, kN, bN⟩ := g.numOr
  have r1 : Room 1 _ := hr.mono (by decide)
  have r2 : Room 2 _ := hr.mono (by decide)
  have r3 : Room 3 _ := hr.mono (by decide)
  obtain ⟨ll, as, dd, dx, hN, hR⟩ := S.old
  refine ⟨_, pss_cons (ps_set (i := 5) scAMost.nd rfl (Or.inl rfl) (pe_call GR r3 rfl mR kR bR .nil pass0 (pa_cons (pv 0) (pa_cons (pv 1) (pa_cons (pv 2) (pa_cons (pe_make MI GI r2 rfl mI bI .nil pass0 (pa_cons pe_int (pa_cons (pv 3) (pa_cons (pv 4) pa_nil)))) pa_nil))))))
    (pss_cons (ps_if (pt_cmpR op_notN (pv 5) pe_non (nomark _)) (pss_one (ps_ret (pe_lst (pa_cons (pv 5) pa_nil)))) pss_nil)
    (pss_one (ps_ret (pe_call GN r1 rfl mN kN bN .nil pass0 (pa_cons (pe_call GQ hr rfl mQ kQ bQ .nil pass0 (pa_cons (pv 0) (pa_cons (pv 1) (pa_cons (pv 2) (pa_cons (pv 3) (pa_cons (pv 4) pa_nil)))))) pa_nil))))), ?_⟩
  refine ⟨_, rfl, _, rfl, _, rfl, _, rfl, _, rfl, fun x0 d0 n0 m0 e0 => ⟨x0, d0, ⟨0, h, wt⟩, rfl, upd_same, fun H1 hL1 kp => ⟨rfl, ?_⟩⟩⟩
  have s1 : Same H H1 := Same.made n0 m0 kp
  have hg2 : gMost m [p, q, h, wt] = (m, [if Kqv6.okEnds m p q = false then -2 else if p = q ∨ Kqv6.okLoad ⟨0, h, wt⟩ = false then -22 else optI (Kqv6.most m.roads m.places p q h wt)]) := rfl
  rw [hg2] at k
  refine ⟨net, x0, ll, m, p, q, ⟨0, h, wt⟩, rfl, ⟨dd, dx, s1 _ _ hN⟩, hL1, ?_⟩
  cases er : refG m p q ⟨0, h, wt⟩ with
  | some z =>
    rw [refG_some er (fun z => z) _] at k
    exact ⟨_, rfl, rfl, _, rfl, iteT ⟨_, rfl, zL1, fun v hv => k _ fp v (ret_same S s1 hv [z])⟩⟩
  | none =>
    obtain ⟨he, ho⟩ := refG_none er
    rw [if_neg he, if_neg ho] at k
    have hp := (okEnds_lt he).1
    have S1 := S.same s1
    refine ⟨_, rfl, rfl, _, rfl, iteF ⟨_, rfl, _, rfl, _, rfl, _, rfl, _, rfl, net, ll, m.places, p, q, h, wt, as, m.roads, rfl, ⟨dd, dx, s1 _ _ hN⟩, hR.same s1, S.fine, hp, S1.t2, fun H2 hT2 sT => ⟨Kqv6.most m.roads m.places p q h wt, rfl, fun v hv => k _ fp v ?_⟩⟩⟩
    have sT0 : SameT [a.P2] H H2 := fun b o e hb => sT b o (s1 b o e) hb
    refine ret_tab S [a.P2] (fun p hp => .inr (by simpa using hp)) sT0 (lamTab_sameT S.t1 (by simpa using g.ne) (fun p hp => ?_) sT0) hT2 hv [_]
    obtain rfl : p = a.P2 := by simpa using hp
    obtain ⟨ps, e, _⟩ := S.t2
    exact ⟨ps, e⟩
def gHeavy : Kqv6.Map_ → List Nat → Kqv6.Map_ × List Int := fun m xs => match xs with
  | [p, q, u, v] => (m, [if Kqv6.okEnds m p q = false then -2 else if p = q ∨ Kqv6.okLoad ⟨u, v, 0⟩ = false then -22 else optI (Kqv6.limit (m.roads.map fun r => r.heavy) fun z => (Kqv6.way m.roads m.places ⟨u, v, z⟩ p q).isSome)])
  | _ => (m, [])
theorem scAHeavy : FnScope ["network", "p", "q", "length", "height", "refusal"] ["network", "p", "q", "length", "height"] (defScope sAHeavy) := ⟨rfl, rfl, rfl, by decide +kernel, rfl, by decide +kernel, by decide +kernel⟩
theorem ok_aHeavy {a : Adr} {f : Addr} {fd : FuncData} (F : Fun K "answer_heaviest" "answer_heaviest" sAHeavy f fd) (g : Known P w K mg base a) : FnOk P w K mg base CX0 7 f fd ["network", "p", "q", "length", "height"] (spHand a 4 gHeavy) := by
  refine F.ok scAHeavy (spHand_len rfl) (fun cdv A outer s H vs Q E hr h => ?_)
  obtain ⟨net, m, fp, xs, rfl, hl, S, k⟩ := h
  obtain ⟨p, q, u, v, rfl⟩ := len4 hl
  obtain ⟨fI, fdI, GI, MI, mI, bI⟩ := g.load
  obtain ⟨fR, fdR, GR, mR, kR, bR⟩ := g.rgreat
  obtain ⟨fQ, fdQ, GQ, mQ, kQ, bQ⟩ := g.gw
  obtain ⟨fN, fdN, GN, mN, kN, bN⟩ := g.numOr
  have r1 : Room 1 _ := hr.mono (by decide)
  have r2 : Room 2 _ := hr.mono (by decide)
  have r3 : Room 3 _ := hr.mono (by decide)
  obtain ⟨ll, as, dd, dx, hN, hR⟩ := S.old
  refine ⟨_, pss_cons (ps_set (i := 5) scAHeavy.nd rfl (Or.inl rfl) (pe_call GR r3 rfl mR kR bR .nil pass0 (pa_cons (pv 0) (pa_cons (pv 1) (pa_cons (pv 2) (pa_cons (pe_make MI GI r2 rfl mI bI .nil pass0 (pa_cons (pv 3) (pa_cons (pv 4) (pa_cons pe_int pa_nil)))) pa_nil))))))
    (pss_cons (ps_if (pt_cmpR op_notN (pv 5) pe_non (nomark _)) (pss_one (ps_ret (pe_lst (pa_cons (pv 5) pa_nil)))) pss_nil)
    (pss_one (ps_ret (pe_call GN r1 rfl mN kN bN .nil pass0 (pa_cons (pe_call GQ hr rfl mQ kQ bQ .nil pass0 (pa_cons (pv 0) (pa_cons (pv 1) (pa_cons (pv 2) (pa_cons (pv 3) (pa_cons (pv 4) pa_nil)))))) pa_nil))))), ?_⟩
  refine ⟨_, rfl, _, rfl, _, rfl, _, rfl, _, rfl, fun x0 d0 n0 m0 e0 => ⟨x0, d0, ⟨u, v, 0⟩, rfl, upd_same, fun H1 hL1 kp => ⟨rfl, ?_⟩⟩⟩
  have s1 : Same H H1 := Same.made n0 m0 kp
  have hg2 : gHeavy m [p, q, u, v] = (m, [if Kqv6.okEnds m p q = false then -2 else if p = q ∨ Kqv6.okLoad ⟨u, v, 0⟩ = false then -22 else optI (Kqv6.limit (m.roads.map fun r => r.heavy) fun z => (Kqv6.way m.roads m.places ⟨u, v, z⟩ p q).isSome)]) := rfl
  rw [hg2] at k
  refine ⟨net, x0, ll, m, p, q, ⟨u, v, 0⟩, rfl, ⟨dd, dx, s1 _ _ hN⟩, hL1, ?_⟩
  cases er : refG m p q ⟨u, v, 0⟩ with
  | some z =>
    rw [refG_some er (fun z => z) _] at k
    exact ⟨_, rfl, rfl, _, rfl, iteT ⟨_, rfl, zL1, fun v hv => k _ fp v (ret_same S s1 hv [z])⟩⟩
  | none =>
    obtain ⟨he, ho⟩ := refG_none er
    rw [if_neg he, if_neg ho] at k
    have hp := (okEnds_lt he).1
    have ho2 := okLoad_long (okLoad_true fun z => ho (.inr z))
    refine ⟨_, rfl, rfl, _, rfl, iteF ⟨_, rfl, _, rfl, _, rfl, _, rfl, _, rfl, net, ll, m.places, p, q, u, v, as, m.roads, rfl, ⟨dd, dx, s1 _ _ hN⟩, hR.same s1, S.fine, hp, ho2.1, fun H2 s2 => ⟨Kqv6.limit (m.roads.map fun (r : Kqv6.Road) => r.heavy) (fun z => (Kqv6.way m.roads m.places ⟨u, v, z⟩ p q).isSome), rfl, fun v' hv => ?_⟩⟩⟩
    exact k _ fp v' (ret_same S (s1.trans s2) hv [_])
def gHigh : Kqv6.Map_ → List Nat → Kqv6.Map_ × List Int := fun m xs => match xs with
  | [p, q, u, v] => (m, [if Kqv6.okEnds m p q = false then -2 else if p = q ∨ Kqv6.okLoad ⟨u, 0, v⟩ = false then -22 else optI (Kqv6.limit (m.roads.map fun r => r.high) fun z => (Kqv6.way m.roads m.places ⟨u, z, v⟩ p q).isSome)])
  | _ => (m, [])
theorem scAHigh : FnScope ["network", "p", "q", "length", "weight", "refusal"] ["network", "p", "q", "length", "weight"] (defScope sAHigh) := ⟨rfl, rfl, rfl, by decide +kernel, rfl, by decide +kernel, by decide +kernel⟩
theorem ok_aHigh {a : Adr} {f : Addr} {fd : FuncData} (F : Fun K "answer_highest" "answer_highest" sAHigh f fd) (g : Known P w K mg base a) : FnOk P w K mg base CX0 7 f fd ["network", "p", "q", "length", "weight"] (spHand a 4 gHigh) := by
  refine F.ok scAHigh (spHand_len rfl) (fun cdv A outer s H vs Q E hr h => ?_)
  obtain ⟨net, m, fp, xs, rfl, hl, S, k⟩ := h
  obtain ⟨p, q, u, v, rfl⟩ := len4 hl
  obtain ⟨fI, fdI, GI, MI, mI, bI⟩ := g.load
  obtain ⟨fR, fdR, GR, mR, kR, bR⟩ := g.rgreat
  obtain ⟨fQ, fdQ, GQ, mQ, kQ, bQ⟩ := g.gh
  obtain ⟨fN, fdN, GN, mN, kN, bN⟩ := g.numOr
  have r1 : Room 1 _ := hr.mono (by decide)
  have r2 : Room 2 _ := hr.mono (by decide)
  have r3 : Room 3 _ := hr.mono (by decide)
  obtain ⟨ll, as, dd, dx, hN, hR⟩ := S.old
  refine ⟨_, pss_cons (ps_set (i := 5) scAHigh.nd rfl (Or.inl rfl) (pe_call GR r3 rfl mR kR bR .nil pass0 (pa_cons (pv 0) (pa_cons (pv 1) (pa_cons (pv 2) (pa_cons (pe_make MI GI r2 rfl mI bI .nil pass0 (pa_cons (pv 3) (pa_cons pe_int (pa_cons (pv 4) pa_nil)))) pa_nil))))))
    (pss_cons (ps_if (pt_cmpR op_notN (pv 5) pe_non (nomark _)) (pss_one (ps_ret (pe_lst (pa_cons (pv 5) pa_nil)))) pss_nil)
    (pss_one (ps_ret (pe_call GN r1 rfl mN kN bN .nil pass0 (pa_cons (pe_call GQ hr rfl mQ kQ bQ .nil pass0 (pa_cons (pv 0) (pa_cons (pv 1) (pa_cons (pv 2) (pa_cons (pv 3) (pa_cons (pv 4) pa_nil)))))) pa_nil))))), ?_⟩
  refine ⟨_, rfl, _, rfl, _, rfl, _, rfl, _, rfl, fun x0 d0 n0 m0 e0 => ⟨x0, d0, ⟨u, 0, v⟩, rfl, upd_same, fun H1 hL1 kp => ⟨rfl, ?_⟩⟩⟩
  have s1 : Same H H1 := Same.made n0 m0 kp
  have hg2 : gHigh m [p, q, u, v] = (m, [if Kqv6.okEnds m p q = false then -2 else if p = q ∨ Kqv6.okLoad ⟨u, 0, v⟩ = false then -22 else optI (Kqv6.limit (m.roads.map fun r => r.high) fun z => (Kqv6.way m.roads m.places ⟨u, z, v⟩ p q).isSome)]) := rfl
  rw [hg2] at k
  refine ⟨net, x0, ll, m, p, q, ⟨u, 0, v⟩, rfl, ⟨dd, dx, s1 _ _ hN⟩, hL1, ?_⟩
  cases er : refG m p q ⟨u, 0, v⟩ with
  | some z =>
    rw [refG_some er (fun z => z) _] at k
    exact ⟨_, rfl, rfl, _, rfl, iteT ⟨_, rfl, zL1, fun v hv => k _ fp v (ret_same S s1 hv [z])⟩⟩
  | none =>
    obtain ⟨he, ho⟩ := refG_none er
    rw [if_neg he, if_neg ho] at k
    have hp := (okEnds_lt he).1
    have ho2 := okLoad_long (okLoad_true fun z => ho (.inr z))
    refine ⟨_, rfl, rfl, _, rfl, iteF ⟨_, rfl, _, rfl, _, rfl, _, rfl, _, rfl, net, ll, m.places, p, q, u, v, as, m.roads, rfl, ⟨dd, dx, s1 _ _ hN⟩, hR.same s1, S.fine, hp, ho2.1, fun H2 s2 => ⟨Kqv6.limit (m.roads.map fun (r : Kqv6.Road) => r.high) (fun z => (Kqv6.way m.roads m.places ⟨u, z, v⟩ p q).isSome), rfl, fun v' hv => ?_⟩⟩⟩
    exact k _ fp v' (ret_same S (s1.trans s2) hv [_])
def gNeeds : Kqv6.Map_ → List Nat → Kqv6.Map_ × List Int := fun m xs => match xs with
  | [p, q, l, h, wt] => (m, if Kqv6.okEnds m p q = false then [-2] else if Kqv6.okLoad ⟨l, h, wt⟩ = false then [-22] else if (Kqv6.way m.roads m.places ⟨l, h, wt⟩ p q).isNone then [-33] else ((((List.range m.roads.length).filter (need m.roads m.places ⟨l, h, wt⟩ p q)).length : Nat) : Int) :: ((List.range m.roads.length).filter (need m.roads m.places ⟨l, h, wt⟩ p q)).map fun (i : Nat) => (i : Int))
  | _ => (m, [])
theorem scANeeds : FnScope ["network", "p", "q", "length", "height", "weight", "load", "refusal", "needed"] ["network", "p", "q", "length", "height", "weight"] (defScope sANeeds) := ⟨rfl, rfl, rfl, by decide +kernel, rfl, by decide +kernel, by decide +kernel⟩
theorem need_pass {rs : List Kqv6.Road} {n p q : Nat} {x : Kqv6.Load} (R : Bend.RoadsOk rs n) (hp : p < n) (hs : (Kqv6.way rs n x p q).isSome = true) : (pass rs x rs.length).filter (need rs n x p q) = (List.range rs.length).filter (need rs n x p q) := by
  unfold pass
  rw [List.filter_filter]
  refine List.filter_congr fun i hi => ?_
  have hil := List.mem_range.mp hi
  obtain ⟨r, hr⟩ : ∃ r, rs[i]? = some r := ⟨_, List.getElem?_eq_getElem hil⟩
  unfold okAt
  rw [hr]
  by_cases hw : Kqv6.why r x = 0
  · show (need rs n x p q i && (Kqv6.why r x == 0)) = _
    rw [(beq_iff_eq.mpr hw : (Kqv6.why r x == 0) = true), Bool.and_true]
  · have e : need rs n x p q i = false := by
      unfold need shut
      rw [Bend.closed_eq hr]
      have := Bend.not_needed R hp hr hw hs
      cases e2 : Kqv6.way (rs.set i { r with closed := true }) n x p q with
      | none => rw [e2] at this; cases this
      | some z => rfl
    rw [e, Bool.false_and]
set_option maxHeartbeats 4000000 in
theorem ok_aNeeds {a : Adr} {f : Addr} {fd : FuncData} (F : Fun K "answer_needs" "answer_needs" sANeeds f fd) (g : Known P w K mg base a) : FnOk P w K mg base CX0 6 f fd ["network", "p", "q", "length", "height", "weight"] (spHand a 5 gNeeds) := by
  refine F.ok scANeeds (spHand_len rfl) (fun cdv A outer s H vs Q E hr h => ?_)
  obtain ⟨net, m, fp, xs, rfl, hl, S, k⟩ := h
  obtain ⟨p, q, l, h, wt, rfl⟩ := len5 hl
  obtain ⟨fI, fdI, GI, MI, mI, bI⟩ := g.load
  obtain ⟨fR, fdR, GR, mR, kR, bR⟩ := g.rload
  obtain ⟨fQ, fdQ, GQ, mQ, kQ, bQ⟩ := g.quick
  obtain ⟨fN, fdN, GN, mN, kN, bN⟩ := g.needed
  have r2 : Room 2 _ := hr.mono (by decide)
  have r4 : Room 4 _ := hr.mono (by decide)
  obtain ⟨ll, as, dd, dx, hN, hR⟩ := S.old
  refine ⟨_, pss_cons (ps_set (i := 6) scANeeds.nd rfl (Or.inl rfl) (pe_make MI GI r2 rfl mI bI .nil pass0 (pa_cons (pv 3) (pa_cons (pv 4) (pa_cons (pv 5) pa_nil)))))
    (pss_cons (ps_set (i := 7) scANeeds.nd rfl (Or.inl rfl) (pe_call GR r2 rfl mR kR bR .nil pass0 (pa_cons (pv 0) (pa_cons (pv 1) (pa_cons (pv 2) (pa_cons (pv 6) pa_nil))))))
    (pss_cons (ps_if (pt_cmpR op_notN (pv 7) pe_non (nomark _)) (pss_one (ps_ret (pe_lst (pa_cons (pv 7) pa_nil)))) pss_nil)
    (pss_cons (ps_if (pt_cmpR op_isN (pe_call GQ r4 rfl mQ kQ bQ .nil pass0 (pa_cons (pv 0) (pa_cons (pv 1) (pa_cons (pv 2) (pa_cons (pv 6) pa_nil))))) pe_non (nomark _)) (pss_one (ps_ret (pe_lst (pa_cons (pe_ci rfl g.c33) pa_nil)))) pss_nil)
    (pss_cons (ps_set (i := 8) scANeeds.nd rfl (Or.inl rfl) (pe_call GN hr rfl mN kN bN .nil pass0 (pa_cons (pv 0) (pa_cons (pv 1) (pa_cons (pv 2) (pa_cons (pv 6) pa_nil))))))
    (pss_one (ps_ret (pe_op op_cat (pe_lst (pa_cons (pe_callB call_len_seq (by rfl) g.len PySem.boot_len (pa_cons (pv 8) pa_nil)) pa_nil)) (pv 8)))))))), ?_⟩
  refine ⟨_, rfl, _, rfl, _, rfl, fun x0 d0 n0 m0 e0 => ⟨x0, d0, ⟨l, h, wt⟩, rfl, upd_same, fun H1 hL1 kp => ⟨rfl, ?_⟩⟩⟩
  have s1 : Same H H1 := Same.made n0 m0 kp
  have fin : ∀ (H2 : Hp) (zs : List Int) (v : Addr), Same H H2 → H2 v = none → (gNeeds m [p, q, l, h, wt]).2 = zs → Q (.ref v) (upd H2 v (.lst (zs.map V.int))) := fun H2 zs v s2 hv e => k _ fp v (by
    rw [e]
    exact ret_same S s2 hv zs)
  have hg2 : (gNeeds m [p, q, l, h, wt]).2 = if Kqv6.okEnds m p q = false then [-2] else if Kqv6.okLoad ⟨l, h, wt⟩ = false then [-22] else if (Kqv6.way m.roads m.places ⟨l, h, wt⟩ p q).isNone then [-33] else ((((List.range m.roads.length).filter (need m.roads m.places ⟨l, h, wt⟩ p q)).length : Nat) : Int) :: ((List.range m.roads.length).filter (need m.roads m.places ⟨l, h, wt⟩ p q)).map fun (i : Nat) => (i : Int) := rfl
  rw [hg2] at fin
  refine ⟨_, rfl, _, rfl, _, rfl, _, rfl, net, x0, ll, m, p, q, ⟨l, h, wt⟩, rfl, ⟨dd, dx, s1 _ _ hN⟩, hL1, ?_⟩
  cases er : refL m p q ⟨l, h, wt⟩ with
  | some z => exact ⟨_, rfl, rfl, _, rfl, iteT ⟨_, rfl, zL1, fun v hv => fin H1 [z] v s1 hv (refL_some er (fun z => [z]) _)⟩⟩
  | none =>
    obtain ⟨he, ho⟩ := refL_none er
    have hp := (okEnds_lt he).1
    refine ⟨_, rfl, rfl, _, rfl, iteF ⟨_, rfl, _, rfl, _, rfl, _, rfl, net, x0, ll, m.places, p, q, as, m.roads, ⟨l, h, wt⟩, rfl, ⟨dd, dx, s1 _ _ hN⟩, hR.same s1, S.fine, hL1, (okLoad_long (okLoad_true ho)).1, hp, fun H2 s2 => ⟨fun ew => ?_, fun z t ew ht => ?_⟩⟩⟩
    · refine ⟨rfl, _, rfl, iteT ⟨zL1, fun v hv => fin H2 [-33] v (s1.trans s2) hv ?_⟩⟩
      rw [if_neg he, if_neg ho, ew]
      rfl
    · have s12 := s1.trans s2
      have hL2 : LoadAt a.CL H2 x0 ⟨l, h, wt⟩ := let ⟨d1, e⟩ := hL1; ⟨d1, s2 _ _ e⟩
      refine ⟨rfl, _, rfl, iteF ⟨_, rfl, _, rfl, _, rfl, _, rfl, net, x0, ll, m.places, p, q, as, m.roads, ⟨l, h, wt⟩, rfl, ⟨dd, dx, s12 _ _ hN⟩, hR.same s12, S.fine, hL2, (okLoad_long (okLoad_true ho)).1, hp, fun H3 D s3 hD => ?_⟩⟩
      rw [need_pass S.fine.ok hp (by rw [ew]; rfl)] at hD
      have hlen : ((List.range m.roads.length).filter (need m.roads m.places ⟨l, h, wt⟩ p q)).length ≤ 14 := Nat.le_trans (List.length_filter_le _ _) (by rw [List.length_range]; exact S.fine.few)
      refine ⟨_, rfl, D, _, rfl, .inl (SqL.of hD), zL1, fun v0 hv0 => ⟨_, rfl, v0, D, _, _, rfl, rfl, upd_same, (by rw [upd_ne (ne_of_none hD hv0)]; exact hD), ?_, fun v hv => ?_⟩⟩
      · show 1 + (pl _).length ≤ sizeLine
        rw [pl_length]
        exact Nat.le_trans (show 1 + _ ≤ 15 by omega) (by decide)
      · have s4 : Same H (upd H3 v0 (.lst [V.int ((pl ((List.range m.roads.length).filter (need m.roads m.places ⟨l, h, wt⟩ p q))).length : Int)])) := fun b o e => by
          have e3 := s3 _ _ (s12 _ _ e)
          rw [upd_ne (ne_of_none e3 hv0)]; exact e3
        have kk := fin _ (((((List.range m.roads.length).filter (need m.roads m.places ⟨l, h, wt⟩ p q)).length : Nat) : Int) :: ((List.range m.roads.length).filter (need m.roads m.places ⟨l, h, wt⟩ p q)).map fun (i : Nat) => (i : Int)) v s4 hv (by rw [if_neg he, if_neg ho, ew]; rfl)
        have e1 : (((pl ((List.range m.roads.length).filter (need m.roads m.places ⟨l, h, wt⟩ p q))).length : Nat) : Int) = ((((List.range m.roads.length).filter (need m.roads m.places ⟨l, h, wt⟩ p q)).length : Nat) : Int) := by rw [pl_length]
        rw [e1] at kk ⊢
        exact kk
end
end BP
end
section
namespace BP
open PySem PySem.Spec PyProof.Rows L2
section
variable {P : Program} {w : World} {K : PySem.W.Frag} {mg : Str → Option Value} {base : Heap}
def okM (t h wt a b : Nat) : Bool := !(decide (t < 1) || decide (200 < t)) && (decide (h ≤ 100) && decide (wt ≤ 1000) && decide (a ≤ 200) && decide (b ≤ 200))
def spMeas : Sp := fun vs H Q _ => ∃ t h wt a b : Nat, vs = [.int t, .int h, .int wt, .int a, .int b] ∧ Q (.bl (okM t h wt a b)) H
theorem scMeas : FnScope ["minutes", "high", "heavy", "a", "b"] ["minutes", "high", "heavy", "a", "b"] (defScope sATold) := ⟨rfl, rfl, rfl, by decide +kernel, rfl, by decide +kernel, by decide +kernel⟩
theorem ok_meas {f : Addr} {fd : FuncData} (F : Fun K "measures_as_told" "measures_as_told" sATold f fd) (m1 : CI mg "MOST_MINUTES" 200) (m2 : CI mg "MOST_HIGH" 100) (m3 : CI mg "MOST_HEAVY" 1000) (m4 : CI mg "MOST_WIDE" 200) : FnOk P w K mg base CX0 1 f fd ["minutes", "high", "heavy", "a", "b"] spMeas := by
  refine F.ok scMeas (fun vs H Q E h => ?_) (fun cdv A outer s H vs Q E hr h => ?_)
  · obtain ⟨t, h, wt, a, b, rfl, _⟩ := h
    rfl
  · obtain ⟨t, h, wt, a, b, rfl, k⟩ := h
    refine ⟨_, pss_cons (ps_if (PW.pt (pw_or (pt_cmpR op_lt (pv 0) pe_int (nomark _)) (pw_or1 (pt_cmpR op_gt (pv 0) (pe_ci rfl m1) (nomark _))))) (pss_one (ps_ret pe_bl)) pss_nil)
      (pss_one (ps_ret (pe_and (pe_cmpR op_le (pv 1) (pe_ci rfl m2) (nomark _)) (pe_and (pe_cmpR op_le (pv 2) (pe_ci rfl m3) (nomark _)) (pe_and (pe_cmpR op_le (pv 3) (pe_ci rfl m4) (nomark _)) (pe_one (pe_cmpR op_le (pv 4) (pe_ci rfl m4) (nomark _)))))))), ?_⟩
    unfold okM at k
    rw [← dec_lt t 1, ← dec_lt 200 t, ← dec_cast h 100, ← dec_cast wt 1000, ← dec_cast a 200, ← dec_cast b 200] at k
    refine ⟨_, rfl, _, _, rfl, rfl, _, rfl, ite2 (fun c => ?_) (fun c => ?_)⟩
    · have c' : decide ((t : Int) < ((1 : Nat) : Int)) = true := c
      rw [c', Bool.true_or] at k
      exact iteT k
    have c' : decide ((t : Int) < ((1 : Nat) : Int)) = false := not_false_of c
    rw [c', Bool.false_or] at k
    refine ⟨_, rfl, _, _, rfl, rfl, _, rfl, ite2 (fun c => ?_) (fun c => ?_)⟩
    · have c' : decide (((200 : Nat) : Int) < (t : Int)) = true := c
      rw [c'] at k
      exact k
    have c' : decide (((200 : Nat) : Int) < (t : Int)) = false := not_false_of c
    rw [c', Bool.not_false, Bool.true_and] at k
    refine ⟨_, rfl, _, _, rfl, rfl, _, rfl, ite2 (fun c => ?_) (fun c => ?_)⟩
    · have c1 : decide ((h : Int) ≤ ((100 : Nat) : Int)) = true := c
      rw [c1, Bool.true_and] at k
      refine ⟨_, rfl, _, _, rfl, rfl, _, rfl, ite2 (fun c => ?_) (fun c => ?_)⟩
      · have c1 : decide ((wt : Int) ≤ ((1000 : Nat) : Int)) = true := c
        rw [c1, Bool.true_and] at k
        refine ⟨_, rfl, _, _, rfl, rfl, _, rfl, ite2 (fun c => ?_) (fun c => ?_)⟩
        · have c1 : decide ((a : Int) ≤ ((200 : Nat) : Int)) = true := c
          rw [c1, Bool.true_and] at k
          exact ⟨_, rfl, _, _, rfl, rfl, k⟩
        · have c1 : decide ((a : Int) ≤ ((200 : Nat) : Int)) = false := not_false_of c
          rw [c1, Bool.false_and] at k
          exact k
      · have c1 : decide ((wt : Int) ≤ ((1000 : Nat) : Int)) = false := not_false_of c
        rw [c1, Bool.false_and, Bool.false_and] at k
        exact k
    · have c1 : decide ((h : Int) ≤ ((100 : Nat) : Int)) = false := not_false_of c
      rw [c1, Bool.false_and, Bool.false_and, Bool.false_and] at k
      exact k
theorem okM_iff {t h wt a b : Nat} : okM t h wt a b = true ↔ ¬ (t = 0 ∨ 200 < t ∨ 100 < h ∨ 1000 < wt ∨ 200 < a ∨ 200 < b) := by
  unfold okM
  simp only [Bool.and_eq_true, Bool.not_eq_true', Bool.or_eq_false_iff, decide_eq_false_iff_not, decide_eq_true_eq]
  omega
theorem RoadsAt.push {C : Addr} {H H' : Hp} {l x : Addr} {as : List Addr} {rs : List Kqv6.Road} {r : Kqv6.Road} (h : RoadsAt C H l as rs) (hx : ∀ a ∈ as, a ≠ x) (hl : H' l = some (.lst ((as ++ [x]).map V.ref))) (hr : RoadAt C H' x r) (k : ∀ a ∈ as, ∀ o, H a = some o → H' a = some o) : RoadsAt C H' l (as ++ [x]) (rs ++ [r]) := by
  refine ⟨hl, nd_snoc h.nd (fun m => hx x m rfl), by rw [List.length_append, List.length_append, h.len]; rfl, fun j a r' h1 h2 => ?_⟩
  by_cases hj : j < as.length
  · rw [List.getElem?_append_left hj] at h1
    rw [List.getElem?_append_left (by rw [← h.len]; exact hj)] at h2
    obtain ⟨dx, e⟩ := h.at_ j a r' h1 h2
    exact ⟨dx, k a (List.mem_of_getElem? h1) _ e⟩
  · rw [List.getElem?_append_right (by omega)] at h1
    rw [List.getElem?_append_right (by rw [← h.len]; omega)] at h2
    rw [← h.len] at h2
    have hz : j - as.length = 0 := by
      have := (List.getElem?_eq_some_iff.mp h1).1
      simp at this
      omega
    rw [hz] at h1 h2
    have e1 : x = a := Option.some.inj h1
    have e2 : r = r' := Option.some.inj h2
    subst e1 e2
    exact hr
theorem RoadsAt.change {C : Addr} {H H' : Hp} {l c : Addr} {as : List Addr} {rs : List Kqv6.Road} {i : Nat} {r : Kqv6.Road} (h : RoadsAt C H l as rs) (hc : as[i]? = some c) (hr : RoadAt C H' c r) (k : ∀ b o, H b = some o → b ≠ c → H' b = some o) : RoadsAt C H' l as (rs.set i r) := by
  have hi : i < as.length := (List.getElem?_eq_some_iff.mp hc).1
  have hi2 : i < rs.length := by rw [← h.len]; exact hi
  obtain ⟨dc, ec⟩ := h.at_ i c _ hc (List.getElem?_eq_getElem hi2)
  refine ⟨k _ _ h.lst (ne_of h.lst ec (by intro q; cases q)), h.nd, by rw [List.length_set]; exact h.len, fun j a r' h1 h2 => ?_⟩
  by_cases hj : j = i
  · subst hj
    rw [hc] at h1
    cases h1
    rw [List.getElem?_set_self hi2] at h2
    cases h2
    exact hr
  · rw [List.getElem?_set_ne (fun q => hj q.symm)] at h2
    obtain ⟨dx, e⟩ := h.at_ j a r' h1 h2
    exact ⟨dx, k _ _ e (fun q => hj (nd_ix h.nd h1 (by rw [q]; exact hc)))⟩
theorem lamTab_but {H H' : Hp} {p c : Addr} {pos : Pos} {q : Str} {o0 : HO} (h : LamTab H p pos q) (hc : H c = some o0) (n1 : ∀ ps, o0 ≠ .tbl ps) (n2 : ∀ o u, o0 ≠ .frz o u) (k : ∀ b o, H b = some o → b ≠ c → H' b = some o) : LamTab H' p pos q := by
  obtain ⟨ps, h1, h2 | ⟨c', oc, e, h3, h4⟩⟩ := h
  · exact ⟨ps, k _ _ h1 (ne_of h1 hc (fun z => n1 ps z.symm)), .inl h2⟩
  · exact ⟨ps, k _ _ h1 (ne_of h1 hc (fun z => n1 ps z.symm)), .inr ⟨c', oc, e, k _ _ h3 (ne_of h3 hc (fun z => n2 _ _ z.symm)), h4⟩⟩
theorem minutes_set {m : Kqv6.Map_} {i : Nat} {x r : Kqv6.Road} (hx : m.roads[i]? = some x) (e : r.minutes = x.minutes) (j : Nat) : Kqv6.minutesOf { m with roads := m.roads.set i r } j = Kqv6.minutesOf m j := by
  unfold Kqv6.minutesOf
  show (((m.roads.set i r)[j]?).map fun x => x.minutes).getD 0 = _
  by_cases q : j = i
  · subst q
    rw [List.getElem?_set_self (List.getElem?_eq_some_iff.mp hx).1, hx]
    exact e
  · rw [List.getElem?_set_ne (fun z => q z.symm)]
theorem ret_road {a : Adr} {H H1 : Hp} {net v c : Addr} {m : Kqv6.Map_} {fp : List Addr} {i : Nat} {x r : Kqv6.Road} (S : StateAt a H net m fp) (hx : m.roads[i]? = some x) {ll dd : Addr} {as : List Addr} {ks : List Nat} {ca cl : Nat → Addr} {cs : Nat → List Addr} (hP : Parts a H net ll dd as ks ca cl cs m) (efp : fp = net :: ll :: dd :: a.P1 :: a.P2 :: (as ++ cvs ks ca cl cs))
    (hc : as[i]? = some c) (hr : RoadAt a.CR H1 c r) (k : ∀ b o, H b = some o → b ≠ c → H1 b = some o) (e : r.p = x.p ∧ r.q = x.q ∧ r.minutes = x.minutes ∧ r.a ≤ 200 ∧ r.b ≤ 200) (hv : H1 v = none) (ans : List Int) :
    Ret a H (upd H1 v (.lst (ans.map V.int))) fp fp v net { m with roads := m.roads.set i r } ans := by
  have hR := hP.roads
  have ap := hP.apart
  obtain ⟨dc, ec⟩ := hR.at_ i c x hc hx
  obtain ⟨dr, er⟩ := hr
  have up : ∀ b o, H1 b = some o → upd H1 v (.lst (ans.map V.int)) b = some o := fun b o e => by rw [upd_ne (ne_of_none e hv)]; exact e
  have kk : ∀ b o, H b = some o → b ≠ c → upd H1 v (.lst (ans.map V.int)) b = some o := fun b o e hb => up _ _ (k b o e hb)
  have hv0 : H v = none := by
    cases q : H v with
    | none => rfl
    | some o =>
      by_cases z : v = c
      · rw [z, er] at hv; cases hv
      · rw [k v o q z] at hv; cases hv
  obtain ⟨dn, en⟩ := hP.net
  have hca : c ∈ as := List.mem_of_getElem? hc
  have nnc : net ≠ c := fun z => ap.an c hca z.symm
  refine ⟨hv0, upd_same, ⟨⟨ll, dd, as, ks, ca, cl, cs, ⟨⟨dn, kk _ _ en nnc⟩, hR.change hc ⟨dr, up _ _ er⟩ kk, hP.conv.move (fun b o q hb => kk b o q (hb.elim (fun z => by rw [z]; exact (ap.ad c hca).symm) fun hb z => ap.ca b hb (by rw [z]; exact hca))) rfl (fun j hj => minutes_set hx e.2.2.1 j) (by show m.roads.length ≤ (m.roads.set i r).length; rw [List.length_set]; exact Nat.le_refl _), hP.sep⟩, efp⟩, ?_, lamTab_but S.t1 ec (by intro ps z; cases z) (by intro o u z; cases z) kk, lamTab_but S.t2 ec (by intro ps z; cases z) (by intro o u z; cases z) kk⟩, fun hb => ?_, fun b hb => .inl hb, fun b o q hb => kk b o q fun z => hb ?_⟩
  · have old := S.fine.ok.ok x (List.mem_of_getElem? hx)
    refine ⟨⟨fun r' hr' => ?_⟩, by show (m.roads.set i r).length ≤ 14; rw [List.length_set]; exact S.fine.few, S.fine.n8, fun r' hr' => ?_⟩
    · rcases List.mem_or_eq_of_mem_set hr' with q | q
      · exact S.fine.ok.ok r' q
      · subst q
        rw [e.1, e.2.1, e.2.2.1]
        exact old
    · rcases List.mem_or_eq_of_mem_set hr' with q | q
      · exact S.fine.wide r' q
      · subst q
        exact e.2.2.2
  · obtain ⟨o, q⟩ := S.some v hb
    rw [hv0] at q
    cases q
  · rw [efp, z]
    simp only [List.mem_cons, List.mem_append]
    exact .inr (.inr (.inr (.inr (.inr (.inl hca)))))
def gClose : Kqv6.Map_ → List Nat → Kqv6.Map_ × List Int := fun m xs => match xs with
  | [r, on] => (match m.roads[r]? with
    | none => (m, [-2])
    | some x => if 1 < on then (m, [-22]) else ({ m with roads := m.roads.set r { x with closed := on == 1 } }, [if x.closed then 1 else 0]))
  | _ => (m, [])
theorem scAClose : FnScope ["network", "r", "on", "road", "was_closed"] ["network", "r", "on"] (defScope sAClose) := ⟨rfl, rfl, rfl, by decide +kernel, rfl, by decide +kernel, by decide +kernel⟩
theorem ok_aClose {a : Adr} {f : Addr} {fd : FuncData} (F : Fun K "answer_close" "answer_close" sAClose f fd) (g : Known P w K mg base a) : FnOk P w K mg base CX0 2 f fd ["network", "r", "on"] (spHand a 2 gClose) := by
  refine F.ok scAClose (spHand_len rfl) (fun cdv A outer s H vs Q E hr h => ?_)
  obtain ⟨net, m, fp, xs, rfl, hl, S, k⟩ := h
  obtain ⟨r, on, rfl⟩ := len2 hl
  obtain ⟨fH, fdH, GH, mH, bH⟩ := g.hasRoad
  obtain ⟨ll, dd, as, ks, ca, cl, cs, hP, efp⟩ := id S.ex
  obtain ⟨dx, hN⟩ := id hP.net
  have hR := hP.roads
  refine ⟨_, pss_cons (ps_if (pt_not (pt_val (pe_meth (pv 0) g.TN.cl mH GH hr bH .nil pass0 (pa_cons (pv 1) pa_nil)))) (pss_one (ps_ret (pe_lst (pa_cons (pe_ci rfl g.c2) pa_nil)))) pss_nil)
    (pss_cons (ps_if (pt_cmpR op_gt (pv 2) pe_int (nomark _)) (pss_one (ps_ret (pe_lst (pa_cons (pe_ci rfl g.c22) pa_nil)))) pss_nil)
    (pss_cons (ps_set (i := 3) scAClose.nd rfl (Or.inl rfl) (pe_ix ix_list (pe_fld (pv 0) rfl) (pv 1) (fun _ _ => rfl)))
    (pss_cons (ps_set (i := 4) scAClose.nd rfl (Or.inl rfl) (pe_fld (pv 3) rfl))
    (pss_cons (ps_fld (pv 3) (pe_cmpR op_eq (pv 2) pe_int (nomark _)) rfl)
    (pss_one (ps_ret (pe_lst (pa_cons (pe_ifExp (pt_val (pv 4)) pe_int pe_int) pa_nil)))))))), ?_⟩
  refine ⟨_, rfl, net, dx, _, rfl, hN, rfl, _, rfl, net, ll, m.places, r, _, rfl, ⟨dd, dx, hN⟩, hR.lst, _, rfl, ?_⟩
  rw [List.length_map, hR.len]
  by_cases hr' : r < m.roads.length
  · rw [decide_eq_true hr']
    obtain ⟨x, ex⟩ : ∃ x, m.roads[r]? = some x := ⟨_, List.getElem?_eq_getElem hr'⟩
    obtain ⟨ar, ea⟩ : ∃ ar, as[r]? = some ar := ⟨_, List.getElem?_eq_getElem (by rw [hR.len]; exact hr')⟩
    obtain ⟨dr, hra⟩ := hR.at_ r ar x ea ex
    have hg : gClose m [r, on] = if 1 < on then (m, [-22]) else ({ m with roads := m.roads.set r { x with closed := on == 1 } }, [if x.closed then 1 else 0]) := by
      show (match m.roads[r]? with | none => _ | some x => _) = _
      rw [ex]
    rw [hg] at k
    refine iteF ⟨_, rfl, _, _, rfl, rfl, _, rfl, ite2 (fun c => ?_) (fun c => ?_)⟩
    · have c : 1 < on := gt_iff (b := 1).mp c
      refine ⟨zL1, fun v hv => k _ fp v ?_⟩
      rw [if_pos c]
      exact ret_same S (Same.refl H) hv [-22]
    · have c : ¬ 1 < on := fun z => c (gt_iff (b := 1).mpr z)
      rw [if_neg c] at k
      refine ⟨_, rfl, net, a.CN, dx, _, _, rfl, hN, g.TN.cl, g.TN.no _ (by simp), rfl, _, rfl, ll, _, _, _, rfl, rfl, SqL.of hR.lst, at_of (j := r) (v := V.ref ar) rfl (by rw [List.getElem?_map, ea]; rfl), ?_⟩
      refine ⟨_, rfl, ar, a.CR, dr, _, _, rfl, hra, g.TR.cl, g.TR.no _ (by simp), rfl, ?_⟩
      refine ⟨_, rfl, rfl, _, rfl, ar, a.CR, dr, _, rfl, hra, g.TR.cl, g.TR.no _ (by simp), (by show 8 < 1000; decide), ?_⟩
      have eb : decide (V.int on = V.int 1) = (on == 1) := by
        by_cases q : on = 1
        · subst q; rfl
        · rw [(beq_eq_false_iff_ne.mpr q : (on == 1) = false)]
          exact decide_eq_false (fun z => q (by have := V.int.inj z; omega))
      have hr1 : RoadAt a.CR (upd H ar (.ins a.CR dr (putF "closed" (.bl (decide (V.int on = V.int 1))) (rf x)))) ar { x with closed := on == 1 } := ⟨dr, by
        rw [upd_same, eb]
        rfl⟩
      have kb : ∀ b o, H b = some o → b ≠ ar → upd H ar (.ins a.CR dr (putF "closed" (.bl (decide (V.int on = V.int 1))) (rf x))) b = some o := fun b o e hb => by rw [upd_ne hb]; exact e
      have wd := S.fine.wide x (List.mem_of_getElem? ex)
      refine ⟨_, rfl, _, rfl, ite2 (fun q => ?_) (fun q => ?_)⟩
      · refine ⟨zL1, fun v hv => k _ fp v ?_⟩
        rw [if_pos q]
        exact ret_road S ex hP efp ea hr1 kb ⟨rfl, rfl, rfl, wd.1, wd.2⟩ hv [1]
      · refine ⟨zL1, fun v hv => k _ fp v ?_⟩
        rw [if_neg q]
        exact ret_road S ex hP efp ea hr1 kb ⟨rfl, rfl, rfl, wd.1, wd.2⟩ hv [0]
  · rw [decide_eq_false hr']
    have hg : gClose m [r, on] = (m, [-2]) := by
      show (match m.roads[r]? with | none => _ | some x => _) = _
      rw [List.getElem?_eq_none (by omega)]
    rw [hg] at k
    exact iteT ⟨zL1, fun v hv => k _ fp v (ret_same S (Same.refl H) hv [-2])⟩
end
end BP
end
section
namespace BP
open PySem PySem.Spec PyProof.Rows L2
section
variable {P : Program} {w : World} {K : PySem.W.Frag} {mg : Str → Option Value} {base : Heap}
def gWiden : Kqv6.Map_ → List Nat → Kqv6.Map_ × List Int := fun m xs => match xs with
  | [r, wa, wb] => (match m.roads[r]? with
    | none => (m, [-2])
    | some x => if 200 < wa ∨ 200 < wb ∨ wa < x.a ∨ wb < x.b ∨ (x.a = 0 ∧ x.b = 0) then (m, [-22]) else ({ m with roads := m.roads.set r { x with a := wa, b := wb } }, [0]))
  | _ => (m, [])
theorem scAWiden : FnScope ["network", "r", "a", "b", "road"] ["network", "r", "a", "b"] (defScope sAWiden) := ⟨rfl, rfl, rfl, by decide +kernel, rfl, by decide +kernel, by decide +kernel⟩
theorem ok_aWiden {a : Adr} {f : Addr} {fd : FuncData} (F : Fun K "answer_widen" "answer_widen" sAWiden f fd) (g : Known P w K mg base a) : FnOk P w K mg base CX0 2 f fd ["network", "r", "a", "b"] (spHand a 3 gWiden) := by
  refine F.ok scAWiden (spHand_len rfl) (fun cdv A outer s H vs Q E hr h => ?_)
  obtain ⟨net, m, fp, xs, rfl, hl, S, k⟩ := h
  obtain ⟨r, wa, wb, rfl⟩ := len3 hl
  obtain ⟨fH, fdH, GH, mH, bH⟩ := g.hasRoad
  obtain ⟨fB, fdB, GB, mB, bB⟩ := g.bend
  obtain ⟨ll, dd, as, ks, ca, cl, cs, hP, efp⟩ := id S.ex
  obtain ⟨dx, hN⟩ := id hP.net
  have hR := hP.roads
  have ap := hP.apart
  refine ⟨_, pss_cons (ps_if (pt_not (pt_val (pe_meth (pv 0) g.TN.cl mH GH hr bH .nil pass0 (pa_cons (pv 1) pa_nil)))) (pss_one (ps_ret (pe_lst (pa_cons (pe_ci rfl g.c2) pa_nil)))) pss_nil)
    (pss_cons (ps_set (i := 4) scAWiden.nd rfl (Or.inl rfl) (pe_ix ix_list (pe_fld (pv 0) rfl) (pv 1) (fun _ _ => rfl)))
    (pss_cons (ps_if (PW.pt (pw_or (pt_cmpR op_gt (pv 2) (pe_ci rfl g.wide) (nomark _)) (pw_or (pt_cmpR op_gt (pv 3) (pe_ci rfl g.wide) (nomark _)) (pw_or (pt_cmpR op_lt (pv 2) (pe_fld (pv 4) rfl) (nomark _)) (pw_or (pt_cmpR op_lt (pv 3) (pe_fld (pv 4) rfl) (nomark _)) (pw_or1 (pt_not (pt_val (pe_meth0 (pv 4) g.TR.cl mB GB hr bB .nil pass0)))))))))
      (pss_one (ps_ret (pe_lst (pa_cons (pe_ci rfl g.c22) pa_nil)))) pss_nil)
    (pss_cons (ps_fld (pv 4) (pv 2) rfl) (pss_cons (ps_fld (pv 4) (pv 3) rfl) (pss_one (ps_ret (pe_lst (pa_cons pe_int pa_nil)))))))), ?_⟩
  refine ⟨_, rfl, net, dx, _, rfl, hN, rfl, _, rfl, net, ll, m.places, r, _, rfl, ⟨dd, dx, hN⟩, hR.lst, _, rfl, ?_⟩
  rw [List.length_map, hR.len]
  by_cases hr' : r < m.roads.length
  · rw [decide_eq_true hr']
    obtain ⟨x, ex⟩ : ∃ x, m.roads[r]? = some x := ⟨_, List.getElem?_eq_getElem hr'⟩
    obtain ⟨ar, ea⟩ : ∃ ar, as[r]? = some ar := ⟨_, List.getElem?_eq_getElem (by rw [hR.len]; exact hr')⟩
    obtain ⟨dr, hra⟩ := hR.at_ r ar x ea ex
    have hg : gWiden m [r, wa, wb] = if 200 < wa ∨ 200 < wb ∨ wa < x.a ∨ wb < x.b ∨ (x.a = 0 ∧ x.b = 0) then (m, [-22]) else ({ m with roads := m.roads.set r { x with a := wa, b := wb } }, [0]) := by
      show (match m.roads[r]? with | none => _ | some x => _) = _
      rw [ex]
    rw [hg] at k
    have bad : (200 < wa ∨ 200 < wb ∨ wa < x.a ∨ wb < x.b ∨ (x.a = 0 ∧ x.b = 0)) → ∀ v, H v = none → Q (.ref v) (upd H v (.lst [V.int (-22)])) := fun c v hv => k _ fp v (by
      rw [if_pos c]
      exact ret_same S (Same.refl H) hv [-22])
    refine iteF ⟨_, rfl, net, a.CN, dx, _, _, rfl, hN, g.TN.cl, g.TN.no _ (by simp), rfl, _, rfl, ll, _, _, _, rfl, rfl, SqL.of hR.lst, at_of (j := r) (v := V.ref ar) rfl (by rw [List.getElem?_map, ea]; rfl), ?_⟩
    refine ⟨_, rfl, _, _, rfl, rfl, _, rfl, ite2 (fun c => ?_) (fun c => ?_)⟩
    · exact iteT ⟨zL1, fun v hv => bad (.inl (gt_iff (b := 200).mp c)) v hv⟩
    have c1 : ¬ 200 < wa := fun z => c (gt_iff (b := 200).mpr z)
    refine ⟨_, rfl, _, _, rfl, rfl, _, rfl, ite2 (fun c => ?_) (fun c => ?_)⟩
    · exact iteT ⟨zL1, fun v hv => bad (.inr (.inl (gt_iff (b := 200).mp c))) v hv⟩
    have c2 : ¬ 200 < wb := fun z => c (gt_iff (b := 200).mpr z)
    refine ⟨_, rfl, _, rfl, ar, a.CR, dr, _, _, rfl, hra, g.TR.cl, g.TR.no _ (by simp), rfl, _, _, rfl, rfl, _, rfl, ite2 (fun c => ?_) (fun c => ?_)⟩
    · exact iteT ⟨zL1, fun v hv => bad (.inr (.inr (.inl (gt_iff.mp c)))) v hv⟩
    have c3 : ¬ wa < x.a := fun z => c (gt_iff.mpr z)
    refine ⟨_, rfl, _, rfl, ar, a.CR, dr, _, _, rfl, hra, g.TR.cl, g.TR.no _ (by simp), rfl, _, _, rfl, rfl, _, rfl, ite2 (fun c => ?_) (fun c => ?_)⟩
    · exact iteT ⟨zL1, fun v hv => bad (.inr (.inr (.inr (.inl (gt_iff.mp c))))) v hv⟩
    have c4 : ¬ wb < x.b := fun z => c (gt_iff.mpr z)
    refine ⟨_, rfl, ar, dr, _, rfl, hra, rfl, ar, x, rfl, ⟨dr, hra⟩, _, rfl, ?_⟩
    by_cases c5 : x.a = 0 ∧ x.b = 0
    · have e : (x.a != 0 || x.b != 0) = false := by rw [c5.1, c5.2]; rfl
      rw [e]
      exact iteT ⟨zL1, fun v hv => bad (.inr (.inr (.inr (.inr c5)))) v hv⟩
    · have e : (x.a != 0 || x.b != 0) = true := by
        by_cases q : x.a = 0
        · have : ¬ x.b = 0 := fun z => c5 ⟨q, z⟩
          rw [(bne_iff_ne.mpr this : (x.b != 0) = true), Bool.or_true]
        · rw [(bne_iff_ne.mpr q : (x.a != 0) = true), Bool.true_or]
      rw [e]
      rw [if_neg (by omega)] at k
      refine iteF ⟨_, rfl, _, rfl, ar, a.CR, dr, _, rfl, hra, g.TR.cl, g.TR.no _ (by simp), (by show 8 < 1000; decide), ?_⟩
      refine ⟨_, rfl, _, rfl, ar, a.CR, dr, _, rfl, upd_same, g.TR.cl, g.TR.no _ (by simp), (by show 8 < 1000; decide), ?_⟩
      refine ⟨zL1, fun v hv => k _ fp v ?_⟩
      refine ret_road S ex hP efp ea (r := { x with a := wa, b := wb }) ⟨dr, ?_⟩ (fun b o e hb => ?_) ⟨rfl, rfl, rfl, by show wa ≤ 200; omega, by show wb ≤ 200; omega⟩ hv [0]
      · rw [upd_same]
        rfl
      · rw [upd_ne hb, upd_ne hb]
        exact e
  · rw [decide_eq_false hr']
    have hg : gWiden m [r, wa, wb] = (m, [-2]) := by
      show (match m.roads[r]? with | none => _ | some x => _) = _
      rw [List.getElem?_eq_none (by omega)]
    rw [hg] at k
    exact iteT ⟨zL1, fun v hv => k _ fp v (ret_same S (Same.refl H) hv [-2])⟩
theorem minutes_push {m : Kqv6.Map_} {r : Kqv6.Road} (j : Nat) (hj : j < m.roads.length) : Kqv6.minutesOf { m with roads := m.roads ++ [r] } j = Kqv6.minutesOf m j := by
  unfold Kqv6.minutesOf
  show (((m.roads ++ [r])[j]?).map fun x => x.minutes).getD 0 = _
  rw [List.getElem?_append_left hj]
def gRoad : Kqv6.Map_ → List Nat → Kqv6.Map_ × List Int := fun m xs => match xs with
  | [p, q, t, h, wt, wa, wb] => if Kqv6.okEnds m p q = false then (m, [-2]) else if p = q ∨ t = 0 ∨ 200 < t ∨ 100 < h ∨ 1000 < wt ∨ 200 < wa ∨ 200 < wb then (m, [-22]) else if 14 ≤ m.roads.length then (m, [-28]) else ({ m with roads := m.roads ++ [⟨p, q, t, h, wt, wa, wb, false⟩] }, [(m.roads.length : Int)])
  | _ => (m, [])
theorem scARoad : FnScope ["network", "p", "q", "minutes", "high", "heavy", "a", "b"] ["network", "p", "q", "minutes", "high", "heavy", "a", "b"] (defScope sARoad) := ⟨rfl, rfl, rfl, by decide +kernel, rfl, by decide +kernel, by decide +kernel⟩
theorem ok_aRoad {a : Adr} {f : Addr} {fd : FuncData} (F : Fun K "answer_road" "answer_road" sARoad f fd) (g : Known P w K mg base a) (gm : Callable P w K mg base "measures_as_told" 1 ["minutes", "high", "heavy", "a", "b"] spMeas) : FnOk P w K mg base CX0 3 f fd ["network", "p", "q", "minutes", "high", "heavy", "a", "b"] (spHand a 7 gRoad) := by
  refine F.ok scARoad (spHand_len rfl) (fun cdv A outer s H vs Q E hr h => ?_)
  obtain ⟨net, m, fp, xs, rfl, hl, S, k⟩ := h
  obtain ⟨p, q, t, h, wt, wa, wb, rfl⟩ := len7 hl
  obtain ⟨fH, fdH, GH, mH, bH⟩ := g.hasPlaces
  obtain ⟨fM, fdM, GM, mM, kM, bM⟩ := gm
  obtain ⟨fI, fdI, GI, MI, mI, bI⟩ := g.road
  have r1 : Room 1 _ := hr.mono (by decide)
  obtain ⟨ll, dd, as, ks, ca, cl, cs, hP, efp⟩ := id S.ex
  obtain ⟨dx, hN⟩ := id hP.net
  have hR := hP.roads
  have ap := hP.apart
  refine ⟨_, pss_cons (ps_if (pt_not (pt_val (pe_meth (pv 0) g.TN.cl mH GH r1 bH .nil pass0 (pa_cons (pv 1) (pa_cons (pv 2) pa_nil))))) (pss_one (ps_ret (pe_lst (pa_cons (pe_ci rfl g.c2) pa_nil)))) pss_nil)
    (pss_cons (ps_if (PW.pt (pw_or (pt_cmpR op_eq (pv 1) (pv 2) (nomark _)) (pw_or1 (pt_not (pt_val (pe_call GM r1 rfl mM kM bM .nil pass0 (pa_cons (pv 3) (pa_cons (pv 4) (pa_cons (pv 5) (pa_cons (pv 6) (pa_cons (pv 7) pa_nil)))))))))) ) (pss_one (ps_ret (pe_lst (pa_cons (pe_ci rfl g.c22) pa_nil)))) pss_nil)
    (pss_cons (ps_if (pt_cmpR op_eq (pe_callB call_len_seq (by rfl) g.len PySem.boot_len (pa_cons (pe_fld (pv 0) rfl) pa_nil)) (pe_ci rfl g.roads) (nomark _)) (pss_one (ps_ret (pe_lst (pa_cons (pe_ci rfl g.c28) pa_nil)))) pss_nil)
    (pss_cons (ps_expr (pe_bm PySem.F.plainAttrs_list PySem.F.slot_list_append PySem.F.type_list_append mt_append (pe_fld (pv 0) rfl) (pa_cons (pe_make MI GI hr rfl mI bI .nil pass0 (pa_cons (pv 1) (pa_cons (pv 2) (pa_cons (pv 3) (pa_cons (pv 4) (pa_cons (pv 5) (pa_cons (pv 6) (pa_cons (pv 7) pa_nil)))))))) pa_nil)))
    (pss_one (ps_ret (pe_lst (pa_cons (pe_op op_sub (pe_callB call_len_seq (by rfl) g.len PySem.boot_len (pa_cons (pe_fld (pv 0) rfl) pa_nil)) pe_int) pa_nil))))))), ?_⟩
  have hg : gRoad m [p, q, t, h, wt, wa, wb] = if Kqv6.okEnds m p q = false then (m, [-2]) else if p = q ∨ t = 0 ∨ 200 < t ∨ 100 < h ∨ 1000 < wt ∨ 200 < wa ∨ 200 < wb then (m, [-22]) else if 14 ≤ m.roads.length then (m, [-28]) else ({ m with roads := m.roads ++ [⟨p, q, t, h, wt, wa, wb, false⟩] }, [(m.roads.length : Int)]) := rfl
  rw [hg] at k
  refine ⟨_, rfl, net, dx, _, rfl, hN, rfl, _, rfl, _, rfl, net, ll, m.places, p, q, rfl, ⟨dd, dx, hN⟩, _, rfl, ?_⟩
  cases he : Kqv6.okEnds m p q with
  | false =>
    have he' : (decide (p < m.places) && decide (q < m.places)) = false := he
    rw [he']
    rw [if_pos he] at k
    exact iteT ⟨zL1, fun v hv => k _ fp v (ret_same S (Same.refl H) hv [-2])⟩
  | true =>
    have he' : (decide (p < m.places) && decide (q < m.places)) = true := he
    rw [he']
    rw [if_neg (by rw [he]; decide)] at k
    have hpq : p < m.places ∧ q < m.places := by simp at he'; exact he'
    refine iteF ⟨_, rfl, _, rfl, rfl, _, rfl, ite2 (fun c => ?_) (fun c => ?_)⟩
    · have c : p = q := by have := V.int.inj (of_decide_eq_true c); omega
      rw [if_pos (.inl c)] at k
      exact iteT ⟨zL1, fun v hv => k _ fp v (ret_same S (Same.refl H) hv [-22])⟩
    have npq : ¬ p = q := fun z => c (decide_eq_true (by rw [z]))
    refine ⟨_, rfl, _, rfl, _, rfl, _, rfl, _, rfl, t, h, wt, wa, wb, rfl, _, rfl, ?_⟩
    cases ho : okM t h wt wa wb with
    | false =>
      have hbad : t = 0 ∨ 200 < t ∨ 100 < h ∨ 1000 < wt ∨ 200 < wa ∨ 200 < wb := by
        apply Classical.byContradiction
        intro z
        rw [okM_iff.mpr z] at ho
        cases ho
      rw [if_pos (.inr hbad)] at k
      exact iteT ⟨zL1, fun v hv => k _ fp v (ret_same S (Same.refl H) hv [-22])⟩
    | true =>
      have hok := okM_iff.mp ho
      rw [if_neg (fun z => z.elim npq hok)] at k
      have elen : (as.map V.ref).length = m.roads.length := by rw [List.length_map, hR.len]
      refine iteF ⟨_, rfl, net, a.CN, dx, _, _, rfl, hN, g.TN.cl, g.TN.no _ (by simp), rfl, ll, _, rfl, .inl (SqL.of hR.lst), rfl, _, rfl, ?_⟩
      rw [elen]
      have few := S.fine.few
      refine ite2 (fun c => ?_) (fun c => ?_)
      · have c : m.roads.length = 14 := by have := V.int.inj (of_decide_eq_true c); omega
        rw [if_pos (by omega)] at k
        exact ⟨zL1, fun v hv => k _ fp v (ret_same S (Same.refl H) hv [-28])⟩
      have c : ¬ m.roads.length = 14 := fun z => c (decide_eq_true (by rw [z]; rfl))
      rw [if_neg (by omega)] at k
      refine ⟨_, rfl, net, a.CN, dx, _, _, rfl, hN, g.TN.cl, g.TN.no _ (by simp), rfl, .inl ⟨rfl, _, SqL.of hR.lst⟩, _, rfl, _, rfl, _, rfl, _, rfl, _, rfl, _, rfl, _, rfl, fun x0 d0 n0 m0 e0 => ⟨x0, d0, ⟨p, q, t, h, wt, wa, wb, false⟩, rfl, rfl, upd_same, fun H1 hR1 kp => ⟨rfl, ?_⟩⟩⟩
      have s1 : Same H H1 := Same.made n0 m0 kp
      refine ⟨ll, _, _, rfl, rfl, s1 _ _ hR.lst, by rw [elen]; exact Nat.lt_of_le_of_lt few (by decide), ?_⟩
      have nnl : net ≠ ll := ne_of hN hR.lst (by intro q; cases q)
      have nxl : x0 ≠ ll := fun z => by rw [z, hR.lst] at n0; cases n0
      have hN2 : upd H1 ll (.lst (as.map V.ref ++ [V.ref x0])) net = some (.ins a.CN dx (nf m.places ll dd)) := by rw [upd_ne nnl]; exact s1 _ _ hN
      refine ⟨_, rfl, net, a.CN, dx, _, _, rfl, hN2, g.TN.cl, g.TN.no _ (by simp), rfl, ll, _, rfl, .inl (SqL.of upd_same), _, _, rfl, rfl, zL1, fun v hv => k _ (net :: ll :: dd :: a.P1 :: a.P2 :: ((as ++ [x0]) ++ cvs ks ca cl cs)) v ?_⟩
      have elen2 : (((as.map V.ref ++ [V.ref x0]).length : Nat) : Int) - 1 = (m.roads.length : Int) := by
        rw [List.length_append, elen]
        show ((m.roads.length + 1 : Nat) : Int) - 1 = _
        omega
      have kb : ∀ b o, H b = some o → b ≠ ll → upd (upd H1 ll (.lst (as.map V.ref ++ [V.ref x0]))) v (.lst [V.int ((((as.map V.ref ++ [V.ref x0]).length : Nat) : Int) - 1)]) b = some o := fun b o e hb => by
        have q1 : upd H1 ll (.lst (as.map V.ref ++ [V.ref x0])) b = some o := by rw [upd_ne hb]; exact s1 b o e
        rw [upd_ne (ne_of_none q1 hv)]
        exact q1
      obtain ⟨dr, hx0⟩ := hR1
      have hx2 : upd H1 ll (.lst (as.map V.ref ++ [V.ref x0])) x0 = some (.ins a.CR dr (rf ⟨p, q, t, h, wt, wa, wb, false⟩)) := by rw [upd_ne nxl]; exact hx0
      have nvl : ll ≠ v := ne_of_none upd_same hv
      have hv0 : H v = none := by
        cases qq : H v with
        | none => rfl
        | some o =>
          have := kb v o qq nvl.symm
          rw [upd_ne nvl.symm, s1 v o qq] at hv
          cases hv
      have asome : ∀ b ∈ as, ∃ o, H b = some o ∧ b ≠ ll := fun b hb => by
        obtain ⟨j, hj⟩ := List.getElem?_of_mem hb
        have hlj : j < m.roads.length := by rw [← hR.len]; exact (List.getElem?_eq_some_iff.mp hj).1
        obtain ⟨dx', e⟩ := hR.at_ j b _ hj (List.getElem?_eq_getElem hlj)
        exact ⟨_, e, ne_of e hR.lst (by intro q; cases q)⟩
      refine ⟨hv0, ?_, ⟨⟨ll, dd, as ++ [x0], ks, ca, cl, cs, ⟨⟨dx, kb _ _ hN nnl⟩, hR.push (fun b hb z => ?_) ?_ ⟨dr, ?_⟩ (fun b hb o e => ?_), hP.conv.move (fun b o e hb => kb b o e (hb.elim (fun z => by rw [z]; exact ap.dl) (ap.cl b))) rfl (fun j hj => minutes_push j hj) (by show m.roads.length ≤ (m.roads ++ [_]).length; rw [List.length_append]; omega), hP.sep⟩, rfl⟩, ?_, lamTab_but S.t1 hR.lst (by intro ps z; cases z) (by intro o u z; cases z) kb, lamTab_but S.t2 hR.lst (by intro ps z; cases z) (by intro o u z; cases z) kb⟩, fun hb => ?_, fun b hb => ?_, fun b o e hb => kb b o e fun z => hb ?_⟩
      · show upd _ v _ v = _
        rw [upd_same]
        show some (HO.lst [V.int ((((as.map V.ref ++ [V.ref x0]).length : Nat) : Int) - 1)]) = some (HO.lst [V.int (m.roads.length : Int)])
        rw [elen2]
      · obtain ⟨o, e, _⟩ := asome b hb
        rw [z, n0] at e
        cases e
      · show upd _ v _ ll = _
        rw [upd_ne nvl, upd_same, List.map_append]
        rfl
      · show upd _ v _ x0 = _
        rw [upd_ne (ne_of_none hx2 hv)]
        exact hx2
      · obtain ⟨_, _, hbl⟩ := asome b hb
        exact kb b o e hbl
      · refine ⟨⟨fun r' hr' => ?_⟩, ?_, S.fine.n8, fun r' hr' => ?_⟩
        · rcases List.mem_append.mp hr' with z | z
          · exact S.fine.ok.ok r' z
          · obtain rfl : r' = _ := by simpa using z
            exact ⟨by show 1 ≤ t; omega, hpq.1, hpq.2, npq⟩
        · show (m.roads ++ [_]).length ≤ 14
          rw [List.length_append]
          show m.roads.length + 1 ≤ 14
          omega
        · rcases List.mem_append.mp hr' with z | z
          · exact S.fine.wide r' z
          · obtain rfl : r' = _ := by simpa using z
            exact ⟨by show wa ≤ 200; omega, by show wb ≤ 200; omega⟩
      · have hv1 : H1 v = none := by rw [upd_ne nvl.symm] at hv; exact hv
        have mm : v ∈ fp ∨ v = x0 := by
          rw [efp]
          simp only [List.mem_cons, List.mem_append, List.not_mem_nil, or_false] at hb ⊢
          rcases hb with z | z | z | z | z | (z | z) | z
          · exact .inl (.inl z)
          · exact .inl (.inr (.inl z))
          · exact .inl (.inr (.inr (.inl z)))
          · exact .inl (.inr (.inr (.inr (.inl z))))
          · exact .inl (.inr (.inr (.inr (.inr (.inl z)))))
          · exact .inl (.inr (.inr (.inr (.inr (.inr (.inl z))))))
          · exact .inr z
          · exact .inl (.inr (.inr (.inr (.inr (.inr (.inr z))))))
        rcases mm with z | z
        · obtain ⟨o, e⟩ := S.some v z
          rw [hv0] at e; cases e
        · rw [z, hx0] at hv1; cases hv1
      · rw [efp]
        simp only [List.mem_cons, List.mem_append, List.not_mem_nil, or_false] at hb ⊢
        rcases hb with z | z | z | z | z | (z | z) | z
        · exact .inl (.inl z)
        · exact .inl (.inr (.inl z))
        · exact .inl (.inr (.inr (.inl z)))
        · exact .inl (.inr (.inr (.inr (.inl z))))
        · exact .inl (.inr (.inr (.inr (.inr (.inl z)))))
        · exact .inl (.inr (.inr (.inr (.inr (.inr (.inl z))))))
        · exact .inr (by rw [z]; exact n0)
        · exact .inl (.inr (.inr (.inr (.inr (.inr (.inr z))))))
      · rw [efp, z]
        simp
end
end BP
end
section
namespace BP
open PySem PySem.Spec PyProof.Rows L2
def setAt {α : Type} (f : Nat → α) (n : Nat) (x : α) : Nat → α := fun j => if j = n then x else f j
theorem setAt_same {α : Type} {f : Nat → α} {n : Nat} {x : α} : setAt f n x n = x := by unfold setAt; rw [if_pos rfl]
theorem setAt_ne {α : Type} {f : Nat → α} {n j : Nat} {x : α} (h : j ≠ n) : setAt f n x j = f j := by unfold setAt; rw [if_neg h]
theorem cd_put {ks : List Nat} {ca : Nat → Addr} {n : Nat} {c : Addr} (h : n ∉ ks) : putK (cd ks ca) (Sum.inl (n : Int)) (.ref c) = cd (ks ++ [n]) (setAt ca n c) := by
  have e1 : (cd ks ca).any (fun kv => decide (kv.1 = (Sum.inl (n : Int) : Key))) = false := by
    rw [valV_any, cd_val, if_neg h]
    rfl
  unfold putK
  rw [if_neg (by rw [e1]; decide)]
  unfold cd
  rw [List.map_append]
  congr 1
  · refine List.map_congr_left fun k hk => ?_
    rw [setAt_ne (fun z => h (by rw [← z]; exact hk))]
  · show [((Sum.inl (n : Int) : Key), V.ref c)] = [((Sum.inl (n : Int) : Key), V.ref (setAt ca n c n))]
    rw [setAt_same]
theorem cd_drop {ca : Nat → Addr} {n : Nat} : ∀ ks : List Nat, dropK (cd ks ca) (Sum.inl (n : Int)) = cd (ks.filter fun k => k != n) ca
  | [] => rfl
  | k :: ks => by
    have ih := cd_drop (ca := ca) (n := n) ks
    unfold dropK at ih ⊢
    show List.filter _ ((Sum.inl (k : Int), V.ref (ca k)) :: cd ks ca) = _
    by_cases h : k = n
    · subst h
      rw [List.filter_cons_of_neg (by simp), ih, List.filter_cons_of_neg (by simp)]
    · rw [List.filter_cons_of_pos (by simp; omega), ih, List.filter_cons_of_pos (by simpa using h)]
      rfl
theorem isAt_put {m : Kqv6.Map_} {c : Kqv6.Convoy} (k : Nat) : Bend.isAt { m with convoys := Kqv6.putIn m.convoys c } k = if k = Kqv6.slot m.convoys then true else Bend.isAt m k := by
  unfold Bend.isAt
  show ((Kqv6.putIn m.convoys c).getD k none).isSome = _
  rw [Bend.putIn_get]
  by_cases h : k = Kqv6.slot m.convoys
  · rw [if_pos h, if_pos h]; rfl
  · rw [if_neg h, if_neg h]
theorem slot_free (m : Kqv6.Map_) : Bend.isAt m (Kqv6.slot m.convoys) = false := by
  unfold Bend.isAt Kqv6.slot
  cases e : m.convoys.findIdx? Option.isNone with
  | none =>
    show (m.convoys.getD m.convoys.length none).isSome = false
    rw [List.getD_eq_getElem?_getD, List.getElem?_eq_none (Nat.le_refl _)]
    rfl
  | some i =>
    obtain ⟨h1, h2, _⟩ := List.findIdx?_eq_some_iff_getElem.mp e
    show (m.convoys.getD i none).isSome = false
    rw [List.getD_eq_getElem?_getD, List.getElem?_eq_getElem h1]
    show (m.convoys[i]).isSome = false
    cases q : m.convoys[i] with
    | none => rfl
    | some c => rw [q] at h2; cases h2
theorem ret_send {a : Adr} {H H4 : Hp} {net v c lc : Addr} {m : Kqv6.Map_} {fp bs : List Addr} {t : Nat} {ps : List Nat} (S : StateAt a H net m fp) {l d : Addr} {as : List Addr} {ks : List Nat} {ca cl : Nat → Addr} {cs : Nat → List Addr} (hP : Parts a H net l d as ks ca cl cs m) (efp : fp = net :: l :: d :: a.P1 :: a.P2 :: (as ++ cvs ks ca cl cs))
    (s4 : Same H H4) (hc : ConvAt a.CC a.CS H4 c lc bs t (Kqv6.times m t ps)) (f1 : H c = none) (f2 : H lc = none) (f3 : ∀ b ∈ bs, H b = none) (hps : ∀ r ∈ ps, r < m.roads.length) (hlen : ps.length < 100) (hfew : ks.length ≠ 8)
    (hv : upd H4 d (.dK (putK (cd ks ca) (Sum.inl ((Kqv6.slot m.convoys : Nat) : Int)) (.ref c))) v = none) (ans : List Int) :
    ∃ fp', Ret a H (upd (upd H4 d (.dK (putK (cd ks ca) (Sum.inl ((Kqv6.slot m.convoys : Nat) : Int)) (.ref c)))) v (.lst (ans.map V.int))) fp fp' v net { m with convoys := Kqv6.putIn m.convoys ⟨t, ps⟩ } ans := by
  generalize en : Kqv6.slot m.convoys = n at hv
  have hC := hP.conv
  have ap := hP.apart
  have nks : n ∉ ks := fun z => by
    have := (hC.mem n).mp z
    rw [← en, slot_free] at this
    cases this
  rw [cd_put nks] at hv ⊢
  have hd4 : H4 d = some (.dK (cd ks ca)) := s4 _ _ hC.dict
  have nvd : v ≠ d := fun z => by rw [z, upd_same] at hv; cases hv
  have hv4 : H4 v = none := by rw [upd_ne nvd] at hv; exact hv
  have hv0 : H v = none := s4.free hv4
  have k4 : ∀ b o, H4 b = some o → b ≠ d → upd (upd H4 d (.dK (cd (ks ++ [n]) (setAt ca n c)))) v (.lst (ans.map V.int)) b = some o := fun b o e hb => by
    rw [upd_ne (ne_of_none e hv4), upd_ne hb]; exact e
  have kd : upd (upd H4 d (.dK (cd (ks ++ [n]) (setAt ca n c)))) v (.lst (ans.map V.int)) d = some (.dK (cd (ks ++ [n]) (setAt ca n c))) := by rw [upd_ne nvd.symm, upd_same]
  have kv : upd (upd H4 d (.dK (cd (ks ++ [n]) (setAt ca n c)))) v (.lst (ans.map V.int)) v = some (.lst (ans.map V.int)) := upd_same
  generalize upd (upd H4 d (.dK (cd (ks ++ [n]) (setAt ca n c)))) v (.lst (ans.map V.int)) = H' at k4 kd kv
  have k0 : ∀ b o, H b = some o → b ≠ d → H' b = some o := fun b o e hb => k4 b o (s4 b o e) hb
  obtain ⟨dn, hN⟩ := hP.net
  have ndc : ∀ b, (b = c ∨ b = lc ∨ b ∈ bs) → b ≠ d := fun b hb z => by
    have hd := hC.dict
    rw [← z] at hd
    rcases hb with rfl | rfl | hb
    · rw [f1] at hd; cases hd
    · rw [f2] at hd; cases hd
    · rw [f3 b hb] at hd; cases hd
  have fine' : Fine { m with convoys := Kqv6.putIn m.convoys ⟨t, ps⟩ }.roads { m with convoys := Kqv6.putIn m.convoys ⟨t, ps⟩ }.places := S.fine
  have ne_n : ∀ k ∈ ks, k ≠ n := fun k hk z => nks (by rw [← z]; exact hk)
  have mem' : ∀ b, b ∈ cvs (ks ++ [n]) (setAt ca n c) (setAt cl n lc) (setAt cs n bs) ↔ b ∈ cvs ks ca cl cs ∨ (b = c ∨ b = lc ∨ b ∈ bs) := fun b => by
    rw [mem_cvs, mem_cvs]
    constructor
    · rintro ⟨k, hk, hb⟩
      rcases List.mem_append.mp hk with q | q
      · rw [setAt_ne (ne_n k q), setAt_ne (ne_n k q), setAt_ne (ne_n k q)] at hb
        exact .inl ⟨k, q, hb⟩
      · obtain rfl : k = n := by simpa using q
        rw [setAt_same, setAt_same, setAt_same] at hb
        exact .inr hb
    · rintro (⟨k, hk, hb⟩ | hb)
      · refine ⟨k, List.mem_append_left _ hk, ?_⟩
        rw [setAt_ne (ne_n k hk), setAt_ne (ne_n k hk), setAt_ne (ne_n k hk)]
        exact hb
      · refine ⟨n, by simp, ?_⟩
        rw [setAt_same, setAt_same, setAt_same]
        exact hb
  have hsub : ∀ b ∈ net :: l :: d :: a.P1 :: a.P2 :: (as ++ cvs (ks ++ [n]) (setAt ca n c) (setAt cl n lc) (setAt cs n bs)), b ∈ fp ∨ (b = c ∨ b = lc ∨ b ∈ bs) := fun b hb => by
    rw [efp]
    simp only [List.mem_cons, List.mem_append, mem'] at hb ⊢
    rcases hb with z | z | z | z | z | z | z | z
    · exact .inl (.inl z)
    · exact .inl (.inr (.inl z))
    · exact .inl (.inr (.inr (.inl z)))
    · exact .inl (.inr (.inr (.inr (.inl z))))
    · exact .inl (.inr (.inr (.inr (.inr (.inl z)))))
    · exact .inl (.inr (.inr (.inr (.inr (.inr (.inl z))))))
    · exact .inl (.inr (.inr (.inr (.inr (.inr (.inr z))))))
    · exact .inr z
  refine ⟨net :: l :: d :: a.P1 :: a.P2 :: (as ++ cvs (ks ++ [n]) (setAt ca n c) (setAt cl n lc) (setAt cs n bs)), hv0, kv, ⟨⟨l, d, as, ks ++ [n], setAt ca n c, setAt cl n lc, setAt cs n bs, ⟨⟨dn, k0 _ _ hN ap.dn.symm⟩, ⟨k0 _ _ hP.roads.lst ap.dl.symm, hP.roads.nd, hP.roads.len, fun j b r e1 e2 => ?_⟩, ⟨kd, ?_, ?_, fun k => ?_, fun k e he => ?_, fun k e he => ?_⟩, fun k hk => ?_⟩, rfl⟩, fine', ?_, ?_⟩, fun hb => ?_, fun b hb => ?_, fun b o e hb => k0 b o e fun z => hb ?_⟩
  · obtain ⟨dx, e⟩ := hP.roads.at_ j b r e1 e2
    exact ⟨dx, k0 _ _ e (ap.ad b (List.mem_of_getElem? e1))⟩
  · exact nd_snoc hC.nd nks
  · rw [List.length_append]
    have := hC.few
    show ks.length + 1 ≤ 8
    omega
  · rw [isAt_put, en, List.mem_append, hC.mem]
    by_cases z : k = n
    · rw [if_pos z]; simp [z]
    · rw [if_neg z]; simp [z]
  · have he : (Kqv6.putIn m.convoys ⟨t, ps⟩).getD k none = some e := he
    rw [Bend.putIn_get, en] at he
    by_cases z : k = n
    · rw [if_pos z] at he
      cases he
      rw [z, setAt_same, setAt_same, setAt_same]
      have es : Kqv6.spans { m with convoys := Kqv6.putIn m.convoys ⟨t, ps⟩ } ⟨t, ps⟩ = Kqv6.times m t ps := Bend.times_congr _ fun r _ => rfl
      rw [es]
      exact hc.keep fun b o q hb => k4 b o q (ndc b hb)
    · rw [if_neg z] at he
      rw [setAt_ne z, setAt_ne z, setAt_ne z]
      have es : Kqv6.spans { m with convoys := Kqv6.putIn m.convoys ⟨t, ps⟩ } e = Kqv6.spans m e := Bend.times_congr _ fun r _ => rfl
      rw [es]
      have hk : k ∈ ks := (hC.mem k).mpr (isAt_of he)
      exact (hC.at_ k e he).keep fun b o q hb => k0 b o q (ap.cd b (mem_cvs.mpr ⟨k, hk, hb⟩))
  · have he : (Kqv6.putIn m.convoys ⟨t, ps⟩).getD k none = some e := he
    rw [Bend.putIn_get, en] at he
    by_cases z : k = n
    · rw [if_pos z] at he
      cases he
      exact ⟨hps, hlen⟩
    · rw [if_neg z] at he
      exact hC.ok k e he
  · rcases List.mem_append.mp hk with q | q
    · rw [setAt_ne (ne_n k q)]
      exact hP.sep k q
    · obtain rfl : k = n := by simpa using q
      rw [setAt_same]
      exact fun z => by rw [z, hP.roads.lst] at f2; cases f2
  · exact lamTab_but S.t1 hC.dict (by intro ps z; cases z) (by intro o u z; cases z) k0
  · exact lamTab_but S.t2 hC.dict (by intro ps z; cases z) (by intro o u z; cases z) k0
  · rcases hsub v hb with z | z
    · obtain ⟨o, e⟩ := S.some v z
      rw [hv0] at e; cases e
    · have : ∃ o, H4 v = some o := by
        rcases z with z | z | z
        · rw [z]; obtain ⟨dx, e⟩ := hc.obj; exact ⟨_, e⟩
        · rw [z]; exact ⟨_, hc.lst⟩
        · obtain ⟨j, hj⟩ := List.getElem?_of_mem z
          obtain ⟨x, _, dx, e⟩ := hc.get hj
          exact ⟨_, e⟩
      obtain ⟨o, e⟩ := this
      rw [hv4] at e; cases e
  · rcases hsub b hb with z | z
    · exact .inl z
    · right
      rcases z with z | z | z
      · rw [z]; exact f1
      · rw [z]; exact f2
      · exact f3 b z
  · rw [efp, z]
    simp
theorem ret_drop {a : Adr} {H : Hp} {net v : Addr} {m : Kqv6.Map_} {fp : List Addr} {n : Nat} (S : StateAt a H net m fp) {l d : Addr} {as : List Addr} {ks : List Nat} {ca cl : Nat → Addr} {cs : Nat → List Addr} (hP : Parts a H net l d as ks ca cl cs m) (efp : fp = net :: l :: d :: a.P1 :: a.P2 :: (as ++ cvs ks ca cl cs))
    (hv : upd H d (.dK (dropK (cd ks ca) (Sum.inl (n : Int)))) v = none) (ans : List Int) :
    ∃ fp', Ret a H (upd (upd H d (.dK (dropK (cd ks ca) (Sum.inl (n : Int))))) v (.lst (ans.map V.int))) fp fp' v net { m with convoys := m.convoys.set n none } ans := by
  have hC := hP.conv
  have ap := hP.apart
  rw [cd_drop] at hv ⊢
  have nvd : v ≠ d := fun z => by rw [z, upd_same] at hv; cases hv
  have hv0 : H v = none := by rw [upd_ne nvd] at hv; exact hv
  have k0 : ∀ b o, H b = some o → b ≠ d → upd (upd H d (.dK (cd (ks.filter fun k => k != n) ca))) v (.lst (ans.map V.int)) b = some o := fun b o e hb => by
    rw [upd_ne (ne_of_none e hv0), upd_ne hb]; exact e
  have kd : upd (upd H d (.dK (cd (ks.filter fun k => k != n) ca))) v (.lst (ans.map V.int)) d = some (.dK (cd (ks.filter fun k => k != n) ca)) := by rw [upd_ne nvd.symm, upd_same]
  have kv : upd (upd H d (.dK (cd (ks.filter fun k => k != n) ca))) v (.lst (ans.map V.int)) v = some (.lst (ans.map V.int)) := upd_same
  generalize upd (upd H d (.dK (cd (ks.filter fun k => k != n) ca))) v (.lst (ans.map V.int)) = H' at k0 kd kv
  obtain ⟨dn, hN⟩ := hP.net
  have get' : ∀ k, (m.convoys.set n none).getD k none = if k = n then none else m.convoys.getD k none := fun k => Bend.set_get _ _ _
  have hsub : ∀ b ∈ net :: l :: d :: a.P1 :: a.P2 :: (as ++ cvs (ks.filter fun k => k != n) ca cl cs), b ∈ fp := fun b hb => by
    rw [efp]
    simp only [List.mem_cons, List.mem_append] at hb ⊢
    rcases hb with z | z | z | z | z | z | z
    · exact .inl z
    · exact .inr (.inl z)
    · exact .inr (.inr (.inl z))
    · exact .inr (.inr (.inr (.inl z)))
    · exact .inr (.inr (.inr (.inr (.inl z))))
    · exact .inr (.inr (.inr (.inr (.inr (.inl z)))))
    · obtain ⟨k, hk, hb⟩ := mem_cvs.mp z
      exact .inr (.inr (.inr (.inr (.inr (.inr (mem_cvs.mpr ⟨k, (List.mem_filter.mp hk).1, hb⟩))))))
  refine ⟨net :: l :: d :: a.P1 :: a.P2 :: (as ++ cvs (ks.filter fun k => k != n) ca cl cs), hv0, kv, ⟨⟨l, d, as, ks.filter (fun k => k != n), ca, cl, cs, ⟨⟨dn, k0 _ _ hN ap.dn.symm⟩, ⟨k0 _ _ hP.roads.lst ap.dl.symm, hP.roads.nd, hP.roads.len, fun j b r e1 e2 => ?_⟩, ⟨kd, ?_, ?_, fun k => ?_, fun k e he => ?_, fun k e he => ?_⟩, fun k hk => hP.sep k (List.mem_filter.mp hk).1⟩, rfl⟩, S.fine, ?_, ?_⟩, fun hb => ?_, fun b hb => .inl (hsub b hb), fun b o e hb => k0 b o e fun z => hb ?_⟩
  · obtain ⟨dx, e⟩ := hP.roads.at_ j b r e1 e2
    exact ⟨dx, k0 _ _ e (ap.ad b (List.mem_of_getElem? e1))⟩
  · exact hC.nd.filter _
  · exact Nat.le_trans (List.length_filter_le _ _) hC.few
  · rw [List.mem_filter, hC.mem]
    unfold Bend.isAt
    show _ ↔ ((m.convoys.set n none).getD k none).isSome = true
    rw [get']
    by_cases z : k = n
    · rw [if_pos z]; simp [z]
    · rw [if_neg z]; simp [z]
  · have he : (m.convoys.set n none).getD k none = some e := he
    rw [get'] at he
    by_cases z : k = n
    · rw [if_pos z] at he; cases he
    · rw [if_neg z] at he
      have es : Kqv6.spans { m with convoys := m.convoys.set n none } e = Kqv6.spans m e := Bend.times_congr _ fun r _ => rfl
      rw [es]
      have hk : k ∈ ks := (hC.mem k).mpr (isAt_of he)
      exact (hC.at_ k e he).keep fun b o q hb => k0 b o q (ap.cd b (mem_cvs.mpr ⟨k, hk, hb⟩))
  · have he : (m.convoys.set n none).getD k none = some e := he
    rw [get'] at he
    by_cases z : k = n
    · rw [if_pos z] at he; cases he
    · rw [if_neg z] at he
      exact hC.ok k e he
  · exact lamTab_but S.t1 hC.dict (by intro ps z; cases z) (by intro o u z; cases z) k0
  · exact lamTab_but S.t2 hC.dict (by intro ps z; cases z) (by intro o u z; cases z) k0
  · obtain ⟨o, e⟩ := S.some v (hsub v hb)
    rw [hv0] at e; cases e
  · rw [efp, z]
    simp
section
variable {P : Program} {w : World} {K : PySem.W.Frag} {mg : Str → Option Value} {base : Heap}
def gSoon : Kqv6.Map_ → List Nat → Kqv6.Map_ × List Int := fun m xs => match xs with
  | [p, q, l, h, wt, t] => (m, if Kqv6.okEnds m p q = false then [-2] else if Kqv6.okLoad ⟨l, h, wt⟩ = false ∨ 5000 < t then [-22] else match Kqv6.way m.roads m.places ⟨l, h, wt⟩ p q with
    | none => [-33]
    | some z => match Kqv6.soonest m z.2 t with
      | none => [-33]
      | some u => [(u : Int), ((u + z.1 : Nat) : Int)])
  | _ => (m, [])
theorem scASoon : FnScope ["network", "p", "q", "length", "height", "weight", "t", "load", "refusal", "way", "sets_out"] ["network", "p", "q", "length", "height", "weight", "t"] (defScope sASoon) := ⟨rfl, rfl, rfl, by decide +kernel, rfl, by decide +kernel, by decide +kernel⟩
set_option maxHeartbeats 4000000 in
theorem ok_aSoon {a : Adr} {f : Addr} {fd : FuncData} (F : Fun K "answer_soonest" "answer_soonest" sASoon f fd) (g : Known P w K mg base a) : FnOk P w K mg base CX0 5 f fd ["network", "p", "q", "length", "height", "weight", "t"] (spHand a 6 gSoon) := by
  refine F.ok scASoon (spHand_len rfl) (fun cdv A outer s H vs Q E hr h => ?_)
  obtain ⟨net, m, fp, xs, rfl, hl, S, k⟩ := h
  obtain ⟨p, q, l, h, wt, t, rfl⟩ := len6 hl
  obtain ⟨fI, fdI, GI, MI, mI, bI⟩ := g.load
  obtain ⟨fR, fdR, GR, mR, kR, bR⟩ := g.rstart
  obtain ⟨fQ, fdQ, GQ, mQ, kQ, bQ⟩ := g.quick
  obtain ⟨fF, fdF, GF, mF, kF, bF⟩ := g.first
  have r2 : Room 2 _ := hr.mono (by decide)
  have r3 : Room 3 _ := hr.mono (by decide)
  obtain ⟨ll, dd, as, ks, ca, cl, cs, hP, efp⟩ := id S.ex
  obtain ⟨dx, hN⟩ := id hP.net
  have hR := hP.roads
  refine ⟨_, pss_cons (ps_set (i := 7) scASoon.nd rfl (Or.inl rfl) (pe_make MI GI r2 rfl mI bI .nil pass0 (pa_cons (pv 3) (pa_cons (pv 4) (pa_cons (pv 5) pa_nil)))))
    (pss_cons (ps_set (i := 8) scASoon.nd rfl (Or.inl rfl) (pe_call GR r3 rfl mR kR bR .nil pass0 (pa_cons (pv 0) (pa_cons (pv 1) (pa_cons (pv 2) (pa_cons (pv 7) (pa_cons (pv 6) pa_nil)))))))
    (pss_cons (ps_if (pt_cmpR op_notN (pv 8) pe_non (nomark _)) (pss_one (ps_ret (pe_lst (pa_cons (pv 8) pa_nil)))) pss_nil)
    (pss_cons (ps_set (i := 9) scASoon.nd rfl (Or.inl rfl) (pe_call GQ hr rfl mQ kQ bQ .nil pass0 (pa_cons (pv 0) (pa_cons (pv 1) (pa_cons (pv 2) (pa_cons (pv 7) pa_nil))))))
    (pss_cons (ps_if (pt_cmpR op_isN (pv 9) pe_non (nomark _)) (pss_one (ps_ret (pe_lst (pa_cons (pe_ci rfl g.c33) pa_nil)))) pss_nil)
    (pss_cons (ps_set (i := 10) scASoon.nd rfl (Or.inl rfl) (pe_call GF hr rfl mF kF bF .nil pass0 (pa_cons (pv 0) (pa_cons (pe_ix ix_tup (pv 9) pe_int (fun _ _ => rfl)) (pa_cons (pv 6) pa_nil)))))
    (pss_one (ps_ret (pe_lst (pa_cons (pv 10) (pa_cons (pe_op op_add (pv 10) (pe_ix ix_tup (pv 9) pe_int (fun _ _ => rfl))) pa_nil)))))))))), ?_⟩
  refine ⟨_, rfl, _, rfl, _, rfl, fun x0 d0 n0 m0 e0 => ⟨x0, d0, ⟨l, h, wt⟩, rfl, upd_same, fun H1 hL1 kp => ⟨rfl, ?_⟩⟩⟩
  have s1 : Same H H1 := Same.made n0 m0 kp
  have fin : ∀ (H2 : Hp) (zs : List Int) (v : Addr), Same H H2 → H2 v = none → (gSoon m [p, q, l, h, wt, t]).2 = zs → Q (.ref v) (upd H2 v (.lst (zs.map V.int))) := fun H2 zs v s2 hv e => k _ fp v (by
    rw [e]
    exact ret_same S s2 hv zs)
  have hg2 : (gSoon m [p, q, l, h, wt, t]).2 = if Kqv6.okEnds m p q = false then [-2] else if Kqv6.okLoad ⟨l, h, wt⟩ = false ∨ 5000 < t then [-22] else match Kqv6.way m.roads m.places ⟨l, h, wt⟩ p q with
    | none => [-33]
    | some z => match Kqv6.soonest m z.2 t with
      | none => [-33]
      | some u => [(u : Int), ((u + z.1 : Nat) : Int)] := rfl
  rw [hg2] at fin
  refine ⟨_, rfl, _, rfl, _, rfl, _, rfl, _, rfl, net, x0, ll, m, p, q, t, ⟨l, h, wt⟩, rfl, ⟨dd, dx, s1 _ _ hN⟩, hL1, ?_⟩
  cases er : refS m p q ⟨l, h, wt⟩ t with
  | some z => exact ⟨_, rfl, rfl, _, rfl, iteT ⟨_, rfl, zL1, fun v hv => fin H1 [z] v s1 hv (refS_some er (fun z => [z]) _)⟩⟩
  | none =>
    obtain ⟨he, ho⟩ := refS_none er
    have hp := (okEnds_lt he).1
    have hol := okLoad_long (okLoad_true fun z => ho (.inl z))
    refine ⟨_, rfl, rfl, _, rfl, iteF ⟨_, rfl, _, rfl, _, rfl, _, rfl, net, x0, ll, m.places, p, q, as, m.roads, ⟨l, h, wt⟩, rfl, ⟨dd, dx, s1 _ _ hN⟩, hR.same s1, S.fine, hL1, hol.1, hp, fun H2 s2 => ⟨fun ew => ?_, fun z tz ew ht => ?_⟩⟩⟩
    · refine ⟨_, rfl, rfl, _, rfl, iteT ⟨zL1, fun v hv => fin H2 [-33] v (s1.trans s2) hv ?_⟩⟩
      rw [if_neg he, if_neg ho, ew]
    · obtain ⟨lz, ht1, ht2⟩ := ht
      have hsh := way_short S.fine hp ew
      have s12 := s1.trans s2
      refine ⟨_, rfl, rfl, _, rfl, iteF ⟨_, rfl, _, rfl, tz, _, _, _, rfl, rfl, SqT.of ht1, rfl, _, rfl, net, lz, ll, dd, t, z.2, as, m, ks, ca, cl, cs, rfl, ⟨dx, s12 _ _ hN⟩, hR.same s12, hP.conv.same s12, ht2, Bend.way_roads S.fine.ok hp ew, by omega, fun H3 u s3 hu => ?_⟩⟩
      refine ⟨_, rfl, _, rfl, _, rfl, tz, _, _, _, rfl, rfl, SqT.of (s3 _ _ ht1), rfl, _, _, rfl, rfl, zL2, fun v hv => ?_⟩
      have eu : ((u : Int) + (z.1 : Int)) = ((u + z.1 : Nat) : Int) := by omega
      have kk := fin H3 [(u : Int), ((u + z.1 : Nat) : Int)] v (s12.trans s3) hv (by rw [if_neg he, if_neg ho, ew]; dsimp only; rw [hu])
      rw [← eu] at kk
      exact kk
def gSend : Kqv6.Map_ → List Nat → Kqv6.Map_ × List Int := fun m xs => match xs with
  | [p, q, l, h, wt, t] => if Kqv6.okEnds m p q = false then (m, [-2]) else if Kqv6.okLoad ⟨l, h, wt⟩ = false ∨ 5000 < t then (m, [-22]) else match Kqv6.way m.roads m.places ⟨l, h, wt⟩ p q with
    | none => (m, [-33])
    | some z => if Kqv6.free m ⟨t, z.2⟩ = false then (m, [-17]) else if 8 ≤ (Kqv6.all m).length then (m, [-28]) else ({ m with convoys := Kqv6.putIn m.convoys ⟨t, z.2⟩ }, [((Kqv6.slot m.convoys : Nat) : Int), ((t + z.1 : Nat) : Int)])
  | _ => (m, [])
theorem scASend : FnScope ["network", "p", "q", "length", "height", "weight", "t", "load", "refusal", "way", "convoy", "number"] ["network", "p", "q", "length", "height", "weight", "t"] (defScope sASend) := ⟨rfl, rfl, rfl, by decide +kernel, rfl, by decide +kernel, by decide +kernel⟩
set_option maxHeartbeats 8000000 in
theorem ok_aSend {a : Adr} {f : Addr} {fd : FuncData} (F : Fun K "answer_send" "answer_send" sASend f fd) (g : Known P w K mg base a) : FnOk P w K mg base CX0 5 f fd ["network", "p", "q", "length", "height", "weight", "t"] (spHand a 6 gSend) := by
  refine F.ok scASend (spHand_len rfl) (fun cdv A outer s H vs Q E hr h => ?_)
  obtain ⟨net, m, fp, xs, rfl, hl, S, k⟩ := h
  obtain ⟨p, q, l, h, wt, t, rfl⟩ := len6 hl
  obtain ⟨fI, fdI, GI, MI, mI, bI⟩ := g.load
  obtain ⟨fR, fdR, GR, mR, kR, bR⟩ := g.rstart
  obtain ⟨fQ, fdQ, GQ, mQ, kQ, bQ⟩ := g.quick
  obtain ⟨fB, fdB, GB, mB, kB, bB⟩ := g.cby
  obtain ⟨fW, fdW, GW, mW, kW, bW⟩ := g.lwait
  obtain ⟨fL, fdL, GL, mL, kL, bL⟩ := g.least
  have hu := hu_of hr
  have r1 : Room 1 _ := hr.mono (by decide)
  have r2 : Room 2 _ := hr.mono (by decide)
  have r3 : Room 3 _ := hr.mono (by decide)
  obtain ⟨ll, dd, as, ks, ca, cl, cs, hP, efp⟩ := id S.ex
  obtain ⟨dx, hN⟩ := id hP.net
  have hR := hP.roads
  have hC := hP.conv
  refine ⟨_, pss_cons (ps_set (i := 7) scASend.nd rfl (Or.inl rfl) (pe_make MI GI r2 rfl mI bI .nil pass0 (pa_cons (pv 3) (pa_cons (pv 4) (pa_cons (pv 5) pa_nil)))))
    (pss_cons (ps_set (i := 8) scASend.nd rfl (Or.inl rfl) (pe_call GR r3 rfl mR kR bR .nil pass0 (pa_cons (pv 0) (pa_cons (pv 1) (pa_cons (pv 2) (pa_cons (pv 7) (pa_cons (pv 6) pa_nil)))))))
    (pss_cons (ps_if (pt_cmpR op_notN (pv 8) pe_non (nomark _)) (pss_one (ps_ret (pe_lst (pa_cons (pv 8) pa_nil)))) pss_nil)
    (pss_cons (ps_set (i := 9) scASend.nd rfl (Or.inl rfl) (pe_call GQ hr rfl mQ kQ bQ .nil pass0 (pa_cons (pv 0) (pa_cons (pv 1) (pa_cons (pv 2) (pa_cons (pv 7) pa_nil))))))
    (pss_cons (ps_if (pt_cmpR op_isN (pv 9) pe_non (nomark _)) (pss_one (ps_ret (pe_lst (pa_cons (pe_ci rfl g.c33) pa_nil)))) pss_nil)
    (pss_cons (ps_set (i := 10) scASend.nd rfl (Or.inl rfl) (pe_call GB r3 rfl mB kB bB .nil pass0 (pa_cons (pv 0) (pa_cons (pe_ix ix_tup (pv 9) pe_int (fun _ _ => rfl)) (pa_cons (pv 6) pa_nil)))))
    (pss_cons (ps_if (pt_cmpR op_gt (pe_call GW r3 rfl mW kW bW .nil pass0 (pa_cons (pv 0) (pa_cons (pv 10) pa_nil))) pe_int (nomark _)) (pss_one (ps_ret (pe_lst (pa_cons (pe_ci rfl g.c17) pa_nil)))) pss_nil)
    (pss_cons (ps_if (pt_cmpR op_eq (pe_callB call_lenD (by rfl) g.len PySem.boot_len (pa_cons (pe_fld (pv 0) rfl) pa_nil)) (pe_ci rfl g.most8) (nomark _)) (pss_one (ps_ret (pe_lst (pa_cons (pe_ci rfl g.c28) pa_nil)))) pss_nil)
    (pss_cons (ps_set (i := 11) scASend.nd rfl (Or.inl rfl) (pe_call GL r1 rfl mL kL bL .nil pass0 (pa_cons (pv 0) pa_nil)))
    (pss_cons (ps_dput hu (pe_fld (pv 0) rfl) (pv 11) (pv 10) rfl)
    (pss_one (ps_ret (pe_lst (pa_cons (pv 11) (pa_cons (pe_op op_add (pv 6) (pe_ix ix_tup (pv 9) pe_int (fun _ _ => rfl))) pa_nil)))))))))))))), ?_⟩
  refine ⟨_, rfl, _, rfl, _, rfl, fun x0 d0 n0 m0 e0 => ⟨x0, d0, ⟨l, h, wt⟩, rfl, upd_same, fun H1 hL1 kp => ⟨rfl, ?_⟩⟩⟩
  have s1 : Same H H1 := Same.made n0 m0 kp
  have hg2 : gSend m [p, q, l, h, wt, t] = if Kqv6.okEnds m p q = false then (m, [-2]) else if Kqv6.okLoad ⟨l, h, wt⟩ = false ∨ 5000 < t then (m, [-22]) else match Kqv6.way m.roads m.places ⟨l, h, wt⟩ p q with
    | none => (m, [-33])
    | some z => if Kqv6.free m ⟨t, z.2⟩ = false then (m, [-17]) else if 8 ≤ (Kqv6.all m).length then (m, [-28]) else ({ m with convoys := Kqv6.putIn m.convoys ⟨t, z.2⟩ }, [((Kqv6.slot m.convoys : Nat) : Int), ((t + z.1 : Nat) : Int)]) := rfl
  rw [hg2] at k
  refine ⟨_, rfl, _, rfl, _, rfl, _, rfl, _, rfl, net, x0, ll, m, p, q, t, ⟨l, h, wt⟩, rfl, ⟨dd, dx, s1 _ _ hN⟩, hL1, ?_⟩
  cases er : refS m p q ⟨l, h, wt⟩ t with
  | some z =>
    rw [refS_some er (fun z => (m, [z])) _] at k
    exact ⟨_, rfl, rfl, _, rfl, iteT ⟨_, rfl, zL1, fun v hv => k _ fp v (ret_same S s1 hv [z])⟩⟩
  | none =>
    obtain ⟨he, ho⟩ := refS_none er
    rw [if_neg he, if_neg ho] at k
    have hp := (okEnds_lt he).1
    have hol := okLoad_long (okLoad_true fun z => ho (.inl z))
    refine ⟨_, rfl, rfl, _, rfl, iteF ⟨_, rfl, _, rfl, _, rfl, _, rfl, net, x0, ll, m.places, p, q, as, m.roads, ⟨l, h, wt⟩, rfl, ⟨dd, dx, s1 _ _ hN⟩, hR.same s1, S.fine, hL1, hol.1, hp, fun H2 s2 => ⟨fun ew => ?_, fun z tz ew ht => ?_⟩⟩⟩
    · rw [ew] at k
      exact ⟨_, rfl, rfl, _, rfl, iteT ⟨zL1, fun v hv => k _ fp v (ret_same S (s1.trans s2) hv [-33])⟩⟩
    · rw [ew] at k
      dsimp only at k
      obtain ⟨lz, ht1, ht2⟩ := ht
      have hsh := way_short S.fine hp ew
      have hrd := Bend.way_roads S.fine.ok hp ew
      have s12 := s1.trans s2
      refine ⟨_, rfl, rfl, _, rfl, iteF ⟨_, rfl, _, rfl, tz, _, _, _, rfl, rfl, SqT.of ht1, rfl, _, rfl, net, lz, ll, t, z.2, as, m, rfl, ⟨dd, dx, s12 _ _ hN⟩, hR.same s12, ht2, hrd, by omega, fun H3 c lc bs s3 f1 f2 f3 hc => ?_⟩⟩
      have s13 := s12.trans s3
      have f1' : H c = none := s12.free f1
      have f2' : H lc = none := s12.free f2
      have f3' : ∀ b ∈ bs, H b = none := fun b hb => s12.free (f3 b hb)
      refine ⟨_, rfl, _, rfl, net, c, lc, ll, dd, bs, t, z.2, m, ks, ca, cl, cs, rfl, ⟨dx, s13 _ _ hN⟩, hC.same s13, hc, by omega, fun H4 n s4 hw => ?_⟩
      have s14 := s13.trans s4
      have hc4 := hc.same s4
      refine ⟨_, _, rfl, rfl, _, rfl, ite2 (fun cc => ?_) (fun cc => ?_)⟩
      · have hpos : 0 < n := by have := of_decide_eq_true cc; omega
        have hfree : Kqv6.free m ⟨t, z.2⟩ = false := Bool.eq_false_iff.mpr fun q => by have := hw.zero.mpr q; omega
        rw [if_pos hfree] at k
        exact ⟨zL1, fun v hv => k _ fp v (ret_same S s14 hv [-17])⟩
      · have hz : n = 0 := by
          have : ¬ (0 : Int) < n := fun q => cc (decide_eq_true q)
          omega
        have hfree := hw.zero.mp hz
        rw [if_neg (by rw [hfree]; decide)] at k
        have hd4 : H4 dd = some (.dK (cd ks ca)) := s14 _ _ hC.dict
        have hal := Bend.all_length hC.nd hC.mem
        refine ⟨_, rfl, net, a.CN, dx, _, _, rfl, s14 _ _ hN, g.TN.cl, g.TN.no _ (by simp), rfl, dd, _, rfl, hd4, rfl, _, rfl, ?_⟩
        rw [cd_length]
        refine ite2 (fun c8 => ?_) (fun c8 => ?_)
        · have c8 : ks.length = 8 := by have := V.int.inj (of_decide_eq_true c8); omega
          rw [if_pos (by omega)] at k
          exact ⟨zL1, fun v hv => k _ fp v (ret_same S s14 hv [-28])⟩
        · have c8 : ¬ ks.length = 8 := fun q => c8 (decide_eq_true (by rw [q]; rfl))
          have := hC.few
          rw [if_neg (by omega)] at k
          refine ⟨_, rfl, net, ll, dd, m, ks, ca, cl, cs, rfl, ⟨dx, s14 _ _ hN⟩, hC.same s14, ?_⟩
          refine ⟨_, rfl, _, rfl, net, a.CN, dx, _, _, rfl, s14 _ _ hN, g.TN.cl, g.TN.no _ (by simp), rfl, _, rfl, dd, _, rfl, DPut.k (k := Sum.inl ((Kqv6.slot m.convoys : Nat) : Int)) hd4 (by rw [cd_length]; exact Nat.lt_of_le_of_lt hC.few (by decide)), ?_⟩
          have nt : tz ≠ dd := ne_of (s4 _ _ (s3 _ _ ht1)) hd4 (by intro q; cases q)
          refine ⟨_, rfl, _, rfl, _, rfl, tz, _, _, _, rfl, rfl, SqT.of (by rw [upd_ne nt]; exact s4 _ _ (s3 _ _ ht1)), rfl, _, _, rfl, rfl, zL2, fun v hv => ?_⟩
          have eu : ((t : Int) + (z.1 : Int)) = ((t + z.1 : Nat) : Int) := by omega
          obtain ⟨fp', R⟩ := ret_send S hP efp s14 hc4 f1' f2' f3' hrd (by omega) c8 hv [((Kqv6.slot m.convoys : Nat) : Int), ((t + z.1 : Nat) : Int)]
          have kk := k _ fp' v R
          rw [← eu] at kk
          exact kk
end
end BP
end
section
namespace BP
open PySem PySem.Spec PyProof.Rows L2
open Bend (Span)
theorem times_fst (m : Kqv6.Map_) : ∀ (l : List Nat) (t : Nat), (Kqv6.times m t l).map (·.1) = l
  | [], _ => rfl
  | r :: l, t => by
    show r :: (Kqv6.times m (t + Kqv6.minutesOf m r) l).map (·.1) = r :: l
    rw [times_fst m l]
section
variable {P : Program} {w : World} {K : PySem.W.Frag} {mg : Str → Option Value} {base : Heap}
theorem cd_some {ks : List Nat} {ca : Nat → Addr} {k : Nat} : (valV (cd ks ca) (Sum.inl (k : Int))).isSome = decide (k ∈ ks) := by
  rw [cd_val]
  by_cases h : k ∈ ks
  · rw [if_pos h, decide_eq_true h]; rfl
  · rw [if_neg h, decide_eq_false h]; rfl
theorem conv_none {m : Kqv6.Map_} {k : Nat} (h : ¬ Bend.isAt m k = true) : m.convoys.getD k none = none := by
  unfold Bend.isAt at h
  cases e : m.convoys.getD k none with
  | none => rfl
  | some c => rw [e] at h; exact absurd rfl h
def gDrop : Kqv6.Map_ → List Nat → Kqv6.Map_ × List Int := fun m xs => match xs with
  | [k] => (match m.convoys.getD k none with
    | none => (m, [-2])
    | some c => ({ m with convoys := m.convoys.set k none }, [(c.minute : Int)]))
  | _ => (m, [])
theorem scADrop : FnScope ["network", "k", "convoy"] ["network", "k"] (defScope sADrop) := ⟨rfl, rfl, rfl, by decide +kernel, rfl, by decide +kernel, by decide +kernel⟩
theorem ok_aDrop {a : Adr} {f : Addr} {fd : FuncData} (F : Fun K "answer_drop" "answer_drop" sADrop f fd) (g : Known P w K mg base a) : FnOk P w K mg base CX0 2 f fd ["network", "k"] (spHand a 1 gDrop) := by
  refine F.ok scADrop (spHand_len rfl) (fun cdv A outer s H vs Q E hr h => ?_)
  obtain ⟨net, m, fp, xs, rfl, hl, S, k⟩ := h
  obtain ⟨n, rfl⟩ := len1 hl
  obtain ⟨fH, fdH, GH, mH, bH⟩ := g.hasConvoy
  obtain ⟨ll, dd, as, ks, ca, cl, cs, hP, efp⟩ := id S.ex
  obtain ⟨dx, hN⟩ := id hP.net
  have hC := hP.conv
  have ap := hP.apart
  refine ⟨_, pss_cons (ps_if (pt_not (pt_val (pe_meth (pv 0) g.TN.cl mH GH hr bH .nil pass0 (pa_cons (pv 1) pa_nil)))) (pss_one (ps_ret (pe_lst (pa_cons (pe_ci rfl g.c2) pa_nil)))) pss_nil)
    (pss_cons (ps_set (i := 2) scADrop.nd rfl (Or.inl rfl) (pe_dpop1 (pe_fld (pv 0) rfl) (pv 1) ⟨rfl, rfl, rfl, rfl⟩))
    (pss_one (ps_ret (pe_lst (pa_cons (pe_fld (pv 2) rfl) pa_nil))))), ?_⟩
  refine ⟨_, rfl, net, dx, _, rfl, hN, rfl, _, rfl, net, ll, dd, m.places, n, _, rfl, ⟨dx, hN⟩, hC.dict, _, rfl, ?_⟩
  rw [cd_some]
  have hg : gDrop m [n] = (match m.convoys.getD n none with
    | none => (m, [-2])
    | some c => ({ m with convoys := m.convoys.set n none }, [(c.minute : Int)])) := rfl
  rw [hg] at k
  by_cases hn : n ∈ ks
  · rw [decide_eq_true hn]
    obtain ⟨c, hc⟩ := isAt_some ((hC.mem n).mp hn)
    rw [hc] at k
    have hE := hC.at_ n c hc
    obtain ⟨de, oe⟩ := id hE.obj
    refine iteF ⟨_, rfl, net, a.CN, dx, _, _, rfl, hN, g.TN.cl, g.TN.no _ (by simp), rfl, dd, rfl, .inl ⟨_, .inl hC.dict⟩, _, rfl, cd ks ca, Sum.inl (n : Int), .ref (ca n), hC.dict, rfl, by rw [cd_val, if_pos hn], ?_⟩
    have nc : ca n ≠ dd := ap.cd _ (mem_cvs.mpr ⟨n, hn, .inl rfl⟩)
    refine ⟨_, rfl, ca n, a.CC, de, _, _, rfl, Eq.trans (upd_ne nc) oe, g.TC.cl, g.TC.no _ (by simp), rfl, zL1, fun v hv => ?_⟩
    obtain ⟨fp', R⟩ := ret_drop S hP efp hv [(c.minute : Int)]
    exact k _ fp' v R
  · rw [decide_eq_false hn]
    rw [conv_none (fun z => hn ((hC.mem n).mpr z))] at k
    exact iteT ⟨zL1, fun v hv => k _ fp v (ret_same S (Same.refl H) hv [-2])⟩
def gWhere : Kqv6.Map_ → List Nat → Kqv6.Map_ × List Int := fun m xs => match xs with
  | [k, t] => (m, match m.convoys.getD k none with
    | none => [-2]
    | some c => match (Kqv6.spans m c).find? (Bend.holds t) with
      | none => [-33]
      | some x => [(x.1 : Int), ((x.2.2 - t : Nat) : Int)])
  | _ => (m, [])
theorem scAWhere : FnScope ["network", "k", "t", "stretch"] ["network", "k", "t"] (defScope sAWhere) := ⟨rfl, rfl, rfl, by decide +kernel, rfl, by decide +kernel, by decide +kernel⟩
theorem ok_aWhere {a : Adr} {f : Addr} {fd : FuncData} (F : Fun K "answer_where" "answer_where" sAWhere f fd) (g : Known P w K mg base a) : FnOk P w K mg base CX0 3 f fd ["network", "k", "t"] (spHand a 2 gWhere) := by
  refine F.ok scAWhere (spHand_len rfl) (fun cdv A outer s H vs Q E hr h => ?_)
  obtain ⟨net, m, fp, xs, rfl, hl, S, k⟩ := h
  obtain ⟨n, t, rfl⟩ := len2 hl
  obtain ⟨fH, fdH, GH, mH, bH⟩ := g.hasConvoy
  obtain ⟨fI, fdI, GI, mI, bI⟩ := g.sin
  have hu := hu_of hr
  have r1 : Room 1 _ := hr.mono (by decide)
  obtain ⟨ll, dd, as, ks, ca, cl, cs, hP, efp⟩ := id S.ex
  obtain ⟨dx, hN⟩ := id hP.net
  have hC := hP.conv
  refine ⟨_, pss_cons (ps_if (pt_not (pt_val (pe_meth (pv 0) g.TN.cl mH GH r1 bH .nil pass0 (pa_cons (pv 1) pa_nil)))) (pss_one (ps_ret (pe_lst (pa_cons (pe_ci rfl g.c2) pa_nil)))) pss_nil)
    (pss_cons (ps_set (i := 3) scAWhere.nd rfl (Or.inl rfl) (pe_meth (pe_dget hu (pe_fld (pv 0) rfl) (pv 1) (fun _ _ => rfl)) g.TC.cl mI GI hr bI .nil pass0 (pa_cons (pv 2) pa_nil)))
    (pss_one (ps_ret (pe_ifExp (pt_cmpR op_isN (pv 3) pe_non (nomark _)) (pe_lst (pa_cons (pe_ci rfl g.c33) pa_nil)) (pe_lst (pa_cons (pe_fld (pv 3) rfl) (pa_cons (pe_op op_sub (pe_fld (pv 3) rfl) (pv 2)) pa_nil))))))), ?_⟩
  refine ⟨_, rfl, net, dx, _, rfl, hN, rfl, _, rfl, net, ll, dd, m.places, n, _, rfl, ⟨dx, hN⟩, hC.dict, _, rfl, ?_⟩
  rw [cd_some]
  have hg : gWhere m [n, t] = (m, match m.convoys.getD n none with
    | none => [-2]
    | some c => match (Kqv6.spans m c).find? (Bend.holds t) with
      | none => [-33]
      | some x => [(x.1 : Int), ((x.2.2 - t : Nat) : Int)]) := rfl
  rw [hg] at k
  by_cases hn : n ∈ ks
  · rw [decide_eq_true hn]
    obtain ⟨c, hc⟩ := isAt_some ((hC.mem n).mp hn)
    rw [hc] at k
    have hE := hC.at_ n c hc
    obtain ⟨de, oe⟩ := id hE.obj
    refine iteF ⟨_, rfl, net, a.CN, dx, _, _, rfl, hN, g.TN.cl, g.TN.no _ (by simp), rfl, _, rfl, dd, .ref (ca n), rfl, ?_, ca n, de, _, rfl, oe, rfl, _, rfl, ca n, cl n, cs n, c.minute, t, Kqv6.spans m c, rfl, hE, fun b x hx hf => ?_, fun hf => ?_⟩
    · have := DGet.k (H := H) (k := Sum.inl (n : Int)) hC.dict
      rw [cd_val, if_pos hn] at this
      exact this
    · obtain ⟨db, hx⟩ := hx
      dsimp only at k
      rw [hf] at k
      have hh := (Bend.holds_iff t x).mp (List.find?_some hf)
      have es : ((x.2.2 : Int) - (t : Int)) = ((x.2.2 - t : Nat) : Int) := by omega
      refine ⟨_, rfl, rfl, _, rfl, iteF ⟨_, rfl, b, a.CS, db, _, _, rfl, hx, g.TS.cl, g.TS.no _ (by simp), rfl, _, rfl, b, a.CS, db, _, _, rfl, hx, g.TS.cl, g.TS.no _ (by simp), rfl, _, rfl, _, _, rfl, rfl, zL2, fun v hv => ?_⟩⟩
      have kk := k _ fp v (ret_same S (Same.refl H) hv [(x.1 : Int), ((x.2.2 - t : Nat) : Int)])
      rw [← es] at kk
      exact kk
    · dsimp only at k
      rw [hf] at k
      exact ⟨_, rfl, rfl, _, rfl, iteT ⟨zL1, fun v hv => k _ fp v (ret_same S (Same.refl H) hv [-33])⟩⟩
  · rw [decide_eq_false hn]
    rw [conv_none (fun z => hn ((hC.mem n).mpr z))] at k
    exact iteT ⟨zL1, fun v hv => k _ fp v (ret_same S (Same.refl H) hv [-2])⟩
def gBusy : Kqv6.Map_ → List Nat → Kqv6.Map_ × List Int := fun m xs => match xs with
  | [r, t] => (m, [if m.roads.length ≤ r then -2 else optI (((Kqv6.all m).find? (onIt m r t)).map (·.1))])
  | _ => (m, [])
theorem scABusy : FnScope ["network", "r", "t"] ["network", "r", "t"] (defScope sABusy) := ⟨rfl, rfl, rfl, by decide +kernel, rfl, by decide +kernel, by decide +kernel⟩
theorem ok_aBusy {a : Adr} {f : Addr} {fd : FuncData} (F : Fun K "answer_busy" "answer_busy" sABusy f fd) (g : Known P w K mg base a) : FnOk P w K mg base CX0 4 f fd ["network", "r", "t"] (spHand a 2 gBusy) := by
  refine F.ok scABusy (spHand_len rfl) (fun cdv A outer s H vs Q E hr h => ?_)
  obtain ⟨net, m, fp, xs, rfl, hl, S, k⟩ := h
  obtain ⟨r, t, rfl⟩ := len2 hl
  obtain ⟨fH, fdH, GH, mH, bH⟩ := g.hasRoad
  obtain ⟨fO, fdO, GO, mO, kO, bO⟩ := g.con
  obtain ⟨fN, fdN, GN, mN, kN, bN⟩ := g.numOr
  have r1 : Room 1 _ := hr.mono (by decide)
  obtain ⟨ll, dd, as, ks, ca, cl, cs, hP, efp⟩ := id S.ex
  obtain ⟨dx, hN⟩ := id hP.net
  have hR := hP.roads
  refine ⟨_, pss_cons (ps_if (pt_not (pt_val (pe_meth (pv 0) g.TN.cl mH GH r1 bH .nil pass0 (pa_cons (pv 1) pa_nil)))) (pss_one (ps_ret (pe_lst (pa_cons (pe_ci rfl g.c2) pa_nil)))) pss_nil)
    (pss_one (ps_ret (pe_call GN r1 rfl mN kN bN .nil pass0 (pa_cons (pe_call GO hr rfl mO kO bO .nil pass0 (pa_cons (pv 0) (pa_cons (pv 1) (pa_cons (pv 2) pa_nil)))) pa_nil)))), ?_⟩
  refine ⟨_, rfl, net, dx, _, rfl, hN, rfl, _, rfl, net, ll, m.places, r, _, rfl, ⟨dd, dx, hN⟩, hR.lst, _, rfl, ?_⟩
  rw [List.length_map, hR.len]
  have hg : gBusy m [r, t] = (m, [if m.roads.length ≤ r then -2 else optI (((Kqv6.all m).find? (onIt m r t)).map (·.1))]) := rfl
  rw [hg] at k
  by_cases hr' : r < m.roads.length
  · rw [decide_eq_true hr']
    rw [if_neg (by omega)] at k
    refine iteF ⟨_, rfl, _, rfl, _, rfl, net, ll, dd, r, t, m, ks, ca, cl, cs, rfl, ⟨dx, hN⟩, hP.conv, fun H1 s1 => ⟨((Kqv6.all m).find? (onIt m r t)).map (fun (e : Nat × Kqv6.Convoy) => e.1), ?_, fun v hv => ?_⟩⟩
    · cases (Kqv6.all m).find? (onIt m r t) <;> rfl
    · exact k _ fp v (ret_same S s1 hv [_])
  · rw [decide_eq_false hr']
    rw [if_pos (by omega)] at k
    exact iteT ⟨zL1, fun v hv => k _ fp v (ret_same S (Same.refl H) hv [-2])⟩
def gConvoy : Kqv6.Map_ → List Nat → Kqv6.Map_ × List Int := fun m xs => match xs with
  | [k] => (m, match m.convoys.getD k none with
    | none => [-2]
    | some c => (c.minute : Int) :: c.roads.map fun (i : Nat) => (i : Int))
  | _ => (m, [])
theorem scAConvoy : FnScope ["network", "k", "convoy", "stretch"] ["network", "k"] (defScope sAConvoy) := ⟨rfl, rfl, rfl, by decide +kernel, rfl, by decide +kernel, by decide +kernel⟩
set_option maxHeartbeats 4000000 in
theorem ok_aConvoy {a : Adr} {f : Addr} {fd : FuncData} (F : Fun K "answer_convoy" "answer_convoy" sAConvoy f fd) (g : Known P w K mg base a) : FnOk P w K mg base CX0 2 f fd ["network", "k"] (spHand a 1 gConvoy) := by
  refine F.ok scAConvoy (spHand_len rfl) (fun cdv A outer s H vs Q E hr h => ?_)
  obtain ⟨net, m, fp, xs, rfl, hl, S, k⟩ := h
  obtain ⟨n, rfl⟩ := len1 hl
  obtain ⟨fH, fdH, GH, mH, bH⟩ := g.hasConvoy
  have hu := hu_of hr
  obtain ⟨ll, dd, as, ks, ca, cl, cs, hP, efp⟩ := id S.ex
  obtain ⟨dx, hN⟩ := id hP.net
  have hC := hP.conv
  refine ⟨_, pss_cons (ps_if (pt_not (pt_val (pe_meth (pv 0) g.TN.cl mH GH hr bH .nil pass0 (pa_cons (pv 1) pa_nil)))) (pss_one (ps_ret (pe_lst (pa_cons (pe_ci rfl g.c2) pa_nil)))) pss_nil)
    (pss_cons (ps_set (i := 2) scAConvoy.nd rfl (Or.inl rfl) (pe_dget hu (pe_fld (pv 0) rfl) (pv 1) (fun _ _ => rfl)))
    (pss_one (ps_ret (pe_op op_cat (pe_lst (pa_cons (pe_fld (pv 2) rfl) pa_nil)) (pe_lc (own := [("stretch", 3)]) (g := gName 3) (te := tFld K (tVar 3) "road_number") rfl scAConvoy.nd (pi_list (pe_fld (pv 2) rfl)) (blkOk_by (N := ["network", "k", "convoy", "stretch"]) (sc := defScope sAConvoy) (by decide +kernel))
        (fun s' H' C cl fp => pg_name (i := 3) scAConvoy.nd rfl (Or.inl rfl)) (fun s' H' C cl fp => pts_nil) (fun s' H' C cl fp => pe_fld (pv 3) rfl)))))), ?_⟩
  refine ⟨_, rfl, net, dx, _, rfl, hN, rfl, _, rfl, net, ll, dd, m.places, n, _, rfl, ⟨dx, hN⟩, hC.dict, _, rfl, ?_⟩
  rw [cd_some]
  have hg : gConvoy m [n] = (m, match m.convoys.getD n none with
    | none => [-2]
    | some c => (c.minute : Int) :: c.roads.map fun (i : Nat) => (i : Int)) := rfl
  rw [hg] at k
  by_cases hn : n ∈ ks
  · rw [decide_eq_true hn]
    obtain ⟨c, hc⟩ := isAt_some ((hC.mem n).mp hn)
    rw [hc] at k
    have hE := hC.at_ n c hc
    have hlen := (hC.ok n c hc).2
    obtain ⟨de, oe⟩ := id hE.obj
    refine iteF ⟨_, rfl, net, a.CN, dx, _, _, rfl, hN, g.TN.cl, g.TN.no _ (by simp), rfl, _, rfl, dd, .ref (ca n), rfl, ?_, ?_⟩
    · have := DGet.k (H := H) (k := Sum.inl (n : Int)) hC.dict
      rw [cd_val, if_pos hn] at this
      exact this
    refine ⟨_, rfl, ca n, a.CC, de, _, _, rfl, oe, g.TC.cl, g.TC.no _ (by simp), rfl, zL1, fun v0 hv0 => ?_⟩
    have s0 : Same H (upd H v0 (.lst [V.int c.minute])) := fun b o e => by rw [upd_ne (ne_of_none e hv0)]; exact e
    have hv00 : upd H v0 (.lst [V.int c.minute]) v0 = some (.lst [V.int c.minute]) := upd_same
    generalize upd H v0 (.lst [V.int c.minute]) = H1 at s0 hv00 ⊢
    refine ⟨_, rfl, ca n, a.CC, de, _, _, rfl, s0 _ _ oe, g.TC.cl, g.TC.no _ (by simp), rfl, cl n, rfl, ⟨_, SqL.of (s0 _ _ hE.lst)⟩, fun D hD => lc_list (K := K) (xs := (cs n).map V.ref) (fun i H' => H' D = some (.lst (pl ((Kqv6.spans m c).take i |>.map (·.1)))) ∧ Same H1 H') ⟨upd_same, fun b o e => by rw [upd_ne (ne_of_none e hD)]; exact e⟩ (fun i H' _ h => SqL.of (h.2 _ _ (s0 _ _ hE.lst))) ?_ ?_⟩
    · rintro i y H' hi ⟨hD', s1⟩
      obtain ⟨b, hb, rfl⟩ := as_at hi
      obtain ⟨x, hx, db, eb⟩ := hE.get hb
      have hil : i < (Kqv6.spans m c).length := (List.getElem?_eq_some_iff.mp hx).1
      refine ⟨rfl, ?_⟩
      unfold tYes
      refine iteT ?_
      refine ⟨_, rfl, b, a.CS, db, _, _, rfl, s1 _ _ (s0 _ _ eb), g.TS.cl, g.TS.no _ (by simp), rfl, _, hD', ?_, ?_, fun b o e => ?_⟩
      · rw [pl_length, List.length_map, List.length_take]
        have : (Kqv6.spans m c).length = c.roads.length := Bend.times_length _ _ _
        exact Nat.lt_of_lt_of_le (show _ < 100 by omega) (by decide)
      · rw [upd_same, take_snoc hx, List.map_append]
        show _ = some (HO.lst (pl (_ ++ [x.1])))
        rw [pl_snoc]
      · rw [upd_ne (ne_of_none e hD)]; exact s1 b o e
    · rintro H2 ⟨hD2, s2⟩
      have e1 : ((Kqv6.spans m c).take ((cs n).map V.ref).length).map (·.1) = c.roads := by
        rw [List.length_map, hE.len, List.take_length]
        exact times_fst m c.roads c.minute
      rw [e1] at hD2
      refine ⟨v0, D, _, _, rfl, rfl, s2 _ _ hv00, hD2, ?_, fun v hv => ?_⟩
      · show 1 + (pl c.roads).length ≤ sizeLine
        rw [pl_length]
        exact Nat.le_trans (show 1 + c.roads.length ≤ 100 by omega) (by decide)
      · exact k _ fp v (ret_same S (s0.trans s2) hv ((c.minute : Int) :: c.roads.map fun (i : Nat) => (i : Int)))
  · rw [decide_eq_false hn]
    rw [conv_none (fun z => hn ((hC.mem n).mpr z))] at k
    exact iteT ⟨zL1, fun v hv => k _ fp v (ret_same S (Same.refl H) hv [-2])⟩
def gLook : Kqv6.Map_ → List Nat → Kqv6.Map_ × List Int := fun m xs => match xs with
  | [r] => (m, match m.roads[r]? with
    | none => [-2]
    | some x => [(x.minutes : Int), (x.p : Int), (x.q : Int), (x.high : Int), (x.heavy : Int), (x.a : Int), (x.b : Int), if x.closed then 1 else 0])
  | _ => (m, [])
theorem scALook : FnScope ["network", "r", "road"] ["network", "r"] (defScope sALook) := ⟨rfl, rfl, rfl, by decide +kernel, rfl, by decide +kernel, by decide +kernel⟩
theorem ok_aLook {a : Adr} {f : Addr} {fd : FuncData} (F : Fun K "answer_look" "answer_look" sALook f fd) (g : Known P w K mg base a) : FnOk P w K mg base CX0 2 f fd ["network", "r"] (spHand a 1 gLook) := by
  refine F.ok scALook (spHand_len rfl) (fun cdv A outer s H vs Q E hr h => ?_)
  obtain ⟨net, m, fp, xs, rfl, hl, S, k⟩ := h
  obtain ⟨r, rfl⟩ := len1 hl
  obtain ⟨fH, fdH, GH, mH, bH⟩ := g.hasRoad
  obtain ⟨ll, as, dd, dx, hN, hR⟩ := S.old
  refine ⟨_, pss_cons (ps_if (pt_not (pt_val (pe_meth (pv 0) g.TN.cl mH GH hr bH .nil pass0 (pa_cons (pv 1) pa_nil)))) (pss_one (ps_ret (pe_lst (pa_cons (pe_ci rfl g.c2) pa_nil)))) pss_nil)
    (pss_cons (ps_set (i := 2) scALook.nd rfl (Or.inl rfl) (pe_ix ix_list (pe_fld (pv 0) rfl) (pv 1) (fun _ _ => rfl)))
    (pss_one (ps_ret (pe_lst (pa_cons (pe_fld (pv 2) rfl) (pa_cons (pe_fld (pv 2) rfl) (pa_cons (pe_fld (pv 2) rfl) (pa_cons (pe_fld (pv 2) rfl) (pa_cons (pe_fld (pv 2) rfl) (pa_cons (pe_fld (pv 2) rfl) (pa_cons (pe_fld (pv 2) rfl) (pa_cons (pe_ifExp (pt_val (pe_fld (pv 2) rfl)) pe_int pe_int) pa_nil)))))))))))), ?_⟩
  refine ⟨_, rfl, net, dx, _, rfl, hN, rfl, _, rfl, net, ll, m.places, r, _, rfl, ⟨dd, dx, hN⟩, hR.lst, _, rfl, ?_⟩
  rw [List.length_map, hR.len]
  have hg : gLook m [r] = (m, match m.roads[r]? with
    | none => [-2]
    | some x => [(x.minutes : Int), (x.p : Int), (x.q : Int), (x.high : Int), (x.heavy : Int), (x.a : Int), (x.b : Int), if x.closed then 1 else 0]) := rfl
  rw [hg] at k
  by_cases hr' : r < m.roads.length
  · rw [decide_eq_true hr']
    obtain ⟨x, ex⟩ : ∃ x, m.roads[r]? = some x := ⟨_, List.getElem?_eq_getElem hr'⟩
    obtain ⟨ar, ea⟩ : ∃ ar, as[r]? = some ar := ⟨_, List.getElem?_eq_getElem (by rw [hR.len]; exact hr')⟩
    obtain ⟨dr, hra⟩ := hR.at_ r ar x ea ex
    rw [ex] at k
    dsimp only at k
    refine iteF ⟨_, rfl, net, a.CN, dx, _, _, rfl, hN, g.TN.cl, g.TN.no _ (by simp), rfl, _, rfl, ll, _, _, _, rfl, rfl, SqL.of hR.lst, at_of (j := r) (v := V.ref ar) rfl (by rw [List.getElem?_map, ea]; rfl), ?_⟩
    refine ⟨_, rfl, ar, a.CR, dr, _, _, rfl, hra, g.TR.cl, g.TR.no _ (by simp), rfl, ?_⟩
    refine ⟨_, rfl, ar, a.CR, dr, _, _, rfl, hra, g.TR.cl, g.TR.no _ (by simp), rfl, ?_⟩
    refine ⟨_, rfl, ar, a.CR, dr, _, _, rfl, hra, g.TR.cl, g.TR.no _ (by simp), rfl, ?_⟩
    refine ⟨_, rfl, ar, a.CR, dr, _, _, rfl, hra, g.TR.cl, g.TR.no _ (by simp), rfl, ?_⟩
    refine ⟨_, rfl, ar, a.CR, dr, _, _, rfl, hra, g.TR.cl, g.TR.no _ (by simp), rfl, ?_⟩
    refine ⟨_, rfl, ar, a.CR, dr, _, _, rfl, hra, g.TR.cl, g.TR.no _ (by simp), rfl, ?_⟩
    refine ⟨_, rfl, ar, a.CR, dr, _, _, rfl, hra, g.TR.cl, g.TR.no _ (by simp), rfl, ?_⟩
    refine ⟨_, rfl, ar, a.CR, dr, _, _, rfl, hra, g.TR.cl, g.TR.no _ (by simp), rfl, _, rfl, ite2 (fun c => ?_) (fun c => ?_)⟩
    · rw [if_pos c] at k
      exact ⟨(by show 8 ≤ sizeLine; decide), fun v hv => k _ fp v (ret_same S (Same.refl H) hv [_, _, _, _, _, _, _, 1])⟩
    · rw [if_neg c] at k
      exact ⟨(by show 8 ≤ sizeLine; decide), fun v hv => k _ fp v (ret_same S (Same.refl H) hv [_, _, _, _, _, _, _, 0])⟩
  · rw [decide_eq_false hr']
    rw [List.getElem?_eq_none (by omega)] at k
    exact iteT ⟨zL1, fun v hv => k _ fp v (ret_same S (Same.refl H) hv [-2])⟩
def gState : Kqv6.Map_ → List Nat → Kqv6.Map_ × List Int := fun m _ => (m, [(m.places : Int), (m.roads.length : Int), ((Kqv6.all m).length : Int)])
theorem scAState : FnScope ["network"] ["network"] (defScope sAState) := ⟨rfl, rfl, rfl, by decide +kernel, rfl, by decide +kernel, by decide +kernel⟩
theorem ok_aState {a : Adr} {f : Addr} {fd : FuncData} (F : Fun K "answer_state" "answer_state" sAState f fd) (g : Known P w K mg base a) : FnOk P w K mg base CX0 1 f fd ["network"] (spHand a 0 gState) := by
  refine F.ok scAState (spHand_len rfl) (fun cdv A outer s H vs Q E hr h => ?_)
  obtain ⟨net, m, fp, xs, rfl, hl, S, k⟩ := h
  obtain rfl : xs = [] := List.eq_nil_of_length_eq_zero hl
  obtain ⟨ll, dd, as, ks, ca, cl, cs, hP, efp⟩ := id S.ex
  obtain ⟨dx, hN⟩ := id hP.net
  have hR := hP.roads
  have hC := hP.conv
  refine ⟨_, pss_one (ps_ret (pe_lst (pa_cons (pe_fld (pv 0) rfl) (pa_cons (pe_callB call_len_seq (by rfl) g.len PySem.boot_len (pa_cons (pe_fld (pv 0) rfl) pa_nil)) (pa_cons (pe_callB call_lenD (by rfl) g.len PySem.boot_len (pa_cons (pe_fld (pv 0) rfl) pa_nil)) pa_nil))))), ?_⟩
  refine ⟨_, rfl, net, a.CN, dx, _, _, rfl, hN, g.TN.cl, g.TN.no _ (by simp), rfl, _, rfl, net, a.CN, dx, _, _, rfl, hN, g.TN.cl, g.TN.no _ (by simp), rfl, ll, _, rfl, .inl (SqL.of hR.lst), _, rfl, net, a.CN, dx, _, _, rfl, hN, g.TN.cl, g.TN.no _ (by simp), rfl, dd, _, rfl, hC.dict, (by show 3 ≤ sizeLine; decide), fun v hv => ?_⟩
  have e1 : (as.map V.ref).length = m.roads.length := by rw [List.length_map, hR.len]
  have e2 : (cd ks ca).length = (Kqv6.all m).length := by rw [cd_length]; exact Bend.all_length hC.nd hC.mem
  have kk := k _ fp v (ret_same S (Same.refl H) hv [(m.places : Int), (m.roads.length : Int), ((Kqv6.all m).length : Int)])
  rw [← e1, ← e2] at kk
  exact kk
end
end BP
end
section
namespace BP
open PySem PySem.Spec PyProof.Rows L2
abbrev sAnswers : Stmt := top 83
def NetV (a : Adr) (H : Hp) (v : V) (s : Option Kqv6.Map_) (fp : List Addr) : Prop := match s with
  | none => v = .non ∧ fp = [a.P1, a.P2] ∧ LamTab H a.P1 (lamPos lamLongest) qLongest ∧ LamTab H a.P2 (lamPos lamLen) qLen
  | some m => ∃ net, v = .ref net ∧ StateAt a H net m fp
def stepOf (s : Option Kqv6.Map_) (j : Nat) (xs : List Nat) : Option Kqv6.Map_ × List Int := Kqv6Neutral.step s (PyKqv6.whole [(j : Int) :: xs.map fun (i : Nat) => (i : Int)])
structure RetO (a : Adr) (H H' : Hp) (fp fp' : List Addr) (l : Addr) (v : V) (s' : Option Kqv6.Map_) (ans : List Int) : Prop where
  new : H l = none
  lst : H' l = some (.lst (ans.map V.int))
  st : NetV a H' v s' fp'
  out : l ∉ fp'
  sub : ∀ b ∈ fp', b ∈ fp ∨ H b = none
  keep : ∀ b o, H b = some o → b ∉ fp → H' b = some o
def spAC (a : Adr) : Sp := fun vs H Q _ => ∃ (v : V) (s : Option Kqv6.Map_) (fp : List Addr) (j : Nat) (xs : List Nat) (ln : Addr), vs = [v, .int j, .ref ln] ∧ NetV a H v s fp ∧ j < 22 ∧ xs.length = Bend.ar j ∧ (∀ x ∈ xs, x ≤ 4294967295) ∧ H ln = some (.lst (numsV xs)) ∧ ln ∉ fp ∧ (j = 0 → s = some ⟨0, [], []⟩) ∧
  ∀ H' fp' l, RetO a H H' fp fp' l v (stepOf s j xs).1 (stepOf s j xs).2 → Q (.ref l) H'
theorem NetV.same {a : Adr} {H H' : Hp} {v : V} {s : Option Kqv6.Map_} {fp : List Addr} (h : NetV a H v s fp) (k : Same H H') : NetV a H' v s fp := by
  cases s with
  | none => obtain ⟨h1, h2, h3, h4⟩ := h; exact ⟨h1, h2, lamTab_same h3 k, lamTab_same h4 k⟩
  | some m => obtain ⟨net, h1, h2⟩ := h; exact ⟨net, h1, h2.same k⟩
theorem NetV.some {a : Adr} {H : Hp} {v : V} {s : Option Kqv6.Map_} {fp : List Addr} (h : NetV a H v s fp) : ∀ b ∈ fp, ∃ o, H b = some o := by
  cases s with
  | none =>
    obtain ⟨_, rfl, ⟨ps1, q1, _⟩, ⟨ps2, q2, _⟩⟩ := h
    intro b hb
    have hb : b = a.P1 ∨ b = a.P2 := by simpa using hb
    rcases hb with rfl | rfl
    · exact ⟨_, q1⟩
    · exact ⟨_, q2⟩
  | some m => obtain ⟨net, _, h2⟩ := h; exact h2.some
theorem NetV.tabs {a : Adr} {H : Hp} {v : V} {s : Option Kqv6.Map_} {fp : List Addr} (h : NetV a H v s fp) : LamTab H a.P1 (lamPos lamLongest) qLongest ∧ LamTab H a.P2 (lamPos lamLen) qLen ∧ a.P1 ∈ fp ∧ a.P2 ∈ fp := by
  cases s with
  | none => obtain ⟨_, rfl, h3, h4⟩ := h; exact ⟨h3, h4, by simp, by simp⟩
  | some m =>
    obtain ⟨net, _, h2⟩ := h
    obtain ⟨l, d, as, ks, ca, cl, cs, _, rfl⟩ := h2.ex
    exact ⟨h2.t1, h2.t2, by simp, by simp⟩
theorem seq_keep {K : PySem.W.Frag} {H H' : Hp} {c : Addr} {xs : List V} (h : SqL K H c xs) (k : ∀ o, H c = some o → H' c = some o) : SqL K H' c xs := by
  rcases h with (h | ⟨o, h⟩) | h
  · exact .inl (.inl (k _ h))
  · exact .inl (.inr ⟨o, k _ h⟩)
  · exact .inr h
section
variable {P : Program} {w : World} {K : PySem.W.Frag} {mg : Str → Option Value} {base : Heap}
def spAns (P1 P2 : Addr) (K : PySem.W.Frag) : Sp := fun vs H Q _ => ∃ (c : Addr) (ns : List Int), vs = [.ref c] ∧ SqL K H c (ns.map V.int) ∧ ns.length ≤ 1600 ∧ PyKqv6.answers_asked ns = true ∧ LamTab H P1 (lamPos lamLongest) qLongest ∧ LamTab H P2 (lamPos lamLen) qLen ∧
  ∀ (H' : Hp) (p : Addr), H' p = some (.lst ((PyKqv6.answers ns).map V.int)) → Q (.ref p) H'
theorem scAns : FnScope ["calls", "network", "told", "at", "call", "behind", "answer"] ["calls"] (defScope sAnswers) := ⟨rfl, rfl, rfl, by decide +kernel, rfl, by decide +kernel, by decide +kernel⟩
theorem cut_nums {ns : List Int} {i n : Nat} (h : i + 1 + n ≤ ns.length) : cutV (ns.map V.int) (some (i + 1 : Int)) (some (i + 1 + n : Int)) = ((ns.drop (i + 1)).take n).map V.int := by
  unfold cutV
  have e1 : ((i : Int) + 1) = ((i + 1 : Nat) : Int) := by omega
  have e2 : ((i : Int) + 1 + n) = ((i + 1 + n : Nat) : Int) := by omega
  rw [e2, e1, HT.sIx_nat, HT.sIx_nat, List.length_map, Nat.min_eq_left h, Nat.min_eq_left (show i + 1 ≤ ns.length by omega), ← List.map_drop, ← List.map_take, Nat.add_sub_cancel_left]
theorem nums_of {ys : List Int} (h : ∀ x ∈ ys, 0 ≤ x ∧ x ≤ 4294967295) : ∃ xs : List Nat, ys = xs.map (fun (i : Nat) => (i : Int)) ∧ (∀ x ∈ xs, x ≤ 4294967295) := by
  refine ⟨ys.map Int.toNat, ?_, fun x hx => ?_⟩
  · rw [List.map_map]
    conv => lhs; rw [← List.map_id ys]
    exact List.map_congr_left fun x hx => by have := h x hx; show x = ((x.toNat : Nat) : Int); omega
  · obtain ⟨y, hy, rfl⟩ := List.mem_map.mp hx
    have := h y hy
    omega
structure Lp (a : Adr) (K : PySem.W.Frag) (c : Addr) (ns : List Int) (tl : Addr) (H : Hp) (i : Nat) (v : V) (s : Option Kqv6.Map_) (fp : List Addr) (done : List Int) : Prop where
  net : NetV a H v s fp
  par : ∃ f' cs, PyFlat.calls PyKqv6.shape f' (ns.drop i) = some cs ∧ (∀ c ∈ cs, Kqv6Neutral.asked1 (PyKqv6.whole c) = true) ∧ done ++ Bend.rest s cs = PyKqv6.answers ns
  tld : H tl = some (.lst (done.map V.int))
  out : tl ∉ fp
  ck : (∀ H', SqL K H' c (ns.map V.int)) ∨ (c ≠ tl ∧ c ∉ fp ∧ Rd H c (.lst (ns.map V.int)))
  le : i ≤ ns.length
theorem Lp.seq {a : Adr} {c tl : Addr} {ns done : List Int} {H : Hp} {i : Nat} {v : V} {s : Option Kqv6.Map_} {fp : List Addr} (L : Lp a K c ns tl H i v s fp done) : SqL K H c (ns.map V.int) := by
  rcases L.ck with h | ⟨_, _, h⟩
  · exact h H
  · exact .inl h
theorem rd_keep {H H' : Hp} {c : Addr} {u : HO} (h : Rd H c u) (k : ∀ o, H c = some o → H' c = some o) : Rd H' c u := by
  rcases h with h | ⟨o, h⟩
  · exact .inl (k _ h)
  · exact .inr ⟨o, k _ h⟩
theorem rd_some {H : Hp} {c : Addr} {u : HO} (h : Rd H c u) : ∃ o, H c = some o := by
  rcases h with h | ⟨o, h⟩
  · exact ⟨_, h⟩
  · exact ⟨_, h⟩
theorem Lp.next {a : Adr} {c tl : Addr} {ns done : List Int} {H : Hp} {i : Nat} {v : V} {s : Option Kqv6.Map_} {fp : List Addr} (L : Lp a K c ns tl H i v s fp done) (hi : i < ns.length) :
    ∃ (j f' : Nat) (xs : List Nat) (cs' : List (List (List Int))), ns[i]? = some (j : Int) ∧ j < 22 ∧ xs.length = Bend.ar j ∧ (∀ x ∈ xs, x ≤ 4294967295) ∧ i + 1 + Bend.ar j ≤ ns.length ∧ (ns.drop (i + 1)).take (Bend.ar j) = xs.map (fun (i : Nat) => (i : Int)) ∧
      PyFlat.calls PyKqv6.shape f' (ns.drop (i + 1 + Bend.ar j)) = some cs' ∧ (∀ c ∈ cs', Kqv6Neutral.asked1 (PyKqv6.whole c) = true) ∧ done ++ (((stepOf s j xs).2.length : Int) :: (stepOf s j xs).2) ++ Bend.rest (stepOf s j xs).1 cs' = PyKqv6.answers ns := by
  obtain ⟨f', cs, h1, h2, h3⟩ := L.par
  rcases Bend.calls_step h1 with ⟨e, _⟩ | ⟨j, f2, r, cs', e, hj, har, rfl, h4⟩
  · rw [List.drop_eq_nil_iff] at e
    omega
  · have e1 : ns[i]? = some (j : Int) := by
      have := congrArg (fun l : List Int => l[0]?) e
      simpa using this
    have e2 : ns.drop (i + 1) = r := by
      have := congrArg (fun l : List Int => l.drop 1) e
      simpa using this
    have hlen : i + 1 + Bend.ar j ≤ ns.length := by
      have := congrArg List.length e2
      rw [List.length_drop] at this
      omega
    have hxl : (r.take (Bend.ar j)).length = Bend.ar j := by rw [List.length_take]; omega
    have hb := Bend.asked_nums hj hxl (h2 _ (by simp))
    obtain ⟨xs, ex, hxb⟩ := nums_of hb
    refine ⟨j, f2, xs, cs', e1, hj, ?_, hxb, hlen, by rw [e2, ex], ?_, fun c hc => h2 c (List.mem_cons_of_mem _ hc), ?_⟩
    · rw [ex, List.length_map] at hxl
      exact hxl
    · rw [← h4, ← e2, List.drop_drop]
    · rw [← h3, Bend.rest_cons, ex]
      unfold stepOf
      rw [List.append_assoc]
theorem Lp.told {a : Adr} {c tl l2 : Addr} {ns done : List Int} {H1 H2 : Hp} {i j f' : Nat} {v1 : V} {s s1 : Option Kqv6.Map_} {fp1 fp2 : List Addr} {xs : List Nat} {cs' : List (List (List Int))} (N1 : NetV a H1 v1 s1 fp1) (t1 : H1 tl = some (.lst (done.map V.int))) (o1 : tl ∉ fp1)
    (k1 : (∀ H', SqL K H' c (ns.map V.int)) ∨ (c ≠ tl ∧ c ∉ fp1 ∧ Rd H1 c (.lst (ns.map V.int)))) (R : RetO a H1 H2 fp1 fp2 l2 v1 (stepOf s j xs).1 (stepOf s j xs).2) (hlen : i + 1 + Bend.ar j ≤ ns.length)
    (h4 : PyFlat.calls PyKqv6.shape f' (ns.drop (i + 1 + Bend.ar j)) = some cs') (h5 : ∀ c ∈ cs', Kqv6Neutral.asked1 (PyKqv6.whole c) = true) (h6 : done ++ (((stepOf s j xs).2.length : Int) :: (stepOf s j xs).2) ++ Bend.rest (stepOf s j xs).1 cs' = PyKqv6.answers ns) {o3 : HO} :
    Lp a K c ns tl (upd (upd H2 tl o3) tl (.lst ((done ++ (((stepOf s j xs).2.length : Int) :: (stepOf s j xs).2)).map V.int))) (i + 1 + Bend.ar j) v1 (stepOf s j xs).1 fp2 (done ++ (((stepOf s j xs).2.length : Int) :: (stepOf s j xs).2)) := by
  have o2 : tl ∉ fp2 := fun hb => by
    rcases R.sub tl hb with z | z
    · exact o1 z
    · rw [t1] at z; cases z
  have kb : ∀ b o, H2 b = some o → b ≠ tl → upd (upd H2 tl o3) tl (.lst ((done ++ (((stepOf s j xs).2.length : Int) :: (stepOf s j xs).2)).map V.int)) b = some o := fun b o e hb => by rw [upd_ne hb, upd_ne hb]; exact e
  have t2 : H2 tl = some (.lst (done.map V.int)) := R.keep _ _ t1 o1
  refine ⟨?_, ⟨f', cs', h4, h5, h6⟩, upd_same, o2, ?_, hlen⟩
  · have st := R.st
    cases hs : (stepOf s j xs).1 with
    | none =>
      rw [hs] at st
      obtain ⟨q1, q2, q3, q4⟩ := st
      exact ⟨q1, q2, lamTab_but q3 t2 (by intro ps z; cases z) (by intro o u z; cases z) kb, lamTab_but q4 t2 (by intro ps z; cases z) (by intro o u z; cases z) kb⟩
    | some m =>
      rw [hs] at st
      obtain ⟨net, q1, q2⟩ := st
      obtain ⟨l, d, as, ks, ca, cl, cs, hP, g3⟩ := q2.ex
      have nt : ∀ b ∈ fp2, b ≠ tl := fun b hb z => o2 (by rw [← z]; exact hb)
      rw [g3] at nt
      obtain ⟨dn, g1⟩ := hP.net
      have g2 := hP.roads
      refine ⟨net, q1, ⟨⟨l, d, as, ks, ca, cl, cs, ⟨⟨dn, kb _ _ g1 (nt _ (by simp))⟩, ⟨kb _ _ g2.lst (nt _ (by simp)), g2.nd, g2.len, fun jj b rr e1 e2 => ?_⟩, hP.conv.move (fun b o e hb => kb b o e (nt b ?_)) rfl (fun _ _ => rfl) (Nat.le_refl _), hP.sep⟩, g3⟩, q2.fine, lamTab_but q2.t1 t2 (by intro ps z; cases z) (by intro o u z; cases z) kb, lamTab_but q2.t2 t2 (by intro ps z; cases z) (by intro o u z; cases z) kb⟩⟩
      · obtain ⟨dx, e⟩ := g2.at_ jj b rr e1 e2
        exact ⟨dx, kb _ _ e (nt b (by have := List.mem_of_getElem? e1; simp [this]))⟩
      · rcases hb with z | z
        · simp [z]
        · simp [z]
  · rcases k1 with h | ⟨h1, h2, h3⟩
    · exact .inl h
    · obtain ⟨o, e⟩ := rd_some h3
      refine .inr ⟨h1, fun hb => ?_, rd_keep h3 fun o e => kb _ _ (R.keep _ _ e h2) h1⟩
      rcases R.sub c hb with z | z
      · exact h2 z
      · rw [e] at z; cases z
set_option maxHeartbeats 8000000 in
theorem ok_answers {a : Adr} {f th : Addr} {fd : FuncData} {kA : Nat} (hkA : 2 ≤ kA) (F : Fun K "answers" "answers" sAnswers f fd) (GA : Callable P w K mg base "answer_call" kA ["network", "call", "numbers"] (spAC a)) (GN : MakeC P w K mg base a.CN "Network" 1 ["self"] (spNetInit a.CN))
    (c0 : CI mg "START" 0) (mlen : mg "len" = none) (mH : mg "HOW_MANY_NUMBERS" = some (.ref th)) (hH : ∀ H, SqT K H th ((List.range 22).map fun (j : Nat) => V.int (Bend.ar j : Int))) :
    FnOk P w K mg base CX0 (kA + 1) f fd ["calls"] (spAns a.P1 a.P2 K) := by
  refine F.ok scAns (fun vs H Q E h => ?_) (fun cdv A outer s H vs Q E hr h => ?_)
  · obtain ⟨c, ns, rfl, _⟩ := h
    rfl
  · obtain ⟨c, ns, rfl, hC, hlen, hask, hT1, hT2, k⟩ := h
    obtain ⟨fA, fdA, GA, mA, kA', bA⟩ := GA
    obtain ⟨fI, fdI, GI, MI, mI, bI⟩ := GN
    have r2 : Room 2 _ := hr.mono hkA
    obtain ⟨cs0, hcs0, _, hasked, hsz⟩ := Bend.asked_of hask
    refine ⟨_, pss_cons (ps_set (i := 1) scAns.nd rfl (Or.inl rfl) pe_non) (pss_cons (ps_set (i := 2) scAns.nd rfl (Or.inl rfl) (pe_lst pa_nil)) (pss_cons (ps_set (i := 3) scAns.nd rfl (Or.inl rfl) pe_int)
      (pss_cons (ps_while PassesOwn.never (pt_cmpR op_lt (pv 3) (pe_callB call_len_seq (by rfl) mlen PySem.boot_len (pa_cons (pv 0) pa_nil)) (nomark _))
        (pss_cons (ps_set (i := 4) scAns.nd rfl (Or.inl rfl) (pe_ix ix_list (pv 0) (pv 3) (fun _ _ => rfl)))
        (pss_cons (ps_set (i := 5) scAns.nd rfl (Or.inl rfl) (pe_op op_add (pe_op op_add (pv 3) pe_int) (pe_ix ix_tup (pe_glob (v := .ref th) rfl mH rfl) (pv 4) (fun _ _ => rfl))))
        (pss_cons (ps_if (pt_cmpR op_eq (pv 4) (pe_ci rfl c0) (nomark _)) (pss_one (ps_set (i := 1) scAns.nd rfl (Or.inl rfl) (pe_make0 MI GI r2 rfl mI bI .nil pass0))) pss_nil)
        (pss_cons (ps_set (i := 6) scAns.nd rfl (Or.inl rfl) (pe_call GA hr rfl mA kA' bA .nil pass0 (pa_cons (pv 1) (pa_cons (pv 4) (pa_cons (pe_slice sl_list (pv 0) (po_some (pe_op op_add (pv 3) pe_int)) (po_some (pv 5))) pa_nil)))))
        (pss_cons (ps_expr (pe_bm PySem.F.plainAttrs_list PySem.F.slot_list_append PySem.F.type_list_append mt_append (pv 2) (pa_cons (pe_callB call_len_seq (by rfl) mlen PySem.boot_len (pa_cons (pv 6) pa_nil)) pa_nil)))
        (pss_cons (ps_expr (pe_bm PySem.F.plainAttrs_list PySem.F.slot_list_extend PySem.F.type_list_extend mt_extend (pv 2) (pa_cons (pv 6) pa_nil)))
        (pss_one (ps_set (i := 3) scAns.nd rfl (Or.inl rfl) (pv 5))))))))))
      (pss_one (ps_ret (pv 2)))))), ?_⟩
    refine ⟨Nat.zero_le _, fun tl htl => ?_⟩
    have s1 : Same H (upd H tl (.lst [])) := fun b o e => by rw [upd_ne (ne_of_none e htl)]; exact e
    have nP : ∀ p, (∃ ps, H p = some (.tbl ps)) → p ≠ tl := fun p ⟨ps, e⟩ z => by rw [z, htl] at e; cases e
    have tb1 : ∃ ps, H a.P1 = some (.tbl ps) := let ⟨ps, e, _⟩ := hT1; ⟨ps, e⟩
    have tb2 : ∃ ps, H a.P2 = some (.tbl ps) := let ⟨ps, e, _⟩ := hT2; ⟨ps, e⟩
    have L0 : Lp a K c ns tl (upd H tl (.lst [])) 0 .non none [a.P1, a.P2] [] := by
      refine ⟨⟨rfl, rfl, lamTab_same hT1 s1, lamTab_same hT2 s1⟩, ⟨_, cs0, hcs0, hasked, ?_⟩, upd_same, ?_, ?_, Nat.zero_le _⟩
      · rw [Bend.answers_rest hcs0]
        rfl
      · simp only [List.mem_cons, List.not_mem_nil, or_false, not_or]
        exact ⟨(nP _ tb1).symm, (nP _ tb2).symm⟩
      · rcases hC with h | ⟨o, its, n, q1, q2⟩
        · right
          obtain ⟨o, e⟩ := rd_some h
          have nt : ∀ ps, o ≠ .tbl ps := fun ps z => by
            subst z
            rcases h with h | ⟨_, h⟩
            · rw [e] at h; cases h
            · rw [e] at h; cases h
          refine ⟨ne_of_none e htl, ?_, rd_keep h fun o e => s1 _ _ e⟩
          simp only [List.mem_cons, List.not_mem_nil, or_false, not_or]
          refine ⟨fun z => ?_, fun z => ?_⟩
          · obtain ⟨ps, e'⟩ := tb1
            rw [← z, e] at e'
            exact nt ps (Option.some.inj e')
          · obtain ⟨ps, e'⟩ := tb2
            rw [← z, e] at e'
            exact nt ps (Option.some.inj e')
        · exact .inl fun H' => .inr ⟨o, its, n, q1, q2⟩
    refine ⟨fun mm σ H' => ∃ (i : Nat) (v : V) (s : Option Kqv6.Map_) (fp : List Addr) (done : List Int) (v4 v5 v6 : Option V), mm = ns.length - i ∧ σ = [some (.ref c), some v, some (.ref tl), some (.int i), v4, v5, v6] ∧ Lp a K c ns tl H' i v s fp done,
      ⟨_, 0, .non, none, _, [], none, none, none, rfl, rfl, L0⟩, ?_⟩
    rintro mm σ H' ⟨i, v, st, fp, done, v4, v5, v6, rfl, rfl, L⟩
    refine ⟨_, rfl, _, rfl, c, _, rfl, .inl L.seq, _, _, rfl, rfl, _, rfl, ?_⟩
    rw [List.length_map, dec_lt]
    by_cases hi : i < ns.length
    · rw [decide_eq_true hi]
      refine iteT ?_
      obtain ⟨j, f', xs, cs', hj0, hj, hxl, hxb, hle, hxs, h4, h5, h6⟩ := L.next hi
      refine ⟨fun σ' H3 => ∃ (i' : Nat) (v : V) (s : Option Kqv6.Map_) (fp : List Addr) (done : List Int) (v4 v5 v6 : Option V), i < i' ∧ σ' = [some (.ref c), some v, some (.ref tl), some (.int i'), v4, v5, v6] ∧ Lp a K c ns tl H3 i' v s fp done,
        fun σ' H3 ⟨i', v, s, fp, done, v4, v5, v6, q1, q2, q3⟩ => ⟨ns.length - i', by have := q3.le; omega, i', v, s, fp, done, v4, v5, v6, rfl, q2, q3⟩, ?_⟩
      have hsz2 : done.length + 1 + (stepOf st j xs).2.length ≤ 1000200 := by
        have := congrArg List.length h6
        rw [List.length_append, List.length_append, List.length_cons] at this
        omega
      have sl : (1000201 : Nat) < sizeLine := by decide
      have eb : ((i : Int) + 1 + (Bend.ar j : Int)) = ((i + 1 + Bend.ar j : Nat) : Int) := by omega
      have ecut : cutV (ns.map V.int) (some ((i : Int) + 1)) (some ((i : Int) + 1 + (Bend.ar j : Int))) = numsV xs := by
        rw [cut_nums hle, hxs, List.map_map]
        rfl
      have eapp : (done.map V.int ++ [V.int ((stepOf st j xs).2.length : Int)]) ++ (stepOf st j xs).2.map V.int = (done ++ (((stepOf st j xs).2.length : Int) :: (stepOf st j xs).2)).map V.int := by
        rw [List.map_append, List.map_cons, List.append_assoc]
        rfl
      refine ⟨_, rfl, _, rfl, c, _, _, _, rfl, rfl, L.seq, at_of (j := i) (v := V.int j) rfl (by rw [List.getElem?_map, hj0]; rfl), ?_⟩
      refine ⟨_, rfl, _, _, rfl, rfl, _, rfl, th, _, _, _, rfl, rfl, hH _, at_of (j := j) (v := V.int (Bend.ar j : Int)) rfl (by rw [List.getElem?_map, List.getElem?_range hj]; rfl), _, _, rfl, rfl, ?_⟩
      refine ⟨_, rfl, rfl, _, rfl, ?_⟩
      by_cases hz : j = 0
      · rw [decide_eq_true (by rw [hz]; rfl)]
        refine iteT ?_
        refine fun x0 d0 n0 m0 e0 => ⟨x0, d0, rfl, upd_same, fun H1 l1 g1 nl1 ng1 hN1 hl1 hg1 kp => ⟨rfl, ?_⟩⟩
        have s2 : Same H' H1 := Same.made n0 m0 kp
        obtain ⟨q1, q2, q3, q4⟩ := L.net.tabs
        have hl0 : H' l1 = none := by
          by_cases z : l1 = x0
          · rw [z]; exact n0
          · rw [upd_ne z] at nl1
            by_cases z2 : l1 = d0
            · rw [z2]; exact m0
            · rw [upd_ne z2] at nl1; exact nl1
        have hg0 : H' g1 = none := by
          by_cases z : g1 = x0
          · rw [z]; exact n0
          · rw [upd_ne z] at ng1
            by_cases z2 : g1 = d0
            · rw [z2]; exact m0
            · rw [upd_ne z2] at ng1; exact ng1
        have N1 : NetV a H1 (.ref x0) (some ⟨0, [], []⟩) [x0, l1, g1, a.P1, a.P2] := ⟨x0, rfl, ⟨⟨l1, g1, [], [], (fun _ => 0), (fun _ => 0), (fun _ => []), ⟨hN1, ⟨hl1, List.nodup_nil, rfl, fun j b r e _ => by simp at e⟩, ⟨hg1, List.nodup_nil, Nat.zero_le _, fun k => ⟨fun z => by simp at z, fun z => by unfold Bend.isAt at z; simp at z⟩, fun k c z => by simp at z, fun k c z => by simp at z⟩, fun k hk => by simp at hk⟩, rfl⟩, ⟨⟨fun r hr => by simp at hr⟩, by show 0 ≤ 14; decide, by show 0 ≤ 8; decide, fun r hr => by simp at hr⟩, lamTab_same q1 s2, lamTab_same q2 s2⟩⟩
        have o1 : tl ∉ [x0, l1, g1, a.P1, a.P2] := by
          simp only [List.mem_cons, List.not_mem_nil, or_false, not_or]
          exact ⟨ne_of_none L.tld n0, ne_of_none L.tld hl0, ne_of_none L.tld hg0, fun z => L.out (by rw [z]; exact q3), fun z => L.out (by rw [z]; exact q4)⟩
        have k1 : (∀ H', SqL K H' c (ns.map V.int)) ∨ (c ≠ tl ∧ c ∉ [x0, l1, g1, a.P1, a.P2] ∧ Rd H1 c (.lst (ns.map V.int))) := by
          rcases L.ck with h | ⟨h1, h2, h3⟩
          · exact .inl h
          · obtain ⟨o, e⟩ := rd_some h3
            refine .inr ⟨h1, ?_, rd_keep h3 fun o e => s2 _ _ e⟩
            simp only [List.mem_cons, List.not_mem_nil, or_false, not_or]
            exact ⟨ne_of_none e n0, ne_of_none e hl0, ne_of_none e hg0, fun z => h2 (by rw [z]; exact q3), fun z => h2 (by rw [z]; exact q4)⟩
        have hSq : SqL K H1 c (ns.map V.int) := by
          rcases k1 with h | ⟨_, _, h⟩
          · exact h H1
          · exact .inl h
        have es : stepOf (some ⟨0, [], []⟩) j xs = stepOf st j xs := by
          subst hz
          obtain rfl : xs = [] := List.eq_nil_of_length_eq_zero hxl
          cases st <;> rfl
        have t1 : H1 tl = some (.lst (done.map V.int)) := s2 _ _ L.tld
        refine ⟨_, rfl, _, rfl, _, rfl, _, rfl, _, _, rfl, rfl, _, rfl, _, rfl, _, rfl, c, _, rfl, hSq, fun ln hln => ?_⟩
        have s3 : Same H1 (upd H1 ln (.lst (cutV (ns.map V.int) (some ((i : Int) + 1)) (some ((i : Int) + 1 + (Bend.ar j : Int)))))) := fun b o e => by rw [upd_ne (ne_of_none e hln)]; exact e
        have nln : ln ∉ [x0, l1, g1, a.P1, a.P2] := fun hb => by
          obtain ⟨o, e⟩ := N1.some ln hb
          rw [hln] at e; cases e
        have k3 : (∀ H', SqL K H' c (ns.map V.int)) ∨ (c ≠ tl ∧ c ∉ [x0, l1, g1, a.P1, a.P2] ∧ Rd (upd H1 ln (.lst (cutV (ns.map V.int) (some ((i : Int) + 1)) (some ((i : Int) + 1 + (Bend.ar j : Int)))))) c (.lst (ns.map V.int))) := by
          rcases k1 with h | ⟨h1, h2, h3⟩
          · exact .inl h
          · exact .inr ⟨h1, h2, rd_keep h3 fun o e => s3 _ _ e⟩
        refine ⟨_, some ⟨0, [], []⟩, [x0, l1, g1, a.P1, a.P2], j, xs, ln, rfl, N1.same s3, hj, hxl, hxb, by rw [← ecut]; exact upd_same, nln, fun _ => rfl, fun H2 fp2 l2 R => ?_⟩
        rw [es] at R
        have t3 := s3 _ _ t1
        have t2 := R.keep _ _ t3 o1
        have nl2 : l2 ≠ tl := fun z => by have := R.new; rw [z, t3] at this; cases this
        refine ⟨_, rfl, .inl ⟨rfl, _, SqL.of t2⟩, _, rfl, l2, _, rfl, .inl (SqL.of R.lst), tl, _, _, rfl, rfl, t2, by rw [List.length_map]; omega, ?_⟩
        refine ⟨_, rfl, .inl ⟨rfl, _, SqL.of upd_same⟩, _, rfl, tl, l2, _, _, rfl, rfl, upd_same, Eq.trans (upd_ne nl2) R.lst, ?_, ?_⟩
        · rw [List.length_append, List.length_map, List.length_map]
          show done.length + 1 + (stepOf st j xs).2.length ≤ sizeLine
          omega
        have LL := Lp.told (o3 := .lst (done.map V.int ++ [V.int (((stepOf st j xs).2.map V.int).length : Int)])) (N1.same s3) t3 o1 k3 R hle h4 h5 h6
        refine ⟨_, rfl, i + 1 + Bend.ar j, .ref x0, (stepOf st j xs).1, fp2, done ++ (((stepOf st j xs).2.length : Int) :: (stepOf st j xs).2), some (.int j), some (.int ((i : Int) + 1 + (Bend.ar j : Int))), some (.ref l2), by omega, ?_, ?_⟩
        · rw [← eb]
          rfl
        · rw [List.length_map]
          rw [List.length_map] at LL
          rw [eapp]
          exact LL
      · rw [decide_eq_false (fun z => hz (by have := V.int.inj z; omega))]
        refine iteF ?_
        refine ⟨_, rfl, _, rfl, _, rfl, _, rfl, _, _, rfl, rfl, _, rfl, _, rfl, _, rfl, c, _, rfl, L.seq, fun ln hln => ?_⟩
        have s3 : Same H' (upd H' ln (.lst (cutV (ns.map V.int) (some ((i : Int) + 1)) (some ((i : Int) + 1 + (Bend.ar j : Int)))))) := fun b o e => by rw [upd_ne (ne_of_none e hln)]; exact e
        have nln : ln ∉ fp := fun hb => by
          obtain ⟨o, e⟩ := L.net.some ln hb
          rw [hln] at e; cases e
        have k3 : (∀ H', SqL K H' c (ns.map V.int)) ∨ (c ≠ tl ∧ c ∉ fp ∧ Rd (upd H' ln (.lst (cutV (ns.map V.int) (some ((i : Int) + 1)) (some ((i : Int) + 1 + (Bend.ar j : Int)))))) c (.lst (ns.map V.int))) := by
          rcases L.ck with h | ⟨h1, h2, h3⟩
          · exact .inl h
          · exact .inr ⟨h1, h2, rd_keep h3 fun o e => s3 _ _ e⟩
        refine ⟨_, st, fp, j, xs, ln, rfl, L.net.same s3, hj, hxl, hxb, by rw [← ecut]; exact upd_same, nln, fun z => absurd z hz, fun H2 fp2 l2 R => ?_⟩
        have t3 := s3 _ _ L.tld
        have t2 := R.keep _ _ t3 L.out
        have nl2 : l2 ≠ tl := fun z => by have := R.new; rw [z, t3] at this; cases this
        refine ⟨_, rfl, .inl ⟨rfl, _, SqL.of t2⟩, _, rfl, l2, _, rfl, .inl (SqL.of R.lst), tl, _, _, rfl, rfl, t2, by rw [List.length_map]; omega, ?_⟩
        refine ⟨_, rfl, .inl ⟨rfl, _, SqL.of upd_same⟩, _, rfl, tl, l2, _, _, rfl, rfl, upd_same, Eq.trans (upd_ne nl2) R.lst, ?_, ?_⟩
        · rw [List.length_append, List.length_map, List.length_map]
          show done.length + 1 + (stepOf st j xs).2.length ≤ sizeLine
          omega
        have LL := Lp.told (o3 := .lst (done.map V.int ++ [V.int (((stepOf st j xs).2.map V.int).length : Int)])) (L.net.same s3) t3 L.out k3 R hle h4 h5 h6
        refine ⟨_, rfl, i + 1 + Bend.ar j, v, (stepOf st j xs).1, fp2, done ++ (((stepOf st j xs).2.length : Int) :: (stepOf st j xs).2), some (.int j), some (.int ((i : Int) + 1 + (Bend.ar j : Int))), some (.ref l2), by omega, ?_, ?_⟩
        · rw [← eb]
          rfl
        · rw [List.length_map]
          rw [List.length_map] at LL
          rw [eapp]
          exact LL
    · rw [decide_eq_false hi]
      refine iteF ⟨_, rfl, k H' tl ?_⟩
      obtain ⟨f', cs, h1, _, h3⟩ := L.par
      have e : ns.drop i = [] := List.drop_eq_nil_iff.mpr (by omega)
      rw [e] at h1
      have ecs : cs = [] := by
        unfold PyFlat.calls at h1
        exact (Option.some.inj h1).symm
      subst ecs
      rw [Bend.rest_nil, List.append_nil] at h3
      rw [← h3]
      exact L.tld
end
end BP
end
section
namespace BP
open PySem PySem.Spec PyProof.Rows L2
abbrev sOver : Stmt := top 81
section
variable {P : Program} {w : World} {K : PySem.W.Frag} {mg : Str → Option Value} {base : Heap}
def Handler (P : Program) (w : World) (K : PySem.W.Frag) (mg : Str → Option Value) (base : Heap) (a : Adr) (kh : Nat) (f : Addr) (n : Nat) (g : Kqv6.Map_ → List Nat → Kqv6.Map_ × List Int) : Prop :=
  ∃ fd ps, FnOk P w K mg base CX0 kh f fd ps (spHand a n g) ∧ Binds K fd ps [] ∧ PySem.W.keepIn K (.ref f) = true
def spOver (P : Program) (w : World) (K : PySem.W.Frag) (mg : Str → Option Value) (base : Heap) (a : Adr) (kh : Nat) : Sp := fun vs H Q _ => ∃ (f net ln : Addr) (m : Kqv6.Map_) (fp : List Addr) (xs : List Nat) (g : Kqv6.Map_ → List Nat → Kqv6.Map_ × List Int), vs = [.ref f, .ref net, .ref ln] ∧
  H ln = some (.lst (numsV xs)) ∧ (xs.length = 0 ∨ xs.length = 1 ∨ xs.length = 2 ∨ xs.length = 3 ∨ xs.length = 4 ∨ xs.length = 5 ∨ xs.length = 6 ∨ xs.length = 7) ∧ Handler P w K mg base a kh f xs.length g ∧ StateAt a H net m fp ∧ ∀ H' fp' l, Ret a H H' fp fp' l net (g m xs).1 (g m xs).2 → Q (.ref l) H'
theorem scOver : FnScope ["handler", "network", "n"] ["handler", "network", "n"] (defScope sOver) := ⟨rfl, rfl, rfl, by decide +kernel, rfl, by decide +kernel, by decide +kernel⟩
theorem nums_at {xs : List Nat} {j x : Nat} (h : xs[j]? = some x) : atI (numsV xs) (j : Int) = some (V.int x) := at_of (j := j) rfl (by unfold numsV; rw [List.getElem?_map, h]; rfl)
theorem len_dec {xs : List Nat} {n : Nat} : decide (V.int ((numsV xs).length : Int) = V.int (n : Int)) = decide (xs.length = n) := by
  have e : (numsV xs).length = xs.length := by unfold numsV; rw [List.length_map]
  rw [e]
  by_cases h : xs.length = n
  · rw [decide_eq_true h, decide_eq_true (by rw [h])]
  · rw [decide_eq_false h, decide_eq_false (fun z => h (by have := V.int.inj z; omega))]
theorem ok_over {a : Adr} {f : Addr} {fd : FuncData} {kh : Nat} (F : Fun K "hand_over" "hand_over" sOver f fd) (mlen : mg "len" = none) : FnOk P w K mg base CX0 (kh + 1) f fd ["handler", "network", "n"] (spOver P w K mg base a kh) := by
  refine F.ok scOver (fun vs H Q E h => ?_) (fun cdv A outer s H vs Q E hr h => ?_)
  · obtain ⟨f, net, ln, m, fp, xs, g, rfl, _⟩ := h
    rfl
  · obtain ⟨f, net, ln, m, fp, xs, g, rfl, hln, hx, ⟨fdh, psh, GH, bH, kH⟩, S, k⟩ := h
    have fin : spHand a xs.length g (.ref net :: numsV xs) H Q E0 := ⟨net, m, fp, xs, rfl, rfl, S, k⟩
    refine ⟨_, (pss_cons (ps_if (pt_cmpR op_eq (pe_callB call_len_seq (by rfl) mlen PySem.boot_len (pa_cons (pv 2) pa_nil)) pe_int (nomark _)) (pss_one (ps_ret (pe_callL (pv 0) (pa_cons (pv 1) pa_nil)))) pss_nil)
      (pss_cons (ps_if (pt_cmpR op_eq (pe_callB call_len_seq (by rfl) mlen PySem.boot_len (pa_cons (pv 2) pa_nil)) pe_int (nomark _)) (pss_one (ps_ret (pe_callL (pv 0) (pa_cons (pv 1) (pa_cons (pe_ix ix_list (pv 2) pe_int (fun _ _ => rfl)) pa_nil))))) pss_nil)
      (pss_cons (ps_if (pt_cmpR op_eq (pe_callB call_len_seq (by rfl) mlen PySem.boot_len (pa_cons (pv 2) pa_nil)) pe_int (nomark _)) (pss_one (ps_ret (pe_callL (pv 0) (pa_cons (pv 1) (pa_cons (pe_ix ix_list (pv 2) pe_int (fun _ _ => rfl)) (pa_cons (pe_ix ix_list (pv 2) pe_int (fun _ _ => rfl)) pa_nil)))))) pss_nil)
      (pss_cons (ps_if (pt_cmpR op_eq (pe_callB call_len_seq (by rfl) mlen PySem.boot_len (pa_cons (pv 2) pa_nil)) pe_int (nomark _)) (pss_one (ps_ret (pe_callL (pv 0) (pa_cons (pv 1) (pa_cons (pe_ix ix_list (pv 2) pe_int (fun _ _ => rfl)) (pa_cons (pe_ix ix_list (pv 2) pe_int (fun _ _ => rfl)) (pa_cons (pe_ix ix_list (pv 2) pe_int (fun _ _ => rfl)) pa_nil))))))) pss_nil)
      (pss_cons (ps_if (pt_cmpR op_eq (pe_callB call_len_seq (by rfl) mlen PySem.boot_len (pa_cons (pv 2) pa_nil)) pe_int (nomark _)) (pss_one (ps_ret (pe_callL (pv 0) (pa_cons (pv 1) (pa_cons (pe_ix ix_list (pv 2) pe_int (fun _ _ => rfl)) (pa_cons (pe_ix ix_list (pv 2) pe_int (fun _ _ => rfl)) (pa_cons (pe_ix ix_list (pv 2) pe_int (fun _ _ => rfl)) (pa_cons (pe_ix ix_list (pv 2) pe_int (fun _ _ => rfl)) pa_nil)))))))) pss_nil)
      (pss_cons (ps_if (pt_cmpR op_eq (pe_callB call_len_seq (by rfl) mlen PySem.boot_len (pa_cons (pv 2) pa_nil)) pe_int (nomark _)) (pss_one (ps_ret (pe_callL (pv 0) (pa_cons (pv 1) (pa_cons (pe_ix ix_list (pv 2) pe_int (fun _ _ => rfl)) (pa_cons (pe_ix ix_list (pv 2) pe_int (fun _ _ => rfl)) (pa_cons (pe_ix ix_list (pv 2) pe_int (fun _ _ => rfl)) (pa_cons (pe_ix ix_list (pv 2) pe_int (fun _ _ => rfl)) (pa_cons (pe_ix ix_list (pv 2) pe_int (fun _ _ => rfl)) pa_nil))))))))) pss_nil)
      (pss_cons (ps_if (pt_cmpR op_eq (pe_callB call_len_seq (by rfl) mlen PySem.boot_len (pa_cons (pv 2) pa_nil)) pe_int (nomark _)) (pss_one (ps_ret (pe_callL (pv 0) (pa_cons (pv 1) (pa_cons (pe_ix ix_list (pv 2) pe_int (fun _ _ => rfl)) (pa_cons (pe_ix ix_list (pv 2) pe_int (fun _ _ => rfl)) (pa_cons (pe_ix ix_list (pv 2) pe_int (fun _ _ => rfl)) (pa_cons (pe_ix ix_list (pv 2) pe_int (fun _ _ => rfl)) (pa_cons (pe_ix ix_list (pv 2) pe_int (fun _ _ => rfl)) (pa_cons (pe_ix ix_list (pv 2) pe_int (fun _ _ => rfl)) pa_nil)))))))))) pss_nil)
      (pss_one (ps_ret (pe_callL (pv 0) (pa_cons (pv 1) (pa_cons (pe_ix ix_list (pv 2) pe_int (fun _ _ => rfl)) (pa_cons (pe_ix ix_list (pv 2) pe_int (fun _ _ => rfl)) (pa_cons (pe_ix ix_list (pv 2) pe_int (fun _ _ => rfl)) (pa_cons (pe_ix ix_list (pv 2) pe_int (fun _ _ => rfl)) (pa_cons (pe_ix ix_list (pv 2) pe_int (fun _ _ => rfl)) (pa_cons (pe_ix ix_list (pv 2) pe_int (fun _ _ => rfl)) (pa_cons (pe_ix ix_list (pv 2) pe_int (fun _ _ => rfl)) pa_nil)))))))))))))))))), ?_⟩
    have d0 : decide (V.int ((numsV xs).length : Int) = V.int 0) = decide (xs.length = 0) := len_dec
    refine ⟨_, rfl, ln, _, rfl, .inl (SqL.of hln), rfl, _, rfl, ?_⟩
    rw [d0]
    by_cases h0 : xs.length = 0
    · rw [decide_eq_true h0]
      refine iteT ?_
      obtain rfl : xs = [] := List.eq_nil_of_length_eq_zero h0
      exact ⟨_, rfl, f, rfl, _, rfl, .inl kH, kh, fdh, psh, _, GH, hr, bH, fin⟩
    rw [decide_eq_false h0]
    refine iteF ?_
    have d1 : decide (V.int ((numsV xs).length : Int) = V.int 1) = decide (xs.length = 1) := len_dec
    refine ⟨_, rfl, ln, _, rfl, .inl (SqL.of hln), rfl, _, rfl, ?_⟩
    rw [d1]
    by_cases h1 : xs.length = 1
    · rw [decide_eq_true h1]
      refine iteT ?_
      obtain ⟨x0, rfl⟩ : ∃ x0, xs = [x0] := match xs, h1 with | [x0], _ => ⟨x0, rfl⟩
      exact ⟨_, rfl, f, rfl, _, rfl, _, rfl, ln, _, _, _, rfl, rfl, SqL.of hln, nums_at (j := 0) rfl, .inl kH, kh, fdh, psh, _, GH, hr, bH, fin⟩
    rw [decide_eq_false h1]
    refine iteF ?_
    have d2 : decide (V.int ((numsV xs).length : Int) = V.int 2) = decide (xs.length = 2) := len_dec
    refine ⟨_, rfl, ln, _, rfl, .inl (SqL.of hln), rfl, _, rfl, ?_⟩
    rw [d2]
    by_cases h2 : xs.length = 2
    · rw [decide_eq_true h2]
      refine iteT ?_
      obtain ⟨x0, x1, rfl⟩ : ∃ x0 x1, xs = [x0, x1] := match xs, h2 with | [x0, x1], _ => ⟨x0, x1, rfl⟩
      exact ⟨_, rfl, f, rfl, _, rfl, _, rfl, ln, _, _, _, rfl, rfl, SqL.of hln, nums_at (j := 0) rfl, _, rfl, ln, _, _, _, rfl, rfl, SqL.of hln, nums_at (j := 1) rfl, .inl kH, kh, fdh, psh, _, GH, hr, bH, fin⟩
    rw [decide_eq_false h2]
    refine iteF ?_
    have d3 : decide (V.int ((numsV xs).length : Int) = V.int 3) = decide (xs.length = 3) := len_dec
    refine ⟨_, rfl, ln, _, rfl, .inl (SqL.of hln), rfl, _, rfl, ?_⟩
    rw [d3]
    by_cases h3 : xs.length = 3
    · rw [decide_eq_true h3]
      refine iteT ?_
      obtain ⟨x0, x1, x2, rfl⟩ : ∃ x0 x1 x2, xs = [x0, x1, x2] := match xs, h3 with | [x0, x1, x2], _ => ⟨x0, x1, x2, rfl⟩
      exact ⟨_, rfl, f, rfl, _, rfl, _, rfl, ln, _, _, _, rfl, rfl, SqL.of hln, nums_at (j := 0) rfl, _, rfl, ln, _, _, _, rfl, rfl, SqL.of hln, nums_at (j := 1) rfl, _, rfl, ln, _, _, _, rfl, rfl, SqL.of hln, nums_at (j := 2) rfl, .inl kH, kh, fdh, psh, _, GH, hr, bH, fin⟩
    rw [decide_eq_false h3]
    refine iteF ?_
    have d4 : decide (V.int ((numsV xs).length : Int) = V.int 4) = decide (xs.length = 4) := len_dec
    refine ⟨_, rfl, ln, _, rfl, .inl (SqL.of hln), rfl, _, rfl, ?_⟩
    rw [d4]
    by_cases h4 : xs.length = 4
    · rw [decide_eq_true h4]
      refine iteT ?_
      obtain ⟨x0, x1, x2, x3, rfl⟩ : ∃ x0 x1 x2 x3, xs = [x0, x1, x2, x3] := match xs, h4 with | [x0, x1, x2, x3], _ => ⟨x0, x1, x2, x3, rfl⟩
      exact ⟨_, rfl, f, rfl, _, rfl, _, rfl, ln, _, _, _, rfl, rfl, SqL.of hln, nums_at (j := 0) rfl, _, rfl, ln, _, _, _, rfl, rfl, SqL.of hln, nums_at (j := 1) rfl, _, rfl, ln, _, _, _, rfl, rfl, SqL.of hln, nums_at (j := 2) rfl, _, rfl, ln, _, _, _, rfl, rfl, SqL.of hln, nums_at (j := 3) rfl, .inl kH, kh, fdh, psh, _, GH, hr, bH, fin⟩
    rw [decide_eq_false h4]
    refine iteF ?_
    have d5 : decide (V.int ((numsV xs).length : Int) = V.int 5) = decide (xs.length = 5) := len_dec
    refine ⟨_, rfl, ln, _, rfl, .inl (SqL.of hln), rfl, _, rfl, ?_⟩
    rw [d5]
    by_cases h5 : xs.length = 5
    · rw [decide_eq_true h5]
      refine iteT ?_
      obtain ⟨x0, x1, x2, x3, x4, rfl⟩ : ∃ x0 x1 x2 x3 x4, xs = [x0, x1, x2, x3, x4] := match xs, h5 with | [x0, x1, x2, x3, x4], _ => ⟨x0, x1, x2, x3, x4, rfl⟩
      exact ⟨_, rfl, f, rfl, _, rfl, _, rfl, ln, _, _, _, rfl, rfl, SqL.of hln, nums_at (j := 0) rfl, _, rfl, ln, _, _, _, rfl, rfl, SqL.of hln, nums_at (j := 1) rfl, _, rfl, ln, _, _, _, rfl, rfl, SqL.of hln, nums_at (j := 2) rfl, _, rfl, ln, _, _, _, rfl, rfl, SqL.of hln, nums_at (j := 3) rfl, _, rfl, ln, _, _, _, rfl, rfl, SqL.of hln, nums_at (j := 4) rfl, .inl kH, kh, fdh, psh, _, GH, hr, bH, fin⟩
    rw [decide_eq_false h5]
    refine iteF ?_
    have d6 : decide (V.int ((numsV xs).length : Int) = V.int 6) = decide (xs.length = 6) := len_dec
    refine ⟨_, rfl, ln, _, rfl, .inl (SqL.of hln), rfl, _, rfl, ?_⟩
    rw [d6]
    by_cases h6 : xs.length = 6
    · rw [decide_eq_true h6]
      refine iteT ?_
      obtain ⟨x0, x1, x2, x3, x4, x5, rfl⟩ : ∃ x0 x1 x2 x3 x4 x5, xs = [x0, x1, x2, x3, x4, x5] := match xs, h6 with | [x0, x1, x2, x3, x4, x5], _ => ⟨x0, x1, x2, x3, x4, x5, rfl⟩
      exact ⟨_, rfl, f, rfl, _, rfl, _, rfl, ln, _, _, _, rfl, rfl, SqL.of hln, nums_at (j := 0) rfl, _, rfl, ln, _, _, _, rfl, rfl, SqL.of hln, nums_at (j := 1) rfl, _, rfl, ln, _, _, _, rfl, rfl, SqL.of hln, nums_at (j := 2) rfl, _, rfl, ln, _, _, _, rfl, rfl, SqL.of hln, nums_at (j := 3) rfl, _, rfl, ln, _, _, _, rfl, rfl, SqL.of hln, nums_at (j := 4) rfl, _, rfl, ln, _, _, _, rfl, rfl, SqL.of hln, nums_at (j := 5) rfl, .inl kH, kh, fdh, psh, _, GH, hr, bH, fin⟩
    rw [decide_eq_false h6]
    refine iteF ?_
    have h7 : xs.length = 7 := by omega
    obtain ⟨x0, x1, x2, x3, x4, x5, x6, rfl⟩ : ∃ x0 x1 x2 x3 x4 x5 x6, xs = [x0, x1, x2, x3, x4, x5, x6] := match xs, h7 with | [x0, x1, x2, x3, x4, x5, x6], _ => ⟨x0, x1, x2, x3, x4, x5, x6, rfl⟩
    exact ⟨_, rfl, f, rfl, _, rfl, _, rfl, ln, _, _, _, rfl, rfl, SqL.of hln, nums_at (j := 0) rfl, _, rfl, ln, _, _, _, rfl, rfl, SqL.of hln, nums_at (j := 1) rfl, _, rfl, ln, _, _, _, rfl, rfl, SqL.of hln, nums_at (j := 2) rfl, _, rfl, ln, _, _, _, rfl, rfl, SqL.of hln, nums_at (j := 3) rfl, _, rfl, ln, _, _, _, rfl, rfl, SqL.of hln, nums_at (j := 4) rfl, _, rfl, ln, _, _, _, rfl, rfl, SqL.of hln, nums_at (j := 5) rfl, _, rfl, ln, _, _, _, rfl, rfl, SqL.of hln, nums_at (j := 6) rfl, .inl kH, kh, fdh, psh, _, GH, hr, bH, fin⟩
end
end BP
end
section
namespace BP
open Kqv6 (Map_)
def Steps (j : Nat) (g : Map_ → List Nat → Map_ × List Int) : Prop := ∀ (m : Map_) (xs : List Nat), xs.length = Bend.ar j → stepOf (some m) j xs = (some (g m xs).1, (g m xs).2)
theorem st_place : Steps 1 gPlace := fun m xs h => by
  obtain rfl : xs = [] := List.eq_nil_of_length_eq_zero h
  show ((Kqv6.step (some m) .place).1, Kqv6Neutral.tell (Kqv6.step (some m) .place).2) = _
  unfold gPlace Kqv6.step
  dsimp only
  by_cases c : 8 ≤ m.places
  · rw [if_pos c, if_pos c]; rfl
  · rw [if_neg c, if_neg c]; rfl
theorem st_road : Steps 2 gRoad := fun m xs h => by
  obtain ⟨p, q, t, hh, wt, wa, wb, rfl⟩ := len7 h
  show ((Kqv6.step (some m) (.road p q t hh wt wa wb)).1, Kqv6Neutral.tell (Kqv6.step (some m) (.road p q t hh wt wa wb)).2) = _
  unfold gRoad Kqv6.step
  dsimp only
  by_cases c1 : Kqv6.okEnds m p q = false
  · rw [if_pos c1, if_pos c1]; rfl
  rw [if_neg c1, if_neg c1]
  by_cases c2 : p = q ∨ t = 0 ∨ 200 < t ∨ 100 < hh ∨ 1000 < wt ∨ 200 < wa ∨ 200 < wb
  · rw [if_pos c2, if_pos c2]; rfl
  rw [if_neg c2, if_neg c2]
  by_cases c3 : 14 ≤ m.roads.length
  · rw [if_pos c3, if_pos c3]; rfl
  · rw [if_neg c3, if_neg c3]; rfl
theorem st_close : Steps 3 gClose := fun m xs h => by
  obtain ⟨r, on, rfl⟩ := len2 h
  show ((Kqv6.step (some m) (.close r on)).1, Kqv6Neutral.tell (Kqv6.step (some m) (.close r on)).2) = _
  unfold gClose Kqv6.step
  dsimp only
  cases m.roads[r]? with
  | none => rfl
  | some x =>
    dsimp only
    by_cases c : 1 < on
    · rw [if_pos c, if_pos c]; rfl
    · rw [if_neg c, if_neg c]; rfl
theorem st_widen : Steps 4 gWiden := fun m xs h => by
  obtain ⟨r, wa, wb, rfl⟩ := len3 h
  show ((Kqv6.step (some m) (.widen r wa wb)).1, Kqv6Neutral.tell (Kqv6.step (some m) (.widen r wa wb)).2) = _
  unfold gWiden Kqv6.step
  dsimp only
  cases m.roads[r]? with
  | none => rfl
  | some x =>
    dsimp only
    by_cases c : 200 < wa ∨ 200 < wb ∨ wa < x.a ∨ wb < x.b ∨ (x.a = 0 ∧ x.b = 0)
    · rw [if_pos c, if_pos c]; rfl
    · rw [if_neg c, if_neg c]; rfl
theorem st_round : Steps 5 gRound := fun m xs h => by
  obtain ⟨l, wa, wb, rfl⟩ := len3 h
  show ((some m : Option Map_), Kqv6Neutral.tell (if 300 < l ∨ 200 < wa ∨ 200 < wb then .num (-22) else .num (if Kqv6.round l wa wb then 1 else 0))) = ((some m : Option Map_), [if 300 < l ∨ 200 < wa ∨ 200 < wb then -22 else if Kqv6.round l wa wb then 1 else 0])
  by_cases c : 300 < l ∨ 200 < wa ∨ 200 < wb
  · rw [if_pos c, if_pos c]; rfl
  · rw [if_neg c, if_neg c]; rfl
theorem st_longest : Steps 6 gLongest := fun m xs h => by
  obtain ⟨wa, wb, rfl⟩ := len2 h
  show ((some m : Option Map_), Kqv6Neutral.tell (if 200 < wa ∨ 200 < wb then .num (-22) else .num (Kqv6.longest wa wb))) = ((some m : Option Map_), [if 200 < wa ∨ 200 < wb then -22 else (Kqv6.longest wa wb : Int)])
  by_cases c : 200 < wa ∨ 200 < wb
  · rw [if_pos c, if_pos c]; rfl
  · rw [if_neg c, if_neg c]; rfl
theorem st_narrow : Steps 7 gNarrow := fun m xs h => by
  obtain ⟨l, wa, rfl⟩ := len2 h
  show ((some m : Option Map_), Kqv6Neutral.tell (if 300 < l ∨ 200 < wa then .num (-22) else match Kqv6.narrowest l wa with | none => .num (-33) | some b => .num b)) = ((some m : Option Map_), [if 300 < l ∨ 200 < wa then -22 else match Kqv6.narrowest l wa with | none => -33 | some b => (b : Int)])
  by_cases c : 300 < l ∨ 200 < wa
  · rw [if_pos c, if_pos c]; rfl
  · rw [if_neg c, if_neg c]
    cases Kqv6.narrowest l wa <;> rfl
theorem st_may : Steps 8 gMay := fun m xs h => by
  obtain ⟨r, l, hh, wt, rfl⟩ := len4 h
  show ((some m : Option Map_), Kqv6Neutral.tell (match m.roads[r]? with | none => .num (-2) | some x => if Kqv6.okLoad ⟨l, hh, wt⟩ = false then .num (-22) else .num (Kqv6.why x ⟨l, hh, wt⟩))) = ((some m : Option Map_), [match m.roads[r]? with | none => -2 | some x => if Kqv6.okLoad ⟨l, hh, wt⟩ = false then -22 else (Kqv6.why x ⟨l, hh, wt⟩ : Int)])
  cases m.roads[r]? with
  | none => rfl
  | some x =>
    dsimp only
    by_cases c : Kqv6.okLoad ⟨l, hh, wt⟩ = false
    · rw [if_pos c, if_pos c]; rfl
    · rw [if_neg c, if_neg c]; rfl
theorem st_way : Steps 9 gWay := fun m xs h => by
  obtain ⟨p, q, l, hh, wt, rfl⟩ := len5 h
  show ((some m : Option Map_), Kqv6Neutral.tell (if Kqv6.okEnds m p q = false then .num (-2) else if Kqv6.okLoad ⟨l, hh, wt⟩ = false then .num (-22) else match Kqv6.way m.roads m.places ⟨l, hh, wt⟩ p q with | none => .num (-33) | some z => .some_ z.1 z.2)) =
    ((some m : Option Map_), if Kqv6.okEnds m p q = false then [-2] else if Kqv6.okLoad ⟨l, hh, wt⟩ = false then [-22] else match Kqv6.way m.roads m.places ⟨l, hh, wt⟩ p q with | none => [-33] | some z => (z.1 : Int) :: z.2.map fun (i : Nat) => (i : Int))
  by_cases c1 : Kqv6.okEnds m p q = false
  · rw [if_pos c1, if_pos c1]; rfl
  rw [if_neg c1, if_neg c1]
  by_cases c2 : Kqv6.okLoad ⟨l, hh, wt⟩ = false
  · rw [if_pos c2, if_pos c2]; rfl
  rw [if_neg c2, if_neg c2]
  cases Kqv6.way m.roads m.places ⟨l, hh, wt⟩ p q <;> rfl
theorem tell_opt (o : Option Nat) : Kqv6Neutral.tell (match o with | none => .num (-33) | some l => .num l) = [optI o] := by cases o <;> rfl
theorem st_most : Steps 10 gMost := fun m xs h => by
  obtain ⟨p, q, hh, wt, rfl⟩ := len4 h
  show ((some m : Option Map_), Kqv6Neutral.tell (if Kqv6.okEnds m p q = false then .num (-2) else if p = q ∨ Kqv6.okLoad ⟨0, hh, wt⟩ = false then .num (-22) else match Kqv6.most m.roads m.places p q hh wt with | none => .num (-33) | some l => .num l)) =
    ((some m : Option Map_), [if Kqv6.okEnds m p q = false then -2 else if p = q ∨ Kqv6.okLoad ⟨0, hh, wt⟩ = false then -22 else optI (Kqv6.most m.roads m.places p q hh wt)])
  by_cases c1 : Kqv6.okEnds m p q = false
  · rw [if_pos c1, if_pos c1]; rfl
  rw [if_neg c1, if_neg c1]
  by_cases c2 : p = q ∨ Kqv6.okLoad ⟨0, hh, wt⟩ = false
  · rw [if_pos c2, if_pos c2]; rfl
  rw [if_neg c2, if_neg c2, tell_opt]
theorem st_heavy : Steps 11 gHeavy := fun m xs h => by
  obtain ⟨p, q, u, v, rfl⟩ := len4 h
  show ((some m : Option Map_), Kqv6Neutral.tell (if Kqv6.okEnds m p q = false then .num (-2) else if p = q ∨ Kqv6.okLoad ⟨u, v, 0⟩ = false then .num (-22) else match Kqv6.limit (m.roads.map fun r => r.heavy) (fun z => (Kqv6.way m.roads m.places ⟨u, v, z⟩ p q).isSome) with | none => .num (-33) | some l => .num l)) =
    ((some m : Option Map_), [if Kqv6.okEnds m p q = false then -2 else if p = q ∨ Kqv6.okLoad ⟨u, v, 0⟩ = false then -22 else optI (Kqv6.limit (m.roads.map fun r => r.heavy) fun z => (Kqv6.way m.roads m.places ⟨u, v, z⟩ p q).isSome)])
  by_cases c1 : Kqv6.okEnds m p q = false
  · rw [if_pos c1, if_pos c1]; rfl
  rw [if_neg c1, if_neg c1]
  by_cases c2 : p = q ∨ Kqv6.okLoad ⟨u, v, 0⟩ = false
  · rw [if_pos c2, if_pos c2]; rfl
  rw [if_neg c2, if_neg c2, tell_opt]
theorem st_high : Steps 12 gHigh := fun m xs h => by
  obtain ⟨p, q, u, v, rfl⟩ := len4 h
  show ((some m : Option Map_), Kqv6Neutral.tell (if Kqv6.okEnds m p q = false then .num (-2) else if p = q ∨ Kqv6.okLoad ⟨u, 0, v⟩ = false then .num (-22) else match Kqv6.limit (m.roads.map fun r => r.high) (fun z => (Kqv6.way m.roads m.places ⟨u, z, v⟩ p q).isSome) with | none => .num (-33) | some l => .num l)) =
    ((some m : Option Map_), [if Kqv6.okEnds m p q = false then -2 else if p = q ∨ Kqv6.okLoad ⟨u, 0, v⟩ = false then -22 else optI (Kqv6.limit (m.roads.map fun r => r.high) fun z => (Kqv6.way m.roads m.places ⟨u, z, v⟩ p q).isSome)])
  by_cases c1 : Kqv6.okEnds m p q = false
  · rw [if_pos c1, if_pos c1]; rfl
  rw [if_neg c1, if_neg c1]
  by_cases c2 : p = q ∨ Kqv6.okLoad ⟨u, 0, v⟩ = false
  · rw [if_pos c2, if_pos c2]; rfl
  rw [if_neg c2, if_neg c2, tell_opt]
theorem st_needs : Steps 13 gNeeds := fun m xs h => by
  obtain ⟨p, q, l, hh, wt, rfl⟩ := len5 h
  show ((some m : Option Map_), Kqv6Neutral.tell (if Kqv6.okEnds m p q = false then .num (-2) else if Kqv6.okLoad ⟨l, hh, wt⟩ = false then .num (-22) else if (Kqv6.way m.roads m.places ⟨l, hh, wt⟩ p q).isNone then .num (-33) else Kqv6.row ((List.range m.roads.length).filter (need m.roads m.places ⟨l, hh, wt⟩ p q)))) =
    ((some m : Option Map_), if Kqv6.okEnds m p q = false then [-2] else if Kqv6.okLoad ⟨l, hh, wt⟩ = false then [-22] else if (Kqv6.way m.roads m.places ⟨l, hh, wt⟩ p q).isNone then [-33] else ((((List.range m.roads.length).filter (need m.roads m.places ⟨l, hh, wt⟩ p q)).length : Nat) : Int) :: ((List.range m.roads.length).filter (need m.roads m.places ⟨l, hh, wt⟩ p q)).map fun (i : Nat) => (i : Int))
  by_cases c1 : Kqv6.okEnds m p q = false
  · rw [if_pos c1, if_pos c1]; rfl
  rw [if_neg c1, if_neg c1]
  by_cases c2 : Kqv6.okLoad ⟨l, hh, wt⟩ = false
  · rw [if_pos c2, if_pos c2]; rfl
  rw [if_neg c2, if_neg c2]
  by_cases c3 : (Kqv6.way m.roads m.places ⟨l, hh, wt⟩ p q).isNone = true
  · rw [if_pos c3, if_pos c3]; rfl
  rw [if_neg c3, if_neg c3]
  rfl
theorem st_soon : Steps 14 gSoon := fun m xs h => by
  obtain ⟨p, q, l, hh, wt, t, rfl⟩ := len6 h
  show ((some m : Option Map_), Kqv6Neutral.tell (if Kqv6.okEnds m p q = false then .num (-2) else if Kqv6.okLoad ⟨l, hh, wt⟩ = false ∨ 5000 < t then .num (-22) else match Kqv6.way m.roads m.places ⟨l, hh, wt⟩ p q with | none => .num (-33) | some z => match Kqv6.soonest m z.2 t with | none => .num (-33) | some u => .some_ u [u + z.1])) =
    ((some m : Option Map_), if Kqv6.okEnds m p q = false then [-2] else if Kqv6.okLoad ⟨l, hh, wt⟩ = false ∨ 5000 < t then [-22] else match Kqv6.way m.roads m.places ⟨l, hh, wt⟩ p q with | none => [-33] | some z => match Kqv6.soonest m z.2 t with | none => [-33] | some u => [(u : Int), ((u + z.1 : Nat) : Int)])
  by_cases c1 : Kqv6.okEnds m p q = false
  · rw [if_pos c1, if_pos c1]; rfl
  rw [if_neg c1, if_neg c1]
  by_cases c2 : Kqv6.okLoad ⟨l, hh, wt⟩ = false ∨ 5000 < t
  · rw [if_pos c2, if_pos c2]; rfl
  rw [if_neg c2, if_neg c2]
  cases Kqv6.way m.roads m.places ⟨l, hh, wt⟩ p q with
  | none => rfl
  | some z =>
    dsimp only
    cases Kqv6.soonest m z.2 t <;> rfl
theorem st_send : Steps 15 gSend := fun m xs h => by
  obtain ⟨p, q, l, hh, wt, t, rfl⟩ := len6 h
  show ((Kqv6.step (some m) (.send p q l hh wt t)).1, Kqv6Neutral.tell (Kqv6.step (some m) (.send p q l hh wt t)).2) = _
  unfold gSend Kqv6.step
  dsimp only
  by_cases c1 : Kqv6.okEnds m p q = false
  · rw [if_pos c1, if_pos c1]; rfl
  rw [if_neg c1, if_neg c1]
  by_cases c2 : Kqv6.okLoad ⟨l, hh, wt⟩ = false ∨ 5000 < t
  · have c2' : Kqv6.okLoad ⟨l, hh, wt⟩ = false ∨ Kqv6.MINUTE < t := c2
    rw [if_pos c2', if_pos c2]; rfl
  have c2' : ¬ (Kqv6.okLoad ⟨l, hh, wt⟩ = false ∨ Kqv6.MINUTE < t) := c2
  rw [if_neg c2', if_neg c2]
  cases Kqv6.way m.roads m.places ⟨l, hh, wt⟩ p q with
  | none => rfl
  | some z =>
    dsimp only
    by_cases c3 : Kqv6.free m ⟨t, z.2⟩ = false
    · rw [if_pos c3, if_pos c3]; rfl
    rw [if_neg c3, if_neg c3]
    by_cases c4 : 8 ≤ (Kqv6.all m).length
    · rw [if_pos c4, if_pos c4]; rfl
    · rw [if_neg c4, if_neg c4]; rfl
theorem st_drop : Steps 16 gDrop := fun m xs h => by
  obtain ⟨k, rfl⟩ := len1 h
  show ((Kqv6.step (some m) (.drop k)).1, Kqv6Neutral.tell (Kqv6.step (some m) (.drop k)).2) = _
  unfold gDrop Kqv6.step
  dsimp only
  cases m.convoys.getD k none <;> rfl
theorem st_where : Steps 17 gWhere := fun m xs h => by
  obtain ⟨k, t, rfl⟩ := len2 h
  show ((some m : Option Map_), Kqv6Neutral.tell (match m.convoys.getD k none with | none => .num (-2) | some c => match (Kqv6.spans m c).find? (Bend.holds t) with | none => .num (-33) | some x => .some_ x.1 [x.2.2 - t])) =
    ((some m : Option Map_), match m.convoys.getD k none with | none => [-2] | some c => match (Kqv6.spans m c).find? (Bend.holds t) with | none => [-33] | some x => [(x.1 : Int), ((x.2.2 - t : Nat) : Int)])
  cases m.convoys.getD k none with
  | none => rfl
  | some c =>
    dsimp only
    cases (Kqv6.spans m c).find? (Bend.holds t) <;> rfl
theorem st_busy : Steps 18 gBusy := fun m xs h => by
  obtain ⟨r, t, rfl⟩ := len2 h
  show ((some m : Option Map_), Kqv6Neutral.tell (if m.roads.length ≤ r then .num (-2) else match (Kqv6.all m).find? (onIt m r t) with | none => .num (-33) | some d => .num d.1)) =
    ((some m : Option Map_), [if m.roads.length ≤ r then -2 else optI (((Kqv6.all m).find? (onIt m r t)).map (·.1))])
  by_cases c1 : m.roads.length ≤ r
  · rw [if_pos c1, if_pos c1]; rfl
  rw [if_neg c1, if_neg c1]
  cases (Kqv6.all m).find? (onIt m r t) <;> rfl
theorem st_convoy : Steps 19 gConvoy := fun m xs h => by
  obtain ⟨k, rfl⟩ := len1 h
  show ((some m : Option Map_), Kqv6Neutral.tell (match m.convoys.getD k none with | none => .num (-2) | some c => .some_ c.minute c.roads)) =
    ((some m : Option Map_), match m.convoys.getD k none with | none => [-2] | some c => (c.minute : Int) :: c.roads.map fun (i : Nat) => (i : Int))
  cases m.convoys.getD k none <;> rfl
theorem st_look : Steps 20 gLook := fun m xs h => by
  obtain ⟨r, rfl⟩ := len1 h
  show ((some m : Option Map_), Kqv6Neutral.tell (match m.roads[r]? with | none => .num (-2) | some x => .some_ x.minutes [x.p, x.q, x.high, x.heavy, x.a, x.b, if x.closed then 1 else 0])) =
    ((some m : Option Map_), match m.roads[r]? with | none => [-2] | some x => [(x.minutes : Int), (x.p : Int), (x.q : Int), (x.high : Int), (x.heavy : Int), (x.a : Int), (x.b : Int), if x.closed then 1 else 0])
  cases m.roads[r]? with
  | none => rfl
  | some x =>
    dsimp only
    by_cases c : x.closed = true
    · rw [if_pos c, if_pos c]; rfl
    · rw [if_neg c, if_neg c]; rfl
theorem st_state : Steps 21 gState := fun m xs h => by
  obtain rfl : xs = [] := List.eq_nil_of_length_eq_zero h
  rfl
theorem st_none {j : Nat} {xs : List Nat} (hj : j < 22) (h0 : j ≠ 0) (hl : xs.length = Bend.ar j) : stepOf none j xs = (none, [-11]) := by
  match j, hj, xs, hl, h0 with
  | 0, _, _, _, h0 => exact absurd rfl h0
  | 1, _, [], _, _ | 21, _, [], _, _ => rfl
  | 16, _, [a], _, _ | 19, _, [a], _, _ | 20, _, [a], _, _ => rfl
  | 3, _, [a, b], _, _ | 6, _, [a, b], _, _ | 7, _, [a, b], _, _ | 17, _, [a, b], _, _ | 18, _, [a, b], _, _ => rfl
  | 4, _, [a, b, c], _, _ | 5, _, [a, b, c], _, _ => rfl
  | 8, _, [a, b, c, d], _, _ | 10, _, [a, b, c, d], _, _ | 11, _, [a, b, c, d], _, _ | 12, _, [a, b, c, d], _, _ => rfl
  | 9, _, [a, b, c, d, e], _, _ | 13, _, [a, b, c, d, e], _, _ => rfl
  | 14, _, [a, b, c, d, e, f], _, _ | 15, _, [a, b, c, d, e, f], _, _ => rfl
  | 2, _, [a, b, c, d, e, f, g], _, _ => rfl
  | j + 22, hj, _, _, _ => exact absurd hj (by omega)
end BP
end
section
namespace BP
open PySem PySem.Spec PyProof.Rows L2
abbrev sACall : Stmt := top 82
theorem ar_le : ∀ j, j < 22 → Bend.ar j ≤ 7 := by decide
def Serves (P : Program) (w : World) (K : PySem.W.Frag) (mg : Str → Option Value) (base : Heap) (a : Adr) (kh : Nat) (f : Addr) (j : Nat) : Prop :=
  ∃ g, Handler P w K mg base a kh f (Bend.ar j) g ∧ ∀ (m : Kqv6.Map_) (xs : List Nat), (j = 0 → m = ⟨0, [], []⟩) → xs.length = Bend.ar j → stepOf (some m) j xs = (some (g m xs).1, (g m xs).2)
theorem serves {P : Program} {w : World} {K : PySem.W.Frag} {mg : Str → Option Value} {base : Heap} {a : Adr} {k kh n : Nat} {f : Addr} {fd : FuncData} {ps : List Str} {j : Nat} {g : Kqv6.Map_ → List Nat → Kqv6.Map_ × List Int} (G : FnOk P w K mg base CX0 k f fd ps (spHand a n g)) (hk : k ≤ kh) (b : Binds K fd ps []) (kp : PySem.W.keepIn K (.ref f) = true) (hn : n = Bend.ar j) (S : Steps j g) : Serves P w K mg base a kh f j := by
  subst hn
  exact ⟨g, ⟨fd, ps, G.mono hk, b, kp⟩, fun m xs _ h => S m xs h⟩
theorem serves0 {P : Program} {w : World} {K : PySem.W.Frag} {mg : Str → Option Value} {base : Heap} {a : Adr} {k kh : Nat} {f : Addr} {fd : FuncData} {ps : List Str} (G : FnOk P w K mg base CX0 k f fd ps (spHand a 0 fun m _ => (m, [0]))) (hk : k ≤ kh) (b : Binds K fd ps []) (kp : PySem.W.keepIn K (.ref f) = true) : Serves P w K mg base a kh f 0 := by
  refine ⟨_, ⟨fd, ps, G.mono hk, b, kp⟩, fun m xs h0 h => ?_⟩
  obtain rfl := h0 rfl
  obtain rfl : xs = [] := List.eq_nil_of_length_eq_zero h
  rfl
section
variable {P : Program} {w : World} {K : PySem.W.Frag} {mg : Str → Option Value} {base : Heap}
theorem scACall : FnScope ["network", "call", "numbers"] ["network", "call", "numbers"] (defScope sACall) := ⟨rfl, rfl, rfl, by decide +kernel, rfl, by decide +kernel, by decide +kernel⟩
theorem ok_aCall {a : Adr} {f fO th : Addr} {fd fdO : FuncData} {kh : Nat} {fs : List Addr} (F : Fun K "answer_call" "answer_call" sACall f fd) (FO : Fun K "hand_over" "hand_over" sOver fO fdO) (mO : mg "hand_over" = some (.ref fO)) (bO : Binds K fdO ["handler", "network", "n"] []) (mlen : mg "len" = none) (c11 : CI mg "NOT_STARTED" (-11))
    (mT : mg "HANDLERS" = some (.ref th)) (hT : ∀ H, SqT K H th (fs.map V.ref)) (hfs : ∀ j, j < 22 → ∃ fj, fs[j]? = some fj ∧ Serves P w K mg base a kh fj j) :
    FnOk P w K mg base CX0 (kh + 2) f fd ["network", "call", "numbers"] (spAC a) := by
  have GO : FnOk P w K mg base CX0 (kh + 1) fO fdO ["handler", "network", "n"] (spOver P w K mg base a kh) := ok_over FO mlen
  refine F.ok scACall (fun vs H Q E h => ?_) (fun cdv A outer s H vs Q E hr h => ?_)
  · obtain ⟨v, st, fp, j, xs, ln, rfl, _⟩ := h
    rfl
  · obtain ⟨v, st, fp, j, xs, ln, rfl, hS, hj, hxl, hxb, hln, hnf, h0, k⟩ := h
    refine ⟨_, pss_cons (ps_if (pt_cmpR op_isN (pv 0) pe_non (nomark _)) (pss_one (ps_ret (pe_lst (pa_cons (pe_ci rfl c11) pa_nil)))) pss_nil)
      (pss_one (ps_ret (pe_call GO hr rfl mO FO.kp bO .nil pass0 (pa_cons (pe_ix ix_tup (pe_glob (v := .ref th) rfl mT rfl) (pv 1) (fun _ _ => rfl)) (pa_cons (pv 0) (pa_cons (pv 2) pa_nil)))))), ?_⟩
    cases st with
    | none =>
      have hS0 := hS
      obtain ⟨rfl, efp, t1, t2⟩ := hS0
      have hj0 : j ≠ 0 := fun z => by have := h0 z; cases this
      rw [st_none hj hj0 hxl] at k
      refine ⟨_, rfl, rfl, _, rfl, iteT ⟨zL1, fun l hl => k _ fp l ?_⟩⟩
      have s2 : Same H (upd H l (.lst [V.int (-11)])) := fun b o e => by rw [upd_ne (ne_of_none e hl)]; exact e
      refine ⟨hl, upd_same, hS.same s2, fun hb => ?_, fun b hb => .inl hb, fun b o e _ => s2 b o e⟩
      obtain ⟨o, e⟩ := hS.some l hb
      rw [hl] at e; cases e
    | some m =>
      obtain ⟨net, rfl, S⟩ := hS
      obtain ⟨fj, hfj, g, hH, hst⟩ := hfs j hj
      rw [hst m xs (fun z => Option.some.inj (h0 z)) hxl] at k
      have hle := ar_le j hj
      refine ⟨_, rfl, rfl, _, rfl, iteF ⟨_, rfl, th, _, _, _, rfl, rfl, hT _, at_of (j := j) (v := V.ref fj) rfl (by rw [List.getElem?_map, hfj]; rfl), _, rfl, _, rfl, fj, net, ln, m, fp, xs, g, rfl, hln, by omega, by rw [hxl]; exact hH, S, fun H' fp' l R => k H' fp' l ⟨R.new, R.lst, ⟨net, rfl, R.st⟩, R.out, R.sub, R.keep⟩⟩⟩
end
end BP
end
section
namespace BP
open PySem PySem.Spec PyProof.Rows L2
def intOf : Value → Option Int
  | .int i _ => some i
  | _ => none
theorem vals_ints : ∀ {us : List Value} {ns : List Int}, us.map intOf = ns.map some → Vals (ns.map V.int) us
  | [], [], _ => .nil
  | [], n :: ns, h => by simp at h
  | u :: us, [], h => by simp at h
  | u :: us, n :: ns, h => by
    rw [List.map_cons, List.map_cons] at h
    obtain ⟨h1, h2⟩ := List.cons.inj h
    have r : RelV (V.int n) u := by
      cases u with
      | int i t => cases h1; exact ⟨t, rfl⟩
      | _ => cases h1
    exact .cons r (vals_ints h2)
theorem vals_refs : ∀ fs : List Addr, Vals (fs.map V.ref) (fs.map Value.ref)
  | [] => .nil
  | f :: fs => .cons rfl (vals_refs fs)
theorem assemble {P : Program} {w : World} {K : PySem.W.Frag} {h : Heap} {mg : Str → Option Value} {fa c1 c2 P1 P2 : Addr} (X : K.In h) (G : h.Ns mainGlobals mg) (hfa : mg "answers" = some (.ref fa))
 {t_MOST_PLACES : Tok}
 {t_MOST_ROADS : Tok}
 {t_MOST_CONVOYS : Tok}
 {t_MOST_MINUTES : Tok}
 {t_MOST_HIGH : Tok}
 {t_MOST_HEAVY : Tok}
 {t_MOST_LONG : Tok}
 {t_MOST_WIDE : Tok}
 {t_LATEST_START : Tok}
 {t_MAY_GO : Tok}
 {t_TOO_HIGH : Tok}
 {t_TOO_HEAVY : Tok}
 {t_NOT_ROUND : Tok}
 {t_IS_CLOSED : Tok}
 {t_NO_SUCH : Tok}
 {t_NOT_STARTED : Tok}
 {t_WOULD_MEET : Tok}
 {t_NOT_AS_TOLD : Tok}
 {t_FULL : Tok}
 {t_NONE_FOUND : Tok}
 {t_START : Tok}
 {fq61 : Addr} {odq61 anq61 : Option Addr} {slq61 : Array (Option Value)} {ocq61 kVq61 dcq61 pmq61 ctq61 : Value} {cdq61 : Value}
 {fq51 : Addr} {odq51 anq51 : Option Addr} {slq51 : Array (Option Value)} {ocq51 kVq51 dcq51 pmq51 ctq51 : Value} {cdq51 : Value}
 {fq49 : Addr} {odq49 anq49 : Option Addr} {slq49 : Array (Option Value)} {ocq49 kVq49 dcq49 pmq49 ctq49 : Value}
 {fq16 : Addr} {odq16 anq16 : Option Addr} {slq16 : Array (Option Value)} {ocq16 kVq16 dcq16 pmq16 ctq16 : Value} {cdq16 : Value}
 {fq54 : Addr} {odq54 anq54 : Option Addr} {slq54 : Array (Option Value)} {ocq54 kVq54 dcq54 pmq54 ctq54 : Value} {cdq54 : Value}
 {fq44 : Addr} {odq44 anq44 : Option Addr} {slq44 : Array (Option Value)} {ocq44 kVq44 dcq44 pmq44 ctq44 : Value} {cdq44 : Value}
 {fq30 : Addr} {odq30 anq30 : Option Addr} {slq30 : Array (Option Value)} {ocq30 kVq30 dcq30 pmq30 ctq30 : Value} {cdq30 : Value}
 {fq3 : Addr} {odq3 anq3 : Option Addr} {slq3 : Array (Option Value)} {ocq3 kVq3 dcq3 pmq3 ctq3 : Value} {cdq3 : Value}
 {fq6 : Addr} {odq6 anq6 : Option Addr} {slq6 : Array (Option Value)} {ocq6 kVq6 dcq6 pmq6 ctq6 : Value} {cdq6 : Value}
 {fq58 : Addr} {odq58 anq58 : Option Addr} {slq58 : Array (Option Value)} {ocq58 kVq58 dcq58 pmq58 ctq58 : Value} {cdq58 : Value}
 {fq60 : Addr} {odq60 anq60 : Option Addr} {slq60 : Array (Option Value)} {ocq60 kVq60 dcq60 pmq60 ctq60 : Value} {cdq60 : Value}
 {fq18 : Addr} {odq18 anq18 : Option Addr} {slq18 : Array (Option Value)} {ocq18 kVq18 dcq18 pmq18 ctq18 : Value} {cdq18 : Value}
 {fq25 : Addr} {odq25 anq25 : Option Addr} {slq25 : Array (Option Value)} {ocq25 kVq25 dcq25 pmq25 ctq25 : Value} {cdq25 : Value}
 {fq59 : Addr} {odq59 anq59 : Option Addr} {slq59 : Array (Option Value)} {ocq59 kVq59 dcq59 pmq59 ctq59 : Value} {cdq59 : Value}
 {fq65 : Addr} {odq65 anq65 : Option Addr} {slq65 : Array (Option Value)} {ocq65 kVq65 dcq65 pmq65 ctq65 : Value} {cdq65 : Value}
 {fq11 : Addr} {odq11 anq11 : Option Addr} {slq11 : Array (Option Value)} {ocq11 kVq11 dcq11 pmq11 ctq11 : Value}
 {fq13 : Addr} {odq13 anq13 : Option Addr} {slq13 : Array (Option Value)} {ocq13 kVq13 dcq13 pmq13 ctq13 : Value} {cdq13 : Value}
 {fq12 : Addr} {odq12 anq12 : Option Addr} {slq12 : Array (Option Value)} {ocq12 kVq12 dcq12 pmq12 ctq12 : Value} {cdq12 : Value}
 {fq57 : Addr} {odq57 anq57 : Option Addr} {slq57 : Array (Option Value)} {ocq57 kVq57 dcq57 pmq57 ctq57 : Value} {cdq57 : Value}
 {fq36 : Addr} {odq36 anq36 : Option Addr} {slq36 : Array (Option Value)} {ocq36 kVq36 dcq36 pmq36 ctq36 : Value} {cdq36 : Value}
 {fq0 : Addr} {odq0 anq0 : Option Addr} {slq0 : Array (Option Value)} {ocq0 kVq0 dcq0 pmq0 ctq0 : Value} {cdq0 : Value}
 {fq17 : Addr} {odq17 anq17 : Option Addr} {slq17 : Array (Option Value)} {ocq17 kVq17 dcq17 pmq17 ctq17 : Value} {cdq17 : Value}
 {fq1 : Addr} {odq1 anq1 : Option Addr} {slq1 : Array (Option Value)} {ocq1 kVq1 dcq1 pmq1 ctq1 : Value} {cdq1 : Value}
 {fq10 : Addr} {odq10 anq10 : Option Addr} {slq10 : Array (Option Value)} {ocq10 kVq10 dcq10 pmq10 ctq10 : Value} {cdq10 : Value}
 {fq27 : Addr} {odq27 anq27 : Option Addr} {slq27 : Array (Option Value)} {ocq27 kVq27 dcq27 pmq27 ctq27 : Value} {cdq27 : Value}
 {fq34 : Addr} {odq34 anq34 : Option Addr} {slq34 : Array (Option Value)} {ocq34 kVq34 dcq34 pmq34 ctq34 : Value} {cdq34 : Value}
 {fq9 : Addr} {odq9 anq9 : Option Addr} {slq9 : Array (Option Value)} {ocq9 kVq9 dcq9 pmq9 ctq9 : Value} {cdq9 : Value}
 {fq48 : Addr} {odq48 anq48 : Option Addr} {slq48 : Array (Option Value)} {ocq48 kVq48 dcq48 pmq48 ctq48 : Value} {cdq48 : Value}
 {fq37 : Addr} {odq37 anq37 : Option Addr} {slq37 : Array (Option Value)} {ocq37 kVq37 dcq37 pmq37 ctq37 : Value} {cdq37 : Value}
 {fq39 : Addr} {odq39 anq39 : Option Addr} {slq39 : Array (Option Value)} {ocq39 kVq39 dcq39 pmq39 ctq39 : Value} {cdq39 : Value}
 {fq35 : Addr} {odq35 anq35 : Option Addr} {slq35 : Array (Option Value)} {ocq35 kVq35 dcq35 pmq35 ctq35 : Value} {cdq35 : Value}
 {fq19 : Addr} {odq19 anq19 : Option Addr} {slq19 : Array (Option Value)} {ocq19 kVq19 dcq19 pmq19 ctq19 : Value} {cdq19 : Value}
 {fq8 : Addr} {odq8 anq8 : Option Addr} {slq8 : Array (Option Value)} {ocq8 kVq8 dcq8 pmq8 ctq8 : Value} {cdq8 : Value}
 {fq52 : Addr} {odq52 anq52 : Option Addr} {slq52 : Array (Option Value)} {ocq52 kVq52 dcq52 pmq52 ctq52 : Value} {cdq52 : Value}
 {fq50 : Addr} {odq50 anq50 : Option Addr} {slq50 : Array (Option Value)} {ocq50 kVq50 dcq50 pmq50 ctq50 : Value} {cdq50 : Value}
 {fq47 : Addr} {odq47 anq47 : Option Addr} {slq47 : Array (Option Value)} {ocq47 kVq47 dcq47 pmq47 ctq47 : Value} {cdq47 : Value}
 {fq15 : Addr} {odq15 anq15 : Option Addr} {slq15 : Array (Option Value)} {ocq15 kVq15 dcq15 pmq15 ctq15 : Value} {cdq15 : Value}
 {fq21 : Addr} {odq21 anq21 : Option Addr} {slq21 : Array (Option Value)} {ocq21 kVq21 dcq21 pmq21 ctq21 : Value} {cdq21 : Value}
 {fq38 : Addr} {odq38 anq38 : Option Addr} {slq38 : Array (Option Value)} {ocq38 kVq38 dcq38 pmq38 ctq38 : Value} {cdq38 : Value}
 {fq20 : Addr} {odq20 anq20 : Option Addr} {slq20 : Array (Option Value)} {ocq20 kVq20 dcq20 pmq20 ctq20 : Value} {cdq20 : Value}
 {fq41 : Addr} {odq41 anq41 : Option Addr} {slq41 : Array (Option Value)} {ocq41 kVq41 dcq41 pmq41 ctq41 : Value} {cdq41 : Value}
 {fq46 : Addr} {odq46 anq46 : Option Addr} {slq46 : Array (Option Value)} {ocq46 kVq46 dcq46 pmq46 ctq46 : Value} {cdq46 : Value}
 {fq28 : Addr} {odq28 anq28 : Option Addr} {slq28 : Array (Option Value)} {ocq28 kVq28 dcq28 pmq28 ctq28 : Value} {cdq28 : Value}
 {fq40 : Addr} {odq40 anq40 : Option Addr} {slq40 : Array (Option Value)} {ocq40 kVq40 dcq40 pmq40 ctq40 : Value} {cdq40 : Value}
 {fq26 : Addr} {odq26 anq26 : Option Addr} {slq26 : Array (Option Value)} {ocq26 kVq26 dcq26 pmq26 ctq26 : Value} {cdq26 : Value}
 {fq45 : Addr} {odq45 anq45 : Option Addr} {slq45 : Array (Option Value)} {ocq45 kVq45 dcq45 pmq45 ctq45 : Value} {cdq45 : Value}
 {fq31 : Addr} {odq31 anq31 : Option Addr} {slq31 : Array (Option Value)} {ocq31 kVq31 dcq31 pmq31 ctq31 : Value} {cdq31 : Value}
 {fq53 : Addr} {odq53 anq53 : Option Addr} {slq53 : Array (Option Value)} {ocq53 kVq53 dcq53 pmq53 ctq53 : Value} {cdq53 : Value}
 {fq42 : Addr} {odq42 anq42 : Option Addr} {slq42 : Array (Option Value)} {ocq42 kVq42 dcq42 pmq42 ctq42 : Value} {cdq42 : Value}
 {fq64 : Addr} {odq64 anq64 : Option Addr} {slq64 : Array (Option Value)} {ocq64 kVq64 dcq64 pmq64 ctq64 : Value} {cdq64 : Value}
 {CL : Addr}
 {CR : Addr}
 {CN : Addr}
 {CS : Addr}
 {CC : Addr}
 {fq56 : Addr} {odq56 anq56 : Option Addr} {slq56 : Array (Option Value)} {ocq56 kVq56 dcq56 pmq56 ctq56 : Value} {cdq56 : Value}
 {fq14 : Addr} {odq14 anq14 : Option Addr} {slq14 : Array (Option Value)} {ocq14 kVq14 dcq14 pmq14 ctq14 : Value} {cdq14 : Value}
 {fq55 : Addr} {odq55 anq55 : Option Addr} {slq55 : Array (Option Value)} {ocq55 kVq55 dcq55 pmq55 ctq55 : Value} {cdq55 : Value}
 {fq24 : Addr} {odq24 anq24 : Option Addr} {slq24 : Array (Option Value)} {ocq24 kVq24 dcq24 pmq24 ctq24 : Value} {cdq24 : Value}
 {fq33 : Addr} {odq33 anq33 : Option Addr} {slq33 : Array (Option Value)} {ocq33 kVq33 dcq33 pmq33 ctq33 : Value} {cdq33 : Value}
 {fq32 : Addr} {odq32 anq32 : Option Addr} {slq32 : Array (Option Value)} {ocq32 kVq32 dcq32 pmq32 ctq32 : Value} {cdq32 : Value}
 {fq2 : Addr} {odq2 anq2 : Option Addr} {slq2 : Array (Option Value)} {ocq2 kVq2 dcq2 pmq2 ctq2 : Value} {cdq2 : Value}
 {fq7 : Addr} {odq7 anq7 : Option Addr} {slq7 : Array (Option Value)} {ocq7 kVq7 dcq7 pmq7 ctq7 : Value} {cdq7 : Value}
 {fq4 : Addr} {odq4 anq4 : Option Addr} {slq4 : Array (Option Value)} {ocq4 kVq4 dcq4 pmq4 ctq4 : Value} {cdq4 : Value}
 {fq29 : Addr} {odq29 anq29 : Option Addr} {slq29 : Array (Option Value)} {ocq29 kVq29 dcq29 pmq29 ctq29 : Value} {cdq29 : Value}
 {fq22 : Addr} {odq22 anq22 : Option Addr} {slq22 : Array (Option Value)} {ocq22 kVq22 dcq22 pmq22 ctq22 : Value} {cdq22 : Value}
 {fq23 : Addr} {odq23 anq23 : Option Addr} {slq23 : Array (Option Value)} {ocq23 kVq23 dcq23 pmq23 ctq23 : Value} {cdq23 : Value}
 {fq43 : Addr} {odq43 anq43 : Option Addr} {slq43 : Array (Option Value)} {ocq43 kVq43 dcq43 pmq43 ctq43 : Value} {cdq43 : Value}
 {fq5 : Addr} {odq5 anq5 : Option Addr} {slq5 : Array (Option Value)} {ocq5 kVq5 dcq5 pmq5 ctq5 : Value} {cdq5 : Value}
 {th : Addr} {odq70 : Option Addr} {its_HOW : Array Value} {n_HOW : Nat} {slq70 : Array (Option Value)}
 {th2 : Addr} {odq69 : Option Addr} {its_HAN : Array Value} {n_HAN : Nat} {slq69 : Array (Option Value)}
 (v_MOST_PLACES : PySem.W.nsIn K mainGlobals "MOST_PLACES" = some (some (.int (8) t_MOST_PLACES)))
 (v_MOST_ROADS : PySem.W.nsIn K mainGlobals "MOST_ROADS" = some (some (.int (14) t_MOST_ROADS)))
 (v_MOST_CONVOYS : PySem.W.nsIn K mainGlobals "MOST_CONVOYS" = some (some (.int (8) t_MOST_CONVOYS)))
 (v_MOST_MINUTES : PySem.W.nsIn K mainGlobals "MOST_MINUTES" = some (some (.int (200) t_MOST_MINUTES)))
 (v_MOST_HIGH : PySem.W.nsIn K mainGlobals "MOST_HIGH" = some (some (.int (100) t_MOST_HIGH)))
 (v_MOST_HEAVY : PySem.W.nsIn K mainGlobals "MOST_HEAVY" = some (some (.int (1000) t_MOST_HEAVY)))
 (v_MOST_LONG : PySem.W.nsIn K mainGlobals "MOST_LONG" = some (some (.int (300) t_MOST_LONG)))
 (v_MOST_WIDE : PySem.W.nsIn K mainGlobals "MOST_WIDE" = some (some (.int (200) t_MOST_WIDE)))
 (v_LATEST_START : PySem.W.nsIn K mainGlobals "LATEST_START" = some (some (.int (5000) t_LATEST_START)))
 (v_MAY_GO : PySem.W.nsIn K mainGlobals "MAY_GO" = some (some (.int (0) t_MAY_GO)))
 (v_TOO_HIGH : PySem.W.nsIn K mainGlobals "TOO_HIGH" = some (some (.int (1) t_TOO_HIGH)))
 (v_TOO_HEAVY : PySem.W.nsIn K mainGlobals "TOO_HEAVY" = some (some (.int (2) t_TOO_HEAVY)))
 (v_NOT_ROUND : PySem.W.nsIn K mainGlobals "NOT_ROUND" = some (some (.int (3) t_NOT_ROUND)))
 (v_IS_CLOSED : PySem.W.nsIn K mainGlobals "IS_CLOSED" = some (some (.int (4) t_IS_CLOSED)))
 (v_NO_SUCH : PySem.W.nsIn K mainGlobals "NO_SUCH" = some (some (.int (-2) t_NO_SUCH)))
 (v_NOT_STARTED : PySem.W.nsIn K mainGlobals "NOT_STARTED" = some (some (.int (-11) t_NOT_STARTED)))
 (v_WOULD_MEET : PySem.W.nsIn K mainGlobals "WOULD_MEET" = some (some (.int (-17) t_WOULD_MEET)))
 (v_NOT_AS_TOLD : PySem.W.nsIn K mainGlobals "NOT_AS_TOLD" = some (some (.int (-22) t_NOT_AS_TOLD)))
 (v_FULL : PySem.W.nsIn K mainGlobals "FULL" = some (some (.int (-28) t_FULL)))
 (v_NONE_FOUND : PySem.W.nsIn K mainGlobals "NONE_FOUND" = some (some (.int (-33) t_NONE_FOUND)))
 (v_START : PySem.W.nsIn K mainGlobals "START" = some (some (.int (0) t_START)))
 (n_len : PySem.W.nsIn K mainGlobals "len" = some none)
 (n_range : PySem.W.nsIn K mainGlobals "range" = some none)
 (n_enumerate : PySem.W.nsIn K mainGlobals "enumerate" = some none)
 (n_max : PySem.W.nsIn K mainGlobals "max" = some none)
 (n_sorted : PySem.W.nsIn K mainGlobals "sorted" = some none)
 (aq61 : PySem.W.nsIn K mainGlobals "greatest" = some (some (.ref fq61)))
 (lq61 : K.lookup fq61 = some ⟨ocq61, odq61, .func (PySem.W.fnOf "greatest" "greatest" (defArgs sGreatest) (defBody sGreatest) (defScope sGreatest) .none kVq61 dcq61 pmq61 anq61 cdq61 ctq61), slq61⟩)
 (cq61 : PySem.W.codeIn K cdq61 "greatest" = true)
 (kq61 : PySem.W.keepIn K (.ref fq61) = true)
 (aq51 : PySem.W.nsIn K mainGlobals "goes_round" = some (some (.ref fq51)))
 (lq51 : K.lookup fq51 = some ⟨ocq51, odq51, .func (PySem.W.fnOf "goes_round" "goes_round" (defArgs sRound) (defBody sRound) (defScope sRound) .none kVq51 dcq51 pmq51 anq51 cdq51 ctq51), slq51⟩)
 (cq51 : PySem.W.codeIn K cdq51 "goes_round" = true)
 (kq51 : PySem.W.keepIn K (.ref fq51) = true)
 (aq49 : PySem.W.nsIn K mainGlobals "longest_rod" = some (some (.ref fq49)))
 (lq49 : K.lookup fq49 = some ⟨ocq49, odq49, .func (PySem.W.fnOf "longest_rod" "longest_rod" (defArgs sLongest) (defBody sLongest) (defScope sLongest) .none kVq49 dcq49 pmq49 anq49 (.ref c1) ctq49), slq49⟩)
 (cq49 : PySem.W.codeIn K (.ref c1) "longest_rod" = true)
 (kq49 : PySem.W.keepIn K (.ref fq49) = true)
 (aq16 : PySem.W.nsIn K mainGlobals "narrowest_width" = some (some (.ref fq16)))
 (lq16 : K.lookup fq16 = some ⟨ocq16, odq16, .func (PySem.W.fnOf "narrowest_width" "narrowest_width" (defArgs sNarrowest) (defBody sNarrowest) (defScope sNarrowest) .none kVq16 dcq16 pmq16 anq16 cdq16 ctq16), slq16⟩)
 (cq16 : PySem.W.codeIn K cdq16 "narrowest_width" = true)
 (kq16 : PySem.W.keepIn K (.ref fq16) = true)
 (aq54 : PySem.W.nsIn K mainGlobals "convoy_by" = some (some (.ref fq54)))
 (lq54 : K.lookup fq54 = some ⟨ocq54, odq54, .func (PySem.W.fnOf "convoy_by" "convoy_by" (defArgs sConvoyBy) (defBody sConvoyBy) (defScope sConvoyBy) .none kVq54 dcq54 pmq54 anq54 cdq54 ctq54), slq54⟩)
 (cq54 : PySem.W.codeIn K cdq54 "convoy_by" = true)
 (kq54 : PySem.W.keepIn K (.ref fq54) = true)
 (aq44 : PySem.W.nsIn K mainGlobals "wait_behind" = some (some (.ref fq44)))
 (lq44 : K.lookup fq44 = some ⟨ocq44, odq44, .func (PySem.W.fnOf "wait_behind" "wait_behind" (defArgs sWaitB) (defBody sWaitB) (defScope sWaitB) .none kVq44 dcq44 pmq44 anq44 cdq44 ctq44), slq44⟩)
 (cq44 : PySem.W.codeIn K cdq44 "wait_behind" = true)
 (kq44 : PySem.W.keepIn K (.ref fq44) = true)
 (aq30 : PySem.W.nsIn K mainGlobals "longest_wait" = some (some (.ref fq30)))
 (lq30 : K.lookup fq30 = some ⟨ocq30, odq30, .func (PySem.W.fnOf "longest_wait" "longest_wait" (defArgs sLWait) (defBody sLWait) (defScope sLWait) .none kVq30 dcq30 pmq30 anq30 cdq30 ctq30), slq30⟩)
 (cq30 : PySem.W.codeIn K cdq30 "longest_wait" = true)
 (kq30 : PySem.W.keepIn K (.ref fq30) = true)
 (aq3 : PySem.W.nsIn K mainGlobals "first_clear_minute" = some (some (.ref fq3)))
 (lq3 : K.lookup fq3 = some ⟨ocq3, odq3, .func (PySem.W.fnOf "first_clear_minute" "first_clear_minute" (defArgs sFirst) (defBody sFirst) (defScope sFirst) .none kVq3 dcq3 pmq3 anq3 cdq3 ctq3), slq3⟩)
 (cq3 : PySem.W.codeIn K cdq3 "first_clear_minute" = true)
 (kq3 : PySem.W.keepIn K (.ref fq3) = true)
 (aq6 : PySem.W.nsIn K mainGlobals "least_free_number" = some (some (.ref fq6)))
 (lq6 : K.lookup fq6 = some ⟨ocq6, odq6, .func (PySem.W.fnOf "least_free_number" "least_free_number" (defArgs sLeast) (defBody sLeast) (defScope sLeast) .none kVq6 dcq6 pmq6 anq6 cdq6 ctq6), slq6⟩)
 (cq6 : PySem.W.codeIn K cdq6 "least_free_number" = true)
 (kq6 : PySem.W.keepIn K (.ref fq6) = true)
 (aq58 : PySem.W.nsIn K mainGlobals "convoy_on" = some (some (.ref fq58)))
 (lq58 : K.lookup fq58 = some ⟨ocq58, odq58, .func (PySem.W.fnOf "convoy_on" "convoy_on" (defArgs sOn) (defBody sOn) (defScope sOn) .none kVq58 dcq58 pmq58 anq58 cdq58 ctq58), slq58⟩)
 (cq58 : PySem.W.codeIn K cdq58 "convoy_on" = true)
 (kq58 : PySem.W.keepIn K (.ref fq58) = true)
 (aq60 : PySem.W.nsIn K mainGlobals "try_road" = some (some (.ref fq60)))
 (lq60 : K.lookup fq60 = some ⟨ocq60, odq60, .func (PySem.W.fnOf "try_road" "try_road" (defArgs sTry) (defBody sTry) (defScope sTry) .none kVq60 dcq60 pmq60 anq60 cdq60 ctq60), slq60⟩)
 (cq60 : PySem.W.codeIn K cdq60 "try_road" = true)
 (kq60 : PySem.W.keepIn K (.ref fq60) = true)
 (aq18 : PySem.W.nsIn K mainGlobals "passable_roads" = some (some (.ref fq18)))
 (lq18 : K.lookup fq18 = some ⟨ocq18, odq18, .func (PySem.W.fnOf "passable_roads" "passable_roads" (defArgs sPass) (defBody sPass) (defScope sPass) .none kVq18 dcq18 pmq18 anq18 cdq18 ctq18), slq18⟩)
 (cq18 : PySem.W.codeIn K cdq18 "passable_roads" = true)
 (kq18 : PySem.W.keepIn K (.ref fq18) = true)
 (aq25 : PySem.W.nsIn K mainGlobals "quickest_over" = some (some (.ref fq25)))
 (lq25 : K.lookup fq25 = some ⟨ocq25, odq25, .func (PySem.W.fnOf "quickest_over" "quickest_over" (defArgs sQOver) (defBody sQOver) (defScope sQOver) .none kVq25 dcq25 pmq25 anq25 cdq25 ctq25), slq25⟩)
 (cq25 : PySem.W.codeIn K cdq25 "quickest_over" = true)
 (kq25 : PySem.W.keepIn K (.ref fq25) = true)
 (aq59 : PySem.W.nsIn K mainGlobals "quickest" = some (some (.ref fq59)))
 (lq59 : K.lookup fq59 = some ⟨ocq59, odq59, .func (PySem.W.fnOf "quickest" "quickest" (defArgs sQuick) (defBody sQuick) (defScope sQuick) .none kVq59 dcq59 pmq59 anq59 cdq59 ctq59), slq59⟩)
 (cq59 : PySem.W.codeIn K cdq59 "quickest" = true)
 (kq59 : PySem.W.keepIn K (.ref fq59) = true)
 (aq65 : PySem.W.nsIn K mainGlobals "has_way" = some (some (.ref fq65)))
 (lq65 : K.lookup fq65 = some ⟨ocq65, odq65, .func (PySem.W.fnOf "has_way" "has_way" (defArgs sHasWay) (defBody sHasWay) (defScope sHasWay) .none kVq65 dcq65 pmq65 anq65 cdq65 ctq65), slq65⟩)
 (cq65 : PySem.W.codeIn K cdq65 "has_way" = true)
 (kq65 : PySem.W.keepIn K (.ref fq65) = true)
 (aq11 : PySem.W.nsIn K mainGlobals "greatest_length" = some (some (.ref fq11)))
 (lq11 : K.lookup fq11 = some ⟨ocq11, odq11, .func (PySem.W.fnOf "greatest_length" "greatest_length" (defArgs sLen) (defBody sLen) (defScope sLen) .none kVq11 dcq11 pmq11 anq11 (.ref c2) ctq11), slq11⟩)
 (cq11 : PySem.W.codeIn K (.ref c2) "greatest_length" = true)
 (kq11 : PySem.W.keepIn K (.ref fq11) = true)
 (aq13 : PySem.W.nsIn K mainGlobals "greatest_weight" = some (some (.ref fq13)))
 (lq13 : K.lookup fq13 = some ⟨ocq13, odq13, .func (PySem.W.fnOf "greatest_weight" "greatest_weight" (defArgs sGWeight) (defBody sGWeight) (defScope sGWeight) .none kVq13 dcq13 pmq13 anq13 cdq13 ctq13), slq13⟩)
 (cq13 : PySem.W.codeIn K cdq13 "greatest_weight" = true)
 (kq13 : PySem.W.keepIn K (.ref fq13) = true)
 (aq12 : PySem.W.nsIn K mainGlobals "greatest_height" = some (some (.ref fq12)))
 (lq12 : K.lookup fq12 = some ⟨ocq12, odq12, .func (PySem.W.fnOf "greatest_height" "greatest_height" (defArgs sGHeight) (defBody sGHeight) (defScope sGHeight) .none kVq12 dcq12 pmq12 anq12 cdq12 ctq12), slq12⟩)
 (cq12 : PySem.W.codeIn K cdq12 "greatest_height" = true)
 (kq12 : PySem.W.keepIn K (.ref fq12) = true)
 (aq57 : PySem.W.nsIn K mainGlobals "is_needed" = some (some (.ref fq57)))
 (lq57 : K.lookup fq57 = some ⟨ocq57, odq57, .func (PySem.W.fnOf "is_needed" "is_needed" (defArgs sIsNeeded) (defBody sIsNeeded) (defScope sIsNeeded) .none kVq57 dcq57 pmq57 anq57 cdq57 ctq57), slq57⟩)
 (cq57 : PySem.W.codeIn K cdq57 "is_needed" = true)
 (kq57 : PySem.W.keepIn K (.ref fq57) = true)
 (aq36 : PySem.W.nsIn K mainGlobals "needed_roads" = some (some (.ref fq36)))
 (lq36 : K.lookup fq36 = some ⟨ocq36, odq36, .func (PySem.W.fnOf "needed_roads" "needed_roads" (defArgs sNeeded) (defBody sNeeded) (defScope sNeeded) .none kVq36 dcq36 pmq36 anq36 cdq36 ctq36), slq36⟩)
 (cq36 : PySem.W.codeIn K cdq36 "needed_roads" = true)
 (kq36 : PySem.W.keepIn K (.ref fq36) = true)
 (aq0 : PySem.W.nsIn K mainGlobals "number_or_none_found" = some (some (.ref fq0)))
 (lq0 : K.lookup fq0 = some ⟨ocq0, odq0, .func (PySem.W.fnOf "number_or_none_found" "number_or_none_found" (defArgs sNumOr) (defBody sNumOr) (defScope sNumOr) .none kVq0 dcq0 pmq0 anq0 cdq0 ctq0), slq0⟩)
 (cq0 : PySem.W.codeIn K cdq0 "number_or_none_found" = true)
 (kq0 : PySem.W.keepIn K (.ref fq0) = true)
 (aq17 : PySem.W.nsIn K mainGlobals "refusal_of_load" = some (some (.ref fq17)))
 (lq17 : K.lookup fq17 = some ⟨ocq17, odq17, .func (PySem.W.fnOf "refusal_of_load" "refusal_of_load" (defArgs sRLoad) (defBody sRLoad) (defScope sRLoad) .none kVq17 dcq17 pmq17 anq17 cdq17 ctq17), slq17⟩)
 (cq17 : PySem.W.codeIn K cdq17 "refusal_of_load" = true)
 (kq17 : PySem.W.keepIn K (.ref fq17) = true)
 (aq1 : PySem.W.nsIn K mainGlobals "refusal_of_greatest" = some (some (.ref fq1)))
 (lq1 : K.lookup fq1 = some ⟨ocq1, odq1, .func (PySem.W.fnOf "refusal_of_greatest" "refusal_of_greatest" (defArgs sRGreat) (defBody sRGreat) (defScope sRGreat) .none kVq1 dcq1 pmq1 anq1 cdq1 ctq1), slq1⟩)
 (cq1 : PySem.W.codeIn K cdq1 "refusal_of_greatest" = true)
 (kq1 : PySem.W.keepIn K (.ref fq1) = true)
 (aq10 : PySem.W.nsIn K mainGlobals "refusal_of_start" = some (some (.ref fq10)))
 (lq10 : K.lookup fq10 = some ⟨ocq10, odq10, .func (PySem.W.fnOf "refusal_of_start" "refusal_of_start" (defArgs sRStart) (defBody sRStart) (defScope sRStart) .none kVq10 dcq10 pmq10 anq10 cdq10 ctq10), slq10⟩)
 (cq10 : PySem.W.codeIn K cdq10 "refusal_of_start" = true)
 (kq10 : PySem.W.keepIn K (.ref fq10) = true)
 (aq27 : PySem.W.nsIn K mainGlobals "answer_start" = some (some (.ref fq27)))
 (lq27 : K.lookup fq27 = some ⟨ocq27, odq27, .func (PySem.W.fnOf "answer_start" "answer_start" (defArgs sAStart) (defBody sAStart) (defScope sAStart) .none kVq27 dcq27 pmq27 anq27 cdq27 ctq27), slq27⟩)
 (cq27 : PySem.W.codeIn K cdq27 "answer_start" = true)
 (kq27 : PySem.W.keepIn K (.ref fq27) = true)
 (aq34 : PySem.W.nsIn K mainGlobals "answer_place" = some (some (.ref fq34)))
 (lq34 : K.lookup fq34 = some ⟨ocq34, odq34, .func (PySem.W.fnOf "answer_place" "answer_place" (defArgs sAPlace) (defBody sAPlace) (defScope sAPlace) .none kVq34 dcq34 pmq34 anq34 cdq34 ctq34), slq34⟩)
 (cq34 : PySem.W.codeIn K cdq34 "answer_place" = true)
 (kq34 : PySem.W.keepIn K (.ref fq34) = true)
 (aq9 : PySem.W.nsIn K mainGlobals "measures_as_told" = some (some (.ref fq9)))
 (lq9 : K.lookup fq9 = some ⟨ocq9, odq9, .func (PySem.W.fnOf "measures_as_told" "measures_as_told" (defArgs sATold) (defBody sATold) (defScope sATold) .none kVq9 dcq9 pmq9 anq9 cdq9 ctq9), slq9⟩)
 (cq9 : PySem.W.codeIn K cdq9 "measures_as_told" = true)
 (kq9 : PySem.W.keepIn K (.ref fq9) = true)
 (aq48 : PySem.W.nsIn K mainGlobals "answer_road" = some (some (.ref fq48)))
 (lq48 : K.lookup fq48 = some ⟨ocq48, odq48, .func (PySem.W.fnOf "answer_road" "answer_road" (defArgs sARoad) (defBody sARoad) (defScope sARoad) .none kVq48 dcq48 pmq48 anq48 cdq48 ctq48), slq48⟩)
 (cq48 : PySem.W.codeIn K cdq48 "answer_road" = true)
 (kq48 : PySem.W.keepIn K (.ref fq48) = true)
 (aq37 : PySem.W.nsIn K mainGlobals "answer_close" = some (some (.ref fq37)))
 (lq37 : K.lookup fq37 = some ⟨ocq37, odq37, .func (PySem.W.fnOf "answer_close" "answer_close" (defArgs sAClose) (defBody sAClose) (defScope sAClose) .none kVq37 dcq37 pmq37 anq37 cdq37 ctq37), slq37⟩)
 (cq37 : PySem.W.codeIn K cdq37 "answer_close" = true)
 (kq37 : PySem.W.keepIn K (.ref fq37) = true)
 (aq39 : PySem.W.nsIn K mainGlobals "answer_widen" = some (some (.ref fq39)))
 (lq39 : K.lookup fq39 = some ⟨ocq39, odq39, .func (PySem.W.fnOf "answer_widen" "answer_widen" (defArgs sAWiden) (defBody sAWiden) (defScope sAWiden) .none kVq39 dcq39 pmq39 anq39 cdq39 ctq39), slq39⟩)
 (cq39 : PySem.W.codeIn K cdq39 "answer_widen" = true)
 (kq39 : PySem.W.keepIn K (.ref fq39) = true)
 (aq35 : PySem.W.nsIn K mainGlobals "answer_round" = some (some (.ref fq35)))
 (lq35 : K.lookup fq35 = some ⟨ocq35, odq35, .func (PySem.W.fnOf "answer_round" "answer_round" (defArgs sARound) (defBody sARound) (defScope sARound) .none kVq35 dcq35 pmq35 anq35 cdq35 ctq35), slq35⟩)
 (cq35 : PySem.W.codeIn K cdq35 "answer_round" = true)
 (kq35 : PySem.W.keepIn K (.ref fq35) = true)
 (aq19 : PySem.W.nsIn K mainGlobals "answer_longest" = some (some (.ref fq19)))
 (lq19 : K.lookup fq19 = some ⟨ocq19, odq19, .func (PySem.W.fnOf "answer_longest" "answer_longest" (defArgs sALongest) (defBody sALongest) (defScope sALongest) .none kVq19 dcq19 pmq19 anq19 cdq19 ctq19), slq19⟩)
 (cq19 : PySem.W.codeIn K cdq19 "answer_longest" = true)
 (kq19 : PySem.W.keepIn K (.ref fq19) = true)
 (aq8 : PySem.W.nsIn K mainGlobals "answer_narrowest" = some (some (.ref fq8)))
 (lq8 : K.lookup fq8 = some ⟨ocq8, odq8, .func (PySem.W.fnOf "answer_narrowest" "answer_narrowest" (defArgs sANarrow) (defBody sANarrow) (defScope sANarrow) .none kVq8 dcq8 pmq8 anq8 cdq8 ctq8), slq8⟩)
 (cq8 : PySem.W.codeIn K cdq8 "answer_narrowest" = true)
 (kq8 : PySem.W.keepIn K (.ref fq8) = true)
 (aq52 : PySem.W.nsIn K mainGlobals "answer_may" = some (some (.ref fq52)))
 (lq52 : K.lookup fq52 = some ⟨ocq52, odq52, .func (PySem.W.fnOf "answer_may" "answer_may" (defArgs sAMay) (defBody sAMay) (defScope sAMay) .none kVq52 dcq52 pmq52 anq52 cdq52 ctq52), slq52⟩)
 (cq52 : PySem.W.codeIn K cdq52 "answer_may" = true)
 (kq52 : PySem.W.keepIn K (.ref fq52) = true)
 (aq50 : PySem.W.nsIn K mainGlobals "answer_way" = some (some (.ref fq50)))
 (lq50 : K.lookup fq50 = some ⟨ocq50, odq50, .func (PySem.W.fnOf "answer_way" "answer_way" (defArgs sAWay) (defBody sAWay) (defScope sAWay) .none kVq50 dcq50 pmq50 anq50 cdq50 ctq50), slq50⟩)
 (cq50 : PySem.W.codeIn K cdq50 "answer_way" = true)
 (kq50 : PySem.W.keepIn K (.ref fq50) = true)
 (aq47 : PySem.W.nsIn K mainGlobals "answer_most" = some (some (.ref fq47)))
 (lq47 : K.lookup fq47 = some ⟨ocq47, odq47, .func (PySem.W.fnOf "answer_most" "answer_most" (defArgs sAMost) (defBody sAMost) (defScope sAMost) .none kVq47 dcq47 pmq47 anq47 cdq47 ctq47), slq47⟩)
 (cq47 : PySem.W.codeIn K cdq47 "answer_most" = true)
 (kq47 : PySem.W.keepIn K (.ref fq47) = true)
 (aq15 : PySem.W.nsIn K mainGlobals "answer_heaviest" = some (some (.ref fq15)))
 (lq15 : K.lookup fq15 = some ⟨ocq15, odq15, .func (PySem.W.fnOf "answer_heaviest" "answer_heaviest" (defArgs sAHeavy) (defBody sAHeavy) (defScope sAHeavy) .none kVq15 dcq15 pmq15 anq15 cdq15 ctq15), slq15⟩)
 (cq15 : PySem.W.codeIn K cdq15 "answer_heaviest" = true)
 (kq15 : PySem.W.keepIn K (.ref fq15) = true)
 (aq21 : PySem.W.nsIn K mainGlobals "answer_highest" = some (some (.ref fq21)))
 (lq21 : K.lookup fq21 = some ⟨ocq21, odq21, .func (PySem.W.fnOf "answer_highest" "answer_highest" (defArgs sAHigh) (defBody sAHigh) (defScope sAHigh) .none kVq21 dcq21 pmq21 anq21 cdq21 ctq21), slq21⟩)
 (cq21 : PySem.W.codeIn K cdq21 "answer_highest" = true)
 (kq21 : PySem.W.keepIn K (.ref fq21) = true)
 (aq38 : PySem.W.nsIn K mainGlobals "answer_needs" = some (some (.ref fq38)))
 (lq38 : K.lookup fq38 = some ⟨ocq38, odq38, .func (PySem.W.fnOf "answer_needs" "answer_needs" (defArgs sANeeds) (defBody sANeeds) (defScope sANeeds) .none kVq38 dcq38 pmq38 anq38 cdq38 ctq38), slq38⟩)
 (cq38 : PySem.W.codeIn K cdq38 "answer_needs" = true)
 (kq38 : PySem.W.keepIn K (.ref fq38) = true)
 (aq20 : PySem.W.nsIn K mainGlobals "answer_soonest" = some (some (.ref fq20)))
 (lq20 : K.lookup fq20 = some ⟨ocq20, odq20, .func (PySem.W.fnOf "answer_soonest" "answer_soonest" (defArgs sASoon) (defBody sASoon) (defScope sASoon) .none kVq20 dcq20 pmq20 anq20 cdq20 ctq20), slq20⟩)
 (cq20 : PySem.W.codeIn K cdq20 "answer_soonest" = true)
 (kq20 : PySem.W.keepIn K (.ref fq20) = true)
 (aq41 : PySem.W.nsIn K mainGlobals "answer_send" = some (some (.ref fq41)))
 (lq41 : K.lookup fq41 = some ⟨ocq41, odq41, .func (PySem.W.fnOf "answer_send" "answer_send" (defArgs sASend) (defBody sASend) (defScope sASend) .none kVq41 dcq41 pmq41 anq41 cdq41 ctq41), slq41⟩)
 (cq41 : PySem.W.codeIn K cdq41 "answer_send" = true)
 (kq41 : PySem.W.keepIn K (.ref fq41) = true)
 (aq46 : PySem.W.nsIn K mainGlobals "answer_drop" = some (some (.ref fq46)))
 (lq46 : K.lookup fq46 = some ⟨ocq46, odq46, .func (PySem.W.fnOf "answer_drop" "answer_drop" (defArgs sADrop) (defBody sADrop) (defScope sADrop) .none kVq46 dcq46 pmq46 anq46 cdq46 ctq46), slq46⟩)
 (cq46 : PySem.W.codeIn K cdq46 "answer_drop" = true)
 (kq46 : PySem.W.keepIn K (.ref fq46) = true)
 (aq28 : PySem.W.nsIn K mainGlobals "answer_where" = some (some (.ref fq28)))
 (lq28 : K.lookup fq28 = some ⟨ocq28, odq28, .func (PySem.W.fnOf "answer_where" "answer_where" (defArgs sAWhere) (defBody sAWhere) (defScope sAWhere) .none kVq28 dcq28 pmq28 anq28 cdq28 ctq28), slq28⟩)
 (cq28 : PySem.W.codeIn K cdq28 "answer_where" = true)
 (kq28 : PySem.W.keepIn K (.ref fq28) = true)
 (aq40 : PySem.W.nsIn K mainGlobals "answer_busy" = some (some (.ref fq40)))
 (lq40 : K.lookup fq40 = some ⟨ocq40, odq40, .func (PySem.W.fnOf "answer_busy" "answer_busy" (defArgs sABusy) (defBody sABusy) (defScope sABusy) .none kVq40 dcq40 pmq40 anq40 cdq40 ctq40), slq40⟩)
 (cq40 : PySem.W.codeIn K cdq40 "answer_busy" = true)
 (kq40 : PySem.W.keepIn K (.ref fq40) = true)
 (aq26 : PySem.W.nsIn K mainGlobals "answer_convoy" = some (some (.ref fq26)))
 (lq26 : K.lookup fq26 = some ⟨ocq26, odq26, .func (PySem.W.fnOf "answer_convoy" "answer_convoy" (defArgs sAConvoy) (defBody sAConvoy) (defScope sAConvoy) .none kVq26 dcq26 pmq26 anq26 cdq26 ctq26), slq26⟩)
 (cq26 : PySem.W.codeIn K cdq26 "answer_convoy" = true)
 (kq26 : PySem.W.keepIn K (.ref fq26) = true)
 (aq45 : PySem.W.nsIn K mainGlobals "answer_look" = some (some (.ref fq45)))
 (lq45 : K.lookup fq45 = some ⟨ocq45, odq45, .func (PySem.W.fnOf "answer_look" "answer_look" (defArgs sALook) (defBody sALook) (defScope sALook) .none kVq45 dcq45 pmq45 anq45 cdq45 ctq45), slq45⟩)
 (cq45 : PySem.W.codeIn K cdq45 "answer_look" = true)
 (kq45 : PySem.W.keepIn K (.ref fq45) = true)
 (aq31 : PySem.W.nsIn K mainGlobals "answer_state" = some (some (.ref fq31)))
 (lq31 : K.lookup fq31 = some ⟨ocq31, odq31, .func (PySem.W.fnOf "answer_state" "answer_state" (defArgs sAState) (defBody sAState) (defScope sAState) .none kVq31 dcq31 pmq31 anq31 cdq31 ctq31), slq31⟩)
 (cq31 : PySem.W.codeIn K cdq31 "answer_state" = true)
 (kq31 : PySem.W.keepIn K (.ref fq31) = true)
 (aq53 : PySem.W.nsIn K mainGlobals "hand_over" = some (some (.ref fq53)))
 (lq53 : K.lookup fq53 = some ⟨ocq53, odq53, .func (PySem.W.fnOf "hand_over" "hand_over" (defArgs sOver) (defBody sOver) (defScope sOver) .none kVq53 dcq53 pmq53 anq53 cdq53 ctq53), slq53⟩)
 (cq53 : PySem.W.codeIn K cdq53 "hand_over" = true)
 (kq53 : PySem.W.keepIn K (.ref fq53) = true)
 (aq42 : PySem.W.nsIn K mainGlobals "answer_call" = some (some (.ref fq42)))
 (lq42 : K.lookup fq42 = some ⟨ocq42, odq42, .func (PySem.W.fnOf "answer_call" "answer_call" (defArgs sACall) (defBody sACall) (defScope sACall) .none kVq42 dcq42 pmq42 anq42 cdq42 ctq42), slq42⟩)
 (cq42 : PySem.W.codeIn K cdq42 "answer_call" = true)
 (kq42 : PySem.W.keepIn K (.ref fq42) = true)
 (aq64 : PySem.W.nsIn K mainGlobals "answers" = some (some (.ref fq64)))
 (lq64 : K.lookup fq64 = some ⟨ocq64, odq64, .func (PySem.W.fnOf "answers" "answers" (defArgs sAnswers) (defBody sAnswers) (defScope sAnswers) .none kVq64 dcq64 pmq64 anq64 cdq64 ctq64), slq64⟩)
 (cq64 : PySem.W.codeIn K cdq64 "answers" = true)
 (kq64 : PySem.W.keepIn K (.ref fq64) = true)
 (aq67 : PySem.W.nsIn K mainGlobals "Load" = some (some (.ref CL)))
 (pgq67 : PySem.W.plainGet K CL Str.empty = true)
 (hdq67 : PySem.W.hasDictIn K CL = true)
 (poq67 : PySem.W.plainOver K CL = true)
 (saq67 : PySem.W.findIn K (.ref CL) "__setattr__" = some (some (.builtin "object.__setattr__")))
 (mkq67 : PySem.W.makesIn K CL = true)
 (kcq67 : PySem.W.keepIn K (.ref CL) = true)
 (x_Load_length : PySem.W.findIn K (.ref CL) "length" = some none)
 (x_Load_height : PySem.W.findIn K (.ref CL) "height" = some none)
 (x_Load_weight : PySem.W.findIn K (.ref CL) "weight" = some none)
 (aq68 : PySem.W.nsIn K mainGlobals "Road" = some (some (.ref CR)))
 (pgq68 : PySem.W.plainGet K CR Str.empty = true)
 (hdq68 : PySem.W.hasDictIn K CR = true)
 (poq68 : PySem.W.plainOver K CR = true)
 (saq68 : PySem.W.findIn K (.ref CR) "__setattr__" = some (some (.builtin "object.__setattr__")))
 (mkq68 : PySem.W.makesIn K CR = true)
 (kcq68 : PySem.W.keepIn K (.ref CR) = true)
 (x_Road_p : PySem.W.findIn K (.ref CR) "p" = some none)
 (x_Road_q : PySem.W.findIn K (.ref CR) "q" = some none)
 (x_Road_minutes : PySem.W.findIn K (.ref CR) "minutes" = some none)
 (x_Road_high : PySem.W.findIn K (.ref CR) "high" = some none)
 (x_Road_heavy : PySem.W.findIn K (.ref CR) "heavy" = some none)
 (x_Road_a : PySem.W.findIn K (.ref CR) "a" = some none)
 (x_Road_b : PySem.W.findIn K (.ref CR) "b" = some none)
 (x_Road_closed : PySem.W.findIn K (.ref CR) "closed" = some none)
 (aq62 : PySem.W.nsIn K mainGlobals "Network" = some (some (.ref CN)))
 (pgq62 : PySem.W.plainGet K CN Str.empty = true)
 (hdq62 : PySem.W.hasDictIn K CN = true)
 (poq62 : PySem.W.plainOver K CN = true)
 (saq62 : PySem.W.findIn K (.ref CN) "__setattr__" = some (some (.builtin "object.__setattr__")))
 (mkq62 : PySem.W.makesIn K CN = true)
 (kcq62 : PySem.W.keepIn K (.ref CN) = true)
 (x_Network_places : PySem.W.findIn K (.ref CN) "places" = some none)
 (x_Network_roads : PySem.W.findIn K (.ref CN) "roads" = some none)
 (x_Network_convoys : PySem.W.findIn K (.ref CN) "convoys" = some none)
 (aq63 : PySem.W.nsIn K mainGlobals "Stretch" = some (some (.ref CS)))
 (pgq63 : PySem.W.plainGet K CS Str.empty = true)
 (hdq63 : PySem.W.hasDictIn K CS = true)
 (poq63 : PySem.W.plainOver K CS = true)
 (saq63 : PySem.W.findIn K (.ref CS) "__setattr__" = some (some (.builtin "object.__setattr__")))
 (mkq63 : PySem.W.makesIn K CS = true)
 (kcq63 : PySem.W.keepIn K (.ref CS) = true)
 (x_Stretch_road_number : PySem.W.findIn K (.ref CS) "road_number" = some none)
 (x_Stretch_comes : PySem.W.findIn K (.ref CS) "comes" = some none)
 (x_Stretch_leaves : PySem.W.findIn K (.ref CS) "leaves" = some none)
 (aq66 : PySem.W.nsIn K mainGlobals "Convoy" = some (some (.ref CC)))
 (pgq66 : PySem.W.plainGet K CC Str.empty = true)
 (hdq66 : PySem.W.hasDictIn K CC = true)
 (poq66 : PySem.W.plainOver K CC = true)
 (saq66 : PySem.W.findIn K (.ref CC) "__setattr__" = some (some (.builtin "object.__setattr__")))
 (mkq66 : PySem.W.makesIn K CC = true)
 (kcq66 : PySem.W.keepIn K (.ref CC) = true)
 (x_Convoy_sets_out : PySem.W.findIn K (.ref CC) "sets_out" = some none)
 (x_Convoy_stretches : PySem.W.findIn K (.ref CC) "stretches" = some none)
 (aq56 : PySem.W.findIn K (.ref CL) "__init__" = some (some (.ref fq56)))
 (iq56 : PySem.W.isFn K (.ref fq56) = true)
 (lq56 : K.lookup fq56 = some ⟨ocq56, odq56, .func (PySem.W.fnOf "__init__" "Load.__init__" (defArgs sLoadInit) (defBody sLoadInit) (defScope sLoadInit) .none kVq56 dcq56 pmq56 anq56 cdq56 ctq56), slq56⟩)
 (cq56 : PySem.W.codeIn K cdq56 "Load.__init__" = true)
 (kq56 : PySem.W.keepIn K (.ref fq56) = true)
 (aq14 : PySem.W.findIn K (.ref CL) "is_as_told" = some (some (.ref fq14)))
 (iq14 : PySem.W.isFn K (.ref fq14) = true)
 (lq14 : K.lookup fq14 = some ⟨ocq14, odq14, .func (PySem.W.fnOf "is_as_told" "Load.is_as_told" (defArgs sLoadTold) (defBody sLoadTold) (defScope sLoadTold) .none kVq14 dcq14 pmq14 anq14 cdq14 ctq14), slq14⟩)
 (cq14 : PySem.W.codeIn K cdq14 "Load.is_as_told" = true)
 (kq14 : PySem.W.keepIn K (.ref fq14) = true)
 (aq55 : PySem.W.findIn K (.ref CR) "__init__" = some (some (.ref fq55)))
 (iq55 : PySem.W.isFn K (.ref fq55) = true)
 (lq55 : K.lookup fq55 = some ⟨ocq55, odq55, .func (PySem.W.fnOf "__init__" "Road.__init__" (defArgs sRoadInit) (defBody sRoadInit) (defScope sRoadInit) .none kVq55 dcq55 pmq55 anq55 cdq55 ctq55), slq55⟩)
 (cq55 : PySem.W.codeIn K cdq55 "Road.__init__" = true)
 (kq55 : PySem.W.keepIn K (.ref fq55) = true)
 (aq24 : PySem.W.findIn K (.ref CR) "has_bend" = some (some (.ref fq24)))
 (iq24 : PySem.W.isFn K (.ref fq24) = true)
 (lq24 : K.lookup fq24 = some ⟨ocq24, odq24, .func (PySem.W.fnOf "has_bend" "Road.has_bend" (defArgs sHasBend) (defBody sHasBend) (defScope sHasBend) .none kVq24 dcq24 pmq24 anq24 cdq24 ctq24), slq24⟩)
 (cq24 : PySem.W.codeIn K cdq24 "Road.has_bend" = true)
 (kq24 : PySem.W.keepIn K (.ref fq24) = true)
 (aq33 : PySem.W.findIn K (.ref CR) "why_not" = some (some (.ref fq33)))
 (iq33 : PySem.W.isFn K (.ref fq33) = true)
 (lq33 : K.lookup fq33 = some ⟨ocq33, odq33, .func (PySem.W.fnOf "why_not" "Road.why_not" (defArgs sWhyNot) (defBody sWhyNot) (defScope sWhyNot) .none kVq33 dcq33 pmq33 anq33 cdq33 ctq33), slq33⟩)
 (cq33 : PySem.W.codeIn K cdq33 "Road.why_not" = true)
 (kq33 : PySem.W.keepIn K (.ref fq33) = true)
 (aq32 : PySem.W.findIn K (.ref CN) "__init__" = some (some (.ref fq32)))
 (iq32 : PySem.W.isFn K (.ref fq32) = true)
 (lq32 : K.lookup fq32 = some ⟨ocq32, odq32, .func (PySem.W.fnOf "__init__" "Network.__init__" (defArgs sNetInit) (defBody sNetInit) (defScope sNetInit) .none kVq32 dcq32 pmq32 anq32 cdq32 ctq32), slq32⟩)
 (cq32 : PySem.W.codeIn K cdq32 "Network.__init__" = true)
 (kq32 : PySem.W.keepIn K (.ref fq32) = true)
 (aq2 : PySem.W.findIn K (.ref CN) "has_places" = some (some (.ref fq2)))
 (iq2 : PySem.W.isFn K (.ref fq2) = true)
 (lq2 : K.lookup fq2 = some ⟨ocq2, odq2, .func (PySem.W.fnOf "has_places" "Network.has_places" (defArgs sHasPlaces) (defBody sHasPlaces) (defScope sHasPlaces) .none kVq2 dcq2 pmq2 anq2 cdq2 ctq2), slq2⟩)
 (cq2 : PySem.W.codeIn K cdq2 "Network.has_places" = true)
 (kq2 : PySem.W.keepIn K (.ref fq2) = true)
 (aq7 : PySem.W.findIn K (.ref CN) "has_road" = some (some (.ref fq7)))
 (iq7 : PySem.W.isFn K (.ref fq7) = true)
 (lq7 : K.lookup fq7 = some ⟨ocq7, odq7, .func (PySem.W.fnOf "has_road" "Network.has_road" (defArgs sHasRoad) (defBody sHasRoad) (defScope sHasRoad) .none kVq7 dcq7 pmq7 anq7 cdq7 ctq7), slq7⟩)
 (cq7 : PySem.W.codeIn K cdq7 "Network.has_road" = true)
 (kq7 : PySem.W.keepIn K (.ref fq7) = true)
 (aq4 : PySem.W.findIn K (.ref CN) "has_convoy" = some (some (.ref fq4)))
 (iq4 : PySem.W.isFn K (.ref fq4) = true)
 (lq4 : K.lookup fq4 = some ⟨ocq4, odq4, .func (PySem.W.fnOf "has_convoy" "Network.has_convoy" (defArgs sHasConvoy) (defBody sHasConvoy) (defScope sHasConvoy) .none kVq4 dcq4 pmq4 anq4 cdq4 ctq4), slq4⟩)
 (cq4 : PySem.W.codeIn K cdq4 "Network.has_convoy" = true)
 (kq4 : PySem.W.keepIn K (.ref fq4) = true)
 (aq29 : PySem.W.findIn K (.ref CS) "__init__" = some (some (.ref fq29)))
 (iq29 : PySem.W.isFn K (.ref fq29) = true)
 (lq29 : K.lookup fq29 = some ⟨ocq29, odq29, .func (PySem.W.fnOf "__init__" "Stretch.__init__" (defArgs sStretchInit) (defBody sStretchInit) (defScope sStretchInit) .none kVq29 dcq29 pmq29 anq29 cdq29 ctq29), slq29⟩)
 (cq29 : PySem.W.codeIn K cdq29 "Stretch.__init__" = true)
 (kq29 : PySem.W.keepIn K (.ref fq29) = true)
 (aq22 : PySem.W.findIn K (.ref CS) "holds" = some (some (.ref fq22)))
 (iq22 : PySem.W.isFn K (.ref fq22) = true)
 (lq22 : K.lookup fq22 = some ⟨ocq22, odq22, .func (PySem.W.fnOf "holds" "Stretch.holds" (defArgs sHolds) (defBody sHolds) (defScope sHolds) .none kVq22 dcq22 pmq22 anq22 cdq22 ctq22), slq22⟩)
 (cq22 : PySem.W.codeIn K cdq22 "Stretch.holds" = true)
 (kq22 : PySem.W.keepIn K (.ref fq22) = true)
 (aq23 : PySem.W.findIn K (.ref CS) "meets" = some (some (.ref fq23)))
 (iq23 : PySem.W.isFn K (.ref fq23) = true)
 (lq23 : K.lookup fq23 = some ⟨ocq23, odq23, .func (PySem.W.fnOf "meets" "Stretch.meets" (defArgs sMeets) (defBody sMeets) (defScope sMeets) .none kVq23 dcq23 pmq23 anq23 cdq23 ctq23), slq23⟩)
 (cq23 : PySem.W.codeIn K cdq23 "Stretch.meets" = true)
 (kq23 : PySem.W.keepIn K (.ref fq23) = true)
 (aq43 : PySem.W.findIn K (.ref CC) "__init__" = some (some (.ref fq43)))
 (iq43 : PySem.W.isFn K (.ref fq43) = true)
 (lq43 : K.lookup fq43 = some ⟨ocq43, odq43, .func (PySem.W.fnOf "__init__" "Convoy.__init__" (defArgs sConvoyInit) (defBody sConvoyInit) (defScope sConvoyInit) .none kVq43 dcq43 pmq43 anq43 cdq43 ctq43), slq43⟩)
 (cq43 : PySem.W.codeIn K cdq43 "Convoy.__init__" = true)
 (kq43 : PySem.W.keepIn K (.ref fq43) = true)
 (aq5 : PySem.W.findIn K (.ref CC) "stretch_in" = some (some (.ref fq5)))
 (iq5 : PySem.W.isFn K (.ref fq5) = true)
 (lq5 : K.lookup fq5 = some ⟨ocq5, odq5, .func (PySem.W.fnOf "stretch_in" "Convoy.stretch_in" (defArgs sStretchIn) (defBody sStretchIn) (defScope sStretchIn) .none kVq5 dcq5 pmq5 anq5 cdq5 ctq5), slq5⟩)
 (cq5 : PySem.W.codeIn K cdq5 "Convoy.stretch_in" = true)
 (kq5 : PySem.W.keepIn K (.ref fq5) = true)
 (aq70 : PySem.W.nsIn K mainGlobals "HOW_MANY_NUMBERS" = some (some (.ref th)))
 (lq70 : K.lookup th = some ⟨.type "tuple", odq70, .seq its_HOW n_HOW, slq70⟩)
 (s_HOW : its_HOW.toList.map intOf = ((List.range 22).map fun (j : Nat) => (Bend.ar j : Int)).map some)
 (aq69 : PySem.W.nsIn K mainGlobals "HANDLERS" = some (some (.ref th2)))
 (lq69 : K.lookup th2 = some ⟨.type "tuple", odq69, .seq its_HAN n_HAN, slq69⟩)
 (s_HAN : its_HAN.toList = ([fq27, fq34, fq48, fq37, fq39, fq35, fq19, fq8, fq52, fq50, fq47, fq15, fq21, fq38, fq20, fq41, fq46, fq28, fq40, fq26, fq45, fq31] : List Addr).map Value.ref)
 (h_ne : P1 ≠ P2)
    : ∃ fd : FuncData, (∀ (s : Shared) (us : List Value), us.length = (["calls"] : List Str).length → BindsTo s fd ⟨us, []⟩ ((["calls"] : List Str).zip us)) ∧ ∀ base : Heap, K.In base → base.Ns mainGlobals mg → BMain mg base → (∀ q ∈ [(c1, P1), (c2, P2)], PySem.W.CodeHd base q.1 q.2) → FnOk P w K mg base CX0 12 fa fd ["calls"] (spAns P1 P2 K) := by
  have e := hfa.symm.trans (PySem.W.mg_of X G aq64)
  cases e
  have C_MOST_PLACES : CI mg "MOST_PLACES" (8) := ⟨_, PySem.W.mg_of X G v_MOST_PLACES⟩
  have C_MOST_ROADS : CI mg "MOST_ROADS" (14) := ⟨_, PySem.W.mg_of X G v_MOST_ROADS⟩
  have C_MOST_CONVOYS : CI mg "MOST_CONVOYS" (8) := ⟨_, PySem.W.mg_of X G v_MOST_CONVOYS⟩
  have C_MOST_MINUTES : CI mg "MOST_MINUTES" (200) := ⟨_, PySem.W.mg_of X G v_MOST_MINUTES⟩
  have C_MOST_HIGH : CI mg "MOST_HIGH" (100) := ⟨_, PySem.W.mg_of X G v_MOST_HIGH⟩
  have C_MOST_HEAVY : CI mg "MOST_HEAVY" (1000) := ⟨_, PySem.W.mg_of X G v_MOST_HEAVY⟩
  have C_MOST_LONG : CI mg "MOST_LONG" (300) := ⟨_, PySem.W.mg_of X G v_MOST_LONG⟩
  have C_MOST_WIDE : CI mg "MOST_WIDE" (200) := ⟨_, PySem.W.mg_of X G v_MOST_WIDE⟩
  have C_LATEST_START : CI mg "LATEST_START" (5000) := ⟨_, PySem.W.mg_of X G v_LATEST_START⟩
  have C_MAY_GO : CI mg "MAY_GO" (0) := ⟨_, PySem.W.mg_of X G v_MAY_GO⟩
  have C_TOO_HIGH : CI mg "TOO_HIGH" (1) := ⟨_, PySem.W.mg_of X G v_TOO_HIGH⟩
  have C_TOO_HEAVY : CI mg "TOO_HEAVY" (2) := ⟨_, PySem.W.mg_of X G v_TOO_HEAVY⟩
  have C_NOT_ROUND : CI mg "NOT_ROUND" (3) := ⟨_, PySem.W.mg_of X G v_NOT_ROUND⟩
  have C_IS_CLOSED : CI mg "IS_CLOSED" (4) := ⟨_, PySem.W.mg_of X G v_IS_CLOSED⟩
  have C_NO_SUCH : CI mg "NO_SUCH" (-2) := ⟨_, PySem.W.mg_of X G v_NO_SUCH⟩
  have C_NOT_STARTED : CI mg "NOT_STARTED" (-11) := ⟨_, PySem.W.mg_of X G v_NOT_STARTED⟩
  have C_WOULD_MEET : CI mg "WOULD_MEET" (-17) := ⟨_, PySem.W.mg_of X G v_WOULD_MEET⟩
  have C_NOT_AS_TOLD : CI mg "NOT_AS_TOLD" (-22) := ⟨_, PySem.W.mg_of X G v_NOT_AS_TOLD⟩
  have C_FULL : CI mg "FULL" (-28) := ⟨_, PySem.W.mg_of X G v_FULL⟩
  have C_NONE_FOUND : CI mg "NONE_FOUND" (-33) := ⟨_, PySem.W.mg_of X G v_NONE_FOUND⟩
  have C_START : CI mg "START" (0) := ⟨_, PySem.W.mg_of X G v_START⟩
  have N_len := PySem.W.mg_none_of X G n_len
  have N_range := PySem.W.mg_none_of X G n_range
  have N_enumerate := PySem.W.mg_none_of X G n_enumerate
  have N_max := PySem.W.mg_none_of X G n_max
  have N_sorted := PySem.W.mg_none_of X G n_sorted
  have Fq61 := fun_mk (st := sGreatest) lq61 cq61 kq61
  have bq61 := Fq61.binds (ps := ["limit", "will_do"]) fun _ _ _ _ _ _ us hl => match us, hl with | [_, _], _ => rfl
  have mq61 := PySem.W.mg_of X G aq61
  have Fq51 := fun_mk (st := sRound) lq51 cq51 kq51
  have bq51 := Fq51.binds (ps := ["length", "a", "b"]) fun _ _ _ _ _ _ us hl => match us, hl with | [_, _, _], _ => rfl
  have mq51 := PySem.W.mg_of X G aq51
  have FCq49 : FunC K "longest_rod" "longest_rod" sLongest fq49 _ c1 := ⟨⟨_, _, _, _, _, _, _, _, rfl, lq49, cq49⟩, kq49⟩
  have Fq49 := FCq49.toFun
  have bq49 := Fq49.binds (ps := ["a", "b"]) fun _ _ _ _ _ _ us hl => match us, hl with | [_, _], _ => rfl
  have mq49 := PySem.W.mg_of X G aq49
  have Fq16 := fun_mk (st := sNarrowest) lq16 cq16 kq16
  have bq16 := Fq16.binds (ps := ["length", "a"]) fun _ _ _ _ _ _ us hl => match us, hl with | [_, _], _ => rfl
  have mq16 := PySem.W.mg_of X G aq16
  have Fq54 := fun_mk (st := sConvoyBy) lq54 cq54 kq54
  have bq54 := Fq54.binds (ps := ["network", "roads", "sets_out"]) fun _ _ _ _ _ _ us hl => match us, hl with | [_, _, _], _ => rfl
  have mq54 := PySem.W.mg_of X G aq54
  have Fq44 := fun_mk (st := sWaitB) lq44 cq44 kq44
  have bq44 := Fq44.binds (ps := ["convoy", "other"]) fun _ _ _ _ _ _ us hl => match us, hl with | [_, _], _ => rfl
  have mq44 := PySem.W.mg_of X G aq44
  have Fq30 := fun_mk (st := sLWait) lq30 cq30 kq30
  have bq30 := Fq30.binds (ps := ["network", "convoy"]) fun _ _ _ _ _ _ us hl => match us, hl with | [_, _], _ => rfl
  have mq30 := PySem.W.mg_of X G aq30
  have Fq3 := fun_mk (st := sFirst) lq3 cq3 kq3
  have bq3 := Fq3.binds (ps := ["network", "roads", "minute"]) fun _ _ _ _ _ _ us hl => match us, hl with | [_, _, _], _ => rfl
  have mq3 := PySem.W.mg_of X G aq3
  have Fq6 := fun_mk (st := sLeast) lq6 cq6 kq6
  have bq6 := Fq6.binds (ps := ["network"]) fun _ _ _ _ _ _ us hl => match us, hl with | [_], _ => rfl
  have mq6 := PySem.W.mg_of X G aq6
  have Fq58 := fun_mk (st := sOn) lq58 cq58 kq58
  have bq58 := Fq58.binds (ps := ["network", "r", "minute"]) fun _ _ _ _ _ _ us hl => match us, hl with | [_, _, _], _ => rfl
  have mq58 := PySem.W.mg_of X G aq58
  have Fq60 := fun_mk (st := sTry) lq60 cq60 kq60
  have bq60 := Fq60.binds (ps := ["best", "here", "there", "r", "minutes"]) fun _ _ _ _ _ _ us hl => match us, hl with | [_, _, _, _, _], _ => rfl
  have mq60 := PySem.W.mg_of X G aq60
  have Fq18 := fun_mk (st := sPass) lq18 cq18 kq18
  have bq18 := Fq18.binds (ps := ["network", "load"]) fun _ _ _ _ _ _ us hl => match us, hl with | [_, _], _ => rfl
  have mq18 := PySem.W.mg_of X G aq18
  have Fq25 := fun_mk (st := sQOver) lq25 cq25 kq25
  have bq25 := Fq25.binds (ps := ["network", "passable", "p", "q"]) fun _ _ _ _ _ _ us hl => match us, hl with | [_, _, _, _], _ => rfl
  have mq25 := PySem.W.mg_of X G aq25
  have Fq59 := fun_mk (st := sQuick) lq59 cq59 kq59
  have bq59 := Fq59.binds (ps := ["network", "p", "q", "load"]) fun _ _ _ _ _ _ us hl => match us, hl with | [_, _, _, _], _ => rfl
  have mq59 := PySem.W.mg_of X G aq59
  have Fq65 := fun_mk (st := sHasWay) lq65 cq65 kq65
  have bq65 := Fq65.binds (ps := ["network", "p", "q", "load"]) fun _ _ _ _ _ _ us hl => match us, hl with | [_, _, _, _], _ => rfl
  have mq65 := PySem.W.mg_of X G aq65
  have FCq11 : FunC K "greatest_length" "greatest_length" sLen fq11 _ c2 := ⟨⟨_, _, _, _, _, _, _, _, rfl, lq11, cq11⟩, kq11⟩
  have Fq11 := FCq11.toFun
  have bq11 := Fq11.binds (ps := ["network", "p", "q", "height", "weight"]) fun _ _ _ _ _ _ us hl => match us, hl with | [_, _, _, _, _], _ => rfl
  have mq11 := PySem.W.mg_of X G aq11
  have Fq13 := fun_mk (st := sGWeight) lq13 cq13 kq13
  have bq13 := Fq13.binds (ps := ["network", "p", "q", "length", "height"]) fun _ _ _ _ _ _ us hl => match us, hl with | [_, _, _, _, _], _ => rfl
  have mq13 := PySem.W.mg_of X G aq13
  have Fq12 := fun_mk (st := sGHeight) lq12 cq12 kq12
  have bq12 := Fq12.binds (ps := ["network", "p", "q", "length", "weight"]) fun _ _ _ _ _ _ us hl => match us, hl with | [_, _, _, _, _], _ => rfl
  have mq12 := PySem.W.mg_of X G aq12
  have Fq57 := fun_mk (st := sIsNeeded) lq57 cq57 kq57
  have bq57 := Fq57.binds (ps := ["network", "passable", "p", "q", "r"]) fun _ _ _ _ _ _ us hl => match us, hl with | [_, _, _, _, _], _ => rfl
  have mq57 := PySem.W.mg_of X G aq57
  have Fq36 := fun_mk (st := sNeeded) lq36 cq36 kq36
  have bq36 := Fq36.binds (ps := ["network", "p", "q", "load"]) fun _ _ _ _ _ _ us hl => match us, hl with | [_, _, _, _], _ => rfl
  have mq36 := PySem.W.mg_of X G aq36
  have Fq0 := fun_mk (st := sNumOr) lq0 cq0 kq0
  have bq0 := Fq0.binds (ps := ["number"]) fun _ _ _ _ _ _ us hl => match us, hl with | [_], _ => rfl
  have mq0 := PySem.W.mg_of X G aq0
  have Fq17 := fun_mk (st := sRLoad) lq17 cq17 kq17
  have bq17 := Fq17.binds (ps := ["network", "p", "q", "load"]) fun _ _ _ _ _ _ us hl => match us, hl with | [_, _, _, _], _ => rfl
  have mq17 := PySem.W.mg_of X G aq17
  have Fq1 := fun_mk (st := sRGreat) lq1 cq1 kq1
  have bq1 := Fq1.binds (ps := ["network", "p", "q", "load"]) fun _ _ _ _ _ _ us hl => match us, hl with | [_, _, _, _], _ => rfl
  have mq1 := PySem.W.mg_of X G aq1
  have Fq10 := fun_mk (st := sRStart) lq10 cq10 kq10
  have bq10 := Fq10.binds (ps := ["network", "p", "q", "load", "t"]) fun _ _ _ _ _ _ us hl => match us, hl with | [_, _, _, _, _], _ => rfl
  have mq10 := PySem.W.mg_of X G aq10
  have Fq27 := fun_mk (st := sAStart) lq27 cq27 kq27
  have bq27 := Fq27.binds (ps := ["network"]) fun _ _ _ _ _ _ us hl => match us, hl with | [_], _ => rfl
  have mq27 := PySem.W.mg_of X G aq27
  have Fq34 := fun_mk (st := sAPlace) lq34 cq34 kq34
  have bq34 := Fq34.binds (ps := ["network"]) fun _ _ _ _ _ _ us hl => match us, hl with | [_], _ => rfl
  have mq34 := PySem.W.mg_of X G aq34
  have Fq9 := fun_mk (st := sATold) lq9 cq9 kq9
  have bq9 := Fq9.binds (ps := ["minutes", "high", "heavy", "a", "b"]) fun _ _ _ _ _ _ us hl => match us, hl with | [_, _, _, _, _], _ => rfl
  have mq9 := PySem.W.mg_of X G aq9
  have Fq48 := fun_mk (st := sARoad) lq48 cq48 kq48
  have bq48 := Fq48.binds (ps := ["network", "p", "q", "minutes", "high", "heavy", "a", "b"]) fun _ _ _ _ _ _ us hl => match us, hl with | [_, _, _, _, _, _, _, _], _ => rfl
  have mq48 := PySem.W.mg_of X G aq48
  have Fq37 := fun_mk (st := sAClose) lq37 cq37 kq37
  have bq37 := Fq37.binds (ps := ["network", "r", "on"]) fun _ _ _ _ _ _ us hl => match us, hl with | [_, _, _], _ => rfl
  have mq37 := PySem.W.mg_of X G aq37
  have Fq39 := fun_mk (st := sAWiden) lq39 cq39 kq39
  have bq39 := Fq39.binds (ps := ["network", "r", "a", "b"]) fun _ _ _ _ _ _ us hl => match us, hl with | [_, _, _, _], _ => rfl
  have mq39 := PySem.W.mg_of X G aq39
  have Fq35 := fun_mk (st := sARound) lq35 cq35 kq35
  have bq35 := Fq35.binds (ps := ["network", "length", "a", "b"]) fun _ _ _ _ _ _ us hl => match us, hl with | [_, _, _, _], _ => rfl
  have mq35 := PySem.W.mg_of X G aq35
  have Fq19 := fun_mk (st := sALongest) lq19 cq19 kq19
  have bq19 := Fq19.binds (ps := ["network", "a", "b"]) fun _ _ _ _ _ _ us hl => match us, hl with | [_, _, _], _ => rfl
  have mq19 := PySem.W.mg_of X G aq19
  have Fq8 := fun_mk (st := sANarrow) lq8 cq8 kq8
  have bq8 := Fq8.binds (ps := ["network", "length", "a"]) fun _ _ _ _ _ _ us hl => match us, hl with | [_, _, _], _ => rfl
  have mq8 := PySem.W.mg_of X G aq8
  have Fq52 := fun_mk (st := sAMay) lq52 cq52 kq52
  have bq52 := Fq52.binds (ps := ["network", "r", "length", "height", "weight"]) fun _ _ _ _ _ _ us hl => match us, hl with | [_, _, _, _, _], _ => rfl
  have mq52 := PySem.W.mg_of X G aq52
  have Fq50 := fun_mk (st := sAWay) lq50 cq50 kq50
  have bq50 := Fq50.binds (ps := ["network", "p", "q", "length", "height", "weight"]) fun _ _ _ _ _ _ us hl => match us, hl with | [_, _, _, _, _, _], _ => rfl
  have mq50 := PySem.W.mg_of X G aq50
  have Fq47 := fun_mk (st := sAMost) lq47 cq47 kq47
  have bq47 := Fq47.binds (ps := ["network", "p", "q", "height", "weight"]) fun _ _ _ _ _ _ us hl => match us, hl with | [_, _, _, _, _], _ => rfl
  have mq47 := PySem.W.mg_of X G aq47
  have Fq15 := fun_mk (st := sAHeavy) lq15 cq15 kq15
  have bq15 := Fq15.binds (ps := ["network", "p", "q", "length", "height"]) fun _ _ _ _ _ _ us hl => match us, hl with | [_, _, _, _, _], _ => rfl
  have mq15 := PySem.W.mg_of X G aq15
  have Fq21 := fun_mk (st := sAHigh) lq21 cq21 kq21
  have bq21 := Fq21.binds (ps := ["network", "p", "q", "length", "weight"]) fun _ _ _ _ _ _ us hl => match us, hl with | [_, _, _, _, _], _ => rfl
  have mq21 := PySem.W.mg_of X G aq21
  have Fq38 := fun_mk (st := sANeeds) lq38 cq38 kq38
  have bq38 := Fq38.binds (ps := ["network", "p", "q", "length", "height", "weight"]) fun _ _ _ _ _ _ us hl => match us, hl with | [_, _, _, _, _, _], _ => rfl
  have mq38 := PySem.W.mg_of X G aq38
  have Fq20 := fun_mk (st := sASoon) lq20 cq20 kq20
  have bq20 := Fq20.binds (ps := ["network", "p", "q", "length", "height", "weight", "t"]) fun _ _ _ _ _ _ us hl => match us, hl with | [_, _, _, _, _, _, _], _ => rfl
  have mq20 := PySem.W.mg_of X G aq20
  have Fq41 := fun_mk (st := sASend) lq41 cq41 kq41
  have bq41 := Fq41.binds (ps := ["network", "p", "q", "length", "height", "weight", "t"]) fun _ _ _ _ _ _ us hl => match us, hl with | [_, _, _, _, _, _, _], _ => rfl
  have mq41 := PySem.W.mg_of X G aq41
  have Fq46 := fun_mk (st := sADrop) lq46 cq46 kq46
  have bq46 := Fq46.binds (ps := ["network", "k"]) fun _ _ _ _ _ _ us hl => match us, hl with | [_, _], _ => rfl
  have mq46 := PySem.W.mg_of X G aq46
  have Fq28 := fun_mk (st := sAWhere) lq28 cq28 kq28
  have bq28 := Fq28.binds (ps := ["network", "k", "t"]) fun _ _ _ _ _ _ us hl => match us, hl with | [_, _, _], _ => rfl
  have mq28 := PySem.W.mg_of X G aq28
  have Fq40 := fun_mk (st := sABusy) lq40 cq40 kq40
  have bq40 := Fq40.binds (ps := ["network", "r", "t"]) fun _ _ _ _ _ _ us hl => match us, hl with | [_, _, _], _ => rfl
  have mq40 := PySem.W.mg_of X G aq40
  have Fq26 := fun_mk (st := sAConvoy) lq26 cq26 kq26
  have bq26 := Fq26.binds (ps := ["network", "k"]) fun _ _ _ _ _ _ us hl => match us, hl with | [_, _], _ => rfl
  have mq26 := PySem.W.mg_of X G aq26
  have Fq45 := fun_mk (st := sALook) lq45 cq45 kq45
  have bq45 := Fq45.binds (ps := ["network", "r"]) fun _ _ _ _ _ _ us hl => match us, hl with | [_, _], _ => rfl
  have mq45 := PySem.W.mg_of X G aq45
  have Fq31 := fun_mk (st := sAState) lq31 cq31 kq31
  have bq31 := Fq31.binds (ps := ["network"]) fun _ _ _ _ _ _ us hl => match us, hl with | [_], _ => rfl
  have mq31 := PySem.W.mg_of X G aq31
  have Fq53 := fun_mk (st := sOver) lq53 cq53 kq53
  have bq53 := Fq53.binds (ps := ["handler", "network", "n"]) fun _ _ _ _ _ _ us hl => match us, hl with | [_, _, _], _ => rfl
  have mq53 := PySem.W.mg_of X G aq53
  have Fq42 := fun_mk (st := sACall) lq42 cq42 kq42
  have bq42 := Fq42.binds (ps := ["network", "call", "numbers"]) fun _ _ _ _ _ _ us hl => match us, hl with | [_, _, _], _ => rfl
  have mq42 := PySem.W.mg_of X G aq42
  have Fq64 := fun_mk (st := sAnswers) lq64 cq64 kq64
  have bq64 := Fq64.binds (ps := ["calls"]) fun _ _ _ _ _ _ us hl => match us, hl with | [_], _ => rfl
  have mq64 := PySem.W.mg_of X G aq64
  have Tq67 : ClsA K CL nsLoad := ⟨⟨pgq67, hdq67, poq67, saq67⟩, List.forall_mem_cons.mpr ⟨x_Load_length, List.forall_mem_cons.mpr ⟨x_Load_height, List.forall_mem_cons.mpr ⟨x_Load_weight, fun _ z => nomatch z⟩⟩⟩⟩
  have mq67 := PySem.W.mg_of X G aq67
  have Tq68 : ClsA K CR nsRoad := ⟨⟨pgq68, hdq68, poq68, saq68⟩, List.forall_mem_cons.mpr ⟨x_Road_p, List.forall_mem_cons.mpr ⟨x_Road_q, List.forall_mem_cons.mpr ⟨x_Road_minutes, List.forall_mem_cons.mpr ⟨x_Road_high, List.forall_mem_cons.mpr ⟨x_Road_heavy, List.forall_mem_cons.mpr ⟨x_Road_a, List.forall_mem_cons.mpr ⟨x_Road_b, List.forall_mem_cons.mpr ⟨x_Road_closed, fun _ z => nomatch z⟩⟩⟩⟩⟩⟩⟩⟩⟩
  have mq68 := PySem.W.mg_of X G aq68
  have Tq62 : ClsA K CN nsNet := ⟨⟨pgq62, hdq62, poq62, saq62⟩, List.forall_mem_cons.mpr ⟨x_Network_places, List.forall_mem_cons.mpr ⟨x_Network_roads, List.forall_mem_cons.mpr ⟨x_Network_convoys, fun _ z => nomatch z⟩⟩⟩⟩
  have mq62 := PySem.W.mg_of X G aq62
  have Tq63 : ClsA K CS nsStretch := ⟨⟨pgq63, hdq63, poq63, saq63⟩, List.forall_mem_cons.mpr ⟨x_Stretch_road_number, List.forall_mem_cons.mpr ⟨x_Stretch_comes, List.forall_mem_cons.mpr ⟨x_Stretch_leaves, fun _ z => nomatch z⟩⟩⟩⟩
  have mq63 := PySem.W.mg_of X G aq63
  have Tq66 : ClsA K CC nsConvoy := ⟨⟨pgq66, hdq66, poq66, saq66⟩, List.forall_mem_cons.mpr ⟨x_Convoy_sets_out, List.forall_mem_cons.mpr ⟨x_Convoy_stretches, fun _ z => nomatch z⟩⟩⟩
  have mq66 := PySem.W.mg_of X G aq66
  have Fq56 := fun_mk (st := sLoadInit) lq56 cq56 kq56
  have bq56 := Fq56.binds (ps := ["self", "length", "height", "weight"]) fun _ _ _ _ _ _ us hl => match us, hl with | [_, _, _, _], _ => rfl
  have Kq67 : Mk K CL fq56 := ⟨mkq67, aq56, iq56, kcq67⟩
  have Fq14 := fun_mk (st := sLoadTold) lq14 cq14 kq14
  have bq14 := Fq14.binds (ps := ["self"]) fun _ _ _ _ _ _ us hl => match us, hl with | [_], _ => rfl
  have Mq14 : Meth K CL "is_as_told" fq14 := ⟨aq14, iq14, kq14⟩
  have Fq55 := fun_mk (st := sRoadInit) lq55 cq55 kq55
  have bq55 := Fq55.binds (ps := ["self", "p", "q", "minutes", "high", "heavy", "a", "b"]) fun _ _ _ _ _ _ us hl => match us, hl with | [_, _, _, _, _, _, _, _], _ => rfl
  have Kq68 : Mk K CR fq55 := ⟨mkq68, aq55, iq55, kcq68⟩
  have Fq24 := fun_mk (st := sHasBend) lq24 cq24 kq24
  have bq24 := Fq24.binds (ps := ["self"]) fun _ _ _ _ _ _ us hl => match us, hl with | [_], _ => rfl
  have Mq24 : Meth K CR "has_bend" fq24 := ⟨aq24, iq24, kq24⟩
  have Fq33 := fun_mk (st := sWhyNot) lq33 cq33 kq33
  have bq33 := Fq33.binds (ps := ["self", "load"]) fun _ _ _ _ _ _ us hl => match us, hl with | [_, _], _ => rfl
  have Mq33 : Meth K CR "why_not" fq33 := ⟨aq33, iq33, kq33⟩
  have Fq32 := fun_mk (st := sNetInit) lq32 cq32 kq32
  have bq32 := Fq32.binds (ps := ["self"]) fun _ _ _ _ _ _ us hl => match us, hl with | [_], _ => rfl
  have Kq62 : Mk K CN fq32 := ⟨mkq62, aq32, iq32, kcq62⟩
  have Fq2 := fun_mk (st := sHasPlaces) lq2 cq2 kq2
  have bq2 := Fq2.binds (ps := ["self", "p", "q"]) fun _ _ _ _ _ _ us hl => match us, hl with | [_, _, _], _ => rfl
  have Mq2 : Meth K CN "has_places" fq2 := ⟨aq2, iq2, kq2⟩
  have Fq7 := fun_mk (st := sHasRoad) lq7 cq7 kq7
  have bq7 := Fq7.binds (ps := ["self", "r"]) fun _ _ _ _ _ _ us hl => match us, hl with | [_, _], _ => rfl
  have Mq7 : Meth K CN "has_road" fq7 := ⟨aq7, iq7, kq7⟩
  have Fq4 := fun_mk (st := sHasConvoy) lq4 cq4 kq4
  have bq4 := Fq4.binds (ps := ["self", "k"]) fun _ _ _ _ _ _ us hl => match us, hl with | [_, _], _ => rfl
  have Mq4 : Meth K CN "has_convoy" fq4 := ⟨aq4, iq4, kq4⟩
  have Fq29 := fun_mk (st := sStretchInit) lq29 cq29 kq29
  have bq29 := Fq29.binds (ps := ["self", "road_number", "comes", "leaves"]) fun _ _ _ _ _ _ us hl => match us, hl with | [_, _, _, _], _ => rfl
  have Kq63 : Mk K CS fq29 := ⟨mkq63, aq29, iq29, kcq63⟩
  have Fq22 := fun_mk (st := sHolds) lq22 cq22 kq22
  have bq22 := Fq22.binds (ps := ["self", "minute"]) fun _ _ _ _ _ _ us hl => match us, hl with | [_, _], _ => rfl
  have Mq22 : Meth K CS "holds" fq22 := ⟨aq22, iq22, kq22⟩
  have Fq23 := fun_mk (st := sMeets) lq23 cq23 kq23
  have bq23 := Fq23.binds (ps := ["self", "other"]) fun _ _ _ _ _ _ us hl => match us, hl with | [_, _], _ => rfl
  have Mq23 : Meth K CS "meets" fq23 := ⟨aq23, iq23, kq23⟩
  have Fq43 := fun_mk (st := sConvoyInit) lq43 cq43 kq43
  have bq43 := Fq43.binds (ps := ["self", "sets_out", "stretches"]) fun _ _ _ _ _ _ us hl => match us, hl with | [_, _, _], _ => rfl
  have Kq66 : Mk K CC fq43 := ⟨mkq66, aq43, iq43, kcq66⟩
  have Fq5 := fun_mk (st := sStretchIn) lq5 cq5 kq5
  have bq5 := Fq5.binds (ps := ["self", "minute"]) fun _ _ _ _ _ _ us hl => match us, hl with | [_, _], _ => rfl
  have Mq5 : Meth K CC "stretch_in" fq5 := ⟨aq5, iq5, kq5⟩
  refine ⟨PySem.W.fnOf "answers" "answers" (defArgs sAnswers) (defBody sAnswers) (defScope sAnswers) .none kVq64 dcq64 pmq64 anq64 cdq64 ctq64, fun s us hu => match us, hu with | [_], _ => .of_eq rfl, fun base KB GB BM CH => ?_⟩
  have ch1 : PySem.W.CodeHd base c1 P1 := CH (c1, P1) (by simp)
  have ch2 : PySem.W.CodeHd base c2 P2 := CH (c2, P2) (by simp)
  have GR : FnOk P w K mg base CX0 1 fq51 _ _ spRound := ok_round Fq51
  have GLg : FnOk P w K mg base CX0 4 fq49 _ _ (spLongest P1) := ok_longest FCq49 ch1 BM Fq61 mq61 bq61 Fq51 mq51 bq51 C_MOST_LONG
  have GNw : FnOk P w K mg base CX0 2 fq16 _ _ spNarrow := ok_narrow Fq16 Fq51 mq51 bq51 C_MOST_WIDE N_range
  have GLI : FnOk P w K mg base CX0 1 fq56 _ _ (spLoadInit CL) := ok_loadInit Fq56 Tq67
  have GLT : FnOk P w K mg base CX0 1 fq14 _ _ (spLoadTold CL) := ok_loadTold Fq14 Tq67 C_MOST_LONG C_MOST_HIGH C_MOST_HEAVY
  have GRI : FnOk P w K mg base CX0 1 fq55 _ _ (spRoadInit CR) := ok_roadInit Fq55 Tq68
  have GHB : FnOk P w K mg base CX0 1 fq24 _ _ (spHasBend CR) := ok_hasBend Fq24 Tq68
  have GWy : FnOk P w K mg base CX0 2 fq33 _ _ (spWhy CR CL) := ok_why Fq33 Tq68 Tq67 Fq24 Mq24 bq24 Fq51 mq51 bq51 C_MAY_GO C_TOO_HIGH C_TOO_HEAVY C_NOT_ROUND C_IS_CLOSED
  have GNI : FnOk P w K mg base CX0 1 fq32 _ _ (spNetInit CN) := ok_netInit Fq32 Tq62
  have GHP : FnOk P w K mg base CX0 1 fq2 _ _ (spHasPlaces CN) := ok_hasPlaces Fq2 Tq62
  have GHR : FnOk P w K mg base CX0 1 fq7 _ _ (spHasRoad CN) := ok_hasRoad Fq7 Tq62 N_len
  have GHC : FnOk P w K mg base CX0 1 fq4 _ _ (spHasConvoy CN) := ok_hasConvoy Fq4 Tq62
  have GSI : FnOk P w K mg base CX0 1 fq29 _ _ (spStretchInit CS) := ok_stretchInit Fq29 Tq63
  have GCI : FnOk P w K mg base CX0 1 fq43 _ _ (spConvoyInit CC) := ok_convoyInit Fq43 Tq66
  have GIn : FnOk P w K mg base CX0 2 fq5 _ _ (spStretchIn CC CS) := ok_stretchIn Fq5 Tq66 Tq63 Fq22 Mq22 bq22
  have GBy : FnOk P w K mg base CX0 3 fq54 _ _ (spConvoyBy CN CR CC CS) := ok_convoyBy Fq54 Tq62 Tq68 Kq63 mq63 GSI bq29 Kq66 mq66 GCI bq43
  have GWB : FnOk P w K mg base CX0 2 fq44 _ _ (spWaitB CC CS) := ok_waitB Fq44 Tq66 Tq63 Fq23 Mq23 bq23 N_max
  have GLW : FnOk P w K mg base CX0 3 fq30 _ _ (spLWait CN CC CS) := ok_lWait Fq30 Tq62 GWB Fq44.kp mq44 bq44 N_max
  have GFi : FnOk P w K mg base CX0 4 fq3 _ _ (spFirst CN CR CC CS) := ok_first Fq3 GBy Fq54.kp mq54 bq54 GLW Fq30.kp mq30 bq30
  have GLe : FnOk P w K mg base CX0 1 fq6 _ _ (spLeast CN CC CS) := ok_least Fq6 Tq62
  have GOn : FnOk P w K mg base CX0 3 fq58 _ _ (spOn CN CC CS) := ok_on Fq58 Tq62 Tq66 Tq63 GIn Mq5 bq5 N_sorted
  have GPs : FnOk P w K mg base CX0 3 fq18 _ _ (spPass CN CR CL) := ok_pass Fq18 Tq62 Tq68 Mq33 bq33 GWy C_MAY_GO N_enumerate
  have GQO : FnOk P w K mg base CX0 3 fq25 _ _ (spQOver CN CR) := ok_qover Fq25 Tq62 Tq68 Fq60 mq60 bq60
  have GQ : FnOk P w K mg base CX0 4 fq59 _ _ (spQuick CN CR CL) := ok_quick Fq59 GPs Fq18.kp mq18 bq18 GQO Fq25.kp mq25 bq25
  have GHW : FnOk P w K mg base CX0 5 fq65 _ _ (spHasWay CN CR CL) := ok_hasWay Fq65 GQ Fq59.kp mq59 bq59
  have GLn : FnOk P w K mg base CX0 8 fq11 _ _ (spLen CN CR P2) := ok_len FCq11 ch2 BM Fq61 mq61 bq61 GHW Fq65.kp mq65 bq65 Kq67 mq67 GLI bq56 C_MOST_LONG
  have GGW : FnOk P w K mg base CX0 6 fq13 _ _ (spGMax CN CR (fun r => r.heavy) fun u v z => ⟨u, v, z⟩) := ok_gWeight Fq13 Tq62 Tq68 GHW Fq65.kp mq65 bq65 Kq67 mq67 GLI bq56 N_max
  have GGH : FnOk P w K mg base CX0 6 fq12 _ _ (spGMax CN CR (fun r => r.high) fun u v z => ⟨u, z, v⟩) := ok_gHeight Fq12 Tq62 Tq68 GHW Fq65.kp mq65 bq65 Kq67 mq67 GLI bq56 N_max
  have GIN : FnOk P w K mg base CX0 4 fq57 _ _ (spIsNeeded CN CR) := ok_isNeeded Fq57 GQO Fq25.kp mq25 bq25
  have GNd : FnOk P w K mg base CX0 5 fq36 _ _ (spNeeded CN CR CL) := ok_needed Fq36 GPs Fq18.kp mq18 bq18 GIN Fq57.kp mq57 bq57
  have GNo : FnOk P w K mg base CX0 1 fq0 _ _ spNumOr := ok_numOr Fq0 C_NONE_FOUND
  have GRL : FnOk P w K mg base CX0 2 fq17 _ _ (spRLoad CN CL) := ok_rLoad Fq17 Tq62 Tq67 C_NO_SUCH C_NOT_AS_TOLD GHP Mq2 bq2 GLT Mq14 bq14
  have GRG : FnOk P w K mg base CX0 3 fq1 _ _ (spRGreat CN CL) := ok_rGreat Fq1 C_NOT_AS_TOLD GRL Fq17.kp mq17 bq17
  have GRS : FnOk P w K mg base CX0 3 fq10 _ _ (spRStart CN CL) := ok_rStart Fq10 C_NOT_AS_TOLD C_LATEST_START GRL Fq17.kp mq17 bq17
  have kn : Known P w K mg base ⟨CN, CR, CL, P1, P2, CC, CS⟩ := { TN := Tq62, TR := Tq68, TL := Tq67, TC := Tq66, TS := Tq63, ne := h_ne, c17 := C_WOULD_MEET, most8 := C_MOST_CONVOYS, c2 := C_NO_SUCH, c22 := C_NOT_AS_TOLD, c28 := C_FULL, c33 := C_NONE_FOUND, long := C_MOST_LONG, wide := C_MOST_WIDE, high := C_MOST_HIGH, heavy := C_MOST_HEAVY, minutes := C_MOST_MINUTES, roads := C_MOST_ROADS, places := C_MOST_PLACES, len := N_len, round := ⟨_, _, GR, mq51, Fq51.kp, bq51⟩, longest := ⟨_, _, GLg, mq49, Fq49.kp, bq49⟩, narrowest := ⟨_, _, GNw, mq16, Fq16.kp, bq16⟩, quick := ⟨_, _, GQ, mq59, Fq59.kp, bq59⟩, gl := ⟨_, _, GLn, mq11, Fq11.kp, bq11⟩, numOr := ⟨_, _, GNo, mq0, Fq0.kp, bq0⟩, gw := ⟨_, _, GGW, mq13, Fq13.kp, bq13⟩, gh := ⟨_, _, GGH, mq12, Fq12.kp, bq12⟩, needed := ⟨_, _, GNd, mq36, Fq36.kp, bq36⟩, rload := ⟨_, _, GRL, mq17, Fq17.kp, bq17⟩, rgreat := ⟨_, _, GRG, mq1, Fq1.kp, bq1⟩, rstart := ⟨_, _, GRS, mq10, Fq10.kp, bq10⟩, cby := ⟨_, _, GBy, mq54, Fq54.kp, bq54⟩, lwait := ⟨_, _, GLW, mq30, Fq30.kp, bq30⟩, first := ⟨_, _, GFi, mq3, Fq3.kp, bq3⟩, least := ⟨_, _, GLe, mq6, Fq6.kp, bq6⟩, con := ⟨_, _, GOn, mq58, Fq58.kp, bq58⟩, sin := ⟨_, _, GIn, Mq5, bq5⟩, hasConvoy := ⟨_, _, GHC, Mq4, bq4⟩, load := ⟨_, _, GLI, Kq67, mq67, bq56⟩, road := ⟨_, _, GRI, Kq68, mq68, bq55⟩, told := ⟨_, _, GLT, Mq14, bq14⟩, bend := ⟨_, _, GHB, Mq24, bq24⟩, why := ⟨_, _, GWy, Mq33, bq33⟩, hasPlaces := ⟨_, _, GHP, Mq2, bq2⟩, hasRoad := ⟨_, _, GHR, Mq7, bq7⟩ }
  have GMe : FnOk P w K mg base CX0 1 fq9 _ _ spMeas := ok_meas Fq9 C_MOST_MINUTES C_MOST_HIGH C_MOST_HEAVY C_MOST_WIDE
  have V0 : Serves P w K mg base ⟨CN, CR, CL, P1, P2, CC, CS⟩ 9 fq27 0 := serves0 (ok_aStart Fq27) (by decide) bq27 Fq27.kp
  have V1 : Serves P w K mg base ⟨CN, CR, CL, P1, P2, CC, CS⟩ 9 fq34 1 := serves (ok_aPlace Fq34 Tq62 C_MOST_PLACES C_FULL) (by decide) bq34 Fq34.kp rfl st_place
  have V2 : Serves P w K mg base ⟨CN, CR, CL, P1, P2, CC, CS⟩ 9 fq48 2 := serves (ok_aRoad Fq48 kn ⟨_, _, GMe, mq9, Fq9.kp, bq9⟩) (by decide) bq48 Fq48.kp rfl st_road
  have V3 : Serves P w K mg base ⟨CN, CR, CL, P1, P2, CC, CS⟩ 9 fq37 3 := serves (ok_aClose Fq37 kn) (by decide) bq37 Fq37.kp rfl st_close
  have V4 : Serves P w K mg base ⟨CN, CR, CL, P1, P2, CC, CS⟩ 9 fq39 4 := serves (ok_aWiden Fq39 kn) (by decide) bq39 Fq39.kp rfl st_widen
  have V5 : Serves P w K mg base ⟨CN, CR, CL, P1, P2, CC, CS⟩ 9 fq35 5 := serves (ok_aRound Fq35 kn) (by decide) bq35 Fq35.kp rfl st_round
  have V6 : Serves P w K mg base ⟨CN, CR, CL, P1, P2, CC, CS⟩ 9 fq19 6 := serves (ok_aLongest Fq19 kn) (by decide) bq19 Fq19.kp rfl st_longest
  have V7 : Serves P w K mg base ⟨CN, CR, CL, P1, P2, CC, CS⟩ 9 fq8 7 := serves (ok_aNarrow Fq8 kn) (by decide) bq8 Fq8.kp rfl st_narrow
  have V8 : Serves P w K mg base ⟨CN, CR, CL, P1, P2, CC, CS⟩ 9 fq52 8 := serves (ok_aMay Fq52 kn) (by decide) bq52 Fq52.kp rfl st_may
  have V9 : Serves P w K mg base ⟨CN, CR, CL, P1, P2, CC, CS⟩ 9 fq50 9 := serves (ok_aWay Fq50 kn) (by decide) bq50 Fq50.kp rfl st_way
  have V10 : Serves P w K mg base ⟨CN, CR, CL, P1, P2, CC, CS⟩ 9 fq47 10 := serves (ok_aMost Fq47 kn) (by decide) bq47 Fq47.kp rfl st_most
  have V11 : Serves P w K mg base ⟨CN, CR, CL, P1, P2, CC, CS⟩ 9 fq15 11 := serves (ok_aHeavy Fq15 kn) (by decide) bq15 Fq15.kp rfl st_heavy
  have V12 : Serves P w K mg base ⟨CN, CR, CL, P1, P2, CC, CS⟩ 9 fq21 12 := serves (ok_aHigh Fq21 kn) (by decide) bq21 Fq21.kp rfl st_high
  have V13 : Serves P w K mg base ⟨CN, CR, CL, P1, P2, CC, CS⟩ 9 fq38 13 := serves (ok_aNeeds Fq38 kn) (by decide) bq38 Fq38.kp rfl st_needs
  have V14 : Serves P w K mg base ⟨CN, CR, CL, P1, P2, CC, CS⟩ 9 fq20 14 := serves (ok_aSoon Fq20 kn) (by decide) bq20 Fq20.kp rfl st_soon
  have V15 : Serves P w K mg base ⟨CN, CR, CL, P1, P2, CC, CS⟩ 9 fq41 15 := serves (ok_aSend Fq41 kn) (by decide) bq41 Fq41.kp rfl st_send
  have V16 : Serves P w K mg base ⟨CN, CR, CL, P1, P2, CC, CS⟩ 9 fq46 16 := serves (ok_aDrop Fq46 kn) (by decide) bq46 Fq46.kp rfl st_drop
  have V17 : Serves P w K mg base ⟨CN, CR, CL, P1, P2, CC, CS⟩ 9 fq28 17 := serves (ok_aWhere Fq28 kn) (by decide) bq28 Fq28.kp rfl st_where
  have V18 : Serves P w K mg base ⟨CN, CR, CL, P1, P2, CC, CS⟩ 9 fq40 18 := serves (ok_aBusy Fq40 kn) (by decide) bq40 Fq40.kp rfl st_busy
  have V19 : Serves P w K mg base ⟨CN, CR, CL, P1, P2, CC, CS⟩ 9 fq26 19 := serves (ok_aConvoy Fq26 kn) (by decide) bq26 Fq26.kp rfl st_convoy
  have V20 : Serves P w K mg base ⟨CN, CR, CL, P1, P2, CC, CS⟩ 9 fq45 20 := serves (ok_aLook Fq45 kn) (by decide) bq45 Fq45.kp rfl st_look
  have V21 : Serves P w K mg base ⟨CN, CR, CL, P1, P2, CC, CS⟩ 9 fq31 21 := serves (ok_aState Fq31 kn) (by decide) bq31 Fq31.kp rfl st_state
  have hfs : ∀ j, j < 22 → ∃ fj, ([fq27, fq34, fq48, fq37, fq39, fq35, fq19, fq8, fq52, fq50, fq47, fq15, fq21, fq38, fq20, fq41, fq46, fq28, fq40, fq26, fq45, fq31] : List Addr)[j]? = some fj ∧ Serves P w K mg base ⟨CN, CR, CL, P1, P2, CC, CS⟩ 9 fj j := fun j hj => match j, hj with
    | 0, _ => ⟨_, rfl, V0⟩
    | 1, _ => ⟨_, rfl, V1⟩
    | 2, _ => ⟨_, rfl, V2⟩
    | 3, _ => ⟨_, rfl, V3⟩
    | 4, _ => ⟨_, rfl, V4⟩
    | 5, _ => ⟨_, rfl, V5⟩
    | 6, _ => ⟨_, rfl, V6⟩
    | 7, _ => ⟨_, rfl, V7⟩
    | 8, _ => ⟨_, rfl, V8⟩
    | 9, _ => ⟨_, rfl, V9⟩
    | 10, _ => ⟨_, rfl, V10⟩
    | 11, _ => ⟨_, rfl, V11⟩
    | 12, _ => ⟨_, rfl, V12⟩
    | 13, _ => ⟨_, rfl, V13⟩
    | 14, _ => ⟨_, rfl, V14⟩
    | 15, _ => ⟨_, rfl, V15⟩
    | 16, _ => ⟨_, rfl, V16⟩
    | 17, _ => ⟨_, rfl, V17⟩
    | 18, _ => ⟨_, rfl, V18⟩
    | 19, _ => ⟨_, rfl, V19⟩
    | 20, _ => ⟨_, rfl, V20⟩
    | 21, _ => ⟨_, rfl, V21⟩
    | j + 22, hj => absurd hj (by omega)
  have GA : Callable P w K mg base "answer_call" 11 ["network", "call", "numbers"] (spAC ⟨CN, CR, CL, P1, P2, CC, CS⟩) := ⟨_, _, ok_aCall Fq42 Fq53 mq53 bq53 N_len C_NOT_STARTED (PySem.W.mg_of X G aq69) (fun H => .inr ⟨_, _, _, lq69, rfl, rfl, (by have := congrArg List.length s_HAN; simp at this; rw [this]; decide), by rw [s_HAN]; exact vals_refs _⟩) hfs, mq42, Fq42.kp, bq42⟩
  exact ok_answers (a := ⟨CN, CR, CL, P1, P2, CC, CS⟩) (by decide) Fq64 GA ⟨_, _, GNI, Kq62, mq62, bq32⟩ C_START N_len (PySem.W.mg_of X G aq70) fun H => .inr ⟨_, _, _, lq70, rfl, rfl, (by have := congrArg List.length s_HOW; simp at this; rw [this]; decide), vals_ints s_HOW⟩
end BP
def PySem.W.Fast.tw13052408679150730464 : Nat := 0
theorem PySem.W.Fast.te13052408679150730464 : True := trivial
def PySem.W.Fast.tw16555476440528808052 : Nat := 0
theorem PySem.W.Fast.te16555476440528808052 : True := trivial
open PySem PySem.W PyProof.Rows
set_option maxRecDepth 100000 in
set_option maxHeartbeats 0 in
theorem PySem.Challenge.cw_bendlorries_s01_answers_holds : PySem.Challenge.rw_bendlorries_s01_answers.Holds := by
  w_on; k_headS; (case hw => exact ⟨[.list [.int 0]], by decide +kernel, by decide +kernel⟩)
  k_fillS
  refine' L2.walk_specT (r := PySem.Challenge.rw_bendlorries_s01_answers) (k := 12) (ps := ["calls"]) (tabs := [(?c1, ?p1), (?c2, ?p2)]) (sp := BP.spAns ?p1 ?p2) (by decide +kernel) rfl rfl ⟨rfl, by decide, by decide⟩ (fun w h Y => PySem.W.kIn_of Y) ?nt ?tt ?ff ?ss
  case nt =>
    intro w
    kernel_rfl
  case tt =>
    intro w lo mean mg mb h T Y X
    refine' List.forall_mem_cons.mpr ⟨?x1, List.forall_mem_cons.mpr ⟨?x2, fun _ z => nomatch z⟩⟩
    case x1 =>
      refine' L2.tab_one (x := "longest_rod") T X ?a1 ?a2 ?a3 ?a4 ?a5 ?a6
      (case a1 => k_is); (case a2 => k_is); (case a3 => exact rfl); (case a4 => k_is); (case a5 => exact rfl); (case a6 => decide +kernel)
    case x2 =>
      refine' L2.tab_one (x := "greatest_length") T X ?a1 ?a2 ?a3 ?a4 ?a5 ?a6
      (case a1 => k_is); (case a2 => k_is); (case a3 => exact rfl); (case a4 => k_is); (case a5 => exact rfl); (case a6 => decide +kernel)
  case ff =>
    intro w mg fa h Y KX G hmg
    refine' BP.assemble KX G hmg ?v_MOST_PLACES ?v_MOST_ROADS ?v_MOST_CONVOYS ?v_MOST_MINUTES ?v_MOST_HIGH ?v_MOST_HEAVY ?v_MOST_LONG ?v_MOST_WIDE ?v_LATEST_START ?v_MAY_GO ?v_TOO_HIGH ?v_TOO_HEAVY ?v_NOT_ROUND ?v_IS_CLOSED ?v_NO_SUCH ?v_NOT_STARTED ?v_WOULD_MEET ?v_NOT_AS_TOLD ?v_FULL ?v_NONE_FOUND ?v_START ?n_len ?n_range ?n_enumerate ?n_max ?n_sorted ?aq61 ?lq61 ?cq61 ?kq61 ?aq51 ?lq51 ?cq51 ?kq51 ?aq49 ?lq49 ?cq49 ?kq49 ?aq16 ?lq16 ?cq16 ?kq16 ?aq54 ?lq54 ?cq54 ?kq54 ?aq44 ?lq44 ?cq44 ?kq44 ?aq30 ?lq30 ?cq30 ?kq30 ?aq3 ?lq3 ?cq3 ?kq3 ?aq6 ?lq6 ?cq6 ?kq6 ?aq58 ?lq58 ?cq58 ?kq58 ?aq60 ?lq60 ?cq60 ?kq60 ?aq18 ?lq18 ?cq18 ?kq18 ?aq25 ?lq25 ?cq25 ?kq25 ?aq59 ?lq59 ?cq59 ?kq59 ?aq65 ?lq65 ?cq65 ?kq65 ?aq11 ?lq11 ?cq11 ?kq11 ?aq13 ?lq13 ?cq13 ?kq13 ?aq12 ?lq12 ?cq12 ?kq12 ?aq57 ?lq57 ?cq57 ?kq57 ?aq36 ?lq36 ?cq36 ?kq36 ?aq0 ?lq0 ?cq0 ?kq0 ?aq17 ?lq17 ?cq17 ?kq17 ?aq1 ?lq1 ?cq1 ?kq1 ?aq10 ?lq10 ?cq10 ?kq10 ?aq27 ?lq27 ?cq27 ?kq27 ?aq34 ?lq34 ?cq34 ?kq34 ?aq9 ?lq9 ?cq9 ?kq9 ?aq48 ?lq48 ?cq48 ?kq48 ?aq37 ?lq37 ?cq37 ?kq37 ?aq39 ?lq39 ?cq39 ?kq39 ?aq35 ?lq35 ?cq35 ?kq35 ?aq19 ?lq19 ?cq19 ?kq19 ?aq8 ?lq8 ?cq8 ?kq8 ?aq52 ?lq52 ?cq52 ?kq52 ?aq50 ?lq50 ?cq50 ?kq50 ?aq47 ?lq47 ?cq47 ?kq47 ?aq15 ?lq15 ?cq15 ?kq15 ?aq21 ?lq21 ?cq21 ?kq21 ?aq38 ?lq38 ?cq38 ?kq38 ?aq20 ?lq20 ?cq20 ?kq20 ?aq41 ?lq41 ?cq41 ?kq41 ?aq46 ?lq46 ?cq46 ?kq46 ?aq28 ?lq28 ?cq28 ?kq28 ?aq40 ?lq40 ?cq40 ?kq40 ?aq26 ?lq26 ?cq26 ?kq26 ?aq45 ?lq45 ?cq45 ?kq45 ?aq31 ?lq31 ?cq31 ?kq31 ?aq53 ?lq53 ?cq53 ?kq53 ?aq42 ?lq42 ?cq42 ?kq42 ?aq64 ?lq64 ?cq64 ?kq64 ?aq67 ?pgq67 ?hdq67 ?poq67 ?saq67 ?mkq67 ?kcq67 ?x_Load_length ?x_Load_height ?x_Load_weight ?aq68 ?pgq68 ?hdq68 ?poq68 ?saq68 ?mkq68 ?kcq68 ?x_Road_p ?x_Road_q ?x_Road_minutes ?x_Road_high ?x_Road_heavy ?x_Road_a ?x_Road_b ?x_Road_closed ?aq62 ?pgq62 ?hdq62 ?poq62 ?saq62 ?mkq62 ?kcq62 ?x_Network_places ?x_Network_roads ?x_Network_convoys ?aq63 ?pgq63 ?hdq63 ?poq63 ?saq63 ?mkq63 ?kcq63 ?x_Stretch_road_number ?x_Stretch_comes ?x_Stretch_leaves ?aq66 ?pgq66 ?hdq66 ?poq66 ?saq66 ?mkq66 ?kcq66 ?x_Convoy_sets_out ?x_Convoy_stretches ?aq56 ?iq56 ?lq56 ?cq56 ?kq56 ?aq14 ?iq14 ?lq14 ?cq14 ?kq14 ?aq55 ?iq55 ?lq55 ?cq55 ?kq55 ?aq24 ?iq24 ?lq24 ?cq24 ?kq24 ?aq33 ?iq33 ?lq33 ?cq33 ?kq33 ?aq32 ?iq32 ?lq32 ?cq32 ?kq32 ?aq2 ?iq2 ?lq2 ?cq2 ?kq2 ?aq7 ?iq7 ?lq7 ?cq7 ?kq7 ?aq4 ?iq4 ?lq4 ?cq4 ?kq4 ?aq29 ?iq29 ?lq29 ?cq29 ?kq29 ?aq22 ?iq22 ?lq22 ?cq22 ?kq22 ?aq23 ?iq23 ?lq23 ?cq23 ?kq23 ?aq43 ?iq43 ?lq43 ?cq43 ?kq43 ?aq5 ?iq5 ?lq5 ?cq5 ?kq5 ?aq70 ?lq70 ?s_HOW ?aq69 ?lq69 ?s_HAN ?h_ne
    (case v_MOST_PLACES => k_is)
    (case v_MOST_ROADS => k_is)
    (case v_MOST_CONVOYS => k_is)
    (case v_MOST_MINUTES => k_is)
    (case v_MOST_HIGH => k_is)
    (case v_MOST_HEAVY => k_is)
    (case v_MOST_LONG => k_is)
    (case v_MOST_WIDE => k_is)
    (case v_LATEST_START => k_is)
    (case v_MAY_GO => k_is)
    (case v_TOO_HIGH => k_is)
    (case v_TOO_HEAVY => k_is)
    (case v_NOT_ROUND => k_is)
    (case v_IS_CLOSED => k_is)
    (case v_NO_SUCH => k_is)
    (case v_NOT_STARTED => k_is)
    (case v_WOULD_MEET => k_is)
    (case v_NOT_AS_TOLD => k_is)
    (case v_FULL => k_is)
    (case v_NONE_FOUND => k_is)
    (case v_START => k_is)
    (case n_len => k_is)
    (case n_range => k_is)
    (case n_enumerate => k_is)
    (case n_max => k_is)
    (case n_sorted => k_is)
    (case aq61 => k_is)
    (case lq61 => k_is)
    (case cq61 => k_is)
    (case kq61 => k_is)
    (case aq51 => k_is)
    (case lq51 => k_is)
    (case cq51 => k_is)
    (case kq51 => k_is)
    (case aq49 => k_is)
    (case lq49 => k_is)
    (case cq49 => k_is)
    (case kq49 => k_is)
    (case aq16 => k_is)
    (case lq16 => k_is)
    (case cq16 => k_is)
    (case kq16 => k_is)
    (case aq54 => k_is)
    (case lq54 => k_is)
    (case cq54 => k_is)
    (case kq54 => k_is)
    (case aq44 => k_is)
    (case lq44 => k_is)
    (case cq44 => k_is)
    (case kq44 => k_is)
    (case aq30 => k_is)
    (case lq30 => k_is)
    (case cq30 => k_is)
    (case kq30 => k_is)
    (case aq3 => k_is)
    (case lq3 => k_is)
    (case cq3 => k_is)
    (case kq3 => k_is)
    (case aq6 => k_is)
    (case lq6 => k_is)
    (case cq6 => k_is)
    (case kq6 => k_is)
    (case aq58 => k_is)
    (case lq58 => k_is)
    (case cq58 => k_is)
    (case kq58 => k_is)
    (case aq60 => k_is)
    (case lq60 => k_is)
    (case cq60 => k_is)
    (case kq60 => k_is)
    (case aq18 => k_is)
    (case lq18 => k_is)
    (case cq18 => k_is)
    (case kq18 => k_is)
    (case aq25 => k_is)
    (case lq25 => k_is)
    (case cq25 => k_is)
    (case kq25 => k_is)
    (case aq59 => k_is)
    (case lq59 => k_is)
    (case cq59 => k_is)
    (case kq59 => k_is)
    (case aq65 => k_is)
    (case lq65 => k_is)
    (case cq65 => k_is)
    (case kq65 => k_is)
    (case aq11 => k_is)
    (case lq11 => k_is)
    (case cq11 => k_is)
    (case kq11 => k_is)
    (case aq13 => k_is)
    (case lq13 => k_is)
    (case cq13 => k_is)
    (case kq13 => k_is)
    (case aq12 => k_is)
    (case lq12 => k_is)
    (case cq12 => k_is)
    (case kq12 => k_is)
    (case aq57 => k_is)
    (case lq57 => k_is)
    (case cq57 => k_is)
    (case kq57 => k_is)
    (case aq36 => k_is)
    (case lq36 => k_is)
    (case cq36 => k_is)
    (case kq36 => k_is)
    (case aq0 => k_is)
    (case lq0 => k_is)
    (case cq0 => k_is)
    (case kq0 => k_is)
    (case aq17 => k_is)
    (case lq17 => k_is)
    (case cq17 => k_is)
    (case kq17 => k_is)
    (case aq1 => k_is)
    (case lq1 => k_is)
    (case cq1 => k_is)
    (case kq1 => k_is)
    (case aq10 => k_is)
    (case lq10 => k_is)
    (case cq10 => k_is)
    (case kq10 => k_is)
    (case aq27 => k_is)
    (case lq27 => k_is)
    (case cq27 => k_is)
    (case kq27 => k_is)
    (case aq34 => k_is)
    (case lq34 => k_is)
    (case cq34 => k_is)
    (case kq34 => k_is)
    (case aq9 => k_is)
    (case lq9 => k_is)
    (case cq9 => k_is)
    (case kq9 => k_is)
    (case aq48 => k_is)
    (case lq48 => k_is)
    (case cq48 => k_is)
    (case kq48 => k_is)
    (case aq37 => k_is)
    (case lq37 => k_is)
    (case cq37 => k_is)
    (case kq37 => k_is)
    (case aq39 => k_is)
    (case lq39 => k_is)
    (case cq39 => k_is)
    (case kq39 => k_is)
    (case aq35 => k_is)
    (case lq35 => k_is)
    (case cq35 => k_is)
    (case kq35 => k_is)
    (case aq19 => k_is)
    (case lq19 => k_is)
    (case cq19 => k_is)
    (case kq19 => k_is)
    (case aq8 => k_is)
    (case lq8 => k_is)
    (case cq8 => k_is)
    (case kq8 => k_is)
    (case aq52 => k_is)
    (case lq52 => k_is)
    (case cq52 => k_is)
    (case kq52 => k_is)
    (case aq50 => k_is)
    (case lq50 => k_is)
    (case cq50 => k_is)
    (case kq50 => k_is)
    (case aq47 => k_is)
    (case lq47 => k_is)
    (case cq47 => k_is)
    (case kq47 => k_is)
    (case aq15 => k_is)
    (case lq15 => k_is)
    (case cq15 => k_is)
    (case kq15 => k_is)
    (case aq21 => k_is)
    (case lq21 => k_is)
    (case cq21 => k_is)
    (case kq21 => k_is)
    (case aq38 => k_is)
    (case lq38 => k_is)
    (case cq38 => k_is)
    (case kq38 => k_is)
    (case aq20 => k_is)
    (case lq20 => k_is)
    (case cq20 => k_is)
    (case kq20 => k_is)
    (case aq41 => k_is)
    (case lq41 => k_is)
    (case cq41 => k_is)
    (case kq41 => k_is)
    (case aq46 => k_is)
    (case lq46 => k_is)
    (case cq46 => k_is)
    (case kq46 => k_is)
    (case aq28 => k_is)
    (case lq28 => k_is)
    (case cq28 => k_is)
    (case kq28 => k_is)
    (case aq40 => k_is)
    (case lq40 => k_is)
    (case cq40 => k_is)
    (case kq40 => k_is)
    (case aq26 => k_is)
    (case lq26 => k_is)
    (case cq26 => k_is)
    (case kq26 => k_is)
    (case aq45 => k_is)
    (case lq45 => k_is)
    (case cq45 => k_is)
    (case kq45 => k_is)
    (case aq31 => k_is)
    (case lq31 => k_is)
    (case cq31 => k_is)
    (case kq31 => k_is)
    (case aq53 => k_is)
    (case lq53 => k_is)
    (case cq53 => k_is)
    (case kq53 => k_is)
    (case aq42 => k_is)
    (case lq42 => k_is)
    (case cq42 => k_is)
    (case kq42 => k_is)
    (case aq64 => k_is)
    (case lq64 => k_is)
    (case cq64 => k_is)
    (case kq64 => k_is)
    (case aq67 => k_is)
    (case pgq67 => k_is)
    (case hdq67 => k_is)
    (case poq67 => k_is)
    (case saq67 => k_is)
    (case mkq67 => k_is)
    (case kcq67 => k_is)
    (case x_Load_length => k_is)
    (case x_Load_height => k_is)
    (case x_Load_weight => k_is)
    (case aq68 => k_is)
    (case pgq68 => k_is)
    (case hdq68 => k_is)
    (case poq68 => k_is)
    (case saq68 => k_is)
    (case mkq68 => k_is)
    (case kcq68 => k_is)
    (case x_Road_p => k_is)
    (case x_Road_q => k_is)
    (case x_Road_minutes => k_is)
    (case x_Road_high => k_is)
    (case x_Road_heavy => k_is)
    (case x_Road_a => k_is)
    (case x_Road_b => k_is)
    (case x_Road_closed => k_is)
    (case aq62 => k_is)
    (case pgq62 => k_is)
    (case hdq62 => k_is)
    (case poq62 => k_is)
    (case saq62 => k_is)
    (case mkq62 => k_is)
    (case kcq62 => k_is)
    (case x_Network_places => k_is)
    (case x_Network_roads => k_is)
    (case x_Network_convoys => k_is)
    (case aq63 => k_is)
    (case pgq63 => k_is)
    (case hdq63 => k_is)
    (case poq63 => k_is)
    (case saq63 => k_is)
    (case mkq63 => k_is)
    (case kcq63 => k_is)
    (case x_Stretch_road_number => k_is)
    (case x_Stretch_comes => k_is)
    (case x_Stretch_leaves => k_is)
    (case aq66 => k_is)
    (case pgq66 => k_is)
    (case hdq66 => k_is)
    (case poq66 => k_is)
    (case saq66 => k_is)
    (case mkq66 => k_is)
    (case kcq66 => k_is)
    (case x_Convoy_sets_out => k_is)
    (case x_Convoy_stretches => k_is)
    (case aq56 => k_is)
    (case iq56 => k_is)
    (case lq56 => k_is)
    (case cq56 => k_is)
    (case kq56 => k_is)
    (case aq14 => k_is)
    (case iq14 => k_is)
    (case lq14 => k_is)
    (case cq14 => k_is)
    (case kq14 => k_is)
    (case aq55 => k_is)
    (case iq55 => k_is)
    (case lq55 => k_is)
    (case cq55 => k_is)
    (case kq55 => k_is)
    (case aq24 => k_is)
    (case iq24 => k_is)
    (case lq24 => k_is)
    (case cq24 => k_is)
    (case kq24 => k_is)
    (case aq33 => k_is)
    (case iq33 => k_is)
    (case lq33 => k_is)
    (case cq33 => k_is)
    (case kq33 => k_is)
    (case aq32 => k_is)
    (case iq32 => k_is)
    (case lq32 => k_is)
    (case cq32 => k_is)
    (case kq32 => k_is)
    (case aq2 => k_is)
    (case iq2 => k_is)
    (case lq2 => k_is)
    (case cq2 => k_is)
    (case kq2 => k_is)
    (case aq7 => k_is)
    (case iq7 => k_is)
    (case lq7 => k_is)
    (case cq7 => k_is)
    (case kq7 => k_is)
    (case aq4 => k_is)
    (case iq4 => k_is)
    (case lq4 => k_is)
    (case cq4 => k_is)
    (case kq4 => k_is)
    (case aq29 => k_is)
    (case iq29 => k_is)
    (case lq29 => k_is)
    (case cq29 => k_is)
    (case kq29 => k_is)
    (case aq22 => k_is)
    (case iq22 => k_is)
    (case lq22 => k_is)
    (case cq22 => k_is)
    (case kq22 => k_is)
    (case aq23 => k_is)
    (case iq23 => k_is)
    (case lq23 => k_is)
    (case cq23 => k_is)
    (case kq23 => k_is)
    (case aq43 => k_is)
    (case iq43 => k_is)
    (case lq43 => k_is)
    (case cq43 => k_is)
    (case kq43 => k_is)
    (case aq5 => k_is)
    (case iq5 => k_is)
    (case lq5 => k_is)
    (case cq5 => k_is)
    (case kq5 => k_is)
    (case aq70 => k_is)
    (case lq70 => k_is)
    (case s_HOW => exact rfl)
    (case aq69 => k_is)
    (case lq69 => k_is)
    (case s_HAN => exact rfl)
    (case h_ne => decide)
  case ss =>
    intro K H xs a hT hwi hask hx
    cases hx with
    | cons h1 h2 =>
      cases h2
      cases h1 with
      | lst hs ha =>
        have e := L2.ints_dw a.1 _ ha
        subst e
        have q : ((Codec.inLen 0 1600 a.1 && a.1.all (Codec.inInt 0 4294967295)) && true) = true := hwi
        rw [Bool.and_eq_true, Bool.and_eq_true] at q
        exact ⟨_, a.1, rfl, hs, (Codec.inNat_iff.mp q.1.1).2, hask, ⟨_, hT _ (List.mem_cons_self ..), .inl rfl⟩, ⟨_, hT _ (List.mem_cons_of_mem _ (List.mem_cons_self ..)), .inl rfl⟩, fun H' p hp => .lst (L2.SqL.of hp) (L2.dw_ints _)⟩
end
